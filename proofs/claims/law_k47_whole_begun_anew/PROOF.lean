import PyProof.Rows.All
import Wide.All
import OpenK.AllK
import Wide.FinOn
import Lean
import PyProof.EqAt
import PyProof.EqKinds
import PyProof.TupleCall
import PySem.Challenge.RW_stripmeld_k47_whole_begun_anew
set_option Elab.async false
set_option linter.all false
set_option compiler.extract_closed false
set_option genSizeOf false
set_option maxRecDepth 100000
def bu_0(h:True:=by rfl):True:=h
def au_0:Lean.Syntax:=bu_0._auto_1
def bu_1(h:True:=by decide):True:=h
def au_1:Lean.Syntax:=bu_1._auto_1
def bu_2(h:True:=by first | exact .inl rfl | exact .inr rfl | assumption):True:=h
def au_2:Lean.Syntax:=bu_2._auto_1
def bu_3(h:True:=by intro _; rfl):True:=h
def au_3:Lean.Syntax:=bu_3._auto_1
def bu_4(h:True:=by first | exact Or.inl rfl | exact Or.inr (Or.inl rfl) | exact Or.inr (Or.inr rfl)):True:=h
def au_4:Lean.Syntax:=bu_4._auto_1
def bu_5(h:True:=by decide +kernel):True:=h
def au_5:Lean.Syntax:=bu_5._auto_1
def bu_6(h:True:=by first | exact Or.inl rfl | exact Or.inr rfl):True:=h
def au_6:Lean.Syntax:=bu_6._auto_1
def bu_7(h:True:=by intro _ _; rfl):True:=h
def au_7:Lean.Syntax:=bu_7._auto_1
def bu_8(h:True:=by size_fits):True:=h
def au_8:Lean.Syntax:=bu_8._auto_1
def bu_9(h:True:=by kernel_rfl):True:=h
def au_9:Lean.Syntax:=bu_9._auto_1
def bu_10(h:True:=by intro _; first | exact Or.inl rfl | exact Or.inr (Or.inl rfl) | exact Or.inr (Or.inr rfl)):True:=h
def au_10:Lean.Syntax:=bu_10._auto_1
def bu_11(h:True:=by intro _; exact ⟨rfl, rfl, rfl⟩):True:=h
def au_11:Lean.Syntax:=bu_11._auto_1
def bu_12(h:True:=by with_unfolding_all rfl):True:=h
def au_12:Lean.Syntax:=bu_12._auto_1
def bu_13(h:True:=by intro _; first | exact Or.inl rfl | exact Or.inr rfl):True:=h
def au_13:Lean.Syntax:=bu_13._auto_1
def bu_14(h:True:=by intro _; first | exact .inl rfl | exact .inr rfl | assumption):True:=h
def au_14:Lean.Syntax:=bu_14._auto_1
def bu_15(h:True:=by intro _; kernel_rfl):True:=h
def au_15:Lean.Syntax:=bu_15._auto_1
def bu_16(h:True:=by lia):True:=h
def au_16:Lean.Syntax:=bu_16._auto_1
noncomputable section
def WJ:=@List.getElem?_eq_getElem
def WK:=@PySem.wpAny_bind
def WL:=@List.length_map
def WM:=@decide_eq_true
def WN:=@PySem.wpAny_pure
def WO:=@PySem.Heap.get?_push_of_some
def WQ:=@List.mem_singleton
def WR:=@of_decide_eq_true
def WS:=@if_neg
def WT:=@if_pos
def WU:=@Nat.le_refl
def WV:=@List.getD_eq_getElem?_getD
def WW:=@List.length_append
def WX:=@List.getElem?_map
def WY:=@PySem.Heap.lt_size
def WZ:=@Nat.le_trans
def Qa:=@List.mem_cons
def Qb:=@Option.some.inj
def Qc:=@PySem.Heap.get?_push_size
def Qd:=@List.map_append
def Qe:=@List.length_cons
def Qf:=@List.map_cons
def Qg:=@List.getElem?_eq_some_iff
def Qh:=@List.mem_append
def Qi:=@List.getElem_mem
def Qj:=@List.mem_of_getElem?
def Qk:=@List.mem_cons_of_mem
def Ql:=@Bool.false_ne_true
def Qm:=@List.take_succ_eq_append_getElem
def Qn:=@PySem.PassesOwn.never
def Qo:=@Nat.ne_of_lt
def Qp:=@List.length_take
def Qq:=@List.mem_map
def Qr:=@List.mem_append_right
def Qs:=@Nat.lt_of_lt_of_le
def Qt:=@Nat.add_le_add
def Qu:=@decide_eq_false
def Qv:=@List.size_toArray
def Qw:=@List.getElem?_append_left
def Qx:=@PySem.W.mg_none_of
def Qy:=@List.getElem?_append_right
def Qz:=@List.mem_filter
def Q0:=@PySem.F.plainAttrs_list
def Q1:=@Classical.byContradiction
def Q2:=@List.mem_cons_self
def Q3:=@PySem.wpAny_mono
def Q4:=@List.mem_iff_getElem
def Q5:=@Int.toNat_natCast
def Q6:=@List.getElem?_cons_succ
def Q7:=@List.map_map
def Q8:=@List.append_nil
def Q9:=@Bool.and_eq_true
def QA:=@congrArg
def QB:=@PySem.Heap.get?_update_self
def QC:=@List.nodup_cons
def QD:=@PySem.wpAny_loadPart_at
def QE:=@List.length_filter_le
def QF:=@PySem.wpAny_newObj_type
def QG:=@List.dropLast_concat
def QH:=@PySem.Heap.get?_update_other
def QI:=@PySem.W.mg_of
def QJ:=@PyProof.Rows.boot_isinstance
def QK:=@Array.length_toList
def QL:=@PySem.W.kia_one
def QM:=@List.length_set
def QN:=@PySem.Obj.data_mapFields
def QO:=@List.take_length
def QP:=@Int.le_refl
def QR:=@List.pairwise_iff_getElem
def QS:=@List.drop_eq_getElem_cons
def QT:=@PySem.Heap.SameBut.update
def QU:=@List.mem_append_left
def QV:=@PySem.W.looks_findIn
def QW:=@Nat.lt_irrefl
def QX:=@PySem.wpAny_holding
def QY:=@Nat.zero_le
def QZ:=@List.filterMap_cons
def Va:=@Array.getElem?_eq_getElem
def Vb:=@Array.getElem?_toList
def Vc:=@List.length_singleton
def Vd:=@List.eq_nil_or_concat
def Ve:=@List.lookup_cons
def Vf:=@PySem.wpAny_setField
def Vg:=@PySem.Obj.isFreed_of_fields
def Vh:=@List.getElem?_eq_none
def Vi:=@Nat.le_of_eq
def Vj:=@List.getElem?_take_of_lt
def Vk:=@List.mem_of_mem_take
def Vl:=@PySem.F.slot_dict_valueiterator_next
def Vm:=@List.nodup_append
def Vn:=@List.getElem_take
def Vo:=@PySem.wpAny_typeNameOfWhole_valiter
def Vp:=@beq_eq_false_iff_ne
def Vq:=@PySem.mem_of_lookup
def Vr:=@List.map_congr_left
def Vs:=@PySem.Heap.size_push
def Vt:=@List.cons_append
def Vu:=@List.not_mem_nil
def Vv:=@PySem.wpAny_call_entry
def Vw:=@List.dropLast_concat_getLast
def Vx:=@PySem.codeAny_mono
def Vy:=@List.pairwise_cons
def Vz:=@Nat.add_sub_cancel
def V0:=@PySem.wpAny_passesOwn
def V1:=@PySem.codeAny_builtin
def V2:=@List.concat_eq_append
def V3:=@PySem.F.slot_list_pop
def V4:=@PySem.F.type_list_pop
def V5:=@PySem.F.excBase_ValueError
def V6:=@PySem.wpAny_truthy_bool
def V7:=@PySem.wpAny_setState_of
def V8:=@decide_eq_true_eq
def V9:=@PySem.Heap.get?_none_of_le
def VA:=@PySem.codeAny_call_builtin
def VB:=@Nat.lt_succ_self
def VC:=@Nat.lt_trans
def VD:=@List.all_eq_true
def VE:=@PySem.wpAny_typeNameOf_valiter
def VF:=@PySem.F.slot_list_append
def VG:=@PySem.F.type_list_append
def VH:=@PySem.wpAny_isSubtype_exc
def VI:=@List.length_pos_iff
def VJ:=@List.getElem?_replicate
def VL:=@List.find?_cons
def VM:=@List.contains_cons
def VN:=@Nat.le_succ
def VO:=@List.filterMap_eq_map'
def VP:=@Classical.not_not
def VQ:=@PySem.W.methodCall_KW
def VR:=@List.nodup_nil
def VS:=@List.filterMap_append
def VT:=@PyProof.Rows.callWith_type1
def VU:=@List.pairwise_append
def VW:=@PySem.Around.under_plainId
def VX:=@PySem.wpAny_standAt
def VY:=@List.any_cons
def VZ:=@Array.getElem?_eq_some_iff
def Ja:=@Nat.le_of_lt
def Jb:=@PySem.wpAny_Call_Name_kw
def Jc:=@PySem.F.args_tuple_add_2
def Jd:=@PyProof.Rows.F.entry_set_update_loop
def Je:=@PyProof.Rows.F.plain_set_update_loop
def Jf:=@PySem.Code.quiet_builtin
def Jg:=@Bool.false_eq_true
def Jh:=@Int.ne_of_lt
def Ji:=@List.map_singleton
def Jj:=@Int.add_zero
def Jk:=@Int.emod_lt_of_pos
def Jl:=@List.take_zero
def Jm:=@PySem.F.entry_tuple_add
def Jn:=@PySem.wpAny_callSpecial?_slot
def Jo:=@List.length_eq_zero_iff
def Jp:=@PySem.F.slot_list_index
def Jq:=@List.take_sublist
def Jr:=@PySem.fits_of_scanBound
def Js:=@Nat.lt_succ_of_lt
def Jt:=@PySem.Obj.cls_mapFields
def Ju:=@List.append_assoc
def Jv:=@Bool.eq_false_iff
def Jw:=@PySem.sizeLine_eq
def Jx:=@PySem.F.slot_tuple_add
def Jy:=@Array.getElem?_eq_none
def Jz:=@List.all_cons
def J0:=@PySem.W.any_some
def J1:=@if_false
def J2:=@PySem.F.typeOf_object_class
def J4:=@List.take_append_drop
def J6:=@PySem.wpAny_isOneOf_valiter
def J7:=@List.getElem?_reverse
def J8:=@List.getElem?_set_ne
def J9:=@PySem.wpAny_execs_nil
def JA:=@Bool.eq_iff_iff
def JB:=@PySem.wpAny_call
def JC:=@PySem.Calls.evalArgs_plain
def JD:=@Option.map_some
def JE:=@Nat.not_lt
def JF:=@List.mem_of_mem_drop
def JG:=@List.cons.injEq
def JH:=@List.getLast?_concat
def JI:=@Nat.pow_le_pow_right
def JJ:=@Int.emod_nonneg
def JK:=@PySem.W.plainGet_of
def JL:=@PySem.W.looks_clsIn
def JM:=@List.length_reverse
def JN:=@List.mem_map_of_mem
def JO:=@List.mem_range
def JP:=@Int.mul_le_mul
def JQ:=@PySem.wpAny_field
def JR:=@List.mem_filterMap
def JS:=@PySem.W.Looks.here
def JT:=@PySem.W.callWith_K
def JU:=@Nat.lt_of_le_of_lt
def JV:=@PySem.W.isNs_of_in
def JW:=@Bool.true_and
def JX:=@List.ext_getElem?
def JY:=@List.length_range
def JZ:=@List.getElem_inj
def Ua:=@Nat.ne_of_gt
abbrev Yf:=List (Int×Int)
abbrev Yg:=List Int
abbrev Yh:=List (PySem.Addr×PySem.Obj)
abbrev Yi:=PySem.Str->Option PySem.Value
abbrev Yj:=PySem.Value->PySem.Shared->Prop
abbrev Yk:=List (Option Nat)
abbrev Yl:=List Nat
abbrev Ym:=List PySem.Value
abbrev Yn:=List PySem.Str
abbrev Yo:=List PySem.Expr
abbrev Yp:=List PySem.Stmt
abbrev Yq:=Option PySem.Value
abbrev Yr:=Option PySem.Addr
abbrev Ys:=Array (Int×PySem.Value)
abbrev Ye:=PySem.W.Frag
namespace L2
open PySem PySem.Spec PyProof.Rows
abbrev Key:=Sum Int Str
noncomputable def SX:Key->Value->Bool
 | .inl k,v=>Value.isInt k v
 | .inr x,v=>Value.isStrOf x v
noncomputable def Zja(w:World):Key->Int
 | .inl k=>hashInt k
 | .inr x=>hashStr w x
def TQ:∀{k}{v:Value},SX k v=true->(∃i t,k=Sum.inl i/\v=Value.int i t)\/(∃x t,k=Sum.inr x/\v=Value.str x t)
 | .inl i,v,h=>by
  obtain⟨t,e⟩:=Value.isInt_shape h
  grind
 | .inr x,v,h=>by
  obtain⟨t,e⟩:=Value.isStrOf_shape h
  grind
def Zll(i:Int)(t:Tok):SX (.inl i) (.int i t)=true:=by simp[SX,Value.isInt]
def Zf9(x:Str)(t:Tok):SX (.inr x) (.str x t)=true:=by simp[SX,Value.isStrOf]
def Zfo(a b:Int):decide ((Sum.inl a:Key)=Sum.inl b)=(a==b):=by grind
def Znd(a b:Str):decide ((Sum.inr a:Key)=Sum.inr b)=decide (a=b):=by simp
def Zov(a:Int)(b:Str):decide ((Sum.inl a:Key)=Sum.inr b)=false:=Qu (λq=>nomatch q)
def Zek(a:Str)(b:Int):decide ((Sum.inr a:Key)=Sum.inl b)=false:=Qu (λq=>nomatch q)
noncomputable def PQ(prog:Program)(w:World):PySem.KeyKind prog w Key where
 is:=SX
 hash:=Zja w
 inj:=λv a b ha hb=>by
  rcases TQ ha with⟨i,t,rfl,rfl⟩|⟨x,t,rfl,rfl⟩
  ·rcases TQ hb with⟨j,u,rfl,e⟩|⟨y,u,rfl,e⟩
   ·injection e with e1 _;rw[e1]
   ·exact nomatch e
  ·rcases TQ hb with⟨j,u,rfl,e⟩|⟨y,u,rfl,e⟩
   ·exact nomatch e
   ·injection e with e1 _;rw[e1]
 byValue:=λk v h=>by
  rcases TQ h with⟨i,t,rfl,rfl⟩|⟨x,t,rfl,rfl⟩<;>rfl
 pyHash:=λhv h=>by
  rcases TQ hv with⟨i,t,rfl,rfl⟩|⟨x,t,rfl,rfl⟩
  ·exact wpAny_pyHash_int h
  ·exact wpAny_pyHash_str h
 eqBool:=λhu hv h=>by
  rcases TQ hu with⟨i,t,rfl,rfl⟩|⟨x,t,rfl,rfl⟩
  ·rcases TQ hv with⟨j,u,rfl,rfl⟩|⟨y,u,rfl,rfl⟩
   ·rw[Zfo]at h;exact wpAny_eqBool_int h
   ·rw[Zov]at h;exact SeqAt.EqAt.int_str i t y u _ _ _ _ h
  ·rcases TQ hv with⟨j,u,rfl,rfl⟩|⟨y,u,rfl,rfl⟩
   ·rw[Zek]at h;exact SeqAt.EqAt.str_int x t j u _ _ _ _ h
   ·rw[Znd]at h;exact wpAny_eqBool_str h
 «strs»:=λk x t v h=>by
  rcases TQ h with⟨i,u,rfl,e⟩|⟨y,u,rfl,e⟩
  ·exact nomatch e
  ·injection e with e1 _;subst e1;cases v<;>rfl
def Zdy(prog:Program)(w:World)(i:Int)(t:Tok):(PQ prog w).is (.inl i) (.int i t)=true:=Zll i t
def Zgs(prog:Program)(w:World)(x:Str)(t:Tok):(PQ prog w).is (.inr x) (.str x t)=true:=Zf9 x t
inductive V where
 |non|bl (b:Bool)|int (i:Int)|str (x:Str)|byt (b:Array UInt8)|flt (b:UInt64)|ref (a:Addr)|ty (n:String)
 deriving DecidableEq
def RelV:V->Value->Prop
 | .non,u=>u=Value.none
 | .bl b,u=>u=Value.bool b
 | .int i,u=>∃t,u=Value.int i t
 | .str x,u=>∃t,u=Value.str x t
 | .byt b,u=>∃t,u=Value.bytes b t
 | .flt b,u=>∃t,u=Value.float b t
 | .ref a,u=>u=Value.ref a
 | .ty n,u=>u=Value.type n
abbrev Vals:List V->Ym->Prop:=Paired RelV
def Vals.length (r:Vals xs us):xs.length=us.length:=Paired.length r
def Vals.get:∀{xs us}{i:Nat}{x:V},Vals xs us->xs[i]?=some x->∃u,us[i]?=some u/\RelV x u:=by
 intro n
 induction n with
 |nil=>
  intro _ i _ h e;simp at e
 |cons _ _ f=>
  intro _ i d h e;cases h with
  |cons h r=>
   cases i with
   |zero=>
    simp at e;subst e;exact⟨_,rfl,h⟩
   |succ i=>
    obtain⟨v,l,g⟩:=f r (by simpa using e);exact⟨v,by simpa using l,g⟩
theorem Vals.set (r:RelV x u):∀{xs us} i,Vals xs us->Vals (xs.set i x) (us.set i u)
 |_,_,_,.nil=>.nil
 |_,_,0,.cons _ t=>.cons r t
 |_,_,i+1,.cons q t=>.cons q (Vals.set r i t)
def Vals.append:∀{xs f}{us g:Ym},Vals xs us->Vals f g->Vals (xs++f) (us++g):=by
 intro n
 induction n with
 |nil=>
  intro _ _ _ h s;cases h
  exact s
 |cons _ _ l=>
  intro _ _ _ h s;cases h with
  |cons h r=>
   exact .cons h (l r s)
theorem Vals.take:∀{xs us} n,Vals xs us->Vals (xs.take n) (us.take n)
 |_,_,0,_|_,_,_+1,.nil=>.nil
 |_,_,n+1,.cons r t=>.cons r (Vals.take n t)
theorem Vals.drop:∀{xs us} n,Vals xs us->Vals (xs.drop n) (us.drop n)
 |_,_,0,r=>r
 |_,_,_+1,.nil=>.nil
 |_,_,n+1,.cons _ t=>Vals.drop n t
def RelO:Option V->Yq->Prop
 |some v,some u=>RelV v u
 |none,none=>True
 |_,_=>False
def KV{f:Type}:List (f×V)->List (f×Value)->Prop:=Paired λ(p:f×V) (q:f×Value)=>p.1=q.1/\RelV p.2 q.2
noncomputable def kV:Key->V
 | .inl i=>.int i
 | .inr x=>.str x
inductive HO where
 |lst (xs:List V)
 |tup (xs:List V)
 |dK (kvs:List (Key×V))|dT (kvs:List (List Key×V))
 |set (S:Int->Bool) (n:Nat)
 |ins (C dx:Addr) (fs:List (Str×V))
 |own (x:Addr)
 |xd (fs:List (Str×V))
 |met (f x:Addr)
 |rng (lo hi:Int)
 |frz (o:Obj) (u:HO)
 |tbl (ps:Array Value)
 |ext (φ:Heap->Prop)
abbrev Hp:=Addr->Option HO
noncomputable def upd(H:Hp)(a:Addr)(o:HO):Hp:=λb=>if b=a then some o else H b
def XG:upd H a o a=some o:=by unfold upd;rw[WT rfl]
def X1{a b o}(h:b≠a):upd H a o b=H b:=by unfold upd;rw[WS h]
def Iv:upd (upd H a o) a u=upd H a u:=by
 funext b;unfold upd;split<;>rfl
def Ej{H:Hp}{a b}{o u}(h:H a=some o)(f:H b=some u)(d:o≠u):a≠b:=by grind
def K7{H:Hp}{a b}{o}(h:H a=some o)(f:H b=none):a≠b:=by grind
section
variable (P:Program) (w:World)
def ObjOk(H:Hp)(h:Heap)(a:Addr):HO->Prop
 | .lst xs=>xs.length<=sizeLine/\∃(l:Ym) (n:Nat),Vals xs l/\h.get? a=some {cls:=.type "list",data:=.seq l.toArray n}
 | .tup xs=>xs.length<=sizeLine/\∃l:Ym,Vals xs l/\IsTup h a l.toArray
 | .dK g=>g.length<=sizeLine/\(a==sysModules)=false/\∃z,KV g z/\h.DictOf (PQ P w) a z
 | .dT g=>g.length<=sizeLine/\(a==sysModules)=false/\∃xs:List (List Key×Addr×Value),
   Paired (λ(p:List Key×V) (q:List Key×Addr×Value)=>p.1=q.1/\H q.2.1=some (.tup<|p.1.map kV)/\RelV p.2 q.2.2) g xs/\
   ∃o E L,h.get? a=some o/\o.ExactDict/\o.data=.dict E L/\E.toList=xs.map (entryOfKey<|tupleKind<|PQ P w)/\(xs.map (·.1)).Nodup
 | .set S n=>h.SetOf (intKind P w) a S n
 | .ins C s fs=>H s=some (.own a)/\fs.length<=1000/\s≠a/\h.get? a=some (PySem.W.instObj C s)/\
   ∃r,h.Ns1 s r/\(∀f,RelO (fs.lookup f) (r f))/\PySem.Within r (fs.map (·.1))
 | .own _=>∃o,h.get? a=some o
 | .xd fs=>∃r,h.Ns1 a r/\∀f,RelO (fs.lookup f) (r f)
 | .rng lo J=>∃t u v,h.get? a=some {cls:=.type "range",data:=.fields #[.int lo t,.int J u,.int 1 v]}
 | .frz o u=>h.get? a=some o/\ObjOk H h a u
 | .tbl G=>h.get? a=some {cls:=.none,data:=.fields G}
 | .met f x=>h.get? a=some (PySem.W.methodObj (.ref f)<|.ref x)
 | .ext y=>y h/\(∃o,h.get? a=some o)/\∀B A:Heap,y B->(∀o,B.get? a=some o->A.get? a=some o)->y A
def HOk(H:Hp)(h:Heap):Prop:=∀a o,H a=some o->ObjOk P w H h a o
end
section
variable {P:Program}{w:World}{H H':Hp}{h h':Heap}{a:Addr}{o:HO}
def ObjOk.lt (x:ObjOk P w H h a o):a<h.objs.size:=by
 cases o with
 |lst xs=>obtain⟨_,_,_,_,e⟩:=x;exact WY e
 |tup xs=>obtain⟨_,_,_,p⟩:=x;exact p.lt
 |set S n=>obtain⟨o,_,_,_,e,_⟩:=x;exact WY e
 |ins C v fs=>obtain⟨_,_,_,e,_⟩:=x;exact WY e
 |own y=>obtain⟨_,e⟩:=x;exact WY e
 |xd fs=>obtain⟨_,⟨_,_,_,e,_⟩,_⟩:=x;exact WY e
 |rng lo s=>obtain⟨_,_,_,e⟩:=x;exact WY e
 |frz r u=>obtain⟨e,_⟩:=x;exact WY e
 |tbl l|met f y=>exact WY x
 |ext g=>obtain⟨_,⟨_,e⟩,_⟩:=x;exact WY e
 |_=>obtain⟨_,_,_,_,o,_,_,e,_⟩:=x;exact WY e
def Paired.mapP:∀{l:List u}{g:List s},Paired F l g->(∀a b,F a b->G a b)->Paired G l g:=by
 intro p
 induction p with
 |nil=>
  intro _ h _;cases h
  exact .nil
 |cons _ _ n=>
  intro _ h f;cases h with
  |cons h r=>
   exact .cons (f _ _ h) (n r f)
def ObjOk.stay (x:ObjOk P w H h a o) (k:∀b u,(b=a\/H b=some (.own a))->h.get? b=some u->h'.get? b=some u)
  (Q:∀b,H b=some (.own a)->H' b=some (.own a)) (N:∀b xs,H b=some (.tup xs)->H' b=some (.tup xs)):ObjOk P w H' h' a o:=by
 induction o with
 |lst xs=>obtain⟨z,A,n,r,e⟩:=x;exact⟨z,A,n,r,k _ _ (.inl rfl) e⟩
 |tup xs=>obtain⟨z,A,r,g,e,c⟩:=x;exact⟨z,A,r,g,k _ _ (.inl rfl) e,c⟩
 |dK G=>obtain⟨z,y,J,r,g,l,s,e,c⟩:=x;exact⟨z,y,J,r,g,l,s,k _ _ (.inl rfl) e,c⟩
 |dT G=>
  obtain⟨z,y,xs,r,g,l,s,e,c⟩:=x;exact⟨z,y,xs,Paired.mapP r λp q z=>⟨z.1,N _ _ z.2.1,z.2.2⟩,g,l,s,k _ _ (.inl rfl) e,c⟩
 |set S n=>obtain⟨g,l,s,t,e,c⟩:=x;exact⟨g,l,s,t,k _ _ (.inl rfl) e,c⟩
 |ins C dx fs=>
  obtain⟨d,z,L,e,E,⟨B,l,s,T,c⟩,r⟩:=x;exact⟨Q _ d,z,L,k _ _ (.inl rfl) e,E,⟨B,l,s,k _ _ (.inr d) T,c⟩,r⟩
 |own y=>obtain⟨g,e⟩:=x;exact⟨g,k _ _ (.inl rfl) e⟩
 |xd fs=>obtain⟨E,⟨B,l,s,e,c⟩,r⟩:=x;exact⟨E,⟨B,l,s,k _ _ (.inl rfl) e,c⟩,r⟩
 |rng lo hi=>obtain⟨t,u,v,e⟩:=x;exact⟨t,u,v,k _ _ (.inl rfl) e⟩
 |frz g u M=>obtain⟨e,q⟩:=x;exact⟨k _ _ (.inl rfl) e,M q⟩
 |tbl Y=>
  have e:=x;exact k a _ (.inl rfl) e
 |met f y=>
  have e:=x;exact k a _ (.inl rfl) e
 |ext U=>obtain⟨p,⟨o,e⟩,st⟩:=x;exact⟨st _ _ p λo q=>k _ _ (.inl rfl) q,⟨o,k _ _ (.inl rfl) e⟩,st⟩
def HOk.lt (x:HOk P w H h) (e:H a=some o):a<h.objs.size:=(x a o e).lt
def HOk.fresh (x:HOk P w H h) (e:h.objs.size<=a):H a=none:=by
 cases q:H a with
 |none=>rfl
 |some u=>exact absurd (Qs (x.lt q) e) (QW _)
def HOk.kept (x:HOk P w H h) (k:∀b u,h.get? b=some u->h'.get? b=some u):HOk P w H h':=λa o e=>
 (x a o e).stay (λb u _ q=>k b u q) (λ_ q=>q) λ_ _ q=>q
def HOk.laid (x:HOk P w H h) (k:∀b u,h.get? b=some u->h'.get? b=some u) (l:h.objs.size<=a) (new:ObjOk P w (upd H a o) h' a o):HOk P w (upd H a o) h':=λb u e=>by
 have f:=x.fresh l;by_cases g:b=a
 ·subst g;rw[XG]at e;cases e;exact new
 ·rw[X1 g]at e;exact(x b u e).stay (λc v _ q=>k c v q) (λc q=>by rw[X1 (K7 q f)];exact q) λc xs q=>by rw[X1 (K7 q f)];exact q
end
def Rd(H:Hp)(a:Addr)(u:HO):Prop:=H a=some u\/∃o,H a=some (.frz o u)
def Rd.ok {H h a u} (r:Rd H a u) (x:HOk P w H h):ObjOk P w H h a u:=by
 rcases r with r|⟨o,r⟩
 ·exact x a u r
 ·obtain⟨_,q⟩:=x a _ r;lia
def Mut:Option HO->Prop
 |some (.lst _)=>True
 |some (.dK _)=>True
 |some (.dT _)=>True
 |some (.set _ _)=>True
 |some (.ins _ _ _)=>True
 |some (.ext _)=>True
 |_=>False
section
variable {P:Program}{w:World}{H:Hp}{h h':Heap}{x e:Addr}{o':HO}
def HOk.write (ok:HOk P w H h) (g:Mut (H x)) (A:e=x\/H e=some (.own x)) (k:∀b u,b≠e->h.get? b=some u->h'.get? b=some u) (l:∃u,h'.get? e=some u)
  (new:ObjOk P w (upd H x o') h' x o'):HOk P w (upd H x o') h':=λb u q=>by
 have nown:∀c y,H c=some (.own y)->c≠x:=λc y r z=>by subst z;rw[r]at g;exact g
 have ntup:∀c xs,H c=some (.tup xs)->c≠x:=λc xs r z=>by subst z;rw[r]at g;exact g
 by_cases p:b=x
 ·subst p;rw[XG]at q;cases q;exact new
 ·rw[X1 p]at q;by_cases f:b=e
  ·have n:H b=some (.own x):=by
    rcases A with z|z
    ·grind
    ·rw[f];exact z
   rw[q]at n;cases n;obtain⟨v,s⟩:=l;exact⟨v,by rw[f];exact s⟩
  ·refine(ok b u q).stay (λc v o r=>k c v ?_ r) (λc r=>by rw[X1 (nown c b r)];exact r) λc xs r=>by rw[X1 (ntup c xs r)];exact r
   rcases o with rfl|o
   ·exact f
   ·grind
end
structure Un (fs ex:List Addr) (H H':Hp) (h h':Heap):Prop where
 keep:∀b o,h.get? b=some o->H b=none->b∉fs->b∉ex->h'.get? b=some o
 slot:∀b o,h.get? b=some o->H b=none->b∈fs->b∉ex->∃sl,h'.get? b=some {o with slots:=sl}
 free:∀b o,h.get? b=some o->H b=none->b∉ex->H' b=none
 there:∀b o,h.get? b=some o->b∉ex->∃o',h'.get? b=some o'
 tups:∀b xs,H b=some (.tup xs)->H' b=some (.tup xs)
 frzs:∀b o u,H b=some (.frz o u)->H' b=some (.frz o u)
 tbls:∀b ps,H b=some (.tbl ps)->∃more,H' b=some (.tbl (ps++more))
section
variable {fs fs' ex ex':List Addr}{H H1 H2:Hp}{h h1 h2 h':Heap}{a x e:Addr}{o:HO}
def Un.any (u:Un fs ex H H1 h h1) {b ob} (q:h.get? b=some ob) (n:H b=none) (hx:b∉ex):∃sl,h1.get? b=some {ob with slots:=sl}:=by
 by_cases f:b∈fs
 ·exact u.slot b ob q n f hx
 ·exact⟨ob.slots,u.keep b ob q n f hx⟩
def Un.kept (k:∀b u,h.get? b=some u->h'.get? b=some u):Un fs ex H H h h':=
 ⟨λb f q _ _ _=>k b f q,λb f q _ _ _=>⟨f.slots,k b f q⟩,λ_ _ _ n _=>n,λb f q _=>⟨f,k b f q⟩,λ_ _ q=>q,λ_ _ _ q=>q,λ_ g q=>⟨#[],by rw[q];simp⟩⟩
def Un.refl:Un fs ex H H h h:=Un.kept λ_ _ q=>q
def Un.laid (k:∀b u,h.get? b=some u->h'.get? b=some u) (hp:h.objs.size<=a) (hn:H a=none):Un fs ex H (upd H a o) h h' where
 keep:=λb u q _ _ _=>k b u q
 slot:=λb u q _ _ _=>⟨u.slots,k b u q⟩
 free:=λb u q n _=>by rw[X1 (Qo<|Qs (WY q) hp)];exact n
 there:=λb u q _=>⟨u,k b u q⟩
 tups:=λb xs q=>by rw[X1 (K7 q hn)];exact q
 frzs:=λb u xs q=>by rw[X1 (K7 q hn)];exact q
 tbls:=λb ps q=>⟨#[],by rw[X1 (K7 q hn),q];simp⟩
def Un.write (f:Mut (H x)) (v:e=x\/H e=some (.own x)) (k:∀b u,b≠e->h.get? b=some u->h'.get? b=some u) (s:∃u,h'.get? e=some u):Un fs ex H (upd H x o) h h':=by
 have hx:∀b,H b=none->b≠x:=λb n z=>by subst z;rw[n]at f;exact f
 have l:∀b,H b=none->b≠e:=λb n z=>by
  rcases v with r|r
  ·grind
  ·grind
 have g:∀b u,H b=some u->¬Mut (some u)->b≠x:=λb u q p z=>by subst z;rw[q]at f;exact p f
 refine⟨λb u q n _ _=>k b u (l b n) q,λb u q n _ _=>⟨u.slots,k b u (l b n) q⟩,λb u q n _=>by rw[X1 (hx b n)];exact n,λb u q _=>?_,
  λb xs q=>by rw[X1 (g b _ q λz=>z)];exact q,λb u xs q=>by rw[X1 (g b _ q λz=>z)];exact q,λb y q=>⟨#[],by rw[X1 (g b _ q λz=>z),q];simp⟩⟩
 by_cases w:b=e
 ·grind
 ·grind
end
noncomputable def trk(h:Heap)(H:Hp):List Addr:=(List.range h.objs.size).filter λa=>(H a).isSome
noncomputable def N1(h:Heap)(H:Hp):Heap:=PySem.W.hideAll h (trk h H)
def Zlp(h:Heap)(H:Hp):(N1 h H).objs.size=h.objs.size:=PySem.W.hideAll_size _ _
def Zn6{H b o}(e:h.get? b=some o)(n:H b=none):(N1 h H).get? b=some o:=
 PySem.W.hideAll_get _ e λf=>by
  have q:=(Qz.mp f).2
  grind
def Zbd(e:(N1 h H).get? b=some o):h.get? b=some o/\H b=none:=by
 have f:=PySem.W.of_hideAll (trk h H) e;refine⟨f,?_⟩;cases q:H b with
 |none=>rfl
 |some x=>
  have g:b∈trk h H:=Qz.mpr ⟨JO.mpr (WY f),by simp[q]⟩;have z:(N1 h H).get? b=none:=PySem.W.hideAll_none (trk h H) g
  grind
noncomputable def Zoh(g h:Heap)(L:Addr):Yh:=(List.range h.objs.size).filterMap λa=>if a=L\/(g.get? a).isSome=true then none else(h.get? a).map λo=>(a,o)
noncomputable def rest(g h:Heap)(L d:Addr):Yh:=(Zoh g h L).filter λp=>decide (p.1≠d)
structure Mod (K:Ye) (mg:Yi) (base:Heap):Prop where
 kin:K.In base
 glob:base.Ns mainGlobals mg
 blt:∃mb,base.Ns builtinsNs mb/\∀x:Str,x≠"__name__"->mb x=bootBuiltins x
 nolimit:base.NoLimit
structure Cx where
 prog:Program
 w:World
 K:Ye
 mg:Yi
 base:Heap
 A:Around
 N:Yn
 s₀:Shared
 H₀:Hp
 env:Env
 outer:List Env
 stack:List Env
 ex:List Addr
 fn:Str->Bool
 calm:Bool
 pn:Yh
 xe:Yj
noncomputable def frs(l:List Env):List Addr:=l.filterMap (·.frame)
noncomputable abbrev Cx.fs (X:Cx):List Addr:=frs X.outer
def Vis(f:Scope)(x:Str):Prop:=f.names.lookup x=some .local\/f.names.lookup x=some .cell\/f.names.lookup x=some .free
def Loc(f:Scope)(x:Str):Prop:=f.names.lookup x=some .local\/f.names.lookup x=some .cell
def Look(env:Env)(h:Heap)(m:Yi)(x:Str)(u:Value):Prop:=
 (env.kindOf x=some .local/\m x=some u)\/((env.kindOf x=some .cell\/env.kindOf x=some .free)/\∃c,env.cells.lookup x=some c/\h.IsCell c (some u))
structure Cx.Ok (X:Cx):Prop where
 mod:Mod X.K X.mg X.base
 kind:X.env.scope.kind=.function
 glob:X.env.globals=mainGlobals
 blt:X.env.builtins=builtinsNs
 above:X.s₀.heap.objs.size<=X.env.locals
 inj:∀x y c,X.env.cells.lookup x=some c->X.env.cells.lookup y=some c->x=y
 has:∀x,(X.env.kindOf x=some .cell\/X.env.kindOf x=some .free)->∃c,X.env.cells.lookup x=some c
 cab:∀x c,X.fn x=true->X.env.cells.lookup x=some c->X.s₀.heap.objs.size<=c
 hd:X.calm=true->X.A.handled=none
 frames:X.A.frames=some X.stack
 stk:X.stack=X.outer\/(X.stack=X.env::X.outer/\X.env.frame=some X.env.locals)
 exf:∀b∈X.ex,b≠X.env.locals/\∀x c,X.env.cells.lookup x=some c->c≠b
 bs:∀b o,X.base.get? b=some o->X.s₀.heap.get? b=some o/\X.H₀ b=none
 bsz:X.base.objs.size<=X.s₀.heap.objs.size
 noex:∀b o,X.base.get? b=some o->b∉X.ex
 exfs:∀b∈X.ex,b∉X.fs
 funs:X.s₀.heap.FunFrames X.base X.outer
 frf:∀b∈X.fs,X.H₀ b=none
structure Inv (X:Cx) (pins:Yh) (σ:List (Option V)) (H:Hp) (s:Shared):Prop where
 ok:X.Ok
 os:s.os=X.s₀.os
 bare:AllBare s.gens
 base:Un X.fs X.ex X.H₀ H X.s₀.heap s.heap
 loc:∃m,s.heap.Ns X.env.locals m/\∀(i:Nat) (x:Str) (v:V),X.N[i]?=some x->σ[i]?=some (some v)->Vis X.env.scope x->∃u,RelV v u/\Look X.env s.heap m x u
 cell:∀x c,X.env.cells.lookup x=some c->∃v,s.heap.IsCell c v
 free:H X.env.locals=none
 freeC:∀x c,X.env.cells.lookup x=some c->H c=none
 pin:∀p∈X.pn++pins,s.heap.get? p.1=some p.2/\H p.1=none/\p.1≠X.env.locals/\p.1∉X.fs/\∀v,p.2.data≠.cell v
 hok:HOk X.prog X.w H s.heap
 len:σ.length=X.N.length
section
variable {X:Cx}{pins:Yh}{σ:List (Option V)}{H H':Hp}{s:Shared}{h':Heap}
def Cx.Ok.nofr (ok:X.Ok) {b o} (e:X.base.get? b=some o):b∉X.fs:=λf=>by
 have:=(ok.funs.mem f).1
 grind
def Inv.bs (I:Inv X pins σ H s):∀b o,X.base.get? b=some o->s.heap.get? b=some o/\H b=none:=λb o e=>
 ⟨I.base.keep b o (I.ok.bs b o e).1 (I.ok.bs b o e).2 (I.ok.nofr e) (I.ok.noex b o e),I.base.free b o (I.ok.bs b o e).1 (I.ok.bs b o e).2 (I.ok.noex b o e)⟩
def Inv.bk (I:Inv X pins σ H s):∀b o,X.base.get? b=some o->s.heap.get? b=some o:=λb o e=>(I.bs b o e).1
def Inv.mod (I:Inv X pins σ H s):Mod X.K X.mg X.base:=I.ok.mod
def Inv.kIn (I:Inv X pins σ H s):X.K.In s.heap:=I.ok.mod.kin.keeps I.bk
def Inv.lt (I:Inv X pins σ H s):X.env.locals<s.heap.objs.size:=let ⟨_,f,_⟩:=I.loc;f.lt
def Inv.sz (I:Inv X pins σ H s):X.s₀.heap.objs.size<=s.heap.objs.size:=WZ I.ok.above (Ja I.lt)
def Inv.nofs (I:Inv X pins σ H s) {a:Addr} (h:s.heap.objs.size<=a):a∉X.fs:=λg=>by
 obtain⟨_,o,f,_⟩:=I.ok.funs.mem g;exact absurd (Qs (WY f)<|WZ I.sz h) (QW _)
def Inv.cne (I:Inv X pins σ H s):∀x c,X.env.cells.lookup x=some c->c≠X.env.locals:=λx c e z=>by
 obtain⟨v,o,l,hd⟩:=I.cell x c e;obtain⟨m,⟨h,n,p,f,g,_⟩,_⟩:=I.loc
 grind
def Inv.funs (I:Inv X pins σ H s):s.heap.FunFrames X.base X.outer:=by
 have all:∀l,(∀b∈frs l,b∈X.fs)->X.s₀.heap.FunFrames X.base l->s.heap.FunFrames X.base l:=by
  intro l
  induction l with
  |nil=>intro _ _;trivial
  |cons A r p=>
   intro n x;obtain⟨y,⟨L,o,f,w,v,hd⟩,u⟩:=x;have h:=n L (by unfold frs;rw[QZ,f];exact Q2);obtain⟨sl,e⟩:=I.base.slot L o v (I.ok.frf L h) h λz=>I.ok.exfs L z h;exact⟨y,⟨L,_,f,w,e,hd⟩,p (λb g=>n b (by unfold frs;rw[QZ,f];exact Qk _ g)) u⟩
 exact all X.outer (λ_ g=>g) I.ok.funs
def Inv.stack (I:Inv X pins σ H s):s.heap.FunFrames X.base X.stack:=by
 rcases I.ok.stk with e|⟨e,g⟩
 ·rw[e];exact I.funs
 ·rw[e];obtain⟨m,f,_⟩:=I.loc;refine .cons (by rw[I.ok.kind];decide) g f ?_ I.funs;exact V9 (WZ I.ok.bsz I.ok.above)
def Inv.stkSub (I:Inv X pins σ H s):∀b∈frs X.stack,b∈X.env.locals::X.fs:=λb f=>by
 rcases I.ok.stk with e|⟨e,g⟩
 ·grind
 ·rw[e]at f;unfold frs at f;rw[QZ,g]at f;trivial
def Inv.stkFree (I:Inv X pins σ H s):∀b∈frs X.stack,H b=none:=λb f=>by
 rcases Qa.mp (I.stkSub b f)with e|f
 ·rw[e];exact I.free
 ·obtain⟨_,o,g,_⟩:=I.ok.funs.mem f;exact I.base.free b o g (I.ok.frf b f) λz=>I.ok.exfs b z f
def Inv.step {d'}{ch:List Addr} (I:Inv X pins σ H s)
  (g:∀b∈ch,(b∈X.ex\/X.s₀.heap.objs.size<=b)/\b≠X.env.locals/\(∀x c,X.env.cells.lookup x=some c->c≠b)/\∀p∈X.pn++pins,p.1≠b)
  (keep:∀b o,b≠X.env.locals->b∉X.fs->b∉ch->s.heap.get? b=some o->H b=none->h'.get? b=some o)
  (slot:∀b o,b≠X.env.locals->b∈X.fs->b∉ch->s.heap.get? b=some o->H b=none->∃sl,h'.get? b=some {o with slots:=sl}) (free:∀b o,b∉ch->s.heap.get? b=some o->H b=none->H' b=none)
  (there:∀b o,b∉ch->s.heap.get? b=some o->∃o',h'.get? b=some o')
  (tups:∀b xs,H b=some (.tup xs)->H' b=some (.tup xs)) (frzs:∀b o u,H b=some (.frz o u)->H' b=some (.frz o u)) (tbls:∀b ps,H b=some (.tbl ps)->∃more,H' b=some (.tbl (ps++more)))
  (ns:∀m,s.heap.Ns X.env.locals m->h'.Ns X.env.locals m) (J:HOk X.prog X.w H' h') (Y:AllBare g') :
  Inv X pins σ H' {s with heap:=h',gens:=g',drawn:=d',toks:=t'}:=by
 have B:∀b o,X.s₀.heap.get? b=some o->b≠X.env.locals:=λb o e=>Qo (Qs (WY e) I.ok.above)
 have f:∀b o,X.s₀.heap.get? b=some o->b∉X.ex->b∉ch:=λb o e hx y=>by
  rcases(g b y).1 with z|z
  ·exact hx z
  ·exact absurd (Qs (WY e) z) (QW _)
 have cellK:∀x c,X.env.cells.lookup x=some c->∀v,s.heap.IsCell c v->h'.IsCell c v:=λx c e v ⟨o,A,hd⟩=>by
  have C:=λz=>(g c z).2.2.1 x c e rfl;by_cases L:c∈X.fs
  ·obtain⟨sl,q⟩:=slot c o (I.cne x c e) L C A (I.freeC x c e);exact⟨_,q,hd⟩
  ·exact⟨o,keep c o (I.cne x c e) L C A (I.freeC x c e),hd⟩
 refine⟨I.ok,I.os,Y,⟨λb o e n y hx=>?_,λb o e n y hx=>?_,λb o e n hx=>?_,λb o e hx=>?_,λb xs e=>tups b xs (I.base.tups b xs e),λb o xs e=>frzs b o xs (I.base.frzs b o xs e),λb ps e=>?_⟩,?_,λx c e=>?_,?_,λx c e=>?_,λp Q=>?_,J,I.len⟩
 ·exact keep b o (B b o e) y (f b o e hx) (I.base.keep b o e n y hx) (I.base.free b o e n hx)
 ·obtain⟨sl,h⟩:=I.base.slot b o e n y hx;obtain⟨G,E⟩:=slot b _ (B b o e) y (f b o e hx) h (I.base.free b o e n hx);exact⟨G,E⟩
 ·obtain⟨o',h⟩:=I.base.there b o e hx;exact free b o' (f b o e hx) h (I.base.free b o e n hx)
 ·obtain⟨o',h⟩:=I.base.there b o e hx;exact there b o' (f b o e hx) h
 ·obtain⟨N,h⟩:=I.base.tbls b ps e;obtain⟨M,E⟩:=tbls b _ h;exact⟨N++M,by rw[E,Array.append_assoc]⟩
 ·obtain⟨m,T,U⟩:=I.loc;refine⟨m,ns m T,λi x v h E e3=>?_⟩;obtain⟨u,r,l⟩:=U i x v h E e3;refine⟨u,r,?_⟩;rcases l with l|⟨k,c,e,z⟩
  ·exact .inl l
  ·exact .inr ⟨k,c,e,cellK x c e _ z⟩
 ·obtain⟨v,z⟩:=I.cell x c e;exact⟨v,cellK x c e v z⟩
 ·obtain⟨m,⟨o,_,_,A,_⟩,_⟩:=I.loc;exact free _ o (λz=>(g _ z).2.1 rfl) A I.free
 ·obtain⟨v,o,A,hd⟩:=I.cell x c e;exact free c o (λz=>(g c z).2.2.1 x c e rfl) A (I.freeC x c e)
 ·obtain⟨e,n,ne,nf,d⟩:=I.pin p Q
  grind
def Inv.un (I:Inv X pins σ H s) (u:Un X.fs [] H H' s.heap h') (g:HOk X.prog X.w H' h'):Inv X pins σ H' {s with heap:=h',toks:=t'}:=by
 obtain⟨m,⟨o,E,G,v,r⟩,_⟩:=id I.loc;obtain⟨sl,A⟩:=u.any v I.free (by simp)
 exact I.step (ch:=[]) (λ_ z=>nomatch z) (λb o _ h _ e n=>u.keep b o e n h (by simp)) (λb o _ h _ e n=>u.slot b o e n h (by simp)) (λb o _ e n=>u.free b o e n (by simp)) (λb o _ e=>u.there b o e (by simp)) u.tups u.frzs u.tbls (λC y=>by
  obtain⟨B,l,p,f,x⟩:=y;rw[v]at f;cases f;exact⟨_,l,p,A,x⟩) g I.bare
def Inv.call {d'}{ch} (I:Inv X pins σ H s) (u:Un (frs X.stack) ch H H' s.heap h') (l:HOk X.prog X.w H' h') (G:AllBare L)
  (h:∀b∈ch,(b∈X.ex\/X.s₀.heap.objs.size<=b)/\b≠X.env.locals/\(∀x c,X.env.cells.lookup x=some c->c≠b)/\∀p∈X.pn++pins,p.1≠b) :
  Inv X pins σ H' {s with heap:=h',gens:=L,drawn:=d',toks:=t'}:=by
 obtain⟨m,⟨o,Q,T,B,r⟩,_⟩:=id I.loc;obtain⟨sl,v⟩:=u.any B I.free λz=>(h _ z).2.1 rfl
 exact I.step h (λb o v J f e n=>u.keep b o e n (λz=>(Qa.mp<|I.stkSub b z).elim v J) f) (λb o _ _ f e n=>u.any e n f) (λb o f e n=>u.free b o e n f) (λb o f e=>u.there b o e f) u.tups u.frzs u.tbls (λN E=>by
  obtain⟨M,y,A,g,C⟩:=E;rw[B]at g;cases g;exact⟨_,y,A,v,C⟩) l G
def Inv.turned {it} (I:Inv X pins σ H s) (k:∀b o,b≠it->s.heap.get? b=some o->h'.get? b=some o) (B:H it=none) (l:it≠X.env.locals)
  (J:it∈X.ex\/X.s₀.heap.objs.size<=it) (G:∀x c,X.env.cells.lookup x=some c->c≠it) (E:∀p∈X.pn++pins,p.1≠it):Inv X pins σ H {s with heap:=h',toks:=t'}:=by
 refine I.step (ch:=[it]) (λb C=>?_) (λb o _ _ f e _=>k b o (λz=>f (by simp[z])) e) (λb o _ _ f e _=>⟨o.slots,k b o (λz=>f (by simp[z])) e⟩) (λ_ _ _ _ n=>n)
  (λb o f e=>⟨o,k b o (λz=>f (by simp[z])) e⟩) (λ_ _ e=>e) (λ_ _ _ e=>e) (λb A e=>⟨#[],by rw[e];simp⟩) (λm h=>?_) (λb u e=>?_) I.bare
 ·grind
 ·obtain⟨o,w,y,g,r⟩:=h;exact⟨o,w,y,k _ o (Ne.symm l) g,r⟩
 ·refine(I.hok b u e).stay (λc v f q=>k c v ?_ q) (λ_ q=>q) λ_ _ q=>q;rcases f with z|z
  ·grind
  ·grind
def Inv.tok (I:Inv X pins σ H s) (t:Nat):Inv X pins σ H {s with toks:=t}:=I.un Un.refl I.hok
def Inv.kept (I:Inv X pins σ H s) (k:∀b u,s.heap.get? b=some u->h'.get? b=some u):Inv X pins σ H {s with heap:=h',toks:=t'}:=I.un (Un.kept k) (I.hok.kept k)
def Inv.laid {a:Addr}{o}{t'} (I:Inv X pins σ H s) (k:∀b u,s.heap.get? b=some u->h'.get? b=some u) (f:s.heap.objs.size<=a) (new:ObjOk X.prog X.w (upd H a o) h' a o) :
  Inv X pins σ (upd H a o) {s with heap:=h',toks:=t'}:=I.un (Un.laid k f<|I.hok.fresh f) (I.hok.laid k f new)
def Inv.write (I:Inv X pins σ H s) (g:Mut (H x)) (h:e=x\/H e=some (.own x)) (k:∀b u,b≠e->s.heap.get? b=some u->h'.get? b=some u) (f:∃u,h'.get? e=some u)
  (new:ObjOk X.prog X.w (upd H x o) h' x o):Inv X pins σ (upd H x o) {s with heap:=h',toks:=t'}:=I.un (Un.write g h k f) (I.hok.write g h k f new)
def Inv.weak (I:Inv X pins σ H s) (l:f.length=σ.length) (w:∀(i:Nat) v,f[i]?=some (some v)->σ[i]?=some (some v)):Inv X pins f H s:=
 ⟨I.ok,I.os,I.bare,I.base,let ⟨m,h,g⟩:=I.loc;⟨m,h,λi x v p o n=>g i x v p (w i v o) n⟩,I.cell,I.free,I.freeC,I.pin,I.hok,l.trans I.len⟩
def Inv.pins_of (I:Inv X pins σ H s) (h:∀p∈pins',s.heap.get? p.1=some p.2/\H p.1=none/\p.1≠X.env.locals/\p.1∉X.fs/\∀v,p.2.data≠.cell v):Inv X pins' σ H s:=
 ⟨I.ok,I.os,I.bare,I.base,I.loc,I.cell,I.free,I.freeC,λp f=>(Qh.mp f).elim (λz=>I.pin p (QU _ z)) (h p),I.hok,I.len⟩
def Cy{N:Yn}(f:N.Nodup){i j:Nat}{x}(a:N[i]?=some x)(b:N[j]?=some x):i=j:=by
 obtain⟨n,h⟩:=Qg.mp a;obtain⟨l,g⟩:=Qg.mp b;exact(JZ f).mp (h.trans g.symm)
def Zil{i x v u Q}(I:Inv X pins σ H s)(hN:X.N.Nodup)(hi:X.N[i]?=some x)(hx:Loc X.env.scope x)(r:RelV v u)(h:∀s',Inv X pins (σ.set i<|some v) H s'->(∃a,Heap.SameBut a s.heap s'.heap/\(a=X.env.locals\/X.env.cells.lookup x=some a))->Q () s')(hf:autoParam (X.fn x=true\/X.env.scope.names.lookup x=some .local) au_2):wpAny M A (storeName X.env x u) Q E s:=by
 obtain⟨m,hn,hl⟩:=id I.loc;have hcls:(X.env.scope.kind == .class || (X.env.scope.kind == .module&&X.env.locals != X.env.globals))=false:=by rw[I.ok.kind];rfl
 have J:i<σ.length:=by rw[I.len];exact(Qg.mp hi).1
 have cne:=I.cne
 have tracked:∀{a:Addr} {h':Heap},(∃o,s.heap.get? a=some o/\H a=none)->Heap.SameBut a s.heap h'->HOk X.prog X.w H h':=λ{a h'} ha f b ob e=>by
  obtain⟨_,_,B⟩:=ha;refine(I.hok b ob e).stay (λc w' l q=>(f.2 c ?_).trans q) (λ_ q=>q) λ_ _ q=>q;rintro rfl;rcases l with rfl|l
  ·rw[B]at e;cases e
  ·rw[B]at l;cases l
 rcases hx with G|G
 ·refine wpAny_storeName_local G hn (λh' hn' f=>?_) hcls;obtain⟨oL,_,_,hoL,_⟩:=id hn;refine h _ ⟨I.ok,I.os,I.bare,⟨λb o e n U hx=>?_,λb o e n U hx=>?_,I.base.free,λb o e hx=>?_,I.base.tups,I.base.frzs,I.base.tbls⟩,⟨_,hn',λj y v' g C e3=>?_⟩,λy c e=>?_,I.free,I.freeC,λp hp=>?_,tracked ⟨oL,hoL,I.free⟩ f,by simpa using I.len⟩ ⟨_,f,.inl rfl⟩
  ·exact(f.2 b<|Qo<|Qs (WY e) I.ok.above).trans (I.base.keep b o e n U hx)
  ·obtain⟨sl,g⟩:=I.base.slot b o e n U hx;exact⟨sl,(f.2 b<|Qo<|Qs (WY e) I.ok.above).trans g⟩
  ·obtain⟨o',g⟩:=I.base.there b o e hx;exact⟨o',(f.2 b<|Qo<|Qs (WY e) I.ok.above).trans g⟩
  ·by_cases L:j=i
   ·subst L;rw[hi]at g;cases g;rw[List.getElem?_set_self J]at C;cases C
    exact⟨u,r,.inl ⟨G,by simp⟩⟩
   ·rw[J8 (Ne.symm L)]at C;obtain⟨u',r',q⟩:=hl j y v' g C e3;refine⟨u',r',?_⟩;rcases q with⟨k,e⟩|⟨k,c,e,z⟩
    ·refine .inl ⟨k,?_⟩
     have:y≠x:=λe=>L (Cy hN g (e▸hi))
     simp[this,e]
    ·exact .inr ⟨k,c,e,z.sameBut f (cne y c e)⟩
  ·obtain⟨w',z⟩:=I.cell y c e;exact⟨w',z.sameBut f (cne y c e)⟩
  ·obtain⟨e,n,ne,nf,d⟩:=I.pin p hp;exact⟨(f.2 p.1 ne).trans e,n,ne,nf,d⟩
 ·have T:X.fn x=true:=by
   rcases hf with z|z
   ·exact z
   ·rw[z]at G;cases G
  obtain⟨c,l⟩:=I.ok.has x (.inl G);obtain⟨w',z⟩:=I.cell x c l;refine wpAny_storeName_cell I.ok.kind G l z (λh' hc' f=>?_);obtain⟨oc,hoc,Y⟩:=id z;refine h {s with heap:=h'} ⟨I.ok,I.os,I.bare,⟨λb o e n U hx=>?_,λb o e n U hx=>?_,I.base.free,λb o e hx=>?_,I.base.tups,I.base.frzs,I.base.tbls⟩,⟨m,hn.sameBut f (Ne.symm<|cne x c l),λj y v' g C e3=>?_⟩,λy c' e=>?_,I.free,I.freeC,λp hp=>?_,tracked ⟨oc,hoc,I.freeC x c l⟩ f,by simpa using I.len⟩ ⟨c,f,.inr l⟩
  ·exact(f.2 b<|Qo<|Qs (WY e)<|I.ok.cab x c T l).trans (I.base.keep b o e n U hx)
  ·obtain⟨sl,g⟩:=I.base.slot b o e n U hx;exact⟨sl,(f.2 b<|Qo<|Qs (WY e)<|I.ok.cab x c T l).trans g⟩
  ·obtain⟨o',g⟩:=I.base.there b o e hx;exact⟨o',(f.2 b<|Qo<|Qs (WY e)<|I.ok.cab x c T l).trans g⟩
  ·by_cases L:j=i
   ·subst L;rw[hi]at g;cases g;rw[List.getElem?_set_self J]at C;cases C
    exact⟨u,r,.inr ⟨.inl G,c,l,hc'⟩⟩
   ·rw[J8 (Ne.symm L)]at C;obtain⟨u',r',q⟩:=hl j y v' g C e3;refine⟨u',r',?_⟩;rcases q with q|⟨k,c',e,z'⟩
    ·exact .inl q
    ·refine .inr ⟨k,c',e,z'.sameBut f ?_⟩;rintro rfl;exact L (Cy hN g (I.ok.inj _ _ _ e l▸hi))
  ·by_cases hcc:c'=c
   ·subst hcc;exact⟨_,hc'⟩
   ·obtain⟨w2,z2⟩:=I.cell y c' e;exact⟨w2,z2.sameBut f hcc⟩
  ·obtain⟨e,n,ne,nf,d⟩:=I.pin p hp;refine⟨(f.2 p.1 ?_).trans e,n,ne,nf,d⟩;intro q;rw[q,hoc]at e;exact d w' (by rw[←(Qb e)];exact Y)
def BK{i x v u Q}(I:Inv X pins σ H s)(n:X.N.Nodup)(g:X.N[i]?=some x)(hx:Loc X.env.scope x)(r:RelV v u)(h:∀f,Inv X pins (σ.set i<|some v) H f->Q () f)(l:autoParam (X.fn x=true\/X.env.scope.names.lookup x=some .local) au_2):wpAny M A (storeName X.env x u) Q E s:=
 Zil I n g hx r (λf o _=>h f o) l
def Inv.call' {ch} (I:Inv X pins σ H s) (l:f.os=s.os) (u:Un (frs X.stack) ch H H' s.heap f.heap) (g:HOk X.prog X.w H' f.heap) (n:AllBare f.gens)
  (h:∀b∈ch,(b∈X.ex\/X.s₀.heap.objs.size<=b)/\b≠X.env.locals/\(∀x c,X.env.cells.lookup x=some c->c≠b)/\∀p∈X.pn++pins,p.1≠b):Inv X pins σ H' f:=by
 obtain⟨h',v,y,o,r⟩:=f;subst l;exact I.call u g n h
end
abbrev XK:=Value->Yr->Hp->Prop
abbrev St:=List (Option V)
abbrev VK:=V->Hp->Prop
abbrev TE:=St->Hp->VK->Prop
abbrev TT:=St->Hp->(Bool->Hp->Prop)->Prop
abbrev TA:=St->Hp->(List V->Hp->Prop)->Prop
structure Ends where
 nx:St->Hp->Prop
 rt:VK
 bk:St->Hp->Prop:=λ_ _=>False
 ct:St->Hp->Prop:=λ_ _=>False
abbrev TS:=Ends->St->Hp->Prop
def EP(X:Cx)(pins:Yh)(g:St)(Q:VK)(u:Value)(h:Shared):Prop:=∃v f,Inv X pins g f h/\RelV v u/\Q v f
def TP(X:Cx)(pins:Yh)(g:St)(Q:Bool->Hp->Prop)(b:Bool)(h:Shared):Prop:=∃f,Inv X pins g f h/\Q b f
def AP(X:Cx)(pins:Yh)(h:St)(Q:List V->Hp->Prop)(us:Ym)(l:Shared):Prop:=∃f g,Inv X pins h g l/\Vals f us/\Q f g
def SP(X:Cx)(pins:Yh)(D:Ends)(f:Flow)(l:Shared):Prop:=
 match f with
 | .next=>∃g h,Inv X pins g h l/\D.nx g h
 | .brk=>∃g h,Inv X pins g h l/\D.bk g h
 | .cont=>∃g h,Inv X pins g h l/\D.ct g h
 | .ret u=>∃v g h,Inv X pins g h l/\RelV v u/\D.rt v h
def PE(X:Cx)(e:Expr)(t:TE):Prop:=
 ∀(pins:Yh) (s:Shared) (f:St) (H:Hp) (Q:VK),Inv X pins f H s->t f H Q->wpAny (model X.prog X.w) X.A (eval e X.env) (EP X pins f Q) X.xe s
def PT(X:Cx)(e:Expr)(t:TT):Prop:=
 ∀(pins:Yh) (s:Shared) (f:St) (H:Hp) (Q:Bool->Hp->Prop),Inv X pins f H s->t f H Q->wpAny (model X.prog X.w) X.A (isTrue e X.env<|eval e X.env) (TP X pins f Q) X.xe s
def PW(X:Cx)(e:Expr)(t:TT):Prop:=
 ∀(whole:Sem Value) (pins:Yh) (s:Shared) (f:St) (H:Hp) (Q:Bool->Hp->Prop),Inv X pins f H s->t f H Q->wpAny (model X.prog X.w) X.A (isTrue e X.env whole) (TP X pins f Q) X.xe s
def PW.pt (h:PW X e t):PT X e t:=h _
def PA(X:Cx)(es:Yo)(t:TA):Prop:=
 ∀(pos:Pos) (pins:Yh) (s:Shared) (f:St) (H:Hp) (Q:List V->Hp->Prop),Inv X pins f H s->t f H Q->wpAny (model X.prog X.w) X.A (spliced<|backTo pos<|starEach es X.env) (AP X pins f Q) X.xe s
def PS(X:Cx)(st:Stmt)(t:TS):Prop:=
 ∀(pins:Yh) (s:Shared) (f:St) (H:Hp) (D:Ends),Inv X pins f H s->t D f H->wpAny (model X.prog X.w) X.A (exec st X.env) (SP X pins D) X.xe s
def PSs(X:Cx)(st:Yp)(t:TS):Prop:=
 ∀(pins:Yh) (s:Shared) (f:St) (H:Hp) (D:Ends),Inv X pins f H s->t D f H->wpAny (model X.prog X.w) X.A (execs st X.env) (SP X pins D) X.xe s
def thn{M A E s}(h:wpAny M A t Q E s)(f:∀a s,Q a s->g a s):wpAny M A t g E s:=Q3 h f λ_ _ x=>x
section
variable {X:Cx}
def bin{B z}(J:PE X a B)(G:PE X b z){pins}{s}{g:St}{H}{R:V->V->Hp->Prop}(I:Inv X pins g H s)(h:B g H λx r=>z g r λy o=>R x y o){α}{Q}{f:Value->Value->Sem α}(U:∀v u p x y o,Inv X pins g o p->RelV x v->RelV y u->R x y o->wpAny (model X.prog X.w) X.A (f v u) Q X.xe p) :
  wpAny (model X.prog X.w) X.A (eval a X.env) (λv n=>wpAny (model X.prog X.w) X.A (eval b X.env) (λu l=>wpAny (model X.prog X.w) X.A (f v u) Q X.xe l) X.xe n) X.xe s:=by
 refine thn (J pins s g H _ I h) λv C ⟨x,r,L,N,E⟩=>?_;refine thn (G pins C g r _ L E) λu p ⟨y,o,Y,M,T⟩=>?_
 grind
noncomputable def KE(i:Nat):TE:=λf H Q=>∃v,f[i]?=some (some v)/\Q v H
noncomputable def tC(v:V):TE:=λ_ H Q=>Q v H
def Zhc{pos}(C:X.N[i]?=some x)(y:Vis X.env.scope x)(hd:autoParam ((x==("__debug__" : Str))=false) au_1)(o:autoParam ((x==("__classdict__" : Str))=false) au_1):PE X (.Name x pos) (KE i):=by
 intro pins s w H Q I h;obtain⟨v,e,h⟩:=h;obtain⟨m,z,B⟩:=I.loc;obtain⟨u,r,l⟩:=B i x v C e y;have n:EP X pins w Q u s:=⟨v,H,I,r,h⟩;rcases l with⟨g,A⟩|⟨g,c,p,f⟩
 ·exact wpAny_Name (wpAny_loadName_local I.ok.kind g z A n) hd
 ·rcases g with g|g
  ·exact wpAny_Name (wpAny_loadName_cell I.ok.kind g p f n) hd
  ·exact wpAny_Name (wpAny_loadName_free I.ok.kind g p f n o) hd
def X9:PE X (.Constant (.int i) j pos) (tC<|.int i):=λ_ _ _ H _ I h=>wpAny_Constant_int ⟨.int i,H,I.tok _,⟨_,rfl⟩,h⟩
def TX:PE X (.Constant (.bool b) j pos) (tC<|.bl b):=λ_ _ _ H _ I h=>Constant_bool ⟨.bl b,H,I,rfl,h⟩
def Zc1:PE X (.Constant .none j pos) (tC .non):=λ_ _ _ H _ I h=>Constant_none ⟨.non,H,I,rfl,h⟩
def NR:PE X (.Constant (.str x) j pos) (tC<|.str x):=λ_ _ _ H _ I h=>Calls.Constant_str ⟨.str x,H,I.tok _,⟨_,rfl⟩,h⟩
def Gl(X:Cx)(x:Str):Prop:=X.env.kindOf x=some .globalImplicit
def Sw{pins}{s}{f:St}{H}{x}{u}{pos}{Q}(I:Inv X pins f H s)(l:Gl X x)(g:X.mg x=some u)(h:Q u s)(hd:autoParam ((x==("__debug__" : Str))=false) au_1):wpAny (model X.prog X.w) X.A (eval (.Name x pos) X.env) Q E s:=
 Calls.Name_function_global I.ok.kind l (Calls.loadGlobal_global (by rw[I.ok.glob];exact I.mod.glob.keeps I.bk) g h) hd
def Fh{E}{pins}{s}{f:St}{H}{x}{u}{pos}{Q}(I:Inv X pins f H s)(o:Gl X x)(n:X.mg x=none)(g:bootBuiltins x=some u)(h:Q u s)(l:autoParam (x≠"__name__") au_1)(hd:autoParam ((x==("__debug__" : Str))=false) au_1):wpAny (model X.prog X.w) X.A (eval (.Name x pos) X.env) Q E s:=by
 obtain⟨v,r,p⟩:=I.mod.blt;exact Calls.Name_function_global I.ok.kind o (Calls.loadGlobal_builtin (by rw[I.ok.glob];exact I.mod.glob.keeps I.bk) n (by rw[I.ok.blt];exact r.keeps I.bk) ((p x l).trans g) h) hd
def Rh{u pos}(g:Gl X x)(f:X.mg x=some u)(r:RelV v u)(hd:autoParam ((x==("__debug__" : Str))=false) au_1):PE X (.Name x pos) (tC v):=
 λ_ _ _ H _ I h=>Sw I g f ⟨v,H,I,r,h⟩ hd
def PV{u pos}(n:Gl X x)(l:X.mg x=none)(f:bootBuiltins x=some u)(r:RelV v u)(g:autoParam (x≠"__name__") au_1)(hd:autoParam ((x==("__debug__" : Str))=false) au_1):PE X (.Name x pos) (tC v):=
 λ_ _ _ H _ I h=>Fh I n l f ⟨v,H,I,r,h⟩ g hd
variable {a b:Expr}{ta tb:TE}{pos:Pos}
def PC(X:Cx)(l:CmpOp)(a b:Expr)(t:TE):Prop:=
 ∀(pins:Yh) (s:Shared) (h:St) (H:Hp) (Q:VK),Inv X pins h H s->t h H Q->
  wpAny (model X.prog X.w) X.A (eval a X.env) (λv g=>wpAny (model X.prog X.w) X.A (eval b X.env) (λu f=>wpAny (model X.prog X.w) X.A (compareOp l v u) (EP X pins h Q) X.xe f) X.xe g) X.xe s
def Zgl(b:Expr){op}(h:op≠.In)(l:op≠.NotIn):behindInMarks op b=false:=by
 have g:(op==CmpOp.In)=false:=by grind
 have f:(op==CmpOp.NotIn)=false:=by grind
 cases b<;>simp[behindInMarks,g,f]
noncomputable def tB(t:TE):TT:=λf H Q=>t f H λx g=>∃c,x=.bl c/\Q c g
def Zsf(h:PC X g a b t)(f:behindInMarks g b=false:=by first|exact Zgl _ (by decide) (by decide)|rfl):PT X (.Compare a [g] [b] pos) (tB t):=by
 intro pins s l H Q I hw;refine wpAny_isTrue_Compare1 (thn (h pins s l H _ I hw) λv A f=>thn f λu z p=>thn p ?_) f;rintro c y ⟨x,w,r,n,o⟩;obtain⟨d,rfl,q⟩:=o;cases n
 exact V6 ⟨w,r,q⟩
variable {tA tB':TT}{rest:Yo}
noncomputable def Ir(t u:TT):TT:=λf H Q=>t f H λc g=>if c=true then u f g Q else Q false g
noncomputable def tOr(t u:TT):TT:=λf H Q=>t f H λc g=>if c=true then Q true g else u f g Q
noncomputable def DO(t:TT):TT:=λf H Q=>t f H λc g=>Q (!c) g
def Zob(g:PT X a tA):PW X (.BoolOp .And [a] pos) tA:=by
 intro l pins s f H Q I h;refine isTrue_and (thn (g pins s f H Q I h) λc n e=>?_);cases c with
 |true=>exact isTrue_and_nil e
 |false=>exact e
def Zj7(g:PT X a tA):PW X (.BoolOp .Or [a] pos) tA:=by
 intro l pins s f H Q I h;refine isTrue_or (thn (g pins s f H Q I h) λc n e=>?_);cases c with
 |false=>exact isTrue_or_nil e
 |true=>exact e
def Zg9(p:PT X a tA)(o:PW X (.BoolOp .And (b::rest) pos) tB'):PW X (.BoolOp .And (a::b::rest) pos) (Ir tA tB'):=by
 intro g pins s f H Q I h;refine isTrue_and (thn (p pins s f H _ I h) λc l ⟨u,r,n⟩=>?_);cases c with
 |true=>exact o g pins l f u Q r n
 |false=>trivial
def Zh0(p:PT X a tA)(o:PW X (.BoolOp .Or (b::rest) pos) tB'):PW X (.BoolOp .Or (a::b::rest) pos) (tOr tA tB'):=by
 intro g pins s f H Q I h;refine isTrue_or (thn (p pins s f H _ I h) λc l ⟨u,r,n⟩=>?_);cases c with
 |true=>trivial
 |false=>exact o g pins l f u Q r n
def FY(g:PT X a tA):PT X (.UnaryOp .Not a pos) (DO tA):=by
 intro pins s f H Q I h;exact isTrue_not (g pins s f H (λc l=>Q (!c) l) I h)
noncomputable def IY(ta tb:TE):TE:=λf H Q=>ta f H λx g=>∃c,x=.bl c/\if c=true then tb f g Q else Q (.bl false) g
noncomputable def M1(ta:TE):TE:=λf H Q=>ta f H λx g=>∃c,x=.bl c/\Q (.bl (!c)) g
def B7{t}(h:PE X a t):PE X (.BoolOp f [a] pos) t:=by trivial
def BO(u:PE X a ta)(r:PE X (.BoolOp .And (b::rest) pos) tb):PE X (.BoolOp .And (a::b::rest) pos) (IY ta tb):=by
 intro pins s g H Q I h;refine BoolOp_and (thn (u pins s g H _ I h) ?_);rintro v o ⟨x,n,l,p,f⟩;obtain⟨c,rfl,f⟩:=f;cases p
 refine V6 ?_;cases c with
 |true=>exact r pins o g n Q l f
 |false=>exact⟨.bl false,n,l,rfl,f⟩
def OL(n:PE X a ta):PE X (.UnaryOp .Not a pos) (M1 ta):=by
 intro pins s g H Q I h;refine UnaryOp_ (thn (n pins s g H _ I h) ?_);rintro v r ⟨x,p,o,l,f⟩;obtain⟨c,rfl,f⟩:=f;cases l
 exact not_of (V6 ⟨.bl (!c),p,o,rfl,f⟩)
end
def SqL(K:Ye)(H:Hp)(a:Addr)(xs:List V):Prop:=
 Rd H a (.lst xs)\/
  ∃(o:Obj) (f:Array Value) (n:Nat),K.lookup a=some o/\o.cls=.type "list"/\o.dict=none/\o.data=.seq f n/\f.size<=sizeLine/\Vals xs f.toList
def SqT(K:Ye)(H:Hp)(a:Addr)(xs:List V):Prop:=
 Rd H a (.tup xs)\/
  ∃(o:Obj) (f:Array Value) (n:Nat),K.lookup a=some o/\o.cls=.type "tuple"/\o.data=.seq f n/\f.size<=sizeLine/\Vals xs f.toList
noncomputable def Zmg:Value->Option V
 | .none=>some .non
 | .bool b=>some (.bl b)
 | .int i _=>some (.int i)
 | .str x _=>some (.str x)
 | .bytes b _=>some (.byt b)
 | .float b _=>some (.flt b)
 | .ref a=>some (.ref a)
 | .type n=>some (.ty n)
 |_=>none
def RelV.abs (r:RelV x u):Zmg u=some x:=by
 cases x with
 |non|bl _|ref _|ty _=>cases r;rfl
 |_=>obtain⟨t,rfl⟩:=r;rfl
def RelV.inj {u} (r:RelV x u) (q:RelV y u):x=y:=Qb (r.abs.symm.trans q.abs)
def Vals.inj:∀{xs f}{us:Ym},Vals xs us->Vals f us->xs=f:=by
 intro p
 induction p with
 |nil=>
  intro _ _ h g;cases h
  cases g
  rfl
 |cons _ _ o=>
  intro _ _ h g;cases h with
  |cons h r=>
   cases g with
   |cons n l=>rw[h.inj n,o r l]
section
variable {X:Cx}{pins:Yh}{σ:St}{H:Hp}{s:Shared}{a:Addr}{xs ys:List V}
def SqL.of {K} (h:H a=some (.lst xs)):SqL K H a xs:=.inl (.inl h)
def SqT.of {K} (h:H a=some (.tup xs)):SqT K H a xs:=.inl (.inl h)
def Inv.list (I:Inv X pins σ H s) (h:SqL X.K H a xs):∃f,Vals xs f/\PlainL s.heap a f.toArray/\xs.length<=sizeLine:=by
 rcases h with h|⟨o,f,n,l,p,hd,g,u,r⟩
 ·obtain⟨z,f,n,r,e⟩:=h.ok I.hok;exact⟨f,r,⟨_,n,e,rfl,rfl,rfl⟩,z⟩
 ·refine⟨f.toList,r,⟨o,n,I.kIn a o l,p,hd,by simpa using g⟩,?_⟩;have e:=r.length
  grind
def Inv.tuple (I:Inv X pins σ H s) (h:SqT X.K H a xs):∃f,Vals xs f/\IsTup s.heap a f.toArray/\xs.length<=sizeLine:=by
 rcases h with h|⟨o,f,n,l,u,g,v,r⟩
 ·obtain⟨z,f,r,p⟩:=h.ok I.hok
  grind
 ·refine⟨f.toList,r,⟨o,I.kIn a o l,u,n,by simpa using g⟩,?_⟩;have e:=r.length
  grind
def Inv.list_inj (I:Inv X pins σ H s) (h:SqL X.K H a xs) (p:SqL X.K H a ys):xs=ys:=by
 obtain⟨g,r,⟨o,n,e,_,_,d⟩,_⟩:=I.list h;obtain⟨f,l,⟨u,v,w,_,_,x⟩,_⟩:=I.list p
 have:g=f:=by grind
 subst this;exact r.inj l
def Inv.tuple_inj (I:Inv X pins σ H s) (h:SqT X.K H a xs) (p:SqT X.K H a ys):xs=ys:=by
 obtain⟨g,r,⟨o,e,_,n,d⟩,_⟩:=I.tuple h;obtain⟨f,l,⟨u,w,_,v,x⟩,_⟩:=I.tuple p
 have:g=f:=by grind
 subst this;exact r.inj l
end
noncomputable abbrev Cx.wish (X:Cx) (E:Yj):Cx:={X with xe:=E}
noncomputable abbrev Cx.nox (X:Cx):Cx:=X.wish λ_ _=>False
def Cx.Ok.wish {X:Cx} (ok:X.Ok) (E:Yj):(X.wish E).Ok:=
 ⟨ok.mod,ok.kind,ok.glob,ok.blt,ok.above,ok.inj,ok.has,ok.cab,ok.hd,ok.frames,ok.stk,ok.exf,ok.bs,ok.bsz,ok.noex,ok.exfs,ok.funs,ok.frf⟩
def Cx.Ok.unwish {X:Cx}{E} (ok:(X.wish E).Ok):X.Ok:=
 ⟨ok.mod,ok.kind,ok.glob,ok.blt,ok.above,ok.inj,ok.has,ok.cab,ok.hd,ok.frames,ok.stk,ok.exf,ok.bs,ok.bsz,ok.noex,ok.exfs,ok.funs,ok.frf⟩
section
variable {X:Cx}{pins:Yh}{σ:St}{H:Hp}{s:Shared}{E:Yj}
def Inv.wish (I:Inv X pins σ H s) (E:Yj):Inv (X.wish E) pins σ H s:=⟨I.ok.wish E,I.os,I.bare,I.base,I.loc,I.cell,I.free,I.freeC,I.pin,I.hok,I.len⟩
def Inv.unwish (I:Inv (X.wish E) pins σ H s):Inv X pins σ H s:=⟨I.ok.unwish,I.os,I.bare,I.base,I.loc,I.cell,I.free,I.freeC,I.pin,I.hok,I.len⟩
def SP.unwish (h:SP (X.wish E) pins D f n):SP X pins D f n:=by
 cases f with
 |ret u=>obtain⟨v,g,l,I,r,q⟩:=h;exact⟨v,g,l,I.unwish,r,q⟩
 |_=>obtain⟨g,l,I,q⟩:=h;exact⟨g,l,I.unwish,q⟩
def PSs.nox {st t} (h:PSs X.nox st t):PSs X st t:=λpins s σ H D I hw=>
 Q3 (h pins s σ H D (I.wish _) hw) (λ_ _ q=>q.unwish) λ_ _ z=>False.elim z
end
section
variable {X:Cx}{st:Stmt}{rest:Yp}{t u:TS}{e:Expr}{te:TE}{pos:Pos}
noncomputable def GB:TS:=λD f H=>D.nx f H
noncomputable def O5(t u:TS):TS:=λD f H=>t {D with nx:=u D} f H
def Ab:PSs X [] GB:=λ_ _ f H _ I h=>J9 ⟨f,H,I,h⟩
def Hg(p:PS X st t)(o:PSs X rest u):PSs X (st::rest) (O5 t u):=by
 intro pins s l H D I h;refine wpAny_execs_cons (thn (p pins s l H {D with nx:=u D} I h) λf n q=>?_)
 cases f with
 |next=>
  obtain⟨g,v,r,q⟩:=q;exact o pins n g v D r q
 |_=>exact q
def P2(l:PS X st t):PSs X [st] t:=by
 intro pins s g H D I h;refine wpAny_execs_cons (thn (l pins s g H D I h) λf n q=>?_);cases f with
 |next=>exact J9 q
 |_=>lia
def Inv.quiet {f:St}{H}{s} (I:Inv X pins f H s):interactive X.env=false:=by simp[interactive,I.ok.kind]
noncomputable def Fg(te:TE):TS:=λD f H=>te f H λ_ g=>D.nx f g
def Pf(n:PE X e te)(l:autoParam (swapsWith e none pos.line X.env=pure false) au_0):PS X (.Expr e pos) (Fg te):=by
 intro pins s f H D I h;exact wpAny_Expr_any (thn (n pins s f H _ I h) λv r ⟨x,p,o,w,g⟩=>⟨f,p,o,g⟩) I.quiet l
noncomputable def SY(te:TE):TS:=λD f H=>te f H D.rt
def Ku(n:PE X e te):PS X (.Return (some e) pos) (SY te):=by
 intro pins s f H D I h;exact wpAny_Return_some (thn (n pins s f H _ I h) λv r ⟨x,p,o,g,l⟩=>⟨x,f,p,o,g,l⟩)
noncomputable def E2(c:TT)(t u:TS):TS:=λD f H=>c f H λb g=>if b=true then t D f g else u D f g
def Ay{tc}(p:PT X c tc)(v:PSs X a t)(r:PSs X b u):PS X (.If c a b pos) (E2 tc t u):=by
 intro pins s f H D I h;refine wpAny_If (thn (p pins s f H _ I h) ?_);rintro d g ⟨o,n,l⟩;cases d with
 |true=>exact v pins g f o D n l
 |false=>exact r pins g f o D n l
end
abbrev TG:=V->St->Hp->(St->Hp->Prop)->Prop
abbrev TGs:=List V->St->Hp->(St->Hp->Prop)->Prop
def PG(X:Cx)(target:Expr)(t:TG):Prop:=
 ∀(pins:Yh) (s:Shared) (g:St) (H:Hp) (v:V) (u:Value) (Q:St->Hp->Prop),Inv X pins g H s->RelV v u->t v g H Q->
  wpAny (model X.prog X.w) X.A (assign target X.env u) (λ_ l=>∃f h,Inv X pins f h l/\Q f h) X.xe s
def PGs(X:Cx)(o:Yo)(t:TGs):Prop:=
 ∀(pins:Yh) (s:Shared) (g:St) (H:Hp) (h:List V) (l:Ym) (Q:St->Hp->Prop),Inv X pins g H s->Vals h l->t h g H Q->
  wpAny (model X.prog X.w) X.A (assignInOrder ((assignEach o X.env).map (·.2)) l) (λ_ p=>∃f n,Inv X pins f n p/\Q f n) X.xe s
abbrev L8:=V->V->V->Hp->(Hp->Prop)->Prop
def Hz(X:Cx)(t:L8):Prop:=
 ∀(pins:Yh) (s:Shared) (f:St) (H:Hp) (o i v:V) (g h u:Value) (Q:Hp->Prop),Inv X pins f H s->RelV o g->RelV i h->RelV v u->t o i v H Q->
  wpAny (model X.prog X.w) X.A (setItem g h u) (λ_ n=>∃l,Inv X pins f l n/\Q l) X.xe s
abbrev TIp:=V->V->Hp->VK->Prop
def PIp(X:Cx)(g:Operator)(t:TIp):Prop:=
 ∀(pins:Yh) (s:Shared) (f:St) (H:Hp) (x y:V) (v u:Value) (Q:VK),Inv X pins f H s->RelV x v->RelV y u->t x y H Q->
  wpAny (model X.prog X.w) X.A (inplaceOp g v u) (EP X pins f Q) X.xe s
section
variable {X:Cx}{pos:Pos}
noncomputable def Sn(i:Nat):TG:=λv f H Q=>Q (f.set i<|some v) H
def Cz(l:X.N.Nodup)(f:X.N[i]?=some x)(hx:Loc X.env.scope x)(g:autoParam (X.fn x=true\/X.env.scope.names.lookup x=some .local) au_2):PG X (.Name x pos) (Sn i):=by
 intro pins s o H v u Q I r h;exact wpAny_assign_Name (BK I l f hx r (λp n=>⟨_,H,n,h⟩) g)
noncomputable def HH:TGs:=λg f H Q=>g=[]/\Q f H
noncomputable def RU(t:TG)(u:TGs):TGs:=λh g H Q=>∃v r,h=v::r/\t v g H λf l=>u r f l Q
def FH:PGs X [] HH:=by
 intro pins s f H g l Q I r h;obtain⟨e,h⟩:=h;exact assignInOrder_nil ⟨f,H,I,h⟩
def NZ{t u}(x:PG X e t)(w:PGs X es u)(p:autoParam ((assignEach (e::es) X.env).map (·.2)=assign e X.env::(assignEach es X.env).map (·.2)) au_0):PGs X (e::es) (RU t u):=by
 intro pins s g H B E Q I r h;obtain⟨v,C,y,h⟩:=h;subst y;cases r with
 |cons r n=>
  rw[p];refine assignInOrder_cons (thn (x pins s g H _ _ _ I r h) ?_);rintro _ l ⟨f,A,z,o⟩;exact w pins l f A _ _ Q z n o
noncomputable def Di(K:Ye)(n:Nat)(t:TGs):TG:=λv f H Q=>∃a xs,v=.ref a/\SqT K H a xs/\xs.length=n/\t xs f H Q
def Zc3{k t n}(z:X.calm=true)(h:PGs X es t)(x:autoParam ((assignEach es X.env).length=n) au_0)(f:autoParam ((assignEach es X.env).findIdx? (·.1)=none) au_0):PG X (.Tuple es k pos) (Di X.K n t):=by
 intro pins s g H v u Q I r hw;obtain⟨a,xs,B,hq,y,hw⟩:=hw;subst B;cases r
 obtain⟨p,l,w,E⟩:=I.tuple hq;refine assign_Tuple_tuple (I.ok.hd z) w (by simp[x,←y,l.length]) f λA hx=>?_;have C:Inv X pins g H {s with heap:=A}:=I.kept λb o e=>hx b o (Qo<|WY e) e
 exact h pins _ g H xs _ Q C (by lia) hw
noncomputable def Lr(g ti:TE)(t:L8):TG:=λv f H Q=>g f H λo n=>ti f n λi l=>t o i v l λh=>Q f h
def Zo8{n ti t}(J:PE X o n)(L:PE X i ti)(G:Hz X t)
  (M:autoParam (∀v,assign (.Subscript o i pos) X.env v=(do
   let f ←holding [v] (eval o X.env)
   let g ←holding [v,f] (eval i X.env)
   standAt pos
   holding [v,f,g] (setItem f g v)
   release [v,f,g] [])) au_3):PG X (.Subscript o i pos) (Lr n ti t):=by
 intro pins s l H v u Q I r h;rw[M];refine WK (QX<|thn (J pins s l H _ I h) ?_);rintro f w ⟨x,H1,U,A,E⟩;refine WK (QX<|thn (L pins w l H1 _ U E) ?_);rintro g p ⟨y,H2,T,z,C⟩;refine WK (VX<|WK<|QX<|thn (G pins p l H2 x y v f g u _ T A z r C) ?_);rintro _ s3 ⟨Y,N,B⟩;exact wpAny_release ⟨l,Y,N,B⟩
noncomputable def NH(te:TE)(g:TG):TS:=λD f H=>te f H λx h=>g x f h D.nx
def Zqy{f e te g}(w:PE X e te)(u:PG X f g)(r:autoParam (swapsWithSole [f] e pos.line X.env=pure false) au_0)(hw:autoParam (swappedStores [f] e X.env=pure none) au_0)(y:autoParam ((assignEach [f] X.env).map (·.2)=[assign f X.env]) au_0):PS X (.Assign [f] e pos) (NH te g):=by
 intro pins s l H D I h;refine wpAny_Assign_stores (thn (w pins s l H _ I h) ?_) r hw;rintro v n ⟨x,A,z,o,p⟩;rw[y];exact thn (u pins n l A x v _ z o p) λ_ B q=>q
def Zpw(w:X.N.Nodup)(p:X.N[i]?=some x)(hx:Loc X.env.scope x)(u:PE X e te)(o:autoParam (swapsWith e (some<|.Name x f) pos.line X.env=pure false) au_0)(r:autoParam (X.fn x=true\/X.env.scope.names.lookup x=some .local) au_2) :
  PS X (.Assign [.Name x f] e pos) (NH te<|Sn i):=by
 intro pins s g H D I h;refine wpAny_Assign_Name (thn (u pins s g H _ I h) λv E ⟨y,B,A,l,n⟩=>?_) o;exact BK A w p hx l (λC z=>⟨_,B,z,n⟩) r
noncomputable def Hn(i:Nat)(te:TE)(ti:TIp):TS:=λD f H=>∃x,f[i]?=some (some x)/\te f H λy h=>ti x y h λz g=>D.nx (f.set i<|some z) g
def Zpa(hN:X.N.Nodup)(G:X.N[i]?=some x)(hx:Loc X.env.scope x)(he:PE X e te)(Y:PIp X E ti)(hf:autoParam (X.fn x=true\/X.env.scope.names.lookup x=some .local) au_2) :
  PS X (.AugAssign (.Name x C) E e pos) (Hn i te ti):=by
 intro pins s B H D I h;obtain⟨v,e1,h⟩:=h;obtain⟨m,hn,hl⟩:=I.loc;have p:Vis X.env.scope x:=by rcases hx with k|k;exact .inl k;exact .inr (.inl k)
 obtain⟨u,r,l⟩:=hl i x v G e1 p;refine wpAny_AugAssign_Name ?_
 have J:wpAny (model X.prog X.w) X.A (eval e X.env) (λw o=>wpAny (model X.prog X.w) X.A (inplaceOp E u w) (λr n=>wpAny (model X.prog X.w) X.A (storeName X.env x r) (λ_=>SP X pins D .next) X.xe n) X.xe o) X.xe s:=by
  refine thn (he pins s B H _ I h) λw L ⟨y,H1,I1,Q,U⟩=>?_;refine thn (Y pins L B H1 v y u w _ I1 r Q U) λz s2 ⟨zv,H2,I2,M,T⟩=>?_;exact BK I2 hN G hx M (λs3 I3=>⟨_,H2,I3,T⟩) hf
 rcases l with⟨f,hm⟩|⟨f,c,hc,g⟩
 ·exact wpAny_loadName_local I.ok.kind f hn hm J
 ·rcases f with f|f
  ·exact wpAny_loadName_cell I.ok.kind f hc g J
  ·rcases hx with k|k
   ·have:X.env.scope.names.lookup x=some .free:=f
    grind
   ·have:X.env.scope.names.lookup x=some .free:=f
    rw[k]at this;cases this
noncomputable def ipI(f:Int->Int->Int):TIp:=λx y H Q=>∃i j,x=.int i/\y=.int j/\Q (.int<|f i j) H
def OC:PIp X .Add (ipI λi j=>i+j):=by
 intro pins s o H x y v u Q I g f h;obtain⟨i,j,n,l,q⟩:=h;subst n;subst l;obtain⟨t,rfl⟩:=g;obtain⟨p,rfl⟩:=f;exact iadd_int ⟨.int _,H,I.tok _,⟨_,rfl⟩,q⟩
noncomputable def Oy(c:TT)(o:TS):TS:=λD f H=>∃W:Nat->St->Hp->Prop,(∃m,W m f H)/\∀m f H,W m f H->
 c f H λb l=>if b=true then ∃N:St->Hp->Prop,(∀g n,N g n->∃h,h<m/\W h g n)/\o {D with nx:=N,ct:=N,bk:=D.nx} f l else D.nx f l
def Zf3{tc p}(u:PassesOwn (model X.prog X.w) X.A X.env X.xe)(U:PT X c tc)(Y:PSs X body p):PS X (.While c body [] pos) (Oy tc p):=by
 intro pins s E H D I h;obtain⟨W,⟨T,J⟩,turn⟩:=h;refine wpAny_While (codeAny_whileLoop (λn Q=>∃l B,Inv X pins l B Q/\W n l B) ?_ T ⟨E,H,I,J⟩);rintro n M ⟨g,z,I1,G⟩;refine V0 u (thn (U pins M g z _ I1<|turn n g z G) λb L ⟨y,x,o⟩=>?_);cases b with
 |true=>
  obtain⟨N,hN,o⟩:=o;refine V0 u (thn (Y pins L g y _ x o) λf s3 r=>?_);cases f with
  |brk|ret v=>exact r
  |_=>
   obtain⟨C,H3,I3,n3⟩:=r
   grind
 |false=>
  exact J9 ⟨g,y,x,o⟩
end
structure It where
 go:Nat->Hp->Prop
 yld:Nat->Hp->V->Hp->Prop
 stop:Nat->Hp->Prop
def Nq(X:Cx)(pins:Yh)(H:Hp)(b:Addr):Prop:=
 H b=none/\b≠X.env.locals/\b∉X.fs/\(b∈X.ex\/X.s₀.heap.objs.size<=b)/\(∀x c,X.env.cells.lookup x=some c->c≠b)/\∀p∈X.pn++pins,p.1≠b
def Inv.fpOk {g:St}{H H'}{s}{b:Addr} (I:Inv X pins g H s) (f:s.heap.objs.size<=b) (l:H' b=none):Nq X pins H' b:=by
 refine⟨l,Ua (Qs I.lt f),I.nofs f,.inr (WZ I.sz f),λx c e z=>?_,λp h z=>?_⟩
 ·obtain⟨v,q⟩:=I.cell x c e;exact absurd (Qs q.lt<|by grind) (QW _)
 ·exact absurd (Qs (WY (I.pin p h).1)<|by grind) (QW _)
structure Turn (P:Program) (w:World) (K:Ye) (tg:Expr) (J:It) (fp:List Addr) (it:Addr) (tn:Nat->Heap->Prop):Prop where
 mem:it∈fp
 obj:∀i h,tn i h->∀b∈fp,∃o,h.get? b=some o/\∀v,o.data≠.cell v
 keep:∀i h h',tn i h->(∀b∈fp,∀o,h.get? b=some o->h'.get? b=some o)->tn i h'
 item:∀(X:Cx),X.prog=P->X.w=w->X.K=K->X.calm=true->∀(i:Nat) (pins:Yh) (s:Shared) (σ:St) (H:Hp) (E:Yj),Inv X pins σ H s->(∀b∈fp,Nq X pins H b)->tn i s.heap->J.go i H->
  wpAny (model P w) X.A (pyNext<|.ref it) (λr s1=>∃u,r=some u/\
   wpAny (model P w) X.A (letOwnedTupleGo tg (.ref it) u) (λ_ s2=>∃x H',Inv X pins σ H' s2/\RelV x u/\J.yld i H x H'/\tn (i+1) s2.heap/\∀b∈fp,H' b=none) E s1) E s
 done:∀(X:Cx),X.prog=P->X.w=w->X.K=K->X.calm=true->∀(i:Nat) (pins:Yh) (s:Shared) (σ:St) (H:Hp) (E:Yj),Inv X pins σ H s->(∀b∈fp,Nq X pins H b)->tn i s.heap->J.stop i H->
  wpAny (model P w) X.A (pyNext<|.ref it) (λr s1=>r=none/\Inv X pins σ H s1) E s
 self:∀(A:Around) (i:Nat) (s:Shared) (Q:Yj) (E:Yj),tn i s.heap->Q (.ref it) s->wpAny (model P w) A (pyIter<|.ref it) Q E s
abbrev TI:=St->Hp->(It->Hp->Prop)->Prop
def PIE(X:Cx)(pins:Yh)(o:St)(p:Expr)(R:It->Hp->Prop)(f:Value)(h:Shared):Prop:=
 ∃(l:Addr) (n:List Addr) (tn:Nat->Heap->Prop) (J:It) (g:Hp),f=.ref l/\Inv X pins o g h/\Turn X.prog X.w X.K p J n l tn/\tn 0 h.heap/\(∀b∈n,Nq X pins g b)/\R J g
def PI(X:Cx)(h iter:Expr)(g:TI):Prop:=
 ∀(pins:Yh) (s:Shared) (f:St) (H:Hp) (R:It->Hp->Prop),Inv X pins f H s->g f H R->
  wpAny (model X.prog X.w) X.A (eval iter X.env) (λv l=>wpAny (model X.prog X.w) X.A (pyIter v) (PIE X pins f h R) X.xe l) X.xe s
def DS {s g h u o n vs Q} (l : s.heap.get? h = some o) (p : o.cls = .type n) (hd : o.data = .fields vs)
    (r : ["enumerate", "zip", "dict_itemiterator", "dict_reverseitemiterator", "odict_iterator", "itertools.zip_longest", "itertools.pairwise"].contains n = false) (f : Q () s) : wpAny M A (letOwnedTupleGo g (.ref h) u) Q E s := by
  cases g <;> first
    | exact WN f
    | (cases u <;> first
        | exact WN f
        | (refine WK (wpAny_load l ?_)
           rw [p, hd]
           show wpAny M A (if (["enumerate", "zip", "dict_itemiterator", "dict_reverseitemiterator", "odict_iterator", "itertools.zip_longest", "itertools.pairwise"].contains n && vs[0]? == some (rawInt _)) = true then _ else _) Q E s
           rw [WS (by grind)]
           exact WN f))
noncomputable def Itl(K:Ye)(a:Addr):It:=
 ⟨λi H=>∃xs x,SqL K H a xs/\xs[i]?=some x,λi H x f=>f=H/\∀xs,SqL K H a xs->xs[i]?=some x,λi H=>∃xs,SqL K H a xs/\xs.length<=i⟩
noncomputable def Itt(K:Ye)(a:Addr):It:=
 ⟨λi H=>∃xs x,SqT K H a xs/\xs[i]?=some x,λi H x f=>f=H/\∀xs,SqT K H a xs->xs[i]?=some x,λi H=>∃xs,SqT K H a xs/\xs.length<=i⟩
noncomputable def Itr(lo:Int)(n:Nat):It:=⟨λi _=>i<n,λi H x f=>f=H/\x=.int (lo+i),λi _=>n<=i⟩
def Zbl{K tg}(a it:Addr):Turn P w K tg (Itl K a) [it] it (λi h=>h.IsListIter it a i) where
 mem:=by simp
 obj:=λi h st b hb=>by
  have e:b=it:=by simpa using hb
  subst e;obtain⟨o,e,c,d⟩:=st;exact⟨o,e,λv z=>by rw[d]at z;cases z⟩
 keep:=λi h h' st k=>st.at λo e=>k it (by simp) o e
 item:=by
  intro X hP hw hK hc i pins s σ H E I hf st hg;subst hP hw hK;obtain⟨xs,x,hq,hx⟩:=hg;obtain⟨its,rv,p,hz⟩:=I.list hq;obtain⟨u,hu,ru⟩:=rv.get hx;obtain⟨f0,f1,f2,f3,f4,f5⟩:=hf it (by simp);refine wpAny_pyNext_list_item st p.isList (by simpa using hu) λh' st' sb=>?_;have I1:Inv X pins σ H {s with heap:=h'}:=I.turned (λb o hb e=>(sb.2 b hb).trans e) f0 f1 f3 f4 f5
  obtain⟨o,e,c,d⟩:=id st';exact⟨u,rfl,DS e c d (by decide) ⟨x,H,I1,ru,⟨rfl,λys hy=>by rw[I.list_inj hy hq];exact hx⟩,st',λb hb=>(hf b hb).1⟩⟩
 done:=by
  intro X hP hw hK hc i pins s σ H E I hf st hg;subst hP hw hK;obtain⟨xs,hq,hx⟩:=hg;obtain⟨its,rv,p,hz⟩:=I.list hq;obtain⟨f0,f1,f2,f3,f4,f5⟩:=hf it (by simp);have hl:=rv.length;exact wpAny_pyNext_list_end (I.ok.hd hc) st p.isList (by simp;lia) λh' eb=>⟨rfl,I.turned (λb o hb e=>eb b o hb e) f0 f1 f3 f4 f5⟩
 self:=λ_ _ _ _ _ st h=>wpAny_pyIter_listiter st h
def Za4{K tg}(a it:Addr):Turn P w K tg (Itt K a) [it] it (λi h=>h.IsTupleIter it a i) where
 mem:=by simp
 obj:=λi h st b hb=>by
  have e:b=it:=by simpa using hb
  subst e;obtain⟨o,e,c,d⟩:=st;exact⟨o,e,λv z=>by rw[d]at z;cases z⟩
 keep:=λi h h' st k=>st.at λo e=>k it (by simp) o e
 item:=by
  intro X hP hw hK hc i pins s σ H E I hf st hg;subst hP hw hK;obtain⟨xs,x,hq,hx⟩:=hg;obtain⟨its,rv,p,hz⟩:=I.tuple hq;obtain⟨u,hu,ru⟩:=rv.get hx;obtain⟨f0,f1,f2,f3,f4,f5⟩:=hf it (by simp);refine wpAny_pyNext_tuple_item st p (by simpa using hu) λh' st' sb=>?_;have I1:Inv X pins σ H {s with heap:=h'}:=I.turned (λb o hb e=>(sb.2 b hb).trans e) f0 f1 f3 f4 f5
  obtain⟨o,e,c,d⟩:=id st';exact⟨u,rfl,DS e c d (by decide) ⟨x,H,I1,ru,⟨rfl,λys hy=>by rw[I.tuple_inj hy hq];exact hx⟩,st',λb hb=>(hf b hb).1⟩⟩
 done:=by
  intro X hP hw hK hc i pins s σ H E I hf st hg;subst hP hw hK;obtain⟨xs,hq,hx⟩:=hg;obtain⟨its,rv,p,hz⟩:=I.tuple hq;obtain⟨f0,f1,f2,f3,f4,f5⟩:=hf it (by simp);have hl:=rv.length;exact wpAny_pyNext_tuple_end (I.ok.hd hc) st p (by simp;lia) λh' eb=>⟨rfl,I.turned (λb o hb e=>eb b o hb e) f0 f1 f3 f4 f5⟩
 self:=λ_ _ _ _ _ st h=>wpAny_pyIter_tupleiter st h
def Zni{K tg}(it:Addr)(lo:Int)(n:Nat):Turn P w K tg (Itr lo n) [it] it (λi h=>IsRangeIter h it (lo+(i:Nat)*1) ((n:Int)-(i:Nat)) 1) where
 mem:=by simp
 obj:=λi h st b hb=>by
  have e:b=it:=by simpa using hb
  subst e
  exact⟨_,st,λv z=>by
   cases z⟩
 keep:=λi h h' st k=>k it (by simp) _ st
 item:=by
  intro X hP hw hK hc i pins s σ H E I hf st hg;subst hP hw hK;obtain⟨f0,f1,f2,f3,f4,f5⟩:=hf it (by simp);refine(Walks.range (prog:=X.prog) (w:=X.w) (I.ok.hd hc) it lo 1 n).item i s _ _ hg st λv h' tk hv st' kk=>?_;obtain⟨t,rfl⟩:=hv;have I1:Inv X pins σ H {s with heap:=h',toks:=tk}:=I.turned (λb o hb e=>kk b o (by simpa using hb) e) f0 f1 f3 f4 f5
  refine⟨_,rfl,DS st' rfl rfl (by decide) ⟨.int (lo+i),H,I1,⟨t,?_⟩,⟨rfl,rfl⟩,st',λb hb=>(hf b hb).1⟩⟩;rw[Int.mul_one]
 done:=by
  intro X hP hw hK hc i pins s σ H E I hf st hg;obtain⟨f0,f1,f2,f3,f4,f5⟩:=hf it (by simp);exact wpAny_pyNext_range_end (I.ok.hd hc) st (by have:n<=i:=hg;lia) λh' eb=>⟨rfl,I.turned (λb o hb e=>eb b o hb e) f0 f1 f3 f4 f5⟩
 self:=λ_ _ _ _ _ st h=>wpAny_pyIter_rangeiter st h
section
variable {X:Cx}{tg:Expr}
noncomputable def B0(K:Ye)(h:TE):TI:=λg H R=>h g H λx f=>∃a,x=.ref a/\(∃xs,SqL K f a xs)/\R (Itl K a) f
noncomputable def DG(K:Ye)(h:TE):TI:=λg H R=>h g H λx f=>∃a,x=.ref a/\(∃xs,SqT K f a xs)/\R (Itt K a) f
def Zac(z:PE X l r):PI X tg l (B0 X.K r):=by
 intro pins s n H R I h;refine thn (z pins s n H _ I h) λv g ⟨x,A,f,u,w⟩=>?_;obtain⟨a,e,⟨xs,hq⟩,q⟩:=w;subst e;cases u
 obtain⟨y,B,p,C⟩:=f.list hq;refine wpAny_pyIter_list p.isList ?_;refine⟨g.heap.objs.size,[g.heap.objs.size],_,_,A,rfl,f.kept λb o e=>WO _ e,Zbl a _,⟨_,Qc _ rfl,rfl,rfl⟩,λb E=>?_,q⟩;have e:b=g.heap.objs.size:=by grind
 subst e;exact f.fpOk (WU _) (f.hok.fresh<|WU _)
def Zha(z:PE X l r):PI X tg l (DG X.K r):=by
 intro pins s n H R I h;refine thn (z pins s n H _ I h) λv g ⟨x,A,f,u,w⟩=>?_;obtain⟨a,e,⟨xs,hq⟩,q⟩:=w;subst e;cases u
 obtain⟨y,B,p,C⟩:=f.tuple hq;refine wpAny_pyIter_tuple p ?_;refine⟨g.heap.objs.size,[g.heap.objs.size],_,_,A,rfl,f.kept λb o e=>WO _ e,Za4 a _,⟨_,Qc _ rfl,rfl,rfl⟩,λb E=>?_,q⟩;have e:b=g.heap.objs.size:=by grind
 subst e;exact f.fpOk (WU _) (f.hok.fresh<|WU _)
def Ic{g:St}{H}{s}{R}{E}{lo f}{t u v}{tk}(I:Inv X pins g H s)(x:-(2 ^ 62)<=lo)(r:lo<2 ^ 62)(p:-(2 ^ 62)<=f)(n:f<2 ^ 62)(q:R (Itr lo (f-lo).toNat) H):wpAny (model X.prog X.w) X.A (pyIter<|.ref s.heap.objs.size) (PIE X pins g tg R) E {s with heap:=s.heap.push {cls:=.type "range",data:=.fields #[.int lo t,.int f u,.int 1 v]},toks:=tk}:=by
 refine wpAny_pyIter_range (IsRange.new ..) (small_one x r p n) ?_;have h:Inv X pins g H {s with heap:=s.heap.push {cls:=.type "range",data:=.fields #[.int lo t,.int f u,.int 1 v]},toks:=tk}:=I.kept λb o e=>WO _ e
 refine⟨(s.heap.push {cls:=.type "range",data:=.fields #[.int lo t,.int f u,.int 1 v]}).objs.size,[(s.heap.push {cls:=.type "range",data:=.fields #[.int lo t,.int f u,.int 1 v]}).objs.size],_,_,H,rfl,
  h.kept λb o e=>WO _ e,Zni _ lo (f-lo).toNat,?_,λb l=>?_,q⟩
 ·have z:lo+((0:Nat):Int)*1=lo:=by simp
  have y:(((f-lo).toNat:Nat):Int)-((0:Nat):Int)=Builtin.Range.rangeSize lo f 1:=by rw[rangeSize_one];split<;>lia
  rw[z,y];exact Qc _ rfl
 ·have e:b=(s.heap.push {cls:=.type "range",data:=.fields #[.int lo t,.int f u,.int 1 v]}).objs.size:=by simpa using l
  subst e;exact h.fpOk (WU _) (h.hok.fresh<|WU _)
noncomputable def RT(h:TA):TI:=λf H R=>h f H λg l=>∃j:Int,g=[.int j]/\-(2 ^ 62)<=j/\j<2 ^ 62/\R (Itr 0 j.toNat) l
noncomputable def OJ(h:TA):TI:=λf H R=>h f H λg l=>∃i j:Int,g=[.int i,.int j]/\(-(2 ^ 62)<=i/\i<2 ^ 62/\-(2 ^ 62)<=j/\j<2 ^ 62)/\R (Itr i (j-i).toNat) l
def Zmf(x:Gl X "range")(w:X.mg "range"=none)(y:PA X [a] l)(v:autoParam (starEach [a] X.env=[(false,eval a X.env)]) au_0):PI X tg (.Call (.Name "range" p) [a] [] pos) (RT l):=by
 intro pins s g H R I h;refine Call_ (Fh I x w boot_range<|VT (thn (y pos pins s g H _ I h) λB C ⟨A,E,z,o,f⟩=>?_) v rfl);obtain⟨j,e,f,u,q⟩:=f;subst e;cases o with
 |cons r n=>
  cases n
  obtain⟨t,rfl⟩:=r;exact call_range_1 (Ic z (by lia) (by lia) f u<|by grind)
def Zhe{p pos}(A:Gl X "range")(z:X.mg "range"=none)(B:PA X [a,b] o)(M:autoParam (starEach [a,b] X.env=[(false,eval a X.env),(false,eval b X.env)]) au_0)(l:autoParam (starEach [b] X.env=[(false,eval b X.env)]) au_0) :
  PI X tg (.Call (.Name "range" p) [a,b] [] pos) (OJ o):=by
 intro pins s n H R I h;refine Call_ (Fh I A z boot_range<|VT (thn (B pos pins s n H _ I h) λG L ⟨E,N,C,u,g⟩=>?_) (by grind)<|by rw[l];rfl);obtain⟨i,j,e,⟨g,y,x,w⟩,q⟩:=g;subst e;cases u with
 |cons r f=>
  cases f with
  |cons v f=>
   cases f
   obtain⟨t,rfl⟩:=r;obtain⟨J,rfl⟩:=v;exact call_range_2 (Ic C g y x w q)
noncomputable def HP(p:TI)(g:TG)(r:TS):TS:=λD f H=>p f H λJ u=>∃W:Nat->Nat->St->Hp->Prop,(∃m,W 0 m f u)/\∀i m f H,W i m f H->
 (J.stop i H/\D.nx f H)\/(J.go i H/\∃N:St->Hp->Prop,(∀h l,N h l->∃o,o<m/\W (i+1) o h l)/\∀x l,J.yld i H x l->g x f l λn s=>r {D with nx:=N,ct:=N,bk:=D.nx} n s)
noncomputable def B6(f:List Addr)(h:Heap):Yh:=f.filterMap λb=>(h.get? b).map λo=>(b,o)
def Fk{b o}(f:b∈g)(e:h.get? b=some o):(b,o)∈B6 g h:=JR.mpr ⟨b,f,by rw[e];rfl⟩
def Zsk(f:p∈B6 g h):p.1∈g/\h.get? p.1=some p.2:=by
 obtain⟨b,l,e⟩:=JR.mp f;cases q:h.get? b with
 |_=>grind
def Inv.pinned {f:St}{H}{s}{fp} (I:Inv X pins f H s) (h:∀b∈fp,Nq X pins H b) (n:∀b∈fp,∃o,s.heap.get? b=some o/\∀v,o.data≠.cell v):Inv X (pins++B6 fp s.heap) f H s:=
 I.pins_of λp g=>(Qh.mp g).elim (λz=>I.pin p (Qr _ z)) λz=>by
  obtain⟨l,e⟩:=Zsk z;obtain⟨f0,f1,r,_⟩:=h p.1 l
  grind
def Inv.unpinned {f:St}{H}{s} (I:Inv X (pins++h) f H s):Inv X pins f H s:=I.pins_of λp g=>I.pin p (Qr _<|QU _ g)
def Zoe{wi g tb pos}(Q:PassesOwn (model X.prog X.w) X.A X.env X.xe)(hc:X.calm=true)(hi:PI X tg iter wi)(hg:PG X tg g)(z:PSs X body tb)(hs:autoParam (∀x,foldedSetIterable iter X.env x=pure x) au_3):PS X (.For tg iter body [] pos) (HP wi g tb):=by
 intro pins s σ H D I h;refine wpAny_For (thn (hi pins s σ H _ I h) λv s1 h1=>thn h1 λitv s2 h2=>?_) hs;obtain⟨it,Y,tn,J,H2,e,I2,T,st2,f2,W,⟨m0,w0⟩,turn⟩:=h2;subst e;have stat:∀{C:Hp},(∀b∈Y,C b=none)->∀b∈Y,Nq X pins C b:=λhn b z=>⟨hn b z,(f2 b z).2⟩;refine codeAny_forLoop_any (λn s'=>∃i y C,Inv X pins y C s'/\tn i s'.heap/\(∀b∈Y,C b=none)/\W i n y C) ?_ m0 ⟨0,σ,H2,I2,st2,λb z=>(f2 b z).1,w0⟩;rintro n s3 ⟨i,p,H3,I3,M,U,w3⟩;rcases turn i n p H3 w3 with⟨stop,qn⟩|⟨go,N,hN,step⟩
 ·refine V0 Q (thn (T.done X rfl rfl rfl hc i pins s3 p H3 X.xe I3 (stat U) M stop) ?_);rintro r s4 ⟨hr,I4⟩;subst hr;exact J9 ⟨p,H3,I4,qn⟩
 ·refine V0 Q (thn (T.item X rfl rfl rfl hc i pins s3 p H3 X.xe I3 (stat U) M go) ?_);rintro r s4 ⟨u,hr,h4⟩;subst hr;refine V0 Q (thn h4 ?_);rintro _ s5 ⟨x,H5,I5,r5,y5,G,fr5⟩;refine V0 Q (thn (hg _ s5 p H5 x u _ (I5.pinned (stat fr5)<|T.obj _ _ G) r5<|step x H5 y5) ?_);rintro _ s6 ⟨σ6,H6,I6,q6⟩;refine V0 Q (thn (z _ s6 σ6 H6 _ I6 q6) λf s7 L=>?_)
  have again:∀{l:St} {B:Hp},Inv X (pins++B6 Y s5.heap) l B s7->N l B->∃m,m<n/\∃i y C,Inv X pins y C s7/\tn i s7.heap/\(∀b∈Y,C b=none)/\W i m y C:=λ{l B} E n7=>by
   obtain⟨m',hm,w7⟩:=hN l B n7;refine⟨m',hm,i+1,l,B,E.unpinned,T.keep _ _ _ G λb z o e=>(E.pin (b,o)<|Qr _<|Qr _<|Fk z e).1,λb z=>?_,w7⟩;obtain⟨o,e,d⟩:=T.obj _ _ G b z;exact(E.pin (b,o)<|Qr _<|Qr _<|Fk z e).2.1
  cases f with
  |brk=>obtain⟨l,B,E,L⟩:=L;exact⟨l,B,E.unpinned,L⟩
  |ret v=>obtain⟨x7,l,B,E,r7,L⟩:=L;exact⟨x7,l,B,E.unpinned,r7,L⟩
  |_=>obtain⟨l,B,E,n7⟩:=L;exact again E n7
end
abbrev R2:=V->V->Hp->VK->Prop
def OpR(X:Cx)(f:Value->Value->Sem Value)(r:R2):Prop:=
 ∀(pins:Yh) (s:Shared) (g:St) (H:Hp) (x y:V) (v u:Value) (Q:VK),Inv X pins g H s->RelV x v->RelV y u->r x y H Q->
  wpAny (model X.prog X.w) X.A (f v u) (EP X pins g Q) X.xe s
def UnR(X:Cx)(f:Value->Sem Value)(r:V->Hp->VK->Prop):Prop:=
 ∀(pins:Yh) (s:Shared) (g:St) (H:Hp) (x:V) (v:Value) (Q:VK),Inv X pins g H s->RelV x v->r x H Q->
  wpAny (model X.prog X.w) X.A (f v) (EP X pins g Q) X.xe s
def Kv(X:Cx)(f:Value)(r:List V->Hp->VK->Prop):Prop:=
 ∀(pins:Yh) (s:Shared) (g:St) (H:Hp) (xs:List V) (h:Ym) (Q:VK),Inv X pins g H s->Vals xs h->r xs H Q->
  wpAny (model X.prog X.w) X.A (call f h) (EP X pins g Q) X.xe s
def Zq9(X:Cx)(r:V->Hp->(Bool->Hp->Prop)->Prop):Prop:=
 ∀(pins:Yh) (s:Shared) (f:St) (H:Hp) (x:V) (v:Value) (Q:Bool->Hp->Prop),Inv X pins f H s->RelV x v->r x H Q->
  wpAny (model X.prog X.w) X.A (truthy v) (TP X pins f Q) X.xe s
noncomputable def tOp(r:R2)(h g:TE):TE:=λf H Q=>h f H λx n=>g f n λy l=>r x y l Q
noncomputable def tUn(r:V->Hp->VK->Prop)(g:TE):TE:=λf H Q=>g f H λx h=>r x h Q
noncomputable def rI(C:Int->Int->Prop)(g:Int->Int->V):R2:=λx y H Q=>∃i j,x=.int i/\y=.int j/\C i j/\Q (g i j) H
noncomputable def rI0(g:Int->Int->V):R2:=λx y H Q=>∃i j,x=.int i/\y=.int j/\Q (g i j) H
def rU(g:Int->V):V->Hp->VK->Prop:=λx H Q=>∃i,x=.int i/\Q (g i) H
section
variable {X:Cx}{a b c:Expr}{ta tb tc:TE}{pos:Pos}
def AA(E:PE X a ta)(C:PE X b tb){pins}{s}{g:St}{H}{R:V->V->Hp->Prop}(I:Inv X pins g H s)(h:ta g H λx r=>tb g r λy o=>R x y o){Q}{f:Value->Value->Sem Value}(N:∀v u p x y o,Inv X pins g o p->RelV x v->RelV y u->R x y o->wpAny (model X.prog X.w) X.A (f v u) Q X.xe p) :
  wpAny (model X.prog X.w) X.A (eval a X.env) (λv n=>wpAny (model X.prog X.w) X.A (eval b X.env) (λu l=>wpAny (model X.prog X.w) X.A (f v u) Q X.xe l) X.xe n) X.xe s:=by
 refine thn (E pins s g H _ I h) λv z ⟨x,r,G,L,B⟩=>?_;refine thn (C pins z g r _ G B) λu p ⟨y,o,T,J,M⟩=>?_
 grind
def NP(p:OpR X (binaryOp o) r)(z:PE X a ta)(w:PE X b tb):PE X (.BinOp a o b pos) (tOp r ta tb):=by
 intro pins s f H Q I h;exact wpAny_BinOp (AA z w I h λv u g x y B A n l q=>p pins g f B x y v u Q A n l q)
def KQ(p:UnR X (unaryOp o) r)(u:PE X a ta):PE X (.UnaryOp o a pos) (tUn r ta):=by
 intro pins s f H Q I h;exact UnaryOp_ (thn (u pins s f H _ I h) λv g ⟨x,y,w,l,n⟩=>p pins g f y x v Q w l n)
def opI{C}{g:Int->Int->Int}(rule:∀i j t u s Q E,C i j->Q (.int (g i j) s.toks) {s with toks:=s.toks+1}->wpAny (model X.prog X.w) X.A (f (.int i t)<|.int j u) Q E s) :
  OpR X f (rI C λi j=>.int (g i j)):=by
 intro pins s r H x y v u Q I o n h;obtain⟨i,j,rfl,rfl,p,q⟩:=h;obtain⟨t,rfl⟩:=o;obtain⟨l,rfl⟩:=n;exact rule i j t l s _ _ p ⟨.int (g i j),H,I.tok _,⟨_,rfl⟩,q⟩
def Zah{g:Int->Int->Int}(rule:∀i j t u s Q E,Q (.int (g i j) s.toks) {s with toks:=s.toks+1}->wpAny (model X.prog X.w) X.A (f (.int i t)<|.int j u) Q E s) :
  OpR X f (rI0 λi j=>.int (g i j)):=by
 intro pins s p H x y v u Q I o n h;obtain⟨i,j,rfl,rfl,q⟩:=h;obtain⟨t,rfl⟩:=o;obtain⟨l,rfl⟩:=n;exact rule i j t l s _ _ ⟨.int (g i j),H,I.tok _,⟨_,rfl⟩,q⟩
def DF{g:Int->Int->Bool}(rule:∀i j t u s Q E,Q (.bool<|g i j) s->wpAny (model X.prog X.w) X.A (f (.int i t)<|.int j u) Q E s) :
  OpR X f (rI0 λi j=>.bl (g i j)):=by
 intro pins s p H x y v u Q I o n h;obtain⟨i,j,rfl,rfl,q⟩:=h;obtain⟨t,rfl⟩:=o;obtain⟨l,rfl⟩:=n;exact rule i j t l s _ _ ⟨.bl (g i j),H,I,rfl,q⟩
def CK(i j:Int):Prop:=0<j/\j<1073741824
def Dn(i j:Int):Prop:=0<=j/\j<=1000000/\i.natAbs<2 ^ 64
def CMul(i j:Int):Prop:=(-(2 ^ 64)<i/\i<2 ^ 64)\/(-(2 ^ 64)<j/\j<2 ^ 64)
def CMul.ok (h:CMul i j):IntMulOk i j:=by
 rcases h with⟨g,f⟩|⟨g,f⟩
 ·exact .of_left (intBits_le_64 g f)
 ·exact .of_right (intBits_le_64 g f)
def XS:OpR X (binaryOp .Add) (rI0 λi j=>.int (i+j)):=Zah λ_ _ _ _ _ _ _ q=>add_int q
def Kl:OpR X (binaryOp .Sub) (rI0 λi j=>.int (i-j)):=Zah λ_ _ _ _ _ _ _ q=>sub_int q
def N3:OpR X (binaryOp .Mult) (rI CMul λi j=>.int (i*j)):=opI λ_ _ _ _ _ _ _ f q=>mul_int q f.ok
def Kq:OpR X (binaryOp .FloorDiv) (rI CK λi j=>.int (i / j)):=opI λi j _ _ _ _ _ f q=>by
 have h:=f.1;have g:=f.2;exact floordiv_int (by lia) (by rw[Int.fdiv_eq_ediv_of_nonneg i (by lia)];exact q) (.inl<|PyProof.noPylong_small<|by lia)
def XN:OpR X (binaryOp .Mod) (rI (λ_ j=>0<j) λi j=>.int (i % j)):=opI λi j _ _ _ _ _ f q=>by
 exact mod_int' (by lia) (by grind)
def CH:OpR X (binaryOp .Pow) (rI Dn λi j=>.int (i ^ j.toNat)):=opI λ_ _ _ _ _ _ _ f q=>pow_int_small f.1 f.2.1 f.2.2 q
def unI{g:Int->Int}(rule:∀i t s Q E,Q (.int (g i) s.toks) {s with toks:=s.toks+1}->wpAny (model X.prog X.w) X.A (f<|.int i t) Q E s) :
  UnR X f (rU λi=>.int (g i)):=by
 intro pins s n H x v Q I l h;obtain⟨i,rfl,q⟩:=h;obtain⟨t,rfl⟩:=l;exact rule i t s _ _ ⟨.int (g i),H,I.tok _,⟨_,rfl⟩,q⟩
def KN:UnR X (unaryOp .USub) (rU λi=>.int (-i)):=unI λ_ _ _ _ _ q=>neg_int q
end
noncomputable def Gu:V->V->Bool
 | .non,.non=>true | .non,.int _=>true | .int _,.non=>true | .non,.bl _=>true | .bl _,.non=>true | .non,.str _=>true | .str _,.non=>true
 | .int _,.int _=>true | .bl _,.bl _=>true | .str _,.str _=>true | .byt _,.byt _=>true
 | .int _,.str _=>true | .str _,.int _=>true | .bl _,.str _=>true | .str _,.bl _=>true
 |_,_=>false
noncomputable def rEq:R2:=λx y H Q=>Gu x y=true/\Q (.bl<|decide (x=y)) H
noncomputable def rNe:R2:=λx y H Q=>Gu x y=true/\Q (.bl (!decide (x=y))) H
def IR{i j:Int}:decide (V.int i=V.int j)=(i==j):=by
 rw[JA];simp
def RG{i j:Bool}:decide (V.bl i=V.bl j)=(i==j):=by
 rw[JA];simp
def MP{i j:Str}:decide (V.str i=V.str j)=(i==j):=by
 rw[JA];simp
def HZ{i j:Array UInt8}:decide (V.byt i=V.byt j)=(i.toList==j.toList):=by
 rw[JA];cases i
 cases j
 simp
section
variable {X:Cx}{a b c:Expr}{ta tb tc:TE}{pos:Pos}
def Ke{f:St}{H}{s}{Q}{k k'}(I:Inv X pins f H s)(q:Q (.bl k) H)(e:k=k'):EP X pins f Q (.bool k') s:=by
 subst e;exact⟨.bl k,H,I,rfl,q⟩
def op_eq:OpR X (compareOp .Eq) rEq:=by
 intro pins s o H x y v u Q I n f h;obtain⟨l,q⟩:=h;cases x with
 |non=>
  cases n
  cases y with
  |non=>cases f;exact PySem.EqNone.eq_none_none (Ke I q<|by simp)
  |bl j=>cases f;exact PySem.EqNone.eq_none_bool (Ke I q<|by simp)
  |int j=>obtain⟨g,rfl⟩:=f;exact PySem.EqNone.eq_none_int (Ke I q<|by simp)
  |str j=>obtain⟨g,rfl⟩:=f;exact PySem.EqNone.eq_none_str (Ke I q<|by simp)
  |_=>exact absurd l Ql
 |bl i=>
  cases n
  cases y with
  |non=>cases f;exact PySem.EqNone.eq_bool_none (Ke I q<|by simp)
  |bl j=>cases f;exact eq_bool (Ke I q RG)
  |str j=>obtain⟨g,rfl⟩:=f;exact PySem.EqMixed.eq_bool_str (Ke I q<|by simp)
  |_=>exact absurd l Ql
 |int i=>
  obtain⟨t,rfl⟩:=n;cases y with
  |non=>cases f;exact PySem.EqNone.eq_int_none (Ke I q<|by simp)
  |int j=>obtain⟨g,rfl⟩:=f;exact eq_int (Ke I q IR)
  |str j=>obtain⟨g,rfl⟩:=f;exact PySem.EqMixed.eq_int_str (Ke I q<|by simp)
  |_=>exact absurd l Ql
 |str i=>
  obtain⟨t,rfl⟩:=n;cases y with
  |non=>cases f;exact PySem.EqNone.eq_str_none (Ke I q<|by simp)
  |bl j=>cases f;exact PySem.EqMixed.eq_str_bool (Ke I q<|by simp)
  |int j=>obtain⟨g,rfl⟩:=f;exact PySem.EqMixed.eq_str_int (Ke I q<|by simp)
  |str j=>obtain⟨g,rfl⟩:=f;exact eq_str (Ke I q MP)
  |_=>exact absurd l Ql
 |byt i=>
  obtain⟨t,rfl⟩:=n;cases y with
  |byt j=>obtain⟨g,rfl⟩:=f;exact PySem.W.eq_bytes (Ke I q HZ)
  |_=>exact absurd l Ql
 |_=>cases y<;>exact absurd (show false=true from l) Ql
def op_ne:OpR X (compareOp .NotEq) rNe:=by
 intro pins s o H x y v u Q I n f h;obtain⟨l,q⟩:=h;cases x with
 |non=>
  cases n
  cases y with
  |non=>cases f;exact PySem.EqNone.ne_none_none (Ke I q<|by simp)
  |bl j=>cases f;exact PySem.EqNone.ne_none_bool (Ke I q<|by simp)
  |int j=>obtain⟨g,rfl⟩:=f;exact PySem.EqNone.ne_none_int (Ke I q<|by simp)
  |str j=>obtain⟨g,rfl⟩:=f;exact PySem.EqNone.ne_none_str (Ke I q<|by simp)
  |_=>exact absurd l Ql
 |bl i=>
  cases n
  cases y with
  |non=>cases f;exact PySem.EqNone.ne_bool_none (Ke I q<|by simp)
  |bl j=>cases f;exact ne_bool (Ke I q<|QA not RG)
  |str j=>obtain⟨g,rfl⟩:=f;exact PySem.EqMixed.ne_bool_str (Ke I q<|by simp)
  |_=>exact absurd l Ql
 |int i=>
  obtain⟨t,rfl⟩:=n;cases y with
  |non=>cases f;exact PySem.EqNone.ne_int_none (Ke I q<|by simp)
  |int j=>obtain⟨g,rfl⟩:=f;exact ne_int (Ke I q<|QA not IR)
  |str j=>obtain⟨g,rfl⟩:=f;exact PySem.EqMixed.ne_int_str (Ke I q<|by simp)
  |_=>exact absurd l Ql
 |str i=>
  obtain⟨t,rfl⟩:=n;cases y with
  |non=>cases f;exact PySem.EqNone.ne_str_none (Ke I q<|by simp)
  |bl j=>cases f;exact PySem.EqMixed.ne_str_bool (Ke I q<|by simp)
  |int j=>obtain⟨g,rfl⟩:=f;exact PySem.EqMixed.ne_str_int (Ke I q<|by simp)
  |str j=>obtain⟨g,rfl⟩:=f;exact ne_str (Ke I q<|QA not MP)
  |_=>exact absurd l Ql
 |byt i=>
  obtain⟨t,rfl⟩:=n;cases y with
  |byt j=>obtain⟨g,rfl⟩:=f;exact PySem.W.ne_bytes (Ke I q<|QA not HZ)
  |_=>exact absurd l Ql
 |_=>cases y<;>exact absurd (show false=true from l) Ql
def KY:OpR X (compareOp .Lt) (rI0 λi j=>.bl (decide (i<j))):=DF λ_ _ _ _ _ _ _ q=>lt_int q
def K9:OpR X (compareOp .Gt) (rI0 λi j=>.bl (decide (j<i))):=DF λ_ _ _ _ _ _ _ q=>gt_int q
def Sz:OpR X (compareOp .GtE) (rI0 λi j=>.bl (decide (j<=i))):=DF λ_ _ _ _ _ _ _ q=>ge_int q
def OpR.or (h:OpR X f r) (p:OpR X f o):OpR X f (λx y H Q=>r x y H Q\/o x y H Q):=by
 intro pins s g H x y v u Q I n l q;rcases q with q|q
 ·exact h pins s g H x y v u Q I n l q
 ·exact p pins s g H x y v u Q I n l q
def Py(b:Expr){op}(h:autoParam (op≠.In) au_1)(l:autoParam (op≠.NotIn) au_1):behindInMarks op b=false:=by
 have g:(op==CmpOp.In)=false:=by grind
 have f:(op==CmpOp.NotIn)=false:=by grind
 cases b<;>simp[behindInMarks,g,f]
def Nf(p:OpR X (compareOp f) r)(A:PE X a ta)(z:PE X b tb)(w:behindInMarks f b=false):PE X (.Compare a [f] [b] pos) (tOp r ta tb):=by
 intro pins s g H Q I h;exact wpAny_Compare1 (AA A z I h λv u l x y C B o n q=>p pins l g C x y v u Q B o n q) w
noncomputable def Av(t:TE):TT:=λf H Q=>t f H λx g=>∃k,x=.bl k/\Q k g
def TJ(E:OpR X (compareOp g) r)(L:PE X a ta)(J:PE X b tb)(G:behindInMarks g b=false):PT X (.Compare a [g] [b] pos) (Av<|tOp r ta tb):=by
 intro pins s f H Q I h
 refine wpAny_isTrue_Compare1 (thn (L pins s f H _ I h) λv n ⟨x,H1,T,w,C⟩=>thn (J pins n f H1 _ T C) λu l ⟨y,Y,N,p,B⟩=>
  thn (E pins l f Y x y v u _ N w p B) λc s3 ⟨z,U,M,o,k,e,A⟩=>?_) G
 subst e;cases o
 exact V6 ⟨U,M,A⟩
def Ge(K:Ye)(x:V)(H:Hp)(k:Bool):Prop:=
 match x with
 | .non=>k=false
 | .bl b=>k=b
 | .int i=>k=(i != 0)
 | .str y=>y.length<=sizeLine/\k=((y.length:Int) != 0)
 | .byt y=>y.size<=sizeLine/\k=((y.size:Int) != 0)
 | .ref p=>(∃xs,SqL K H p xs/\k=!xs.isEmpty)\/(∃xs,SqT K H p xs/\k=!xs.isEmpty)\/∃f,H p=some (.dK f)/\k=!f.isEmpty
 |_=>False
def Zeu(r:KV f vs):(!vs.isEmpty)=!f.isEmpty:=by
 cases r<;>rfl
def Lg(r:Vals xs f):(!f.toArray.isEmpty)=!xs.isEmpty:=by
 cases r<;>simp
def F9:(sizeLine:Nat)<2 ^ 63:=by trivial
def Zo9:Zq9 X (λx H Q=>∃k,Ge X.K x H k/\Q k H):=by
 intro pins s B H x v Q I l h;obtain⟨k,e,q⟩:=h;have G:=F9;have E:=Jw;cases x with
 |non=>
  cases l
  have f:=e;subst f;exact truthy_none ⟨H,I,q⟩
 |bl b=>
  cases l
  have f:=e;subst f;exact V6 ⟨H,I,q⟩
 |int i=>
  obtain⟨t,rfl⟩:=l;have f:=e;subst f;exact PySem.P.truthy_int ⟨H,I,q⟩
 |str y=>
  obtain⟨t,rfl⟩:=l;obtain⟨z,f⟩:=e;subst f;exact PySem.P.truthy_str (by lia) ⟨H,I.tok _,q⟩
 |byt y=>
  obtain⟨t,rfl⟩:=l;obtain⟨z,f⟩:=e;subst f;exact PySem.W.truthy_bytes (by lia) ⟨H,I.tok _,q⟩
 |ref p=>
  cases l
  have f:=e;rcases f with⟨xs,hx,f⟩|⟨xs,hx,f⟩|⟨w,hx,f⟩
  ·subst f;obtain⟨o,r,n,u⟩:=I.list hx;have g:=r.length;exact wpAny_truthy_list n.isList (by simp only[Qv];lia) ⟨H,I.tok _,by rw[Lg r];exact q⟩
  ·subst f;obtain⟨o,r,n,u⟩:=I.tuple hx;have g:=r.length;exact truthy_tuple n (by simp only[Qv];lia) ⟨H,I.tok _,by rw[Lg r];exact q⟩
  ·subst f;obtain⟨u,A,C,r,m⟩:=I.hok p _ hx;have g:=Paired.length r;exact wpAny_truthy_dict A m (by lia) ⟨H,I.tok _,by rw[Zeu r];exact q⟩
 |_=>exact e.elim
def Zsh(p:PE X a ta)(o:∀whole,isTrue a X.env whole=(do let v ←whole;standAt a.pos;holding [v] (truthy v))) :
  PT X a (λf H Q=>ta f H λx H'=>∃k,Ge X.K x H' k/\Q k H'):=by
 intro pins s f H Q I h;exact isTrue_plain (thn (p pins s f H _ I h) λv g ⟨x,u,r,l,n⟩=>Zo9 pins g f u x v Q r l n) (o _)
def vals1(r:Vals [x] us):∃u,us=[u]/\RelV x u:=by
 cases r with
 |cons g f=>cases f;exact⟨_,rfl,g⟩
def vals2(r:Vals [x,y] us):∃u f,us=[u,f]/\RelV x u/\RelV y f:=by
 cases r with
 |cons n l=>
  cases l with
  |cons h g=>cases g;exact⟨_,_,rfl,n,h⟩
def On(g:X.calm=true):Kv X (.builtin "max") (λxs H Q=>∃i j,xs=[.int i,.int j]/\Q (.int (if j>i then j else i)) H):=by
 intro pins s l H xs o Q I r h;obtain⟨i,j,rfl,q⟩:=h;obtain⟨u,n,rfl,⟨t,rfl⟩,⟨v,rfl⟩⟩:=vals2 r;refine max_two_ints (I.ok.hd g) λw p k=>⟨_,H,I.kept k,?_,q⟩;by_cases f:j>i
 ·rw[WT f,WT f];exact⟨_,rfl⟩
 ·rw[WS f,WS f];exact⟨_,rfl⟩
def Ze1:Kv X (.type "int") (λxs H Q=>(∃i,xs=[.int i]/\Q (.int i) H)\/∃k,xs=[.bl k]/\Q (.int (if k then 1 else 0)) H):=by
 intro pins s g H xs l Q I r h;rcases h with⟨i,rfl,q⟩|⟨k,rfl,q⟩
 ·obtain⟨u,rfl,t,rfl⟩:=vals1 r;exact call_int_int ⟨.int i,H,I,⟨_,rfl⟩,q⟩
 ·obtain⟨u,rfl,f⟩:=vals1 r;cases f
  exact call_int_bool ⟨.int (if k then 1 else 0),H,I.tok _,⟨_,rfl⟩,q⟩
def F0(K:Ye)(x:V)(H:Hp)(n:Nat):Prop:=
 match x with
 | .str y=>y.length<=sizeLine/\n=y.length
 | .byt y=>y.size<=sizeLine/\n=y.size
 | .ref p=>(∃xs,SqL K H p xs/\n=xs.length)\/∃xs,SqT K H p xs/\n=xs.length
 |_=>False
def Zqe:Kv X (.builtin "len") (λxs H Q=>∃x n,xs=[x]/\F0 X.K x H n/\Q (.int n) H):=by
 intro pins s B H xs C Q I r h;obtain⟨x,n,rfl,e,q⟩:=h;obtain⟨u,rfl,l⟩:=vals1 r;have E:=Jw;cases x with
 |str y=>
  obtain⟨t,rfl⟩:=l;obtain⟨A,g⟩:=e;subst g;exact len_str (by lia) ⟨.int _,H,I.tok _,⟨_,rfl⟩,q⟩
 |byt y=>
  obtain⟨t,rfl⟩:=l;obtain⟨A,g⟩:=e;subst g;exact PySem.W.len_bytes (by lia) ⟨.int _,H,I.tok _,⟨_,rfl⟩,q⟩
 |ref p=>
  cases l
  have g:=e;rcases g with⟨xs,hx,g⟩|⟨xs,hx,g⟩
  ·subst g;obtain⟨w,o,v,z⟩:=I.list hx;have f:=o.length;exact Calls.call_len_list v.isList (by simp only[Qv];lia) ⟨.int xs.length,H,I.tok _,⟨_,by simp only[Qv];rw[f]⟩,q⟩
  ·subst g;obtain⟨w,o,v,z⟩:=I.tuple hx;have f:=o.length;exact len_tuple v (by simp only[Qv];lia) ⟨.int xs.length,H,I.tok _,⟨_,by simp only[Qv];rw[f]⟩,q⟩
 |_=>exact e.elim
end
structure Sa (h:Heap) (x dx C:Addr) (mA:Yi):Prop where
 obj:h.get? x=some (PySem.W.instObj C dx)
 ns:h.Ns1 dx mA
 ne:dx≠x
def MD{h:Heap}{dx}{mA}(n:h.Ns1 dx mA):∃od,h.get? dx=some od/\∀name,PySem.W.lookIn name od=some (mA name):=by
 obtain⟨o,s,u,l,hd,r,_,p⟩:=n;refine⟨o,l,λname=>?_⟩;have e:=p name;unfold nsFind findBy at e;unfold PySem.W.lookIn;rw[hd]
 dsimp only
 split
 ·grind
 ·rename_i q
  have a:s.toList.any (·.refKey)=false:=by
   rw[List.any_eq_false];intro y g;obtain⟨z,t,f⟩:=r y (Array.mem_toList_iff.mp g);simp[DictEntry.refKey,f]
  grind
def Sa.look (I:Sa h x n C f):∃od,PySem.W.InstAt h x (PySem.W.instObj C n) C (some od)/\∀name,PySem.W.lookIn name od=some (f name):=
 let ⟨od,g,l⟩:=MD I.ns
 ⟨od,⟨I.obj,rfl,rfl,g⟩,l⟩
section
variable {prog:Program}{w:World}{A:Around}{E:Yj}{s:Shared}{K:Ye}{x dx C f:Addr}{mA:Yi}{name:Str}{v:Value}
def Zp1{Q}(X:K.In s.heap)(I:Sa s.heap x dx C mA)(n:PySem.W.plainGet K C name=true)(l:PySem.W.hasDictIn K C=true)(o:PySem.W.findIn K (.ref C) name=some none)(r:mA name=some v)(g:PySem.W.handedIn v=true)(h:Q v {s with toks:=s.toks+1}) :
  wpAny (model prog w) A (getAttr (.ref x) name expr) Q E s:=by
 obtain⟨p,J,u⟩:=I.look;exact PySem.W.get_value X J (JK n).1 (PySem.W.findObj_own l o rfl<|by grind) g h
def Zj4{Q}(X:K.In s.heap)(I:Sa s.heap x dx C mA)(g:PySem.W.plainGet K C name=true)(r:PySem.W.findIn K (.ref C) name=some (some<|.ref f))(o:PySem.W.isFn K (.ref f)=true)(n:mA name=none)(h:Q (.ref f,[.ref x]) s) :
  wpAny (model prog w) A (getMethod (.ref x) name u) Q E s:=by
 obtain⟨l,J,p⟩:=I.look;exact PySem.W.method_fn X J (JK g).1 (JK g).2 r (beq_iff_eq.mp o) (by show(PySem.W.lookIn name l).map (·.isSome)=some false;rw[p,n];rfl) h
def Zbu(X:K.In s.heap)(I:Sa s.heap x dx C mA)(B:PySem.W.findIn K (.ref C) "__setattr__"=some (some<|.builtin "object.__setattr__"))(G:PySem.W.plainOver K C=true)(z:PySem.W.takerIn K C name=some none)(H:PySem.W.hasDictIn K C=true)(hw:PySem.Within mA ns)(hsz:ns.length<=sizeLine)(h:∀n,Sa n x dx C (λy=>if y=name then some v else mA y)->Heap.SameBut dx s.heap n->Q () {s with heap:=n,toks:=s.toks+2}) :
  wpAny (model prog w) A (setAttr (.ref x) name v) Q E s:=by
 obtain⟨T,J,Y⟩:=I.look;refine PySem.W.set_plain X J B (PySem.W.osa_open X J G z λb=>?_);obtain⟨cd,L,r⟩:=J0 H;refine WK (WN<|WK<|WK<|wpAny_loadPart I.obj<|WK<|JS (JL X L) ?_);rw[r];refine WN (WK<|WN<|WK ?_);refine wpAny_nsSet1 I.ns λn l g=>?_;obtain⟨U,M,N,o,p,u⟩:=l.count (PySem.Within.cons name v hw);refine WK (wpAny_lookBehind o (by rw[p];exact pastItsLine_dict (WZ u<|by grind)) ?_);exact WN (h _ ⟨(g.2 _<|Ne.symm I.ne).trans I.obj,l,I.ne⟩ g)
def Zav{vs g}(X:K.In s.heap)(l:PySem.W.makesIn K C=true)(n:PySem.W.findIn K (.ref C) "__init__"=some (some<|.ref f))(o:PySem.W.typeIn K (.ref f)=some (.type "function"))
  (h:codeAny (model prog w) (A.under<|.builtin "type.__call__" ⟨.ref C::vs,g⟩) (.call (.ref f) ⟨.ref (s.heap.objs.size+1)::vs,g⟩) (PySem.W.InitBack (s.heap.objs.size+1) R)
   {s with heap:=(s.heap.push PySem.W.emptyDict).push (PySem.W.instObj C s.heap.objs.size)}) :
  codeAny (model prog w) A (.call (.ref C) ⟨vs,g⟩) R s:=PySem.W.make_core (PySem.W.makes_of X l) (QV X n) (λself=>PySem.W.bind_fn X self o) (.inl rfl) h
end
noncomputable def KP(f:Str)(v:V):List (Str×V)->List (Str×V)
 |[]=>[(f,v)]
 |(g,x)::r=>if g=f then(g,v)::r else(g,x)::KP f v r
theorem HF(f g:Str)(v:V):∀fs,(KP f v fs).lookup g=if g=f then some v else fs.lookup g
 |[]=>by
  show List.lookup g [(f,v)]=_;by_cases h:g=f
  ·have l:=beq_iff_eq.mpr h;simp only[List.lookup,l,WT h]
  ·have l:=Vp.mpr h;simp only[List.lookup,l,WS h]
 |(k,x)::r=>by
  rw[show KP f v ((k,x)::r)=(if k=f then(k,v)::r else(k,x)::KP f v r)from rfl]
  by_cases n:k=f
  ·rw[WT n];by_cases h:g=k
   ·simp_all
   ·have l:=Vp.mpr h;simp only[List.lookup,l,WS (λe:g=f=>h (e.trans n.symm))]
  ·rw[WS n];by_cases h:g=k
   ·simp_all
   ·have l:=Vp.mpr h;simp only[List.lookup,l];exact(HF f g v r)
theorem EY(f:Str)(v:V):∀fs,f∈(KP f v fs).map (·.1)/\∀g,g∈fs.map (·.1)->g∈(KP f v fs).map (·.1)
 |[]=>⟨by simp[KP],λg h=>by simp at h⟩
 |(k,x)::r=>by
  obtain⟨n,l⟩:=EY f v r;rw[show KP f v ((k,x)::r)=(if k=f then(k,v)::r else(k,x)::KP f v r)from rfl]
  by_cases o:k=f
  ·grind
  ·grind
theorem La(f:Str)(v:V):∀fs,(KP f v fs).length<=fs.length+1
 |[]=>by simp[KP]
 |(k,x)::r=>by
  have g:=La f v r;rw[show KP f v ((k,x)::r)=(if k=f then(k,v)::r else(k,x)::KP f v r)from rfl]
  by_cases h:k=f
  ·grind
  ·grind
def RelO.some_of (r:RelO (some v) o):∃u,o=some u/\RelV v u:=by
 cases o with
 |none=>trivial
 |some u=>exact⟨u,rfl,r⟩
def RelO.none_of (r:RelO none o):o=none:=by
 cases o with
 |none=>rfl
 |some u=>trivial
def Zaa(r:RelV v u):PySem.W.handedIn u=true:=by
 cases v with
 |non|bl b|ref a|ty n=>cases r;rfl
 |_=>obtain⟨t,e⟩:=r;cases e;rfl
section
variable {P:Program}{w:World}{H H':Hp}{h h':Heap}{a C dx:Addr}{fs fs':List (Str×V)}
def Fx(l:HOk P w H h)(e:H a=some (.ins C dx fs)):∃g,Sa h a dx C g/\(∀f,RelO (fs.lookup f) (g f))/\PySem.Within g (fs.map (·.1))/\fs.length<=1000/\H dx=some (.own a):=by
 obtain⟨d,z,p,o,g,n,r,q⟩:=(l a _ e);exact⟨g,⟨o,n,p⟩,r,q,z,d⟩
end
structure Cls (K:Ye) (C:Addr):Prop where
 pg:PySem.W.plainGet K C Str.empty=true
 hd:PySem.W.hasDictIn K C=true
 po:PySem.W.plainOver K C=true
 sa:PySem.W.findIn K (.ref C) "__setattr__"=some (some<|.builtin "object.__setattr__")
def Cls.get {K C} (c:Cls K C) (f:Str):PySem.W.plainGet K C f=true:=c.pg
def NoAttr(K:Ye)(C:Addr)(f:Str):Prop:=PySem.W.findIn K (.ref C) f=some none
def NoAttr.taker {K C f} (n:NoAttr K C f):PySem.W.takerIn K C f=some none:=by
 unfold PySem.W.takerIn;rw[show PySem.W.findIn K (.ref C) f=some none from n]
 rfl
structure XH (K:Ye) (C:Addr) (m:Str) (f:Addr):Prop where
 at_:PySem.W.findIn K (.ref C) m=some (some<|.ref f)
 fn:PySem.W.isFn K (.ref f)=true
 kp:PySem.W.keepIn K (.ref f)=true
section
variable {X:Cx}{pins:Yh}{σ:St}{H:Hp}{s:Shared}{a C dx:Addr}{fs:List (Str×V)}{f:Str}{v:V}{A:Around}{E:Yj}
def Zlg{Q}(I:Inv X pins σ H s)(e:H a=some (.ins C dx fs))(c:Cls X.K C)(n:NoAttr X.K C f)(l:fs.lookup f=some v)(h:∀u g,Inv X pins σ H g->RelV v u->Q u g):wpAny (model X.prog X.w) A (getAttr (.ref a) f b) Q E s:=by
 obtain⟨x,O,r,_,_,_⟩:=Fx I.hok e;obtain⟨u,p,o⟩:=RelO.some_of (by rw[←l];exact r f);exact Zp1 I.kIn O (c.get f) c.hd n p (Zaa o) (h u _ (I.tok _) o)
def A2{Q}(I:Inv X pins σ H s)(e:H a=some (.ins C dx fs))(c:Cls X.K C)(k:XH X.K C m g)(l:fs.lookup m=none)(h:Q (.ref g,[.ref a]) s):wpAny (model X.prog X.w) A (getMethod (.ref a) m n) Q E s:=by
 obtain⟨o,O,r,_,_,_⟩:=Fx I.hok e;exact Zj4 I.kIn O (c.get m) k.at_ k.fn (RelO.none_of<|by rw[←l];exact r m) h
def Zin(I:Inv X pins σ H s)(e:H a=some (.ins C dx fs))(c:Cls X.K C)(n:NoAttr X.K C f)(hl:fs.length<1000)(J:RelV y u)(h:∀x,Inv X pins σ (upd H a<|.ins C dx<|KP f y fs) x->Q () x):wpAny (model X.prog X.w) A (setAttr (.ref a) f u) Q E s:=by
 obtain⟨L,O,r,p,_,B⟩:=Fx I.hok e;have M:(fs.map (·.1)).length<=sizeLine:=by rw[WL,Jw];lia
 refine Zbu I.kIn O c.sa c.po n.taker c.hd p M λU l G=>h _ ?_;have hd:∃o,U.get? dx=some o:=let ⟨o,_,_,Y,_⟩:=l.ns;⟨o,Y⟩;refine I.write (by rw[e];exact True.intro) (.inr B) (λb q T z=>(G.2 b T).trans z) hd ?_;refine⟨by rw[X1 O.ne];exact B,?_,O.ne,l.obj,_,l.ns,λg=>?_,λg N=>?_⟩
 ·have:=La f y fs;lia
 ·show RelO ((KP f y fs).lookup g) (if g=f then some u else L g);rw[HF];by_cases q:g=f
  ·rw[WT q,WT q];exact J
  ·grind
 ·by_cases q:g=f
  ·rw[q];exact(EY f y fs).1
  ·refine(EY f y fs).2 g (p g λz=>N ?_)
   grind
def Inv.made (I:Inv X pins σ H s):Inv X pins σ (upd (upd H s.heap.objs.size<|.own (s.heap.objs.size+1)) (s.heap.objs.size+1)<|.ins C s.heap.objs.size [])
  {s with heap:=(s.heap.push PySem.W.emptyDict).push (PySem.W.instObj C s.heap.objs.size)}:=by
 have h:(s.heap.push PySem.W.emptyDict).get? s.heap.objs.size=some PySem.W.emptyDict:=Qc s.heap rfl
 have r:((s.heap.push PySem.W.emptyDict).push (PySem.W.instObj C s.heap.objs.size)).get? (s.heap.objs.size+1)=some (PySem.W.instObj C s.heap.objs.size):=by
  have:=Qc (s.heap.push PySem.W.emptyDict) (o:=PySem.W.instObj C s.heap.objs.size) rfl
  rwa[Vs]at this
 have p:(s.heap.push PySem.W.emptyDict).Ns s.heap.objs.size (λ_=>none):=⟨PySem.W.emptyDict,#[],_,h,rfl,(λe n=>absurd n (by simp)),λ_=>rfl⟩;refine(I.laid (o:=.own (s.heap.objs.size+1)) (t':=s.toks) (λb u q=>WO _ q) (WU _) ⟨_,h⟩).laid (λb u q=>WO _ q) (Vi<|Vs _ _) ?_;have g:s.heap.objs.size≠s.heap.objs.size+1:=Qo (VB _);refine⟨by rw[X1 g,XG],QY _,g,r,λ_=>none,(Heap.Ns1.of_empty p).at λo q=>WO _ q,λ_=>True.intro,λy l=>absurd rfl l⟩
def Hu{env e f pos s Q}(l:attributeBase e f env (eval e env)=eval e env)(h:wpAny (model prog w) A (eval e env) (λo g=>wpAny (model prog w) A (getAttr o f true) Q E g) E s):wpAny (model prog w) A (eval (.Attribute e f pos) env) Q E s:=
 Attribute_any_ h (by rw[arm_eval_Attribute,l])
end
noncomputable def Fy(K:Ye)(l:TE)(f:Str):TE:=λh H Q=>l h H λx g=>∃a C n fs v,x=.ref a/\g a=some (.ins C n fs)/\Cls K C/\NoAttr K C f/\fs.lookup f=some v/\Q v g
noncomputable def HU(K:Ye)(o n:TE)(f:Str):TS:=λD g H=>n g H λy p=>o g p λx l=>∃a C h fs,x=.ref a/\l a=some (.ins C h fs)/\Cls K C/\NoAttr K C f/\fs.length<1000/\
 D.nx g (upd l a<|.ins C h<|KP f y fs)
section
variable {X:Cx}{o e value:Expr}{f:Str}{pos pos' tpos:Pos}{ta tv:TE}
def Pk(w:PE X e ta)(y:attributeBase e f X.env (eval e X.env)=eval e X.env):PE X (.Attribute e f pos) (Fy X.K ta f):=by
 intro pins s g H Q I h;refine Hu y (thn (w pins s g H _ I h) ?_);rintro u M ⟨x,G,E,p,a,C,N,fs,v,z,A,c,n,l,q⟩;subst z;obtain rfl:=p;exact Zlg E A c n l λJ L B r=>⟨v,G,B,r,q⟩
def E7(B:PE X o ta)(z:PE X value tv)(A:swapsWith value (some<|.Attribute o f pos') pos.line X.env=pure false):PS X (.Assign [.Attribute o f pos'] value pos) (HU X.K ta tv f):=by
 intro pins s g H D I h;refine plainObj_wpAny_Assign_Attribute (thn (z pins s g H _ I h) ?_) A;rintro u p ⟨y,N,M,r,q⟩;refine thn (B pins p g N _ M q) ?_;rintro U T ⟨x,H2,L,v,a,C,Y,fs,E,G,c,n,l,w⟩;subst E;obtain rfl:=v;exact Zin L G c n l r λQ J=>⟨g,_,J,w⟩
def Zsm{m}{apos}{args}{pins}{s}{n:St}{H}{Q}{te}(G:PE X e te)(I:Inv X pins n H s)
  (h:te n H λx r=>∃a C y fs g,x=.ref a/\r a=some (.ins C y fs)/\Cls X.K C/\XH X.K C m g/\fs.lookup m=none/\
   ∀p,Inv X pins n r p->wpAny (model X.prog X.w) X.A (callWith pos (.ref g) [.ref a] (backTo pos<|starEach args X.env)<|backToKw pos<|keywordEach [] X.env) Q X.xe p)
  (E:eval (.Call (.Attribute e m apos) args [] pos) X.env=(do
   let v ←eval e X.env
   standAt apos.atName
   let (f,first) ←holding [v] (getMethod v m M)
   callWith pos f first (backTo pos<|starEach args X.env) (backToKw pos<|keywordEach [] X.env))) :
  wpAny (model X.prog X.w) X.A (eval (.Call (.Attribute e m apos) args [] pos) X.env) Q X.xe s:=by
 refine VQ (thn (G pins s n H _ I h) ?_) E;rintro u p ⟨x,r,z,B,a,C,y,fs,g,J,L,c,k,l,q⟩;subst J;obtain rfl:=B;exact A2 z L c k l (q p z)
end
section
variable {X:Cx}{pins:Yh}{σ:St}{H:Hp}{s:Shared}{A:Around}{E:Yj}{Q:Yj}{c:Value}{b:Bool}
inductive Ph (K:Ye) (H:Hp):V->Value->Prop where
 |non:Ph K H .non (.type "NoneType")
 |bl (x:Bool):Ph K H (.bl x) (.type "bool")
 |int (i:Int):Ph K H (.int i) (.type "int")
 |str (x:Str):Ph K H (.str x) (.type "str")
 |flt (x:UInt64):Ph K H (.flt x) (.type "float")
 |lst {a:Addr} {xs:List V} (e:H a=some (.lst xs)):Ph K H (.ref a) (.type "list")
 |frz {a:Addr} {o:Obj} {xs:List V} (e:H a=some (.frz o<|.lst xs)):Ph K H (.ref a) (.type "list")
 |tup {a:Addr} {xs:List V} (e:H a=some (.tup xs)):Ph K H (.ref a) (.type "tuple")
 |dK {a:Addr} {kvs:List (Key×V)} (e:H a=some (.dK kvs)):Ph K H (.ref a) (.type "dict")
 |dT {a:Addr} {kvs:List (List Key×V)} (e:H a=some (.dT kvs)):Ph K H (.ref a) (.type "dict")
 |ins {a C dx:Addr} {fs:List (Str×V)} (e:H a=some (.ins C dx fs)) (cl:Cls K C) (ha:PySem.W.findIn K (.ref C) "__class__"=some (some<|.builtin "object.__class__"))
   (hn:PySem.W.specialIn K (.builtin "object.__class__") "__get__"=some (some<|.builtin "getset_descriptor.__get__")) (htk:PySem.W.takesIn K (.builtin "object.__class__")=some true)
   (hm:PySem.W.mroIn K C (.type "object")=some true):Ph K H (.ref a) (.ref C)
def Znm(I:Inv X pins σ H s)(f:RelV x u)(L:Ph X.K H x t)(e:PySem.W.kitOne X.K t c=some b)(h:∀M,Q (.bool b) {s with toks:=M}) :
  wpAny (model X.prog X.w) A (call (.builtin "isinstance") [u,c]) Q E s:=by
 cases L with
 |non=>cases f;exact QL PySem.W.kitx_none I.kIn True.intro e (λz=>nomatch z) h
 |bl y=>cases f;exact QL PySem.W.kitx_bool I.kIn True.intro e (λz=>nomatch z) h
 |int i=>obtain⟨t,q⟩:=f;cases q;exact QL PySem.W.kitx_int I.kIn True.intro e (λz=>nomatch z) h
 |str y=>obtain⟨t,q⟩:=f;cases q;exact QL PySem.W.kitx_str I.kIn True.intro e (λz=>nomatch z) h
 |flt y=>obtain⟨t,q⟩:=f;cases q;exact QL PySem.W.kitx_float I.kIn True.intro e (λz=>nomatch z) h
 | @lst a xs g=>
  cases f
  obtain⟨_,_,n,_,l⟩:=(I.hok a _ g);exact QL PySem.W.kitx_list I.kIn ⟨_,l,rfl⟩ e (λz=>nomatch z) h
 | @frz a ob xs g=>
  cases f
  obtain⟨_,_,_,n,_,l⟩:=(I.hok a _ g);exact QL PySem.W.kitx_list I.kIn ⟨_,l,rfl⟩ e (λz=>nomatch z) h
 | @tup a xs g=>
  cases f
  obtain⟨_,_,_,p⟩:=(I.hok a _ g);obtain⟨o,l,r,_⟩:=p;exact QL PySem.W.kitx_tuple I.kIn ⟨o,l,r⟩ e (λz=>nomatch z) h
 | @dK a v g=>
  cases f
  obtain⟨_,_,vs,_,p⟩:=(I.hok a _ g);obtain⟨o,Y,ep,l,r,_⟩:=p;exact QL PySem.W.kitx_dict I.kIn ⟨o,l,r.1⟩ e (λz=>nomatch z) h
 | @dT a v g=>
  cases f
  obtain⟨_,_,xs,_,o,Y,ep,l,r,_⟩:=(I.hok a _ g);exact QL PySem.W.kitx_dict I.kIn ⟨o,l,r.1⟩ e (λz=>nomatch z) h
 | @ins a C dx fs g G U N B T=>
  cases f
  obtain⟨mA,O,_⟩:=Fx I.hok g;obtain⟨od,J,_⟩:=O.look;exact QL (PySem.W.kitx_own (G.get _) G.hd U N B T) I.kIn J e (λz=>nomatch z) h
end
structure X5 (k:Nat) (A:Around):Prop where
 hd:A.handled=none
 dp:A.depth+3*k+5<recursionLimit
 un:A.units+16*k+200<cLine
 gd:A.guards=some []
def X5.mono {j k A} (r:X5 k A) (h:j<=k):X5 j A:=⟨r.hd,by have:=r.dp;lia,by have:=r.un;lia,r.gd⟩
def X5.deeper (r:X5 (k+1) A) (env:Env):X5 k (A.deeper env):=
 ⟨r.hd,by have:=r.dp;show A.depth+1+3*k+5<_;lia,by have:=r.un;show A.units+3+16*k+200<_;lia,r.gd⟩
def Zcz{A:Around}{C}{us}{kw}:(A.under<|.builtin "type.__call__" ⟨.ref C::us,kw⟩).depth=A.depth+1:=by
 rfl
def Zdb{A:Around}{C}{us}{kw}:(A.under<|.builtin "type.__call__" ⟨.ref C::us,kw⟩).units=A.units+1:=rfl
def Zrd{A:Around}{C:Addr}{us:Ym}{f:List (Str×Value)}(h:A.guards=some []):(A.under<|.builtin "type.__call__" ⟨.ref C::us,f⟩).guards=some []:=by
 simpa [Around.under,Code.guards,Code.isGuard,guardIds,pushGuards]using h
def X5.make (r:X5 (k+1) A) (C:Addr) (us:Ym) (f:List (Str×Value)):X5 k (A.under<|.builtin "type.__call__" ⟨.ref C::us,f⟩):=
 ⟨r.hd,by have:=r.dp;rw[Zcz];lia,by have:=r.un;rw[Zdb];lia,Zrd r.gd⟩
def X5.depth (r:X5 k A):A.depth<recursionLimit:=by have:=r.dp;lia
def X5.units (r:X5 k A):A.units+64<cLine:=by have:=r.un;lia
def X5.units0 (r:X5 k A):A.units<cLine:=by have:=r.un;lia
noncomputable def KR:TA:=λ_ H Q=>Q [] H
noncomputable def Kp(h:TE)(g:TA):TA:=λf H Q=>h f H λx n=>g f n λxs l=>Q (x::xs) l
section
variable {X:Cx}{e:Expr}{es:Yo}{te:TE}{t:TA}{pos:Pos}
def KF:PA X [] KR:=λ_ _ _ _ H Q I h=>Calls.spliced_nil ⟨[],H,I,.nil,h⟩
def Kb(w:PE X e te)(v:PA X es t)(r:autoParam (starEach (e::es) X.env=(false,eval e X.env)::starEach es X.env) au_0):PA X (e::es) (Kp te t):=by
 intro pos pins s f H Q I h;rw[r];refine Calls.spliced_cons (thn (w pins s f H _ I h) ?_);rintro u g ⟨x,B,z,n,p⟩;exact thn (v pos pins g f B _ z p) λC E ⟨xs,A,y,l,o⟩=>⟨x::xs,A,y,.cons n l,o⟩
noncomputable def Cj(t:TA):TE:=λg H Q=>t g H λxs f=>xs.length<=sizeLine/\∀p,f p=none->Q (.ref p) (upd f p<|.tup xs)
noncomputable def M2(t:TA):TE:=λg H Q=>t g H λxs f=>xs.length<=sizeLine/\∀p,f p=none->Q (.ref p) (upd f p<|.lst xs)
def Pz(h:PA X es t):PE X (.Tuple es p pos) (Cj t):=by
 intro pins s l H Q I hq;refine wpAny_Tuple_spliced (thn (h pos pins s l H _ I hq) ?_);rintro n f ⟨xs,o,g,r,z,q⟩;refine⟨by rw[←r.length];exact z,?_⟩;refine⟨.ref f.heap.objs.size,upd o f.heap.objs.size (.tup xs),g.laid (λb u e=>WO _ e) (WU _) ?_,rfl,q _ (g.hok.fresh<|WU _)⟩;exact⟨z,n,r,⟨_,Qc _ rfl,rfl,_,rfl⟩⟩
def KS(h:PA X es t):PE X (.List es pos) (M2 t):=by
 intro pins s l H Q I hq;refine wpAny_List_spliced (thn (h pos pins s l H _ I hq) ?_);rintro n f ⟨xs,o,g,r,z,q⟩;refine⟨by rw[←r.length];exact z,?_⟩;refine⟨.ref f.heap.objs.size,upd o f.heap.objs.size (.lst xs),g.laid (λb u e=>WO _ e) (WU _) ?_,rfl,q _ (g.hok.fresh<|WU _)⟩;exact⟨z,n,0,r,Qc _ rfl⟩
end
abbrev Sp:=List V->Hp->VK->XK->Prop
abbrev CXT:=List Env->Hp->Shared->XK->Yj
structure NQ (P:Program) (w:World) (K:Ye) (mg:Yi) (base:Heap) (A:Around) (outer:List Env) (s:Shared) (H:Hp):Prop where
 frames:A.frames=some outer
 mod:Mod K mg base
 bs:∀b o,base.get? b=some o->s.heap.get? b=some o/\H b=none
 bsz:base.objs.size<=s.heap.objs.size
 funs:s.heap.FunFrames base outer
 frf:∀b∈frs outer,H b=none
 hok:HOk P w H s.heap
 bare:AllBare s.gens
def CE(outer:List Env)(P:Program)(w:World)(H:Hp)(s:Shared)(Q:VK)(u:Value)(f:Shared):Prop:=
 ∃v g,f.os=s.os/\AllBare f.gens/\Un (frs outer) [] H g s.heap f.heap/\HOk P w g f.heap/\RelV v u/\Q v g
def CR(CX:CXT)(outer:List Env)(P:Program)(w:World)(H:Hp)(s:Shared)(Q:VK)(E:XK)(r:Result)(f:Shared):Prop:=
 match r with
 | .ok (.ret u)=>CE outer P w H s Q u f
 | .ok _=>False
 | .error e=>CX outer H s E e f
structure KG (P:Program) (w:World) (K:Ye) (mg:Yi) (base:Heap) (CX:CXT) (k:Nat) (f:Addr) (fd:FuncData) (ps:Yn) (sp:Sp):Prop where
 len:∀vs H Q E,sp vs H Q E->vs.length=ps.length
 run:∀(A:Around) (outer:List Env) (s:Shared) (H:Hp) (args:Args) (us:Ym) (vs:List V) (Q:VK) (E:XK),X5 k A->NQ P w K mg base A outer s H->BindsTo s fd args (ps.zip us)->Vals vs us->sp vs H Q E->
  codeAny (model P w) A (.call (.ref f) args) (CR CX outer P w H s Q E) s
def KG.imp {K l base CX k f n ps sp g} (F:KG P w K l base CX k f n ps sp)
  (h:∀vs H Q E,g vs H Q E->sp vs H Q E):KG P w K l base CX k f n ps g:=
 ⟨λvs H Q E q=>F.len vs H Q E (h _ _ _ _ q),λA outer s H args o vs Q E u v x p r=>F.run A outer s H args o vs Q E u v x p (h _ _ _ _ r)⟩
def NQ.make {K f base A outer s H} (e:NQ P w K f base A outer s H) (C:Addr) (us:Ym) (g:List (Str×Value)) :
  NQ P w K f base (A.under<|.builtin "type.__call__" ⟨.ref C::us,g⟩) outer s H:=⟨by first|exact e.frames|(simpa [Around.under,Code.envs,Code.isFrame,pushEnvs]using e.frames),e.mod,e.bs,e.bsz,e.funs,e.frf,e.hok,e.bare⟩
section
variable {X:Cx}{pins:Yh}{σ:St}{H:Hp}{s s':Shared}
def Inv.env0 (I:Inv X pins σ H s):NQ X.prog X.w X.K X.mg X.base X.A X.stack s H:=
 ⟨I.ok.frames,I.ok.mod,I.bs,WZ I.ok.bsz I.sz,I.stack,I.stkFree,I.hok,I.bare⟩
def Inv.after (I:Inv X pins σ H s) (h:CE X.stack X.prog X.w H s Q u s'):EP X pins σ Q u s':=by
 obtain⟨v,n,os,bare,un,f,r,q⟩:=h;obtain⟨o,g,d,t,l⟩:=s';obtain rfl:=os;exact⟨v,n,I.call un f bare (λb z=>absurd z (by simp)),r,q⟩
end
noncomputable def N0(sp:Sp)(f:List V)(E:XK)(t:TA):TE:=λg H Q=>t g H λh l=>sp (h++f) l Q E
noncomputable def Nw(C:Addr)(m:Str)(sp:Sp)(f:List V)(E:XK)(n:TE)(t:TA):TE:=λg H Q=>n g H λx h=>∃a o fs,x=.ref a/\h a=some (.ins C o fs)/\fs.lookup m=none/\
 t g h λl p=>sp (x::(l++f)) p Q E
noncomputable def EZ(C:Addr)(sp:Sp)(g:List V)(E:XK)(t:TA):TE:=λl H Q=>t l H λn h=>∀x f,h x=none->h f=none->f≠x->
 sp (.ref x::(n++g)) (upd (upd h f<|.own x) x<|.ins C f []) (λv o=>v=.non/\Q (.ref x) o) E
def Binds(K:Ye)(g:FuncData)(ps:Yn)(ds:Ym):Prop:=
 ∀(s:Shared) (f:Ym),K.In s.heap->(f++ds).length=ps.length->BindsTo s g ⟨f,[]⟩ (ps.zip (f++ds))
def Binds.all {K g ps} (h:∀us,us.length=ps.length->bindArgs g ⟨us,[]⟩=pure (ps.zip us)):Binds K g ps []:=λs us _ f=>by
 rw[Q8]at f ⊢;exact .of_eq (h us f)
def P5(CX:CXT)(X:Cx)(E:XK):Prop:=∀(pins:Yh) (g:St) (H:Hp) (s:Shared) (e:Value) (f:Shared),Inv X pins g H s->CX X.stack H s E e f->X.xe e f
section
variable {X:Cx}{CX:CXT}{k:Nat}{f C:Addr}{fd:FuncData}{ps:Yn}{sp:Sp}{dvs:List V}{ds:Ym}{E:XK}{x m:Str}{p pos apos:Pos}{e o:Expr}{es:Yo}{ta:TE}{t:TA}
def DK{g:St}{H}{s}{Q}{us}{vs}(F:KG X.prog X.w X.K X.mg X.base CX k f fd ps sp)(v:X5 k X.A)(z:Binds X.K fd ps ds)(hd:Vals dvs ds)(hx:P5 CX X E)(I:Inv X pins g H s)(r:Vals vs us)(h:sp (vs++dvs) H Q E):wpAny (model X.prog X.w) X.A (call (.ref f) us) (EP X pins g Q) X.xe s:=by
 have l:=r.append hd;have y:(us++ds).length=ps.length:=by rw[←l.length];exact F.len _ _ _ _ h
 refine JB (Vx (F.run X.A X.stack s H ⟨us,[]⟩ (us++ds) (vs++dvs) Q E v I.env0 (z s us I.kIn y) l h) λr n hq=>?_);cases r with
 |error e=>exact hx pins g H s e n I hq
 |ok B=>
  cases B with
  |ret u=>exact I.after hq
  |cont=>exact False.elim hq
  |_=>trivial
def Zqq(F:KG X.prog X.w X.K X.mg X.base CX k f fd ps sp)(v:X5 k X.A)(B:Gl X x)(y:X.mg x=some (.ref f))(z:PySem.W.keepIn X.K (.ref f)=true)(J:Binds X.K fd ps ds)(hd:Vals dvs ds)(hx:P5 CX X E)(L:PA X (e::es) t)(l:autoParam ((x==("__debug__" : Str))=false) au_1)(G:autoParam (starEach (e::es) X.env=(false,eval e X.env)::starEach es X.env) au_0)(g:autoParam ((backTo pos<|starEach es X.env).any (·.1)=false) au_0) :
  PE X (.Call (.Name x p) (e::es) [] pos) (N0 sp dvs E t):=by
 intro pins s u H Q I h;refine Jb (Sw I B y ?_ l);refine JT I.ok.mod.kin z (thn (L pos pins s u H _ I h) ?_) G g;rintro N T ⟨M,U,n,r,q⟩;refine⟨n.kIn,?_⟩;exact DK F v J hd hx n r q
def Zrg{pl}(U:PE X o ta)(c:Cls X.K C)(z:XH X.K C m f)(F:KG X.prog X.w X.K X.mg X.base CX k f fd ps sp)(T:X5 k X.A)(Y:Binds X.K fd ps ds)(hd:Vals dvs ds)(hx:P5 CX X E)(ha:PA X (e::es) t)(g:autoParam (starEach (e::es) X.env=(false,eval e X.env)::starEach es X.env) au_0)(n:autoParam ((backTo pos<|starEach es X.env).any (·.1)=false) au_0)
  (N:autoParam (eval (.Call (.Attribute o m apos) (e::es) [] pos) X.env=(do
   let y ←eval o X.env
   standAt apos.atName
   let (f,first) ←holding [y] (getMethod y m pl)
   callWith pos f first (backTo pos<|starEach (e::es) X.env) (backToKw pos<|keywordEach [] X.env))) au_0) :
  PE X (.Call (.Attribute o m apos) (e::es) [] pos) (Nw C m sp dvs E ta t):=by
 intro pins s v H Q I h;refine VQ (thn (U pins s v H _ I h) ?_) N;rintro u J ⟨x,H1,G,L,a,dx,fs,ex,ea,l,q⟩;subst ex;obtain rfl:=L;refine A2 G ea c z l ?_;refine JT I.ok.mod.kin z.kp (thn (ha pos pins J v H1 _ G q) ?_) g n;rintro us s2 ⟨vs,H2,B,r,M⟩;refine⟨B.kIn,?_⟩;exact DK (vs:=.ref a::vs) F T Y hd hx B (.cons rfl r) M
def Zn3(G:PE X o ta)(c:Cls X.K C)(r:XH X.K C m f)(F:KG X.prog X.w X.K X.mg X.base CX k f fd ps sp)(B:X5 k X.A)(J:Binds X.K fd ps ds)(hd:Vals dvs ds)(hx:P5 CX X E)
  (z:autoParam (eval (.Call (.Attribute o m apos) [] [] pos) X.env=(do
   let n ←eval o X.env
   standAt apos.atName
   let (f,first) ←holding [n] (getMethod n m T)
   callWith pos f first (backTo pos<|starEach [] X.env) (backToKw pos<|keywordEach [] X.env))) au_0) :
  PE X (.Call (.Attribute o m apos) [] [] pos) (Nw C m sp dvs E ta KR):=by
 intro pins s v H Q I h;refine VQ (thn (G pins s v H _ I h) ?_) z;rintro u N ⟨x,Y,g,y,a,U,fs,L,M,l,q⟩;subst L;obtain rfl:=y;refine A2 g M c r l ?_;exact PySem.W.callWith_K0 g.kIn r.kp (DK (vs:=[.ref a]) F B J hd hx g (.cons rfl .nil) q)
structure Mk (K:Ye) (C f:Addr):Prop where
 makes:PySem.W.makesIn K C=true
 init:PySem.W.findIn K (.ref C) "__init__"=some (some<|.ref f)
 fn:PySem.W.isFn K (.ref f)=true
 kp:PySem.W.keepIn K (.ref C)=true
def Zbc{y:St}{H}{s}{Q}{us}{vs}(M:Mk X.K C f)(F:KG X.prog X.w X.K X.mg X.base CX k f fd ps sp)(L:X5 (k+1) X.A)(T:Binds X.K fd ps ds)(hd:Vals dvs ds)(hx:P5 CX X E)(I:Inv X pins y H s)(r:Vals vs us)(h:∀x l,H x=none->H l=none->l≠x->sp (.ref x::(vs++dvs)) (upd (upd H l<|.own x) x<|.ins C l []) (λv H2=>v=.non/\Q (.ref x) H2) E) :
  wpAny (model X.prog X.w) X.A (call (.ref C) us) (EP X pins y Q) X.xe s:=by
 have hq:=h (s.heap.objs.size+1) s.heap.objs.size (I.hok.fresh<|VN _) (I.hok.fresh<|WU _) (Qo<|VB _);have n:=Inv.made (C:=C) I;have z:Vals (V.ref (s.heap.objs.size+1)::(vs++dvs)) (Value.ref (s.heap.objs.size+1)::(us++ds)):=.cons rfl (r.append hd)
 have N:(Value.ref (s.heap.objs.size+1)::us++ds).length=ps.length:=by
  have e:=z.length;rw[F.len _ _ _ _ hq]at e
  grind
 refine JB (Zav I.kIn M.makes M.init (beq_iff_eq.mp M.fn) (Vx (F.run _ X.stack _ _ ⟨Value.ref (s.heap.objs.size+1)::us,[]⟩ (Value.ref (s.heap.objs.size+1)::(us++ds)) _ _ E (L.make C us [])
  (n.env0.make C us []) (T _ (Value.ref (s.heap.objs.size+1)::us) n.kIn N) z hq) λr B g=>?_))
 cases r with
 |error e=>exact hx pins y _ _ e B n g
 |ok U=>
  cases U with
  |ret u=>
   obtain⟨v,H',I3,G,Y,J⟩:=n.after g;subst Y;exact⟨G,⟨V.ref (s.heap.objs.size+1),H',I3,rfl,J⟩⟩
  |_=>exact False.elim g
def Zif(M:Mk X.K C f)(F:KG X.prog X.w X.K X.mg X.base CX k f fd ps sp)(v:X5 (k+1) X.A)(z:Gl X x)(y:X.mg x=some (.ref C))(G:Binds X.K fd ps ds)(hd:Vals dvs ds)(hx:P5 CX X E)(J:PA X (e::es) t)(l:autoParam ((x==("__debug__" : Str))=false) au_1)(B:autoParam (starEach (e::es) X.env=(false,eval e X.env)::starEach es X.env) au_0)(g:autoParam ((backTo pos<|starEach es X.env).any (·.1)=false) au_0) :
  PE X (.Call (.Name x p) (e::es) [] pos) (EZ C sp dvs E t):=by
 intro pins s u H Q I h;refine Jb (Sw I z y ?_ l);refine JT I.ok.mod.kin M.kp (thn (J pos pins s u H _ I h) ?_) B g;rintro N T ⟨L,U,n,r,q⟩;refine⟨n.kIn,?_⟩;exact Zbc M F v G hd hx n r q
end
structure Xw (N P:Yn) (sc:Scope):Prop where
 kind:sc.kind=.function
 co:sc.isCoroutine=false
 gen:sc.isGenerator=false
 nd:N.Nodup
 pre:N.take P.length=P
 par:∀x∈P,sc.names.lookup x=some .local\/sc.names.lookup x=some .cell
 nofree:∀y∈sc.names,y.2≠.free
theorem GD{kindOf x}:∀{binds}{m:Yi},(∀v,(x,v)∉binds)->bindL kindOf binds m x=m x
 |[],_,_=>rfl
 |(n,v)::r,m,h=>by
  unfold bindL;rw[GD λw hw=>h w (Qk _ hw)];split
  ·grind
  ·rfl
theorem Ms{kindOf x}:∀{binds}{m:Yi},(∀v,(x,v)∉binds)->bindC kindOf binds m x=m x
 |[],_,_=>rfl
 |(n,v)::r,m,h=>by
  unfold bindC;rw[Ms λw hw=>h w (Qk _ hw)];split
  ·rfl
  ·grind
theorem Zam{kindOf}{x}{v}:∀{P:Yn}{vs}{i:Nat}{m:Yi},P.Nodup->P[i]?=some x->vs[i]?=some v->kindOf x=some .local->
  bindL kindOf (P.zip vs) m x=some v
 |[],_,_,_,_,h,_,_|_::_,[],_,_,_,_,h,_=>by simp at h
 |p::P,w::vs,0,m,f,n,l,g=>by
  simp at n l;subst n;subst l;show bindL kindOf ((p,w)::P.zip vs) m p=_;unfold bindL;rw[GD λv o=>(QC.mp f).1 (List.of_mem_zip o).1,WT g];simp
 |p::P,w::vs,i+1,m,f,n,l,g=>by
  unfold bindL;exact Zam (QC.mp f).2 (by trivial) (by grind) g
theorem Ip{kindOf}{x}{v}:∀{P:Yn}{vs}{i:Nat}{m:Yi},P.Nodup->P[i]?=some x->vs[i]?=some v->kindOf x≠some .local->
  bindC kindOf (P.zip vs) m x=some v
 |[],_,_,_,_,h,_,_|_::_,[],_,_,_,_,h,_=>by simp at h
 |p::P,w::vs,0,m,f,n,l,g=>by
  simp at n l;subst n;subst l;show bindC kindOf ((p,w)::P.zip vs) m p=_;unfold bindC;rw[Ms λv o=>(QC.mp f).1 (List.of_mem_zip o).1,WS g];simp
 |p::P,w::vs,i+1,m,f,n,l,g=>by
  unfold bindC;exact Ip (QC.mp f).2 (by trivial) (by grind) g
noncomputable def start(N:Yn)(vs:List V):St:=vs.map some++List.replicate (N.length-vs.length) none
noncomputable def Kj(CX:CXT)(P:Program)(w:World)(K:Ye)(mg:Yi)(base:Heap)(N:Yn)(qual:Str)(scope:Scope)(f:Addr)(cd:Value)(A:Around)(outer:List Env)(s:Shared)(H:Hp)(E:XK):Cx where
 prog:=P
 w:=w
 K:=K
 mg:=mg
 base:=base
 A:=A.deeper (envOfC qual scope s.heap.objs.size f cd)
 N:=N
 s₀:=s
 H₀:=H
 env:=envOfC qual scope s.heap.objs.size f cd
 outer:=outer
 stack:=envOfC qual scope s.heap.objs.size f cd::outer
 ex:=[]
 calm:=true
 fn:=λ_=>true
 pn:=[]
 xe:=λe s'=>wpAny (model P w) (A.deeper<|envOfC qual scope s.heap.objs.size f cd) (leaving (envOfC qual scope s.heap.objs.size f cd) e) (λ_ s''=>CX outer H s E e s'') (λe' s''=>CX outer H s E e' s'') s'
def HA{f:Scope}{n}{x}(h:f.names.lookup x=some .cell):∃c,(cellsFrom n f.names []).lookup x=some c:=by
 exact Option.isSome_iff_exists.mp (PySem.W.cellsFrom_some f.names n []<|.inl h)
def Zo2{P}{w}{K}{mg}{base}{N ps}{qual}{scope}{f}{cd}{A}{outer}{s L}{H}{E}{us}{vs}(S:Xw N ps scope)(hd:A.handled=none)(l:NQ P w K mg base A outer s H)(hl:vs.length=ps.length)(r:Vals vs us)(x:InCallC s s.heap.objs.size (bindL (envOfC qual scope s.heap.objs.size f cd).kindOf (ps.zip us) λ_=>none) (cellsFrom (s.heap.objs.size+1) scope.names []) (bindC (envOfC qual scope s.heap.objs.size f cd).kindOf (ps.zip us) λ_=>none) L) :
  Inv (Kj CX P w K mg base N qual scope f cd A outer s H E) [] (start N vs) H L:=by
 have U:ps.length<=N.length:=by have:=QA List.length S.pre;rw[Qp]at this;lia
 obtain⟨J,tk,rfl,Q⟩:=x.done;have n:∀b,b∉(Kj CX P w K mg base N qual scope f cd A outer s H E).ex:=λb z=>absurd (show b∈([]:List Addr)from z) (by simp)
 refine⟨⟨l.mod,S.kind,rfl,rfl,WU _,λy z c J g=>?_,λy o=>?_,λy c _ h=>?_,λ_=>hd,Around.frames_deeper l.frames,.inr ⟨rfl,rfl⟩,λb z=>absurd z (n b),l.bs,l.bsz,λb _ _=>n b,λb z=>absurd z (n b),l.funs,l.frf⟩,
  rfl,l.bare,Un.kept Q,⟨_,x.toInCall.ns,λi y v J g h3=>?_⟩,λy c h=>⟨_,x.cell y c h⟩,l.hok.fresh (WU _),λy c h=>?_,λp C=>absurd (show p∈([]:Yh)from C) (by simp),l.hok.kept Q,?_⟩
 ·exact name_of_addr x.apart (Vq J) (Vq g)
 ·have o:=o;rcases o with o|o
  ·exact HA o
  ·exact absurd rfl (S.nofree _<|Vq o)
 ·exact Ja (x.above y c<|Vq h)
 ·have G:i<vs.length:=by
   unfold start at g;by_cases G:i<vs.length
   ·exact G
   ·rw[Qy (by simpa using G)]at g;rw[VJ]at g;split at g<;>cases g
  have Y:vs[i]?=some v:=by
   unfold start at g;rw[Qw (by simpa using G),WX]at g;cases e:vs[i]? with
   |none=>rw[e]at g;cases g
   |some a=>rw[e]at g;cases g;rfl
  obtain⟨u,M,T⟩:=r.get Y
  have C:ps[i]?=some y:=by
   rw[←S.pre,Vj (by lia)];exact J
  have B:ps.Nodup:=by rw[←S.pre];exact S.nd.sublist (Jq _ _)
  refine⟨u,T,?_⟩;rcases S.par y (Qj C)with k|k
  ·exact .inl ⟨k,Zam B C M k⟩
  ·obtain⟨c,e⟩:=HA k;refine .inr ⟨.inl k,c,e,?_⟩;have q:=x.cell y c e;rw[Ip B C M (by show scope.names.lookup y≠_;rw[k];decide)]at q;exact q
 ·exact l.hok.fresh (Ja<|x.above y c<|Vq h)
 ·unfold start;show _=N.length;rw[WW,WL,List.length_replicate];lia
def Ek{K M base k f name qual params body scope dV kV L pm g ct oc an od Y N ps sp}(lk:K.lookup f=some ⟨oc,od,.func (PySem.W.fnOf name qual params body scope dV kV L pm an g ct),Y⟩)(hcd:PySem.W.codeIn K g qual=true)(S:Xw N ps scope)(len:∀vs H Q E,sp vs H Q E->vs.length=ps.length)
  (p:∀A outer s H vs Q E,X5 k (A.deeper<|envOfC qual scope s.heap.objs.size f g)->sp vs H Q E->
   ∃t,PSs (Kj CX P w K M base N qual scope f g A outer s H E) body t/\t {nx:=λ_ H'=>Q .non H',rt:=Q} (start N vs) H) :
  KG P w K M base CX (k+1) f (PySem.W.fnOf name qual params body scope dV kV L pm an g ct) ps sp:=by
 refine⟨len,λA outer s H args us vs Q E hr G hb r z=>?_⟩;have KX:=G.mod.kin.keeps λb o e=>(G.bs b o e).1
 have l:∀y∈ps.zip us,scope.names.lookup y.1=some .local\/(scope.names.lookup y.1=some .cell/\((cellsFrom (s.heap.objs.size+1) scope.names []).lookup y.1).isSome=true):=λ⟨n,v⟩ hy=>by
  rcases S.par n (List.of_mem_zip hy).1 with q|q
  ·exact .inl q
  ·exact .inr ⟨q,PySem.W.cellsFrom_some _ _ _ (.inl q)⟩
 refine codeAny_call_function hr.depth (KX _ _ lk) rfl S.co S.gen rfl (PySem.W.codeRec_of KX hcd) (hb _ _ _ _ ?_);refine wpAny_newFunctionEnv_cells S.kind l λenv he s1 x=>?_;subst he;refine⟨(G.mod.nolimit.keeps λb o e=>(G.bs b o e).1).keeps x.toInCall.keep,codeAny_func ?_⟩;obtain⟨t,ht,hq⟩:=p A outer s H vs Q E (hr.deeper _) z;have I:Inv (Kj CX P w K M base N qual scope f g A outer s H E) [] (start N vs) H s1:=Zo2 S hr.hd G (len _ _ _ _ z) r x;refine Q3 (ht [] s1 (start N vs) H _ I hq) (λfl T B=>?_) λe T B=>B
 have C:∀{h:St} {H':Hp} {v:V} {u:Value},Inv (Kj CX P w K M base N qual scope f g A outer s H E) [] h H' T->RelV v u->Q v H'->CE outer P w H s Q u T:=
  λ{h H' v u} J U q=>⟨v,H',J.os,J.bare,J.base,J.hok,U,q⟩
 cases fl with
 |ret u=>
  obtain⟨v,h,H',J,U,q⟩:=B;exact C J U q
 |next=>
  obtain⟨h,H',J,q⟩:=B;exact C (v:=V.non) J rfl q
 |_=>
  obtain⟨_,_,_,q⟩:=B;exact False.elim q
section
variable {X:Cx}{x:Str}{p pos:Pos}{e:Expr}{es:Yo}{t:TA}{id T:String}{r:List V->Hp->VK->Prop}
noncomputable def tCB(r:List V->Hp->VK->Prop)(t:TA):TE:=λf H Q=>t f H λg h=>r g h Q
def Ka(E:Kv X (.builtin id) r)(B:Gl X x)(A:X.mg x=none)(y:bootBuiltins x=some (.builtin id))(G:PA X (e::es) t)(z:autoParam (x≠"__name__") au_1)(g:autoParam ((x==("__debug__" : Str))=false) au_1)(C:autoParam (starEach (e::es) X.env=(false,eval e X.env)::starEach es X.env) au_0)(f:autoParam ((backTo pos<|starEach es X.env).any (·.1)=false) au_0):PE X (.Call (.Name x p) (e::es) [] pos) (tCB r t):=by
 intro pins s l H Q I h;refine Jb (Fh I B A y ?_ z g);exact PyProof.Rows.callWith_builtin1 (thn (G pos pins s l H _ I h) λo u ⟨n,L,J,v,w⟩=>E pins u l L n o Q J v w) C f
def PN(E:Kv X (.type T) r)(B:Gl X x)(A:X.mg x=none)(y:bootBuiltins x=some (.type T))(G:PA X (e::es) t)(z:autoParam (x≠"__name__") au_1)(g:autoParam ((x==("__debug__" : Str))=false) au_1)(C:autoParam (starEach (e::es) X.env=(false,eval e X.env)::starEach es X.env) au_0)(f:autoParam ((backTo pos<|starEach es X.env).any (·.1)=false) au_0):PE X (.Call (.Name x p) (e::es) [] pos) (tCB r t):=by
 intro pins s l H Q I h;refine Jb (Fh I B A y ?_ z g);exact VT (thn (G pos pins s l H _ I h) λo u ⟨n,L,J,v,w⟩=>E pins u l L n o Q J v w) C f
end
end L2
namespace HT
open PySem PyProof.Rows
section
variable {prog:Program}{w:World}{A:Around}{E:Yj}{s:Shared}
def Zqm(B:IsTup s.heap t vs.toArray)(C:IsTup s.heap b g.toArray)(v:vs≠[])(G:g=[]->Q (.ref t) s)(H:g≠[]->Q (.ref s.heap.objs.size) {s with heap:=s.heap.push {cls:=.type "tuple",data:=.seq (vs++g).toArray}})(hsz:vs.length+g.length<=sizeLine):wpAny (model prog w) A (binaryOp .Add (.ref t)<|.ref b) Q E s:=by
 obtain⟨⟨cls,y,data,sl⟩,r,x,n,hd⟩:=id B;obtain⟨⟨z,p,data2,h⟩,f,o,u,l⟩:=id C;simp only at x hd o l;subst x hd o l;by_cases hw:g=[]
 ·exact concat_meets ⟨_,r,rfl⟩ ⟨_,f,rfl⟩ noFill_tuple_add seq_tuple_add Jx Jm (Jc _ _)
   (tuple_addW1 t b vs.toArray g.toArray n u y p sl h (by simpa using v)<|by simp[hw]) ⟨r,f,G hw⟩
 ·refine concat_meets ⟨_,r,rfl⟩ ⟨_,f,rfl⟩ noFill_tuple_add seq_tuple_add Jx Jm (Jc _ _)
   (tuple_addW2 t b vs.toArray g.toArray n u y p sl h (by simpa using v) (by simpa using hw)<|by omega) ⟨r,f,?_⟩
  grind
noncomputable def sIx(n d:Nat):Option Int->Nat
 |none=>d
 |some v=>if v<0 then(v+(n:Int)).toNat else min v.toNat n
def ME(n d:Nat):sIx n d none=d:=rfl
def FS(n d k:Nat):sIx n d (some (k:Int))=min k n:=rfl
end
end HT
namespace L2
open PySem PySem.Spec PyProof.Rows
abbrev TO:=St->Hp->(Option Int->Hp->Prop)->Prop
def PO(X:Cx)(e:Option Expr)(t:TO):Prop:=
 ∀(pins:Yh) (s:Shared) (f:St) (H:Hp) (Q:Option Int->Hp->Prop),Inv X pins f H s->t f H Q->
  wpAny (model X.prog X.w) X.A (evalPart e X.env) (λu h=>∃o g,Inv X pins f g h/\IsPart u o/\Q o g) X.xe s
noncomputable def Mw:TO:=λ_ H Q=>Q none H
noncomputable def Lo(t:TE):TO:=λf H Q=>t f H λx g=>∃i,x=.int i/\Q (some i) g
def FD:∀{us:Ym},Vals (ns.map V.int) us->IntsAre us ns:=by
 induction ns with
 |nil=>intro us r;rw[List.map_nil]at r;cases r;exact .nil
 |cons n ns h=>
  intro us r;cases r with
  |cons g f=>
   obtain⟨t,e⟩:=g;subst e;exact .cons n t (h f)
section
variable {X:Cx}{e:Expr}{te:TE}{lo hi:Option Expr}{tl th:TO}{pos p2:Pos}
def DB:PO X none Mw:=by
 intro pins s f H Q I h;exact WN ⟨none,H,I,.none,h⟩
def Bl(h:PE X e te):PO X (some e) (Lo te):=by
 intro pins s f H Q I hw;refine thn (h pins s f H _ I hw) ?_;rintro u p ⟨x,o,n,g,l⟩;obtain⟨i,rfl,q⟩:=l;obtain⟨t,rfl⟩:=g;exact⟨some i,o,n,.int i t,q⟩
def SlR(X:Cx)(r:V->Option Int->Option Int->Hp->VK->Prop):Prop:=
 ∀(pins:Yh) (s:Shared) (f:St) (H:Hp) (x:V) (v h g:Value) (lo hi:Option Int) (sl:Addr) (Q:VK),Inv X pins f H s->RelV x v->s.heap.IsSliceOf sl h g .none->IsPart h lo->IsPart g hi->r x lo hi H Q->
  ∃T id,typeLookup (.type T) "__getitem__"=pure (some<|.builtin id)/\s.TypeIs v T/\wpAny (model X.prog X.w) X.A (getItem v<|.ref sl) (EP X pins f Q) X.xe s
noncomputable def tSl(r:V->Option Int->Option Int->Hp->VK->Prop)(te:TE)(tl th:TO):TE:=λf H Q=>te f H λx n=>tl f n λl h=>th f h λu g=>r x l u g Q
def Ae(M:SlR X r)(Y:PE X e te)(N:PO X lo tl)(J:PO X hi th):PE X (.Subscript e (.Slice lo hi none p2) pos) (tSl r te tl th):=by
 intro pins s f H Q I h;refine Subscript_ (thn (Y pins s f H _ I h) ?_);rintro v y ⟨x,H1,I1,z,C⟩;refine wpAny_Slice (thn (N pins y f H1 _ I1 C) ?_);rintro o w ⟨l,H2,I2,G,B⟩;refine thn (J pins w f H2 _ I2 B) ?_;rintro n g ⟨u,p,I3,E,A⟩;refine WN ?_;have I4:Inv X pins f p {g with heap:=g.heap.push {cls:=.type "slice",data:=.fields #[o,n,.none]}}:=I3.kept λb ob q=>WO _ q
 obtain⟨T,id,hT,L,U⟩:=M pins {g with heap:=g.heap.push {cls:=.type "slice",data:=.fields #[o,n,.none]}} f p x v o n l u g.heap.objs.size Q I4 z (Heap.IsSliceOf.new ..) G E A
 exact tail_any L hT U rfl
noncomputable def Ni(xs:List V)(lo hi:Option Int):List V:=(xs.drop<|HT.sIx xs.length 0 lo).take (HT.sIx xs.length xs.length hi-HT.sIx xs.length 0 lo)
def Zhb(xs:List V)(lo hi:Option Int):(Ni xs lo hi).length<=xs.length:=by
 unfold Ni
 grind
noncomputable def Zr9(K:Ye):R2:=λx y H Q=>∃a b xs f,x=.ref a/\y=.ref b/\SqT K H a xs/\SqT K H b f/\xs≠[]/\xs.length+f.length<=sizeLine/\
 (f=[]->Q (.ref a) H)/\(f≠[]->∀p,H p=none->Q (.ref p) (upd H p<|.tup (xs++f)))
def Vals.nil_iff (r:Vals xs us):us=[]↔xs=[]:=by
 cases r with
 |_=>simp
def Znt:OpR X (binaryOp .Add) (Zr9 X.K):=by
 intro pins s J H x y v u Q I p o h;obtain⟨a,b,xs,L,rfl,rfl,G,E,hx,n,A,r⟩:=h;cases p
 cases o
 obtain⟨C,g,B,_⟩:=I.tuple G;obtain⟨l,f,p2,_⟩:=I.tuple E;refine HT.Zqm B p2 (λz=>hx (g.nil_iff.mp z)) (λz=>⟨.ref a,H,I,rfl,A (f.nil_iff.mp z)⟩) (λz=>?_) (by rw[←g.length,←f.length];exact n);refine⟨.ref s.heap.objs.size,_,I.laid (λb M q=>WO _ q) (WU _) ?_,rfl,r (λw=>z (f.nil_iff.mpr w)) _ (I.hok.fresh<|WU _)⟩;exact⟨by rw[WW];exact n,_,g.append f,IsTup.new _ _⟩
end
noncomputable def ixN(n:Nat)(i:Int):Option Nat:=if 0<=i then(if i<n then some i.toNat else none)else if -(n:Int)<=i then some (i+n).toNat else none
noncomputable def atI{f:Type}(xs:List f)(i:Int):Option f:=(ixN xs.length i).bind λj=>xs[j]?
def Ol(h:ixN n i=some j):seqIndex? i n=some j/\j<n/\-(n:Int)<=i/\i<n:=by
 unfold ixN at h;by_cases g:0<=i
 ·rw[WT g]at h;by_cases f:i<n
  ·rw[WT f]at h;have e:=Qb h;exact⟨by rw[seqIndex_of g f,e],by lia,by lia,f⟩
  ·grind
 ·rw[WS g]at h;by_cases f:-(n:Int)<=i
  ·rw[WT f]at h;have e:=Qb h;exact⟨by rw[seqIndex_neg (by lia) f,e],by lia,f,by lia⟩
  ·grind
def M8(h:atI xs i=some v):∃j,seqIndex? i xs.length=some j/\xs[j]?=some v/\j<xs.length/\-(xs.length:Int)<=i/\i<xs.length:=by
 unfold atI at h;cases e:ixN xs.length i with
 |none=>grind
 |some j=>
  obtain⟨n,l,g,f⟩:=Ol e
  grind
def Te{j:Nat}{v}(h:xs[j]?=some v):atI xs (j:Int)=some v:=by
 have e:ixN xs.length (j:Int)=some j:=by
  unfold ixN
  grind
 unfold atI;rw[e];exact h
def Ei(b:Expr):Prop:=∀o i,subscripted b false o i=operate [o,i] (getItem o i)
def IxR(X:Cx)(r:R2):Prop:=
 ∀(value slice:Expr) (pins:Yh) (s:Shared) (f:St) (H:Hp) (x y:V) (v u:Value) (Q:VK),Inv X pins f H s->RelV x v->RelV y u->r x y H Q->
  subscripted slice false v u=operate [v,u] (getItem v u)->wpAny (model X.prog X.w) X.A (subscriptTail value slice v u) (EP X pins f Q) X.xe s
def MtR(X:Cx)(id:String)(r:V->List V->Hp->VK->Prop):Prop:=
 ∀(pins:Yh) (s:Shared) (f:St) (H:Hp) (x:V) (xs:List V) (v:Value) (g:Ym) (Q:VK),Inv X pins f H s->RelV x v->Vals xs g->r x xs H Q->
  wpAny (model X.prog X.w) X.A (call (.builtin id) (v::g)) (EP X pins f Q) X.xe s
section
variable {X:Cx}{a b:Expr}{ta tb:TE}{pos:Pos}
def IxR.or (h:IxR X r) (p:IxR X o):IxR X (λx y H Q=>r x y H Q\/o x y H Q):=by
 intro value slice pins s f H x y v u Q I l g q n;rcases q with q|q
 ·exact h value slice pins s f H x y v u Q I l g q n
 ·exact p value slice pins s f H x y v u Q I l g q n
def LB(p:IxR X r)(z:PE X a ta)(w:PE X b tb)(o:Ei b):PE X (.Subscript a b pos) (tOp r ta tb):=by
 intro pins s f H Q I h;exact Subscript_ (AA z w I h λv u g x y B A n l q=>p a b pins g f B x y v u Q A n l q (o _ _))
noncomputable def Sg(K:Ye):R2:=λx y H Q=>∃p xs i v,x=.ref p/\y=.int i/\SqL K H p xs/\atI xs i=some v/\Q v H
noncomputable def SQ(K:Ye):R2:=λx y H Q=>∃p xs i v,x=.ref p/\y=.int i/\SqT K H p xs/\atI xs i=some v/\Q v H
def ix_list:IxR X (Sg X.K):=by
 intro value slice pins s G H x y v u Q I L J h B;obtain⟨p,xs,i,z,rfl,rfl,hq,N,q⟩:=h;cases L
 obtain⟨t,rfl⟩:=J;obtain⟨o,r,n,hz⟩:=I.list hq;obtain⟨j,g,Y,h3,U,T⟩:=M8 N;obtain⟨w,E,l⟩:=r.get Y;have M:=r.length;have hn:=F9;have f:EP X pins G Q w s:=⟨z,H,I,l,q⟩;by_cases C:0<=i
 ·have A:i.toNat=j:=by
   rw[seqIndex_of C T]at g;exact Qb g
  exact item_listR n.isList C (by lia) (by rw[A];simpa using E) f B
 ·have A:(i+(o.toArray.size:Int)).toNat=j:=by
   rw[seqIndex_neg (by lia) U]at g;rw[Qv,←M];exact Qb g
  exact subscriptTail_builtinR n.isList.typeIs slot_list_getitem.lookup
   (wpAny_getItem_list_neg n.isList (by lia) (by rw[Qv]<;>lia) (by lia) (by rw[A];simpa using E) ⟨rfl,f⟩) B
def Zpk:IxR X (SQ X.K):=by
 intro value slice pins s n H x y v u Q I A o h C;obtain⟨p,xs,i,z,rfl,rfl,hq,E,q⟩:=h;cases A
 obtain⟨t,rfl⟩:=o;obtain⟨B,r,l,L⟩:=I.tuple hq;obtain⟨j,J,G,U,T,N⟩:=M8 E;obtain⟨w,Y,f⟩:=r.get G;have M:=F9;have g:EP X pins n Q w s:=⟨z,H,I,f,q⟩
 exact subscriptTail_builtinR l.typeIs slot_tuple_getitem.lookup
  (getItem_tuple l (by lia) (by lia) (by rw[Qv,←r.length];exact J) (by grind) ⟨rfl,g⟩) C
def Zdp(f:Ym)(n j:Nat)(u:Value):Obj.mapSeq (·.setIfInBounds j u) {cls:=.type "list",data:=.seq f.toArray n}={cls:=.type "list",data:=.seq (f.set j u).toArray n}:=by
 simp[Obj.mapSeq]
def Inv.lst {g:St}{H}{s}{p}{xs} (I:Inv X pins g H s) (h:H p=some (.lst xs)) :
  ∃f n,Vals xs f/\s.heap.get? p=some {cls:=.type "list",data:=.seq f.toArray n}/\xs.length<=sizeLine:=by
 obtain⟨z,f,n,r,e⟩:=I.hok p _ h
 grind
def Inv.lstUpd {w:St}{H}{s}{p}{xs o}{l g:Ym}{n v}{f} (I:Inv X pins w H s) (h:H p=some (.lst xs))
  (z:s.heap.get? p=some {cls:=.type "list",data:=.seq l.toArray n}) (x:f {cls:=.type "list",data:=.seq l.toArray n}={cls:=.type "list",data:=.seq g.toArray v}) (r:Vals o g) (y:o.length<=sizeLine) (t:Nat) :
  Inv X pins w (upd H p<|.lst o) {s with heap:=s.heap.update p f,toks:=t}:=by
 have e:(s.heap.update p f).get? p=some {cls:=.type "list",data:=.seq g.toArray v}:=by
  rw[QB f z (by rw[x]<;>rfl),x]
 refine I.write (by rw[h];trivial) (.inl rfl) (λb u A q=>(QH _ _<|Ne.symm A).trans q) ⟨_,e⟩ ?_;exact⟨y,g,v,r,e⟩
def HN:V->V->V->Hp->(Hp->Prop)->Prop:=λo i v H Q=>∃p xs k j,o=.ref p/\i=.int k/\H p=some (.lst xs)/\ixN xs.length k=some j/\Q (upd H p<|.lst<|xs.set j v)
def Zol:Hz X HN:=by
 intro pins s M H o i v N T u Q I G ri E h;obtain⟨p,xs,k,j,rfl,rfl,y,L,q⟩:=h;cases G
 obtain⟨t,rfl⟩:=ri;obtain⟨f,n,r,l,J⟩:=I.lst y;obtain⟨g,Y,A,z⟩:=Ol L;have w:=r.length;have U:=F9
 have C:=
  I.lstUpd y l (Zdp f n j u) (r.set E j) (by rw[QM];exact J) s.toks
 by_cases B:0<=k
 ·have x:k.toNat=j:=by
   rw[seqIndex_of B z]at g;exact Qb g
  exact PySem.W.ki_setAt l B (by lia) (by rw[Qv,←w];exact z) (by rw[x];exact⟨_,C,q⟩)
 ·have x:(k+(f.toArray.size:Int)).toNat=j:=by
   rw[seqIndex_neg (by lia) A]at g;rw[Qv,←w];exact Qb g
  exact PySem.W.ki_setBack l (by lia) (by rw[Qv,←w];exact A) (by lia) (by rw[x];exact⟨_,C,q⟩)
def Zdl(lo f:Option Int)(n:Nat):(sliceBounds lo f none n).1=((HT.sIx n 0 lo:Nat):Int)/\(sliceBounds lo f none n).2.1=((HT.sIx n n f:Nat):Int)/\(sliceBounds lo f none n).2.2=1:=by
 refine⟨?_,?_,rfl⟩
 ·cases lo with
  |none=>simp[sliceBounds,HT.sIx]
  |some i=>
   simp only[sliceBounds,HT.sIx,Option.getD_none,show(1:Int)>0 by decide,if_true];by_cases h:i<0
   ·grind
   ·simp only[h,J1]<;>lia
 ·cases f with
  |none=>simp[sliceBounds,HT.sIx]
  |some i=>
   simp only[sliceBounds,HT.sIx,Option.getD_none,show(1:Int)>0 by decide,if_true];by_cases h:i<0
   ·simp only[h,if_true]<;>lia
   ·simp only[h,J1]<;>lia
def Zbf(f:Ym)(lo g:Option Int):slicePick f.toArray lo g none=((f.drop<|HT.sIx f.length 0 lo).take (HT.sIx f.length f.length g-HT.sIx f.length 0 lo)).toArray:=by
 obtain⟨n,l,h⟩:=Zdl lo g f.toArray.size;unfold slicePick;rw[n,l,h];simp only[sliceRange_one,pick_run,Qv]<;>rfl
def SJ(K:Ye):V->Option Int->Option Int->Hp->VK->Prop:=λx lo f H Q=>∃a xs,x=.ref a/\SqL K H a xs/\∀p,H p=none->Q (.ref p) (upd H p<|.lst<|Ni xs lo f)
def Zsb:SlR X (SJ X.K):=by
 intro pins s z H x v B A lo l sl Q I n y p o h;obtain⟨a,xs,rfl,hx,q⟩:=h;cases n
 obtain⟨u,r,g,w⟩:=I.list hx;have f:=r.length;refine⟨"list",_,slot_list_getitem.lookup,g.isList.typeIs,?_⟩;refine wpAny_getItem_list_slice g.isList y p o .none (by simp) ?_ (by grind);rw[Zbf,←f];refine⟨.ref s.heap.objs.size,_,I.laid (λb C q=>WO _ q) (WU _) ?_,rfl,q _ (I.hok.fresh<|WU _)⟩;exact⟨WZ (Zhb xs lo l) w,_,0,(r.drop<|HT.sIx xs.length 0 lo).take (HT.sIx xs.length xs.length l-HT.sIx xs.length 0 lo),Qc _ rfl⟩
noncomputable def KZ:V->Bool
 | .non=>true
 | .bl _=>true
 | .int _=>true
 | .str _=>true
 |_=>false
noncomputable def eqV:V->V->Bool
 | .non,.non=>true
 | .bl a,.bl b=>a==b
 | .bl a,.int b=>(if a then 1 else 0)==b
 | .int a,.bl b=>a==(if b then 1 else 0)
 | .int a,.int b=>a==b
 | .str a,.str b=>a==b
 |_,_=>false
def Le{y x u v}(h:RelV y u)(f:RelV x v)(fy:KZ y=true)(l:KZ x=true):SeqAt.EqAt A s u v (eqV y x):=by
 cases y with
 |non=>
  cases h
  cases x with
  |non=>cases f;exact SeqAt.EqAt.same _
  |bl b=>cases f;exact SeqAt.EqAt.none_bool b
  |int b=>obtain⟨t,rfl⟩:=f;exact SeqAt.EqAt.none_int b t
  |str b=>obtain⟨t,rfl⟩:=f;exact SeqAt.EqAt.none_str b t
  |_=>exact absurd l Ql
 |bl a=>
  cases h
  cases x with
  |non=>cases f;exact SeqAt.EqAt.bool_none a
  |bl b=>cases f;exact SeqAt.EqAt.bool_bool a b
  |int b=>obtain⟨t,rfl⟩:=f;exact SeqAt.EqAt.bool_int a b t
  |str b=>obtain⟨t,rfl⟩:=f;exact SeqAt.EqAt.bool_str a b t
  |_=>exact absurd l Ql
 |int a=>
  obtain⟨g,rfl⟩:=h;cases x with
  |non=>cases f;exact SeqAt.EqAt.int_none a g
  |bl b=>cases f;exact SeqAt.EqAt.int_bool a g b
  |int b=>obtain⟨t,rfl⟩:=f;exact SeqAt.EqAt.int_int a g b t
  |str b=>obtain⟨t,rfl⟩:=f;exact SeqAt.EqAt.int_str a g b t
  |_=>exact absurd l Ql
 |str a=>
  obtain⟨g,rfl⟩:=h;cases x with
  |non=>cases f;exact SeqAt.EqAt.str_none a g
  |bl b=>cases f;exact SeqAt.EqAt.str_bool a g b
  |int b=>obtain⟨t,rfl⟩:=f;exact SeqAt.EqAt.str_int a g b t
  |str b=>obtain⟨t,rfl⟩:=f;exact SeqAt.EqAt.str_str a g b t
  |_=>exact absurd l Ql
 |_=>exact absurd fy Ql
noncomputable def eqU(x:V)(u:Value):Bool:=match u with
 | .none=>eqV .non x
 | .bool b=>eqV (.bl b) x
 | .int i _=>eqV (.int i) x
 | .str z _=>eqV (.str z) x
 |_=>false
def GP{x y u}(r:RelV y u)(f:KZ y=true):eqU x u=eqV y x:=by
 cases y with
 |non|bl b=>cases r;rfl
 |int i|str z=>obtain⟨t,rfl⟩:=r;rfl
 |_=>trivial
theorem Bh:∀{xs}{us:Ym},Vals xs us->xs.all KZ=true->us.any (eqU x)=xs.any λy=>eqV y x
 |_,_,.nil,_=>rfl
 |y::xs,u::us,.cons r t,f=>by
  rw[Jz,Q9]at f;rw[VY,VY,GP r f.1,Bh t f.2]
theorem Br{x v}(h:RelV x v)(l:KZ x=true):∀{xs}{us:Ym},Vals xs us->xs.all KZ=true->∀u∈us,SeqAt.EqAt A s u v (eqU x u)
 |_,_,.nil,_=>λu g=>by cases g
 |y::xs,u::us,.cons r t,f=>λn g=>by
  rw[Jz,Q9]at f;rcases Qa.mp g with rfl|g
  ·rw[GP r f.1];exact Le r h f.1 l
  ·exact Br h l t f.2 n g
noncomputable def inV(x:V)(xs:List V):Bool:=xs.any λy=>eqV y x
noncomputable def rIn(K:Ye)(neg:Bool):R2:=λx y H Q=>∃p xs,y=.ref p/\(SqL K H p xs\/SqT K H p xs)/\KZ x=true/\xs.all KZ=true/\Q (.bl (if neg then !inV x xs else inV x xs)) H
def Zjp:OpR X (compareOp .In) (rIn X.K false):=by
 intro pins s A H x y v u Q I l o h;obtain⟨p,xs,rfl,hq,n,fs,q⟩:=h;cases o
 rcases hq with hq|hq
 ·obtain⟨f,r,g,z⟩:=I.list hq;refine SeqAt.in_listAt (eqU x) g.isList (λw hw=>Br l n r fs w (by grind)) ⟨.bl _,H,I,rfl,?_⟩;rwa[show f.toArray.any (eqU x)=f.any (eqU x) by simp,Bh r fs]
 ·obtain⟨f,r,g,z⟩:=I.tuple hq;refine SeqAt.in_tupleAt (eqU x) g (λw hw=>Br l n r fs w (by simpa using hw)) ⟨.bl _,H,I,rfl,?_⟩;rwa[show f.toArray.any (eqU x)=f.any (eqU x) by simp,Bh r fs]
def Zbo:OpR X (compareOp .NotIn) (rIn X.K true):=by
 intro pins s A H x y v u Q I l o h;obtain⟨p,xs,rfl,hq,n,fs,q⟩:=h;cases o
 rcases hq with hq|hq
 ·obtain⟨f,r,g,z⟩:=I.list hq;refine SeqAt.notIn_listAt (eqU x) g.isList (λw hw=>Br l n r fs w (by grind)) ⟨.bl _,H,I,rfl,?_⟩;rwa[show f.toArray.any (eqU x)=f.any (eqU x) by simp,Bh r fs]
 ·obtain⟨f,r,g,z⟩:=I.tuple hq;refine SeqAt.notIn_tupleAt (eqU x) g (λw hw=>Br l n r fs w (by grind)) ⟨.bl _,H,I,rfl,?_⟩;rwa[show f.toArray.any (eqU x)=f.any (eqU x) by simp,Bh r fs]
def LS:Kv X (.type "list") (λxs H Q=>∃p v,xs=[.ref p]/\(SqL X.K H p v\/SqT X.K H p v)/\∀l,H l=none->Q (.ref l) (upd H l<|.lst v)):=by
 intro pins s M H xs T Q I r h;obtain⟨p,v,rfl,hq,q⟩:=h;obtain⟨u,rfl,N⟩:=vals1 r;cases N
 have C:∀f,Vals v f->v.length<=sizeLine->∀g y,(∀b L,s.heap.get? b=some L->g.get? b=some L)->
   g.get? s.heap.objs.size=some {cls:=.type "list",dict:=none,data:=.seq f.toArray y,slots:=#[]}->EP X pins M Q (.ref s.heap.objs.size) {s with heap:=g}:=λf x A g y z e=>
  ⟨.ref s.heap.objs.size,_,I.laid z (WU _) (show ObjOk X.prog X.w _ g _ (.lst v)from⟨A,f,y,x,e⟩),rfl,q _ (I.hok.fresh<|WU _)⟩
 rcases hq with hq|hq
 ·obtain⟨f,x,E,A⟩:=I.list hq;have B:=x.length;obtain⟨o,G,J,n,hd⟩:=E.isList;exact call_list_seq p (.inl rfl) G J hd (λg y z e=>C f x A g y z e) (by grind)
 ·obtain⟨f,x,E,A⟩:=I.tuple hq;have B:=x.length;obtain⟨o,G,J,n,hd⟩:=E;exact call_list_seq p (.inr rfl) G J hd (λg y z e=>C f x A g y z e) (by simp only[Qv]<;>lia)
def Zfs:Kv X (.type "tuple") (λxs H Q=>∃p g,xs=[.ref p]/\((SqL X.K H p g/\∀l,H l=none->Q (.ref l) (upd H l<|.tup g))\/(SqT X.K H p g/\Q (.ref p) H))):=by
 intro pins s x H xs G Q I r h;obtain⟨p,g,rfl,h⟩:=h;obtain⟨u,rfl,B⟩:=vals1 r;cases B
 rcases h with⟨hq,q⟩|⟨hq,q⟩
 ·obtain⟨f,v,w,y⟩:=I.list hq;have z:=v.length;refine call_tuple_list w.isList (λn C=>?_) (by grind);have A:Inv X pins x H {s with heap:=n}:=I.kept C
  have E:Inv X pins x (upd H n.objs.size<|.tup g) {s with heap:=n.push {cls:=.type "tuple",data:=.seq f.toArray}}:=
   A.laid (λb o e=>WO _ e) (WU _) (⟨y,f,v,IsTup.new _ _⟩)
  exact⟨.ref n.objs.size,_,E,rfl,q _ (A.hok.fresh<|WU _)⟩
 ·obtain⟨f,v,w,y⟩:=I.tuple hq;exact call_tuple_same w ⟨.ref p,H,I,rfl,q⟩
def tyV(K:Ye)(T:String)(x:V)(H:Hp):Prop:=match x with
 | .str _=>T = "str"
 | .int _=>T = "int"
 | .ref p=>(T = "list"/\∃xs,SqL K H p xs)\/(T = "tuple"/\∃o,K.lookup p=some o/\o.cls=.type "tuple"/\o.dict=none)\/
   (T = "dict"/\((∃f,H p=some (.dK f))\/∃f,H p=some (.dT f)))\/(T = "set"/\∃S n,H p=some (.set S n))
 |_=>False
def Gz{y:St}{H}{s}{T}{x}{v}(I:Inv X pins y H s)(r:RelV x v)(h:tyV X.K T x H) :
  s.TypeIs v T/\∀a,v=.ref a->∃ob,s.heap.get? a=some ob/\ob.dict=none:=by
 cases x with
 |str z=>
  obtain⟨t,rfl⟩:=r;cases h
  exact⟨typeIs_str s z t,λ_ e=>nomatch e⟩
 |int i=>
  obtain⟨t,rfl⟩:=r;cases h
  exact⟨typeIs_int s i t,λ_ e=>nomatch e⟩
 |ref p=>
  cases r
  rcases h with⟨rfl,xs,hq⟩|⟨rfl,o,f,B,hd⟩|⟨rfl,f⟩|⟨rfl,S,n,f⟩
  ·obtain⟨A,_,w,_⟩:=I.list hq;refine⟨w.isList.typeIs,λa e=>?_⟩;cases e
   obtain⟨o,n,e,c,hd,_⟩:=w;exact⟨o,e,hd⟩
  ·refine⟨⟨o,I.kIn p o f,B⟩,λa e=>?_⟩;cases e
   exact⟨o,I.kIn _ o f,hd⟩
  ·have z:∃o,s.heap.get? p=some o/\o.ExactDict:=by
    rcases f with⟨l,f⟩|⟨l,f⟩
    ·obtain⟨_,_,_,_,o,_,_,e,g,_⟩:=I.hok p _ f;exact⟨o,e,g⟩
    ·obtain⟨_,_,_,_,o,_,_,e,g,_⟩:=I.hok p _ f;exact⟨o,e,g⟩
   obtain⟨o,e,g⟩:=z;refine⟨⟨o,e,g.1⟩,λa u=>?_⟩;cases u
   exact⟨o,e,g.2.1⟩
  ·obtain⟨o,_,_,_,e,g,_⟩:=I.hok p _ f;refine⟨⟨o,e,g.1⟩,λa u=>?_⟩;cases u
   exact⟨o,e,g.2.1⟩
 |_=>exact False.elim h
noncomputable def Bs(K:Ye)(T:String)(r:V->List V->Hp->VK->Prop)(h:TE):TE:=λg H Q=>h g H λx f=>tyV K T x f/\r x [] f Q
noncomputable def tBM(K:Ye)(T:String)(r:V->List V->Hp->VK->Prop)(h:TE)(t:TA):TE:=λf H Q=>h f H λx g=>tyV K T x g/\t f g λxs l=>r x xs l Q
variable {o e:Expr}{es:Yo}{to:TE}{t:TA}{name:Str}{apos cpos:Pos}{T id:String}{r:V->List V->Hp->VK->Prop}
def S9(A:PlainAttrs T)(slot:Slot T name id)(l:typeOf (.builtin id)=pure (.type "method_descriptor"))(C:MtR X id r)(B:PE X o to)(g:autoParam (attributeBase o name X.env (eval o X.env)=eval o X.env) au_0)(f:autoParam ((apos.endLine==cpos.line)=true) au_0):PE X (.Call (.Attribute o name apos) [] [] cpos) (Bs X.K T r to):=by
 intro pins s n H Q I h;refine wpAny_Call_method0_late g f (thn (B pins s n H _ I h) ?_);rintro v y ⟨x,J,u,p,w,z⟩;obtain⟨G,E⟩:=Gz u p w;exact⟨T,id,A,slot,l,G,E,Calls.callWith_builtin rfl (PySem.evalArgs_none<|C pins y n J x [] v [] Q u p .nil z)⟩
def BC(N:PlainAttrs T)(slot:Slot T name id)(u:typeOf (.builtin id)=pure (.type "method_descriptor"))(hm:MtR X id r)(Y:PE X o to)(ha:PA X (e::es) t)(g:autoParam (attributeBase o name X.env (eval o X.env)=eval o X.env) au_0)
  (l:autoParam (((backTo cpos<|starEach (e::es) X.env).all (λx=>!x.1)&&(backToKw cpos<|keywordEach [] X.env).all (λx=>x.1.isSome)
   && decide ((e::es).length+([]:List Keyword).length+(if ([]:List Keyword).isEmpty then 0 else 1)<30))=true) au_0)
  (f:autoParam ((apos.endLine==cpos.line)=true) au_0) (U:autoParam (starEach (e::es) X.env=(false,eval e X.env)::starEach es X.env) au_0) (n:autoParam ((backTo cpos<|starEach es X.env).any (·.1)=false) au_0) :
  PE X (.Call (.Attribute o name apos) (e::es) [] cpos) (tBM X.K T r to t):=by
 intro pins s p H Q I h;refine wpAny_Call_method_late g l f rfl (thn (Y pins s p H _ I h) λv G ⟨x,H1,z,w,C,M⟩=>?_);obtain⟨h1,h2⟩:=Gz z w C;refine⟨T,id,N,slot,u,h1,h2,?_⟩;have y:=ha cpos pins G p H1 _ z M;rw[U]at y ⊢;refine Calls.callWith_builtin (by grind) (JC ?_);exact thn y λB E ⟨A,H2,I2,J,L⟩=>hm pins E p H2 x A v B Q I2 w J L
end
def MtM(X:Cx)(id:String)(r:V->List V->Hp->VK->Prop):Prop:=
 ∀(pins:Yh) (s:Shared) (f:St) (H:Hp) (x:V) (xs:List V) (v:Value) (g:Ym) (Q:VK),Inv X pins f H s->RelV x v->Vals xs g->r x xs H Q->
  wpAny (model X.prog X.w) X.A (call (.builtin id) (v::g)) (EP X pins f Q) X.xe s
def Vals.one:∀{x}{us:Ym},Vals [x] us->∃u,us=[u]/\RelV x u:=by
 intro _ _ h;cases h with
 |cons r t=>
  cases t
  exact⟨_,rfl,r⟩
def Vals.zero:∀{us:Ym},Vals [] us->us=[]
 |_,.nil=>rfl
def Vals.dropLast (h:Vals xs us):Vals xs.dropLast us.dropLast:=by
 induction h with
 |nil=>exact .nil
 |cons r t f=>
  cases t with
  |nil=>grind
  |cons q g=>exact .cons r f
def Zsn{f:Type}(l:List f):l.eraseIdx (l.length-1)=l.dropLast:=by simp
section
variable {X:Cx}{pins:Yh}{σ:St}{H:Hp}{s:Shared}{l b:Addr}{xs ys zs:List V}
def Inv.lset {h g:Ym}{n}{f}{t'} (I:Inv X pins σ H s) (x:H l=some (.lst xs))
  (e:s.heap.get? l=some {cls:=.type "list",data:=.seq h.toArray n}) (v:f h.toArray=g.toArray) (p:Vals ys g) (o:ys.length<=sizeLine) :
  Inv X pins σ (upd H l<|.lst ys) {s with heap:=s.heap.update l (Obj.mapSeq f),toks:=t'}:=by
 have q:=PySem.IsL.update e f;rw[v]at q;refine I.write (by rw[x];exact trivial) (.inl rfl) (λy u w r=>(QH s.heap (Obj.mapSeq f)<|Ne.symm w).trans r) ⟨_,q⟩ ?_;exact⟨o,g,_,p,q⟩
def Inv.lnew (I:Inv X pins σ H s) (h:Vals ys f) (g:ys.length<=sizeLine) :
  Inv X pins σ (upd H s.heap.objs.size<|.lst ys) {s with heap:=s.heap.push {cls:=.type "list",data:=.seq f.toArray},toks:=t'}:=
 I.laid (λ_ _ q=>WO _ q) (WU _) ⟨g,f,0,h,Qc _ rfl⟩
def Inv.fresh (I:Inv X pins σ H s):H s.heap.objs.size=none:=I.hok.fresh (WU _)
def Inv.lstM (I:Inv X pins σ H s) (g:H l=some (.lst xs)):xs.length<=sizeLine/\∃f n,Vals xs f/\xs.length=f.length/\s.heap.get? l=some {cls:=.type "list",data:=.seq f.toArray n}:=by
 obtain⟨z,f,n,r,e⟩:=I.hok l _ g;exact⟨z,f,n,r,r.length,e⟩
def Zat(h:n<=sizeLine):Builtin.List.listTooLong n=false:=by
 unfold Builtin.List.listTooLong
 grind
end
section
variable {X:Cx}
def Ee:V->List V->Hp->VK->Prop:=λx f H Q=>∃l xs y,x=.ref l/\f=[y]/\H l=some (.lst xs)/\xs.length<sizeLine/\Q .non (upd H l<|.lst (xs++[y]))
def Bw:MtM X "list.append" Ee:=by
 intro pins s A H x B v C Q I o p h;obtain⟨l,xs,y,rfl,rfl,g,E,q⟩:=h;cases o
 obtain⟨u,rfl,w⟩:=p.one;obtain⟨z,f,n,r,G,e⟩:=I.lstM g;refine call_meets F.slot_list_append ⟨_,e,rfl⟩ F.entry_list_append (F.args_list_append_2 _ _) (PySem.list_append l f.toArray n u<|by grind) ⟨e,?_⟩;refine⟨.non,_,I.lset g e (by simp) (r.append<|.cons w .nil) ?_,rfl,q⟩
 grind
def ML:V->List V->Hp->VK->Prop:=λx g H Q=>∃l b xs f,x=.ref l/\g=[.ref b]/\H l=some (.lst xs)/\H b=some (.lst f)/\xs.length+f.length<=sizeLine/\Q .non (upd H l<|.lst (xs++f))
def Zmx:MtM X "list.extend" ML:=by
 intro pins s M H x U v Y Q I y A h;obtain⟨l,b,xs,N,rfl,rfl,w,J,hz,q⟩:=h;cases y
 obtain⟨u,rfl,B⟩:=A.one;cases B
 obtain⟨z,g,n,r,hl,e⟩:=I.lstM w;obtain⟨T,f,E,C,G,L⟩:=I.lstM J;have p:g.toArray.size+f.toArray.size<=sizeLine:=by grind
 have o:¬(!g.toArray.isEmpty&&Builtin.List.listTooLong (g.toArray.size+f.toArray.size))=true:=by
  rw[Zat p,Bool.and_false];exact Ql
 refine call_meets F.slot_list_extend ⟨_,e,rfl⟩ F.entry_list_extend (F.args_list_extend_2 _ _)
  (AutoSeq1.list_extend_list_list_0 l g.toArray n b f.toArray E o (by lia)<|by lia) ⟨e,L,?_⟩
 refine⟨.non,_,I.lset w e (by simp) (r.append C) ?_,rfl,q⟩
 grind
def AB:V->List V->Hp->VK->Prop:=λx f H Q=>∃l xs y,x=.ref l/\f=[]/\H l=some (.lst xs)/\xs[xs.length-1]?=some y/\Q y (upd H l<|.lst xs.dropLast)
def BZ:MtM X "list.pop" AB:=by
 intro pins s E H x G v J Q I w A h;obtain⟨l,xs,y,rfl,rfl,p,C,q⟩:=h;cases w
 have o:=A.zero;subst o;obtain⟨z,f,n,r,M,e⟩:=I.lstM p;obtain⟨u,L,B⟩:=r.get C;have g:f.toArray[f.toArray.size-1]?=some u:=by grind
 refine call_meets F.slot_list_pop ⟨_,e,rfl⟩ F.entry_list_pop (F.args_list_pop_1 _) (MeetsSeq.list_pop_last l f.toArray n u g<|by rw[Qv];lia) ⟨e,?_⟩;refine⟨y,_,I.lset p e ?_ r.dropLast ?_,B,q⟩
 ·simp
 ·grind
noncomputable def MX:R2:=λx y H Q=>∃l b xs f,x=.ref l/\y=.ref b/\H l=some (.lst xs)/\H b=some (.lst f)/\xs.length+f.length<=sizeLine/\∀p,H p=none->Q (.ref p) (upd H p<|.lst (xs++f))
def KC:OpR X (binaryOp .Add) MX:=by
 intro pins s J H x y v u Q I p o h;obtain⟨l,b,xs,L,rfl,rfl,B,C,T,q⟩:=h;cases p
 cases o
 obtain⟨z,g,n,r,U,e⟩:=I.lstM B;obtain⟨M,f,N,w,A,G⟩:=I.lstM C;refine PySem.P.add_list e G ?_ (by grind);have E:g.toArray++f.toArray=(g++f).toArray:=by simp
 rw[E];exact⟨.ref _,_,I.lnew (r.append w) (by grind),rfl,q _ I.fresh⟩
end
end L2
namespace Att
open PySem PySem.W PySem.Calls PyProof.Rows
def Znk:∀ns vs,WellAll P h vs (ns.map WData.int)->IntsAre vs ns:=by
 intro ns
 induction ns with
 |nil=>
  intro vs w;cases w
  exact .nil
 |cons n ns f=>
  intro vs w;cases w with
  |cons a b=>
   cases a
   exact .cons _ _ (f _ b)
def Zbm{l:OpenLaw}{n}(y:l.most=some n){P}{h}{args}{vals}(f:l.row.toRowW.claim.pre args=true)(p:WellAll P h vals args) :
  ∃a vs ns,vals=[Value.ref a]/\args=[WData.list (ns.map WData.int)]/\h.get? a=some {cls:=.type "list",data:=.seq vs.toArray}/\IntsAre vs ns/\ns.length<=n:=by
 have s:WShape.hasAll [] args [.list .int]=true:=(pre_splitW f).1;have z:l.pre.holds [] {args:=args}=true:=(pre_splitW f).2;obtain⟨d,r,rfl,C,B⟩:=hasAllW_cons s;obtain rfl:=hasAllW_nil B;obtain⟨xs,rfl,A⟩:=hasW_list C;obtain⟨ns,rfl⟩:=items_int A
 have g:ns.length<=n:=by
  have u:(WTm.not<|.lt (.lit<|.int (n:Int))<|.len<|.arg 0).holds [] {args:=[.list (ns.map .int)]}=true:=by
   have u:=(holds_andW z).1;rw[y]at u;lia
  have E:=condW_of u (w_not<|w_lt w_lit<|w_len_list<|w_arg rfl);simp_all
 cases p with
 |cons w v=>
  cases v
  cases w with
  |list x o=>exact⟨_,_,ns,rfl,rfl,x,Znk ns _ o,g⟩
def Zp7(l:OpenLaw)(args:List WData):l.row.toRowW.claim.post args (.bool true) args=true:=
 postW_of
  rfl
  (w_eq_bool (w_res rfl) w_lit) rfl
def Zlj{l:OpenLaw}{n}{q}{loose}{XP}{YP}{d}(T:l.most=some n)(H:d.params.defaults=[])
  (call:∀w s₀ g z B x o A cd p a vs ns,
   Ground q loose [] XP w s₀ z B g.heap->YP w g.heap->
   g.heap.get? x=some o->o.data=.func (docDef d.name d.params d.body d.scope A cd p)->g.heap.CodeRec cd d.name->z d.name=some (.ref x)->
   g.heap.get? a=some {cls:=.type "list",data:=.seq vs.toArray}->IntsAre vs ns->ns.length<=n->g.gens=#[]->
   codeAny (model l.prog w) callerA (.call (.ref x) ⟨[.ref a],[]⟩) (λr y=>r=.ok (.ret<|.bool true)/\OldK g.heap y.heap/\y.os=g.os/\AllBare y.gens) g) :
  WalkO q loose XP YP l.row.toRowW d [] (λf vs=>PySem.call f vs):=by
 intro w s₀ g z B G Y x o A cd p dV kV Q hd J M E hg args vals as s L N C hlo;obtain rfl:=Dflts.none M H;obtain rfl:=Dflts.noKw M;obtain⟨a,vs,ns,rfl,rfl,u,h,v⟩:=Zbm T s C;refine enter_call (Vx (call w s₀ g z B x o A cd p a vs ns G Y Q (fd_plain hd) J E u h v hg) λr y hq=>?_);obtain⟨rfl,h2,h3,h4⟩:=hq;exact⟨.inl ⟨.bool true,.bool true,[],rfl,λ_=>rfl,.bool true,Zp7 l _,λ_=>⟨List.Pairwise.nil,λ_ U=>(nomatch U)⟩⟩,h2,h3,h4⟩
end Att
namespace L2
open PySem PySem.Spec PyProof.Rows
theorem Ao:∀{vs}{ns:Yg},IntsAre vs ns->Vals (ns.map V.int) vs
 |_,_,.nil=>.nil
 |_,_,.cons n t h=>.cons ⟨t,rfl⟩ (Ao h)
def Fs(H:Hp):Prop:=∀b,H b=none\/∃o xs,H b=some (.frz o<|.lst xs)
def Zdg{K B U CX k fa a fd x sp f vs ns}(KX:K.In f.heap)(G:f.heap.Ns mainGlobals B)(g:f.heap.Ns builtinsNs U)(hbb:∀x:Str,x≠"__name__"->U x=bootBuiltins x)(J:f.heap.NoLimit)(hg:f.gens=#[])(M:f.heap.get? a=some {cls:=.type "list",data:=.seq vs.toArray})(hi:IntsAre vs ns)(hl:ns.length<=sizeLine)(hr:X5 k callerA)(F:∀base,K.In base->base.Ns mainGlobals B->KG P w K B base CX k fa fd [x] sp)(y:∀s u,BindsTo s fd ⟨[u],[]⟩ [(x,u)])(Y:∀H,Fs H->SqL K H a (ns.map V.int)->sp [.ref a] H (λv _=>v=.bl true) λ_ _ _=>False)(hCX:∀H e l,CX [] H f (λ_ _ _=>False) e l->False) :
  codeAny (model P w) callerA (.call (.ref fa) ⟨[.ref a],[]⟩) (λr l=>r=.ok (.ret<|.bool true)/\OldK f.heap l.heap/\l.os=f.os/\AllBare l.gens) f:=by
 have rv:=Ao hi
 have core:∀H,Fs H->SqL K H a (ns.map V.int)->HOk P w H f.heap->(∀b,H b≠none->b=a)->(H a≠none->K.lookup a=none)->
   codeAny (model P w) callerA (.call (.ref fa) ⟨[.ref a],[]⟩) (λr l=>r=.ok (.ret<|.bool true)/\OldK f.heap l.heap/\l.os=f.os/\AllBare l.gens) f:=by
  intro H hO hS E hA hK;have base_of:∀{b:Addr} {o:Obj},f.heap.get? b=some o->H b=none->(N1 f.heap H).get? b=some o:=λe n=>Zn6 e n
  have T:∀{b:Addr} {o:Obj} {N:Array DictEntry} {Q:Nat},f.heap.get? b=some o->o.data=.dict N Q->H b=none:=λ{b o N Q} e d=>by
   cases q:H b with
   |none=>rfl
   |some u=>
    have e':=hA b (by rw[q];simp);subst e';rw[M]at e;cases e;cases d
  have p:∀{b:Addr} {m:Yi},f.heap.Ns b m->(N1 f.heap H).Ns b m:=λ{b m} ⟨o,N,Q,e,d,r⟩=>⟨o,N,Q,base_of e (T e d),d,r⟩
  have L:=λb o e=>base_of (KX b o e) (by
   cases q:H b with
   |none=>rfl
   |some u=>
    have e':=hA b (by rw[q];simp);subst e';rw[hK (by rw[q];simp)]at e;cases e)
  have hM:Mod K B (N1 f.heap H):=⟨L,p G,⟨U,p g,hbb⟩,let ⟨mc,h1,h2⟩:=J;⟨mc,p h1,h2⟩⟩;have e0:NQ P w K B (N1 f.heap H) callerA [] f H:=⟨rfl,hM,λb o e=>Zbd e,Vi (Zlp _ _),trivial,λb g=>absurd (show b∈([]:List Addr)from g) (by simp),E,.of_eq hg⟩
  refine Vx ((F _ L<|p G).run callerA [] f H ⟨[.ref a],[]⟩ [.ref a] [.ref a] _ _ hr e0 (y f<|.ref a) (.cons rfl .nil) (Y H hO hS)) λr l h=>?_;cases r with
  |error e=>exact(hCX H e l h).elim
  |ok fl=>
   cases fl with
   |ret u=>
    obtain⟨v,H',os,bare,un,C,r',q⟩:=h;subst q;obtain rfl:=r';refine⟨rfl,OldK.of_keep λb o e=>?_,os,bare⟩;cases q:H b with
    |none=>exact un.keep b o e q (by intro z;exact absurd (show b∈([]:List Addr)from z) (by simp)) (by simp)
    |some u=>
     rcases hO b with z|⟨ob,xs,z⟩
     ·rw[q]at z;cases z
     ·have z2:=un.frzs b ob _ z;obtain⟨e1,_⟩:=E b _ z;obtain⟨e2,_⟩:=C b _ z2;rw[e]at e1;cases e1;exact e2
   |_=>exact False.elim h
 cases hk:K.lookup a with
 |some o=>
  have e:=KX a o hk;rw[M]at e;cases e
  refine core (λ_=>none) (λ_=>.inl rfl) (.inr ⟨_,vs.toArray,_,hk,rfl,rfl,rfl,by rw[Qv,hi.length];exact hl,by simpa using rv⟩) (λb u z=>by have A:=z;cases A) (λb z=>absurd rfl z) λz=>absurd rfl z
 |none=>
  refine core (λb=>if b=a then some (.frz {cls:=.type "list",data:=.seq vs.toArray} (.lst<|ns.map V.int))else none) (λb=>?_) (.inl<|.inr ⟨{cls:=.type "list",data:=.seq vs.toArray},WT rfl⟩) (λb u z=>?_) (λb z=>?_) λ_=>hk
  ·by_cases g:b=a
   ·exact .inr ⟨_,_,WT g⟩
   ·exact .inl (WS g)
  ·by_cases g:b=a
   ·have A:=(WT g).symm.trans z;cases A
    subst g;exact⟨M,by rw[WL];exact hl,vs,_,rv,M⟩
   ·have A:=(WS g).symm.trans z;cases A
  ·by_cases g:b=a
   ·exact g
   ·exact absurd (WS g) z
def Zn4{l:PySem.W.OpenLaw}{n k}{q}{loose}{XP}{YP}{d}{K:Params->Ye}{CX:World->CXT}{sp:World->Sp}{x}(hn:l.most=some n)(J:n<=sizeLine)(M:d.params.defaults=[])(hr:X5 k callerA)(hY:∀w h,YP w h->(K w.params).In h)
  (F:∀w y B h,(K w.params).In h->h.Ns mainGlobals y->y d.name=some (.ref B)->
   ∃Q,(∀s u,BindsTo s Q ⟨[u],[]⟩ [(x,u)])/\
    ∀base,(K w.params).In base->base.Ns mainGlobals y->KG l.prog w (K w.params) y base (CX w) k B Q [x] (sp w))
  (E:∀w H a (ns:Yg),ns.length<=n->Fs H->SqL (K w.params) H a (ns.map V.int)->sp w [.ref a] H (λv _=>v=.bl true) λ_ _ _=>False)
  (N:∀w H s e C,CX w [] H s (λ_ _ _=>False) e C->False) :
  PySem.W.WalkO q loose XP YP l.row.toRowW d [] (λf vs=>PySem.call f vs):=by
 refine Att.Zlj hn M λw U z y mb B o pm cd doc a vs ns G Y ho hd hcd L A r p hg=>?_;have KX:=hY w _ Y;obtain⟨Q,hb,hF⟩:=F w y B _ KX G.T.g L;exact Zdg KX G.T.g G.T.b G.T.builtins G.T.nolimit hg A r (WZ p J) hr hF hb (λH hO hS=>E w H a ns p hO hS) λH e C=>N w H z e C
def Zaq{l:PySem.W.OpenLaw}{n k}{q}{loose}{XP}{YP}{d}{K:Params->Ye}{CX}{sp:Ye->Sp}{x}(E:l.most=some n)(r:n<=sizeLine)(y:d.params.defaults=[])(C:X5 k callerA)(G:∀w h,YP w h->(K w.params).In h)
  (F:∀w g B h,(K w.params).In h->h.Ns mainGlobals g->g d.name=some (.ref B)->
   ∃A,(∀s u,BindsTo s A ⟨[u],[]⟩ [(x,u)])/\
    ∀base,(K w.params).In base->base.Ns mainGlobals g->KG l.prog w (K w.params) g base CX k B A [x] (sp<|K w.params))
  (p:∀K H a (ns:Yg),ns.length<=n->Fs H->SqL K H a (ns.map V.int)->sp K [.ref a] H (λv _=>v=.bl true) λ_ _ _=>False)
  (z:∀H s e o,CX [] H s (λ_ _ _=>False) e o->False) :
  PySem.W.WalkO q loose XP YP l.row.toRowW d [] (λf vs=>PySem.call f vs):=
 Zn4 E r y C G F (λw H a ns M L J=>p (K w.params) H a ns M L J) λ_ H s e o=>z H s e o
noncomputable def inClass(s:Stmt)(j:Nat):Stmt:=match s with
 | .ClassDef _ _ _ body _ _ _ _ _ _ _=>body.getD j (.Pass ⟨0,0,0,0⟩)
 |_=>.Pass ⟨0,0,0,0⟩
noncomputable def P9(s:Stmt):Arguments:=match s with
 | .FunctionDef _ a _ _ _ _ _ _ _ _=>a
 |_=>{posonlyargs:=[],args:=[],vararg:=none,kwonlyargs:=[],kw_defaults:=[],kwarg:=none,defaults:=[]}
noncomputable def XZ(s:Stmt):Yp:=match s with
 | .FunctionDef _ _ b _ _ _ _ _ _ _=>b
 |_=>[]
noncomputable def Xv(s:Stmt):Scope:=match s with
 | .FunctionDef _ _ _ _ _ _ f _ _ _=>f
 |_=>{kind:=.function,names:=[],isGenerator:=false,isCoroutine:=false}
noncomputable abbrev CX0:CXT:=λ_ _ _ _ _ _=>False
noncomputable abbrev E0:XK:=λ_ _ _=>False
def Kh:P5 CX0 X E0:=λ_ _ _ _ _ _ _ h=>h.elim
structure Fun (K:Ye) (x qual:Str) (st:Stmt) (f:Addr) (fd:FuncData):Prop where
 ex:∃(oc:Value) (od:Yr) (kV doc pm:Value) (an:Yr) (cdv ct:Value) (osl:Array (Yq)),
  fd=PySem.W.fnOf x qual (P9 st) (XZ st) (Xv st) .none kV doc pm an cdv ct/\K.lookup f=some ⟨oc,od,.func fd,osl⟩/\PySem.W.codeIn K cdv qual=true
 kp:PySem.W.keepIn K (.ref f)=true
section
variable {P:Program}{w:World}{K:Ye}{mg:Yi}{base:Heap}
def Fun.ok {st f p N ps k sp} (F:Fun K x qual st f p) (S:Xw N ps (Xv st)) (len:∀vs H Q E,sp vs H Q E->vs.length=ps.length)
  (l:∀g A outer s H vs Q E,X5 k (A.deeper<|envOfC qual (Xv st) s.heap.objs.size f g)->sp vs H Q E->
   ∃t,PSs (Kj CX0 P w K mg base N qual (Xv st) f g A outer s H E).nox (XZ st) t/\t {nx:=λ_ H'=>Q .non H',rt:=Q} (start N vs) H):KG P w K mg base CX0 (k+1) f p ps sp:=by
 obtain⟨oc,B,kV,y,z,G,g,C,r,rfl,u,o⟩:=F.ex;refine Ek u o S len λA outer s H vs Q E v n=>?_;obtain⟨t,h,q⟩:=l g A outer s H vs Q E v n;exact⟨t,h.nox,q⟩
def Fun.binds {st f p ps} (F:Fun K x qual st f p)
  (h:∀kV g n o l ct us,us.length=ps.length->bindArgs (PySem.W.fnOf x qual (P9 st) (XZ st) (Xv st) .none kV g n o l ct) ⟨us,[]⟩=pure (ps.zip us)):Binds K p ps []:=by
 obtain⟨oc,u,kV,g,n,o,l,ct,r,rfl,v,s⟩:=F.ex;exact .all (h kV g n o l ct)
def F6{st f oc od p n kV h o g ct}(l:K.lookup f=some ⟨oc,od,.func (PySem.W.fnOf x qual (P9 st) (XZ st) (Xv st) .none kV h o p g ct),n⟩)(c:PySem.W.codeIn K g qual=true)(k:PySem.W.keepIn K (.ref f)=true):Fun K x qual st f (PySem.W.fnOf x qual (P9 st) (XZ st) (Xv st) .none kV h o p g ct):=⟨⟨oc,od,kV,h,o,p,g,ct,n,rfl,l,c⟩,k⟩
end
def Pp{k}(f:X5 k A):A.units+1<cLine:=JU (Nat.add_le_add_left (by simp) _) f.units
def Zdc(h:n<=1000):n<sizeLine:=JU h (by decide)
section
variable {X:Cx}
def pv(i:Nat){x pos}(h:autoParam (X.N[i]?=some x) au_0)(g:autoParam (Vis X.env.scope x) au_4)(hd:autoParam ((x==("__debug__" : Str))=false) au_1)(f:autoParam ((x==("__classdict__" : Str))=false) au_1):PE X (.Name x pos) (KE i):=Zhc h g hd f
end
def XT{A B:Prop}(h:B):if false=true then A else B:=by grind
def Kz{A B:Prop}(h:A):if true=true then A else B:=by grind
def Xy{c A B:Prop}[Decidable c](g:c->A)(f:¬c->B):if c then A else B:=by grind
def Tz{c A B:Prop}[Decidable c](f:c)(h:B):if (!decide c)=true then A else B:=by grind
def Same(H H':Hp):Prop:=∀b o,H b=some o->H' b=some o
def Same.refl (H:Hp):Same H H:=λ_ _ h=>h
def Same.trans (a:Same H g) (b:Same g f):Same H f:=λc o h=>b c o (a c o h)
def Same.free (e:Same H H') {l} (h:H' l=Option.none):H l=Option.none:=by
 cases q:H l with
 |none=>rfl
 |some o=>
  rw[e l o q]at h;lia
def Same.seq {K H H'}{a xs} (e:Same H H') (h:SqL K H a xs):SqL K H' a xs:=by
 rcases h with(h|⟨o,h⟩)|h
 ·exact .inl (.inl<|e _ _ h)
 ·exact .inl (.inr ⟨o,e _ _ h⟩)
 ·exact .inr h
end L2
set_option maxHeartbeats 4000000
namespace L2
open PySem PySem.Spec PyProof.Rows
section
variable {κ:Type} [DecidableEq κ]
noncomputable def XD(f:List (κ×V))(k:κ):Option V:=(f.find? λg=>decide (g.1=k)).map (·.2)
noncomputable def putK(f:List (κ×V))(k:κ)(v:V):List (κ×V):=
 if (f.any λg=>decide (g.1=k))=true then f.map (λg=>if g.1=k then(g.1,v)else g)else f++[(k,v)]
def Td{p:κ×V}{r:List (κ×V)}{k:κ}(e:p.1=k):XD (p::r) k=some p.2:=by simp[XD,VL,e]
def To{p:κ×V}{r:List (κ×V)}{k:κ}(e:¬p.1=k):XD (p::r) k=XD r k:=by simp[XD,VL,e]
theorem B8(k:κ):∀f:List (κ×V),(f.any λg=>decide (g.1=k))=(XD f k).isSome
 |[]=>rfl
 |p::r=>by
  rw[VY];by_cases e:p.1=k
  ·simp only[Td e,WM e,Bool.true_or,Option.isSome_some]
  ·rw[To e,Qu e,Bool.false_or];exact B8 k r
theorem O0(k j:κ)(y:V):∀f:List (κ×V),XD (f.map λg=>if g.1=k then(g.1,y)else g) j=(XD f j).map λx=>if j=k then y else x
 |[]=>rfl
 |p::r=>by
  have l:=O0 k j y r;rw[Qf];by_cases h:p.1=k
  ·rw[WT h];by_cases e:p.1=j
   ·rw[Td (p:=(p.1,y)) e,Td e,JD,WT (e.symm.trans h)]
   ·rw[To (p:=(p.1,y)) e,To e,l]
  ·rw[WS h];by_cases e:p.1=j
   ·rw[Td (p:=p) e,Td e,JD,WS (λz=>h (e.trans z))]
   ·rw[To (p:=p) e,To e,l]
theorem GQ(k j:κ)(y:V):∀f:List (κ×V),XD f k=none->XD (f++[(k,y)]) j=if j=k then some y else XD f j
 |[],_=>by
  by_cases e:k=j
  ·rw[WT e.symm];exact Td (p:=(k,y)) e
  ·rw[WS (λz=>e z.symm)];exact To (p:=(k,y)) e
 |p::r,g=>by
  rw[Vt];have h:¬p.1=k:=λz=>by rw[Td z]at g;cases g
  rw[To h]at g;have l:=GQ k j y r g;by_cases e:p.1=j
  ·rw[Td e,Td e,WS (λz=>h (e.trans z))]
  ·rw[To e,To e,l]
def FN(f:List (κ×V))(k j:κ)(y:V):XD (putK f k y) j=if j=k then some y else XD f j:=by
 unfold putK;by_cases a:(f.any λg=>decide (g.1=k))=true
 ·rw[WT a,O0];rw[B8]at a;by_cases e:j=k
  ·obtain⟨x,hx⟩:=Option.isSome_iff_exists.mp a;rw[WT e,e,hx,JD,WT rfl]
  ·rw[WS e];cases XD f j with
   |none=>rfl
   |some x=>rw[JD,WS e]
 ·rw[WS a];refine GQ k j y f ?_;rw[B8]at a;cases q:XD f k with
  |none=>rfl
  |some x=>rw[q]at a;exact(a rfl).elim
def FI(f:List (κ×V))(k:κ)(v:V):(putK f k v).length<=f.length+1:=by
 unfold putK;split
 ·rw[WL];omega
 ·rw[WW,Qe,List.length_nil];omega
def Zh8{f:List (κ×V)}{k:κ}(v:V)(h:XD f k=none):putK f k v=f++[(k,v)]:=by
 unfold putK;rw[B8,h];exact WS (by decide)
def RelO.isSome_eq {o:Option V}{u:Yq} (r:RelO o u):o.isSome=u.isSome:=by
 cases o with
 |none=>cases u with
  |none=>rfl
  |some _=>exact(show False from r).elim
 |some _=>cases u with
  |none=>exact(show False from r).elim
  |some _=>rfl
def KV.val {f:List (κ×V)}{vs:List (κ×Value)} (r:KV f vs) (k:κ):RelO (XD f k) (valueAt vs k):=by
 unfold KV at r
 induction r with
 |nil=>exact True.intro
 | @cons p q u g h t o=>
  obtain⟨n,s⟩:=h;by_cases e:p.1=k
  ·have l:q.1=k:=n.symm.trans e;have b:valueAt (q::g) k=some q.2:=by simp[valueAt,VL,l]
   rw[Td e,b];exact s
  ·have l:¬q.1=k:=λz=>e (n.trans z);have b:valueAt (q::g) k=valueAt g k:=by simp[valueAt,VL,l]
   rw[To e,b];exact o
def KV.any {f:List (κ×V)}{vs:List (κ×Value)} (r:KV f vs) (k:κ):(f.any λg=>decide (g.1=k))=vs.any λg=>decide (g.1=k):=by
 unfold KV at r
 induction r with
 |nil=>rfl
 |cons h t l=>rw[VY,VY,l,h.1]
def KV.repl {g:List (κ×V)}{vs:List (κ×Value)} (r:KV g vs) (k:κ) {y:V}{u:Value} (n:RelV y u) :
  KV (g.map λf=>if f.1=k then(f.1,y)else f) (vs.map λf=>if f.1=k then(f.1,u)else f):=by
 unfold KV at r ⊢
 induction r with
 |nil=>exact .nil
 | @cons p q w v h t o=>
  rw[Qf,Qf];refine .cons ?_ o;obtain⟨l,s⟩:=h;by_cases e:p.1=k
  ·rw[WT e,WT (l.symm.trans e)];exact⟨l,n⟩
  ·rw[WS e,WS (λz=>e (l.trans z))];exact⟨l,s⟩
def KV.put {f:List (κ×V)}{vs:List (κ×Value)} (r:KV f vs) (k:κ) {y:V}{u:Value} (g:RelV y u):KV (putK f k y) (stored vs k u):=by
 unfold putK stored;rw[r.any k];by_cases e:(vs.any λh=>decide (h.1=k))=true
 ·rw[WT e,WT e];exact r.repl k g
 ·rw[WS e,WS e];exact Paired.snoc r ⟨rfl,g⟩
def KV.length {f:List (κ×V)}{vs:List (κ×Value)} (r:KV f vs):f.length=vs.length:=Paired.length r
end
def Fz{P:Program}{w:World}{k:Key}{u:Value}(r:RelV (kV k) u):(PQ P w).is k u=true:=by
 cases k with
 |inl i=>obtain⟨t,e⟩:=(show ∃t,u=Value.int i t from r);subst e;exact Zdy P w i t
 |inr x=>obtain⟨t,e⟩:=(show ∃t,u=Value.str x t from r);subst e;exact Zgs P w x t
theorem HK{P:Program}{w:World}:∀{f:List Key}{us:Ym},Vals (f.map kV) us->ItemsAre (PQ P w) f us
 |[],_,r=>by rw[List.map_nil]at r;cases r;exact .nil
 |k::f,_,r=>by
  rw[Qf]at r;cases r with
  |cons h t=>exact .cons (Fz h) (HK t)
abbrev KT(H:Hp):List (List Key×V)->List (List Key×Addr×Value)->Prop:=Paired λp q=>p.1=q.1/\H q.2.1=some (.tup<|p.1.map kV)/\RelV p.2 q.2.2
def KT.val {H:Hp}{f:List (List Key×V)}{xs:List (List Key×Addr×Value)} (r:KT H f xs) (k:List Key):RelO (XD f k) ((atKey xs k).map (·.2)):=by
 induction r with
 |nil=>exact True.intro
 | @cons p q u g h t o=>
  obtain⟨n,_,s⟩:=h;by_cases e:p.1=k
  ·have l:q.1=k:=n.symm.trans e;have b:atKey (q::g) k=some q.2:=by simp[atKey,VL,l]
   rw[Td e,b];exact s
  ·have l:¬q.1=k:=λz=>e (n.trans z);have b:atKey (q::g) k=atKey g k:=by simp[atKey,VL,l]
   rw[To e,b];exact o
def KT.repl {H:Hp}{f:List (List Key×V)}{xs:List (List Key×Addr×Value)} (r:KT H f xs) (k:List Key) {y:V}{u:Value} (o:RelV y u) :
  KT H (f.map λl=>if l.1=k then(l.1,y)else l) (xs.map<|putAt k u):=by
 induction r with
 |nil=>exact .nil
 | @cons p q x w h t s=>
  rw[Qf,Qf];refine .cons ?_ s;obtain⟨g,n,v⟩:=h;unfold putAt;by_cases e:p.1=k
  ·rw[WT e,WT (g.symm.trans e)];exact⟨g,n,o⟩
  ·rw[WS e,WS (λz=>e (g.trans z))];exact⟨g,n,v⟩
def KT.put {H:Hp}{f:List (List Key×V)}{xs:List (List Key×Addr×Value)} (r:KT H f xs) (k:List Key) {b:Addr}{y:V}{u:Value} (l:H b=some (.tup<|k.map kV)) (g:RelV y u) :
  KT H (putK f k y) (storedH xs k b u):=by
 have e:(f.any λh=>decide (h.1=k))=(atKey xs k).isSome:=by
  rw[B8,(r.val k).isSome_eq,Option.isSome_map]
 unfold putK storedH;rw[e];by_cases q:(atKey xs k).isSome=true
 ·rw[WT q,WT q];exact r.repl k g
 ·rw[WS q,WS q];exact Paired.snoc r ⟨rfl,l,g⟩
def KT.keeps {H H':Hp}{f:List (List Key×V)}{xs:List (List Key×Addr×Value)} (r:KT H f xs) (h:∀b g,H b=some (.tup g)->H' b=some (.tup g)):KT H' f xs:=
 Paired.mapP r λ_ _ z=>⟨z.1,h _ _ z.2.1,z.2.2⟩
section
variable {P:Program}{w:World}{H:Hp}{h:Heap}{a:Addr}
def Hq{u:HO}(ok:HOk P w H h)(e:Rd H a u):ObjOk P w H h a u:=e.ok ok
def Fp{f:List (Key×V)}(ok:HOk P w H h)(e:Rd H a (.dK f)):f.length<=sizeLine/\(a==sysModules)=false/\∃vs,KV f vs/\h.DictOf (PQ P w) a vs:=
 show ObjOk P w H h a (.dK f)from Hq ok e
def Zmu{f:List (Key×V)}(ok:HOk P w H h)(e:H a=some (.dK f)):f.length<=sizeLine/\(a==sysModules)=false/\∃vs,KV f vs/\h.DictOf (PQ P w) a vs:=Fp ok (.inl e)
def Fj{f:List Key}(ok:HOk P w H h)(e:H a=some (.tup<|f.map kV)):(tupleKind<|PQ P w).is h f a:=by
 obtain⟨_,g,r,o,s,p,n,l⟩:=(show ObjOk P w H h a (.tup<|f.map kV)from ok a _ e)
 exact⟨o,g.toArray,n,s,p,l,by simpa using HK r⟩
def FO{f:List (List Key×V)}(ok:HOk P w H h)(e:Rd H a (.dT f)):f.length<=sizeLine/\(a==sysModules)=false/\
  ∃xs,KT H f xs/\h.DictOfH (tupleKind<|PQ P w) a xs:=by
 obtain⟨z,y,xs,r,o,B,C,A,v,u,s,n⟩:=(show ObjOk P w H h a (.dT f)from Hq ok e)
 refine⟨z,y,xs,r,o,B,C,A,v,u,s,λx hx=>?_,n⟩
 have all:∀{l:List (List Key×V)} {m:List (List Key×Addr×Value)},KT H l m->∀x∈m,(tupleKind<|PQ P w).is h x.1 x.2.1:=by
  intro l m q
  induction q with
  |nil=>intro x hx;exact nomatch hx
  | @cons p q G E hq t g=>
   intro x hx;rcases Qa.mp hx with e|hx
   ·subst e;exact Fj ok (by rw[←hq.1];exact hq.2.1)
   ·exact g x hx
 exact all r x hx
def Ft{f:List (List Key×V)}(ok:HOk P w H h)(e:H a=some (.dT f)):f.length<=sizeLine/\(a==sysModules)=false/\
  ∃xs,KT H f xs/\h.DictOfH (tupleKind<|PQ P w) a xs:=FO ok (.inl e)
end
def DGet(H:Hp)(a:Addr)(y:V)(r:Option V):Prop:=
 (∃f k,Rd H a (.dK f)/\y=kV k/\r=XD f k)\/∃f k b,Rd H a (.dT f)/\y=.ref b/\H b=some (.tup<|k.map kV)/\r=XD f k
def DPut(H:Hp)(a:Addr)(y v:V)(H':Hp):Prop:=
 (∃f k,H a=some (.dK f)/\y=kV k/\f.length<sizeLine/\H'=upd H a (.dK<|putK f k v))\/
 ∃f k b,H a=some (.dT f)/\y=.ref b/\H b=some (.tup<|k.map kV)/\f.length<sizeLine/\H'=upd H a (.dT<|putK f k v)
def DGet.k {H:Hp}{a:Addr}{f:List (Key×V)}{k:Key} (e:H a=some (.dK f)):DGet H a (kV k) (XD f k):=.inl ⟨f,k,.inl e,rfl,rfl⟩
def DGet.t {H:Hp}{a b:Addr}{f:List (List Key×V)}{k:List Key} (e:H a=some (.dT f)) (g:H b=some (.tup<|k.map kV)):DGet H a (.ref b) (XD f k):=.inr ⟨f,k,b,.inl e,rfl,g,rfl⟩
def DPut.k {H:Hp}{a:Addr}{f:List (Key×V)}{k:Key}{v:V} (e:H a=some (.dK f)) (g:f.length<sizeLine):DPut H a (kV k) v (upd H a<|.dK<|putK f k v):=.inl ⟨f,k,e,rfl,g,rfl⟩
def DPut.t {H:Hp}{a b:Addr}{f:List (List Key×V)}{k:List Key}{v:V} (e:H a=some (.dT f)) (h:H b=some (.tup<|k.map kV)) (g:f.length<sizeLine) :
  DPut H a (.ref b) v (upd H a<|.dT<|putK f k v):=.inr ⟨f,k,b,e,rfl,h,g,rfl⟩
section
variable {X:Cx}{pins:Yh}{σ:St}{H:Hp}{s:Shared}{a:Addr}{y v:V}{u r:Value}{o:Option V}{A:Around}{E:Yj}
def Inv.big (I:Inv X pins σ H s):sysModules<s.heap.objs.size:=by
 have h:mainGlobals<s.heap.objs.size:=(I.mod.glob.keeps I.bk).lt;exact VC (by decide) h
def Zgt{Q:Yj}(M:A.units+1<cLine)(I:Inv X pins σ H s)(g:DGet H a y (some v))(J:RelV y u)(h:∀n G,Inv X pins σ H G->RelV v n->Q n G) :
  wpAny (model X.prog X.w) A (getItem (.ref a) u) Q E s:=by
 rcases g with⟨x,k,e,ey,l⟩|⟨x,k,b,e,ey,T,l⟩
 ·subst ey;obtain⟨z,hd,L,rel,C⟩:=Fp I.hok e;obtain⟨n,hw,f⟩:=RelO.some_of (v:=v) (o:=valueAt L k) (by rw[l];exact rel.val k);exact wpAny_getItem_of (Fz J) C.mapOf hw (h n _ (I.tok _) f)
 ·subst ey;cases (show u=Value.ref b from J)
  obtain⟨z,hd,xs,rel,C⟩:=FO I.hok e;obtain⟨n,hw,f⟩:=RelO.some_of (v:=v) (o:=(atKey xs k).map (·.2)) (by rw[l];exact rel.val k);obtain⟨p,N,B⟩:=Option.map_eq_some_iff.mp hw;refine wpAny_getItem_heap (tupleKind_room_in1 M) (Fj I.hok T) C N ?_;rw[B];exact h n _ (I.tok _) f
def Zrm{Q:Yj}(B:A.units+1<cLine)(I:Inv X pins σ H s)(g:DGet H a y o)(x:RelV y u)(h:∀p,Inv X pins σ H p->Q (.bool (!o.isSome)) p) :
  wpAny (model X.prog X.w) A (compareOp .NotIn u<|.ref a) Q E s:=by
 rcases g with⟨f,k,e,ey,l⟩|⟨f,k,b,e,ey,C,l⟩
 ·subst ey;obtain⟨z,hd,G,rel,n⟩:=Fp I.hok e;refine wpAny_notIn_of (Fz x) hd n.mapOf ?_;rw[←(rel.val k).isSome_eq,←l];exact h _ (I.tok _)
 ·subst ey;cases (show u=Value.ref b from x)
  obtain⟨z,hd,xs,rel,n⟩:=FO I.hok e;refine wpAny_notIn_heap (tupleKind_room_in1 B) (Fj I.hok C) hd n ?_;have q:=(rel.val k).isSome_eq;rw[Option.isSome_map]at q;rw[←q,←l];exact h _ (I.tok _)
def FU{f:Heap}{t':Nat}{ob:HO}(I:Inv X pins σ H s)(g:Mut (H a))(h:Heap.SameBut a s.heap f)(l:∃q,f.get? a=some q)(new:ObjOk X.prog X.w (upd H a ob) f a ob) :
  Inv X pins σ (upd H a ob) {s with heap:=f,toks:=t'}:=
 I.write (x:=a) (e:=a) g (.inl rfl) (λb q n z=>(h.2 b n).trans z) l new
def Zi3{P:Program}{w:World}{H':Hp}{g:Heap}{f:List (Key×V)}{vs:List (Key×Value)}(z:f.length<=sizeLine)(hd:(a==sysModules)=false)(rel:KV f vs)(dd:g.DictOf (PQ P w) a vs) :
  ObjOk P w H' g a (.dK f):=⟨z,hd,vs,rel,dd⟩
def Zrz{H':Hp}{Q:Unit->Shared->Prop}(Y:A.units+1<cLine)(I:Inv X pins σ H s)(g:DPut H a y v H')(L:RelV y u)(rv:RelV v r)(h:∀J,Inv X pins σ H' J->Q () J) :
  wpAny (model X.prog X.w) A (setItem (.ref a) u r) Q E s:=by
 rcases g with⟨f,k,e,ey,l,C⟩|⟨f,k,b,e,ey,T,l,C⟩
 ·subst ey C;obtain⟨z,hd,U,rel,G⟩:=Zmu I.hok e;have p:U.length<=sizeLine:=by rw[←rel.length];exact z
  have B:(putK f k v).length<=sizeLine:=by have:=FI f k v;omega
  refine wpAny_setItem_pairs (hsz:=p) (Fz L) G λM n x=>h _ ?_;have he:∃q,M.get? a=some q:=let ⟨q,_,_,hq,_⟩:=n;⟨q,hq⟩;exact FU I (by rw[e];exact True.intro) x he (Zi3 B hd (rel.put k rv) n)
 ·subst ey C;cases (show u=Value.ref b from L)
  obtain⟨z,hd,xs,rel,G⟩:=Ft I.hok e;have p:xs.length<=sizeLine:=by rw[←Paired.length rel];exact z
  have B:(putK f k v).length<=sizeLine:=by have:=FI f k v;omega
  refine wpAny_setItem_heap (hsz:=p) (tupleKind_room_in1 Y) (Fj I.hok T) G λM n x=>h _ ?_;obtain⟨q,es,ep,hq,h2,h3,h4,_,h5⟩:=n;refine FU I (by rw[e];exact True.intro) x ⟨q,hq⟩ ⟨B,hd,_,(rel.put k T rv).keeps λc ys N=>?_,q,es,ep,hq,h2,h3,h4,h5⟩;rw[X1 (Ej N e (λz=>nomatch z))];exact N
end
def RV(i:Expr):Prop:=∀f g,subscripted i false f g=operate [f,g] (getItem f g)
def Zo4{prog:Program}{w:World}{A:Around}{E:Yj}{s:Shared}{env:Env}{value slice:Expr}{pos:Pos}{T id:String}{Q:Yj}(B:typeLookup (.type T) "__getitem__"=pure (some<|.builtin id))(z:RV slice)(h:wpAny (model prog w) A (eval value env) (λo n=>wpAny (model prog w) A (eval slice env) (λi f=>f.TypeIs o T/\wpAny (model prog w) A (getItem o i) Q E f) E n) E s) :
  wpAny (model prog w) A (eval (.Subscript value slice pos) env) Q E s:=by
 refine Subscript_ (Q3 h (λo n v=>Q3 v (λi f g=>?_) λ_ _ x=>x) λ_ _ x=>x);obtain⟨y,g⟩:=g;unfold subscriptTail;refine WK ?_;rw[getitemInPython_of_ne y.not_modules];refine WK (wpAny_specialOf y B ?_)
 have p:wpAny (model prog w) A (subscripted slice false o i) (λr l=>wpAny (model prog w) A (letTemporaryGo value o r >>= λ_=>pure r) Q E l) E f:=by
  rw[z o i];exact wpAny_operating (Q3 g (λr l u=>WK (wpAny_letTemporaryGo<|WN u)) λ_ _ x=>x)
 first
  |exact WN (WK p)
  |exact WK (WN<|WK p)
  |exact WK p
def Zpc{X:Cx}{pins:Yh}{l:St}{H:Hp}{s:Shared}{a:Addr}{y:V}{o:Option V}(I:Inv X pins l H s)(g:DGet H a y o):s.TypeIs (.ref a) "dict":=by
 rcases g with⟨f,k,e,_,_⟩|⟨f,k,b,e,_,_,_⟩
 ·obtain⟨_,_,n,_,h⟩:=Fp I.hok e;exact h.typeIs
 ·obtain⟨_,_,xs,_,h⟩:=FO I.hok e;exact h.typeIs
noncomputable def Mn(l h:TE):TE:=λf H Q=>l f H λx n=>h f n λy g=>∃a v,x=.ref a/\DGet g a y (some v)/\Q v g
noncomputable def Iq(h l:TE):TE:=λf H Q=>h f H λy n=>l f n λx g=>∃a o,x=.ref a/\DGet g a y o/\Q (.bl (!o.isSome)) g
noncomputable def Rv(n h l:TE):TS:=λD f H=>l f H λv r=>n f r λx p=>h f p λy o=>∃a g,x=.ref a/\DPut o a y v g/\D.nx f g
section
variable {X:Cx}{o i e value:Expr}{pos pos' tpos:Pos}{td ty tv:TE}
def Bq(C:X.A.units+1<cLine)(G:PE X o td)(J:PE X i ty)(E:RV i):PE X (.Subscript o i pos) (Mn td ty):=by
 intro pins s l H Q I h;refine Zo4 PySem.F.slot_dict_getitem.lookup E (thn (G pins s l H _ I h) ?_);rintro u p ⟨x,U,N,w,B⟩;refine thn (J pins p l U _ N B) ?_;rintro iv s2 ⟨y,T,n,r,a,v,L,g,z⟩;subst L;obtain rfl:u=Value.ref a:=w;exact⟨Zpc n g,Zgt C n g r λY s3 M f=>⟨v,T,M,f,z⟩⟩
def Zgn(z:X.A.units+1<cLine)(C:PE X i ty)(B:PE X o td):PC X .NotIn i o (Iq ty td):=by
 intro pins s f H Q I h;refine thn (C pins s f H _ I h) ?_;rintro Y l ⟨y,N,L,n,v⟩;refine thn (B pins l f N _ L v) ?_;rintro u U ⟨x,M,J,p,a,w,E,g,r⟩;subst E;obtain rfl:u=Value.ref a:=p;exact Zrm z J g n λT G=>⟨.bl (!w.isSome),M,G,rfl,r⟩
def DJ(J:X.A.units+1<cLine)(M:PE X o td)(N:PE X i ty)(G:PE X value tv)(L:swapsWith value (some<|.Subscript o i pos') pos.line X.env=pure false) :
  PS X (.Assign [.Subscript o i pos'] value pos) (Rv td ty tv):=by
 intro pins s f H D I h;refine wpAny_Assign_Subscript (thn (G pins s f H _ I h) ?_) L;rintro r n ⟨v,H1,I1,z,E⟩;refine thn (M pins n f H1 _ I1 E) ?_;rintro u l ⟨x,H2,Y,w,C⟩;refine thn (N pins l f H2 _ Y C) ?_;rintro iv s3 ⟨y,H3,U,p,a,H4,Q,g,B⟩;subst Q;obtain rfl:u=Value.ref a:=w;exact Zrz J U g p z λs4 T=>⟨f,H4,T,B⟩
end
def Zg4{P:Program}{w:World}{H:Hp}(h:Heap)(f:sysModules<h.objs.size):ObjOk P w H (h.push {cls:=.type "dict",data:=.dict #[]}) h.objs.size (.dK []):=
 ⟨QY _,Vp.mpr (Ne.symm<|Qo f),[],.nil,Heap.DictOf.new h⟩
def Ie{P:Program}{w:World}{H:Hp}(h:Heap)(f:sysModules<h.objs.size):ObjOk P w H (h.push {cls:=.type "dict",data:=.dict #[]}) h.objs.size (.dT []):=
 ⟨QY _,Vp.mpr (Ne.symm<|Qo f),[],.nil,_,#[],0,Qc _ rfl,⟨rfl,rfl,rfl⟩,rfl,rfl,VR⟩
noncomputable def Oc:TE:=λ_ H Q=>∀p,H p=none->Q (.ref p) (upd H p<|.dK [])
noncomputable def Hl:TE:=λ_ H Q=>∀p,H p=none->Q (.ref p) (upd H p<|.dT [])
section
variable {X:Cx}{pos:Pos}
def Zc7:PE X (.Dict [] [] pos) Oc:=λpins s f H Q I h=>
 wpAny_Dict_empty ⟨.ref s.heap.objs.size,_,I.laid (a:=s.heap.objs.size) (o:=.dK []) (t':=s.toks) (λ_ _ q=>WO _ q) (WU _) (Zg4 s.heap I.big),rfl,h _ (I.hok.fresh<|WU _)⟩
def Zbw:PE X (.Dict [] [] pos) Hl:=λpins s f H Q I h=>
 wpAny_Dict_empty ⟨.ref s.heap.objs.size,_,I.laid (a:=s.heap.objs.size) (o:=.dT []) (t':=s.toks) (λ_ _ q=>WO _ q) (WU _) (Ie s.heap I.big),rfl,h _ (I.hok.fresh<|WU _)⟩
end
def LD:List (TE×TE)->St->Hp->(List (V×V)->Hp->Prop)->Prop
 |[],_,H,Q=>Q [] H
 |(h,g)::r,f,H,Q=>h f H λx p=>g f p λy o=>LD r f o λl n=>Q ((x,y)::l) n
abbrev VV:List (V×V)->List (Value×Value)->Prop:=Paired λp q=>RelV p.1 q.1/\RelV p.2 q.2
def PPs(X:Cx)(pos:Pos)(keys:List (Option Expr))(values:Yo)(g:List (TE×TE)):Prop:=
 ∀(pins:Yh) (s:Shared) (f:St) (H:Hp) (Q:List (V×V)->Hp->Prop),Inv X pins f H s->LD g f H Q->
  wpAny (model X.prog X.w) X.A (evalPairs<|pairTrees keys values X.env pos) (λn o=>∃h l,Inv X pins f l o/\VV h n/\Q h l) X.xe s
def Zfu{X:Cx}{pos:Pos}:PPs X pos [] [] []:=λpins s f H Q I h=>pairTrees_nil_walk ⟨[],H,I,.nil,h⟩
def Zhn{X:Cx}{pos:Pos}{k v:Expr}{o:List (Option Expr)}{vs:Yo}{n l:TE}{f:List (TE×TE)}(L:PE X k n)(G:PE X v l)(J:PPs X pos o vs f) :
  PPs X pos (some k::o) (v::vs) ((n,l)::f):=λpins s g H Q I h=>
 pairTrees_cons_walk (thn (L pins s g H _ I h) λu r ⟨x,H1,T,z,C⟩=>thn (G pins r g H1 _ T C) λw2 p ⟨y,Y,N,w,B⟩=>
  thn (J pins p g Y _ N B) λws s3 ⟨E,U,M,rel,A⟩=>⟨(x,y)::E,U,M,.cons ⟨z,w⟩ rel,A⟩)
end L2
set_option genInjectivity false
set_option genSizeOfSpec false
namespace Own
open PySem PySem.Spec PyProof.Rows L2
structure Def (K:Ye) (mg:Yi) (x:Str) (st:Stmt) (ps:Yn):Prop where
 ex:∃f fd,Fun K x x st f fd/\mg x=some (.ref f)/\Binds K fd ps []
structure Callee (P:Program) (w:World) (K:Ye) (mg:Yi) (base:Heap) (CX:CXT) (k:Nat) (x:Str) (ps:Yn) (sp:Sp):Prop where
 ex:∃f fd,KG P w K mg base CX k f fd ps sp/\mg x=some (.ref f)/\PySem.W.keepIn K (.ref f)=true/\(∃o:Obj,K.lookup f=some o/\o.data=.func fd)/\Binds K fd ps []
section
variable {P:Program}{w:World}{K:Ye}{mg:Yi}{base:Heap}
def Callee.at {st f g k ps sp} (C:Callee P w K mg base CX k x ps sp) (v:mg x=some (.ref f)) (F:Fun K x x st f g) (_:Def K mg x st ps):KG P w K mg base CX k f g ps sp:=by
 obtain⟨z,n,E,l,_,y,_⟩:=C.ex;obtain⟨oc,s,kV,o,r,B,p,A,h,_,u,_⟩:=F.ex
 grind
def Def.ok {st N ps k sp} (D:Def K mg x st ps) (S:Xw N ps (Xv st)) (len:∀vs H Q E,sp vs H Q E->vs.length=ps.length)
  (l:∀f g A outer s H vs Q E,X5 k (A.deeper<|envOfC x (Xv st) s.heap.objs.size f g)->sp vs H Q E->
   ∃t,PSs (Kj CX0 P w K mg base N x (Xv st) f g A outer s H E).nox (XZ st) t/\t {nx:=λ_ H'=>Q .non H',rt:=Q} (start N vs) H):Callee P w K mg base CX0 (k+1) x ps sp:=by
 obtain⟨f,u,F,p,r⟩:=D.ex;refine⟨f,u,F.ok S len λg A outer s H vs Q E o h=>l f g A outer s H vs Q E o h,p,F.kp,?_,r⟩;obtain⟨oc,z,kV,v,y,G,g,C,n,_,B,_⟩:=F.ex
 grind
end
section
variable {X:Cx}{CX:CXT}{k:Nat}{ps:Yn}{sp:Sp}{E:XK}{x:Str}{p pos:Pos}{e:Expr}{es:Yo}{t:TA}
def FJ(C:Callee X.prog X.w X.K X.mg X.base CX k x ps sp)(l:X5 k X.A)(hx:P5 CX X E)(v:PA X (e::es) t)(r:autoParam (Gl X x) au_0)(h:autoParam ((x==("__debug__" : Str))=false) au_1)(s:autoParam (starEach (e::es) X.env=(false,eval e X.env)::starEach es X.env) au_0)(g:autoParam ((backTo pos<|starEach es X.env).any (·.1)=false) au_0) :
  PE X (.Call (.Name x p) (e::es) [] pos) (N0 sp [] E t):=by
 obtain⟨f,y,F,n,o,_,u⟩:=C.ex;exact Zqq F l r n o u .nil hx v h s g
def Zgh:Kv X (.builtin "isinstance") (λxs H Q=>∃x n t b,xs=[x,.ty n]/\Ph X.K H x t/\PySem.W.kitOne X.K t (.type n)=some b/\Q (.bl b) H):=by
 intro pins s w H xs y Q I o h;obtain⟨x,n,t,b,rfl,g,e,q⟩:=h;cases o with
 |cons r u=>
  cases u with
  |cons v f=>
   cases f
   obtain rfl:=v;exact Znm I r g e λl=>⟨.bl b,H,I.tok l,rfl,q⟩
def Zba:IxR X (λx y H Q=>Sg X.K x y H Q\/SQ X.K x y H Q):=ix_list.or Zpk
end
noncomputable def LA(t u:TS):TS:=λD h H=>∃J:L2.St->Hp->Prop,t {D with nx:=J} h H/\∀f g,J f g->u D f g
def Zpx{st rest t u}(r:PS X st t)(p:PSs X rest u):PSs X (st::rest) (LA t u):=by
 intro pins s n H D I h;obtain⟨J,h,k⟩:=h;refine wpAny_execs_cons (thn (r pins s n H {D with nx:=J} I h) λf o q=>?_)
 cases f with
 |next=>
  obtain⟨g,l,v,q⟩:=q;exact p pins o g l D v (k g l q)
 |_=>exact q
def Zkb(K:Ye)(n:String):PySem.W.kitOne K (.type n) (.type n)=some true:=by
 unfold PySem.W.kitOne;simp
def T5{xs i v}(h:atI xs i=some v):atI (xs.map f) i=some (f v):=by
 unfold atI at h ⊢;cases e:ixN xs.length i with
 |_=>grind
def Bg{i v}(f:0<=i)(h:xs[i.toNat]?=some v):atI xs i=some v:=by
 have:=Te h
 grind
def Ki(h:H a=none):Same H (upd H a o):=λb u e=>by rw[X1 (K7 e h)];exact e
def Same.upd (S:Same H H') (h:H a=none):Same H (upd H' a o):=λb u e=>by rw[X1 (K7 e h)];exact S b u e
def Same.new (S:Same H H') (h:H' a=none):Same H (L2.upd H' a o):=Own.Same.upd S (S.free h)
def Zm7(names:List (Str×NameKind))(g:∀x∈names,x.2=.free->∃c,env.cells.lookup x.1=some c):∀f,(∀x c,f.lookup x=some c->env.cells.lookup x=some c)->
  ∃l,(forIn names f (λx A=>if (x.2 == .free)=true then(do let c ←cellOf env x.1;pure (ForInStep.yield ((x.1,c)::A)))else pure (ForInStep.yield A)):Sem (List (Str×Addr)))=pure l/\
   (∀x c,l.lookup x=some c->env.cells.lookup x=some c)/\(∀x,(∃c,f.lookup x=some c)->∃c,l.lookup x=some c)/\∀x∈names,x.2=.free->∃c,l.lookup x.1=some c:=by
 induction names with
 |nil=>
  intro f s;exact⟨f,rfl,s,λ_ h=>h,λx hx=>by cases hx⟩
 |cons y r B=>
  intro f s;have o:=B λx hx=>g x (Qk _ hx);obtain⟨n,k⟩:=y;by_cases w:k=.free
  ·subst w;obtain⟨c,z⟩:=g (n,.free) Q2 rfl
   have C:∀x d,List.lookup x ((n,c)::f)=some d->env.cells.lookup x=some d:=λx d e=>by
    rw[Ve]at e;by_cases hx:x=n
    ·subst hx;simp at e;subst e;exact z
    ·have:(x==n)=false:=by simpa using hx
     rw[this]at e;exact s x d e
   obtain⟨l,e,v,p2,u⟩:=o ((n,c)::f) C;refine⟨l,?_,v,λx hx=>p2 x ?_,λx hx p=>?_⟩
   ·rw[List.forIn_cons];have E:cellOf env n=pure c:=by unfold cellOf;rw[z]
    rwa[E]
   ·rw[Ve];cases (x==n)
    ·exact hx
    ·exact⟨c,rfl⟩
   ·rcases Qa.mp hx with rfl|hx
    ·exact p2 n ⟨c,by simp[Ve]⟩
    ·exact u x hx p
  ·obtain⟨l,e,v,p2,u⟩:=o f s;refine⟨l,?_,v,p2,λx hx p=>?_⟩
   ·grind
   ·rcases Qa.mp hx with rfl|hx
    ·exact absurd p w
    ·exact u x hx p
def Zp8{sc}(f:∀x∈sc.names,x.2=.free->∃c,env.cells.lookup x.1=some c) :
  ∃g,closureFor sc env=pure g/\(∀x c,g.lookup x=some c->env.cells.lookup x=some c)/\∀x∈sc.names,x.2=.free->∃c,g.lookup x.1=some c:=by
 obtain⟨g,e,n,_,l⟩:=Zm7 sc.names f [] (λx c h=>by cases h);unfold closureFor
 grind
noncomputable def Ky(X:Cx)(N':Yn)(h:Scope)(l:List (Str×Addr))(C:Addr)(f:Shared)(g:Hp)(ex:List Addr):Cx:=
 {X with N:=N',s₀:=f,H₀:=g,env:=compEnvC h l C X.env,outer:=X.stack,ex:=ex,fn:=λ_=>false,pn:=[],xe:=λ_ _=>False}
structure Sk (X:Cx) (N':Yn) (φ:Yk) (sc:Scope):Prop where
 kind:sc.kind=.function
 okind:X.env.scope.kind=.function
 nocell:∀y∈sc.names,y.2≠.cell
 names:∀y∈sc.names,y.2=.local->sc.names.lookup y.1=some .local
 frees:∀y∈sc.names,y.2=.free->X.env.scope.names.lookup y.1=some .cell
 len:φ.length=N'.length
 pick:∀(i:Nat) (x:Str) (j:Nat),N'[i]?=some x->φ[i]?=some (some j)->X.N[j]?=some x/\sc.names.lookup x=some .free
noncomputable def atStart(φ:Yk)(f:L2.St):L2.St:=φ.map λo=>o.bind λj=>(f[j]?).join
def Sub(g f:L2.St):Prop:=f.length=g.length/\∀(i:Nat) (v:V),g[i]?=some (some v)->f[i]?=some (some v)
def Sub.refl:Sub f f:=⟨rfl,λ_ _ h=>h⟩
def Sub.skip (h:Sub g f):Sub (none::g) (x::f):=by
 refine⟨by simp[h.1],λi v e=>?_⟩;cases i with
 |zero=>grind
 |succ i=>simp at e ⊢;exact h.2 i v e
theorem GX{env:Env}(p:env.scope.kind=.function):∀{names:List (Str×NameKind)}{x:Str},names.lookup x=some .free->env.scope.names.lookup x=some .cell->
  (names.map λ(n,k)=>if (k==NameKind.free&&env.scope.kind == .function&&env.kindOf n==some .cell)then(n,NameKind.cell)else(n,k)).lookup x=some .cell
 |[],_,h,_=>by simp at h
 |(n,k)::r,x,h,g=>by
  have l:=@GX env p r x;show List.lookup x ((if (k==NameKind.free&&env.scope.kind == .function&&env.kindOf n==some .cell)=true then(n,NameKind.cell)else(n,k))::_)=_;cases hx:x==n with
  |true=>
   have o:env.kindOf x=some .cell:=g;simp_all
  |false=>
   simp only[Ve,hx]at h;by_cases f:(k==NameKind.free&&env.scope.kind == .function&&env.kindOf n==some .cell)=true
   ·rw[WT f];simp only[Ve,hx];exact l h g
   ·rw[WS f];simp only[Ve,hx];exact l h g
theorem Dt{env:Env}:∀{names:List (Str×NameKind)}{x}{q:NameKind},
  (names.map λ(n,k)=>if (k==NameKind.free&&env.scope.kind == .function&&env.kindOf n==some .cell)then(n,NameKind.cell)else(n,k)).lookup x=some q->∃k,(x,k)∈names/\(q=k\/k=.free)
 |[],_,_,h=>by simp at h
 |(n,k)::r,x,q,h=>by
  have g:List.lookup x ((if (k==NameKind.free&&env.scope.kind == .function&&env.kindOf n==some .cell)=true then(n,NameKind.cell)else(n,k))::(r.map λ(n,k)=>if (k==NameKind.free&&env.scope.kind == .function&&env.kindOf n==some .cell)then(n,NameKind.cell)else(n,k)))=some q:=h;cases hx:x==n with
  |true=>
   have e:x=n:=by simpa using hx
   subst e;by_cases f:(k==NameKind.free&&env.scope.kind == .function&&env.kindOf x==some .cell)=true
   ·simp_all
   ·simp_all
  |false=>
   have p:List.lookup x (r.map λ(n,k)=>if (k==NameKind.free&&env.scope.kind == .function&&env.kindOf n==some .cell)then(n,NameKind.cell)else(n,k))=some q:=by
    by_cases f:(k==NameKind.free&&env.scope.kind == .function&&env.kindOf n==some .cell)=true
    ·rw[WT f]at g;simp only[Ve,hx]at g;exact g
    ·rw[WS f]at g;simp only[Ve,hx]at g;exact g
   obtain⟨l,o,hq⟩:=(@Dt env r x q) p;exact⟨l,Qk _ o,hq⟩
def Zr4{L target iter E scope pos N M env}(I:Nat->Shared->Prop)
  (turn:∀n s,I n s->wpAny (model prog w) A (pyNext N) (λr l=>match r with
   |none=>R (.ok .next) l
   |some v=>wpAny (model prog w) A (letOwnedTupleGo target N v) (λ_ g=>wpAny (model prog w) A (assign target env v) (λ_ y=>
     wpAny (model prog w) A (forIn E true λc r=>if r=true then do let ok ←isTrue c env (eval c env);pure (ForInStep.yield ok)else pure (ForInStep.yield r)) (λok f=>
      if ok=true then wpAny (model prog w) A (eval L env) (λx u=>
       wpAny (model prog w) A (call (.builtin "list.append") [M,x]) (λ_ p=>∃m,m<n/\I m p) (λ_ _=>False) u) (λ_ _=>False) f
      else ∃m,m<n/\I m f) (λ_ _=>False) y) (λ_ _=>False) g) (λ_ _=>False) l) (λ_ _=>False) s)
  (n:Nat) (h:I n s) :
  codeAny (model prog w) A (.compLoop (.ListComp L [⟨target,iter,E,0⟩] scope pos) 0 N M env) R s:=by
 refine codeAny_loop rfl I (λn s Q=>?_) n h;refine wpAny_noted ?_;rw[compTurn_list];refine WK (VX<|WK (Q3 (turn n s Q) (λr l B=>?_) λ_ _ o=>o.elim));cases r with
 |none=>exact WN B
 |some v=>
  refine WK (Q3 B (λ_ g C=>?_) λ_ _ o=>o.elim);refine WK (Q3 C (λ_ y J=>WK (Q3 J (λok f z=>?_) λ_ _ o=>o.elim)) λ_ _ o=>o.elim);cases ok with
  |false=>exact WN ⟨rfl,z⟩
  |true=>
   exact WK (WK (Q3 z (λx u H=>WK (Q3 H (λ_ p G=>WN (WN ⟨rfl,G⟩)) λ_ _ o=>o.elim)) λ_ _ o=>o.elim))
def NK(X:Cx)(g:Yo)(t:TT):Prop:=
 ∀(pins:Yh) (s:Shared) (f:L2.St) (H:Hp) (Q:Bool->Hp->Prop),Inv X pins f H s->t f H Q->
  wpAny (model X.prog X.w) X.A (forIn g true λc r=>if r=true then do let ok ←isTrue c X.env (eval c X.env);pure (ForInStep.yield ok)else pure (ForInStep.yield r)) (TP X pins f Q) X.xe s
noncomputable def Zao:TT:=λ_ H Q=>Q true H
def Nz:NK X [] Zao:=λ_ _ _ H _ I h=>WN ⟨H,I,h⟩
def FQ(g:PT X c t):NK X [c] t:=by
 intro pins s f H Q I h;rw[List.forIn_cons];refine WK ?_;exact WK (thn (g pins s f H Q I h) λb l q=>WN (WN q))
noncomputable def B9(φ:Yk)(v:TI)(g:TG)(tc:TT)(te:TE):TE:=λo H Q=>v o H λJ u=>∀D,u D=none->∃W:Nat->Nat->List V->Hp->Prop,(∃m,W 0 m [] (upd u D<|.lst []))/\
 ∀i m h n,W i m h n->(J.stop i n/\Q (.ref D) n)\/(J.go i n/\∀x s,J.yld i n x s->g x (atStart φ o) s λf w=>Sub (atStart φ o) f/\tc f w λb r=>
  if b=true then te f r λy p=>p D=some (.lst h)/\h.length<sizeLine/\∃l,l<m/\W (i+1) l (h++[y]) (upd p D<|.lst (h++[y]))else ∃l,l<m/\W (i+1) l h r)
def Inv.weak {g f:L2.St}{H}{s} (I:Inv X pins f H s) (S:Sub g f):Inv X pins g H s:=
 ⟨I.ok,I.os,I.bare,I.base,let ⟨m,h,l⟩:=I.loc;⟨m,h,λi x v p o n=>l i x v p (S.2 i v o) n⟩,I.cell,I.free,I.freeC,I.pin,I.hok,by rw[←S.1];exact I.len⟩
def He{i:Nat}{v}(h:(atStart φ f)[i]?=some (some v)):∃j,φ[i]?=some (some j)/\f[j]?=some (some v):=by
 unfold atStart at h;cases e:φ[i]? with
 |none=>grind
 |some o=>
  cases o with
  |_=>grind
def CompEnd(X:Cx)(pins:Yh)(h:L2.St)(Q:VK)(use:Option (Value->Sem Unit))(l:Yj):Prop:=
 ∀(D C:Addr) (g:Hp) (f:Shared),Q (.ref D) g->Inv X pins h g f->(∃m,f.heap.Ns C m)->g C=none->C≠X.env.locals->X.s₀.heap.objs.size<=C->(∀x c,X.env.cells.lookup x=some c->c≠C)->(∀p∈X.pn++pins,p.1≠C)->C∉X.fs->
  compPost (model X.prog X.w) X.A X.xe use l (.ref D) C (.ok .next) f
def Rl{elt iter tg}{ifs}{pos pos'}{wi}{g}{tc}{te}{use}{QQ}(hcalm:X.calm=true)(S:Sk X N' φ G)(hi:PI X tg iter wi)(hin:∀U C s₃ H₃ ex,PG (Ky X N' G U C s₃ H₃ ex) tg g/\NK (Ky X N' G U C s₃ H₃ ex) ifs tc/\PE (Ky X N' G U C s₃ H₃ ex) elt te)(hs:∀x,foldedSetIterable iter X.env x=pure x){pins}{s}{σ:L2.St}{H}{Q}(I:Inv X pins σ H s)(h:B9 φ wi g tc te σ H Q)(fin:CompEnd X pins σ Q use QQ) :
  wpAny (model X.prog X.w) X.A (comprehension (.ListComp elt [⟨tg,iter,ifs,0⟩] G pos) G X.env pos' (newList []) false (eval iter X.env) use) QQ X.xe s:=by
 obtain⟨U,hcl,p1,p3⟩:=Zp8 λx hx hf=>I.ok.has x.1 (.inl<|S.frees x hx hf);refine wpAny_comprehension_free rfl hs hcl S.kind S.names ?_;refine thn (hi pins s σ H _ I h) λv s1 h1=>thn h1 λitv s2 h2=>?_;obtain⟨it,L,tn,J,H2,e,I2,T,st2,f2,hR⟩:=h2;subst e;refine QF ?_;have hf:=I2.hok.fresh (WU _);obtain⟨W,⟨m0,w0⟩,turn⟩:=hR s2.heap.objs.size hf;generalize eD:s2.heap.objs.size=D at *
 have I3:Inv X pins σ (upd H2 D<|.lst []) {s2 with heap:=s2.heap.push {cls:=.type "list",dict:=none,data:=.seq ([]:Ym).toArray}}:=
  I2.laid (λb u e=>WO _ e) (Vi eD) ⟨QY _,[],0,.nil,by rw[←eD];exact Qc _ rfl⟩
 have st3:tn 0 (s2.heap.push {cls:=.type "list",dict:=none,data:=.seq ([]:Ym).toArray}):=T.keep _ _ _ st2 λb _ o e=>WO _ e
 have hfpD:∀b∈L,b≠D:=λb f z=>by
  obtain⟨o,ho,_⟩:=T.obj _ _ st2 b f
  have:=WY ho
  rw[z,←eD]at this;exact QW _ this
 have f3:∀b∈L,Nq X pins (upd H2 D<|.lst []) b:=λb f=>⟨by rw[X1 (hfpD b f)];exact(f2 b f).1,(f2 b f).2⟩;generalize es3:({s2 with heap:=s2.heap.push {cls:=.type "list",dict:=none,data:=.seq ([]:Ym).toArray}}:Shared)=l at *
 have st3':tn 0 l.heap:=by rw[←es3];exact st3
 generalize eH3:upd H2 D (.lst [])=H3 at *;refine wpAny_newFunctionEnv S.nocell (by intro y hy;simp at hy) (λh₁ E B=>?_) S.kind;have hh3:l.heap=s2.heap.push {cls:=.type "list",dict:=none,data:=.seq ([]:Ym).toArray}:=by rw[←es3]
 rw[hh3]at E B;rw[←hh3]at E B;have old:=λb o e=>B.extBut b o (Qo<|WY e) (WO _ e)
 have hC0:l.heap.get? l.heap.objs.size=none:=by
  cases e:l.heap.get? l.heap.objs.size with
  |none=>rfl
  |some o=>exact absurd (WY e) (QW _)
 generalize eC:l.heap.objs.size=C at *;have hH3C:=I3.hok.fresh (Vi eC)
 have OK:(Ky X N' G U C l H3 L).Ok:=by
  refine⟨I.ok.mod,?_,I.ok.glob,I.ok.blt,Vi eC,λx y c h1 h2=>I.ok.inj x y c (p1 x c h1) (p1 y c h2),?_,(λx c hx=>by cases hx),I.ok.hd,I.ok.frames,.inl rfl,?_,I3.bs,WZ I.ok.bsz I3.sz,?_,?_,I3.stack,I3.stkFree⟩
  ·exact S.kind
  ·intro x hx;have hx':=hx.imp Dt Dt
   have hfr:(x,NameKind.free)∈G.names:=by
    rcases hx' with⟨k,hm,rfl|rfl⟩|⟨k,hm,rfl|rfl⟩
    ·exact absurd rfl (S.nocell _ hm)
    ·exact hm
    ·exact hm
    ·exact hm
   exact p3 _ hfr rfl
  ·intro b f;refine⟨λz=>?_,λx c hx=>(f3 b f).2.2.2.2.1 x c (p1 x c hx)⟩;obtain⟨o,ho,_⟩:=T.obj _ _ st3' b f;have z':b=C:=z;rw[z',hC0]at ho;cases ho
  ·intro b o f hx;obtain⟨_,_,_,q,_,_⟩:=f3 b hx;rcases q with q|q
   ·exact I.ok.noex b o f q
   ·have:=Qs (WY f) (WZ I.ok.bsz q)
    exact QW _ this
  ·intro b f hz;rcases Qa.mp (I.stkSub b hz)with q|q
   ·exact(f3 b f).2.1 q
   ·exact(f3 b f).2.2.1 q
 have hlen0:(atStart φ σ).length=N'.length:=by unfold atStart;rw[WL];exact S.len
 have I4:Inv (Ky X N' G U C l H3 L) [] (atStart φ σ) H3 {l with heap:=h₁,toks:=l.toks+([]:List (Str×Value)).length}:=by
  refine⟨OK,rfl,I3.bare,Un.kept old,⟨_,E,λi x v h1 h2 h3=>?_⟩,λx c hx=>?_,hH3C,λx c hx=>I3.freeC x c (p1 x c hx),λp hp=>?_,I3.hok.kept old,hlen0⟩
  ·obtain⟨j,hj,hv⟩:=He h2;obtain⟨hN,hfr⟩:=S.pick i x j h1 hj;obtain⟨m,_,hl⟩:=I3.loc;have hm:=Vq hfr;have M:=S.frees _ hm rfl;obtain⟨u,ru,lk⟩:=hl j x v hN hv (.inr<|.inl M);refine⟨u,ru,.inr ⟨.inl (GX S.okind hfr M),?_⟩⟩;obtain⟨c,hc⟩:=p3 _ hm rfl;rcases lk with⟨hk,_⟩|⟨_,c',hc',hcl'⟩
   ·have hk':X.env.scope.names.lookup x=some .local:=hk;rw[M]at hk';cases hk'
   ·have e:=p1 _ _ hc;rw[hc']at e;cases e
    obtain⟨o,ho,hd⟩:=hcl';exact⟨_,hc,o,old _ o ho,hd⟩
  ·obtain⟨v,hv⟩:=I3.cell x c (p1 x c hx);obtain⟨o,ho,hd⟩:=hv;exact⟨v,o,old _ o ho,hd⟩
  ·exact absurd hp (by simp[Ky])
 have st4:=T.keep _ _ _ st3' λb _ o e=>old b o e
 have stat:∀{H':Hp},(∀b∈L,H' b=none)->∀b∈L,Nq (Ky X N' G U C l H3 L) [] H' b:=λhn b f=>
  ⟨hn b f,(OK.exf b f).1,OK.exfs b f,.inl f,(OK.exf b f).2,λp hp=>absurd hp (by simp[Ky])⟩
 obtain⟨hPG,hPI,hPE⟩:=hin U C l H3 L
 have loop:codeAny (model X.prog X.w) X.A (.compLoop (.ListComp elt [⟨tg,iter,ifs,0⟩] G pos) 0 (.ref it) (.ref D)<|compEnvC G U C X.env) (compPost (model X.prog X.w) X.A X.xe use QQ (.ref D) C) {l with heap:=h₁,toks:=l.toks+([]:List (Str×Value)).length}:=by
  refine Zr4 (λn s'=>∃i ys σ' H',Inv (Ky X N' G U C l H3 L) [] σ' H' s'/\Sub (atStart φ σ) σ'/\tn i s'.heap/\(∀b∈L,H' b=none)/\W i n ys H') ?_ m0 ⟨0,[],_,_,I4,Sub.refl,st4,λb f=>(f3 b f).1,w0⟩;rintro n s5 ⟨i,ys,σ5,H5,I5,sub5,st5,fr5,w5⟩;have I5':=Own.Inv.weak I5 sub5;rcases turn i n ys H5 w5 with⟨stop,qn⟩|⟨go,step⟩
  ·refine thn (T.done (Ky X N' G U C l H3 L) rfl rfl rfl hcalm i [] s5 _ H5 _ I5' (stat fr5) st5 stop) ?_;rintro r s6 ⟨hr,I6⟩;subst hr;obtain⟨m,hn,_⟩:=I6.loc;obtain⟨hh,gg,dd,tt,oo⟩:=s6;obtain rfl:=I6.os;have R:Inv X pins σ H5 {l with heap:=hh,gens:=gg,drawn:=dd,toks:=tt}:=I3.call I6.base I6.hok I6.bare λb f=>⟨(f3 b f).2.2.2.1,(f3 b f).2.1,(f3 b f).2.2.2.2.1,(f3 b f).2.2.2.2.2⟩
   have hC3:=Vi eC;obtain⟨q0,q1,q2,q3,q4,q5⟩:=I3.fpOk hC3 hH3C;refine fin D C H5 _ qn R ⟨m,hn⟩ I6.free q1 (WZ I3.sz hC3) q4 q5 q2
  ·refine thn (T.item (Ky X N' G U C l H3 L) rfl rfl rfl hcalm i [] s5 _ H5 _ I5' (stat fr5) st5 go) ?_;rintro r s6 ⟨u,hr,h6⟩;subst hr;refine thn h6 ?_;rintro _ s7 ⟨x,H7,I7,r7,y7,st7,fr7⟩;have I7':=I7.pinned (stat fr7) (T.obj _ _ st7);refine thn (hPG _ s7 _ H7 x u _ I7' r7<|step x H7 y7) ?_;rintro _ s8 ⟨σ8,H8,I8,sub8,q8⟩;refine thn (hPI _ s8 σ8 H8 _ I8 q8) ?_;rintro ok s9 ⟨H9,I9,q9⟩
   have again:∀{Y:Shared} {N:Hp} {ys':List V} {m':Nat},Inv (Ky X N' G U C l H3 L) ([]++B6 L s7.heap) σ8 N Y->W (i+1) m' ys' N->∃i ys σ' H',Inv (Ky X N' G U C l H3 L) [] σ' H' Y/\Sub (atStart φ σ) σ'/\tn i Y.heap/\(∀b∈L,H' b=none)/\W i m' ys H':=λ{Y N ys' m'} J10 w10=>by
    refine⟨i+1,ys',σ8,N,J10.unpinned,sub8,T.keep _ _ _ st7 λb f o e=>(J10.pin (b,o)<|Qr _<|Qr _<|Fk f e).1,λb f=>?_,w10⟩;obtain⟨o,e,d⟩:=T.obj _ _ st7 b f;exact(J10.pin (b,o)<|Qr _<|Qr _<|Fk f e).2.1
   cases ok with
   |false=>
    obtain⟨m',hm,w'⟩:=q9;exact⟨m',hm,again I9 w'⟩
   |true=>
    refine thn (hPE _ s9 σ8 H9 _ I9 q9) ?_;rintro xv Y ⟨y,N,I10,r10,hD,hl,m',hm,w'⟩;refine thn (Bw _ Y σ8 N (.ref D) [y] (.ref D) [xv] (λ_ H11=>H11=upd N D (.lst (ys++[y]))) I10 rfl (.cons r10 .nil) ⟨D,ys,y,rfl,rfl,hD,hl,rfl⟩) ?_;rintro _ s11 ⟨_,H11,I11,_,e11⟩;subst e11;exact⟨m',hm,again I11 w'⟩
 refine codeAny_compStart_list loop (T.self _ 0 _ _ _ st4 loop)
def Df{r iter v p pos z g tc te}(n:X.calm=true)(S:Sk X N' φ u)(J:PI X v iter z)(w:∀y C f l ex,PG (Ky X N' u y C f l ex) v g/\NK (Ky X N' u y C f l ex) p tc/\PE (Ky X N' u y C f l ex) r te)(B:autoParam (∀x,foldedSetIterable iter X.env x=pure x) au_3):PE X (.ListComp r [⟨v,iter,p,0⟩] u pos) (B9 φ z g tc te):=by
 intro pins s σ H Q I h;refine Rl n S J w B I h λD C H5 s6 q R G Y U T N M c5=>?_;obtain⟨m,E⟩:=G;exact⟨m,E,λh' A=>⟨.ref D,H5,R.turned (λb o L e=>A.extBut b o L e) Y U (.inr T) N M,rfl,q⟩⟩
def Zj2{u iter A n pos spos py M g tc te i y}(hN:X.N.Nodup)(hy:X.N[i]?=some y)(Q:X.env.scope.names.lookup y=some .local)(r:X.calm=true)(S:Sk X N' φ w)(hi:PI X A iter M)(G:∀L C f l ex,PG (Ky X N' w L C f l ex) A g/\NK (Ky X N' w L C f l ex) n tc/\PE (Ky X N' w L C f l ex) u te)(hs:autoParam (∀x,foldedSetIterable iter X.env x=pure x) au_3)(E:autoParam (swapsWith (.ListComp u [⟨A,iter,n,0⟩] w pos) (some<|.Name y py) spos.line X.env=pure true) au_0) :
  PS X (.Assign [.Name y py] (.ListComp u [⟨A,iter,n,0⟩] w pos) spos) (NH (B9 φ M g tc te)<|Sn i):=by
 intro pins s Y H D0 I h;rw[exec_Assign_Name_used _ _ _ _ E];refine WK (VX<|WK ?_);refine WK (Q3 (Rl r S hi G hs I h λD C U s6 q R hm c0 c1 c2 c3 c4 c5=>?_) (λ_ s' z=>WN (WN z)) λ_ _ e=>e);obtain⟨m,B,es,ep,hoC,J,rC⟩:=hm
 have R2:Inv X (pins++[(C,B)]) Y U s6:=R.pins_of λp hp=>(Qh.mp hp).elim (λz=>R.pin p (Qr _ z)) λz=>by
  grind
 refine wpAny_assign_Name (BK R2 hN hy (.inl Q) (v:=.ref D) rfl (λs7 T=>?_)<|.inr Q);refine⟨m,⟨B,es,ep,((T.pin (C,B)<|Qr _<|Qr _<|WQ.mpr rfl).1),J,rC⟩,λh' sb=>?_⟩;exact⟨_,U,T.unpinned.turned (λb o hb e=>sb.extBut b o hb e) c0 c1 (.inr c2) c3 c4,q⟩
noncomputable def BM(sc f:Scope)(N N':Yn)(φ:Yk):Bool:=
 sc.kind == .function&&f.kind == .function&&(sc.names.all λy=>y.2 != .cell&&(y.2 != .local || sc.names.lookup y.1==some .local)&&(y.2 != .free || f.names.lookup y.1==some .cell)) &&
  φ.length==N'.length&&((N'.zip φ).all λp=>match p.2 with|none=>true|some j=>N[j]? == some p.1&&sc.names.lookup p.1==some .free)
def Sk.of {N'}{φ g} (h:BM g X.env.scope X.N N' φ=true):Sk X N' φ g:=by
 unfold BM at h;simp only[Q9,beq_iff_eq,VD,Bool.or_eq_true,bne_iff_ne,ne_eq]at h;obtain⟨⟨⟨⟨v,u⟩,s⟩,r⟩,p⟩:=h;refine⟨v,u,λy f=>(s y f).1.1,λy f w=>?_,λy f z=>?_,r,λi x j o n=>?_⟩
 ·grind
 ·grind
 ·have l:(N'.zip φ)[i]?=some (x,some j):=by rw[List.getElem?_zip_eq_some];exact⟨o,n⟩
  have:=p _ (Qj l)
  grind
end Own
namespace SetR
open PySem PySem.Spec PyProof.Rows L2
def Ris(xs:Array Nat):Prop:=∀i j,i<j->j<xs.size->xs.getD i 0<xs.getD j 0
def MA{xs:Array Nat}{i a b}(h:i<xs.size):xs.getD i a=xs.getD i b:=by grind
def Zqv(R:Ris xs)(j:Nat):∀fuel lo f,f-lo<=fuel->lo<=f->f<=xs.size->(∀k,k<lo->xs.getD k 0<j)->(∀k,f<=k->k<xs.size->j<=xs.getD k 0)->
  let r:=SetTable.below.go xs j fuel lo f
  r<=xs.size/\(∀k,k<r->xs.getD k 0<j)/\∀k,r<=k->k<xs.size->j<=xs.getD k 0:=by
 intro fuel
 induction fuel with
 |zero=>
  intro lo f x w n l h;have e:lo=f:=by lia
  subst e;exact⟨n,l,h⟩
 |succ fuel s=>
  intro lo f x w n l h;show(let r:=(if lo<f then(if xs.getD ((lo+f) / 2) j<j then SetTable.below.go xs j fuel ((lo+f) / 2+1) f else SetTable.below.go xs j fuel lo ((lo+f) / 2))else lo);r<=xs.size/\(∀k,k<r->xs.getD k 0<j)/\∀k,r<=k->k<xs.size->j<=xs.getD k 0);by_cases u:lo<f
  ·rw[WT u];have o:(lo+f) / 2<xs.size:=by lia
   by_cases g:xs.getD ((lo+f) / 2) j<j
   ·rw[WT g];refine s _ _ (by lia) (by lia) n (λk v=>?_) h;rw[MA o]at g;by_cases e:k=(lo+f) / 2
    ·rw[e];exact g
    ·exact VC (R k _ (by lia) o) g
   ·rw[WS g];refine s _ _ (by lia) (by lia) (by lia) l (λk v p=>?_);rw[MA (b:=0) o]at g;by_cases e:k=(lo+f) / 2
    ·rw[e];lia
    ·have:=R _ k (show(lo+f) / 2<k by lia) p
     lia
  ·rw[WS u];have e:lo=f:=by lia
   subst e;exact⟨n,l,h⟩
def MQ(R:Ris xs)(j:Nat):SetTable.below xs j<=xs.size/\(∀k,k<SetTable.below xs j->xs.getD k 0<j)/\∀k,SetTable.below xs j<=k->k<xs.size->j<=xs.getD k 0:=
 Zqv R j xs.size 0 xs.size (by simp) (by simp) (by simp) (λk f=>by lia) (λk h g=>by lia)
def Zld(R:Ris xs){i}(f:i<=xs.size){slot}(l:∀k,k<i->xs.getD k 0<slot)(g:∀k,i<=k->k<xs.size->slot<=xs.getD k 0):SetTable.below xs slot=i:=by
 obtain⟨a,b,c⟩:=MQ R slot;rcases Nat.lt_trichotomy (SetTable.below xs slot) i with h|h|h
 ·grind
 ·lia
 ·grind
def Rise(xs:Array Nat):Prop:=xs.toList.Pairwise (· < ·)
def Rise.ris (h:Rise xs):Ris xs:=by
 intro i j f g;have l:i<xs.size:=by lia
 have:=(QR.mp h) i j (by omega) (by omega) f
 simp_all
def Zne(h:Rise xs)(v:xs[SetTable.below xs j]?≠some j):Rise (SetTable.insertAt xs (SetTable.below xs j) j):=by
 obtain⟨a,b,c⟩:=MQ h.ris j;generalize SetTable.below xs j=p at *;unfold Rise;rw[SetTable.toList_insertAt];refine VU.mpr ⟨h.sublist (Jq _ _),Vy.mpr ⟨λy g=>?_,h.sublist (List.drop_sublist _ _)⟩,λx hx y g=>?_⟩
 ·obtain⟨k,l,e⟩:=List.mem_drop_iff_getElem.mp g
  have f:p+k<xs.size:=by
   simp only[QK]at l;lia
  have z:=c (p+k) (by lia) f;have u:xs.getD (p+k) 0=y:=by simpa [Array.getD,f]using e
  rcases Nat.lt_or_ge j y with s|s
  ·exact s
  ·have ey:y=j:=by lia
   exfalso;rcases Nat.eq_zero_or_pos k with rfl|w
   ·apply v;rw[Va (by lia)]
    have:xs[p]=y:=by simpa using e
    rw[this,ey]
   ·have B:=h.ris p (p+k) (by lia) f;have A:=c p (WU _) (by lia);lia
 ·have n:x<j:=by
   obtain⟨k,l,e⟩:=List.mem_take_iff_getElem.mp hx;have r:k<p:=by lia
   have o:k<xs.size:=by lia
   have:=b k r
   have u:xs.getD k 0=x:=by simpa [Array.getD,o]using e
   lia
  rcases Qa.mp g with rfl|g
  ·exact n
  ·obtain⟨k,l,e⟩:=List.mem_drop_iff_getElem.mp g
   have f:p+k<xs.size:=by
    simp only[QK]at l;lia
   have z:=c (p+k) (by lia) f;have u:xs.getD (p+k) 0=y:=by simpa [Array.getD,f]using e
   lia
structure Tb (b:Bool) (t:SetTable):Prop where
 led:t.led=b
 dum:t.dummies=#[]
 ris:Rise t.place
def GU(j:Nat):SetTable.has #[] j=false:=rfl
def Tb.fresh (b:Bool):Tb b (.fresh 0 0 b):=⟨rfl,rfl,List.Pairwise.nil⟩
def Zn5(n:Nat):Rise (Array.range n):=by
 unfold Rise;rw[Array.toList_range];exact List.pairwise_lt_range
def Tb.stand (h:Tb b t) (n:Nat):Tb b (t.standIn n):=⟨h.led,rfl,Zn5 n⟩
def Tb.orStand (h:Tb b t) (n:Nat):Tb b (t.orStandIn n):=by
 unfold SetTable.orStandIn;split
 ·lia
 ·exact h.stand n
def Tb.plainOff (h:Tb b t):Tb b {t with plain:=false}:=⟨h.led,h.dum,h.ris⟩
def Tb.put (h:Tb b t) {j} (f:t.place[SetTable.below t.place j]?≠some j):Tb b (t.put j).1:=by
 refine⟨h.led,?_,Zne h.ris f⟩;show(if SetTable.has t.dummies j=true then _ else t.dummies)=#[];rw[h.dum,GU];rfl
def Zcr(h:Tb b t)(f:Nat->Int)(z:Int):∀fuel p j d,p.dummy=none->SetTable.probe.go t f z fuel p=some (.empty j d)->d=none/\t.place[SetTable.below t.place j]?≠some j:=by
 intro fuel
 induction fuel with
 |zero=>intro p j d _ e;cases e
 |succ fuel n=>
  intro p j d o e;unfold SetTable.probe.go at e
  have l:∀q,q.dummy=none->(t.advance q).dummy=none:=λq hq=>by
   unfold SetTable.advance;split
   ·exact hq
   ·exact hq
  cases g:t.slot p.j with
  |empty=>
   rw[g]at e;unfold SetTable.slot at g
   grind
  |dummy=>
   unfold SetTable.slot at g
   dsimp only at g
   split at g
   ·cases g
   ·rw[h.dum,GU]at g;simp at g
  |live i=>
   rw[g]at e
   dsimp only at e
   split at e
   ·cases e
   ·exact n _ j d (l p o) e
def Tb.layNew (h:Tb b t) (es:Ys) (z:Int) (x:Value):Tb b (PySem.layNew t es z x).2.1:=by
 unfold PySem.layNew;split
 ·rename_i slot wasDummy e
  have f:t.place[SetTable.below t.place slot]?≠some slot:=by
   unfold SetTable.freeSlot SetTable.probe at e;split at e
   ·rename_i j dummy g;obtain⟨n,l⟩:=Zcr h _ _ _ _ _ _ rfl g
    grind
   ·grind
  exact(h.put f).orStand _
 ·exact h.stand _
def Zkc(n:Nat)(f:Nat->Option Nat):((List.range n).filterMap λj=>(f j).map (j,·)).Pairwise (λa b=>a.1<b.1):=by
 refine List.Pairwise.filterMap _ ?_ List.pairwise_lt_range;intro a l h b o r g;cases e:f a with
 |none=>grind
 |some v=>
  cases p:f l with
  |_=>grind
def Tb.relayAll (h:Tb b t) (es:Ys) (n:Nat):Tb b (PySem.relayAll t es n).2.1:=by
 unfold PySem.relayAll;split
 ·rename_i l order e
  dsimp only
  split
  ·unfold SetTable.relaid SetTable.laid at e;cases f:SetTable.layClean (SetTable.sizeAbove n-1) (es.map (·.1))with
   |none=>grind
   |some owner=>
    rw[f]at e;have g:=QA Prod.fst (Qb e);subst g;refine⟨h.led,rfl,?_⟩;show(List.map (λx=>x.fst) ((List.range (SetTable.sizeAbove n-1+1)).filterMap λj=>(owner.getD j none).map (j,·))).toArray.toList.Pairwise (· < ·);rw[List.toList_toArray,List.pairwise_map];exact Zkc _ _
  ·exact h.stand _
 ·exact h.stand _
noncomputable def keyOf(e:Int×Value):Int:=match e.2 with
 | .int k _=>k
 |_=>0
def Ent(e:Int×Value):Prop:=∃(k:Int) (t:Tok),e=(hashInt k,.int k t)
section
variable (prog:Program) (w:World)
noncomputable def PM(w:World):Bool:=w.params.followText "set-order"
structure K8 (h:Heap) (a:Addr) (js:Yg) (es:Ys) (ep:Nat) (t:SetTable):Prop where
 obj:∃o,h.get? a=some o/\o.ExactSet/\o.data=.set es ep t
 ent:∀e∈es.toList,Ent e
 per:(es.toList.map keyOf).Perm js
 nod:js.Nodup
 few:es.size<scanBound
 fit:t.fits es.size=true
 tab:Tb (!PM w) t
def SetB(h:Heap)(a:Addr)(f:Yg):Prop:=∃g l t,K8 w h a f g l t
end
section
variable {prog:Program}{w:World}{A:Around}{E:Yj}{s:Shared}
def Ent.elems (h:∀e∈l,Ent e):ElemsOf (intKind prog w) l:=λe f=>by
 obtain⟨k,t,rfl⟩:=h e f;exact⟨⟨k,intKind_is _ _ _ _,rfl⟩,rfl⟩
def GS(h:Ent e)(k:Int):(intKind prog w).is k e.2=decide (k=keyOf e):=by
 obtain⟨f,t,rfl⟩:=h;show Value.isInt k (.int f t)=decide (k=f);by_cases e:k=f
 ·subst e;simp[Value.isInt]
 ·rw[Qu e];simp[Value.isInt];lia
def SetB.len (S:K8 w h a f es g t):es.size=f.length:=by
 have:=S.per.length_eq
 grind
def SetB.at {a l} (S:SetB w h a l) (k:∀o,h.get? a=some o->p.get? a=some o):SetB w p a l:=by
 obtain⟨u,v,t,⟨o,n,r⟩,b,c,d,e,f,g⟩:=S;exact⟨u,v,t,⟨o,k o n,r⟩,b,c,d,e,f,g⟩
def K8.store {es f}{l t t'} (S:K8 w h a z es l t) (y:∀e∈f.toList,Ent e) (x:(f.toList.map keyOf).Perm g) (v:g.Nodup) (u:f.size<scanBound)
  (r:t'.fits f.size=true) (p:Tb (!PM w) t'):K8 w (h.update a<|Obj.putSet f t') a g f (l+1) t':=by
 obtain⟨o,n,hx,hd⟩:=S.obj;refine⟨⟨{o with data:=.set f (l+1) t'},?_,hx,rfl⟩,y,x,v,u,r,p⟩
 have q:=QB (Obj.putSet f t') n (by rw[putSet_of f t' hd];rfl);rwa[putSet_of f t' hd]at q
def Ls{g:Bool->Sem Unit}(hg:∀b G N,N () G->wpAny (model prog w) A (g b) N E G){a T h}{es f}{ep t t'}(S:K8 w s.heap a T es ep t)(M:∀e∈f.toList,Ent e)(L:(f.toList.map keyOf).Perm h)(J:h.Nodup)(u:f.size<scanBound)(h5:t'.fits f.size=true)(H:Tb (!PM w) t'){d R}(n:∀v,Heap.SameBut a s.heap v->SetB w v a h->R (some true) {s with heap:=v}) :
  wpAny (model prog w) A (do
    storeSet a f t'
    if (!d&&t'.tooFull)=true then do
      g (relayAll t' f<|SetTable.grown f.size).2.2
      storeSet a (relayAll t' f<|SetTable.grown f.size).1 (relayAll t' f<|SetTable.grown f.size).2.1
      pure (some true)
     else pure (some true)) R E s:=by
 obtain⟨o,Y,hx,hd⟩:=S.obj;have C:=S.store M L J u h5 H;obtain⟨o1,p,U,r⟩:=C.obj;have Q:=QT s.heap a (Obj.putSet f t');refine WK (wpAny_storeSet_of Y hd ?_<|Jr u);split
 ·have l:=relayAll_perm t' f (SetTable.grown f.size);have x:=relayAll_fits t' f (SetTable.grown f.size);have tt:=H.relayAll f (SetTable.grown f.size);generalize relayAll t' f (SetTable.grown f.size)=y at l x tt ⊢;obtain⟨B,t2,g2⟩:=y
  dsimp only at l x tt ⊢
  have z:B.size=f.size:=by rw[←QK,l.length_eq,QK]
  refine WK (hg _ _ _<|WK<|wpAny_storeSet_of p r ?_<|Jr<|by lia);exact WN (n _ (Q.trans<|QT _ a _) ⟨_,_,_,C.store (λe he=>M e (l.mem_iff.mp he)) ((l.map keyOf).trans L) J (by rw[z];exact u) x tt⟩)
 ·exact WN (n _ Q ⟨_,_,_,C⟩)
noncomputable def K5(f:Yg)(k:Int):Yg:=if k∈f then f else f++[k]
def Zee{R}(S:SetB w s.heap a n)(room:n.length+1<scanBound)(H:∀r g,Heap.SameBut a s.heap g->SetB w g a (K5 n k)->R r {s with heap:=g}) :
  wpAny (model prog w) A (setAddHashed a (.int k u)<|hashInt k) R E s:=by
 obtain⟨l,ep,t,S⟩:=S;obtain⟨o,Y,hx,hd⟩:=S.obj;have el:=Ent.elems (prog:=prog) (w:=w) S.ent;have M:=SetB.len S;refine QX (WK<|V7 Y hd S.fit ?_)
 dsimp only
 rw[byScan_of rfl S.few el];simp only[↓reduceIte];unfold setAddByScan;refine WK (WK<|wpAny_rule<|WK<|wpAny_setScan_of (intKind_is _ _ _ _) Y hd S.fit el ?_);have mem:∀z,z∈n↔∃e∈l.toList,keyOf e=z:=λz=>by rw[←S.per.mem_iff,Qq]
 cases q:List.findIdx? (λe=>(intKind prog w).is k e.2) l.toList with
 |some j=>
  dsimp only
  obtain⟨hj,U,_⟩:=List.findIdx?_eq_some_iff_getElem.mp q
  have L:k∈n:=by
   rw[GS (S.ent _<|Qi hj)]at U;exact(mem k).mpr ⟨_,Qi hj,(WR U).symm⟩
  refine WN (WN ?_);have f:=H false s.heap (Heap.SameBut.refl a s.heap);unfold K5 at f;rw[WT L]at f;exact f ⟨_,_,_,S⟩
 |none=>
  dsimp only
  have L:¬k∈n:=λM=>by
   obtain⟨e,he,N⟩:=(mem k).mp M
   have:=List.findIdx?_eq_none_iff.mp q e he
   rw[GS (S.ent e he),WM N.symm]at this;cases this
  have P:=layNew_perm t l (hashInt k) (.int k u);have F:=layNew_fits t l (hashInt k) (.int k u);have T:=S.tab.layNew l (hashInt k) (.int k u);change wpAny (model prog w) A (match layNew t l (hashInt k) (.int k u)with|(l,t,wasDummy,gave)=>_) _ _ _
  generalize layNew t l (hashInt k) (.int k u)=y at P F T ⊢;obtain⟨p,t1,d1,g1⟩:=y
  dsimp only at P F T ⊢
  rw[Array.toList_push]at P
  have e1:∀e∈p.toList,Ent e:=λe he=>by
   rcases Qh.mp (P.mem_iff.mp he)with he|he
   ·exact S.ent e he
   ·rw[WQ.mp he];exact⟨k,u,rfl⟩
  have e2:(p.toList.map keyOf).Perm (n++[k]):=by
   refine(P.map keyOf).trans ?_;rw[Qd];exact S.per.append_right _
  have e3:(n++[k]).Nodup:=Vm.mpr ⟨S.nod,by simp,λx hx y hy=>by rw[WQ.mp hy];rintro rfl;exact L hx⟩
  have e4:p.size<scanBound:=by
   rwa[←QK,P.length_eq,WW,QK,M]
  have h:=λg B G=>by
   have f:=H true g B;unfold K5 at f;rw[WS L]at f;exact f G
  have Q:∀b {C:Shared} {J:Unit->Shared->Prop},J () C->wpAny (model prog w) A (match b with|true=>rule "set.scan.the-table-gave-way" |false=>pure ()) J E C:=λb C J v=>by cases b<;>first|exact WN v|exact wpAny_rule v
  refine WK (Q _ ?_);split
  ·refine WK ?_;rw[hashByValue_scannable 8 rfl];refine WN (Ls (λb C J v=>Q b v) S e1 e2 e3 e4 ?_ ?_ λg B G=>WN (h g B G))
   ·split
    ·exact F
    ·exact SetTable.fits_plain_off F
   ·split
    ·exact T
    ·exact T.plainOff
  ·refine WK (WN ?_);simp only[↓reduceIte];exact Ls (λb C J v=>Q b v) S e1 e2 e3 e4 F T λg B G=>WN (h g B G)
def Zpu{I H y P St}{ns:Yg}(W:Walks prog w A.in1 I H y ns.length P St)(S:Addr)(G:S∉H)(M:∀i v,P i v->∃t,v=.int (ns.getD i 0) t)(room:ns.length+1<scanBound):∀k i s n,ns.length-i=k->i<=ns.length->St i s.heap->SetB w s.heap S n->n.length<=i->
   (∀h p,(∀b o,b∉S::y->s.heap.get? b=some o->h.get? b=some o)->SetB w h S ((ns.drop i).foldl K5 n)->R (.ok<|.ret .none) {s with heap:=h,toks:=p})->
   codeAny (model prog w) A (.builtin "set.update.loop" ⟨[.ref S,.ref I],[]⟩) R s:=by
 have u:=λz=>G (W.sub _ z);intro k
 induction k with
 |zero=>
  intro i s n N T st B Q l;have ei:i=ns.length:=by lia
  refine V1 Jd ?_;show wpAny _ A.in1 (pyNext (.ref I) >>= _) _ _ s;refine WK (W.done s _ _ (ei▸st) λh p keep=>?_);show wpAny _ A.in1 (ret Value.none) _ _ _;refine WN (l h p (λb o g e=>keep b o (λz=>g (Qk _ z)) e) ?_);rw[ei,List.drop_length];exact B.at λo e=>keep S o u e
 |succ k L=>
  intro i s n N T st B Q l;have f:i<ns.length:=by lia
  refine V1 Jd ?_;rw[VW Je _];show wpAny _ A.in1 (pyNext (.ref I) >>= _) _ _ s;refine WK (W.item i s _ _ f st λv U J pv x keep1=>?_);obtain⟨t,rfl⟩:=M i v pv;have B1:=B.at λo e=>keep1 S o u e;unfold setAdd;refine WK (QX<|QX<|WK ((intKind prog w).pyHash (intKind_is _ _ _ _) ?_));refine Zee B1 (by lia) λr h2 C B2=>?_
  have Y:(K5 n<|ns.getD i 0).length<=i+1:=by
   unfold K5;split
   ·lia
   ·simp;lia
  refine WN ⟨plainId_quiet Je _,L (i+1) _ _ (by lia) f (W.frame _ U _ x λb g o e=>?_) B2 Y λh p keep B'=>?_⟩
  ·rw[C.2 b (λz=>G (by rw[←z];exact g))];exact e
  ·refine l h p (λb o g e=>keep b o g ?_) ?_
   ·rw[C.2 b (λz=>g (by rw[z];exact Q2))];exact keep1 b o (λz=>g (Qk _ z)) e
   ·have e1:ns.drop i=ns.getD i 0::ns.drop (i+1):=by
     rw[QS f,WV,WJ f];rfl
    rwa[e1]
def Zon(a:Value){Q}(f:Q (.ref s.heap.objs.size) {s with heap:=s.heap.push {cls:=.type "set",dict:=none,data:=.set #[] 0 (.fresh 0 0 (!PM w))}}) :
  codeAny (model prog w) A (.call (.builtin "set.__new__") ⟨[.type "set",a],[]⟩) (wants Q E) s:=by
 refine codeAny_of_tree (?_);refine WK (wpAny_of_eq (F.newCall_set_1 a)<|WN ⟨plainId_quiet F.plain_set_new _,V1 F.entry_set_new ?_⟩);rw[(VW (A:=A) F.plain_set_new ⟨[.type "set",a],[]⟩)];unfold Builtin.«set.__new__» Builtin.Frozenset.newClass;have g:=sub_set_self
 dsimp only
 wp_walk
 refine wpAny_askSetting (WN<|?_)
 dsimp only
 simp only[newObj];exact WK (wpAny_alloc<|WN<|WN f)
set_option maxHeartbeats 4000000 in
def Zlt{l:Addr}{f:Array Value}{ns:Yg}{Q:Yj}(hh:A.handled=none)(hl:s.heap.IsList l f)(hi:IntsAre f.toList ns)(room:ns.length+1<scanBound)(U:∀(h:Heap) (u:Nat),SetB w h s.heap.objs.size (ns.foldl K5 [])->(∀b o,b<s.heap.objs.size->s.heap.get? b=some o->h.get? b=some o)->Q (.ref s.heap.objs.size) {s with heap:=h,toks:=u}) :
  wpAny (model prog w) A (call (.type "set") [.ref l]) Q E s:=by
 have hn:f.size=ns.length:=by have:=IntsAre.length hi;simpa using this
 obtain⟨mroC,mroT,mro⟩:=F.called_set.mro;have made:=F.called_set.made;have subs:=F.called_set.sub;refine JB (codeAny_of_tree<|show wpAny _ _ (callAny (.type "set") _) _ _ _ from ?_)
 refine WN ⟨Jf _ (by decide +kernel),V1 F.entry_type_call ?_⟩;have wt:=Around.under_plain (A:=A) (weight_type_call_type "set" [.ref l] []) rfl;rw[wt];have nt:=F.called_set.notType;have cc:=F.called_set.canCreate;have tc:=F.typeCall_set_1 (.ref l)
 repeat (any_goals (first|assumption|wp_step))
 refine Vx (Zon (.ref l) (E:=E) (Q:=λobj s1=>obj=.ref s.heap.objs.size/\s1={s with heap:=s.heap.push {cls:=.type "set",dict:=none,data:=.set #[] 0 (.fresh 0 0 (!PM w))}}) ⟨rfl,rfl⟩) λr s1 y=>?_
 cases r with
 |error e=>exact y
 |ok fl=>
  cases fl with
  |next=>exact y.elim
  |brk=>exact y.elim
  |cont=>exact y.elim
  |ret obj=>
   obtain⟨rfl,rfl⟩:=y;generalize J:s.heap.push {cls:=.type "set",dict:=none,data:=.set #[] 0 (.fresh 0 0 (!PM w))}=n;have g1:n.get? s.heap.objs.size=some {cls:=.type "set",dict:=none,data:=.set #[] 0 (.fresh 0 0 (!PM w))}:=by rw[←J];exact Qc _ rfl
   have hT:Shared.TypeIs {s with heap:=n} (.ref s.heap.objs.size) "set":=⟨_,g1,rfl⟩
   have ini:=F.called_set.init.lookup;have inb:=F.called_set.init.bind (.ref s.heap.objs.size)
   repeat (any_goals (first|assumption|wp_step))
   refine Vx (VA (R:=wants (λr Y=>r=.none/\∃h u,Y={s with heap:=h,toks:=u}/\SetB w h s.heap.objs.size (ns.foldl K5 [])/\(∀b o,b<s.heap.objs.size->s.heap.get? b=some o->h.get? b=some o)) E)
    F.called_set.init.plain F.entry_set_init (check_set_init_1 hT ?_)) λr2 Y g=>?_
   ·obtain⟨ob,C,H,nl,G⟩:=hl;obtain⟨c1,d1,dt1,L⟩:=ob;simp only at H G;subst H;subst G;have z:n.get? l=some {cls:=.type "list",dict:=d1,data:=.seq f nl,slots:=L}:=by rw[←J];exact WO _ C
    have p:n.objs.size=s.heap.objs.size+1:=by rw[←J,Vs]
    have no1:=F.sub_list_set;have no2:=F.sub_list_frozenset;have no3:(Value.type "list" == Value.type "dict")=false:=by decide
    have L1:n.IsList l f:=⟨_,z,rfl,nl,rfl⟩;unfold Builtin.«set.__init__» noKeywords Builtin.Frozenset.updateFrom;generalize eP:pyIter=PI
    wp_walk
    subst eP;refine wpAny_pyIter_list L1 (WK<|wpAny_runValue ?_);have x:l<s.heap.objs.size:=WY C;have T:A.in1.in1.in1.handled=none:=by simp[hh]
    have N:l≠n.objs.size:=by rw[p];exact Qo (Js x)
    have M:s.heap.objs.size∉[n.objs.size,l]:=by
     rw[p];simp only[Qa,Vu,or_false,not_or];exact⟨Qo (VB _),Ua x⟩
    have W0:=Walks.list (prog:=prog) (w:=w) T n.objs.size l N f;rw[hn]at W0;refine Zpu (ns:=ns) W0 s.heap.objs.size M (λi v hv=>IntsAre.int_at hi i v (by rw[Vb];exact hv)) room (ns.length-0) 0 _ [] rfl (QY _) ⟨⟨_,Qc _ rfl,rfl,rfl⟩,L1.push _⟩ ?_ (QY _) λh u keep B=>?_
    ·exact⟨#[],0,_,⟨_,WO _ g1,⟨rfl,rfl,rfl⟩,rfl⟩,λe he=>by simp at he,by simp,VR,by show(0:Nat)<4096;decide,rfl,Tb.fresh _⟩
    ·show wpAny _ _ _ _ _ _;refine WN (show wpAny _ _ (ret Value.none) _ _ _ from WN ⟨rfl,h,u,rfl,B,λb o hb e=>?_⟩)
     refine keep b o ?_ (WO _<|by rw[←J];exact WO _ e);rw[p];simp only[Qa,Vu,or_false,not_or];exact⟨Qo hb,Qo (Js hb)⟩
   ·cases r2 with
    |error e=>exact g
    |ok f2=>
     cases f2 with
     |next=>exact g.elim
     |brk=>exact g.elim
     |cont=>exact g.elim
     |ret r=>
      obtain⟨rfl,h,u,rfl,B,keep⟩:=g
      repeat (any_goals (first|assumption|wp_step))
      exact U _ _ B keep
end
def si_slot:Slot "set_iterator" "__next__" "set_iterator.__next__":=
 Slot.of (owner:="set_iterator") (n:="__next__") (by rw[typeLookup_type,builtinLookup_eq_fast];kernel_rfl) (by decide +kernel) (by decide +kernel) (by decide +kernel)
  (by first|exact Or.inl (by decide +kernel)|exact Or.inr (by decide +kernel)) (by rw[isSubtype_type];kernel_rfl)
def Zes:entryFor table "set_iterator.__next__"=some Builtin.«set_iterator.__next__»:=entryFor_of_tree rfl
def Zbn(a:Value):argsOk "set_iterator.__next__" ⟨[a],[]⟩:=by trivial
def Zct:entryFor table "set.__iter__"=some Builtin.«frozenset.__iter__»:=entryFor_alias (id':="frozenset.__iter__") (by kernel_rfl) rfl (by decide +kernel) (by kernel_rfl)
def Hk:Slot "set_iterator" "__iter__" "set_iterator.__iter__":=
 Slot.of (owner:="set_iterator") (n:="__iter__") (by rw[typeLookup_type,builtinLookup_eq_fast];kernel_rfl) (by decide +kernel) (by decide +kernel) (by decide +kernel)
  (by first|exact Or.inl (by decide +kernel)|exact Or.inr (by decide +kernel)) (by rw[isSubtype_type];kernel_rfl)
def Zi6:entryFor table "set_iterator.__iter__"=some Builtin.«dict_keyiterator.__iter__»:=entryFor_alias (id':="dict_keyiterator.__iter__") (by kernel_rfl) rfl (by decide +kernel) (by kernel_rfl)
def Zm3(a:Value):argsOk "set_iterator.__iter__" ⟨[a],[]⟩:=by unfold argsOk;kernel_rfl
def SI(h:Heap)(I a:Addr)(first:Value)(i n f:Nat):Prop:=∃o,h.get? I=some o/\o.cls=.type "set_iterator"/\o.data=.fields #[first,.int i 0,.ref a,.int n 0,.int f 0]
section
variable {prog:Program}{w:World}{A:Around}{E:Yj}{s:Shared}{I a:Addr}{first:Value}{i n ep:Nat}{js:Yg}{es:Ys}{t:SetTable}
def SI.typ (h:SI s.heap I a first i n ep):s.TypeIs (.ref I) "set_iterator":=let ⟨o,f,g,_⟩:=h;⟨o,f,g⟩
def SI.at (x:SI h I a first i n ep) (k:∀o,h.get? I=some o->g.get? I=some o):SI g I a first i n ep:=let ⟨o,f,r⟩:=x;⟨o,k o f,r⟩
noncomputable def Fe(first:Value)(a I:Addr)(i ep:Int):Sem PySem.Fin:=
 match first with
 |Value.int slot _=>do
  match ←setNext a slot.toNat i.toNat ep.toNat with
  |some (x,next)=>
   setField (.ref I) 0 (rawInt next)
   setField (.ref I) 1 (rawInt (i+1))
   ret x
  |none=>
   setField (.ref I) 2 .none
   raiseNew (←newExc (.type "StopIteration") [])
 |_=>do
  let some places ←seqItems? first|unsupported "internal:set_iterator"
  match places[i.toNat]? with
  |some (.int place _)=>
   let x ←setNextDrawn a place.toNat ep.toNat
   setField (.ref I) 1 (rawInt (i+1))
   ret x
  |some _=>unsupported "internal:set_iterator"
  |none=>
   setField (.ref I) 0 (rawInt 0)
   setField (.ref I) 2 .none
   raiseNew (←newExc (.type "StopIteration") [])
def F8(f:SI s.heap I a first i es.size ep)(S:K8 w s.heap a js es ep t)
  (body:wpAny (model prog w) A.in1 (Fe first a I i ep) (λp l=>∃v,p=.done (.ret v)/\Q (some v) l)
   (λe l=>wpAny (model prog w) A (isInstance e<|.type "StopIteration") (λb g=>b=true/\Q none g) E l) s) :
  wpAny (model prog w) A (pyNext<|.ref I) Q E s:=by
 obtain⟨o,x,C,hd⟩:=id f;obtain⟨B,r,hx,u⟩:=S.obj;refine WK (wpAny_attempt<|Jn f.typ si_slot<|Vv si_slot f.typ Zes ?_<|Zbn _);refine WK (WN<|WK<|wpAny_fieldsOf x hd ?_);refine WK (wpAny_setEntries_of r u S.fit ?_);rw[WS (by simp)];refine Q3 body (λp l h=>?_) λe l h=>?_
 ·obtain⟨v,e,q⟩:=h;exact⟨v,e,WN q⟩
 ·refine WK (Q3 h (λb g y=>?_) λ_ _ z=>z);obtain⟨rfl,q⟩:=y;exact WN q
def MV{Q:Yq->Shared->Prop}{o}{vs}(r:A.handled=none)(p:s.heap.get? I=some o)(hd:o.data=.fields vs)(u:2<vs.size)(g:∀h,Heap.ExtBut I s.heap h->Q none {s with heap:=h}){R:PySem.Fin->Shared->Prop} :
  wpAny (model prog w) A.in1 (do setField (.ref I) 2 .none;raiseNew (←newExc (.type "StopIteration") [])) R (λe l=>wpAny (model prog w) A (isInstance e<|.type "StopIteration") (λb f=>b=true/\Q none f) E l) s:=by
 refine WK (Vf p hd u<|WK ?_);refine WK (QF ?_<|by size_fits);refine WK (wpAny_of_eq (by first|rfl|(simp only[firstArgMember];rfl))<|QF ?_<|by size_fits)
 simp only[raiseNew];refine WK (wpAny_handled ?_);rw[r];refine WK (WN<|wpAny_throw ?_);refine wpAny_isInstance ⟨_,Qc _ rfl,rfl⟩ isSubtype_stop ?_;exact⟨rfl,g _ (((QT ..).extBut.push _).push _)⟩
def SI.step1 {x:Value} (f:s.heap.get? I=some o) (g:o.cls=.type "set_iterator") (hd:o.data=.fields #[first,.int i 0,.ref a,.int n 0,.int ep 0]) :
  SI (s.heap.update I<|Obj.mapFields (·.setIfInBounds 1 (rawInt ((i:Int)+1)))) I a first (i+1) n ep:=
 ⟨_,QB _ f (Vg<|QN hd _),(Jt ..).trans g,by rw[QN hd];simp[rawInt]⟩
def FF(h:Q (PM w) s):wpAny (model prog w) A setsByText Q E s:=WK (wpAny_askSetting<|WN h)
def Zb1(S:K8 w s.heap a js es ep t)(l:PM w=true)(h:Q (((pickOrder (w.params.setOrder a ep) es)[i]?).map λe=>(e.2,slot)) s) :
  wpAny (model prog w) A (setNext a slot i ep) Q E s:=by
 obtain⟨o,f,hx,g⟩:=S.obj;refine WK (V7 f g S.fit<|WK<|FF ?_);rw[l,WT rfl,WS (by simp)];refine WK ?_;refine WK (V7 f g S.fit<|WK<|FF ?_);rw[l,WT rfl];exact WK (wpAny_askSetting<|WN<|WN h)
def Znn(S:K8 w s.heap a js es ep t)(l:PM w=false)(o:(!t.plain&&decide (es.size>1))=false)(h:Q (match es[SetTable.below t.place slot]?,t.place[SetTable.below t.place slot]? with|some (_,x),some j=>some (x,j+1)|_,_=>none) s):wpAny (model prog w) A (setNext a slot i ep) Q E s:=by
 obtain⟨r,f,hx,g⟩:=S.obj;refine WK (V7 f g S.fit<|WK<|FF ?_);rw[l,WS (by decide)];show wpAny _ _ (if (!t.plain&&decide (es.size>1))=true then _ else _) _ _ _;rw[o,WS (by decide)];refine WK (?_:wpAny _ _ (if (!t.led && !es.isEmpty)=true then unsupported "set:maker-not-led" else pure ()) _ _ _);have p:t.led=true:=by rw[S.tab.led,l];rfl
 rw[p,WS (by simp)];exact WN (WN h)
def Zhv{p e}(S:K8 w s.heap a js es ep t)(l:es[p]?=some e)(h:Q e.2 s):wpAny (model prog w) A (setNextDrawn a p ep) Q E s:=by
 obtain⟨o,f,hx,g⟩:=S.obj;refine WK (V7 f g S.fit ?_)
 dsimp only
 rw[WS (by simp),l];exact WN h
def Zo5{m}(f:m≠0)(h:∀k d,k<m->Q k {s with drawn:=d}):wpAny (model prog w) A (choose g m) Q E s:=by
 intro Γ p l;exact⟨f,h _ _ (Nat.mod_lt _<|Nat.pos_of_ne_zero f)⟩
theorem AX{f:Type}:∀(xs:List f) k h,(xs[k]::xs.eraseIdx k).Perm xs
 |x::r,0,_=>List.Perm.refl _
 |x::r,k+1,h=>by
  have g:k<r.length:=by grind
  exact(List.Perm.swap _ _ _).trans (List.Perm.cons _<|AX r k g)
def Zke:∀m xs s {Q:List v->Shared->Prop},xs.length=m->(∀f d,f.Perm xs->Q f {s with drawn:=d})->wpAny (model prog w) A (drawOrder m xs) Q E s:=by
 intro m
 induction m with
 |zero=>
  intro xs s Q g h;have e:=Jo.mp g;subst e;exact WN (h [] s.drawn<|List.Perm.refl _)
 |succ m o=>
  intro xs s Q g h;cases xs with
  |nil=>grind
  |cons x r=>
   unfold drawOrder;refine WK (Zo5 (by simp) λk d l=>?_);rw[WJ l];refine WK (o _ _ (by grind) λf u p=>WN ?_);exact h _ u ((List.Perm.cons _ p).trans (AX _ _ l))
def K8.keep (S:K8 w h a js es ep t) (k:∀o,h.get? a=some o->p.get? a=some o):K8 w p a js es ep t:=by
 obtain⟨⟨o,l,r⟩,b,c,d,e,f,g⟩:=S;exact⟨⟨o,k o l,r⟩,b,c,d,e,f,g⟩
def MB(f:SI s.heap I a first i n ep)(h:Q (.ref I) s):wpAny (model prog w) A (pyIter<|.ref I) Q E s:=by
 refine wpAny_pyIter_slot f.typ Hk (Vv Hk f.typ Zi6 ?_<|Zm3 _);exact WN ⟨_,rfl, "set_iterator",_,f.typ,si_slot.lookup,h⟩
def R7(hh:A.handled=none)(I a:Addr)(hne:a≠I)(vs:Ym)(hl:vs.length=es.size)(sl:Nat->Nat)(nx:∀A E s i Q,i<=es.size->K8 w s.heap a js es ep t->Q ((vs[i]?).map λv=>(v,sl (i+1))) s->wpAny (model prog w) A (setNext a (sl i) i ep) Q E s) :
  Walks prog w A I [I,a] [I] es.size (λi v=>vs[i]?=some v) (λi h=>SI h I a (.int (sl i) 0) i es.size ep/\K8 w h a js es ep t) where
 sub:=λb hb=>by simp at hb;simp[hb]
 frame:=λ_ _ _ st k=>⟨st.1.at λo e=>k I (by simp) o e,st.2.keep λo e=>k a (by simp) o e⟩
 item:=λi s Q E hi st fin=>by
  obtain⟨o,ho,hc,hd⟩:=id st.1;refine F8 st.1 st.2 ?_;unfold Fe
  dsimp only
  rw[Q5,Q5,Q5];refine WK (nx _ _ s i _ (Ja hi) st.2 ?_);have hi2:i<vs.length:=by lia
  rw[WJ hi2];refine WK (Vf ho hd (by simp) ?_);have g1:=QB (Obj.mapFields (·.setIfInBounds 0 (rawInt (sl (i+1):Int)))) ho (Vg<|QN hd _);have d1:(Obj.mapFields (·.setIfInBounds 0 (rawInt (sl (i+1):Int))) o).data=.fields #[.int (sl (i+1)) 0,.int i 0,.ref a,.int es.size 0,.int ep 0]:=by rw[QN hd];simp[rawInt]
  refine WK (Vf g1 d1 (by simp) ?_);have sb:=(QT s.heap I<|Obj.mapFields (·.setIfInBounds 0 (rawInt (sl (i+1):Int)))).trans (QT _ I<|Obj.mapFields (·.setIfInBounds 1 (rawInt ((i:Int)+1))));refine WN ⟨_,rfl,fin vs[i] _ s.toks (WJ hi2) ⟨?_,st.2.keep λo e=>sb.extBut a o hne e⟩ λb o hb e=>sb.extBut b o (λz=>hb (by simp[z])) e⟩;exact SI.step1 (x:=.none) g1 ((Jt ..).trans hc) d1
 done:=λs Q E st fin=>by
  obtain⟨o,ho,hc,hd⟩:=id st.1;refine F8 st.1 st.2 ?_;unfold Fe
  dsimp only
  rw[Q5,Q5,Q5];refine WK (nx _ _ s es.size _ (WU _) st.2 ?_);rw[Vh (by lia)];exact MV hh ho hd (by simp) λh' eb=>fin h' s.toks λb o hb e=>eb b o (λz=>hb (by simp[z])) e
 self:=λ_ _ _ _ st fin=>MB st.1 fin
def Zid(hh:A.handled=none)(I a T:Addr)(hne:a≠I)(hT:T≠I)(ps:Yl)(hl:ps.length=es.size)(hps:∀p∈ps,p<es.size)(vs:Ym)(hvs:vs=ps.map λp=>((es[p]?).map (·.2)).getD .none) :
  Walks prog w A I [I,a,T] [I] es.size (λi v=>vs[i]?=some v) (λi h=>SI h I a (.ref T) i es.size ep/\K8 w h a js es ep t/\∃o,h.get? T=some o/\∃c,o.data=.seq (ps.map λ(p:Nat)=>rawInt p).toArray c) where
 sub:=λb hb=>by simp at hb;simp[hb]
 frame:=λ_ _ _ st k=>⟨st.1.at λo e=>k I (by simp) o e,st.2.1.keep λo e=>k a (by simp) o e,let ⟨o,ho,c⟩:=st.2.2;⟨o,k T (by simp) o ho,c⟩⟩
 item:=λi s Q E hi st fin=>by
  obtain⟨o,ho,hc,hd⟩:=id st.1;obtain⟨oT,hoT,c,hdT⟩:=st.2.2;refine F8 st.1 st.2.1 ?_;unfold Fe
  dsimp only
  refine WK (wpAny_seqItems hoT hdT ?_);have hi2:i<ps.length:=by lia
  have e1:(ps.map λ(p:Nat)=>rawInt p).toArray[(i:Int).toNat]?=some (.int ps[i] 0):=by
   rw[Q5,List.getElem?_toArray,WX,WJ hi2];rfl
  have hp:=hps _ (Qi hi2)
  dsimp only
  rw[e1]
  dsimp only
  have e3:vs[i]?=some (es[ps[i]]).2:=by rw[hvs,WX,WJ hi2];simp[hp]
  refine WK (Zhv st.2.1 (Va hp)<|WK<|Vf ho hd (by simp) ?_);have sb:=QT s.heap I (Obj.mapFields (·.setIfInBounds 1 (rawInt ((i:Int)+1))));exact WN ⟨_,rfl,fin _ _ s.toks e3 ⟨SI.step1 (x:=.none) ho hc hd,st.2.1.keep λo e=>sb.extBut a o hne e,oT,sb.extBut T oT hT hoT,c,hdT⟩ λb o hb e=>sb.extBut b o (λz=>hb (by simp[z])) e⟩
 done:=λs Q E st fin=>by
  obtain⟨o,ho,hc,hd⟩:=id st.1;obtain⟨oT,hoT,c,hdT⟩:=st.2.2;refine F8 st.1 st.2.1 ?_;unfold Fe
  dsimp only
  refine WK (wpAny_seqItems hoT hdT ?_)
  have e1:(ps.map λ(p:Nat)=>rawInt p).toArray[(es.size:Int).toNat]?=none:=by
   rw[Q5,List.getElem?_toArray,WX,Vh (by lia)];rfl
  dsimp only
  rw[e1]
  dsimp only
  refine WK (Vf ho hd (by simp) ?_);refine MV (s:={s with heap:=_}) hh (QB (Obj.mapFields (·.setIfInBounds 0 (rawInt 0))) ho<|Vg<|QN hd _) (QN hd _) (by simp) λh' eb=>fin h' s.toks λb o hb e=>eb b o (λz=>hb (by simp[z])) ((QT s.heap I<|Obj.mapFields (·.setIfInBounds 0 (rawInt 0))).extBut b o (λz=>hb (by simp[z])) e)
 self:=λ_ _ _ _ st fin=>MB st.1 fin
def Zri(nx:Nat->Nat):∀m k left (f:Array o),left.length=m->(pickOrder.go nx m k left f).toList.Perm (f.toList++left):=by
 intro m
 induction m with
 |zero=>
  intro k left f h;have e:=Jo.mp h;subst e;show f.toList.Perm (f.toList++[]);simp
 |succ m l=>
  intro k left f h;have g:nx k % left.length<left.length:=Nat.mod_lt _ (by lia);unfold pickOrder.go;rw[WJ g];refine(l _ _ _<|by grind).trans ?_;rw[Array.toList_push,Ju];exact(AX left _ g).append_left _
def Rn(nx:Nat->Nat)(xs:Array f):(pickOrder nx xs).toList.Perm xs.toList:=by
 have:=Zri nx xs.size 0 xs.toList #[] rfl
 simpa [pickOrder]using this
noncomputable def slotAt(t:SetTable)(i:Nat):Nat:=if i=0 then 0 else t.place.getD (i-1) 0+1
def Zan(h:t.fits m=true):t.place.size=m:=by
 simp only[SetTable.fits,Q9,beq_iff_eq]at h
 grind
def Zbx(S:K8 w s.heap a js es ep t){i}(o:i<=es.size):SetTable.below t.place (slotAt t i)=i:=by
 have h:=Zan S.fit;have R:=S.tab.ris.ris;refine Zld R (by lia) (λk l=>?_) λk p f=>?_
 ·unfold slotAt;rw[WS (by lia)];by_cases e:k=i-1
  ·rw[e];lia
  ·have:=R k (i-1) (by lia) (by lia)
   lia
 ·unfold slotAt;by_cases g:i=0
  ·grind
  ·rw[WS g]
   have:=R (i-1) k (by lia) f
   lia
def Zo6{A'}(M:A'.handled=none)(S:K8 w s.heap a js es ep t)
  (l:∀I fp (vs:Ym) St N d1,Walks prog w A' I fp [I] es.size (λi v=>vs[i]?=some v) St->St 0 N->(∀b∈fp,b=a\/s.heap.get? b=none)->vs.length=es.size->vs.Perm (es.toList.map (·.2))->
   s.heap.get? I=none->(∀b o,s.heap.get? b=some o->N.get? b=some o)->Q (.ref I) {s with heap:=N,drawn:=d1}) :
  wpAny (model prog w) A (pyIter<|.ref a) Q E s:=by
 obtain⟨ob,g,hx,h⟩:=S.obj;have hT:s.TypeIs (.ref a) "set":=⟨ob,g,hx.1⟩;have ha:=WY g
 have new:∀b,s.heap.objs.size<=b->s.heap.get? b=none:=λb f=>by
  cases e:s.heap.get? b with
  |none=>rfl
  |some o=>exact absurd (WY e) (JE.mpr f)
 refine wpAny_pyIter_slot hT F.slot_set_iter (Vv F.slot_set_iter hT Zct ?_<|F.args_set_iter_1 _);unfold Builtin.«frozenset.__iter__»;show wpAny _ _ (Builtin.Frozenset.sizeOf a >>= _) _ _ s;unfold Builtin.Frozenset.sizeOf;refine WK (WK<|wpAny_setEntries_of g h S.fit<|WN ?_);refine WK ?_;unfold setDrawn;refine WK (V7 g h S.fit<|WK<|FF<|WN ?_)
 dsimp only
 change wpAny _ _ (if (!PM w&&(!t.plain&&decide (es.size>1)))=true then _ else _) _ _ _;cases hd:(!PM w&&(!t.plain&&decide (es.size>1)))with
 |false=>
  rw[WS (by decide)];refine WK (WN<|WK<|wpAny_setEpoch_of g h S.fit<|WK<|QF<|WN ⟨_,rfl, "set_iterator",_,⟨_,Qc _ rfl,rfl⟩,si_slot.lookup,?_⟩);have B:=Qo ha;have S1:K8 w (s.heap.push {cls:=.type "set_iterator",data:=.fields [rawInt 0,rawInt 0,.ref a,rawInt es.size,rawInt ep].toArray}) a js es ep t:=S.keep λo e=>WO _ e
  have lt:∀b∈[s.heap.objs.size,a],b=a\/s.heap.get? b=none:=λb f=>by
   rcases Qa.mp f with rfl|f
   ·exact .inr (new _<|WU _)
   ·exact .inl (WQ.mp f)
  cases f:PM w with
  |true=>
   have u:((pickOrder (w.params.setOrder a ep) es).toList.map (·.2)).length=es.size:=by
    rw[WL,(Rn _ _).length_eq];simp
   refine l _ _ _ _ _ s.drawn (R7 M s.heap.objs.size a B ((pickOrder (w.params.setOrder a ep) es).toList.map (·.2)) u (λ_=>0) λA E s i Q hi G q=>Zb1 G f ?_) ⟨⟨_,Qc _ rfl,rfl,rfl⟩,S1⟩ lt u ((Rn _ _).map _) (new _<|WU _) λb o e=>WO _ e;rw[WX]at q;rw[←Vb];cases e:(pickOrder (w.params.setOrder a ep) es).toList[i]? with
   |none=>rw[e]at q;exact q
   |some x=>rw[e]at q;exact q
  |false=>
   have y:(!t.plain&&decide (es.size>1))=false:=by rw[f]at hd;simpa using hd
   refine l _ _ _ _ _ s.drawn (R7 M s.heap.objs.size a B (es.toList.map (·.2)) (by simp) (slotAt t) λA E s i Q hi G q=>Znn G f y ?_) ⟨⟨_,Qc _ rfl,rfl,rfl⟩,S1⟩ lt (by simp) (List.Perm.refl _) (new _<|WU _) λb o e=>WO _ e;rw[Zbx G hi];have hz:=Zan G.fit;rw[WX]at q;by_cases L:i<es.size
   ·have C:=Va L;have e2:t.place[i]?=some t.place[i]:=Va (by lia);have U:es.toList[i]?=some es[i]:=by rw[Vb];exact C
    rw[U]at q;rw[C,e2]
    have e4:slotAt t (i+1)=t.place[i]+1:=by
     unfold slotAt;rw[WS (by lia)]
     have:i<t.place.size:=by lia
     simp[Array.getD,this]
    have Y:=q;rw[e4]at Y;exact Y
   ·have C:es[i]?=none:=Jy (by lia);have U:es.toList[i]?=none:=by rw[Vb];exact C
    rw[U]at q;rwa[C]
 |true=>
  rw[WT rfl];refine WK (Zke _ _ s (by simp) λr d y=>?_);have u:r.length=es.size:=by rw[y.length_eq];simp
  have J:∀p∈r,p<es.size:=λp hm=>JO.mp (y.mem_iff.mp hm);refine WK (QF ?_<|by show(r.map λ(i:Nat)=>rawInt i).toArray.size<=sizeLine;rw[Qv,WL,u];exact Jr S.few);have z:=WO {cls:=.type "tuple",data:=.seq (r.map λ(i:Nat)=>rawInt i).toArray} g;refine WK (wpAny_setEpoch_of z h S.fit<|WK<|QF<|WN ⟨_,rfl, "set_iterator",_,⟨_,Qc _ rfl,rfl⟩,si_slot.lookup,?_⟩);have H:(s.heap.push {cls:=.type "tuple",data:=.seq (r.map λ(i:Nat)=>rawInt i).toArray}).objs.size=s.heap.objs.size+1:=Vs ..
  have T:(List.range es.size).map (λp=>((es[p]?).map (·.2)).getD Value.none)=es.toList.map (·.2):=by
   apply JX;intro k;by_cases hk:k<es.size
   ·simp[hk]
   ·have:es.size<=k:=by lia
    simp[this]
  refine l _ _ _ _ _ d (Zid M _ a s.heap.objs.size ?_ ?_ r u J _ rfl) ⟨⟨_,Qc _ rfl,rfl,rfl⟩,S.keep λo e=>WO _ (WO _ e),_,WO _ (Qc _ rfl),0,rfl⟩ (λb f=>?_) (by rw[WL];exact u) ?_ (new _ ?_) λb o e=>WO _ (WO _ e)
  ·show a≠_;rw[H];exact Qo (Js ha)
  ·show s.heap.objs.size≠_;rw[H];exact Qo (VB _)
  ·rcases Qa.mp f with rfl|f
   ·refine .inr (new _ ?_);show s.heap.objs.size<=_;rw[H];exact VN _
   ·rcases Qa.mp f with rfl|f
    ·exact .inl rfl
    ·rw[WQ.mp f];exact .inr (new _<|WU _)
  ·rw[←T];exact y.map _
  ·show s.heap.objs.size<=_;rw[H];exact VN _
def Zd4(g:s.TypeIs (.ref a) "set")(h:Q false s):wpAny (model prog w) A (Builtin.List.listLengthHint<|.ref a) Q E s:=by
 refine WK (wpAny_specialOf g F.slot_set_len.lookup ?_);generalize f:("set.__len__" : String)=z
 wp_delta
 have l:splitId z=some ("set","__len__"):=by subst f;decide +kernel
 rw[l];subst f;refine WK (wpAny_isInstance (b:=true) g (by rw[isSubtype_type];kernel_rfl) (wpAny_ite_split (λz=>absurd z (by decide)) λ_=>?_));exact wpAny_ite_split (λ_=>WK (wpAny_typeOf g<|WN h)) λz=>absurd (by decide +kernel) z
def Zau(hh:A.handled=none)(S:K8 w s.heap a js es ep t)(D:Addr)(c:Nat)(g:Value)(hD:s.heap.get? D=some {cls:=.type "list",data:=.seq #[] c})(G:D≠a)(fin:∀h' M d (vs:Ym) y,vs.Perm (es.toList.map (·.2))->h'.get? D=some {cls:=.type "list",dict:=none,data:=.seq vs.toArray y,slots:=#[]}->(∀b o,b≠D->s.heap.get? b=some o->h'.get? b=some o)->R (.ok<|.ret g) {s with heap:=h',toks:=M,drawn:=d}) :
  wpAny (model prog w) A.in1 (Builtin.List.listExtendWith (.ref D) (.ref a) g) (λf v=>match f with | .done f=>R (.ok f) v | .again y=>y.quiet=true/\codeAny (model prog w) A y R v) (λe v=>R (.error e) v) s:=by
 obtain⟨ob,C,hx,hdd⟩:=S.obj;have hT:s.TypeIs (.ref a) "set":=⟨ob,C,hx.1⟩;unfold Builtin.List.listExtendWith;refine WK (wpAny_typeOf hT ?_);have n1:Builtin.List.listSameRef (.ref D) (.ref a)=false:=by simp[Builtin.List.listSameRef,G]
 have n2:(Value.type "set" == Value.type "list")=false:=by decide
 have n3:(Value.type "set" == Value.type "tuple")=false:=by decide
 simp only[n1,n2,n3,Bool.or_false,Jg,J1];refine WK (Zo6 (A':=A.in1) hh S λI fp vs St h1 d1 W Q flt hl hp Y keep=>?_);have hDI:D≠I:=λz=>by rw[←z,hD]at Y;cases Y
 have loop:∀h M c1,St 0 h->(∀b o,b≠D->s.heap.get? b=some o->h.get? b=some o)->h.get? D=some {cls:=.type "list",data:=.seq #[] c1}->D∉fp->
   codeAny (model prog w) A (.builtin "list.extend.loop" ⟨[.ref D,.ref I,g],[]⟩) R {s with heap:=h,toks:=M,drawn:=d1}:=λh M c1 st hk r p=>by
  refine codeAny_extend_loopS W.toS (Jr S.few) D p g es.size 0 _ #[] c1 rfl (QY _) st r (ItemsOf.nil _) λv x y N L u=>?_
  have ev:x.toList=vs:=by
   apply JX;intro k;by_cases T:k<x.size
   ·have e1:=Va T;rw[Vb,e1];exact(u.2 k _ e1).symm
   ·rw[Vb,Jy (by lia),Vh (by have:=u.1;lia)]
  have e2:x=vs.toArray:=by rw[←ev]
  rw[e2]at L;rw[Moved.eq_with N];refine fin v.heap v.toks d1 vs y hp L λb o l e=>N.heap b o (λH=>?_) (hk b o l e);rcases Qa.mp H with z|z
  ·exact l z
  ·rw[WQ.mp z,Y]at e;cases e
 have p:D∉fp:=λN=>by
  rcases flt D N with z|z
  ·exact G z
  ·rw[hD]at z;cases z
 have U:Shared.TypeIs {s with heap:=h1,drawn:=d1} (.ref a) "set":=⟨ob,keep _ _ C,hx.1⟩
 refine WK (QX<|Zd4 U ?_);have r:=keep _ _ hD;refine WK (wpAny_rule<|WK (?_:wpAny _ _ (updateSeq D (·.push .none) >>= λ_=>updateSeq D (·.pop)) _ _ _));refine WK (wpAny_updateSeq r rfl ?_);have J:=QB (Obj.mapSeq (·.push Value.none)) r rfl;refine wpAny_updateSeq J rfl ?_
 have B:∀b o,b≠D->h1.get? b=some o->((h1.update D<|Obj.mapSeq (·.push Value.none)).update D (Obj.mapSeq (·.pop))).get? b=some o:=λb o l e=>
  (QH _ _<|Ne.symm l).trans ((QH _ _<|Ne.symm l).trans e)
 exact WN ⟨plainId_quiet F.plain_extend_loop _,loop _ _ _ (W.frame 0 _ _ Q λb l o e=>B b o (λz=>p (z▸l)) e) (λb o l e=>B b o l (keep b o e)) (QB (Obj.mapSeq (·.pop)) J rfl) p⟩
def Zjr(G:A.handled=none)(S:K8 w s.heap a js es ep t)(u:∀g h d vs,vs.Perm (es.toList.map (·.2))->(∀b o,s.heap.get? b=some o->g.get? b=some o)->s.heap.objs.size<g.objs.size->R vs {s with heap:=g,toks:=h,drawn:=d}) :
  wpAny (model prog w) A (collect<|.ref a) R E s:=by
 obtain⟨Q,C,hx,H⟩:=S.obj;refine WK (wpAny_runValue<|V1 entry_proto_collect' ?_);have M:=VW (A:=A) PySem.F.plain_proto_collect ⟨[.ref a],[]⟩;refine(WK<|QF<|WN ⟨plainId_quiet PySem.F.plain_list_iadd _,V1 entry_list_iadd' ?_⟩);rw[(VW (A:=A) PySem.F.plain_list_iadd ⟨[.ref s.heap.objs.size,.ref a],[]⟩)];have J:(s.heap.push {cls:=.type "list",data:=.seq ([]:Ym).toArray}).get? s.heap.objs.size=some {cls:=.type "list",data:=.seq #[]}:=Qc _ rfl
 have B:=Zau (prog:=prog) (s:={s with heap:=s.heap.push {cls:=.type "list",data:=.seq ([]:Ym).toArray}})
  (R:=λq z=>∃g h d vs v,q=.ok (.ret<|.ref s.heap.objs.size)/\z={s with heap:=g,toks:=h,drawn:=d}/\vs.Perm (es.toList.map (·.2))/\(∀b o,s.heap.get? b=some o->g.get? b=some o)/\
   g.get? s.heap.objs.size=some {cls:=.type "list",dict:=none,data:=.seq vs.toArray v,slots:=#[]}) G (S.keep λo e=>WO _ e) s.heap.objs.size 0 (.ref s.heap.objs.size) J (Ua<|WY C)
  λg h d vs v p l r=>⟨g,h,d,vs,v,rfl,rfl,p,λb o e=>r b o (Qo<|WY e) (WO _ e),l⟩
 refine Q3 B (λf z x=>?_) λe z x=>?_
 ·cases f with
  |done f=>
   obtain⟨g,h,d,vs,v,e,rfl,p,r,l⟩:=x;cases e
   refine(WK<|wpAny_load l<|WN ?_);exact u g h d vs p r (WY l)
  |again T=>
   refine⟨x.1,Vx x.2 λq N y=>?_⟩;obtain⟨g,h,d,vs,v,rfl,rfl,p,r,l⟩:=y;refine(WK<|wpAny_load l<|WN ?_);exact u g h d vs p r (WY l)
 ·obtain⟨_,_,_,_,_,L,_⟩:=x;cases L
theorem Hm:∀{l:List (Int×Value)},(∀e∈l,Ent e)->IntsAre (l.map (·.2)) (l.map keyOf)
 |[],_=>.nil
 |e::r,h=>by
  obtain⟨k,t,rfl⟩:=h e Q2;exact .cons k t (Hm λx hx=>h x (Qk _ hx))
def Zh2{vs us}(p:vs.Perm us):∀{ns:Yg},IntsAre us ns->∃f,IntsAre vs f/\f.Perm ns:=by
 induction p with
 |cons x _ v=>
  intro ns h;cases h with
  |cons n t r=>
   obtain⟨f,B,z⟩:=v r;exact⟨n::f,.cons n t B,List.Perm.cons _ z⟩
 |swap x y l=>
  intro ns h;cases h with
  |cons n t r=>
   cases r with
   |cons g o u=>exact⟨g::n::_,.cons g o (.cons n t u),List.Perm.swap _ _ _⟩
 |_=>grind
def Zgc(L:A.handled=none)(B:SetB w s.heap a js)(x:js.length<64)
  (C:∀l y u d f ns e,IntsAre f ns->ns.Perm js->ns.Pairwise (·<=·)->s.heap.get? l=none->s.heap.objs.size<=l->y.get? l=some {cls:=.type "list",data:=.seq f.toArray e}->
   (∀b o,s.heap.get? b=some o->y.get? b=some o)->Q (.ref l) {s with heap:=y,toks:=u,drawn:=d}) :
  wpAny (model prog w) A (call (.builtin "sorted") [.ref a]) Q E s:=by
 obtain⟨es,ep,t,S⟩:=B;refine Calls.call_function_entry kind_sorted plain_sorted entry_sorted (args_sorted1 _) ?_;refine WK (WN<|WK (Zjr L S λp u d r H keep big=>?_));obtain⟨N,G,v⟩:=Zh2 H (Hm S.ent);have g:=v.trans S.per;have J:r.length<64:=by rw[IntsAre.length G,g.length_eq];exact x
 refine WK (wpAny_newList ?_<|by have:(64:Nat)<=sizeLine:=(by decide);lia);have z:(p.push<|seqObj "list" r.toArray 0).get? p.objs.size=some (seqObj "list" r.toArray 0):=Qc _ rfl;refine WK (QX<|Vv slot_list_sort ⟨_,z,rfl⟩ entry_list_sort (list_sort_tree z G J λf ns a1 a2 a3=>⟨_,rfl,?_⟩)<|args_list_sort _);obtain⟨e,M⟩:=sortedHeap_at z;refine WN ⟨_,rfl,C p.objs.size _ u d f.toList ns e a1 (a2.trans g) a3 ?_ (Ja big) (by simpa [seqObj]using M) λb o q=>?_⟩
 ·cases q:s.heap.get? p.objs.size with
  |none=>rfl
  |some o=>exact absurd (WY<|keep _ _ q) (QW _)
 ·have h:=WY (keep b o q);rw[sortedHeap_old (Qo h) (by rw[size_push'];exact Js h)];exact WO _ (keep b o q)
end
end SetR
namespace Own
open PySem PySem.Spec PyProof.Rows L2
noncomputable def NF(w:World)(l:Addr)(f:Yg):HO:=.ext λh=>SetR.SetB w h l f
section
variable {X:Cx}
def Zka{w H h l f}(B:SetR.SetB w h l f):ObjOk P w H h l (NF w l f):=by
 refine⟨B,?_,λr p g k=>g.at k⟩;obtain⟨s,u,t,S⟩:=B;obtain⟨o,n,_⟩:=S.obj
 grind
def Zsc(y:X.calm=true):Kv X (.type "set") (λxs H Q=>∃(p:Addr) (ns:Yg),xs=[.ref p]/\SqL X.K H p (ns.map V.int)/\ns.length+1<4096/\∀l,H l=none->Q (.ref l) (upd H l<|NF X.w l<|ns.foldl SetR.K5 [])):=by
 intro pins s A H xs C Q I f h;obtain⟨p,ns,rfl,z,x,q⟩:=h;obtain⟨u,rfl,g⟩:=f.one;obtain rfl:=g;obtain⟨v,r,n,_⟩:=I.list z;refine SetR.Zlt (I.ok.hd y) n.isList (by simpa using FD r) x λG E B keep=>?_;exact⟨.ref s.heap.objs.size,upd H s.heap.objs.size (NF X.w s.heap.objs.size _),I.laid (λb o e=>keep b o (WY e) e) (WU _) (Zka B),rfl,q _ (I.hok.fresh<|WU _)⟩
def Rf(N:X.calm=true):Kv X (.builtin "sorted") (λxs H Q=>∃p g,xs=[.ref p]/\g.length<64/\(SqL X.K H p (g.map V.int)\/H p=some (NF X.w p g))/\
  ∀l (ns:Yg),H l=none->ns.Perm g->ns.Pairwise (·<=·)->Q (.ref l) (upd H l<|.lst<|ns.map V.int)):=by
 intro pins s U H xs Y Q I G h;obtain⟨p,g,rfl,A,v,q⟩:=h;obtain⟨u,rfl,J⟩:=G.one;obtain rfl:=J
 have big:∀{ns:Yg},ns.Perm g->(ns.map V.int).length<=sizeLine:=λM=>by
  rw[WL,M.length_eq]
  have:(64:Nat)<=sizeLine:=by decide
  lia
 rcases v with v|v
 ·obtain⟨n,r,L,_⟩:=I.list v;have E:IntsAre n g:=by simpa using FD r
  refine sorted_ints L.isList E (by rw[IntsAre.length E];exact A) λf ns a1 a2 a3=>?_;obtain⟨e,C⟩:=sortedAll_at s.heap n f;have x:=I.hok.fresh (VN _);refine⟨.ref (s.heap.objs.size+1),upd H (s.heap.objs.size+1) (.lst<|ns.map V.int),I.laid (λb o e=>sortedAll_old e) (VN _) ⟨big a2,f.toList,e,Ao a1,?_⟩,rfl,q _ ns x a2 a3⟩;omega
 ·have B:=(I.hok p _ v).1;refine SetR.Zgc (I.ok.hd N) B A λl T tk d f ns e a1 a2 a3 nl y C keep=>?_;have x:=I.hok.fresh y;refine⟨.ref l,upd H l (.lst<|ns.map V.int),?_,rfl,q l ns x a2 a3⟩;have ok:HOk X.prog X.w (upd H l<|.lst<|ns.map V.int) T:=I.hok.laid keep y ⟨big a2,f,e,Ao a1,C⟩;exact I.call (ch:=[]) (Un.laid keep y x) ok I.bare (λb z=>absurd z (by simp))
end
section
variable {X:Cx}{K:Ye}
def Zad(f:autoParam (X.K=K) au_0):IxR X (λx y H Q=>Sg K x y H Q\/SQ K x y H Q):=by subst f;exact Zba
def Zl6(f:autoParam (X.K=K) au_0):Kv X (.builtin "len") (λxs H Q=>∃x n,xs=[x]/\F0 K x H n/\Q (.int n) H):=by subst f;exact Zqe
def Zbe(f:autoParam (X.K=K) au_0):OpR X (compareOp .In) (rIn K false):=by subst f;exact Zjp
def Zcy(f:autoParam (X.K=K) au_0):OpR X (compareOp .NotIn) (rIn K true):=by subst f;exact Zbo
def FA{pos es k t n}(l:X.calm=true)(h:PGs X es t)(o:autoParam (X.K=K) au_0)(g:autoParam ((assignEach es X.env).length=n) au_0)(f:autoParam ((assignEach es X.env).findIdx? (·.1)=none) au_0):PG X (.Tuple es k pos) (Di K n t):=by subst o;exact Zc3 l h g f
end
section
variable {α:Type}{R:Hp->V->α->Prop}{φ:Yk}{g:TG}{tc:TT}{te:TE}{σ:L2.St}{H1:Hp}{F:Hp->Prop}{D:Addr}
def Zqz{K a xs}{ds:List α}(f:α->Option V)(w:SqL K H1 a xs)(hd:xs.length=ds.length)(G:H1 D=none)(J:ds.length<=sizeLine)(turn:∀(i:Nat) x d l,xs[i]?=some x->ds[i]?=some d->Same H1 l->∀k:Option V->Hp->Prop,k (f d) l->g x (atStart φ σ) l λh z=>Sub (atStart φ σ) h/\tc h z λb s=>if b=true then te h s λy v=>k (some y) v else k none s)(done:F (upd H1 D<|.lst<|ds.filterMap f)) :
  ∃W:Nat->Nat->List V->Hp->Prop,(∃m,W 0 m [] (upd H1 D<|.lst []))/\
   ∀i m r l,W i m r l->((Itl K a).stop i l/\F l)\/((Itl K a).go i l/\∀x A,(Itl K a).yld i l x A->g x (atStart φ σ) A λh z=>Sub (atStart φ σ) h/\tc h z λb s=>
    if b=true then te h s λy v=>v D=some (.lst r)/\r.length<sizeLine/\∃n,n<m/\W (i+1) n (r++[y]) (upd v D<|.lst (r++[y]))else ∃n,n<m/\W (i+1) n r s):=by
 refine⟨λi m r l=>m=ds.length-i/\i<=ds.length/\r=(ds.take i).filterMap f/\l=upd H1 D (.lst r),⟨ds.length,by simp,QY _,by simp,rfl⟩,?_⟩;rintro i m r l ⟨rfl,L,rfl,rfl⟩;have u:Same H1 (upd H1 D<|.lst ((ds.take i).filterMap f)):=Ki G;by_cases p:i<ds.length
 ·refine .inr ⟨⟨xs,xs[i]'(by lia),u.seq w,by simp[hd,p]⟩,λx A y=>?_⟩;obtain⟨e,y⟩:=y;subst e
  refine turn i x ds[i] _ (y xs<|u.seq w) (WJ p) u (λo B=>match o with
   |some y=>B D=some (.lst ((ds.take i).filterMap f))/\((ds.take i).filterMap f).length<sizeLine/\∃n,n<ds.length-i/\(n=ds.length-(i+1)/\i+1<=ds.length/\(ds.take i).filterMap f++[y]=(ds.take (i+1)).filterMap f/\upd B D (.lst ((ds.take i).filterMap f++[y]))=upd H1 D (.lst ((ds.take i).filterMap f++[y])))
   |none=>∃n,n<ds.length-i/\(n=ds.length-(i+1)/\i+1<=ds.length/\(ds.take i).filterMap f=(ds.take (i+1)).filterMap f/\B=upd H1 D (.lst ((ds.take i).filterMap f)))) ?_
  have C:=Qm p;cases E:f ds[i]with
  |some y=>
   refine⟨XG,?_,ds.length-(i+1),by lia,rfl,p,?_,Iv⟩
   ·have H:=List.length_filterMap_le f (ds.take i);rw[Qp]at H;lia
   ·rw[C,VS];simp[E]
  |none=>
   refine⟨ds.length-(i+1),by lia,rfl,p,?_,rfl⟩;rw[C,VS];simp[E]
 ·have e:i=ds.length:=by lia
  subst e;refine .inl ⟨⟨xs,u.seq w,by lia⟩,?_⟩;rwa[QO]
end
noncomputable def eqL(xs f:List V):Bool:=decide (xs.length=f.length)&&(List.range xs.length).all λj=>eqV (xs.getD j .non) (f.getD j .non)
noncomputable def TN(K:Ye)(neg:Bool):R2:=λx y H Q=>∃(p q:Addr) (xs f:List V),x=.ref p/\y=.ref q/\SqL K H p xs/\SqL K H q f/\xs.all KZ=true/\f.all KZ=true/\Q (.bl (if neg then !eqL xs f else eqL xs f)) H
section
variable {X:Cx}
def Cs{xs f us g}(n:Vals xs us)(l:Vals f g)(f1:xs.all KZ=true)(y:f.all KZ=true)(j:Nat)(x:j<us.toArray.size)(v:j<g.toArray.size) :
  SeqAt.EqAt A s us.toArray[j] g.toArray[j] (eqV (xs.getD j .non)<|f.getD j .non):=by
 have H:=n.length;have G:=l.length;have L:j<us.length:=by simpa using x
 have J:j<g.length:=by simpa using v
 have p:xs[j]?=some (xs[j]'(by lia)):=WJ _;have o:f[j]?=some (f[j]'(by lia)):=WJ _;obtain⟨u,N,r⟩:=n.get p;obtain⟨w,M,h⟩:=l.get o;have B:us.toArray[j]=u:=by grind
 have z:g.toArray[j]=w:=by grind
 have E:xs.getD j .non=xs[j]'(by lia):=by rw[WV,p];rfl
 have C:f.getD j .non=f[j]'(by lia):=by rw[WV,o];rfl
 rw[B,z,E,C];exact Le r h (VD.mp f1 _<|Qi _) (VD.mp y _<|Qi _)
def GW(r:X.A.units<cLine):OpR X (compareOp .Eq) (TN X.K false):=by
 intro pins s J H x y v u Q I z w h;obtain⟨p,q,xs,f,rfl,rfl,B,hq,f1,G,k⟩:=h;obtain rfl:=z;obtain rfl:=w;obtain⟨M,l,n,_⟩:=I.list B;obtain⟨L,g,p2,_⟩:=I.list hq;have T:=l.length;have N:=g.length;have o:=k;by_cases e:xs.length=f.length
 ·refine SeqAt.eq_listAt n.isList p2.isList (by simp;lia) r (λj E C=>Cs l g f1 G j E C) ⟨.bl (eqL xs f),H,I,?_,o⟩;show _=Value.bool (eqL xs f);unfold eqL
  grind
 ·refine SeqAt.eq_list_lengthsAt n.isList p2.isList (by simp;lia) r ⟨.bl (eqL xs f),H,I,?_,o⟩;unfold eqL;rw[Qu e];rfl
def Zjg(r:X.A.units<cLine):OpR X (compareOp .NotEq) (TN X.K true):=by
 intro pins s J H x y v u Q I z w h;obtain⟨p,q,xs,f,rfl,rfl,B,hq,f1,G,k⟩:=h;obtain rfl:=z;obtain rfl:=w;obtain⟨M,l,n,_⟩:=I.list B;obtain⟨L,g,p2,_⟩:=I.list hq;have T:=l.length;have N:=g.length;have o:=k;by_cases e:xs.length=f.length
 ·refine SeqAt.RcNeAt.lists n.isList p2.isList (by simp;lia) r (λj E C=>Cs l g f1 G j E C) _ _ _ _ ⟨.bl (!eqL xs f),H,I,?_,o⟩;show _=Value.bool (!eqL xs f);unfold eqL
  grind
 ·refine SeqAt.RcNeAt.lists_lengths n.isList p2.isList (by simp;lia) r _ _ _ _ ⟨.bl (!eqL xs f),H,I,?_,o⟩;unfold eqL;rw[Qu e];rfl
def II{xs:Yg}{us}(r:Vals (xs.map V.int) us)(z:Int):∀j g (f:j<xs.length),Value.isInt z us[j]=(xs[j]==z):=by
 intro j g f;obtain⟨u,h,t,rfl⟩:=r.get (by rw[WX,WJ f];rfl);rw[WJ g]at h;rw[Qb h];rfl
def Zmp{xs:Yg}{us}(r:Vals (xs.map V.int) us)(z:Int)(t:Tok):∀y,y∈us.toArray->MeetsSeq.EqGives y (.int z t) (Value.isInt z y):=by
 intro y h;obtain⟨j,l,rfl⟩:=Q4.mp (by simpa using h:y∈us);have g:=r.length;rw[WL]at g;obtain⟨u,f,n,rfl⟩:=r.get (by rw[WX,WJ (show j<xs.length by lia)];rfl);rw[WJ l]at f;rw[Qb f];exact MeetsSeq.EqGives.int _ _ _ _
def DW(K:Ye):V->List V->Hp->VK->Prop:=λx f H Q=>∃(l:Addr) (xs:Yg) (z:Int),x=.ref l/\f=[.int z]/\SqL K H l (xs.map V.int)/\z∈xs/\Q (.int (xs.idxOf z:Nat)) H
def Zgy:MtM X "list.index" (DW X.K):=by
 intro pins s σ H x vs v us Q I L M h;obtain⟨l,xs,z,rfl,rfl,hS,T,q⟩:=h;cases L
 obtain⟨u,rfl,t,rfl⟩:=M.one;obtain⟨f,r,N,g⟩:=I.list hS;obtain⟨o,n,G,J,p,hd⟩:=N;obtain⟨c1,d1,dt1,w⟩:=o;simp only at J p hd;subst J p hd;have E:=r.length;rw[WL]at E;have C:=List.idxOf_lt_length_iff.mpr T;have hb:xs.length<=2 ^ 24:=by rw[WL]at g;exact g
 refine call_meets Jp ⟨_,G,rfl⟩ PySem.F.entry_list_index (PySem.F.args_list_index_2 _ _)
  (SeqAt.list_indexAt l f.toArray n none w (.int z t) (Value.isInt z) (xs.idxOf z) (by simpa [←E]using C) (by lia) ?_ ?_) ⟨G,λy U=>(Zmp r z t y U).at _ _,⟨.int (xs.idxOf z:Nat),H,I.tok _,⟨_,rfl⟩,q⟩⟩
 ·have e:=II r z (xs.idxOf z) (by lia) C;show Value.isInt z f[xs.idxOf z]=true;rw[e];simpa using List.getElem_idxOf C
 ·intro m Y B;have A:m<f.length:=by simpa using Y
  show Value.isInt z f[m]=false;rw[(II r z m A<|by lia)]
  have:=List.not_of_lt_findIdx B
  simpa using this
end
section
variable {X:Cx}{K:Ye}
def Ly(f:autoParam (X.K=K) au_0):MtM X "list.index" (DW K):=by subst f;exact Zgy
def Em{p t name apos cpos T id r}(s:PlainAttrs T)(slot:Slot T name id)(n:typeOf (.builtin id)=pure (.type "method_descriptor"))(w:MtM X id r)(v:PE X o p)(y:PA X (e::es) t)(z:autoParam (X.K=K) au_0)(h:autoParam (attributeBase o name X.env (eval o X.env)=eval o X.env) au_0)
  (l:autoParam (((backTo cpos<|starEach (e::es) X.env).all (λx=>!x.1)&&(backToKw cpos<|keywordEach [] X.env).all (λx=>x.1.isSome)
   && decide ((e::es).length+([]:List Keyword).length+(if ([]:List Keyword).isEmpty then 0 else 1)<30))=true) au_0)
  (g:autoParam ((apos.endLine==cpos.line)=true) au_0) (u:autoParam (starEach (e::es) X.env=(false,eval e X.env)::starEach es X.env) au_0) (f:autoParam ((backTo cpos<|starEach es X.env).any (·.1)=false) au_0) :
  PE X (.Call (.Attribute o name apos) (e::es) [] cpos) (tBM K T r p t):=by
 subst z;exact BC s slot n w v y h l g u f
end
def ER(xs f:Yg):eqL (xs.map V.int) (f.map V.int)=decide (xs=f):=by
 unfold eqL;rw[WL,WL];by_cases e:xs=f
 ·subst e;rw[WM rfl,WM rfl,JW,VD];intro j o;have h:j<xs.length:=by simpa using o
  rw[WV,WX,WJ h];show(xs[j]==xs[j])=true;simp
 ·rw[Qu e];by_cases l:xs.length=f.length
  ·rw[WM l,JW,Jv];intro g;apply e;apply List.ext_getElem l;intro j n r
   have:=VD.mp g j (by simpa using n)
   rw[WV,WX,WJ n,WV,WX,WJ r]at this;have p:(xs[j]==f[j])=true:=this;simpa using p
  ·grind
def N6(xs:Yg):(xs.map V.int).all KZ=true:=by
 rw[List.all_map];exact VD.mpr λ_ _=>rfl
end Own
namespace M
open PySem PySem.Spec PyProof.Rows L2 Own
def LV{f:Type}(R:Hp->V->f->Prop)(H:Hp)(vs:List V)(xs:List f):Prop:=
 vs.length=xs.length/\∀(i:Nat) (x:f),xs[i]?=some x->∃v,vs[i]?=some v/\R H v x
def LAt{f:Type}(R:Hp->V->f->Prop)(H:Hp)(l:Addr)(xs:List f):Prop:=∃g,H l=some (.lst g)/\LV R H g xs
def P1(H:Hp)(v:V)(q:Int×Int):Prop:=∃a,v=.ref a/\H a=some (.tup [.int q.1,.int q.2])
section
variable {α:Type}{R:Hp->V->α->Prop}{H H':Hp}{vs:List V}{xs:List α}{l:Addr}
def LV.get {i:Nat}{v} (h:LV R H vs xs) (e:vs[i]?=some v):∃x,xs[i]?=some x/\R H v x:=by
 have g:i<xs.length:=by rw[←h.1];exact(Qg.mp e).1
 obtain⟨f,n,r⟩:=h.2 i xs[i] (by simp)
 grind
end
def Nn(m:Yg):Prop:=∃a b c d e:Int,m=[a,b,c,d,e]/\(1<=a/\a<=10)/\(1<=b/\b<=9/\(b=1\/b=3\/b=7\/b=9))/\(0<=c/\c<=9)/\(1<=d/\d<=1000)/\(1<=e/\e+d<=1001)
def Field(ps:Yf):Prop:=∀q∈ps,1<=q.1/\q.1<=10/\1<=q.2/\q.2<=1000
def Zmt(f:Yg)(k z:Int):z∈SetR.K5 f k↔z∈f\/z=k:=by
 unfold SetR.K5;split
 ·grind
 ·simp
theorem Lj:∀(ns f:Yg) z,z∈ns.foldl SetR.K5 f↔z∈f\/z∈ns
 |[],f,z=>by simp
 |n::r,f,z=>by
  rw[List.foldl_cons,Lj r,Zmt,Qa];constructor
  ·grind
  ·grind
def Zk5(k:Int)(h:f.Nodup):(SetR.K5 f k).Nodup:=by
 unfold SetR.K5;split
 ·lia
 ·grind
theorem GN:∀(ns:Yg) {f:Yg},f.Nodup->(ns.foldl SetR.K5 f).Nodup
 |[],_,h=>h
 |n::r,f,h=>GN r (Zk5 n h)
theorem Rr:∀(ns f:Yg),(ns.foldl SetR.K5 f).length<=f.length+ns.length
 |[],f=>by simp
 |n::r,f=>by
  have h:=Rr r (SetR.K5 f n)
  have g:(SetR.K5 f n).length<=f.length+1:=by
   unfold SetR.K5;split
   ·simp
   ·simp
  grind
def A7{l:Yg}(h:l.Pairwise (·<=·))(n:l.Nodup):l.Pairwise (· < ·):=by
 have:=h.and n
 exact this.imp λ{a b} h=>by have:=h.1;have:=h.2;lia
def GM{g f:Yg}(n:g.Pairwise (· < ·))(l:f.Pairwise (· < ·))(h:∀z,z∈g↔z∈f):g=f:=by
 have p:g.Nodup:=n.imp λ{a b} h=>by lia
 have o:f.Nodup:=l.imp λ{a b} h=>by lia
 exact((List.perm_ext_iff_of_nodup p o).mpr h).eq_of_pairwise (λa b _ _ x y=>by lia) n l
noncomputable def tenL:Yg:=[1,2,3,4,5,6,7,8,9,10]
def Zoq:z∈tenL↔1<=z/\z<=10:=by
 unfold tenL;constructor
 ·intro h;simp only[Qa,Vu,or_false]at h;omega
 ·rintro⟨g,f⟩;simp only[Qa,Vu,or_false];lia
noncomputable def X3(ps:Yf):Yg:=tenL.filter λh=>decide (h∈ps.map (·.1))
def TR(ps:Yf):(X3 ps).Pairwise (· < ·):=List.Pairwise.filter _ (by trivial)
def Fq(f:Field ps){z}:z∈X3 ps↔z∈ps.map (·.1):=by
 unfold X3;rw[Qz,V8,Zoq];constructor
 ·grind
 ·intro h;obtain⟨q,hq,rfl⟩:=Qq.mp h
  have:=f q hq
  grind
def PK(ps:Yf):(X3 ps).length<=10:=by
 have:=QE (λh=>decide (h∈ps.map (·.1))) tenL
 trivial
def Zbz(f:Field ps)(p:ns.Perm ((ps.map (·.1)).foldl SetR.K5 []))(h:ns.Pairwise (·<=·)):ns=X3 ps:=by
 refine GM (A7 h<|p.symm.nodup<|GN _ VR) (TR ps) λz=>?_;rw[p.mem_iff,Lj,Fq f];simp
def RD(z:Int)(xs:Yg):inV (.int z) (xs.map V.int)=decide (z∈xs):=by
 unfold inV
 induction xs with
 |nil=>rfl
 |cons x r f=>
  show((x==z) || _)=_;by_cases e:x=z
  ·grind
  ·grind
def Zcx:tenL=(List.range 10).map λ(i:Nat)=>(1:Int)+(i:Int):=rfl
def M7{os ns}(g:os.Perm (X3 ps))(n:ns.Perm os)(l:ns.Pairwise (·<=·)):ns=X3 ps:=by
 have f:(X3 ps).Nodup:=(TR ps).imp λ{a b} h=>by lia
 have p:=n.trans g;exact GM (A7 l<|p.symm.nodup f) (TR ps) λz=>p.mem_iff
section
variable (ps:Yf)
noncomputable def tpM(y:Int):Nat->Int
 | 0=>0
 |j+1=>tpM y j+(if (ps.getD j (0,0)).1=y then(ps.getD j (0,0)).2 else 0)
noncomputable def pcM(x y:Int):Nat->Int
 | 0=>0
 |k+1=>pcM x y k+(if x≠y/\(ps.getD k (0,0)).1=x then tpM ps y k*(ps.getD k (0,0)).2 else 0)
noncomputable def PX(n:Nat):Yg->Int
 |[]=>0
 |a::r=>(r.map λb=>pcM ps a b n).sum+PX n r
noncomputable def PR(n:Nat)(h:Int):Yg->Int
 |[]=>0
 |a::r=>if a=h then(r.map λb=>tpM ps b n).sum else PR n h r
noncomputable def rsM(os:Yg)(h:Int):Nat->Int
 | 0=>0
 |j+1=>rsM os h j+(if os.idxOf h<os.idxOf (ps.getD j (0,0)).1 then(ps.getD j (0,0)).2 else 0)
noncomputable def T1(os:Yg):Nat->Int
 | 0=>0
 |k+1=>T1 os k+rsM ps os (ps.getD k (0,0)).1 k*(ps.getD k (0,0)).2
end
def Iu{r:Yg}(h:a≠b):(a::r).idxOf b=r.idxOf b+1:=by grind
def L7(f g:Int->Int)(l:Yg):(l.map λb=>f b+g b).sum=(l.map f).sum+(l.map g).sum:=by
 induction l with
 |nil=>rfl
 |cons b r h=>grind
def Ff{f g:Int->Int}{l:Yg}(h:∀b∈l,f b=g b):(l.map f).sum=(l.map g).sum:=by
 rw[Vr h]
def RX(l:Yg):(l.map λ_=>(0:Int)).sum=0:=by
 induction l with
 |nil=>rfl
 |cons b r f=>grind
def Zb0(f:Int->Int)(w:Int)(l:Yg):(l.map λb=>f b*w).sum=(l.map f).sum*w:=by
 induction l with
 |nil=>simp
 |cons b r g=>grind
def Zpv{l:Yg}(h:Int)(w:Int)(f:l.Nodup):(l.map λb=>if h=b then w else 0).sum=if h∈l then w else 0:=by
 induction l with
 |nil=>rfl
 |cons b r g=>grind
section
variable {ps:Yf}
theorem Oi:∀{os:Yg},(ps.getD n (0,0)).1∉os->PX ps (n+1) os=PX ps n os
 |[],_=>rfl
 |a::r,h=>by
  have f:(ps.getD n (0,0)).1≠a:=λz=>h (by grind);simp only[PX];rw[Oi (λz=>h (Qk _ z))];congr 1;apply Ff;simp only[pcM];lia
theorem LN:∀{os:Yg},os.Nodup->(ps.getD n (0,0)).1∈os->PX ps (n+1) os=PX ps n os+PR ps n (ps.getD n (0,0)).1 os*(ps.getD n (0,0)).2
 |[],_,h=>by cases h
 |a::r,p,h=>by
  obtain⟨g,o⟩:=QC.mp p;simp only[PX,PR];by_cases e:a=(ps.getD n (0,0)).1
  ·rw[WT e];have f:(ps.getD n (0,0)).1∉r:=by rw[←e];exact g
   rw[Oi f,←Zb0]
   have l:(r.map λb=>pcM ps a b (n+1)).sum=(r.map λb=>pcM ps a b n+tpM ps b n*(ps.getD n (0,0)).2).sum:=by
    apply Ff;intro b s;simp only[pcM];rw[WT ⟨λz=>g (by rw[z];exact s),e.symm⟩]
   rw[l,L7];lia
  ·rw[WS e];have f:(ps.getD n (0,0)).1∈r:=by grind
   rw[LN o f]
   have l:(r.map λb=>pcM ps a b (n+1)).sum=(r.map λb=>pcM ps a b n).sum:=by
    apply Ff;simp only[pcM];lia
   lia
theorem LP:∀{os:Yg},(ps.getD n (0,0)).1∉os->PR ps (n+1) h os=PR ps n h os
 |[],_=>rfl
 |a::r,f=>by
  simp only[PR];rw[LP (λz=>f (Qk _ z))]
  have g:(r.map λb=>tpM ps b (n+1)).sum=(r.map λb=>tpM ps b n).sum:=by
   apply Ff;simp only[tpM]
   grind
  lia
theorem Hy{h}:∀{os:Yg},os.Nodup->h∈os->(ps.getD n (0,0)).1∈os->
  PR ps (n+1) h os=PR ps n h os+(if os.idxOf h<os.idxOf (ps.getD n (0,0)).1 then(ps.getD n (0,0)).2 else 0)
 |[],_,v,_=>by cases v
 |a::r,C,v,A=>by
  obtain⟨y,x⟩:=QC.mp C;generalize o:(ps.getD n (0,0)).1=g at A ⊢;generalize B:(ps.getD n (0,0)).2=w at ⊢;simp only[PR];by_cases e:a=h
  ·subst e;rw[WT rfl,WT rfl]
   have H:(r.map λb=>tpM ps b (n+1)).sum=(r.map λb=>tpM ps b n+(if g=b then w else 0)).sum:=by
    apply Ff;intro b _;simp only[tpM];rw[o,B]
   rw[H,L7,Zpv g w x];have u:(a::r).idxOf a=0:=by simp
   by_cases l:g=a
   ·subst l;rw[u,WS y,WS (by lia)]
   ·grind
  ·rw[WS e,WS e]
   have E:h∈r:=by
    rcases Qa.mp v with z|z
    ·exact absurd z.symm e
    ·exact z
   have s:(a::r).idxOf h=r.idxOf h+1:=Iu e;by_cases l:g=a
   ·subst l;have u:(g::r).idxOf g=0:=by simp
    rw[LP (by rw[o];exact y),u,WS (by lia)];lia
   ·have G:g∈r:=by
     rcases Qa.mp A with z|z
     ·exact absurd z l
     ·exact z
    have p:(a::r).idxOf g=r.idxOf g+1:=Iu (Ne.symm l);rw[Hy x E (by rw[o];exact G),o,B,s,p];by_cases f:r.idxOf h<r.idxOf g
    ·rw[WT f,WT (by lia)]
    ·rw[WS f,WS (by lia)]
theorem IT{os h}(f:os.Nodup)(o:h∈os):∀n,(∀j,j<n->(ps.getD j (0,0)).1∈os)->PR ps n h os=rsM ps os h n
 | 0,_=>by
  have:∀l,PR ps 0 h l=0:=by
   intro l
   induction l with
   |nil=>rfl
   |cons a r p=>
    simp only[PR,tpM];rw[RX,p];simp
  rw[this];rfl
 |n+1,g=>by
  rw[Hy f o (g n<|by simp),IT f o n λj s=>g j (by lia)];rfl
theorem LL{os}(g:os.Nodup):∀n,(∀j,j<n->(ps.getD j (0,0)).1∈os)->PX ps n os=T1 ps os n
 | 0,_=>by
  have:∀l,PX ps 0 l=0:=by
   intro l
   induction l with
   |nil=>rfl
   |cons a r h=>
    simp only[PX,pcM];rw[RX,h];rfl
  rw[this];rfl
 |n+1,f=>by
  rw[LN g (f n<|by simp),LL g n (λj o=>f j (by lia)),IT g (f n<|by simp) n λj o=>f j (by lia)];rfl
end
end M
namespace ExcR
open PySem PySem.Spec PyProof.Rows L2
structure KU (fs ex:List Addr) (h h':Heap):Prop where
 keep:∀b o,h.get? b=some o->b∉fs->b∉ex->h'.get? b=some o
 slot:∀b o,h.get? b=some o->b∉ex->∃sl,h'.get? b=some {o with slots:=sl}
 size:h.objs.size<=h'.objs.size
def KU.trans (a:KU fs ex l h) (b:KU fs ex h g):KU fs ex l g:=
 ⟨λc o e n m=>b.keep c o (a.keep c o e n m) n m,λc o e m=>by
  obtain⟨s,r⟩:=a.slot c o e m;obtain⟨f,p⟩:=b.slot c _ r m;exact⟨f,p⟩,WZ a.size b.size⟩
def KU.mono {fs f ex g}{l h} (a:KU fs ex l h) (p:∀b∈fs,b∈f) (hx:∀b∈ex,b∈g):KU f g l h:=
 ⟨λc o e n m=>a.keep c o e (λz=>n (p c z)) (λz=>m (hx c z)),λc o e m=>a.slot c o e λz=>m (hx c z),a.size⟩
def Zho(o:Obj)(f):(o.mapFields f).dict=o.dict:=by
 obtain⟨c,d,g,sl⟩:=o;cases g<;>rfl
structure Trc (h:Heap) (e T:Addr) (cls:Value×Yr) (fl:Value):Prop where
 ne:T≠e
 exc:∃oe vs,h.get? e=some oe/\(oe.cls,oe.dict)=cls/\oe.data=.fields vs/\vs[1]?=some (.ref T)
 ent:∃oT ts,h.get? T=some oT/\oT.data=.fields ts/\ts[3]?=some fl
section
variable {M:Model}{A:Around}{E:Yj}{s:Shared}{base:Heap}{env:Env}{outer:List Env}{L e:Addr}
def OG{hadNext Q}(B:A.frames=some (env::outer))(N:s.heap.FunFrames base (env::outer))(hf:env.frame=some L)(U:s.heap.get? e=some v)(hd:v.data=.fields vs)(hsz:1<vs.size)(h:∀G T,s.heap.objs.size<=T->Trc G e T (v.cls,v.dict) (rawInt L)->KU (frs (env::outer)) [e] s.heap G->Q () {s with heap:=G}) :
  wpAny M A (do let a ←frameOf env;let u ←entryPlaceOf L hadNext;let b ←EntryCells.newEntry head a .none (rawInt L) .none u;setField (.ref e) 1 b) Q E s:=by
 have n:e∉frs (env::outer):=λhm=>by
  obtain⟨_,o,J,y⟩:=N.mem hm;rw[U]at J;cases J
  exact y vs hd
 refine WK (wpAny_frameOf_fun B N hf λC g=>WK (wpAny_entryPlaceOf λu x=>?_));refine WK (QF ?_<|x.sizeOk5 _ _ _ _ _);have r:=(g.2.1 e n).trans U;generalize Y:({cls:=.type "traceback",dict:=none,data:=.fields ([head,.ref L,.none,rawInt L,.none]++(if u.isEmpty then List.replicate 6 Value.none else u)).toArray}:Obj)=H;have p:=WO H r;refine Vf p hd hsz (h _ C.objs.size (Vi g.1.symm) ?_ ?_)
 ·have l:=Ua (WY r);have d3:=QN hd (·.setIfInBounds 1 (Value.ref C.objs.size));refine⟨l,⟨_,_,QB _ p (Vg d3),by rw[Jt,Zho],d3,by simp[hsz]⟩,H,_,?_,by rw[←Y],?_⟩
  ·exact(QH _ _<|Ne.symm l).trans (Qc C<|by rw[←Y];rfl)
  ·rfl
 ·refine⟨λb o q nb w=>?_,λb o q w=>?_,?_⟩
  ·have f:b≠e:=λz=>w (by simp[z]);rw[QH _ _ (Ne.symm f)];exact WO _ ((g.2.1 b nb).trans q)
  ·have f:b≠e:=λz=>w (by simp[z]);obtain⟨sl,q1⟩:=g.2.2 b o q;exact⟨sl,by rw[QH _ _ (Ne.symm f)];exact WO _ q1⟩
  ·rw[Heap.size_update,Vs,g.1];exact VN _
def Zqg(g:A.frames=some (env::outer))(r:s.heap.FunFrames base (env::outer))(n:env.frame=some L)(o:s.heap.get? e=some f)(hd:f.data=.fields vs)(p:vs[1]?=some .none)(h:∀l T,s.heap.objs.size<=T->Trc l e T (f.cls,f.dict) (rawInt L)->KU (frs (env::outer)) [e] s.heap l->Q () {s with heap:=l}):wpAny M A (noteFrame (.ref e) env) Q E s:=by
 unfold noteFrame;simp only[n];refine WK (JQ o hd p ?_);exact OG g r n o hd (VZ.mp p).1 h
def RS(x:Trc s.heap e T cls Y)(h:∀g,Trc g e T cls .none->KU [] [T] s.heap g->Q () {s with heap:=g}) :
  wpAny M A (setField (.ref T) 3 .none) Q E s:=by
 obtain⟨n,⟨w,v,J,H,G,C⟩,U,N,r,p,y⟩:=x;have u:=(VZ.mp y).1;refine Vf r p u (h _ ?_ ?_)
 ·have d3:=QN p (·.setIfInBounds 3 Value.none);exact⟨n,⟨w,v,(QH _ _ n).trans J,H,G,C⟩,_,_,QB _ r (Vg d3),d3,by simp[u]⟩
 ·have l:∀b,b≠T->(s.heap.update T<|Obj.mapFields (·.setIfInBounds 3 Value.none)).get? b=s.heap.get? b:=λb B=>QH _ _ (Ne.symm B);exact⟨λb o q _ f=>(l b λz=>f (by grind)).trans q,λb o q f=>⟨o.slots,(l b λz=>f (by grind)).trans q⟩,Vi (Heap.size_update ..).symm⟩
def Rb(n:A.frames=some (env::outer))(hl:s.heap.FunFrames base (env::outer))(y:env.frame=some L)(x:Trc s.heap e T cls .none)(h:∀r f,s.heap.objs.size<=f->Trc r e f cls (rawInt L)->KU (frs (env::outer)) [e,T] s.heap r->Q () {s with heap:=r}):wpAny M A (noteFrame (.ref e) env) Q E s:=by
 obtain⟨ne,⟨oe,vs,g1,g2,g3,g4⟩,oT,G,w,v,Y⟩:=id x;unfold noteFrame;simp only[y];refine WK (JQ g1 g3 g4 ?_);refine WK (JQ w v Y ?_);refine WK (RS x λh1 B u=>?_)
 have l:=hl.of_keeps λb o q g=>⟨o,u.keep b o q (by simp) (λz=>by
  rw[WQ.mp z,w]at q;cases q
  exact g G v),rfl⟩
 obtain⟨_,⟨U,C,N,p2,J,H⟩,_⟩:=id B;refine OG n l y N J (VZ.mp H).1 λh2 f p x2 K2=>h h2 f (WZ u.size p) (by grind) ?_;exact(u.mono (by simp)<|by simp).trans (K2.mono (λ_ z=>z)<|by simp)
def As(x:Trc s.heap e T cls v)(h:∀f,Trc f e T cls .none->KU [] [T] s.heap f->Q () {s with heap:=f}) :
  wpAny M A (setFlight (.ref e) none) Q E s:=by
 obtain⟨r,⟨p,o,n,u,l,g⟩,_⟩:=id x;refine WK (JQ n l g ?_);exact RS x h
def Zk6(l:A.frames=some (env::outer))(y:s.heap.FunFrames base (env::outer))(B:env.frame=some L)(C:s.heap.get? e=some f)(hd:f.data=.fields vs)(H:vs[1]?=some .none)(h:∀p T,s.heap.objs.size<=T->Trc p e T (f.cls,f.dict) .none->KU (frs (env::outer)) [e] s.heap p->Q () {s with heap:=p}):wpAny M A (leaving env<|.ref e) Q E s:=by
 unfold leaving;refine WK (Zqg l y B C hd H λJ T n x K=>As x λG u r=>h G T n u ?_);refine⟨λb o q w g=>r.keep b o (K.keep b o q w g) (by simp) (λz=>?_),λb o q g=>?_,WZ K.size r.size⟩
 ·rw[WQ.mp z]at q;exact absurd (WY q) (JE.mpr n)
 ·obtain⟨sl,v⟩:=K.slot b o q g;exact⟨sl,r.keep b _ v (by simp) (λz=>by rw[WQ.mp z]at q;exact absurd (WY q) (JE.mpr n))⟩
def Zge(l:A.frames=some (env::outer))(B:s.heap.FunFrames base (env::outer))(C:env.frame=some L)(x:Trc s.heap e T cls .none)(h:∀p f,s.heap.objs.size<=f->Trc p e f cls .none->KU (frs (env::outer)) [e,T] s.heap p->Q () {s with heap:=p}):wpAny M A (leaving env<|.ref e) Q E s:=by
 refine WK (Rb l B C x λH f n v K=>As v λG u r=>h G f n u ?_);refine⟨λb o q y g=>r.keep b o (K.keep b o q y g) (by simp) (λz=>?_),λb o q g=>?_,WZ K.size r.size⟩
 ·rw[WQ.mp z]at q;exact absurd (WY q) (JE.mpr n)
 ·obtain⟨sl,w⟩:=K.slot b o q g;exact⟨sl,r.keep b _ w (by simp) (λz=>by rw[WQ.mp z]at q;exact absurd (WY q) (JE.mpr n))⟩
end
section
variable {P:Program}{w:World}{H H':Hp}{h h':Heap}{a:Addr}{o:HO}{fs ex:List Addr}
def has(x:ObjOk P w H h a o):∃u,h.get? a=some u:=by
 cases o with
 |lst xs=>exact let ⟨_,_,_,_,e⟩:=x;⟨_,e⟩
 |tup xs=>exact let ⟨_,_,_,u,e,_⟩:=x;⟨u,e⟩
 |dK f|dT f=>exact let ⟨_,_,_,_,u,_,_,e,_⟩:=x;⟨u,e⟩
 |set S n=>exact let ⟨u,_,_,_,e,_⟩:=x;⟨u,e⟩
 |ins C r fs=>exact let ⟨_,_,_,e,_⟩:=x;⟨_,e⟩
 |own y=>exact x
 |xd fs=>exact let ⟨_,⟨u,_,_,e,_⟩,_⟩:=x;⟨u,e⟩
 |rng lo p=>exact let ⟨_,_,_,e⟩:=x;⟨_,e⟩
 |frz l u=>exact⟨_,x.1⟩
 |ext g=>exact x.2.1
 |_=>exact⟨_,x⟩
def Gi(ok:HOk P w H h)(e:h.get? a=none):H a=none:=by
 cases q:H a with
 |none=>rfl
 |some o=>
  obtain⟨u,z⟩:=has (ok a o q)
  grind
def BS(ok:HOk P w H h)(k:KU fs ex h h')(g:∀b∈fs,H b=none)(hx:∀b∈ex,H b=none):HOk P w H h':=λa o e=>by
 refine(ok a o e).stay (λb u l q=>?_) (λ_ q=>q) (λ_ _ q=>q);have f:H b≠none:=by grind
 exact k.keep b u q (λz=>f (g b z)) λz=>f (hx b z)
end
structure XAt (P:Program) (w:World) (outer:List Env) (H H':Hp) (s s':Shared) (a T C:Addr) (dx:Yr):Prop where
 os:s'.os=s.os
 bare:AllBare s'.gens
 un:Un (frs outer) [] H H' s.heap s'.heap
 hok:HOk P w H' s'.heap
 na:s.heap.get? a=none
 nT:s.heap.get? T=none
 fa:H' a=none
 fT:H' T=none
 tr:Trc s'.heap a T (.ref C,dx) .none
noncomputable def CXe(P:Program)(w:World):CXT:=λouter H s E e h=>∃a T C f g,e=.ref a/\XAt P w outer H g s h a T C f/\E (.ref C) f g
section
variable {X:Cx}{pins:Yh}{σ:L2.St}{H H':Hp}{s s':Shared}{a T C:Addr}{dx:Yr}
def Mf(I:Inv X pins σ H s)(hex:X.ex=[])(k:KU (frs X.stack) ex s.heap v)(hx:∀b∈ex,X.s₀.heap.get? b=none):Un X.fs [] X.H₀ H X.s₀.heap v:=by
 have B:=I.base;rw[hex]at B;have f:∀b o,X.s₀.heap.get? b=some o->b∉ex:=λb o q z=>by rw[hx b z]at q;cases q
 have r:∀b o,X.s₀.heap.get? b=some o->b∉X.fs->b∉frs X.stack:=λb o q nf z=>by
  rcases Qa.mp (I.stkSub b z)with e|e
  ·have x:=WY q;have w:=I.ok.above
   grind
  ·exact nf e
 refine⟨λb o q n nf g=>k.keep b o (B.keep b o q n nf g) (r b o q nf) (f b o q),λb o q n u g=>?_,λb o q n g=>B.free b o q n g,λb o q g=>?_,B.tups,B.frzs,B.tbls⟩
 ·obtain⟨sl,l⟩:=B.slot b o q n u g;obtain⟨h,p⟩:=k.slot b _ l (f b o q)
  grind
 ·obtain⟨o1,l⟩:=B.there b o q g;obtain⟨h,p⟩:=k.slot b _ l (f b o q);exact⟨_,p⟩
def B5(I:Inv X pins σ H s)(hex:X.ex=[])(e:s.heap.get? b=none):X.s₀.heap.get? b=none:=by
 cases q:X.s₀.heap.get? b with
 |none=>rfl
 |some o=>
  obtain⟨u,z⟩:=I.base.there b o q (by grind)
  grind
variable {E:Yj}
def Zen(I:Inv X pins σ H s)(hex:X.ex=[])(g:X.stack=X.env::X.outer)(l:X.env.frame=some X.env.locals)(x:XAt X.prog X.w X.stack H H' s s' a T C dx) :
  wpAny (model X.prog X.w) X.A (leaving X.env<|.ref a) (λ_ u=>∃n,XAt X.prog X.w X.outer X.H₀ H' X.s₀ u a n C dx) E s':=by
 have J:=I.call' x.os x.un x.hok x.bare λb z=>absurd z (by simp);have o:=J.stack;have p:=J.ok.frames;rw[g]at o p;refine Zge p o l x.tr λv n h r k=>⟨n,J.os,J.bare,?_,?_,B5 I hex x.na,?_,x.fa,x.hok.fresh h,r⟩
 ·exact Mf J hex (by rw[g];exact k) λb f=>by
   rcases Qa.mp f with rfl|f
   ·exact B5 I hex x.na
   ·rw[WQ.mp f];exact B5 I hex x.nT
 ·refine BS x.hok k (λb f=>J.stkFree b (by grind)) λb f=>?_;rcases Qa.mp f with rfl|f
  ·exact x.fa
  ·rw[WQ.mp f];exact x.fT
 ·exact V9 (WZ J.sz h)
def Oj(J:Inv X pins σ H s)(hex:X.ex=[])(f:X.stack=X.env::X.outer)(n:X.env.frame=some X.env.locals)(r:X.s₀.heap.get? a=none)(x:H a=none)(B:s.heap.get? a=some l)(G:l.cls=.ref C)(o:l.dict=dx)(hd:l.data=.fields vs)(L:vs[1]?=some .none) :
  wpAny (model X.prog X.w) X.A (leaving X.env<|.ref a) (λ_ z=>∃p,XAt X.prog X.w X.outer X.H₀ H X.s₀ z a p C dx) E s:=by
 have u:=J.stack;have v:=J.ok.frames;rw[f]at u v;refine Zk6 v u n B hd L λM p g y k=>⟨p,J.os,J.bare,?_,?_,r,?_,x,J.hok.fresh g,by rw[←G,←o];exact y⟩
 ·exact Mf J hex (by rw[f];exact k) λb h=>by rw[WQ.mp h];exact r
 ·exact BS J.hok k (λb h=>J.stkFree b (by grind)) λb h=>by rw[WQ.mp h];exact x
 ·exact V9 (WZ J.sz g)
def Zg7{f vs}(I:Inv X pins σ H s)(hex:X.ex=[])(g:X.stack=X.env::X.outer)(h:X.env.frame=some X.env.locals)(keeps:∀b o,s.heap.get? b=some o->n.get? b=some o)(new:s.heap.get? a=none)(r:n.get? a=some f)(u:f.cls=.ref C)(l:f.dict=dx)(hd:f.data=.fields vs)(v:vs[1]?=some .none) :
  wpAny (model X.prog X.w) X.A (leaving X.env<|.ref a) (λ_ p=>∃x,XAt X.prog X.w X.outer X.H₀ H X.s₀ p a x C dx) E {s with heap:=n}:=
 Oj (s:={s with heap:=n}) (I.call' (ch:=[]) rfl (Un.kept keeps) (I.hok.kept keeps) I.bare λb z=>absurd z (by simp)) hex g h (B5 I hex new) (Gi I.hok new) r u l hd v
end
structure Aw (K:Ye) (C:Addr):Prop where
 q:PySem.W.excIn K C [.type "ValueError",.type "Exception",.type "BaseException",.type "object"] "ValueError.__new__"=true
def Aw.obj {K C h} (c:Aw K C) (k:K.In h):∃f N nm q bs hdct sn sub ab col dd k0 k1 k2 k3 k5 p,h.get? C=some (excClassObj nm q C N bs f hdct sn sub ab col dd k0 k1 k2 k3 k5 "ValueError.__new__")/\h.Ns N p/\p "__init__"=none/\
  OwnTail h [.type "ValueError",.type "Exception",.type "BaseException",.type "object"] f:=by
 have e:=c.q;unfold PySem.W.excIn at e;split at e
 next dd J sl A=>
  split at e
  next L f k0 k1 k2 k3 n k5 s r=>
   simp only[Q9,beq_iff_eq,Bool.not_eq_true']at e;obtain⟨⟨⟨⟨⟨G,E⟩,w⟩,B⟩,o⟩,v⟩:=e;subst G E;have u:=k _ _ A;cases J with
   |mk nm bs z y x hd sn sub ab col H=>
    simp only at s w o v
    have g:sl=#[k0,k1,k2,k3,some (.builtin "ValueError.__new__"),k5]:=by
     cases sl with
     |mk l=>simp only at r;rw[r]
    rw[s,w,g]at u;exact⟨f,y,nm,x,bs,hd,sn,sub,ab,col,dd,k0,k1,k2,k3,k5,_,u,.of_isNs (JV k o),PySem.W.nsMap_none_of_in k o v,PySem.W.tail_of_in k B⟩
  next=>cases e
 next=>cases e
abbrev TF:=L2.St->Hp->Str->(Str->Hp->Prop)->Prop
def PF(X:Cx)(es:Yo)(t:TF):Prop:=
 ∀(pins:Yh) (s:Shared) (g:L2.St) (H:Hp) (f:Str) (Q:Str->Hp->Prop),Inv X pins g H s->t g H f Q->
  wpAny (model X.prog X.w) X.A (joinParts f<|evalEach es X.env) (λu l=>∃x h,Inv X pins g h l/\RelV (.str x) u/\Q x h) X.xe s
section
variable {X:Cx}{e e1 e2:Expr}{es:Yo}{t:TF}{tv:TE}{pos:Pos}
noncomputable def L5:TF:=λ_ H f Q=>f.length<=sizeLine/\Q f H
noncomputable def Ow(x:Str)(t:TF):TF:=λg H f Q=>(f++x).length<=sizeLine/\t g H (f++x) Q
noncomputable def Md(tv:TE)(t:TF):TF:=λg H f Q=>tv g H λv h=>(∃i:Int,v=.int i/\i.natAbs.log2<1920/\(f++(Str.ofString<|toString i)).length<=sizeLine/\t g h (f++Str.ofString (toString i)) Q)\/
 ∃x:Str,v=.str x/\x.length<=sizeLine/\(f++x).length<=sizeLine/\t g h (f++x) Q
def NC:PF X [] L5:=λpins s g H f Q I h=>joinParts_nilE (joinParts_nil ⟨f,H,I.tok _,⟨_,rfl⟩,h.2⟩ h.1)
def Tq(h:PF X es t):PF X (.Constant (.str x) j pos::es) (Ow x t):=λpins s f H g Q I q=>
 joinParts_consE (joinParts_cons<|Calls.Constant_str ⟨q.1,h pins _ f H _ Q (I.tok _) q.2⟩)
def NV(A:PE X e tv)(h:PF X es t):PF X (.FormattedValue e (-1) none pos::es) (Md tv t):=λpins s f H z Q I q=>by
 refine joinParts_consE (joinParts_cons<|FormattedValue_plain<|thn (A pins s f H _ I q) ?_);rintro u E ⟨v,o,n,r,y⟩;rcases y with⟨i,rfl,B,l,g⟩|⟨x,rfl,hx,l,g⟩
 ·obtain⟨w,rfl⟩:=r;exact formatField_int_small B ⟨l,h pins _ f o _ Q (n.tok _) g⟩
 ·obtain⟨w,rfl⟩:=r;exact formatField_str (λC p=>⟨l,h pins _ f o _ Q (n.tok _) g⟩) hx
noncomputable def tF(t:TF):TE:=λf H Q=>t f H Str.empty λx g=>Q (.str x) g
def Sb(h:PF X (e1::e2::es) t):PE X (.JoinedStr (e1::e2::es) pos) (tF t):=λpins s f H Q I q=>
 JoinedStr_many (thn (h pins s f H _ _ I q) λu o ⟨x,n,l,r,g⟩=>⟨.str x,n,l,r,g⟩)
end
def DV(X:Cx)(E:XK):Prop:=∀(pins:Yh) (g:L2.St) (H:Hp) (s:Shared) (C a:Addr) (f:Heap) (args:Ym),Inv X pins g H s->Heap.MadeExcOf s.heap f a (.ref C) args->E (.ref C) none H->X.xe (.ref a) {s with heap:=f}
noncomputable def OF(C:Addr)(E:XK)(t:TA):TS:=λ_ f H=>t f H λg h=>g.length<=sizeLine/\E (.ref C) none h
section
variable {X:Cx}{x:Str}{C:Addr}{E:XK}{e:Expr}{es:Yo}{t:TA}{p cpos pos:Pos}
def Zc9(c:Aw X.K C)(L:X.mg x=some (.ref C))(U:DV X E)(Q:X.calm=true)(T:PA X (e::es) t)(M:autoParam (Gl X x) au_0)(r:autoParam ((x==("__debug__" : Str))=false) au_1)(v:autoParam (starEach (e::es) X.env=(false,eval e X.env)::starEach es X.env) au_0)(l:autoParam ((backTo cpos<|starEach es X.env).any (·.1)=false) au_0):PS X (.Raise (some<|.Call (.Name x p) (e::es) [] cpos) none pos) (OF C E t):=by
 intro pins s u H D I h;obtain⟨bm,N,nm,q,bs,hdct,sn,sub,ab,col,dd,k0,k1,k2,k3,k5,mN,hC,Y,n,w⟩:=c.obj I.ok.mod.kin
 have f:(backTo cpos<|starEach (e::es) X.env).any (·.1)=false:=by
  rw[v];show(false || (backTo cpos<|starEach es X.env).any (·.1))=false;rw[l];rfl
 refine wpAny_Raise_call_subU (nm:=nm) (q:=q) (N:=N) (bs:=bs) (hdct:=hdct) (sn:=sn) (sub:=sub) (ab:=ab) (col:=col) (dd:=dd) (k0:=k0) (k1:=k1) (k2:=k2) (k3:=k3) (k5:=k5)
  V5 (by decide +kernel) V5 (w.hasType<|by decide +kernel) (I.ok.hd Q) f n (Sw I M L ⟨rfl,?_⟩ r)
 have y:=T cpos pins s u H _ I h;rw[v]at y ⊢;refine JC (thn y ?_);rintro z A ⟨vs,H2,g,B,J,G⟩;refine⟨rfl,by rw[←B.length];exact J,g.bk _ _ hC,Y.keeps g.bk,w.keeps g.bk,λh' a o=>?_⟩;exact U pins u H2 A C a h' z g o G
end
section
variable {P:Program}{w:World}{K:Ye}{mg:Yi}{base:Heap}{N ps:Yn}{qual x:Str}{scope:Scope}{f:Addr}{cd:Value}{A:Around}{outer:List Env}{s:Shared}{H:Hp}{E:XK}
def KO:DV (Kj (CXe P w) P w K mg base N qual scope f cd A outer s H E) E:=by
 intro pins n l p C a r args I m q;obtain⟨t,g,_,_⟩:=m.there;exact Q3 (Zg7 I rfl rfl rfl m.keeps m.new g rfl rfl rfl rfl) (λ_ o ⟨h,y⟩=>⟨a,h,C,none,l,rfl,y,q⟩) λ_ _ z=>z
def XU:P5 (CXe P w) (Kj (CXe P w) P w K mg base N qual scope f cd A outer s H E) E:=by
 rintro pins n u r e p I ⟨a,T,C,g,l,rfl,y,q⟩;exact Q3 (Zen I rfl rfl rfl y) (λ_ o ⟨h,z⟩=>⟨a,h,C,g,l,rfl,z,q⟩) λ_ _ z=>z
def Gq:PassesOwn (model P w) (Kj (CXe P w) P w K mg base N qual scope f cd A outer s H E).A (Kj (CXe P w) P w K mg base N qual scope f cd A outer s H E).env (Kj (CXe P w) P w K mg base N qual scope f cd A outer s H E).xe:=PassesOwn.leaving
def Def.okX {st k sp} (D:Own.Def K mg x st ps) (S:Xw N ps (Xv st)) (len:∀vs H Q E,sp vs H Q E->vs.length=ps.length)
  (h:∀f g A outer s H vs Q E,X5 k (A.deeper<|envOfC x (Xv st) s.heap.objs.size f g)->sp vs H Q E->
   ∃t,PSs (Kj (CXe P w) P w K mg base N x (Xv st) f g A outer s H E) (XZ st) t/\t {nx:=λ_ H'=>Q .non H',rt:=Q} (start N vs) H):Own.Callee P w K mg base (CXe P w) (k+1) x ps sp:=by
 obtain⟨f,C,F,u,v⟩:=D.ex;obtain⟨oc,B,kV,y,z,J,g,G,p,rfl,o,n⟩:=F.ex;exact⟨f,_,Ek o n S len λA outer s H vs Q E r l=>h f g A outer s H vs Q E r l,u,F.kp,⟨_,o,rfl⟩,v⟩
end
end ExcR
namespace ExcR
open PySem PySem.Spec PyProof.Rows L2
open Sem (wp)
structure Kr (K:Ye) (C:Addr):Prop where
 c:Aw K C
 ga:PySem.W.findIn K (.ref C) "__getattribute__"=some (some<|.builtin "BaseException.__getattribute__")
 gt:PySem.W.findIn K (.ref C) "__getattr__"=some none
 cl:PySem.W.findIn K (.ref C) "__class__"=some (some<|.builtin "object.__class__")
 is:(PySem.W.clsIn K C).isSome=true
structure Th (K:Ye) (C:Addr):Prop where
 obj:∀{h:Heap},K.In h->∃bm N nm q bs hdct sn sub ab col dd k0 k1 k2 k3 k5,h.get? C=some (excClassObj nm q C N bs bm hdct sn sub ab col dd k0 k1 k2 k3 k5 "ValueError.__new__")/\OwnTail h [.type "ValueError",.type "Exception",.type "BaseException",.type "object"] bm
 ga:PySem.W.findIn K (.ref C) "__getattribute__"=some (some<|.builtin "BaseException.__getattribute__")
 gt:PySem.W.findIn K (.ref C) "__getattr__"=some none
 cl:PySem.W.findIn K (.ref C) "__class__"=some (some<|.builtin "object.__class__")
 is:(PySem.W.clsIn K C).isSome=true
def Kr.any {K:Ye}{C:Addr} (G:Kr K C):Th K C:=
 ⟨λk=>by
  obtain⟨y,N,l,q,bs,f,h,sub,z,g,x,s,r,p,o,n,A,w,B,u,v⟩:=G.c.obj k;exact⟨y,N,l,q,bs,f,h,sub,z,g,x,s,r,p,o,n,w,v⟩,G.ga,G.gt,G.cl,G.is⟩
section
variable {prog:Program}{w:World}{A:Around}{E:Yj}{h:Heap}{g:Array GenState}{d:Drawn}{t:Nat}{os:OsState}{a C:Addr}{o:Obj}{K:Ye}
def Zq3{R:Result->Shared->Prop}(k:K.In h)(G:Th K C)(hx:h.get? a=some o)(p:o.cls=.ref C)(hq:R (.ok<|.ret<|.ref C) ⟨h,g,d,t,os⟩) :
  codeAny (model prog w) A (.call (.builtin "getset_descriptor.__get__") ⟨[.builtin "object.__class__",.ref a,.ref C],[]⟩) R ⟨h,g,d,t,os⟩:=by
 obtain⟨v,N,y,q,bs,n,x,sub,Q,u,M,L,J,H,B,z,s,r⟩:=G.obj k;have f:(⟨h,g,d,t,os⟩:Shared).TypeIs (.builtin "object.__class__") "getset_descriptor":=J2
 have l:(Value.ref C::v).contains (.type (".".intercalate ("object.__class__".cutAt '.').dropLast))=true:=by
  rw[F.owner_object_class,VM,r.hasType (b:=true) (by decide +kernel)];rfl
 refine VA F.slot_gs_get.plain F.entry_gs_get (F.slot_gs_get.check _ _ _ _ _ _ _ _ f (F.args_gs_get _ _ _) ?_)
 repeat (any_goals (first|assumption|(with_reducible refine QD hx ?_;rw[p])|(with_reducible refine VH s ?_;rw[l])|wp_step))
 refine⟨Jf _ (by decide +kernel),V1 F.entry_object_class ?_⟩
 repeat (any_goals (first|assumption|(with_reducible refine QD hx ?_;rw[p])|wp_step))
def Zgr{l:Tok}{Q:Fin->Shared->Prop}(k:K.In h)(G:Th K C)(hx:h.get? a=some o)(f:o.cls=.ref C)(hq:Q (.done<|.ret<|.ref C) ⟨h,g,d,t,os⟩) :
  wpAny (model prog w) A (Builtin.«object.__getattribute__» ⟨[.ref a,.str "__class__" l],[]⟩) Q E ⟨h,g,d,t,os⟩:=by
 have n:(⟨h,g,d,t,os⟩:Shared).TypeIs (.builtin "object.__class__") "getset_descriptor":=J2;have f1:=J2;have r:=F.slot_gs_get.lookup;have p:=F.slot_gs_set.lookup;have L:=QV (M:=model prog w) k G.cl
 repeat (any_goals (first|assumption|(with_reducible refine QD hx ?_;rw[f])|with_reducible refine L.at ?_|wp_step))
 refine Zq3 k G hx f ?_
 repeat (any_goals (first|assumption|wp_step))
def Zmc{M:Model}{v:Value}{Q:Unit->Shared->Prop}(k:K.In h)(G:Th K C)(hx:h.get? a=some o)(n:o.cls=.ref C)(hq:Q () ⟨h,g,d,t,os⟩) :
  wpAny M A (checkBuiltinCall "BaseException.__getattribute__" ⟨[.ref a,v],[]⟩) Q E ⟨h,g,d,t,os⟩:=by
 obtain⟨y,N,B,q,bs,l,z,sub,ab,x,dd,U,T,L,J,H,r,p⟩:=G.obj k;have f:(Value.ref C::y).contains (.type "BaseException")=true:=by rw[VM,p.hasType (b:=true) (by decide +kernel)];rfl
 have u:builtinKind "BaseException.__getattribute__"=some .slot:=by decide +kernel
 have s:splitId "BaseException.__getattribute__"=some ("BaseException","__getattribute__"):=by decide +kernel
 have Y:=F.args_bexc_ga (.ref a) v;simp only[checkBuiltinCall,u,s];refine WK ?_;unfold isInstance
 repeat (first|(with_reducible refine QD hx ?_;rw[n])|(with_reducible refine VH r ?_;rw[f])|wp_step)
 exact hq
def Zbr{p:Tok}{Q:Yj}(k:K.In h)(G:Th K C)(hx:h.get? a=some o)(f:o.cls=.ref C)(hq:Q (.ref C) ⟨h,g,d,t,os⟩) :
  wpAny (model prog w) A (getAttrBy (.ref a) (.str "__class__" p) false) Q E ⟨h,g,d,t,os⟩:=by
 obtain⟨Y,N,v,q,bs,l,u,sub,ab,r,U,H,B,z,y,x,T,J⟩:=G.obj k;have f0:=F.attrBase_ValueError.ga.bind (.ref a);have n:(Value.builtin "BaseException.__getattribute__" == Value.builtin "object.__getattribute__")=false:=by decide +kernel
 have s:(onTheHeap (Value.ref C)&&Value.builtin "BaseException.__getattribute__" == Value.builtin "object.__getattribute__")=false:=by rw[n];rfl
 have L:=QV (M:=model prog w) k G.ga;have L2:=QV (M:=model prog w) k G.gt
 repeat (any_goals (first|assumption|(with_reducible refine QD hx ?_;rw[f])|with_reducible refine L.at ?_|with_reducible refine L2.at ?_|wp_step))
 refine VA F.attrBase_ValueError.ga.plain F.entry_bexc_ga (Zmc k G hx f<|Zgr k G hx f ?_)
 repeat (any_goals (first|assumption|wp_step))
def Zoc{Q:Yq->Shared->Prop}(k:K.In h)(G:Th K C)(hx:h.get? a=some o)(f:o.cls=.ref C)(hq:Q (some<|.ref C) ⟨h,g,d,t+1,os⟩) :
  wpAny (model prog w) A (getAttr? (.ref a) "__class__") Q E ⟨h,g,d,t,os⟩:=by
 unfold getAttr? getAttrBy?
 repeat (any_goals (first|assumption|with_reducible apply Zbr k G hx f|wp_step))
end
end ExcR
namespace ExcR
open PySem PySem.Spec PyProof.Rows L2
noncomputable def Px(a C:Addr)(g:Yr):HO:=.ext λh=>∃o,h.get? a=some o/\(o.cls,o.dict)=(.ref C,g)/\∃f,o.data=.fields f
noncomputable abbrev Ac(a C:Addr):HO:=Px a C none
def Zlu{h a T C g r}(x:Trc h a T (.ref C,g) r):ObjOk P w H h a (Px a C g):=by
 obtain⟨_,⟨o,l,f,u,s,_⟩,_⟩:=x;exact⟨⟨o,f,u,l,s⟩,⟨o,f⟩,λy v ⟨o1,p,n⟩ k=>⟨o1,k o1 p,n⟩⟩
def Zn8{K M h C}(k:K.In h)(e:(PySem.W.clsIn K C).isSome=true):PySem.W.Looks M h (isType<|.ref C) true:=by
 unfold PySem.W.clsIn at e;split at e
 next g=>
  intro p n o l f q;exact WK (wpAny_loadPart (f _ _<|k _ _ g)<|WN q)
 grind
def Zde{K a C}(G:Th K C):PySem.W.KitX K (.ref a) (.ref C) (λh=>∃o,h.get? a=some o/\o.cls=.ref C) where
 ty:=λM h _ ⟨o,h1,h2⟩=>h2▸(PySem.W.Looks.ld h1).andThen .now
 it:=λM h k _=>Zn8 k G.is
 ne:=λh tp dd its n sl k htp=>by
  refine Jv.mpr λq=>?_;obtain⟨bm,N,nm,q,bs,hdct,sn,sub,ab,col,dd,k0,k1,k2,k3,k5,hC,_⟩:=G.obj k
  grind
 ca:=λ{prog w A E Q s} k ⟨o,h1,h2⟩ q=>by
  exact Zoc k G h1 h2 q
section
variable {X:Cx}
def Zpl:Kv X (.builtin "isinstance") (λxs H Q=>∃a C n c b,xs=[.ref a,c]/\H a=some (Px a C n)/\Th X.K C/\(∃l,(∀u,RelV c u->u=l)/\PySem.W.kitOne X.K (.ref C) l=some b)/\Q (.bl b) H):=by
 intro pins s E H xs J Q I v h;obtain⟨a,C,n,c,b,rfl,y,G,⟨l,g,e⟩,q⟩:=h;cases v with
 |cons r w=>
  cases w with
  |cons x f=>
   cases f
   obtain rfl:=r;cases g _ x
   obtain⟨⟨o,B,A,_⟩,_⟩:=(I.hok a _ y);exact QL (Zde G) I.kIn ⟨o,B,(QA Prod.fst A)⟩ e (λz=>nomatch z) λp=>⟨.bl b,H,I.tok p,rfl,q⟩
def RW{K}(g:autoParam (X.K=K) au_0):Kv X (.builtin "isinstance") (λxs H Q=>∃a C h c b,xs=[.ref a,c]/\H a=some (Px a C h)/\Th K C/\(∃f,(∀u,RelV c u->u=f)/\PySem.W.kitOne K (.ref C) f=some b)/\Q (.bl b) H):=by
 subst g;exact Zpl
end
def AG{H H'}{h s r}(u:Un fs [] H H' h s)(k:KU fs ex s r)(hx:∀b∈ex,h.get? b=none):Un fs [] H H' h r:=by
 have f:∀b o,h.get? b=some o->b∉ex:=λb o q z=>by rw[hx b z]at q;cases q
 refine⟨λb o q n nf g=>k.keep b o (u.keep b o q n nf g) nf (f b o q),λb o q n w g=>?_,u.free,λb o q g=>?_,u.tups,u.frzs,u.tbls⟩
 ·obtain⟨sl,p⟩:=u.slot b o q n w g;obtain⟨l,v⟩:=k.slot b _ p (f b o q)
  grind
 ·obtain⟨o1,p⟩:=u.there b o q g;obtain⟨l,v⟩:=k.slot b _ p (f b o q)
  grind
noncomputable def Nu(X:Cx)(a:Addr):Cx:={X with A:=X.A.mark (some<|.ref a),calm:=false,xe:=λ_ _=>False}
noncomputable def NS(X:Cx)(pins:Yh)(D:Ends)(l:ExceptHandler):Cx:=
 {X with pn:=X.pn++pins,xe:=λe h=>wpAny (model X.prog X.w) X.A (noteFrame e X.env) (λ_ g=>wpAny (model X.prog X.w) X.A (setFlight e none) (λ_ f=>wpAny (model X.prog X.w) X.A (handleBy e X.env [l]) (SP X pins D) X.xe f) X.xe g) X.xe h}
section
variable {X:Cx}{pins pins1:Yh}{σ:L2.St}{H H':Hp}{s s':Shared}{a T C:Addr}{D:Ends}{h0:ExceptHandler}
def Zl5(o:X.Ok):(Nu X a).Ok:=⟨o.mod,o.kind,o.glob,o.blt,o.above,o.inj,o.has,o.cab,(λz=>nomatch z),o.frames,o.stk,o.exf,o.bs,o.bsz,o.noex,o.exfs,o.funs,o.frf⟩
def Iw(I:Inv X pins σ H s):Inv (Nu X a) pins σ H s:=⟨Zl5 I.ok,I.os,I.bare,I.base,I.loc,I.cell,I.free,I.freeC,I.pin,I.hok,I.len⟩
def Zio(o:X.Ok)(I:Inv (Nu X a) pins σ H s):Inv X pins σ H s:=⟨o,I.os,I.bare,I.base,I.loc,I.cell,I.free,I.freeC,I.pin,I.hok,I.len⟩
def Zmw(o:X.Ok):(NS X pins D h0).Ok:=⟨o.mod,o.kind,o.glob,o.blt,o.above,o.inj,o.has,o.cab,o.hd,o.frames,o.stk,o.exf,o.bs,o.bsz,o.noex,o.exfs,o.funs,o.frf⟩
def Zca(o:(NS X pins D h0).Ok):X.Ok:=⟨o.mod,o.kind,o.glob,o.blt,o.above,o.inj,o.has,o.cab,o.hd,o.frames,o.stk,o.exf,o.bs,o.bsz,o.noex,o.exfs,o.funs,o.frf⟩
def Zkk(I:Inv X pins σ H s):Inv (NS X pins D h0) [] σ H s:=⟨Zmw I.ok,I.os,I.bare,I.base,I.loc,I.cell,I.free,I.freeC,λp f=>I.pin p (by simpa [NS]using f),I.hok,I.len⟩
def FK(I:Inv (NS X pins D h0) pins1 σ H s):Inv X pins σ H s:=⟨Zca I.ok,I.os,I.bare,I.base,I.loc,I.cell,I.free,I.freeC,λp f=>I.pin p (QU _ f),I.hok,I.len⟩
def Zjb{h'}{tk}(I:Inv X pins σ H s)(hN:X.N.Nodup)(hi:X.N[i]?=some n)(hk:X.env.scope.names.lookup n=some .local)(hm:∀(i:Nat) x v,X.N[i]?=some x->σ[i]?=some (some v)->Vis X.env.scope x->∃u,RelV v u/\Look X.env s.heap m x u)(hn:s.heap.Ns X.env.locals m)(l:h'.Ns X.env.locals (λx=>if x=n then v else m x))(f:Heap.SameBut X.env.locals s.heap h'):Inv X pins (σ.set i none) H {s with heap:=h',toks:=tk}:=by
 have cne:=I.cne;have h:∀{b o},X.s₀.heap.get? b=some o->b≠X.env.locals:=λe=>Qo (Qs (WY e) I.ok.above);refine⟨I.ok,I.os,I.bare,⟨λb o e n r hx=>(f.2 b<|h e).trans (I.base.keep b o e n r hx),λb o e n r hx=>?_,I.base.free,λb o e hx=>?_,I.base.tups,I.base.frzs,I.base.tbls⟩,⟨_,l,λj y J g E e3=>?_⟩,λy c e=>?_,I.free,I.freeC,λp hp=>?_,λb Q e=>?_,by simpa using I.len⟩
 ·obtain⟨sl,g⟩:=I.base.slot b o e n r hx;exact⟨sl,(f.2 b<|h e).trans g⟩
 ·obtain⟨U,g⟩:=I.base.there b o e hx;exact⟨U,(f.2 b<|h e).trans g⟩
 ·by_cases A:j=i
  ·grind
  ·rw[J8 (Ne.symm A)]at E;obtain⟨L,M,q⟩:=hm j y J g E e3;refine⟨L,M,?_⟩;rcases q with⟨k,e⟩|⟨k,c,e,z⟩
   ·have Y:y≠n:=λz=>A (Cy hN g (z▸hi));exact .inl ⟨k,by simp[Y,e]⟩
   ·exact .inr ⟨k,c,e,z.sameBut f (cne y c e)⟩
 ·obtain⟨G,z⟩:=I.cell y c e;exact⟨G,z.sameBut f (cne y c e)⟩
 ·obtain⟨e,n,w,nf,d⟩:=I.pin p hp;exact⟨(f.2 p.1 w).trans e,n,w,nf,d⟩
 ·refine(I.hok b Q e).stay (λc u hc q=>(f.2 c ?_).trans q) (λ_ q=>q) λ_ _ q=>q;rintro rfl;have B:=I.free;rcases hc with z|z
  ·rw[←z,B]at e;cases e
  ·rw[B]at z;cases z
end
noncomputable def Zmq(i:Nat)(D:Ends):Ends:={nx:=λf H=>D.nx (f.set i none) H,rt:=D.rt,bk:=λf H=>D.bk (f.set i none) H,ct:=λf H=>D.ct (f.set i none) H}
noncomputable def hx(K:Ye)(l:Addr)(i:Nat)(g:TS)(D:Ends):L2.St->XK:=λf c h H=>∃C,c=.ref C/\PySem.W.exmOne K (.ref C) (.ref l)=some true/\
 ∀a,H a=none->g (Zmq i D) (f.set i<|some<|.ref a) (upd H a<|Px a C h)
def Gf(CX:CXT)(X:Cx)(E:L2.St->XK):Prop:=∀(pins:Yh) (f:L2.St) (H:Hp) (s:Shared) (e:Value) (g:Shared),Inv X pins f H s->CX X.stack H s (E f) e g->X.xe e g
section
variable {X:Cx}{pins:Yh}{D:Ends}{x n:Str}{np hpos pos:Pos}{b0:Stmt}{suite body:Yp}{C0:Addr}{i:Nat}{ts:TS}
def Sm(B:X.stack=X.env::X.outer)(hfr:X.env.frame=some X.env.locals)(hN:X.N.Nodup)(hi:X.N[i]?=some n)(hk:X.env.scope.names.lookup n=some .local)(hg:Gl X x)(hm:X.mg x=some (.ref C0))(hdb:(x==("__debug__" : Str))=false)(hs:∀a,PSs (Nu X a) (b0::suite) ts):Gf (CXe X.prog X.w) (NS X pins D<|.ExceptHandler (some<|.Name x np) (some n) (b0::suite) hpos) (hx X.K C0 i ts D):=by
 rintro pins1 σ H s e s' I ⟨a,T,C,dx,p,rfl,y,C',ec,em,q⟩;obtain rfl:=Value.ref.inj ec;have I:=FK I;have J:=I.call' y.os y.un y.hok y.bare λb z=>absurd z (by simp);have hF:=J.stack;have hA:=J.ok.frames;rw[B]at hF hA;refine Rb hA hF hfr y.tr λh2 T2 Q tr2 k2=>?_
 have M:s.heap.get? T2=none:=by
  cases z:s.heap.get? T2 with
  |none=>rfl
  |some o=>
   obtain⟨o1,z1⟩:=y.un.there T2 o z (by simp);exact absurd (WY z1) (JE.mpr Q)
 have U:=y.hok.fresh Q
 have u2:Un (frs X.stack) [] H p s.heap h2:=AG y.un (by rw[B];exact k2) λb g=>by
  rcases Qa.mp g with rfl|g
  ·exact y.na
  ·rw[WQ.mp g];exact y.nT
 have ok2:=BS y.hok k2 (λb g=>J.stkFree b (by rw[B];exact g)) λb g=>by
  rcases Qa.mp g with rfl|g
  ·exact y.fa
  ·rw[WQ.mp g];exact y.fT
 refine As tr2 λh3 G k3=>?_;have u3:=AG u2 (k3.mono (by simp) λ_ z=>z) λb g=>by rw[WQ.mp g];exact M
 have L:=BS ok2 k3 (by simp) λb g=>by rw[WQ.mp g];exact U
 have J3:Inv X pins σ p {s' with heap:=h3}:=I.call' y.os u3 L y.bare λb z=>absurd z (by simp)
 have S3:Inv (Nu X a) pins σ p {s' with heap:=h3}:=Iw J3
 refine wpAny_handleBy_cons (codeAny_handlers_test<|Sw S3 hg hm ?_ hdb) (by intro z;cases z);obtain⟨_,⟨oe,vs,g1,g2,g3,g4⟩,_⟩:=id G;refine(PySem.W.exm_one J3.kIn ((show oe.cls=Value.ref C from QA Prod.fst g2)▸(PySem.W.Looks.ld g1).andThen .now) em).here ?_
 refine codeAny_handlers_suite_as (As G λh4 tr4 k4=>?_);have l:=AG u3 (k4.mono (by simp) λ_ z=>z) λb g=>by rw[WQ.mp g];exact M
 have u5:Un (frs X.stack) [] H (upd p a<|Px a C dx) s.heap h4:=by
  have ne:∀b o,s.heap.get? b=some o->b≠a:=λb o z w=>by rw[w,y.na]at z;cases z
  have r:∀b o,p b=some o->b≠a:=λb o z w=>by rw[w,y.fa]at z;cases z
  refine⟨l.keep,l.slot,λb o z n m=>by rw[X1 (ne b o z)];exact l.free b o z n m,l.there,λb xs z=>?_,λb o u z=>?_,λb ps z=>?_⟩
  ·rw[X1 (r b _<|l.tups b xs z)];exact l.tups b xs z
  ·rw[X1 (r b _<|l.frzs b o u z)];exact l.frzs b o u z
  ·obtain⟨more,z1⟩:=l.tbls b ps z;exact⟨more,by rw[X1 (r b _ z1)];exact z1⟩
 have ok5:HOk X.prog X.w (upd p a<|Px a C dx) h4:=λb ob e=>by
  by_cases g:b=a
  ·subst g;rw[XG]at e;cases e
   exact Zlu tr4
  ·rw[X1 g]at e;refine((BS L k4 (by simp) λb g=>by rw[WQ.mp g];exact U) b ob e).stay (λ_ _ _ z=>z) (λc z=>?_) λc xs z=>?_
   ·rw[X1 λw=>by rw[w,y.fa]at z;cases z];exact z
   ·rw[X1 λw=>by rw[w,y.fa]at z;cases z];exact z
 have J5:Inv X pins σ (upd p a<|Px a C dx) {s' with heap:=h4}:=I.call' y.os u5 ok5 y.bare λb z=>absurd z (by simp)
 have S5:Inv (Nu X a) pins σ (upd p a<|Px a C dx) {s' with heap:=h4}:=Iw J5
 refine BK (X:=Nu X a) S5 hN hi (.inl hk) (v:=.ref a) rfl (λs6 S6=>?_) (.inr hk);refine Q3 (hs a pins s6 _ _ _ S6<|q a y.fa) (λf s7 h7=>?_) λ_ _ z=>z.elim
 have gone:∀{h:L2.St} {Y:Hp} {R:Unit->Shared->Prop},Inv (Nu X a) pins h Y s7->(∀s8,Inv X pins (h.set i none) Y s8->R () s8)->wpAny (model X.prog X.w) X.A (do bindName X.env n .none;unbindBehindTheSuite X.env n hpos) R X.xe s7:=λ{h Y R} E hR=>by
  obtain⟨m,hn,hl⟩:=id E.loc;exact wpAny_nameGoes_keeps hk hn (by rw[show X.env.scope.kind=.function from J5.ok.kind];rfl) λh8 v hn8 hs8=>hR _ (Zjb (Zio J5.ok E) hN hi hk hl hn hn8 hs8)
 cases f with
 |ret u=>obtain⟨v,h,Y,E,rv,q7⟩:=h7;exact gone E λs8 I8=>⟨v,_,_,I8,rv,q7⟩
 |_=>obtain⟨h,Y,E,q7⟩:=h7;exact gone E λs8 I8=>⟨_,_,I8,q7⟩
def MT{w:Ends->TS}(y:∀pins D,PSs (NS X pins D<|.ExceptHandler (some<|.Name x np) (some n) (b0::suite) hpos) body (w D)) :
  PS X (.Try body [.ExceptHandler (some<|.Name x np) (some n) (b0::suite) hpos] [] [] pos) (λD o H=>w D D o H):=by
 intro pins s o H D I h;refine wpAny_Try_except (Q3 (y pins D [] s o H D (Zkk I) h) (λf A p=>?_) λ_ _ z=>z);cases f with
 |next=>
  obtain⟨g,l,J,q⟩:=p;exact WN ⟨g,l,FK J,q⟩
 |ret u=>obtain⟨v,g,l,J,r,q⟩:=p;exact⟨v,g,l,FK J,r,q⟩
 |_=>obtain⟨g,l,J,q⟩:=p;exact⟨g,l,FK J,q⟩
end
noncomputable def Xx(f:Yi)(x:Str):Addr:=match f x with
 |some (.ref C)=>C
 |_=>0
def CL(h:f x=some (.ref C)):Xx f x=C:=by unfold Xx;rw[h]
def P7{v pos}(h:∃u,X.mg x=some u/\RelV v u)(f:autoParam (Gl X x) au_0)(hd:autoParam ((x==("__debug__" : Str))=false) au_1):PE X (.Name x pos) (tC v):=by
 obtain⟨u,l,g⟩:=h;exact Rh f l g hd
def Zq7{C pos}(h:X.mg x=some (.ref C))(f:autoParam (Gl X x) au_0)(hd:autoParam ((x==("__debug__" : Str))=false) au_1):PE X (.Name x pos) (tC<|.ref C):=Rh f h rfl hd
end ExcR
namespace Own
open PySem PySem.Spec PyProof.Rows L2 M
section
variable {X:Cx}{pins:Yh}{σ:L2.St}{H:Hp}{s:Shared}
def LW{p:Int×Int}{its}(r:Vals [V.int p.1,V.int p.2] its):∃g f,its=[.int p.1 g,.int p.2 f]:=by
 cases r with
 |cons o h=>
  cases h with
  |cons n l=>
   cases l
   obtain⟨g,rfl⟩:=o;obtain⟨f,rfl⟩:=n
   grind
def Zlv{x y p q u v}(I:Inv X pins σ H s)(U:A.units<cLine)(L:RelV x u)(J:RelV y v)(Y:P1 H x p)(hq:P1 H y q):SeqAt.EqAt A s u v (decide (p=q)):=by
 obtain⟨a,rfl,C⟩:=Y;obtain⟨b,rfl,l⟩:=hq;obtain rfl:=L;obtain rfl:=J;by_cases n:a=b
 ·subst n;rw[C]at l
  have e:p=q:=by
   injection l with l;injection l with l;injection l with g f;injection f with f _;exact Prod.ext (V.int.inj g) (V.int.inj f)
  rw[WM e];exact SeqAt.EqAt.same _
 ·obtain⟨_,T,N,G⟩:=(I.hok a _ C);obtain⟨_,Q,M,E⟩:=(I.hok b _ l);obtain⟨B,w,rfl⟩:=LW N;obtain⟨r,o,rfl⟩:=LW M
  have h:=SeqAt.RcAt.tuples (e:=λj=>if j=0 then p.1==q.1 else p.2==q.2) G E U (λj g f=>by
   have hj:j=0\/j=1:=by
    have h1':j<2:=g;lia
   rcases hj with rfl|rfl
   ·exact SeqAt.EqAt.int_int _ _ _ _
   ·exact SeqAt.EqAt.int_int _ _ _ _)
  have e:((List.range (min ([Value.int p.1 B,Value.int p.2 w].toArray).size ([Value.int q.1 r,Value.int q.2 o].toArray).size)).all (λj=>if j=0 then p.1==q.1 else p.2==q.2)&&([Value.int p.1 B,Value.int p.2 w].toArray).size==([Value.int q.1 r,Value.int q.2 o].toArray).size)=decide (p=q):=by
   show((List.range 2).all (λj=>if j=0 then p.1==q.1 else p.2==q.2)&&true)=decide (p=q);rw[Bool.and_true];have e2:(List.range 2).all (λj=>if j=0 then p.1==q.1 else p.2==q.2)=((p.1==q.1)&&(p.2==q.2)):=by simp[List.range,List.range.loop]
   rw[e2];by_cases g:p.1=q.1
   ·by_cases f:p.2=q.2
    ·rw[WM (Prod.ext g f)];simp[g,f]
    ·rw[Qu (λz=>f (by rw[z]))];simp[f]
   ·rw[Qu (λz=>g (by rw[z]))];simp[g]
  rw[e]at h;exact SeqAt.EqAt.of_refs n h
noncomputable def eP(H:Hp)(q:Int×Int)(u:Value):Bool:=match u with
 | .ref a=>(match H a with
  |some (.tup [.int i,.int j])=>decide ((i,j)=q)
  |_=>false)
 |_=>false
def MR{p q}(h:P1 H v p)(r:RelV v u):eP H q u=decide (p=q):=by
 obtain⟨a,rfl,f⟩:=h;obtain rfl:=r;unfold eP;simp_all
theorem Cp:∀{vs us}{ps:Yf},Vals vs us->LV P1 H vs ps->us.any (eP H q)=decide (q∈ps)
 |_,_,[],.nil,_=>rfl
 |_,_,_::_,.nil,h|v::vs,u::us,[],.cons _ _,h=>absurd h.1 (by simp)
 |v::vs,u::us,p::ps,.cons r t,h=>by
  obtain⟨l,e,f⟩:=h.2 0 p rfl;cases e
  have g:LV P1 H vs ps:=⟨by simpa using h.1,λi x e=>h.2 (i+1) x e⟩;rw[VY,MR f r,Cp t g];by_cases n:p=q
  ·grind
  ·grind
noncomputable def BH(neg:Bool):R2:=λx y H Q=>∃(l:Addr) (f:Yf) (q:Int×Int),y=.ref l/\P1 H x q/\LAt P1 H l f/\Q (.bl (if neg then !decide (q∈f)else decide (q∈f))) H
theorem Dm{x v q}(I:Inv X pins σ H s)(l:A.units<cLine)(g:RelV x v)(hx:P1 H x q):∀{vs us}{ps:Yf},Vals vs us->LV P1 H vs ps->∀u∈us,SeqAt.EqAt A s u v (eP H q u)
 |_,_,_,.nil,_,u,f=>by cases f
 |w::vs,u::us,[],.cons _ _,h,_,_=>absurd h.1 (by simp)
 |w::vs,u::us,p::ps,.cons r t,h,n,f=>by
  obtain⟨y,e,hw⟩:=h.2 0 p rfl;cases e
  have o:LV P1 H vs ps:=⟨by simpa using h.1,λi x e=>h.2 (i+1) x e⟩;rcases Qa.mp f with rfl|f
  ·rw[MR hw r];exact Zlv I l r g hw hx
  ·exact Dm I l g hx t o n f
def Zeo(z:X.A.in1.units<cLine):OpR X (compareOp .In) (BH false):=by
 intro pins s σ H x y v u Q I o n h;obtain⟨l,E,q,rfl,hx,⟨C,B,g⟩,k⟩:=h;cases n
 obtain⟨f,r,p,G⟩:=I.list (SqL.of B);refine SeqAt.in_listAt (eP H q) p.isList (λw hw=>Dm I z o hx r g w (by grind)) ⟨.bl _,H,I,rfl,?_⟩;rwa[show f.toArray.any (eP H q)=f.any (eP H q) by simp,Cp r g]
def Zgp(z:X.A.in1.units<cLine):OpR X (compareOp .NotIn) (BH true):=by
 intro pins s σ H x y v u Q I o n h;obtain⟨l,E,q,rfl,hx,⟨C,B,g⟩,k⟩:=h;cases n
 obtain⟨f,r,p,G⟩:=I.list (SqL.of B);refine SeqAt.notIn_listAt (eP H q) p.isList (λw hw=>Dm I z o hx r g w (by grind)) ⟨.bl _,H,I,rfl,?_⟩;rwa[show f.toArray.any (eP H q)=f.any (eP H q) by simp,Cp r g]
end
end Own
namespace M
open PySem PySem.Spec PyProof.Rows L2 Own
section
variable {α:Type}{R:Hp->V->α->Prop}{H:Hp}
noncomputable def pick(c:α->Bool)(d:V×α):Option V:=if c d.2=true then some d.1 else none
end
end M
namespace Own
open PySem PySem.Spec PyProof.Rows L2 M
section
variable {X:Cx}
noncomputable def Kw(i:Int)(n:Nat):Yg:=(List.range n).map λ(k:Nat)=>i+(k:Int)
end
end Own
namespace Own
open PySem PySem.Spec PyProof.Rows L2
section
variable {X:Cx}{K:Ye}
def IV(y:X.calm=true)(A:autoParam (X.K=K) au_0):Kv X (.builtin "sum") (λxs H Q=>∃(p:Addr) (ns:Yg),xs=[.ref p]/\SqL K H p (ns.map V.int)/\Q (.int ns.sum) H):=by
 subst A;intro pins s E H xs G Q I o h;obtain⟨p,ns,rfl,z,q⟩:=h;obtain⟨u,rfl,v⟩:=o.one;obtain rfl:=v;obtain⟨g,r,w,_⟩:=I.list z;have n:IntsAre g ns:=by simpa using FD r
 obtain⟨f,hx⟩:=n.allInts.items;have l:=w.isList;rw[hx]at l;refine sum_intListG (I.ok.hd y) l λM J L x=>?_
 have C:ns=f.toList.map (·.1):=by
  rw[←nums_intItems,←hx];exact n.numsOf.symm
 have B:preSum (numAt f) f.size=ns.sum:=by
  rw[preSum_eq,List.take_of_length_le (by simp),C]
 rw[B];exact⟨.int ns.sum,H,I.kept x,⟨_,rfl⟩,q⟩
def Zcw(L:X.calm=true)(T:autoParam (X.K=K) au_0):Kv X (.builtin "min") (λxs H Q=>∃(p:Addr) (ns:Yg),xs=[.ref p]/\SqL K H p (ns.map V.int)/\0<ns.length/\∀M,M∈ns->(∀a∈ns,M<=a)->Q (.int M) H):=by
 subst T;intro pins s Y H xs us Q I A h;obtain⟨p,ns,rfl,N,o,q⟩:=h;obtain⟨u,rfl,B⟩:=A.one;obtain rfl:=B;obtain⟨l,r,C,_⟩:=I.list N;have x:IntsAre l ns:=by simpa using FD r
 obtain⟨g,e⟩:=x.allInts.items;have w:=C.isList;rw[e]at w;have f:ns=g.toList.map (·.1):=by rw[←x.numsOf,←nums_intItems,←e]
 have n:0<g.size:=by
  have z:=o;rw[f,WL,QK]at z;exact z
 refine min_intList (I.ok.hd L) w n λv h' tk E G=>?_;obtain⟨t,rfl⟩:=intItems_at E;obtain⟨h1,U⟩:=argBest_lt (numAt g) (g.size-1);refine⟨.int _,H,I.kept G,⟨_,rfl⟩,q _ ?_ λa y=>?_⟩
 ·rw[f,numAt_eq];exact getD_mem (by rw[WL,QK];lia)
 ·rw[f]at y;obtain⟨j,J,rfl⟩:=Q4.mp y;rw[WL,QK]at J
  have:=U j (by lia)
  rw[numAt_eq g j]at this
  grind
theorem MJ:∀{bs}{us:Ym},Vals (bs.map V.bl) us->LSm.BoolsAre us bs
 |[],_,.nil=>.nil
 |b::r,_,.cons h t=>by
  cases h
  exact .cons b (MJ t)
def Ro(B:X.calm=true)(E:autoParam (X.K=K) au_0):Kv X (.builtin "any") (λxs H Q=>∃(p:Addr) (bs:List Bool),xs=[.ref p]/\SqL K H p (bs.map V.bl)/\Q (.bl<|bs.any id) H):=by
 subst E;intro pins s G H xs J Q I w h;obtain⟨p,bs,rfl,C,q⟩:=h;obtain⟨u,rfl,x⟩:=w.one;obtain rfl:=x;obtain⟨f,r,y,_⟩:=I.list C;have n:=MJ r;have l:=y.isList;have g:p<s.heap.objs.size:=by obtain⟨_,e,_⟩:=l;exact WY e
 refine call_any_walk (wpAny_pyIter_list l ?_)
 refine⟨s.heap.objs.size,[s.heap.objs.size,p],[s.heap.objs.size],f.toArray.size,_,_,λi=>(bs[i]?).getD false,rfl,Walks.list (A:=X.A.in1) (I.ok.hd B) _ p (Qo g) f.toArray,
  ⟨⟨_,Qc _ rfl,rfl,rfl⟩,l.push _⟩,λi v M U Y N o=>?_,λT L z=>?_⟩
 ·obtain⟨b,e,rfl⟩:=n.get i v (by grind);simp only[e,Option.getD_some]at o;exact V6 o
 ·have e:((List.range f.toArray.size).any λi=>(bs[i]?).getD false)=bs.any id:=by
   rw[Qv,n.length];exact LSm.range_any bs
  rw[e];exact⟨.bl (bs.any id),H,I.kept (LSm.kept_iter z),rfl,q⟩
noncomputable def ET(K:Ye)(neg:Bool):R2:=λx y H Q=>∃(p q:Addr) (xs:List V),x=.ref p/\y=.ref q/\SqL K H p xs/\SqL K H q []/\Q (.bl (if neg then !xs.isEmpty else xs.isEmpty)) H
def IM(l:X.A.units<cLine)(E:autoParam (X.K=K) au_0):OpR X (compareOp .Eq) (ET K false):=by
 subst E;intro pins s J H x y v u Q I w o h;obtain⟨p,q,xs,rfl,rfl,C,hq,k⟩:=h;obtain rfl:=w;obtain rfl:=o;obtain⟨L,B,f,_⟩:=I.list C;obtain⟨n,z,p2,_⟩:=I.list hq;have N:=B.length;have M:0=n.length:=z.length;have g:=k;by_cases e:xs.length=0
 ·refine SeqAt.eq_listAt (e:=λ_=>true) f.isList p2.isList (by simp;lia) l (λj T G=>by simp at G;lia) ⟨.bl xs.isEmpty,H,I,?_,g⟩;show _=Value.bool xs.isEmpty
  grind
 ·refine SeqAt.eq_list_lengthsAt f.isList p2.isList (by simp;lia) l ⟨.bl xs.isEmpty,H,I,?_,g⟩;cases xs with
  |nil=>exact absurd rfl e
  |cons a r=>rfl
def Zsj(l:X.A.units<cLine)(E:autoParam (X.K=K) au_0):OpR X (compareOp .NotEq) (ET K true):=by
 subst E;intro pins s J H x y v u Q I w o h;obtain⟨p,q,xs,rfl,rfl,C,hq,k⟩:=h;obtain rfl:=w;obtain rfl:=o;obtain⟨L,B,f,_⟩:=I.list C;obtain⟨n,z,p2,_⟩:=I.list hq;have N:=B.length;have M:0=n.length:=z.length;have g:=k;by_cases e:xs.length=0
 ·refine SeqAt.RcNeAt.lists (e:=λ_=>true) f.isList p2.isList (by simp;lia) l (λj T G=>by simp at G;lia) _ _ _ _ ⟨.bl (!xs.isEmpty),H,I,?_,g⟩;show _=Value.bool (!xs.isEmpty)
  grind
 ·refine SeqAt.RcNeAt.lists_lengths f.isList p2.isList (by simp;lia) l _ _ _ _ ⟨.bl (!xs.isEmpty),H,I,?_,g⟩;cases xs with
  |nil=>exact absurd rfl e
  |cons a r=>rfl
end
end Own
namespace M
open PySem PySem.Spec PyProof.Rows L2 Own
def BX(f:Yf)(r:Yg):Prop:=∀(i:Nat) (x y:Int),r[i]?=some x->r[i+1]?=some y->(x,y)∈f
structure Ring (hs:Yg) (ws:Yf) (r:Yg):Prop where
 two:2<=r.length
 nodup:r.Nodup
 sub:∀x∈r,x∈hs
 chain:BX ws r
 last:∀x y,r[0]?=some x->r[r.length-1]?=some y->(y,x)∈ws
theorem Ex:∀{xs f:Yg},xs.Nodup->(∀x∈xs,x∈f)->xs.length<=f.length
 |[],_,_,_=>QY _
 |x::xs,f,l,h=>by
  obtain⟨o,n⟩:=QC.mp l;have p:=Ex n λz g=>(List.mem_erase_of_ne (λe:z=x=>o (e▸g))).mpr (h z<|Qk _ g)
  grind
def Zbk(G:∀q∈s,q.1≠q.2)(w:g≠[])(h:∀x∈g,∃y∈g,(y,x)∈s):∃r,Ring g s r:=by
 have grow:∀n r,r≠[]->r.Nodup->(∀x∈r,x∈g)->BX s r->g.length<r.length+n->∃r,Ring g s r:=by
  intro n
  induction n with
  |zero=>
   intro r B u sub A H
   have:=Ex u sub
   lia
  |succ n E=>
   intro r B u sub A H;cases r with
   |nil=>exact absurd rfl B
   |cons x t=>
    obtain⟨y,v,hw⟩:=h x (sub x (Q2 ..));by_cases C:y∈x::t
    ·obtain⟨i,M,e⟩:=Q4.mp C
     have L:i≠0:=λz=>by
      subst z;exact G _ hw e.symm
     have p:((x::t).take (i+1)).length=i+1:=by
      rw[Qp];lia
     refine⟨(x::t).take (i+1),by lia,u.sublist (Jq _ _),λz o=>sub z (Vk o),λk a b l f=>?_,λa b l f=>?_⟩
     ·have J:k+1<i+1:=by
       have:=(Qg.mp f).1
       lia
      rw[Vj (by lia)]at l;rw[Vj J]at f;exact A k a b l f
     ·rw[p,Vz,Vj (by lia),WJ M,e]at f;cases l
      cases f
      exact hw
    ·refine E (y::x::t) (by simp) (QC.mpr ⟨C,u⟩) (λz o=>?_) (λk a b l f=>?_) (by rw[Qe];lia)
     ·rcases Qa.mp o with rfl|o
      ·exact v
      ·exact sub z o
     ·cases k with
      |zero=>
       cases l
       cases f
       exact hw
      |succ k=>exact A k a b l f
 obtain⟨x,hx⟩:=List.exists_mem_of_ne_nil g w;exact grow (g.length+1) [x] (by simp) (by simp) (λy v=>by rw[WQ.mp v];exact hx) (λi a b l f=>by simp at f) (by show g.length<1+(g.length+1);lia)
end M
namespace M
def sl:Yg->Yg->Prop
 |x::xs,y::f=>x<y\/(x=y/\sl xs f)
 |_,_=>False
def sl_cons:sl (l::a) (l::b)↔sl a b:=by
 show(l<l\/(l=l/\sl a b))↔sl a b;constructor
 ·simp
 ·simp
theorem EK:∀{a b} x y,sl a b->sl (a++[x]) (b++[y])
 |[],[],_,_,h|[],_::_,_,_,h|_::_,[],_,_,h=>by unfold sl at h;exact h.elim
 |p::a,q::b,x,y,h=>by
  rw[Vt,Vt];unfold sl at h ⊢;rcases h with h|⟨g,f⟩
  ·lia
  ·exact .inr ⟨g,EK x y f⟩
theorem LM:∀{a}{x y:Int},x<y->sl (a++[x]) (a++[y])
 |[],x,y,h=>.inl h
 |p::a,x,y,h=>by
  exact .inr ⟨rfl,LM h⟩
theorem E5:∀{a b c:Yg},sl a b->sl b c->sl a c
 |[],b,c,h,_|_::_,[],_,h,_|_::_,_::_,[],_,h=>by unfold sl at h;exact h.elim
 |x::a,y::b,z::c,g,f=>by
  unfold sl at g f ⊢;rcases g with g|⟨g,n⟩
  ·lia
  ·rcases f with f|⟨f,l⟩
   ·lia
   ·exact .inr ⟨by lia,E5 n l⟩
noncomputable def X8(g:Int):Yg->Int
 |[]=>g
 |x::t=>X8 x t
theorem Pr(g:Int):∀a b,X8 g (a++b)=X8 (X8 g a) b
 |[],b=>rfl
 |x::a,b=>Pr x a b
theorem FM(g:Int):∀t,(g::t)[t.length]?=some (X8 g t)
 |[]=>rfl
 |x::t=>by
  exact FM x t
def Path(C:Int->Prop)(f:Yf):Int->Yg->Prop
 |_,[]=>True
 |g,x::t=>C x/\(g,x)∈f/\Path C f x t
section
variable {C:Int->Prop}{ws:Yf}
theorem path_app:∀{g}{a b:Yg},Path C ws g (a++b)↔Path C ws g a/\Path C ws (X8 g a) b
 |g,[],b=>⟨λh=>⟨trivial,h⟩,λh=>h.2⟩
 |g,x::a,b=>by
  constructor
  ·rintro⟨n,l,f⟩
   have:=path_app.mp f
   exact⟨⟨n,l,this.1⟩,this.2⟩
  ·rintro⟨⟨n,l,f⟩,o⟩;exact⟨n,l,path_app.mpr ⟨f,o⟩⟩
theorem EL:∀{g}{t:Yg},Path C ws g t->∀x∈t,C x
 |g,[],_,x,h=>by cases h
 |g,y::t,⟨l,_,f⟩,x,h=>by
  rcases Qa.mp h with rfl|h
  ·lia
  ·exact EL f x h
theorem MO:∀{g}{t:Yg},Path C ws g t->BX ws (g::t)
 |g,[],_=>λi x y o f=>by simp at f
 |g,z::t,⟨o,f,n⟩=>λi x y l h=>by
  cases i with
  |zero=>grind
  |succ i=>exact MO n i x y l h
theorem ID:∀{g}{t:Yg},BX ws (g::t)->(∀x∈t,C x)->Path C ws g t
 |g,[],_,_=>trivial
 |g,z::t,h,f=>⟨f z Q2,h 0 g z rfl rfl,ID (λi x y n l=>h (i+1) x y n l) λx hx=>f x (Qk _ hx)⟩
end
def Gr(f:Yg)(l:Int):Int->Prop:=λx=>x∈f/\l<x
def Pt(g:Yg)(f:Yf)(l:Int)(t:Yg):Prop:=Path (Gr g l) f l t/\(X8 l t,l)∈f
def RF(g:Yg)(f:Yf)(l:Int)(r:Yg):Prop:=
 (r=[]/\∀t,¬Pt g f l t)\/∃t,r=l::t/\Pt g f l t/\∀u,Pt g f l u->t.length<u.length\/(t.length=u.length/\(t=u\/sl t u))
structure Lev (hs:Yg) (ws:Yf) (l:Int) (k:Nat) (ps:List (Yg)) (ls:Yg):Prop where
 way:∀p∈ps,p.length=k/\Path (Gr hs l) ws l p
 srt:ps.Pairwise sl
 lin:∀h∈ls,Gr hs l h
 lsrt:ls.Pairwise (· < ·)
 cover:∀t,t.length<=k->Path (Gr hs l) ws l t->X8 l t∉ls
 first:∀t,t.length=k->Path (Gr hs l) ws l t->(∃p∈ps,X8 l p=X8 l t/\(p=t\/sl p t))\/∃u,u.length<k/\Path (Gr hs l) ws l u/\X8 l u=X8 l t
 none:∀t,t.length<k->¬Pt hs ws l t
 comp:∀h,Gr hs l h->h∉ls->∃t,t.length<=k/\Path (Gr hs l) ws l t/\X8 l t=h
section
variable {hs:Yg}{ws:Yf}{l:Int}{k:Nat}{ps:List (Yg)}{ls:Yg}
def Lev.start (s:ls.Pairwise (· < ·)) (g:∀h,h∈ls↔Gr hs l h):Lev hs ws l 0 [[]] ls:=by
 have nil:∀t:Yg,t.length=0->t=[]:=λt h=>Jo.mp h;refine⟨λp o=>?_,by simp,λh n=>(g h).mp n,s,λt f _ h=>?_,λt f _=>.inl ⟨[],by simp,by rw[nil t f],.inl (nil t f).symm⟩,λt f=>by lia,λh n r=>absurd ((g h).mpr n) r⟩
 ·rw[WQ.mp o];trivial
 ·rw[nil t (by lia)]at h
  have:=((g _).mp h).2
  exact absurd this (by show ¬l<l;lia)
def Lev.found (L:Lev hs ws l k ps ls) {p i} (r:i<ps.length) (s:ps[i]=p) (H:(X8 l p,l)∈ws) (G:∀j n,j<i->(X8 l ps[j],l)∉ws):RF hs ws l (l::p):=by
 have C:p∈ps:=by rw[←s];exact Qi r
 obtain⟨Q,x⟩:=L.way p C;refine .inr ⟨p,rfl,⟨x,H⟩,λu g=>?_⟩;by_cases M:u.length<k
 ·exact absurd g (L.none u M)
 ·by_cases J:u.length=k
  ·rcases L.first u J g.1 with⟨q,hq,N,h⟩|⟨v,B,A,y⟩
   ·refine .inr ⟨by lia,?_⟩;obtain⟨j,n,w⟩:=Q4.mp hq;have o:(X8 l ps[j],l)∈ws:=by rw[w,N];exact g.2
    have E:=Nat.le_of_not_lt λz=>G j n z o
    have f:p=q\/sl p q:=by
     by_cases e:i=j
     ·grind
     ·have:=QR.mp L.srt i j r n (by lia)
      rw[s,w]at this;exact .inr this
    rcases f with rfl|f
    ·exact h
    ·rcases h with rfl|h
     ·exact .inr f
     ·exact .inr (E5 f h)
   ·exact absurd ⟨A,by rw[y];exact g.2⟩ (L.none v B)
  ·exact .inl (by lia)
def Lev.none_here (L:Lev hs ws l k ps ls) (h:∀p∈ps,(X8 l p,l)∉ws):∀t,t.length<k+1->¬Pt hs ws l t:=λt u f=>by
 by_cases r:t.length<k
 ·exact L.none t r f
 ·rcases L.first t (by lia) f.1 with⟨q,hq,s,w⟩|⟨v,o,n,g⟩
  ·exact h q hq (by rw[s];exact f.2)
  ·exact L.none v o ⟨n,by rw[g];exact f.2⟩
def Lev.over (L:Lev hs ws l k [] ls):RF hs ws l []:=by
 refine .inl ⟨rfl,?_⟩
 have early:∀n t,t.length=n->Path (Gr hs l) ws l t->∃u,u.length<k/\Path (Gr hs l) ws l u/\X8 l u=X8 l t:=by
  intro n
  induction n with
  |zero=>
   intro t f g;by_cases N:0<k
   ·exact⟨t,by lia,g,rfl⟩
   ·rcases L.first t (by lia) g with⟨q,hq,_⟩|⟨v,r,_⟩
    ·cases hq
    ·lia
  |succ n J=>
   intro t f g;have A:t≠[]:=λz=>by rw[z]at f;cases f
   have p:=(Vw A).symm;generalize t.getLast A=x at p;generalize t.dropLast=s at p;subst p;obtain⟨H,p2⟩:=path_app.mp g;obtain⟨u,w,o,h⟩:=J s (by simpa using f) H;have y:=path_app.mpr ⟨o,by rw[h];exact p2⟩;have B:X8 l (u++[x])=X8 l (s++[x]):=by rw[Pr,Pr];rfl
   by_cases M:(u++[x]).length<k
   ·exact⟨_,M,y,B⟩
   ·rcases L.first (u++[x]) (by grind) y with⟨q,hq,_⟩|⟨v,r,G,E⟩
    ·cases hq
    ·exact⟨v,r,G,E.trans B⟩
 intro t C;obtain⟨u,w,o,h⟩:=early t.length t rfl C.1;exact L.none u w ⟨o,by rw[h];exact C.2⟩
structure LG (ws:Yf) (l:Int) (P:Yg->Int->Prop) (lg:List (Yg)):Prop where
 mem:∀q∈lg,∃p h,P p h/\q=p++[h]/\(X8 l p,h)∈ws
 srt:lg.Pairwise sl
 has:∀p h,P p h->(X8 l p,h)∈ws->∃p',p'++[h]∈lg/\(p'=p\/sl p' p)
def Lev.next (L:Lev hs ws l k ps ls) (hn:∀p∈ps,(X8 l p,l)∉ws) (G:LG ws l (λp h=>p∈ps/\h∈ls) H)
  (e:A=ls.filter λh=>decide (¬h∈H.map (X8 l))):Lev hs ws l (k+1) H A:=by
 have f:∀h,h∈A↔h∈ls/\¬h∈H.map (X8 l):=λh=>by rw[e,Qz,V8]
 have g:∀q∈H,q.length=k+1/\Path (Gr hs l) ws l q:=λq hq=>by
  obtain⟨p,h,⟨n,h2⟩,rfl,h3⟩:=G.mem q hq;obtain⟨w1,Q⟩:=L.way p n;exact⟨by simp[w1],path_app.mpr ⟨Q,L.lin h h2,h3,trivial⟩⟩
 have reach:∀s x,s.length=k->Path (Gr hs l) ws l s->Gr hs l x->(X8 l s,x)∈ws->x∈ls->∃p∈ps,X8 l p=X8 l s/\(p=s\/sl p s):=λs x n h2 h3 h4 h5=>by
  rcases L.first s n h2 with z|⟨v,v1,v2,v3⟩
  ·exact z
  ·have:=L.cover (v++[x]) (by simp;lia) (path_app.mpr ⟨v2,h3,by rw[v3];exact h4,trivial⟩)
   rw[Pr]at this;exact absurd h5 this
 refine⟨g,G.srt,λh hh=>L.lin h ((f h).mp hh).1,?_,λt B M hl=>?_,λt B M=>?_,L.none_here hn,λh hg hnl=>?_⟩
 ·rw[e];exact L.lsrt.filter _
 ·obtain⟨E,m2⟩:=(f _).mp hl;by_cases n:t.length<=k
  ·exact L.cover t n M E
  ·have y:t≠[]:=λz=>by rw[z]at n;simp at n
   have r:=(Vw y).symm;generalize t.getLast y=x at r;generalize t.dropLast=s at r;subst r;obtain⟨Y,p2,w,_⟩:=path_app.mp M;rw[Pr]at E m2;obtain⟨p,o,C,_⟩:=reach s x (by simp at B n;lia) Y p2 w E;obtain⟨p',k1,_⟩:=G.has p x ⟨o,E⟩ (by rw[C];exact w);exact m2 (Qq.mpr ⟨_,k1,by rw[Pr];rfl⟩)
 ·have y:t≠[]:=λz=>by rw[z]at B;simp at B
  have r:=(Vw y).symm;generalize t.getLast y=x at r;generalize t.dropLast=s at r;subst r;obtain⟨Y,p2,w,_⟩:=path_app.mp M;have hs':s.length=k:=by simpa using B
  by_cases hx:x∈ls
  ·obtain⟨p,o,C,N⟩:=reach s x hs' Y p2 w hx;obtain⟨p',k1,J⟩:=G.has p x ⟨o,hx⟩ (by rw[C];exact w);refine .inl ⟨_,k1,by rw[Pr,Pr];rfl,?_⟩
   have:p'=s\/sl p' s:=by
    rcases J with rfl|J
    ·exact N
    ·rcases N with rfl|N
     ·exact .inr J
     ·exact .inr (E5 J N)
   rcases this with rfl|h
   ·exact .inl rfl
   ·exact .inr (EK x x h)
  ·obtain⟨u,u1,U,T⟩:=L.comp x p2 hx;exact .inr ⟨u,by lia,U,by rw[T,Pr];rfl⟩
 ·by_cases hx:h∈ls
  ·have:=Q1 λz=>hnl ((f h).mpr ⟨hx,z⟩)
   obtain⟨q,hq,C⟩:=Qq.mp this;obtain⟨w1,Q⟩:=g q hq;exact⟨q,by lia,Q,C⟩
  ·obtain⟨u,u1,U,T⟩:=L.comp h hg hx;exact⟨u,by lia,U,T⟩
end
def FR(f:Yg)(g:Yf)(r:Yg):Prop:=
 (r=[]/\∀l∈f,∀t,¬Pt f g l t)\/∃l t,r=l::t/\l∈f/\Pt f g l t/\∀m∈f,∀u,Pt f g m u->t.length<u.length\/(t.length=u.length/\(l<m\/(l=m/\(t=u\/sl t u))))
theorem IF:∀(r:Yg),r≠[]->∃i,∃h:i<r.length,∀x∈r,r[i]<=x
 |[],h=>absurd rfl h
 |[a],_=>⟨0,by simp,λx hx=>by rw[WQ.mp hx];exact QP _⟩
 |a::b::r,_=>by
  obtain⟨i,f,h⟩:=IF (b::r) (by simp);by_cases c:a<=(b::r)[i]
  ·refine⟨0,by simp,λx hx=>?_⟩;rcases Qa.mp hx with rfl|hx
   ·exact QP _
   ·grind
  ·refine⟨i+1,by simpa using f,λx hx=>?_⟩;have e:(a::b::r)[i+1]'(by grind)=(b::r)[i]:=rfl;rcases Qa.mp hx with rfl|hx
   ·lia
   ·exact h x hx
def Hi(r:Yg){i j}(f:i<=r.length):(r.drop i++r.take i)[j]?=if i+j<r.length then r[i+j]? else if j<r.length then r[i+j-r.length]? else none:=by grind
def Zpr(R:Ring A v r):∃l∈A,∃t,Pt A v l t/\t.length+1=r.length:=by
 have two:=R.two;obtain⟨i,s,o⟩:=IF r (λz=>by rw[z]at two;simp at two);have erot:r.drop i++r.take i=r[i]::(r.drop (i+1)++r.take i):=by rw[QS s];rfl
 have p:(r.drop (i+1)++r.take i).length+1=r.length:=by rw[WW,List.length_drop,Qp];lia
 have H:BX v (r[i]::(r.drop (i+1)++r.take i)):=by
  rw[←erot];intro j x y h f;rw[Hi r (by lia)]at h f;by_cases E:i+(j+1)<r.length
  ·rw[WT E]at f;rw[WT (by lia)]at h;exact R.chain (i+j) x y h f
  ·rw[WS E]at f;by_cases C:j+1<r.length
   ·rw[WT C]at f;by_cases B:i+j<r.length
    ·rw[WT B]at h;have g:i+j=r.length-1:=by lia
     have u:i+(j+1)-r.length=0:=by lia
     rw[g]at h;rw[u]at f;exact R.last y x f h
    ·rw[WS B,WT (by lia)]at h;have e:i+(j+1)-r.length=(i+j-r.length)+1:=by lia
     rw[e]at f;exact R.chain _ x y h f
   ·rw[WS C]at f;cases f
 refine⟨r[i],R.sub _ (Qi s),r.drop (i+1)++r.take i,⟨ID H λx hx=>?_,?_⟩,p⟩
 ·have n:=(Qh.mp hx).elim JF Vk;refine⟨R.sub x n,Int.lt_iff_le_and_ne.mpr ⟨o x n,λz=>?_⟩⟩
  have w:(r.drop i++r.take i).Nodup:=by
   have:(r.take i++r.drop i).Perm (r.drop i++r.take i):=List.perm_append_comm
   rw[←this.nodup_iff,J4];exact R.nodup
  rw[erot]at w;exact(QC.mp w).1 (by rw[z];exact hx)
 ·have g:=FM r[i] (r.drop (i+1)++r.take i);rw[←erot,Hi r (by lia)]at g;have u:(r.drop (i+1)++r.take i).length=r.length-1:=by lia
  rw[u]at g;by_cases c:i=0
  ·subst c;rw[WT (by lia)]at g;exact R.last _ _ (WJ s) (by simpa using g)
  ·rw[WS (by lia),WT (by lia)]at g;have G:i+(r.length-1)-r.length=i-1:=by lia
   rw[G]at g;exact R.chain (i-1) _ _ g (by rw[show i-1+1=i by lia];exact WJ s)
theorem Ov:∀{t:Yg},¬t.Nodup->∃a x b c,t=a++x::(b++x::c)
 |[],h=>absurd VR h
 |y::t,h=>by
  by_cases f:y∈t
  ·obtain⟨b,c,e⟩:=List.append_of_mem f;exact⟨[],y,b,c,by rw[e];rfl⟩
  ·obtain⟨a,x,b,c,e⟩:=Ov λz=>h (QC.mpr ⟨f,z⟩)
   grind
def MS{h l t}(w:∀q∈h,q.1≠q.2)(A:l∈n)(f:Pt n h l t)(r:∀u,Pt n h l u->t.length<=u.length):Ring n h (l::t):=by
 have p:t≠[]:=λz=>by
  have g:=f.2;rw[z]at g;exact w _ g rfl
 have s:=EL f.1;refine⟨by have:=VI.mpr p;simp;lia,QC.mpr ⟨λz=>absurd (s l z).2 (by lia),?_⟩,λx hx=>?_,MO f.1,λx y o g=>?_⟩
 ·refine Q1 λz=>?_;obtain⟨a,x,b,c,e⟩:=Ov z;have o:=f.1;rw[e]at o;obtain⟨v,p2⟩:=path_app.mp o
  have C:Pt n h l (a++x::c):=by
   refine⟨path_app.mpr ⟨v,p2.1,p2.2.1,((path_app (a:=x::b)).mp p2).2.2.2⟩,?_⟩
   have B:X8 l (a++x::c)=X8 l t:=by
    rw[e,Pr,Pr];show X8 x c=X8 x (b++x::c);rw[Pr];rfl
   rw[B];exact f.2
  grind
 ·rcases Qa.mp hx with rfl|hx
  ·exact A
  ·exact(s x hx).1
 ·cases o
  simp only[Qe,Vz]at g;rw[(FM l t)]at g;cases g
  exact f.2
def FR.none_iff {f r} (p:∀q∈f,q.1≠q.2) (F:FR s f r):r=[]↔¬ ∃r,Ring s f r:=by
 constructor
 ·rintro rfl ⟨r,R⟩;obtain⟨l,g,t,n,_⟩:=Zpr R;rcases F with⟨_,F⟩|⟨_,_,e,_⟩
  ·grind
  ·grind
 ·intro h;rcases F with⟨e,_⟩|⟨l,t,rfl,g,n,v⟩
  ·exact e
  ·refine absurd ⟨_,MS p g n λu o=>?_⟩ h
   grind
def FR.ring {f r} (o:∀q∈f,q.1≠q.2) (F:FR p f r) (h:r≠[]):Ring p f r/\∃l t,r=l::t/\∀x∈t,l<x:=by
 rcases F with⟨e,_⟩|⟨l,t,rfl,s,g,v⟩
 ·grind
 ·refine⟨MS o s g λu n=>?_,l,t,rfl,λx hx=>(EL g.1 x hx).2⟩
  grind
def T4(f:Yf):Prop:=f.length<=20/\f.Nodup/\∀q∈f,(1<=q.1/\q.1<=10/\1<=q.2/\q.2<=10)/\q.1≠q.2
open Own
noncomputable def exM(ps:Yf)(ns:Yg)(p:Nat):Int:=(ps.getD (ns.getD (p-1) 0-1).toNat (0,0)).2*(ps.getD (ns.getD p 0-1).toNat (0,0)).2
noncomputable def Pj(ns:Yg)(p:Nat):Yg:=ns.take (p-1)++[ns.getD p 0,ns.getD (p-1) 0]++ns.drop (p+1)
def D1{p}(o:1<=p)(h:p<ns.length):(Pj ns p).Perm ns:=by
 unfold Pj;have n:ns.getD p 0=ns[p]:=by grind
 have l:ns.getD (p-1) 0=ns[p-1]'(by lia):=by grind
 rw[n,l]
 have e:ns=ns.take (p-1)++[ns[p-1]'(by lia),ns[p]]++ns.drop (p+1):=by
  have f:ns.drop (p-1)=ns[p-1]'(by lia)::ns.drop (p-1+1):=QS (by lia);have g:p-1+1=p:=by lia
  rw[g,(QS h)]at f
  calc ns=ns.take (p-1)++ns.drop (p-1):=(J4 _ _).symm
   _=_:=by rw[f];simp
 refine List.Perm.trans ?_ (List.Perm.of_eq e.symm);exact List.Perm.append_right _ (List.Perm.append_left _<|List.Perm.swap _ _ _)
def runI_mem:x∈Kw 1 n↔1<=x/\x<=n:=by
 unfold Kw;rw[Qq];constructor
 ·grind
 ·intro h;exact⟨(x-1).toNat,JO.mpr (by lia),by lia⟩
def B4(n:Nat):(Kw 1 n).length=n:=by unfold Kw;rw[WL,JY]
end M
namespace Pu
open PySem PySem.Spec PyProof.Rows L2 Own
inductive D where
 |int (i:Int)|bl (b:Bool)|non|str (x:Str)|ty (n:String)|tup (ds:List D)|lst (ds:List D)|scr (ns:Yg)|dK (kvs:List (Key×V))|dT (kvs:List (List Key×V))|loc (a:Addr) (d:D)|err (C:Addr)|ref (a:Addr)|ins (C:Addr) (xs:Yn) (ds:List D)|dF (kvs:List (List Key×V))|erM (C:Addr) (r:Yg)|fL (ns:Yg)
mutual
inductive Rp (K:Ye) (H:Hp):D->V->Prop
 |int (i:Int):Rp K H (.int i) (.int i)
 |bl (b:Bool):Rp K H (.bl b) (.bl b)
 |non:Rp K H .non .non
 |str (x:Str):Rp K H (.str x) (.str x)
 |ty (n:String):Rp K H (.ty n) (.ty n)
 |tup {ds:List D} {vs:List V} {a:Addr}:H a=some (.tup vs)->Rps K H ds vs->Rp K H (.tup ds) (.ref a)
 |lst {ds:List D} {vs:List V} {a:Addr}:H a=some (.lst vs)->Rps K H ds vs->Rp K H (.lst ds) (.ref a)
 |scr {ns:Yg} {a:Addr}:SqL K H a (ns.map V.int)->Rp K H (.scr ns) (.ref a)
 |dK {kvs:List (Key×V)} {a:Addr}:H a=some (.dK kvs)->Rp K H (.dK kvs) (.ref a)
 |dT {kvs:List (List Key×V)} {a:Addr}:H a=some (.dT kvs)->Rp K H (.dT kvs) (.ref a)
 |dF {kvs:List (List Key×V)} {o:Obj} {a:Addr}:H a=some (.frz o<|.dT kvs)->Rp K H (.dF kvs) (.ref a)
 |loc {d:D} {a:Addr}:Rp K H d (.ref a)->Rp K H (.loc a d) (.ref a)
 |err {C a:Addr}:H a=some (ExcR.Ac a C)->Rp K H (.err C) (.ref a)
 |ref (a:Addr):Rp K H (.ref a) (.ref a)
 |erM {C a dx l:Addr} {o:Obj} {r:Yg}:H a=some (ExcR.Px a C<|some dx)->H dx=some (.xd [("members",.ref l)])->H l=some (.frz o<|.lst<|r.map V.int)->Rp K H (.erM C r) (.ref a)
 |fL {a:Addr} {o:Obj} {ns:Yg}:H a=some (.frz o<|.lst<|ns.map V.int)->Rp K H (.fL ns) (.ref a)
 |ins {C a dx:Addr} {xs:Yn} {ds:List D} {vs:List V}:H a=some (.ins C dx<|xs.zip vs)->xs.length=vs.length->Rps K H ds vs->Rp K H (.ins C xs ds) (.ref a)
inductive Rps (K:Ye) (H:Hp):List D->List V->Prop
 |nil:Rps K H [] []
 |cons {d:D} {v:V} {ds:List D} {vs:List V}:Rp K H d v->Rps K H ds vs->Rps K H (d::ds) (v::vs)
end
section
variable {K:Ye}{H H':Hp}
def Rp.mono (S:Same H H') {d:D}{v:V}:Rp K H d v->Rp K H' d v:=
 Rp.rec (motive_1:=λd v _=>Rp K H' d v) (motive_2:=λg f _=>Rps K H' g f) .int .bl .non .str .ty (λh _ r=>.tup (S _ _ h) r) (λh _ r=>.lst (S _ _ h) r) (λh=>.scr (S.seq h)) (λh=>.dK (S _ _ h)) (λh=>.dT (S _ _ h)) (λh=>.dF (S _ _ h)) (λ_ h=>.loc h) (λh=>.err (S _ _ h)) .ref (λa b c=>.erM (S _ _ a) (S _ _ b) (S _ _ c)) (λh=>.fL (S _ _ h)) (λh e _ r=>.ins (S _ _ h) e r) .nil λ_ _=>.cons
def Rps.mono (S:Same H H') {ds:List D}:∀{vs:List V},Rps K H ds vs->Rps K H' ds vs:=by
 induction ds with
 |nil=>intro _ h;cases h;exact .nil
 |cons _ _ f=>intro _ h;cases h with|cons a b=>exact .cons (Rp.mono S a) (f b)
def Rps.len:∀{ds}{vs:List V},Rps K H ds vs->vs.length=ds.length:=by
 intro ds
 induction ds with
 |nil=>
  intro _ h;cases h
  rfl
 |cons _ _ f=>
  intro _ h;cases h with
  |cons h r=>
   exact QA (· + 1) (f r)
def Rps.get:∀{ds vs}{i:Nat}{d:D},Rps K H ds vs->ds[i]?=some d->∃v,vs[i]?=some v/\Rp K H d v:=by
 intro ds
 induction ds with
 |nil=>
  intro _ i _ h e;simp at e
 |cons _ _ f=>
  intro _ i d h e;cases h with
  |cons h r=>
   cases i with
   |zero=>
    simp at e;subst e;exact⟨_,rfl,h⟩
   |succ i=>
    obtain⟨v,l,g⟩:=f r (by simpa using e);exact⟨v,by simpa using l,g⟩
def Rps.append:∀{ds es}{vs us:List V},Rps K H ds vs->Rps K H es us->Rps K H (ds++es) (vs++us):=by
 intro ds
 induction ds with
 |nil=>
  intro _ _ _ h s;cases h
  exact s
 |cons _ _ f=>
  intro _ _ _ h s;cases h with
  |cons h r=>
   exact .cons h (f r s)
def Rps.at (r:Rps K H ds vs) (e:atI ds i=some d):∃v,atI vs i=some v/\Rp K H d v:=by
 unfold atI at e ⊢;rw[r.len];cases q:ixN ds.length i with
 |none=>grind
 |some j=>
  rw[q]at e;exact r.get e
theorem Rps.drop:∀{ds vs} n,Rps K H ds vs->Rps K H (ds.drop n) (vs.drop n)
 |_,_,0,r=>r
 |_,_,_+1,.nil=>.nil
 |_,_,n+1,.cons _ r=>Rps.drop n r
theorem Rps.take:∀{ds vs} n,Rps K H ds vs->Rps K H (ds.take n) (vs.take n)
 |_,_,0,_|_,_,_+1,.nil=>.nil
 |_,_,n+1,.cons h r=>.cons h (Rps.take n r)
end
mutual
noncomputable def imm:D->Bool
 | .tup f=>KJ f
 | .lst _=>false
 | .scr _=>false
 | .dK _=>false
 | .dT _=>false
 | .loc _ _=>false
 | .err _=>false
 | .erM _ _=>false
 | .ins _ _ _=>false
 |_=>true
noncomputable def KJ:List D->Bool
 |[]=>true
 |d::r=>imm d&&KJ r
end
open Classical in
noncomputable def off(Z:Addr->Prop)(H:Hp):Hp:=λb=>if Z b then none else H b
section
variable {K:Ye}{H H':Hp}{Z Z':Addr->Prop}
def Ts(h:off Z H b=some o):H b=some o/\¬Z b:=by
 unfold off at h;by_cases z:Z b
 ·grind
 ·grind
def XY(h:H b=some o)(z:¬Z b):off Z H b=some o:=by
 unfold off
 grind
def XA(S:Same H H')(g:∀b o,H b=some o->¬Z b->¬Z' b):Same (off Z H) (off Z' H'):=λb o h=>by
 obtain⟨f,l⟩:=Ts h;exact XY (S b o f) (g b o f l)
def off_sub:Same (off Z H) H:=λ_ _ h=>(Ts h).1
def Rp.off (s:∀b,Z b->Mut (H b)) {d:D}{v:V}:Rp K H d v->imm d=true->Rp K (off Z H) d v:=by
 have g:∀{a o},H a=some o->¬Mut (some o)->Pu.off Z H a=some o:=λh n=>XY h λz=>n (h▸s _ z);have f:∀{d} {P:Prop},imm d=false->imm d=true->P:=λh e=>by rw[h]at e;cases e
 exact Rp.rec (motive_1:=λd v _=>imm d=true->Rp K (Pu.off Z H) d v) (motive_2:=λl p _=>KJ l=true->Rps K (Pu.off Z H) l p) (λi _=>.int i) (λb _=>.bl b) (λ_=>.non) (λx _=>.str x) (λn _=>.ty n) (λh _ r e=>.tup (g h id) (r<|by unfold imm at e;exact e)) (λ_ _ _=>f (by unfold imm;rfl)) (λ_=>f (by unfold imm;rfl)) (λ_=>f (by unfold imm;rfl)) (λ_=>f (by unfold imm;rfl)) (λh _=>.dF (g h id)) (λ_ _=>f (by unfold imm;rfl)) (λ_=>f (by unfold imm;rfl)) (λa _=>.ref a) (λ_ _ _=>f (by unfold imm;rfl)) (λh _=>.fL (g h id)) (λ_ _ _ _=>f (by unfold imm;rfl)) (λ_=>.nil) (λ_ _ a b e=>by
  unfold KJ at e;rw[Q9]at e;exact .cons (a e.1) (b e.2))
def Rps.off (g:∀b,Z b->Mut (H b)) {ds:List D}:∀{vs:List V},Rps K H ds vs->KJ ds=true->Rps K (off Z H) ds vs:=by
 induction ds with
 |nil=>intro _ h _;cases h;exact .nil
 |cons _ _ f=>
  intro _ h e;unfold KJ at e;rw[Q9]at e;cases h with|cons a b=>exact .cons (Rp.off g a e.1) (f b e.2)
end
inductive O where
 |lst (ds:List D)|dK (kvs:List (Key×V))|dT (kvs:List (List Key×V))|ins (a C:Addr) (xs:Yn) (cs:List (Addr×List D))|lsA (a:Addr) (ds:List D)|nst (cs:List (Addr×List D))|nsl (a:Addr) (cs:List (Addr×List D))
instance:Coe (List D) O:=⟨O.lst⟩
noncomputable def O.d:O->D
 | .lst h=>.lst h | .dK f=>.dK f | .dT f=>.dT f | .ins _ C xs g=>.ins C xs (g.map λc=>.lst c.2) | .lsA _ h=>.lst h | .nst g=>.tup (g.map λc=>.lst c.2) | .nsl _ g=>.lst (g.map λc=>.lst c.2)
def O.adr (a:Addr):O->Addr->Prop
 | .lst _=>λb=>b=a
 | .dK _=>λb=>b=a
 | .dT _=>λb=>b=a
 | .ins x _ _ f=>λb=>b=x\/∃c∈f,b=c.1
 | .lsA x _=>λb=>b=x
 | .nst f=>λb=>∃c∈f,b=c.1
 | .nsl x f=>λb=>b=x\/∃c∈f,b=c.1
def OR(K:Ye)(F H:Hp)(a:Addr):O->Prop
 | .lst l=>∃f,H a=some (.lst f)/\Rps K F l f
 | .dK h=>H a=some (.dK h)
 | .dT h=>H a=some (.dT h)
 | .lsA x l=>a=x/\∃f,H a=some (.lst f)/\Rps K F l f
 | .ins x C xs g=>a=x/\xs.length=g.length/\(∃n,H a=some (.ins C n<|xs.zip (g.map λc=>V.ref c.1)))/\(∀c∈g,∃f,H c.1=some (.lst f)/\Rps K F c.2 f)/\(g.map (·.1)).Nodup
 | .nsl x g=>a=x/\H a=some (.lst (g.map λc=>V.ref c.1))/\(∀c∈g,∃f,H c.1=some (.lst f)/\Rps K F c.2 f)/\(x::g.map (·.1)).Nodup
 | .nst g=>F a=some (.tup (g.map λc=>V.ref c.1))/\(∀c∈g,∃f,H c.1=some (.lst f)/\Rps K F c.2 f)/\(g.map (·.1)).Nodup
def OR.mono {K F z H H'}{a o} (s:Same F z) (r:∀b,o.adr a b->∀x,H b=some x->H' b=some x) (h:OR K F H a o):OR K z H' a o:=by
 cases o with
 |lst B=>obtain⟨f,n,g⟩:=h;exact⟨f,r _ rfl _ n,Rps.mono s g⟩
 |lsA x B=>obtain⟨rfl,f,n,g⟩:=h;exact⟨rfl,f,r _ rfl _ n,Rps.mono s g⟩
 |nsl x y=>
  obtain⟨e,n,g,w⟩:=h;exact⟨e,r _ (.inl e) _ n,λc p=>let ⟨f,v,u⟩:=g c p;⟨f,r _ (.inr ⟨c,p,rfl⟩) _ v,Rps.mono s u⟩,w⟩
 |nst y=>
  obtain⟨n,g,w⟩:=h;exact⟨s _ _ n,λc p=>let ⟨f,v,u⟩:=g c p;⟨f,r _ ⟨c,p,rfl⟩ _ v,Rps.mono s u⟩,w⟩
 |ins x C xs y=>
  obtain⟨e,l,⟨A,n⟩,g,w⟩:=h;exact⟨e,l,⟨A,r _ (.inl e) _ n⟩,λc p=>let ⟨f,v,u⟩:=g c p;⟨f,r _ (.inr ⟨c,p,rfl⟩) _ v,Rps.mono s u⟩,w⟩
 |_=>exact r _ rfl _ h
theorem N2{K F}:∀{f:List (Addr×List D)},(∀c∈f,∃vs,F c.1=some (.lst vs)/\Rps K F c.2 vs)->Rps K F (f.map λc=>.lst c.2) (f.map λc=>V.ref c.1)
 |[],_=>.nil
 |c::f,h=>let ⟨_,l,g⟩:=h c Q2;.cons (.lst l g) (N2 λo n=>h o (Qk _ n))
def OR.rpIn {K F y H a o} (s:Same F y) (n:∀b,o.adr a b->∀x,H b=some x->y b=some x) (h:OR K F H a o):Rp K y o.d (.ref a):=by
 cases o with
 |lst B=>obtain⟨r,g,f⟩:=h;exact .lst (n _ rfl _ g) (Rps.mono s f)
 |dK w=>exact .dK (n _ rfl _ h)
 |dT w=>exact .dT (n _ rfl _ h)
 |lsA x B=>obtain⟨rfl,r,g,f⟩:=h;exact .lst (n _ rfl _ g) (Rps.mono s f)
 |nsl x A=>
  obtain⟨e,g,f,z⟩:=h;exact .lst (n _ (.inl e) _ g) (N2 λc p=>let ⟨r,v,u⟩:=f c p;⟨r,n _ (.inr ⟨c,p,rfl⟩) _ v,Rps.mono s u⟩)
 |nst A=>
  obtain⟨g,f,z⟩:=h;exact .tup (s _ _ g) (N2 λc p=>let ⟨r,v,u⟩:=f c p;⟨r,n _ ⟨c,p,rfl⟩ _ v,Rps.mono s u⟩)
 |ins x C xs A=>
  obtain⟨e,l,⟨E,g⟩,f,z⟩:=h;exact .ins (n _ (.inl e) _ g) (by grind) (N2 λc p=>let ⟨r,v,u⟩:=f c p;⟨r,n _ (.inr ⟨c,p,rfl⟩) _ v,Rps.mono s u⟩)
def OR.rp {K F H a o} (f:Same F H) (h:OR K F H a o):Rp K H o.d (.ref a):=h.rpIn f λ_ _ _ e=>e
def OR.mut {K F H a o} (h:OR K F H a o):∀b,o.adr a b->Mut (H b):=by
 cases o with
 |lst y=>obtain⟨u,g,p⟩:=h;intro b e;rw[show b=a from e,g];trivial
 |dK n=>intro b e;rw[show b=a from e,show H a=some (.dK n)from h];trivial
 |dT n=>intro b e;rw[show b=a from e,show H a=some (.dT n)from h];trivial
 |lsA x y=>obtain⟨rfl,u,g,p⟩:=h;intro b e;rw[show b=a from e,g];trivial
 |nsl x w=>
  obtain⟨e,g,p,v⟩:=h;intro b f;rcases f with f|⟨c,s,f⟩
  ·rw[show b=a from f.trans e.symm,g];trivial
  ·obtain⟨u,r,_⟩:=p c s;rw[f,r];trivial
 |nst w=>
  obtain⟨g,p,v⟩:=h;rintro b ⟨c,s,f⟩;obtain⟨u,r,_⟩:=p c s;rw[f,r];trivial
 |ins x C xs w=>
  obtain⟨e,l,⟨z,g⟩,p,v⟩:=h;intro b f;rcases f with f|⟨c,s,f⟩
  ·rw[show b=a from f.trans e.symm,g];trivial
  ·obtain⟨u,r,_⟩:=p c s;rw[f,r];trivial
inductive S where
 |bor (d:D)|sh (d:D)|own (o:O)|view (o:O)|tmp (d:D)
abbrev Γ:=List (Option S)
noncomputable def D.strip:D->D
 | .loc _ d=>d|d=>d
def Rp.strip {K H d v} (h:Rp K H d v):Rp K H d.strip v:=by
 cases h with
 |loc h=>exact h
 |int i=>exact .int i
 |bl b=>exact .bl b
 |non=>exact .non
 |str x=>exact .str x
 |ty n=>exact .ty n
 |tup h r=>exact .tup h r
 |lst h r=>exact .lst h r
 |scr h=>exact .scr h
 |dK h=>exact .dK h
 |dT h=>exact .dT h
 |dF h=>exact .dF h
 |err h=>exact .err h
 |ref a=>exact .ref a
 |erM l g f=>exact .erM l g f
 |fL h=>exact .fL h
 |ins h e r=>exact .ins h e r
noncomputable def S.d:S->D
 | .bor d=>d.strip | .sh d=>d | .own o=>o.d | .view o=>o.d | .tmp d=>d
noncomputable def arg(d:D):S:=match imm d with|true=>.sh d|false=>.bor d
noncomputable def Pm(d:D):S:=match imm d with|true=>.sh d|false=>.tmp d
noncomputable def S.sub:S->D->S
 | .bor _,e=>arg e | .tmp _,e=>Pm e | .own (.nst _),e=>Pm e | .view (.nst _),e=>Pm e | .own (.nsl _ _),e=>Pm e | .view (.nsl _ _),e=>Pm e|_,e=>.sh e
noncomputable def S.shd:S->Option D
 | .sh d=>some d | .own o=>some o.d
 | .bor d=>match imm d with|true=>some d|false=>none
 | .tmp d=>match imm d with|true=>some d|false=>none
 | .view _=>none
noncomputable def S.slot:S->Option S
 | .view _=>none | .bor d=>some (.bor d) | .sh d=>some (.sh d) | .own f=>some (.own f)
 | .tmp d=>match imm d with|true=>some (.sh d)|false=>none
def Zn9(h:Γ)(g:L2.St)(b:Addr):Prop:=∃(i:Nat) (f:O) (a:Addr),h[i]?=some (some<|.own f)/\g[i]?=some (some<|.ref a)/\f.adr a b
def zof(B:Addr->Prop)(g:Γ)(f:L2.St):Addr->Prop:=λb=>B b\/Zn9 g f b
def SV(K:Ye)(Z:Addr->Prop)(f H:Hp):S->V->Prop
 | .bor d,v=>Rp K f d v
 | .sh d,v=>Rp K (off Z H) d v
 | .own o,v=>∃a,v=.ref a/\(∀b,o.adr a b->f b=none)/\OR K (off Z H) H a o
 |_,_=>False
def TV(K:Ye)(Z:Addr->Prop)(f H H':Hp):S->V->Prop
 | .bor d,v=>Rp K f d v
 | .sh d,v=>Rp K (off Z H') d v
 | .own o,v=>∃a,v=.ref a/\(∀b,o.adr a b->H b=none)/\OR K (off (λb=>Z b\/o.adr a b) H') H' a o
 | .view o,v=>∃a,v=.ref a/\OR K (off Z H') H' a o
 | .tmp d,v=>Rp K H' d v
structure Xz (K:Ye) (H0:Hp) (B:Addr->Prop) (H:Hp) (σ:L2.St) (γ:Γ):Prop where
 same:Same H0 H
 len:σ.length=γ.length
 bm:∀b,B b->Mut (H b)
 own:∀(i j:Nat) (a a':Addr) (ds es:O) (b:Addr),γ[i]?=some (some<|.own ds)->γ[j]?=some (some<|.own es)->σ[i]?=some (some<|.ref a)->σ[j]?=some (some<|.ref a')->ds.adr a b->es.adr a' b->i=j
 slot:∀(i:Nat) (s:S),γ[i]?=some (some s)->∃v,σ[i]?=some (some v)/\SV K (zof B γ σ) H0 H s v
section
variable {K:Ye}{H0 H H1 H':Hp}{B Z Z':Addr->Prop}{σ:L2.St}{γ:Γ}
def Tg(S:Same H H'){b}(h:Mut (H b)):Mut (H' b):=by
 cases e:H b with
 |none=>rw[e]at h;exact h.elim
 |some o=>rw[S b o e,←e];exact h
def Nd(h:Mut (H b)):∃o,H b=some o:=by
 cases e:H b with
 |none=>rw[e]at h;exact h.elim
 |some o=>grind
def Xz.grow (E:Xz K H0 B H σ γ) (S:Same H H'):Xz K H0 B H' σ γ where
 same:=E.same.trans S
 len:=E.len
 bm b h:=Tg S (E.bm b h)
 own:=E.own
 slot i s h:=by
  obtain⟨v,h1,h2⟩:=E.slot i s h;refine⟨v,h1,?_⟩;cases s with
  |bor d=>trivial
  |sh d=>exact Rp.mono (XA S λ_ _ _ z=>z) h2
  |own ds=>
   obtain⟨a,e1,e3,e4⟩:=h2;exact⟨a,e1,e3,e4.mono (XA S λ_ _ _ z=>z) λb _ x=>S b x⟩
  |_=>exact h2
def Xz.zm (E:Xz K H0 B H σ γ):∀b,zof B γ σ b->Mut (H b):=λb h=>by
 rcases h with h|⟨i,s,x,n,l,g⟩
 ·exact E.bm b h
 ·obtain⟨v,f,a,p,r,o⟩:=E.slot i _ n;rw[l]at f;cases f
  cases p
  exact o.mut b g
def TV.rp (f:Same H0 H') (h:TV K Z H0 H H' s v):Rp K H' s.d v:=by
 cases s with
 |bor d=>exact(Rp.mono f h).strip
 |sh d=>exact Rp.mono off_sub h
 |own g=>
  obtain⟨a,rfl,_,r⟩:=h;exact r.rp off_sub
 |view g=>
  obtain⟨a,rfl,r⟩:=h;exact r.rp off_sub
 |tmp d=>exact h
def TV.grow (f:Same H' H1) (h:TV K Z H0 H H' s v):TV K Z H0 H H1 s v:=by
 cases s with
 |bor d=>exact h
 |sh d=>exact Rp.mono (XA f λ_ _ _ z=>z) h
 |own l=>
  obtain⟨a,rfl,g,r⟩:=h;exact⟨a,rfl,g,r.mono (XA f λ_ _ _ z=>z) λb _ x=>f b x⟩
 |view l=>
  obtain⟨a,rfl,r⟩:=h;exact⟨a,rfl,r.mono (XA f λ_ _ _ z=>z) λb _ x=>f b x⟩
 |tmp d=>exact Rp.mono f h
def TV.weak (o:Same H H1) (f:∀b,Z b->Z' b) (h:TV K Z' H0 H1 H' s v):TV K Z H0 H H' s v:=by
 cases s with
 |sh d=>exact Rp.mono (XA (Same.refl _) λb _ _ z y=>z (f b y)) h
 |own n=>
  obtain⟨a,rfl,l,r⟩:=h;exact⟨a,rfl,λb g=>o.free (l b g),r.mono (XA (Same.refl _) λb _ _ z y=>z (y.imp (f b) id)) λ_ _ _ q=>q⟩
 |view n=>
  obtain⟨a,rfl,r⟩:=h;exact⟨a,rfl,r.mono (XA (Same.refl _) λb _ _ z y=>z (f b y)) λ_ _ _ q=>q⟩
 |_=>exact h
def TV.shd (o:Same H0 H') (l:∀b,Z b->Mut (H b)) (w:Same H H') (h:TV K Z H0 H H' s v) (e:s.shd=some d):Rp K (off Z H') d v:=by
 have f:=λb z=>Tg w (l b z);cases s with
 |bor g=>
  unfold S.shd at e;cases q:imm g with
  |false=>simp_all
  |true=>
   simp[q]at e;subst e;exact Rp.off f (Rp.mono o h) q
 |sh g=>cases e;exact h
 |own u=>
  cases e
  obtain⟨a,rfl,p,r⟩:=h;exact r.rpIn (XA (Same.refl _) λb _ _ z y=>z (.inl y)) λb n x e=>XY e λz=>by have:=l _ z;rw[p b n]at this;exact this
 |view u=>cases e
 |tmp g=>
  unfold S.shd at e;cases q:imm g with
  |false=>simp[q]at e
  |true=>
   simp[q]at e;subst e;exact Rp.off f h q
def NG(f:∀b,Z b->Mut (H' b))(g:Same H0 H')(h:Rp K H0 d v):TV K Z H0 H H' (arg d) v:=by
 unfold arg;cases q:imm d with
 |true=>exact Rp.off f (Rp.mono g h) q
 |false=>exact h
def T7(f:∀b,Z b->Mut (H' b))(h:Rp K H' d v):TV K Z H0 H H' (Pm d) v:=by
 unfold Pm;cases q:imm d with
 |true=>exact Rp.off f h q
 |false=>exact h
def Rp.lst_inv (h:Rp K H (.lst ds) v):∃a vs,v=.ref a/\H a=some (.lst vs)/\Rps K H ds vs:=by
 cases h with
 |lst h r=>grind
def Rp.tup_inv (h:Rp K H (.tup ds) v):∃a vs,v=.ref a/\H a=some (.tup vs)/\Rps K H ds vs:=by
 cases h with
 |tup h r=>grind
def TV.part (E:Same H0 H') (N:∀b,Z b->Mut (H b)) (Q:Same H H') (h:TV K Z H0 H H' s v) :
  (∀ds,s.d=.lst ds->∃a vs,v=.ref a/\H' a=some (.lst vs)/\vs.length=ds.length/\∀(i:Nat) d,ds[i]?=some d->∃u,vs[i]?=some u/\TV K Z H0 H H' (s.sub d) u)/\
  (∀ds,s.d=.tup ds->∃a vs,v=.ref a/\H' a=some (.tup vs)/\vs.length=ds.length/\∀(i:Nat) d,ds[i]?=some d->∃u,vs[i]?=some u/\TV K Z H0 H H' (s.sub d) u):=by
 have l:=λb z=>Tg Q (N b z);cases s with
 |bor d=>
  have h:=Rp.strip h;refine⟨λds e=>?_,λds e=>?_⟩<;>rw[show d.strip=_ from e]at h
  ·obtain⟨a,vs,rfl,h,r⟩:=Rp.lst_inv h;exact⟨_,_,rfl,E _ _ h,r.len,λi d e=>let ⟨u,g,f⟩:=r.get e;⟨u,g,NG l E f⟩⟩
  ·obtain⟨a,vs,rfl,h,r⟩:=Rp.tup_inv h;exact⟨_,_,rfl,E _ _ h,r.len,λi d e=>let ⟨u,g,f⟩:=r.get e;⟨u,g,NG l E f⟩⟩
 |sh d=>
  refine⟨λds e=>?_,λds e=>?_⟩<;>(have L:=e;subst L)
  ·obtain⟨a,vs,rfl,h,r⟩:=Rp.lst_inv h;exact⟨_,_,rfl,off_sub _ _ h,r.len,λi d e=>r.get e⟩
  ·obtain⟨a,vs,rfl,h,r⟩:=Rp.tup_inv h;exact⟨_,_,rfl,off_sub _ _ h,r.len,λi d e=>r.get e⟩
 |own w=>
  cases w with
  |lst w=>
   refine⟨λds e=>?_,λds e=>by cases e⟩;cases e
   obtain⟨a,rfl,J,vs,e,r⟩:=h;exact⟨a,vs,rfl,e,r.len,λi d e=>let ⟨u,g,f⟩:=r.get e;⟨u,g,Rp.mono (XA (Same.refl _) λb _ _ z y=>z (.inl y)) f⟩⟩
  |lsA x w=>
   refine⟨λds e=>?_,λds e=>by cases e⟩;cases e
   obtain⟨a,rfl,J,_,vs,e,r⟩:=h;exact⟨a,vs,rfl,e,r.len,λi d e=>let ⟨u,g,f⟩:=r.get e;⟨u,g,Rp.mono (XA (Same.refl _) λb _ _ z y=>z (.inl y)) f⟩⟩
  |nsl x M=>
   refine⟨λds e=>?_,λds e=>by cases e⟩;cases e
   obtain⟨a,rfl,J,_,C,A,G⟩:=h;have r:=N2 λc p=>let ⟨vs,o,n⟩:=A c p;⟨vs,o,Rps.mono off_sub n⟩;exact⟨a,_,rfl,C,r.len,λi d e=>let ⟨u,g,f⟩:=r.get e;⟨u,g,T7 l f⟩⟩
  |nst M=>
   refine⟨(λds e=>by cases e),λds e=>?_⟩;cases e
   obtain⟨a,rfl,J,C,A,G⟩:=h;have r:=N2 λc p=>let ⟨vs,o,n⟩:=A c p;⟨vs,o,Rps.mono off_sub n⟩;exact⟨a,_,rfl,off_sub _ _ C,r.len,λi d e=>let ⟨u,g,f⟩:=r.get e;⟨u,g,T7 l f⟩⟩
  |_=>exact⟨(λds e=>by cases e),(λds e=>by cases e)⟩
 |view w=>
  cases w with
  |lst w=>
   refine⟨λds e=>?_,λds e=>by cases e⟩;cases e
   obtain⟨a,rfl,vs,e,r⟩:=h;exact⟨a,vs,rfl,e,r.len,λi d e=>r.get e⟩
  |lsA x w=>
   refine⟨λds e=>?_,λds e=>by cases e⟩;cases e
   obtain⟨a,rfl,_,vs,e,r⟩:=h;exact⟨a,vs,rfl,e,r.len,λi d e=>r.get e⟩
  |nsl x M=>
   refine⟨λds e=>?_,λds e=>by cases e⟩;cases e
   obtain⟨a,rfl,_,C,A,G⟩:=h;have r:=N2 λc p=>let ⟨vs,o,n⟩:=A c p;⟨vs,o,Rps.mono off_sub n⟩;exact⟨a,_,rfl,C,r.len,λi d e=>let ⟨u,g,f⟩:=r.get e;⟨u,g,T7 l f⟩⟩
  |nst M=>
   refine⟨(λds e=>by cases e),λds e=>?_⟩;cases e
   obtain⟨a,rfl,C,A,G⟩:=h;have r:=N2 λc p=>let ⟨vs,o,n⟩:=A c p;⟨vs,o,Rps.mono off_sub n⟩;exact⟨a,_,rfl,off_sub _ _ C,r.len,λi d e=>let ⟨u,g,f⟩:=r.get e;⟨u,g,T7 l f⟩⟩
  |_=>exact⟨(λds e=>by cases e),(λds e=>by cases e)⟩
 |tmp d=>
  refine⟨λds e=>?_,λds e=>?_⟩<;>(have L:=e;subst L)
  ·obtain⟨a,vs,rfl,h,r⟩:=Rp.lst_inv h;exact⟨_,_,rfl,h,r.len,λi d e=>let ⟨u,g,f⟩:=r.get e;⟨u,g,T7 l f⟩⟩
  ·obtain⟨a,vs,rfl,h,r⟩:=Rp.tup_inv h;exact⟨_,_,rfl,h,r.len,λi d e=>let ⟨u,g,f⟩:=r.get e;⟨u,g,T7 l f⟩⟩
def Fr(B:Addr->Prop)(H:Hp)(σ:L2.St)(γ:Γ)(H':Hp)(f:L2.St)(g:Γ):Prop:=∀b o,H b=some o->¬zof B γ σ b->H' b=some o/\¬zof B g f b
def Fr.refl:Fr B H σ γ H σ γ:=λ_ _ h z=>⟨h,z⟩
def Fr.trans {H1 p g f n l} (a:Fr B H σ γ H1 g n) (b:Fr B H1 g n p f l):Fr B H σ γ p f l:=λx o h z=>let ⟨s,r⟩:=a x o h z;b x o s r
def Fr.grow (f:Same H H'):Fr B H σ γ H' σ γ:=λ_ _ h z=>⟨f _ _ h,z⟩
def Fr.off {H'}{σ'}{γ'} (f:Fr B H σ γ H' σ' γ'):Same (off (zof B γ σ) H) (Pu.off (zof B γ' σ') H'):=λb o h=>by
 obtain⟨p,n⟩:=Ts h;obtain⟨l,g⟩:=f b o p n;exact XY l g
def Kg{f:Type}{l:List f}{i j}{x y}(h:(l.set i x)[j]?=some y):(j=i/\x=y/\i<l.length)\/(j≠i/\l[j]?=some y):=by grind
def Al{f:Type}{l:List f}{i}{x}(h:i<l.length):(l.set i x)[i]?=some x:=by grind
def Tw{f:Type}{l:List f}{i j}{x}(h:j≠i):(l.set i x)[j]?=l[j]?:=by grind
def Xz.drop (E:Xz K H0 B H σ γ) (i:Nat):Xz K H0 B H σ (γ.set i none)/\Fr B H σ γ H σ (γ.set i none):=by
 have p:∀b,zof B (γ.set i none) σ b->zof B γ σ b:=λb z=>z.imp id λ⟨j,l,a,g,f,u⟩=>by
  rcases Kg g with⟨_,e,_⟩|⟨_,e⟩
  ·grind
  ·exact⟨j,l,a,e,f,u⟩
 refine⟨⟨E.same,by rw[QM];exact E.len,E.bm,λk j a G l w b g f=>?_,λk s h=>?_⟩,λb o h z=>⟨h,λy=>z (p b y)⟩⟩
 ·rcases Kg g with⟨_,e,_⟩|⟨_,n⟩
  ·cases e
  ·rcases Kg f with⟨_,e,_⟩|⟨_,C⟩
   ·cases e
   ·exact E.own k j a G l w b n C
 ·rcases Kg h with⟨_,e,_⟩|⟨_,e⟩
  ·cases e
  ·obtain⟨v,g,f⟩:=E.slot k s e;refine⟨v,g,?_⟩;have r:Same (Pu.off (zof B γ σ) H) (Pu.off (zof B (γ.set i none) σ) H):=XA (Same.refl _) λb _ _ z y=>z (p b y);cases s with
   |sh d=>exact Rp.mono r f
   |own l=>
    obtain⟨a,n,A,x⟩:=f;exact⟨a,n,A,x.mono r λ_ _ _ q=>q⟩
   |_=>exact f
def Xz.put {s L}{v} (E:Xz K H0 B H σ γ) (S1:Same H H') (h:TV K (zof B γ σ) H0 H H' s v) (e:s.slot=some L) (hi:i<γ.length) :
  Xz K H0 B H' (σ.set i<|some v) (γ.set i<|some L)/\Fr B H σ γ H' (σ.set i<|some v) (γ.set i<|some L):=by
 have n:i<σ.length:=by rw[E.len];exact hi
 have E':=E.grow S1
 have isown:∀f,L=.own f->s=.own f:=λf q=>by
  subst q;cases s with
  |own J=>cases e;rfl
  |tmp d=>unfold S.slot at e;cases q:imm d<;>simp[q]at e
  |_=>cases e
 have l:∀b,zof B (γ.set i<|some L) (σ.set i<|some v) b->zof B γ σ b\/∃f a,s=.own f/\v=.ref a/\f.adr a b:=λb z=>by
  rcases z with z|⟨j,f,a,h1,G,A⟩
  ·exact .inl (.inl z)
  ·rcases Kg h1 with⟨Y,g,_⟩|⟨T,g⟩
   ·subst Y;rw[Al n]at G
    have:=Qb g
    exact .inr ⟨f,a,isown f this,Qb (Qb G),A⟩
   ·rw[Tw T]at G;exact .inl (.inr ⟨j,f,a,g,G,A⟩)
 have fresh:∀f a b,s=.own f->v=.ref a->f.adr a b->H b=none:=λf a b J ev p=>by
  subst J;obtain⟨a',g,e0,_⟩:=h;rw[ev]at g;cases g
  exact e0 b p
 have hz:∀b o,H b=some o->¬zof B γ σ b->¬zof B (γ.set i<|some L) (σ.set i<|some v) b:=λb o p z y=>by
  rcases l b y with y|⟨f,a,y1,y2,y3⟩
  ·exact z y
  ·rw[fresh f a b y1 y2 y3]at p;cases p
 have So:=XA S1 hz;refine⟨⟨E'.same,by rw[QM,QM];exact E.len,E'.bm,λk j a a' f J b h1 G A M h5 h6=>?_,λk u hk=>?_⟩,λb o p z=>⟨S1 b o p,hz b o p z⟩⟩
 ·have Q:∀(k:Nat) f a b,γ[k]?=some (some<|.own f)->σ[k]?=some (some<|.ref a)->f.adr a b->∃o,H b=some o:=λk f a b g C e3=>by
   obtain⟨u,q1,a',N,_,q3⟩:=E.slot k _ g;rw[C]at q1;cases q1
   cases N
   exact Nd (q3.mut b e3)
  rcases Kg h1 with⟨ek,g,_⟩|⟨nk,g⟩
  ·rcases Kg G with⟨Y,C,_⟩|⟨T,C⟩
   ·rw[ek,Y]
   ·subst ek;rw[Al n]at A;rw[Tw T]at M;obtain⟨o,U⟩:=Q j J a' b C M h6;rw[fresh f a b (isown f<|Qb g) (Qb<|Qb A) h5]at U;cases U
  ·rcases Kg G with⟨Y,C,_⟩|⟨T,C⟩
   ·subst Y;rw[Al n]at M;rw[Tw nk]at A;obtain⟨o,U⟩:=Q k f a b g A h5;rw[fresh J a' b (isown J<|Qb C) (Qb<|Qb M) h6]at U;cases U
   ·rw[Tw nk]at A;rw[Tw T]at M;exact E.own k j a a' f J b g C A M h5 h6
 ·rcases Kg hk with⟨ek,g,_⟩|⟨nk,g⟩
  ·subst ek
   have:=(Qb g).symm
   subst this;refine⟨v,Al n,?_⟩;cases s with
   |own f=>
    cases e
    obtain⟨a,rfl,e0,r⟩:=h;refine⟨a,rfl,λb p=>E.same.free (e0 b p),r.mono (XA (Same.refl _) λb o _ z y=>?_) λ_ _ _ q=>q⟩;rcases l b y with y|⟨_,_,y1,y,y2⟩
    ·exact z (.inl y)
    ·cases y;cases y1;exact z (.inr y2)
   |sh d=>
    cases e
    refine Rp.mono (XA (Same.refl _) λb o _ z y=>?_) h;rcases l b y with y|⟨_,_,y,_⟩
    ·exact z y
    ·cases y
   |bor d=>cases e;exact h
   |view d=>cases e
   |tmp d=>
    unfold S.slot at e;cases q:imm d with
    |false=>simp[q]at e
    |true=>
     simp[q]at e;subst e;refine Rp.off (λb y=>?_) h q;rcases l b y with y|⟨_,_,y,_⟩
     ·exact Tg S1 (E.zm b y)
     ·cases y
  ·obtain⟨w,q1,N⟩:=E.slot k u g;refine⟨w,by rw[Tw nk];exact q1,?_⟩;cases u with
   |sh d=>exact Rp.mono So N
   |own f=>
    obtain⟨a,g,e3,e4⟩:=N;exact⟨a,g,e3,e4.mono So λb _ x=>S1 b x⟩
   |_=>exact N
noncomputable def frz(i:Nat)(γ:Γ):Γ:=match γ[i]? with
 |some (some<|.own o)=>γ.set i (some<|.sh o.d)
 |_=>γ
def Xz.frz (E:Xz K H0 B H σ γ) (hB:∀b,B b->∃o,H0 b=some o) (i:Nat):Xz K H0 B H σ (frz i γ)/\Fr B H σ γ H σ (Pu.frz i γ):=by
 unfold Pu.frz;split
 ·rename_i p J
  have G:∀b,zof B (γ.set i<|some<|.sh p.d) σ b->zof B γ σ b:=λb z=>z.imp id λ⟨j,l,a,g,f,L⟩=>by
   rcases Kg g with⟨_,e,_⟩|⟨_,e⟩
   ·cases e
   ·exact⟨j,l,a,e,f,L⟩
  have C:Same (Pu.off (zof B γ σ) H) (Pu.off (zof B (γ.set i<|some<|.sh p.d) σ) H):=XA (Same.refl _) λb _ _ z y=>z (G b y);refine⟨⟨E.same,by rw[QM];exact E.len,E.bm,λk j a A l r b g f=>?_,λk s h=>?_⟩,λb o h z=>⟨h,λy=>z (G b y)⟩⟩
  ·rcases Kg g with⟨_,e,_⟩|⟨_,n⟩
   ·cases e
   ·rcases Kg f with⟨_,e,_⟩|⟨_,w⟩
    ·cases e
    ·exact E.own k j a A l r b n w
  ·rcases Kg h with⟨T,e,_⟩|⟨Y,e⟩
   ·subst T
    have:=Qb e
    subst this;obtain⟨v,g,a,rfl,L,Q⟩:=E.slot k _ J;refine⟨_,g,Q.rpIn C λb N x f=>XY f λz=>?_⟩;rcases z with z|⟨j,l,A,n,w,u⟩
    ·grind
    ·rcases Kg n with⟨_,q,_⟩|⟨M,q⟩
     ·cases q
     ·exact M (E.own j k A a l p b q J w g u N)
   ·obtain⟨v,g,f⟩:=E.slot k s e;refine⟨v,g,?_⟩;cases s with
    |sh d=>exact Rp.mono C f
    |own p=>
     obtain⟨a,n,u,U⟩:=f;exact⟨a,n,u,U.mono C λ_ _ _ q=>q⟩
    |_=>exact f
 ·exact⟨E,Fr.refl⟩
def Xz.change {o o'} (E:Xz K H0 B H σ γ) (M:γ[i]?=some (some<|.own o)) (A:σ[i]?=some (some<|.ref a))
  (N:∀b x,H b=some x->¬o.adr a b->H' b=some x) (hm:∀b,o.adr a b->Mut (H' b)) (l:∀b,o'.adr a b->o.adr a b\/H b=none) (r:OR K (Pu.off (zof B (γ.set i<|some<|.own o') σ) H') H' a o') :
  Xz K H0 B H' σ (γ.set i<|some<|.own o')/\Fr B H σ γ H' σ (γ.set i<|some<|.own o'):=by
 obtain⟨v,h1,a',rfl,h3,h4⟩:=E.slot i _ M;rw[A]at h1;cases h1
 have za:∀b,o.adr a b->zof B γ σ b:=λb C=>.inr ⟨i,o,a,M,A,C⟩
 have hz:∀b x,H b=some x->zof B (γ.set i<|some<|.own o') σ b->zof B γ σ b:=λb x hx z=>by
  rcases z with z|⟨j,fs,a',U,p,n⟩
  ·exact .inl z
  ·rcases Kg U with⟨T,q,_⟩|⟨_,e⟩
   ·subst T;cases q
    rw[A]at p;cases p
    rcases l b n with k|k
    ·exact za b k
    ·rw[k]at hx;cases hx
   ·exact .inr ⟨j,fs,a',e,p,n⟩
 have S1:=λb x h=>by
  obtain⟨g,f⟩:=Ts h;exact XY (N b x g λk=>f (za b k)) λz=>f (hz b x g z)
 have J:∀(k:Nat) ds a b,γ[k]?=some (some<|.own ds)->σ[k]?=some (some<|.ref a)->ds.adr a b->∃o,H b=some o:=λk ds a b U p n=>by
  obtain⟨u,g,a',f,_,q3⟩:=E.slot k _ U;rw[p]at g;cases g
  cases f
  exact Nd (q3.mut b n)
 refine⟨⟨λb x h=>?_,by rw[QM];exact E.len,λb C=>?_,λk j x x' fs Q b U p n G e5 e6=>?_,λk s h=>?_⟩,λb x h z=>⟨?_,λy=>z (hz b x h y)⟩⟩
 ·exact N b x (E.same b x h) λk=>by rw[h3 b k]at h;cases h
 ·by_cases k:o.adr a b
  ·exact hm b k
  ·have:=E.bm b C
   obtain⟨x,hx⟩:=Nd this;rwa[N b x hx k,←hx]
 ·rcases Kg U with⟨Y,g,_⟩|⟨nk,g⟩
  ·rcases Kg p with⟨T,_,_⟩|⟨nj,f⟩
   ·rw[Y,T]
   ·subst Y;cases g
    rw[A]at n;cases n
    rcases l b e5 with w|w
    ·exact E.own k j _ _ _ _ b M f A G w e6
    ·obtain⟨u,L⟩:=J j Q x' b f G e6;rw[w]at L;cases L
  ·rcases Kg p with⟨T,f,_⟩|⟨nj,f⟩
   ·subst T;cases f
    rw[A]at G;cases G
    rcases l b e6 with w|w
    ·exact E.own k j _ _ _ _ b g M n A e5 w
    ·obtain⟨u,L⟩:=J k fs x b g n e5;rw[w]at L;cases L
   ·exact E.own k j x x' fs Q b g f n G e5 e6
 ·rcases Kg h with⟨Y,e,_⟩|⟨nk,e⟩
  ·subst Y
   have:=Qb e
   subst this;exact⟨_,A,a,rfl,λb C=>(l b C).elim (h3 b) λw=>E.same.free w,r⟩
  ·obtain⟨v,g,f⟩:=E.slot k s e;refine⟨v,g,?_⟩;cases s with
   |sh d=>exact Rp.mono S1 f
   |own fs=>
    obtain⟨x,rfl,n,G⟩:=f;exact⟨x,rfl,n,G.mono S1 λb C y p=>N b y p λw=>nk (E.own k i x a fs o b e M g A C w)⟩
   |_=>exact f
 ·exact N b x h λk=>z (za b k)
def Xz.mutate {i:Nat}{a:Addr}{ds es:O}{us:HO} (E:Xz K H0 B H σ γ) (u:γ[i]?=some (some<|.own ds)) (f:σ[i]?=some (some<|.ref a)) (w:Mut (some us)) (r:∀F H':Hp,Same (Pu.off (zof B γ σ) H) F->H' a=some us->OR K F H' a es)
  (k1:autoParam (ds.adr a=λb=>b=a) au_0) (k2:autoParam (es.adr a=λb=>b=a) au_0) :
  Xz K H0 B (upd H a us) σ (γ.set i<|some<|.own es)/\Fr B H σ γ (upd H a us) σ (γ.set i<|some<|.own es):=by
 refine E.change (o:=ds) (o':=es) u f (λb x h n=>by rw[X1 (λz=>n (by rw[k1];exact z))];exact h) (λb h=>by rw[k1]at h;rw[show b=a from h,XG];exact w) (λb h=>.inl (by rw[k1];rw[k2]at h;exact h)) (r _ _ ?_ XG)
 intro b x h;obtain⟨v,p⟩:=Ts h;have s:b≠a:=λz=>p (.inr ⟨i,ds,a,u,f,by rw[k1];exact z⟩);refine XY (by rw[X1 s];exact v) λz=>p ?_;rcases z with z|⟨j,fs,C,A,l,g⟩
 ·exact .inl z
 ·rcases Kg A with⟨y,q,_⟩|⟨_,e⟩
  ·subst y;cases q
   rw[f]at l;cases l
   rw[k2]at g;exact absurd g s
  ·exact .inr ⟨j,fs,C,e,l,g⟩
end
end Pu
namespace Pu
open PySem PySem.Spec PyProof.Rows L2 Own
abbrev XR:=Str->Prop
noncomputable def eI:Int->Nat
 | .ofNat n=>2*n
 | .negSucc n=>2*n+1
noncomputable def dI(n:Nat):Int:=if n % 2=0 then .ofNat (n / 2)else .negSucc (n / 2)
def Zkd:∀i,dI (eI i)=i
 | .ofNat n=>by
  show dI (2*n)=_;unfold dI;simp
 | .negSucc n=>by
  show dI (2*n+1)=_;unfold dI;lia
noncomputable def NW(r:Yg):Str:=⟨(0::r.map eI).toArray⟩
noncomputable def Zcd:Yl->Option (Yg)
 | 0::t=>some (t.map dI)
 |_=>none
noncomputable def NJ(x:Str):Option (Yg):=Zcd x.cps.toList
def Hr(r:Yg):NJ (NW r)=some r:=by
 show some ((r.map eI).map dI)=some r;rw[Q7];congr 1
 conv=>rhs;rw[←List.map_id r]
 exact Vr λi _=>Zkd i
def XE(f:Yi)(E:XK)(c:Str)(H':Hp):Prop:=match NJ c with
 |none=>E (.ref<|ExcR.Xx f c) none H'
 |some r=>∀(g l:Addr) (o:Obj),H' g=some (.xd [("members",.ref l)])->H' l=some (.frz o<|.lst<|r.map V.int)->E (.ref<|ExcR.Xx f "Ringed") (some g) H'
def XE.plain {c H'} (g:NJ c=none) (h:XE f E c H'):E (.ref<|ExcR.Xx f c) none H':=by
 unfold XE at h;simp_all
def XE.of {E c H'} (g:NJ c=none) (h:E (.ref<|ExcR.Xx f c) none H'):XE f E c H':=by
 unfold XE;simp_all
def XE.mem (h:XE g E (NW r) H') {f l o} (p:H' f=some (.xd [("members",.ref l)])) (n:H' l=some (.frz o<|.lst<|r.map V.int)) :
  E (.ref<|ExcR.Xx g "Ringed") (some f) H':=by
 unfold XE at h;rw[Hr]at h
 grind
def XE.ofM {E r H'} (h:∀f l o,H' f=some (.xd [("members",.ref l)])->H' l=some (.frz o<|.lst<|r.map V.int)->E (.ref<|ExcR.Xx g "Ringed") (some f) H'):XE g E (NW r) H':=by
 unfold XE;rw[Hr];lia
abbrev PTE:=Γ->(S->Prop)->XR->Prop
abbrev PTT:=Γ->(Bool->Prop)->XR->Prop
abbrev PTA:=Γ->(List S->Prop)->XR->Prop
abbrev PTO:=Γ->(Option Int->Prop)->XR->Prop
structure Nv where
 nx:Γ->Prop
 rt:S->Prop
 ex:Γ->Str->Prop
 bk:Γ->Prop:=λ_=>False
 ct:Γ->Prop:=λ_=>False
 rv:Γ->D->Prop:=λ_ _=>False
abbrev PTS:=Nv->Γ->Prop
abbrev PTG:=S->Γ->(Γ->Prop)->Prop
abbrev Sj:=List S->Γ->(Γ->Prop)->Prop
inductive TVs (K:Ye) (Z:Addr->Prop) (H0 H H':Hp):List S->List V->Prop
 |nil:TVs K Z H0 H H' [] []
 |cons {s:S} {v:V} {ss:List S} {vs:List V}:TV K Z H0 H H' s v->TVs K Z H0 H H' ss vs->TVs K Z H0 H H' (s::ss) (v::vs)
section
variable (K:Ye) (mg:Yi) (E:L2.St->XK)
def Xu(t:TE)(p:PTE):Prop:=∀(l:Hp) (B:Addr->Prop) (H:Hp) (g:L2.St) (h:Γ) (R:S->Prop) (X:XR) (Q:VK),Xz K l B H g h->p h R X->
 (∀s v f,R s->Same H f->TV K (zof B h g) l H f s v->Q v f)->(∀c f,X c->Same H f->XE mg (E g) c f)->t g H Q
def KL(t:TT)(p:PTT):Prop:=∀(l:Hp) (B:Addr->Prop) (H:Hp) (g:L2.St) (h:Γ) (R:Bool->Prop) (X:XR) (Q:Bool->Hp->Prop),Xz K l B H g h->p h R X->
 (∀b f,R b->Same H f->Q b f)->(∀c f,X c->Same H f->XE mg (E g) c f)->t g H Q
def XI(t:TA)(p:PTA):Prop:=∀(o:Hp) (B:Addr->Prop) (H:Hp) (g:L2.St) (h:Γ) (R:List S->Prop) (X:XR) (Q:List V->Hp->Prop),Xz K o B H g h->p h R X->
 (∀n l f,R n->Same H f->TVs K (zof B h g) o H f n l->Q l f)->(∀c f,X c->Same H f->XE mg (E g) c f)->t g H Q
def T6(t:TO)(p:PTO):Prop:=∀(l:Hp) (B:Addr->Prop) (H:Hp) (g:L2.St) (h:Γ) (R:Option Int->Prop) (X:XR) (Q:Option Int->Hp->Prop),Xz K l B H g h->p h R X->
 (∀o f,R o->Same H f->Q o f)->(∀c f,X c->Same H f->XE mg (E g) c f)->t g H Q
structure FX (H0:Hp) (B:Addr->Prop) (H:Hp) (σ:L2.St) (γ:Γ) (R:Nv) (D:Ends):Prop where
 nx:∀σ' γ' H',R.nx γ'->Xz K H0 B H' σ' γ'->Fr B H σ γ H' σ' γ'->D.nx σ' H'
 rt:∀s v H',R.rt s->Same H0 H'->TV K B H0 H0 H' s v->D.rt v H'
 ex:∀σ' γ' c H',R.ex γ' c->Xz K H0 B H' σ' γ'->Fr B H σ γ H' σ' γ'->XE mg (E σ') c H'
 bk:∀σ' γ' H',R.bk γ'->Xz K H0 B H' σ' γ'->Fr B H σ γ H' σ' γ'->D.bk σ' H'
 ct:∀σ' γ' H',R.ct γ'->Xz K H0 B H' σ' γ'->Fr B H σ γ H' σ' γ'->D.ct σ' H'
 rv:∀σ' γ' d v H',R.rv γ' d->Xz K H0 B H' σ' γ'->Fr B H σ γ H' σ' γ'->Rp K (off (zof B γ' σ') H') d v->D.rt v H'
def X7(t:TS)(p:PTS):Prop:=∀(h:Hp) (B:Addr->Prop) (H:Hp) (f:L2.St) (g:Γ) (R:Nv) (D:Ends),(∀b,B b->∃o,h b=some o)->Xz K h B H f g->p R g->FX K mg E h B H f g R D->t D f H
end
section
variable {K:Ye}{mg:Yi}{E:L2.St->XK}{H0 H H1 H':Hp}{B Z Z':Addr->Prop}{σ:L2.St}{γ:Γ}
def TVs.weakG {H1 g}:∀{ss}{vs:List V},Same H H1->TVs K Z H0 H1 g ss vs->TVs K Z H0 H g ss vs:=by
 intro ss
 induction ss with
 |nil=>
  intro _ _ h;cases h
  exact .nil
 |cons _ _ l=>
  intro _ f h;cases h with
  |cons h r=>
   exact .cons (TV.weak f (λ_ z=>z) h) (l f r)
def TVs.rps (g:Same H0 H'):∀{ss}{vs:List V},TVs K Z H0 H H' ss vs->Rps K H' (ss.map S.d) vs:=by
 intro ss
 induction ss with
 |nil=>
  intro _ h;cases h
  exact .nil
 |cons _ _ f=>
  intro _ h;cases h with
  |cons h r=>
   exact .cons (h.rp g) (f r)
theorem TVs.shd {ds:List D} (l:Same H0 H') (g:∀b,Z b->Mut (H b)) (n:Same H H'):∀{f vs}{ds:List D},TVs K Z H0 H H' f vs->f.map S.shd=ds.map some->Rps K (off Z H') ds vs
 |_,_,[],.nil,_=>.nil
 |_,_,_::_,.nil,e|_,_,[],.cons _ _,e=>by cases e
 |_,_,d::ds,.cons h r,e=>by
  rw[Qf,Qf,JG]at e;exact .cons (h.shd l g n e.1) (TVs.shd (ds:=ds) l g n r e.2)
def Rp.int_inv (h:Rp K H (.int i) v):v=.int i:=by cases h;rfl
def Rp.bl_inv (h:Rp K H (.bl b) v):v=.bl b:=by cases h;rfl
def Rp.str_inv (h:Rp K H (.str x) v):v=.str x:=by cases h;rfl
def Rp.non_inv (h:Rp K H .non v):v=.non:=by cases h;rfl
def Rp.ty_inv (h:Rp K H (.ty n) v):v=.ty n:=by cases h;rfl
noncomputable def Do(i:Nat):PTE:=λγ R _=>match γ[i]? with
 |some (some<|.own f)=>R (.view f)
 |some (some s)=>R s
 |_=>False
def Xt(i:Nat):Xu K mg E (KE i) (Do i):=by
 intro H0 B H σ γ R X Q f h q _;unfold Do at h;split at h
 ·rename_i o e;obtain⟨v,g,a,rfl,r,n⟩:=f.slot i _ e;exact⟨_,g,q _ _ H h (Same.refl _) ⟨a,rfl,n⟩⟩
 ·rename_i s p e;obtain⟨v,g,l⟩:=f.slot i _ e;refine⟨v,g,q _ _ H h (Same.refl _) ?_⟩;cases s with
  |bor d|sh d=>exact l
  |own o=>grind
  |_=>exact l.elim
 ·grind
noncomputable def pC(d:D):PTE:=λ_ R _=>R (.sh d)
def Sq(h:∀H,Rp K H d v):Xu K mg E (tC v) (pC d):=by
 intro H0 B H σ γ R X Q f p q _;exact q _ _ H p (Same.refl _) (h _)
def X2:Xu K mg E (tC<|.int i) (pC<|.int i):=Sq λ_=>.int i
def Ng:Xu K mg E (tC<|.bl b) (pC<|.bl b):=Sq λ_=>.bl b
def Zru:Xu K mg E (tC .non) (pC .non):=Sq λ_=>.non
def NB:Xu K mg E (tC<|.str x) (pC<|.str x):=Sq λ_=>.str x
def Tr:Xu K mg E (tC<|.ty n) (pC<|.ty n):=Sq λ_=>.ty n
noncomputable def p2(a b:PTE)(f:S->S->(S->Prop)->Prop):PTE:=λγ R X=>a γ (λx=>b γ (λy=>f x y R) X) X
def PD{A w a b f}(Y:Xu K mg E A a)(U:Xu K mg E w b)(N:∀H0 H h Z x y v u R Q,Same H0 h->Same H h->(∀b,Z b->Mut (H b))->TV K Z H0 H h x v->TV K Z H0 H h y u->f x y R->(∀s z H',R s->Same h H'->TV K Z H0 H H' s z->Q z H')->r v u h Q) :
  Xu K mg E (tOp r A w) (p2 a b f):=by
 intro H0 B H σ γ R X Q l p q C;refine Y H0 B H σ γ _ X _ l p (λx v H1 h1 n L=>?_) C;have g:=l.grow n;refine U H0 B H1 σ γ _ X _ g h1 (λy u h h2 o J=>?_) λc H' T S'=>C c H' T (n.trans S');exact N H0 H h _ x y v u R Q (g.same.trans o) (n.trans o) l.zm (L.grow o) (TV.weak n (λ_ z=>z) J) h2 λs z H' M S3 G=>q s z H' M ((n.trans o).trans S3) G
def fI0(g:Int->Int->D):S->S->(S->Prop)->Prop:=λx y R=>match x.d,y.d with
 | .int i,.int j=>R (.sh<|g i j)
 |_,_=>False
def fI(C:Int->Int->Prop)(g:Int->Int->D):S->S->(S->Prop)->Prop:=λx y R=>match x.d,y.d with
 | .int i,.int j=>C i j/\R (.sh<|g i j)
 |_,_=>False
def Fi{g'}{l f a b}(w:∀H i j,Rp K H (g' i j) (g i j))(A:Xu K mg E l a)(z:Xu K mg E f b):Xu K mg E (tOp (rI0 g) l f) (p2 a b<|fI0 g'):=by
 refine PD A z λH0 H J Z x y v u R Q n L M s r h q=>?_;unfold fI0 at h;have p:=s.rp n;have o:=r.rp n;split at h
 ·rename_i i j G C;rw[G]at p;rw[C]at o;exact⟨i,j,p.int_inv,o.int_inv,q _ _ J h (Same.refl _) (w _ i j)⟩
 ·grind
def FG{g r}{l f a b}(z:∀H i j,Rp K H (r i j) (g i j))(G:Xu K mg E l a)(A:Xu K mg E f b):Xu K mg E (tOp (rI C g) l f) (p2 a b<|fI C r):=by
 refine PD G A λH0 H M Z x y v u R Q n N T w s h q=>?_;unfold fI at h;have p:=w.rp n;have o:=s.rp n;split at h
 ·rename_i i j L J;rw[L]at p;rw[J]at o;exact⟨i,j,p.int_inv,o.int_inv,h.1,q _ _ M h.2 (Same.refl _) (z _ i j)⟩
 ·grind
section
variable {ta tb tc:TE}{a b c:PTE}
def XQ(g:Xu K mg E ta a)(f:Xu K mg E tb b):Xu K mg E (tOp (rI0 λi j=>.int (i+j)) ta tb) (p2 a b (fI0 λi j=>.int (i+j))):=Fi (λ_ _ _=>.int _) g f
def Km(g:Xu K mg E ta a)(f:Xu K mg E tb b):Xu K mg E (tOp (rI0 λi j=>.int (i-j)) ta tb) (p2 a b (fI0 λi j=>.int (i-j))):=Fi (λ_ _ _=>.int _) g f
def Np(g:Xu K mg E ta a)(f:Xu K mg E tb b):Xu K mg E (tOp (rI CMul λi j=>.int (i*j)) ta tb) (p2 a b (fI CMul λi j=>.int (i*j))):=FG (λ_ _ _=>.int _) g f
def Ks(g:Xu K mg E ta a)(f:Xu K mg E tb b):Xu K mg E (tOp (rI CK λi j=>.int (i / j)) ta tb) (p2 a b (fI CK λi j=>.int (i / j))):=FG (λ_ _ _=>.int _) g f
def XM(g:Xu K mg E ta a)(f:Xu K mg E tb b):Xu K mg E (tOp (rI (λ_ j=>0<j) λi j=>.int (i % j)) ta tb) (p2 a b (fI (λ_ j=>0<j) λi j=>.int (i % j))):=FG (λ_ _ _=>.int _) g f
def CD(g:Xu K mg E ta a)(f:Xu K mg E tb b):Xu K mg E (tOp (rI Dn λi j=>.int (i ^ j.toNat)) ta tb) (p2 a b (fI Dn λi j=>.int (i ^ j.toNat))):=FG (λ_ _ _=>.int _) g f
def Pa(g:Xu K mg E ta a)(f:Xu K mg E tb b):Xu K mg E (tOp (rI0 λi j=>.bl (decide (i<j))) ta tb) (p2 a b (fI0 λi j=>.bl (decide (i<j)))):=Fi (λ_ _ _=>.bl _) g f
def KA(g:Xu K mg E ta a)(f:Xu K mg E tb b):Xu K mg E (tOp (rI0 λi j=>.bl (decide (j<i))) ta tb) (p2 a b (fI0 λi j=>.bl (decide (j<i)))):=Fi (λ_ _ _=>.bl _) g f
def SA(g:Xu K mg E ta a)(f:Xu K mg E tb b):Xu K mg E (tOp (rI0 λi j=>.bl (decide (j<=i))) ta tb) (p2 a b (fI0 λi j=>.bl (decide (j<=i)))):=Fi (λ_ _ _=>.bl _) g f
def fEq(neg:Bool):S->S->(S->Prop)->Prop:=λx y R=>match x.d,y.d with
 | .int i,.int j=>R (.sh<|.bl (if neg then !decide (i=j)else decide (i=j)))
 | .str i,.str j=>R (.sh<|.bl (if neg then !decide (i=j)else decide (i=j)))
 | .bl i,.bl j=>R (.sh<|.bl (if neg then !decide (i=j)else decide (i=j)))
 |_,_=>False
def SU{g h:Type}[DecidableEq g][DecidableEq h]{f:g->h}(l:∀a b,f a=f b->a=b)(a b:g):decide (f a=f b)=decide (a=b):=by grind
def fIx:S->S->(S->Prop)->Prop:=λx y R=>match x.d,y.d with
 | .lst g,.int k=>∃d,atI g k=some d/\R (x.sub d)
 | .tup g,.int k=>∃d,atI g k=some d/\R (x.sub d)
 | .scr f,.int k=>∃i,atI f k=some i/\R (.sh<|.int i)
 | .fL f,.int k=>∃i,atI f k=some i/\R (.sh<|.int i)
 |_,_=>False
def Lc{P:D->V->Prop}(f:vs.length=ds.length)(h:∀(i:Nat) d,ds[i]?=some d->∃u,vs[i]?=some u/\P d u)(e:atI ds k=some d):∃u,atI vs k=some u/\P d u:=by
 unfold atI at e ⊢;cases q:ixN ds.length k with
 |_=>grind
def XW(ha:Xu K mg E ta a)(hb:Xu K mg E tb b):Xu K mg E (tOp (λx y H Q=>Sg K x y H Q\/SQ K x y H Q) ta tb) (p2 a b fIx):=by
 refine PD ha hb λH0 H s Z x y v u R Q r Y hm A U h q=>?_;unfold fIx at h;have f:=U.rp r;obtain⟨pl,pt⟩:=A.part r hm Y;split at h
 ·rename_i T k o n;rw[n]at f;obtain⟨d,hd,g⟩:=h;obtain⟨l,w,rfl,M,L,J⟩:=pl T o;obtain⟨z,C,tz⟩:=Lc L J hd;exact .inl ⟨l,w,k,z,rfl,f.int_inv,SqL.of M,C,q _ _ s g (Same.refl _) tz⟩
 ·rename_i T k o n;rw[n]at f;obtain⟨d,hd,g⟩:=h;obtain⟨l,w,rfl,M,L,J⟩:=pt T o;obtain⟨z,C,tz⟩:=Lc L J hd;exact .inr ⟨l,w,k,z,rfl,f.int_inv,SqT.of M,C,q _ _ s g (Same.refl _) tz⟩
 ·rename_i ns k o n;rw[n]at f;obtain⟨i,N,g⟩:=h;have p:=A.rp r;rw[o]at p;cases p with
  |scr G=>exact .inl ⟨_,_,k,.int i,rfl,f.int_inv,G,T5 N,q _ _ s g (Same.refl _) (.int i)⟩
 ·rename_i ns k o n;rw[n]at f;obtain⟨i,N,g⟩:=h;have p:=A.rp r;rw[o]at p;cases p with
  |fL G=>exact .inl ⟨_,_,k,.int i,rfl,f.int_inv,.inl (.inr ⟨_,G⟩),T5 N,q _ _ s g (Same.refl _) (.int i)⟩
 ·exact h.elim
noncomputable def Ze3(a b:PTE):PTE:=λγ R X=>a γ (λx=>match x.d with | .bl c=>if c=true then b γ R X else R (.sh<|.bl false)|_=>False) X
noncomputable def MC(a:PTE):PTE:=λγ R X=>a γ (λx=>match x.d with | .bl c=>R (.sh<|.bl (!c))|_=>False) X
def BF(C:Xu K mg E ta a)(A:Xu K mg E tb b):Xu K mg E (IY ta tb) (Ze3 a b):=by
 intro H0 B H σ γ R X Q h p q r;refine C H0 B H σ γ _ X _ h p (λx v H1 n l w=>?_) r;have f:=h.grow l;have o:=w.rp f.same;split at n
 ·rename_i c J;rw[J]at o;refine⟨c,o.bl_inv,?_⟩;split at n
  ·rename_i g;rw[WT g];exact A H0 B H1 σ γ _ X _ f n (λy u N G L s=>q y u N G (l.trans L) (TV.weak l (λ_ z=>z) s)) λc H' g M=>r c H' g (l.trans M)
  ·rename_i g;rw[WS g];exact q _ _ H1 n l (.bl _)
 ·grind
def Ou(r:Xu K mg E ta a):Xu K mg E (M1 ta) (MC a):=by
 intro H0 B H σ γ R X Q f p q o;refine r H0 B H σ γ _ X _ f p (λx v H1 h l n=>?_) o;have g:=n.rp (f.grow l).same;split at h
 ·rename_i c s;rw[s]at g;exact⟨c,g.bl_inv,q _ _ H1 h l (.bl _)⟩
 ·grind
noncomputable def Zhk(a:PTE):PTE:=λγ R X=>a γ (λx=>match x.d with | .int i=>R (.sh<|.int (-i))|_=>False) X
def KM(r:Xu K mg E ta a):Xu K mg E (tUn (rU λi=>.int (-i)) ta) (Zhk a):=by
 intro H0 B H σ γ R X Q f p q o;refine r H0 B H σ γ _ X _ f p (λx v H1 h l n=>?_) o;have g:=n.rp (f.grow l).same;split at h
 ·rename_i c s;rw[s]at g;exact⟨c,g.int_inv,q _ _ H1 h l (.int _)⟩
 ·grind
noncomputable def Se(a:PTE):PTT:=λγ R X=>a γ (λx=>match x.d with | .bl c=>R c|_=>False) X
def PP(r:Xu K mg E ta a):KL K mg E (Av ta) (Se a):=by
 intro H0 B H σ γ R X Q f p q o;refine r H0 B H σ γ _ X _ f p (λx v H1 h l n=>?_) o;have g:=n.rp (f.grow l).same;split at h
 ·rename_i c s;rw[s]at g;exact⟨c,g.bl_inv,q _ H1 h l⟩
 ·grind
def Zi0(f:Xu K mg E ta a):KL K mg E (tB ta) (Se a):=PP f
variable {sa sb:TT}{pa pb:PTT}
noncomputable def OD(a b:PTT):PTT:=λγ R X=>a γ (λc=>if c=true then b γ R X else R false) X
noncomputable def pOr(a b:PTT):PTT:=λγ R X=>a γ (λc=>if c=true then R true else b γ R X) X
noncomputable def HQ(a:PTT):PTT:=λγ R X=>a γ (λc=>R (!c)) X
def Zrp(r:KL K mg E sa pa)(o:KL K mg E sb pb):KL K mg E (Ir sa sb) (OD pa pb):=by
 intro H0 B H σ γ R X Q f p q l;refine r H0 B H σ γ _ X _ f p (λc H1 n h=>?_) l;split at n
 ·rename_i g;rw[WT g];exact o H0 B H1 σ γ _ X _ (f.grow h) n (λy w s u=>q y w s (h.trans u)) λc H' g v=>l c H' g (h.trans v)
 ·grind
def Zk8(r:KL K mg E sa pa)(o:KL K mg E sb pb):KL K mg E (tOr sa sb) (pOr pa pb):=by
 intro H0 B H σ γ R X Q f p q l;refine r H0 B H σ γ _ X _ f p (λc H1 n h=>?_) l;split at n
 ·grind
 ·rename_i g;rw[WS g];exact o H0 B H1 σ γ _ X _ (f.grow h) n (λy w s u=>q y w s (h.trans u)) λc H' g v=>l c H' g (h.trans v)
def Zfk(h:KL K mg E sa pa):KL K mg E (DO sa) (HQ pa):=by
 intro H0 B H σ γ R X Q f p q g;exact h H0 B H σ γ _ X _ f p (λc H1 l n=>q _ H1 l n) g
end
noncomputable def Nk:PTA:=λ_ R _=>R []
noncomputable def Pn(a:PTE)(r:PTA):PTA:=λγ R X=>a γ (λs=>r γ (λf=>R (s::f)) X) X
def XF:XI K mg E KR Nk:=by
 intro H0 B H σ γ R X Q f p q _;exact q _ _ H p (Same.refl _) .nil
def K6{a r}(y:Xu K mg E te a)(w:XI K mg E n r):XI K mg E (Kp te n) (Pn a r):=by
 intro H0 B H σ γ R X Q f p q h;refine y H0 B H σ γ _ X _ f p (λs v H1 A g u=>?_) h;refine w H0 B H1 σ γ _ X _ (f.grow g) A (λL J G z l o=>?_) λc H' x C=>h c H' x (g.trans C);exact q _ _ G z (g.trans l) (.cons (u.grow l)<|TVs.weakG g o)
noncomputable def Bo:List S->Option (List D)
 |[]=>some []
 |s::r=>match s.shd,Bo r with
  |some d,some f=>some (d::f)
  |_,_=>none
theorem CN:∀{ss}{ds:List D},Bo ss=some ds->ss.map S.shd=ds.map some
 |[],ds,h=>by cases h;rfl
 |s::r,ds,h=>by
  unfold Bo at h;split at h
  ·rename_i d l g f;cases h
   rw[Qf,Qf,g,CN f]
  ·grind
noncomputable def Rj(r:PTA):PTE:=λγ R X=>r γ (λg=>match Bo g with|some f=>f.length<=1000/\R (.sh<|.tup f)|none=>False) X
noncomputable def O3(r:PTA):PTE:=λγ R X=>r γ (λg=>match Bo g with|some f=>f.length<=1000/\R (.own f)|none=>False) X
def Gb(h:n<=1000):n<=sizeLine:=Ja (Zdc h)
def PJ(A:XI K mg E w r):Xu K mg E (Cj w) (Rj r):=by
 intro H0 B H σ γ R X Q g p q y;refine A H0 B H σ γ _ X _ g p (λC v H1 h n x=>?_) y;split at h
 ·rename_i ds e;have f:=g.grow n;have rp:=x.shd (ds:=ds) f.same g.zm n (CN e);refine⟨by rw[rp.len];exact Gb h.1,λl s=>?_⟩;have u:=Ki (o:=.tup v) s;refine q _ _ _ h.2 (n.trans u) (.tup (XY XG λz=>?_)<|Rps.mono (XA u λ_ _ _ z=>z) rp)
  have:=f.zm l z
  rw[s]at this;exact this
 ·grind
def N5{H H1 l vs ds}(h:Same H H1)(f:H1 l=none)(rp:Rps K (off Z H1) ds vs):TV K Z H0 H (upd H1 l<|.lst vs) (.own ds) (.ref l):=
 ⟨l,rfl,(λ_ e=>e▸h.free f),vs,XG,Rps.mono (XA (Ki f) λb o g z y=>y.elim z λe=>by rw[e,f]at g;cases g) rp⟩
def PB(v:XI K mg E o r):Xu K mg E (M2 o) (O3 r):=by
 intro H0 B H σ γ R X Q f p q u;refine v H0 B H σ γ _ X _ f p (λx w H1 h g s=>?_) u;split at h
 ·rename_i ds e;have rp:=s.shd (ds:=ds) (f.grow g).same f.zm g (CN e);refine⟨by rw[rp.len];exact Gb h.1,λl n=>?_⟩;exact q _ _ _ h.2 (g.trans<|Ki n) (N5 g n rp)
 ·grind
abbrev Pc:=List D->(S->Prop)->XR->Prop
noncomputable def X0(mg:Yi)(c:Pc)(K:Ye):Sp:=λg H Q E=>∃f R X,Rps K H f g/\c f R X/\(∀s v H',R s->Same H H'->TV K (λb=>Mut (H b)) H H H' s v->Q v H')/\∀e H',X e->Same H H'->XE mg E e H'
noncomputable def S.back:S->S
 | .bor d=>Pm d | .view o=>.tmp o.d|s=>s
def TV.back (env:Xz K H0 B H1 σ γ) (o:Same H H1) (f:Same H1 H') (h:TV K (λb=>Mut (H1 b)) H1 H1 H' s v):TV K (zof B γ σ) H0 H H' s.back v:=by
 cases s with
 |bor d=>exact T7 (λb z=>Tg f (env.zm b z)) (Rp.mono f h)
 |sh d=>exact Rp.mono (XA (Same.refl _) λb _ _ z y=>z (env.zm b y)) h
 |own n=>
  obtain⟨a,rfl,l,r⟩:=h;exact⟨a,rfl,(λb g=>o.free (l b g)),r.mono (XA (Same.refl _) λb _ _ z y=>z (y.imp (env.zm b) id)) λ_ _ _ q=>q⟩
 |view n=>
  obtain⟨a,rfl,r⟩:=h;exact r.rp off_sub
 |tmp d=>exact h
noncomputable def Gy(c:Pc)(r:PTA):PTE:=λγ R X=>r γ (λf=>c (f.map S.d) (λs=>R s.back) λ_=>False) X
noncomputable def IJ(c:Pc)(r:PTA):PTE:=λγ R X=>r γ (λf=>c (f.map S.d) (λs=>R s.back) X) X
def TM{l r}(y:XI K mg E l r):Xu K mg E (N0 (X0 mg c K) [] E0 l) (Gy c r):=by
 intro H0 B H σ γ R X Q g p q w;refine y H0 B H σ γ _ X _ g p (λG C H1 A h u=>?_) w;rw[Q8];have f:=g.grow h;exact⟨_,_,_,u.rps f.same,A,λs v H' x n o=>q _ _ H' x (h.trans n) (o.back f h n),λ_ _ z=>z.elim⟩
def Zgm{o r n}(z:XI K mg (λ_=>n) o r):Xu K mg (λ_=>n) (N0 (X0 mg c K) [] n o) (IJ c r):=by
 intro H0 B H σ γ R X Q g p q u;refine z H0 B H σ γ _ X _ g p (λJ G H1 C l x=>?_) u;rw[Q8];have f:=g.grow l;exact⟨_,_,X,x.rps f.same,C,λs v H' y h w=>q _ _ H' y (l.trans h) (w.back f l h),λe H' A h=>u e H' A (l.trans h)⟩
def Xz.set {s f}{v} (l:Xz K H0 B H σ γ) (g:Same H H') (h:TV K (zof B γ σ) H0 H H' s v) (e:s.slot=some f) :
  Xz K H0 B H' (σ.set i<|some v) (γ.set i<|some f)/\Fr B H σ γ H' (σ.set i<|some v) (γ.set i<|some f):=by
 by_cases n:i<γ.length
 ·exact l.put g h e n
 ·rw[List.set_eq_of_length_le (by rw[l.len];lia),List.set_eq_of_length_le (by lia)];exact⟨l.grow g,Fr.grow g⟩
def Upd(g:Yl)(σ f:L2.St):Prop:=(∀j,j∉g->f[j]?=σ[j]?)/\f.length=σ.length
def Nm(K:Ye)(h:Yl)(t:TG)(p:PTG):Prop:=∀(H0:Hp) (B:Addr->Prop) (H H':Hp) (σ:L2.St) (γ:Γ) (s:S) (v:V) (R:Γ->Prop) (Q:L2.St->Hp->Prop),Xz K H0 B H σ γ->Same H H'->TV K (zof B γ σ) H0 H H' s v->p s γ R->
 (∀f g,R g->Xz K H0 B H' f g->Fr B H σ γ H' f g->Upd h σ f->Q f H')->t v σ H' Q
noncomputable def Bz(i:Nat):PTG:=λs γ R=>match s.slot with|some f=>R (γ.set i<|some f)|none=>False
def Ko(i:Nat):Nm K [i] (Sn i) (Bz i):=by
 intro H0 B H H' σ γ s v R Q f n g p q;unfold Bz at p;split at p
 ·rename_i o e;obtain⟨l,f1⟩:=f.set n g e;exact q _ _ p l f1 ⟨λj h=>Tw λz=>h (by grind),QM⟩
 ·grind
noncomputable def Hj:Sj:=λf γ R=>match f with|[]=>R γ|_=>False
noncomputable def OQ(g:PTG)(r:Sj):Sj:=λh γ R=>match h with|s::t=>g s γ λf=>r t f R|[]=>False
def TV.notown {σ'}{γ'}{Hb} (f:Fr B H σ γ H' σ' γ') (g:Same H H') (n:∀ds,s≠.own ds) (l:∀ds,s≠.view ds) (h:TV K (zof B γ σ) H0 Hb H s v):TV K (zof B γ' σ') H0 H' H' s v:=by
 cases s with
 |bor d=>exact h
 |sh d=>exact Rp.mono f.off h
 |tmp d=>exact Rp.mono g h
 |_=>grind
def TVs.notown (f:Fr B H σ γ H g l):∀{ss}{vs:List V},(∀s∈ss,∀ds,s≠.own ds/\s≠.view ds)->TVs K (zof B γ σ) H0 u H ss vs->TVs K (zof B l g) H0 H H ss vs:=by
 intro ss
 induction ss with
 |nil=>
  intro _ _ h;cases h
  exact .nil
 |cons _ _ o=>
  intro _ n h;cases h with
  |cons h r=>
   exact .cons (h.notown f (Same.refl _) (λds=>(n _ Q2 ds).1) λds=>(n _ Q2 ds).2) (o (λs p=>n s (Qk _ p)) r)
def Gn(d:D):arg d=.sh d\/arg d=.bor d:=by unfold arg;cases imm d<;>simp
def IU(d:D):Pm d=.sh d\/Pm d=.tmp d:=by unfold Pm;cases imm d<;>simp
def G5(s:S)(d:D):∀ds,s.sub d≠.own ds/\s.sub d≠.view ds:=λds=>by
 cases s with
 |bor b=>rcases Gn d with e|e<;>(show arg d≠_/\arg d≠_;rw[e];exact⟨(λz=>by cases z),(λz=>by cases z)⟩)
 |tmp b=>rcases IU d with e|e<;>(show Pm d≠_/\Pm d≠_;rw[e];exact⟨(λz=>by cases z),(λz=>by cases z)⟩)
 |sh b=>exact⟨(λz=>by cases z),(λz=>by cases z)⟩
 |own b|view b=>
  cases b with
  |nst f|nsl a f=>rcases IU d with e|e<;>(show Pm d≠_/\Pm d≠_;rw[e];exact⟨(λz=>by cases z),(λz=>by cases z)⟩)
  |_=>exact⟨(λz=>by cases z),(λz=>by cases z)⟩
def Bj(K:Ye)(o:Yl)(t:TGs)(p:Sj):Prop:=∀(H0:Hp) (B:Addr->Prop) (H:Hp) (σ:L2.St) (γ:Γ) (h:List S) (l:List V) (R:Γ->Prop) (Q:L2.St->Hp->Prop),Xz K H0 B H σ γ->TVs K (zof B γ σ) H0 H H h l->(∀s∈h,∀n,s≠.own n/\s≠.view n)->p h γ R->
 (∀f g,R g->Xz K H0 B H f g->Fr B H σ γ H f g->Upd o σ f->Q f H)->t l σ H Q
def Cg:Bj K [] HH Hj:=by
 intro H0 B H σ γ l h R Q f g n p q;cases g with
 |nil=>exact⟨rfl,q _ _ p f Fr.refl ⟨λ_ _=>rfl,rfl⟩⟩
 |cons _ _=>exact p.elim
def By{g r x w}(U:Nm K N g x)(T:Bj K M r w):Bj K (N++M) (RU g r) (OQ x w):=by
 intro H0 B H σ γ ss vs R Q v J y p q;cases J with
 |nil=>exact p.elim
 |cons h t=>
  refine⟨_,_,rfl,U H0 B H H σ γ _ _ _ _ v (Same.refl _) h p λl o L e1 f1 C=>?_⟩;refine T H0 B H l o _ _ _ _ e1 (TVs.notown f1 (λs u=>y s (Qk _ u)) t) (λs u=>y s (Qk _ u)) L λf n p2 e2 Y A=>?_;exact q f n p2 e2 (f1.trans Y) ⟨λj G=>(A.1 j λz=>G (Qr _ z)).trans (C.1 j λz=>G (QU _ z)),A.2.trans C.2⟩
noncomputable def AR(n:Nat)(r:Sj):PTG:=λs γ R=>match s.d with | .tup f=>f.length=n/\r (f.map s.sub) γ R|_=>False
theorem TVs.of_part {ds:List D}{s:S}:∀{vs}{ds:List D},vs.length=ds.length->(∀(i:Nat) d,ds[i]?=some d->∃u,vs[i]?=some u/\TV K Z H0 H H' (s.sub d) u)->TVs K Z H0 H H' (ds.map s.sub) vs
 |[],[],_,_=>.nil
 |[],_::_,e,_|_::_,[],e,_=>by cases e
 |v::vs,d::ds,e,h=>by
  obtain⟨u,g,f⟩:=h 0 d rfl;cases g
  exact .cons f (TVs.of_part (ds:=ds) (by grind) λi l hd=>by simpa using h (i+1) l (by grind))
def E8{y r x}(J:Bj K y r x):Nm K y (Di K n r) (AR n x):=by
 intro H0 B H H' σ γ s v R Q g u A p q;unfold AR at p;have f:=g.grow u;obtain⟨_,pt⟩:=A.part f.same g.zm u;split at p
 ·rename_i ds e;obtain⟨a,w,rfl,M,z,L⟩:=pt ds e;refine⟨a,w,rfl,SqT.of M,z.trans p.1,?_⟩;refine J H0 B H' σ γ _ w R Q f (TVs.notown (Fr.refl) (λC o ds=>?_)<|TVs.of_part (ds:=ds) z L) (λC o ds=>?_) p.2 λh l N T f1 G=>q h l N T (Fr.trans (Fr.grow u) f1) G
  ·obtain⟨d,_,rfl⟩:=Qq.mp o;exact G5 s d ds
  ·obtain⟨d,_,rfl⟩:=Qq.mp o;exact G5 s d ds
 ·grind
def FX.from {D p r} (e:FX K mg E H0 B H σ γ R D) (f:Fr B H σ γ H1 p r):FX K mg E H0 B H1 p r R D:=
 ⟨λg h H' o n l=>e.nx g h H' o n (f.trans l),e.rt,λg h c H' o n l=>e.ex g h c H' o n (f.trans l),λg h H' o n l=>e.bk g h H' o n (f.trans l),λg h H' o n l=>e.ct g h H' o n (f.trans l),λg h d v H' o n l=>e.rv g h d v H' o n (f.trans l)⟩
variable {te:TE}{a:PTE}{tt:TT}{c:PTT}{t u:TS}{p q:PTS}
noncomputable def Oo:PTS:=λR γ=>R.nx γ
def Aj:X7 K mg E GB Oo:=λ_ _ _ _ _ _ _ _ f h e=>e.nx _ _ _ h f Fr.refl
noncomputable def RO(p q:PTS):PTS:=λR γ=>p {R with nx:=q R} γ
def Ru(o:X7 K mg E t p)(hq:X7 K mg E u q):X7 K mg E (O5 t u) (RO p q):=by
 intro H0 B H σ γ R D n l h e;refine o H0 B H σ γ _ _ n l h ⟨λf g H' r s f1=>?_,e.rt,e.ex,e.bk,e.ct,e.rv⟩;exact hq H0 B H' f g R D n s r (e.from f1)
structure HS (p q:PTS) (R:Nv) (γ:Γ):Prop where
 w:∃J:Γ->Prop,p {R with nx:=J} γ/\∀γ',J γ'->q R γ'
noncomputable def Zae(p q:PTS):PTS:=λR γ=>HS p q R γ
def Zfj(s:X7 K mg E t p)(hq:X7 K mg E u q):X7 K mg E (LA t u) (Zae p q):=by
 intro H0 B H σ γ R D r n h e;obtain⟨J,h,k⟩:=h.w;refine⟨λg H'=>∃f,J f/\Xz K H0 B H' g f/\Fr B H σ γ H' g f,s H0 B H σ γ _ _ r n h ⟨λg f H' l o f1=>⟨f,l,o,f1⟩,e.rt,e.ex,e.bk,e.ct,e.rv⟩,?_⟩;rintro g H' ⟨f,l,o,f1⟩;exact hq H0 B H' g f R D r o (k f l) (e.from f1)
noncomputable def GI(i:Nat)(p:PTS):PTS:=λR γ=>p R (frz i γ)
def Znp(i:Nat)(l:X7 K mg E t p):X7 K mg E t (GI i p):=by
 intro H0 B H σ γ R D g f h e;obtain⟨n,f1⟩:=f.frz g i;exact l H0 B H σ _ R D g n h (e.from f1)
noncomputable def Ea(a:PTE)(g:PTG):PTS:=λR γ=>a γ (λs=>g s γ R.nx) (R.ex γ)
def T8(z:Xu K mg E te a)(x:Nm K M g w):X7 K mg E (NH te g) (Ea a w):=by
 intro H0 B H σ γ R D N f h e;refine z H0 B H σ γ _ _ _ f h (λs v H1 C L r=>?_) λc H' y o=>e.ex σ γ c H' y (f.grow o) (Fr.grow o);exact x H0 B H H1 σ γ s v _ _ f L r C λl n A J G _=>e.nx l n H1 A J G
noncomputable def D4(i:Nat)(f:Int->Int->Int)(a:PTE):PTS:=λR γ=>match γ[i]? with
 |some (some<|.sh<|.int x)=>a γ (λy=>match y.d with | .int j=>R.nx (γ.set i<|some<|.sh<|.int<|f x j)|_=>False) (R.ex γ)
 |_=>False
def Zdq(A:Xu K mg E te a):X7 K mg E (Hn i te<|ipI f) (D4 i f a):=by
 intro H0 B H σ γ R D M g h e;unfold D4 at h;split at h
 ·rename_i x hx;obtain⟨v,G,C⟩:=g.slot i _ hx;refine⟨v,G,A H0 B H σ γ _ _ _ g h (λy u H1 n o w=>?_) λc H' z r=>e.ex σ γ c H' z (g.grow r) (Fr.grow r)⟩;have l:=w.rp (g.grow o).same;split at n
  ·rename_i j J;rw[J]at l;refine⟨x,j,Rp.int_inv C,l.int_inv,?_⟩;obtain⟨L,f1⟩:=g.set (s:=.sh (.int<|f x j)) o (.int _) rfl;exact e.nx _ _ H1 n L f1
  ·grind
 ·grind
noncomputable def R4(a:PTE):PTS:=λR γ=>a γ R.rt (R.ex γ)
def Aa(o:Xu K mg E te a):X7 K mg E (SY te) (R4 a):=by
 intro H0 B H σ γ R D x f h e;refine o H0 B H σ γ _ _ _ f h (λs v H1 r w l=>?_) λc H' n g=>e.ex σ γ c H' n (f.grow g) (Fr.grow g);exact e.rt s v H1 r (f.same.trans w) (TV.weak f.same (λb z=>.inl z) l)
noncomputable def DQ(i:Nat):PTS:=λR γ=>match γ[i]? with|some (some s)=>R.rt s|_=>False
def Zeq(i:Nat):X7 K mg E (SY<|KE i) (DQ i):=by
 intro H0 B H σ γ R D C f h e;unfold DQ at h;split at h
 ·rename_i s n;obtain⟨v,o,g⟩:=f.slot i _ n;refine⟨v,o,e.rt s v H h f.same ?_⟩;cases s with
  |bor d=>exact g
  |sh d=>exact Rp.mono (XA (Same.refl _) λb _ _ z y=>z (.inl y)) g
  |own r=>
   obtain⟨l,rfl,A,x⟩:=g;exact⟨l,rfl,A,x.mono (XA (Same.refl _) λb _ _ z y=>z (y.elim .inl λw=>.inr ⟨i,r,l,n,o,w⟩)) λ_ _ _ q=>q⟩
  |view r=>exact g.elim
  |tmp d=>trivial
 ·grind
noncomputable def IQ(c:PTT)(p q:PTS):PTS:=λR γ=>c γ (λb=>if b=true then p R γ else q R γ) (R.ex γ)
def Zqa(l:KL K mg E tt c)(v:X7 K mg E t p)(hq:X7 K mg E u q):X7 K mg E (E2 tt t u) (IQ c p q):=by
 intro H0 B H σ γ R D r f h e;refine l H0 B H σ γ _ _ _ f h (λb H1 o g=>?_) λc H' l s=>e.ex σ γ c H' l (f.grow s) (Fr.grow s);split at o
 ·rename_i n;rw[WT n];exact v H0 B H1 σ γ R D r (f.grow g) o (e.from<|Fr.grow g)
 ·rename_i n;rw[WS n];exact hq H0 B H1 σ γ R D r (f.grow g) o (e.from<|Fr.grow g)
noncomputable def RE(a:PTE):PTS:=λR γ=>a γ (λ_=>R.nx γ) (R.ex γ)
def SM(o:Xu K mg E te a):X7 K mg E (Fg te) (RE a):=by
 intro H0 B H σ γ R D x f h e;exact o H0 B H σ γ _ _ _ f h (λs v H1 r g w=>e.nx σ γ H1 r (f.grow g) (Fr.grow g)) λc H' n l=>e.ex σ γ c H' n (f.grow l) (Fr.grow l)
noncomputable def L4(x:Str)(r:PTA):PTS:=λR γ=>r γ (λf=>f.length<=1000/\R.ex γ x) (R.ex γ)
def TVs.len:∀{ss}{vs:List V},TVs K Z H0 H H' ss vs->vs.length=ss.length:=by
 intro ss
 induction ss with
 |nil=>
  intro _ h;cases h
  rfl
 |cons _ _ f=>
  intro _ h;cases h with
  |cons h r=>
   exact QA (· + 1) (f r)
def Zqr{l r g}(w:XI K mg (λ_=>g) l r)(hx:autoParam (NJ x=none) au_0):X7 K mg (λ_=>g) (ExcR.OF (ExcR.Xx mg x) g l) (L4 x r):=by
 intro H0 B H σ γ R D C f h e;refine w H0 B H σ γ _ _ _ f h (λA z H1 n o v=>⟨?_,?_⟩) λc H' y s=>e.ex σ γ c H' y (f.grow s) (Fr.grow s)
 ·rw[v.len];exact Gb n.1
 ·exact(e.ex σ γ x H1 n.2 (f.grow o)<|Fr.grow o).plain hx
def Zsq(i j:Nat)(γ:Γ)(R:Γ->Prop):List S->Prop
 |[.sh d,.sh e]=>R ((γ.set i<|some<|.sh d).set j (some<|.sh e))
 |_=>False
noncomputable def clr:Yl->Γ->Γ
 |[],γ=>γ
 |i::r,γ=>clr r (γ.set i none)
theorem Xz.clr:∀f {γ:Γ},Xz K H0 B H σ γ->Xz K H0 B H σ (clr f γ)/\Fr B H σ γ H σ (Pu.clr f γ)
 |[],_,e=>⟨e,Fr.refl⟩
 |i::r,γ,e=>by
  obtain⟨l,f1⟩:=e.drop i;obtain⟨h,g⟩:=Xz.clr r l;exact⟨h,f1.trans g⟩
def Later(H0:Hp)(Z:Addr->Prop)(H1:Hp)(Z':Addr->Prop)(H':Hp):Prop:=Same H0 H'/\(∀b,Z' b->Mut (H' b))/\∀b o,H1 b=some o->¬Z b->H' b=some o/\¬Z' b
def Later.of (e:Xz K H0 B H' g h) (f:Fr B H1 σ γ H' g h):Later H0 (zof B γ σ) H1 (zof B h g) H':=⟨e.same,e.zm,f⟩
def Later.off (l:Later H0 Z H1 Z' H'):Same (off Z H1) (Pu.off Z' H'):=λb o h=>by
 obtain⟨r,n⟩:=Ts h;obtain⟨g,f⟩:=l.2.2 b o r n;exact XY g f
structure My (K:Ye) (H0:Hp) (B:Addr->Prop) (H1:Hp) (σ:L2.St) (γ:Γ) (J:It) (n:Nat) (item:Nat->S):Prop where
 go:∀(i:Nat) (H':Hp) (Z':Addr->Prop),i<n->Later H0 (zof B γ σ) H1 Z' H'->J.go i H'/\∀x H'',J.yld i H' x H''->Same H' H''/\TV K Z' H0 H' H'' (item i) x
 stop:∀(H':Hp) (Z':Addr->Prop),Later H0 (zof B γ σ) H1 Z' H'->J.stop n H'
abbrev PTI:=Γ->(Nat->(Nat->S)->Prop)->XR->Prop
def SndI(K:Ye)(mg:Yi)(E:L2.St->XK)(f:TI)(g:PTI):Prop:=∀(H0:Hp) (B:Addr->Prop) (H:Hp) (σ:L2.St) (γ:Γ) (R:Nat->(Nat->S)->Prop) (X:XR) (Q:It->Hp->Prop),Xz K H0 B H σ γ->g γ R X->
 (∀n item J H1,R n item->Same H H1->My K H0 B H1 σ γ J n item->Q J H1)->(∀c H',X c->Same H H'->XE mg (E σ) c H')->f σ H Q
structure DC (js:Yl) (γ:Γ) (g:PTG) (body:PTS) (R:Nv) (n:Nat) (item:Nat->S):Prop where
 w:∃inv:Nat->Γ->Prop,inv 0 (clr js γ)/\
 (∀i γ',i<n->inv i γ'->g (item i) γ' λγ2=>body {R with nx:=λγ3=>inv (i+1) (clr js γ3),ct:=λγ3=>inv (i+1) (clr js γ3),bk:=R.nx} γ2)/\∀γ',inv n γ'->R.nx γ'
noncomputable def L3(f:Yl)(h:PTI)(g:PTG)(body:PTS):PTS:=λR γ=>h γ (λn item=>DC f γ g body R n item) (R.ex γ)
def Zmy{wi g it pg}(M:Yl)(hi:SndI K mg E wi it)(hg:Nm K is g pg)(hb:X7 K mg E t p):X7 K mg E (HP wi g t) (L3 M it pg p):=by
 intro H0 B H σ γ R D hB Q h e;refine hi H0 B H σ γ _ _ _ Q h (λn item J H1 h1 S1 ok=>?_) λc H' hc S'=>e.ex σ γ c H' hc (Q.grow S') (Fr.grow S');obtain⟨Y,h0,hs,hd⟩:=h1.w;have L:=Q.grow S1;refine⟨λi m z H'=>m=n-i/\i<=n/\∃f,Y i f/\Xz K H0 B H' z f/\Fr B H1 σ γ H' z f,⟨n,by simp,QY _,_,h0,(L.clr M).1,(L.clr M).2⟩,?_⟩;rintro i m z H' ⟨rfl,hin,f,hi',e',f'⟩;by_cases N:i<n
 ·obtain⟨go,yl⟩:=ok.go i H' _ N (Later.of e' f');refine .inr ⟨go,λs H2=>∃r,Y (i+1) r/\Xz K H0 B H2 s r/\Fr B H1 σ γ H2 s r,λs H2 ⟨r,a1,a2,a3⟩=>⟨n-(i+1),by lia,rfl,N,r,a1,a2,a3⟩,λx U y=>?_⟩;obtain⟨S2,tv⟩:=yl x U y;refine hg H0 B H' U z f _ _ _ _ e' S2 tv (hs i f N hi') λs r q2 e2 f2 _=>?_;have fall:=f'.trans f2;refine hb H0 B U s r _ _ hB e2 q2 ⟨λl o T C A G=>?_,e.rt,λl o c T C A G=>e.ex l o c T C A ((Fr.grow S1).trans (fall.trans G)),λl o T C A G=>e.nx l o T C A ((Fr.grow S1).trans (fall.trans G)),λl o T C A G=>?_,λl o d v T C A G=>e.rv l o d v T C A ((Fr.grow S1).trans (fall.trans G))⟩
  ·exact⟨_,C,(A.clr M).1,(fall.trans G).trans (A.clr M).2⟩
  ·exact⟨_,C,(A.clr M).1,(fall.trans G).trans (A.clr M).2⟩
 ·have:i=n:=by lia
  subst this;exact .inl ⟨ok.stop H' _ (Later.of e' f'),e.nx z f H' (hd f hi') e' ((Fr.grow S1).trans f')⟩
noncomputable def S.fix:S->Bool
 | .bor _=>true | .sh _=>true | .own (.nsl _ _)=>false | .own _=>true|_=>false
noncomputable def pIL(a:PTE):PTI:=λγ R X=>a γ (λs=>match s.d with
 | .lst g=>s.fix=true/\R g.length λi=>s.sub (g.getD i .non)
 | .scr f=>s.fix=true/\R f.length λi=>.sh (.int<|f.getD i 0)
 |_=>False) X
def TV.last (env:Xz K H0 B H σ γ) (J:Same H H1) (f:TV K (zof B γ σ) H0 H H1 s v) (A:s.fix=true) (hd:s.d=.lst ds):∃l vs,v=.ref l/\vs.length=ds.length/\
  ∀H' Z',Later H0 (zof B γ σ) H1 Z' H'->H' l=some (.lst vs)/\∀(i:Nat) d,ds[i]?=some d->∃u,vs[i]?=some u/\TV K Z' H0 H' H' (s.sub d) u:=by
 have g:∀{s:S},(∀d,s.sub d=.sh d)->Rp K (Pu.off (zof B γ σ) H1) (.lst ds) v->∃l vs,v=.ref l/\vs.length=ds.length/\
   ∀H' Z',Later H0 (zof B γ σ) H1 Z' H'->H' l=some (.lst vs)/\∀i d,ds[i]?=some d->∃u,vs[i]?=some u/\TV K Z' H0 H' H' (s.sub d) u:=λL h=>by
  obtain⟨l,vs,rfl,y,n⟩:=Rp.lst_inv h;refine⟨l,vs,rfl,n.len,λH' Z' lt=>⟨off_sub _ _ (lt.off _ _ y),λi d o=>?_⟩⟩;obtain⟨u,w,r⟩:=n.get o;refine⟨u,w,?_⟩;rw[L];exact Rp.mono lt.off r
 cases s with
 |bor d=>
  have f:=Rp.strip f;rw[show d.strip=.lst ds from hd]at f
  obtain⟨l,vs,rfl,y,n⟩:=Rp.lst_inv f;refine⟨l,vs,rfl,n.len,λH' Z' lt=>⟨lt.1 _ _ y,λi d o=>?_⟩⟩;obtain⟨u,w,r⟩:=n.get o;exact⟨u,w,NG lt.2.1 lt.1 r⟩
 |sh d=>
  have:=hd
  subst this;exact g (λ_=>rfl) f
 |own z=>
  cases z with
  |dK z|dT z|ins x C xs G|nst G=>cases hd
  |nsl a G=>cases A
  |_=>
   cases hd
   exact g (λ_=>rfl) (f.shd (env.grow J).same env.zm J rfl)
 |_=>cases A
def Znh(ha:Xu K mg E te a):SndI K mg E (B0 K te) (pIL a):=by
 intro H0 B H σ γ R X Q n h q qx;refine ha H0 B H σ γ _ X _ n h (λs v H1 r M o=>?_) qx;have f:=n.grow M;split at r
 ·rename_i Y C;obtain⟨l,G,rfl,hn,g⟩:=o.last n M r.1 C;obtain⟨N,_⟩:=g H1 _ (Later.of f Fr.refl);refine⟨l,rfl,⟨G,SqL.of N⟩,q _ _ _ H1 r.2 M ⟨λi H' Z' L lt=>?_,λH' Z' lt=>?_⟩⟩
  ·obtain⟨w,k2⟩:=g H' Z' lt;have hd:Y[i]?=some (Y.getD i .non):=by rw[WV,WJ L];rfl
   obtain⟨u,z,tu⟩:=k2 i _ hd;refine⟨⟨G,u,SqL.of w,z⟩,λx T y=>?_⟩;obtain⟨rfl,y⟩:=y
   have:=y G (SqL.of w)
   rw[z]at this;cases this
   exact⟨Same.refl _,tu⟩
  ·exact⟨G,SqL.of (g H' Z' lt).1,by lia⟩
 ·rename_i J C
  have A:∃l,v=.ref l/\∀H' Z',Later H0 (zof B γ σ) H1 Z' H'->SqL K H' l (J.map V.int):=by
   cases s with
   |bor d=>
    have o:=Rp.strip o;rw[show d.strip=.scr J from C]at o
    cases o with
    |scr A=>exact⟨_,rfl,λH' Z' lt=>lt.1.seq A⟩
   |sh d=>
    have:=C
    subst this;cases o with
    |scr A=>exact⟨_,rfl,λH' Z' lt=>off_sub.seq (lt.off.seq A)⟩
   |own U|view U=>cases U<;>cases C
   |tmp d=>cases r.1
  obtain⟨l,rfl,g⟩:=A;refine⟨l,rfl,⟨_,g H1 _ (Later.of f Fr.refl)⟩,q _ _ _ H1 r.2 M ⟨λi H' Z' L lt=>?_,λH' Z' lt=>?_⟩⟩
  ·have w:=g H' Z' lt
   have z:(J.map V.int)[i]?=some (.int<|J.getD i 0):=by
    rw[WX,WJ L,WV,WJ L];rfl
   refine⟨⟨_,_,w,z⟩,λx T y=>?_⟩;obtain⟨rfl,y⟩:=y
   have:=y _ w
   rw[z]at this;cases this
   exact⟨Same.refl _,.int _⟩
  ·exact⟨_,g H' Z' lt,by rw[WL];exact WU _⟩
 ·exact r.elim
def fR1(R:Nat->(Nat->S)->Prop):List D->Prop
 |[.int j]=>(-(2 ^ 62)<=j/\j<2 ^ 62)/\R j.toNat λi=>.sh (.int (0+(i:Int)))
 |_=>False
def fR2(R:Nat->(Nat->S)->Prop):List D->Prop
 |[.int i,.int j]=>(-(2 ^ 62)<=i/\i<2 ^ 62/\-(2 ^ 62)<=j/\j<2 ^ 62)/\R (j-i).toNat λk=>.sh (.int (i+(k:Int)))
 |_=>False
noncomputable def IC(r:PTA):PTI:=λγ R X=>r γ (λf=>fR1 R (f.map S.d)) X
noncomputable def RK(r:PTA):PTI:=λγ R X=>r γ (λf=>fR2 R (f.map S.d)) X
def Rps.one_inv (h:Rps K H [d] vs):∃v,vs=[v]/\Rp K H d v:=by
 cases h with
 |cons h r=>cases r;exact⟨_,rfl,h⟩
def Rps.two_inv (h:Rps K H [d,e] vs):∃v u,vs=[v,u]/\Rp K H d v/\Rp K H e u:=by
 cases h with
 |cons h r=>cases r with|cons f r=>cases r;exact⟨_,_,rfl,h,f⟩
def RM{lo n}:My K H0 B H1 σ γ (Itr lo n) n λi=>.sh (.int (lo+(i:Int))):=by
 refine⟨λi H' Z' f lt=>⟨f,λx g y=>?_⟩,λH' Z' lt=>WU _⟩;obtain⟨e,y⟩:=y;subst e y;exact⟨Same.refl _,.int _⟩
def Zp4(y:XI K mg E o r):SndI K mg E (RT o) (IC r):=by
 intro H0 B H σ γ R X Q g h q x;refine y H0 B H σ γ _ X _ g h (λC A H1 f n s=>?_) x;have l:=s.rps (g.grow n).same;unfold fR1 at f;split at f
 ·rename_i j z;rw[z]at l;obtain⟨v,rfl,w⟩:=l.one_inv;rw[w.int_inv];exact⟨j,rfl,f.1.1,f.1.2,q _ _ _ H1 f.2 n RM⟩
 ·grind
def Zpm(z:XI K mg E o r):SndI K mg E (OJ o) (RK r):=by
 intro H0 B H σ γ R X Q f h q y;refine z H0 B H σ γ _ X _ f h (λG C H1 g n s=>?_) y;have l:=s.rps (f.grow n).same;unfold fR2 at g;split at g
 ·rename_i i j A;rw[A]at l;obtain⟨v,u,rfl,x,w⟩:=l.two_inv;rw[x.int_inv,w.int_inv];exact⟨i,j,rfl,g.1,q _ _ _ H1 g.2 n RM⟩
 ·grind
structure Mr (js:Yl) (γ:Γ) (c:PTT) (body:PTS) (R:Nv):Prop where
 w:∃(inv:Γ->Prop) (μ:Γ->Nat),inv (clr js γ)/\∀γ',inv γ'->c γ' (λb=>if b=true then
  body {R with nx:=λγ3=>inv (clr js γ3)/\μ (clr js γ3)<μ γ',ct:=λγ3=>inv (clr js γ3)/\μ (clr js γ3)<μ γ',bk:=R.nx} γ' else R.nx γ') (R.ex γ')
noncomputable def Ho(f:Yl)(c:PTT)(body:PTS):PTS:=λR γ=>Mr f γ c body R
def Zlq(z:Yl)(L:KL K mg E tt c)(hb:X7 K mg E t p):X7 K mg E (Oy tt t) (Ho z c p):=by
 intro H0 B H σ γ R D hB G h e;obtain⟨C,J,h0,hs⟩:=h.w;refine⟨λm l H'=>∃f,m=J f/\C f/\Xz K H0 B H' l f/\Fr B H σ γ H' l f,⟨_,_,rfl,h0,(G.clr z).1,(G.clr z).2⟩,?_⟩;rintro m l H' ⟨f,rfl,hi,M,U⟩;refine L H0 B H' l f _ _ _ M (hs f hi) (λb H1 T S1=>?_) λc Q L S'=>e.ex l f c Q L (M.grow S') (U.trans<|Fr.grow S');have Y:=M.grow S1;have f1:=U.trans (Fr.grow S1);cases b with
 |false=>
  exact e.nx l f H1 T Y f1
 |true=>
  refine⟨λy N=>∃o,J o<J f/\C o/\Xz K H0 B N y o/\Fr B H σ γ N y o,λy N ⟨o,k,a1,a2,a3⟩=>⟨_,k,o,rfl,a1,a2,a3⟩,?_⟩;refine hb H0 B H1 l f _ _ hB Y T ⟨λg n A r s x=>?_,e.rt,λg n c A r s x=>e.ex g n c A r s (f1.trans x),λg n A r s x=>e.nx g n A r s (f1.trans x),λg n A r s x=>?_,λg n d v A r s x=>e.rv g n d v A r s (f1.trans x)⟩
  ·exact⟨_,r.2,r.1,(s.clr z).1,(f1.trans x).trans (s.clr z).2⟩
  ·exact⟨_,r.2,r.1,(s.clr z).1,(f1.trans x).trans (s.clr z).2⟩
end
section
variable {K:Ye}{mg:Yi}{E:L2.St->XK}{H0 H H1 H':Hp}{B Z Z':Addr->Prop}{σ:L2.St}{γ:Γ}
noncomputable def Ti(N:Yn)(ds:List D):Γ:=ds.map (λd=>some (arg d))++List.replicate (N.length-ds.length) none
def Zj8{ds vs}(r:Rps K H ds vs)(w:ds.length<=N.length):Xz K H (λb=>Mut (H b)) H (start N vs) (Ti N ds):=by
 have get:∀i s,(Ti N ds)[i]?=some (some s)->∃d,ds[i]?=some d/\s=arg d:=λi s h=>by
  unfold Ti at h;by_cases g:i<ds.length
  ·rw[Qw (by rw[WL];exact g),WX,WJ g]at h;exact⟨_,WJ g,(Qb<|Qb h).symm⟩
  ·rw[Qy (by rw[WL];lia),VJ]at h;split at h<;>cases h
 have noown:∀(i:Nat) f,(Ti N ds)[i]?≠some (some<|.own f):=λi f h=>by
  obtain⟨d,_,e⟩:=get i _ h;rcases Gn d with q|q<;>rw[q]at e<;>cases e
 refine⟨Same.refl _,?_,λb h=>h,λi j a x f u b h=>absurd h (noown i f),λi s h=>?_⟩
 ·unfold L2.start Ti;simp[r.len]
 ·obtain⟨d,hd,rfl⟩:=get i s h;obtain⟨v,n,o⟩:=r.get hd;refine⟨v,?_,?_⟩
  ·unfold L2.start;rw[Qw (by rw[WL];exact(Qg.mp n).1),WX,n];rfl
  ·have l:=NG (Z:=zof (λb=>Mut (H b)) (Ti N ds) (start N vs)) (H:=H) (λb z=>z.elim id λ⟨k,f,_,p,_⟩=>absurd p (noown k f)) (Same.refl _) o;rcases Gn d with q|q<;>rw[q]at l ⊢<;>exact l
def Zf5{t p vs Q y n}(h:X0 mg c K vs H Q y)(o:X7 K mg (λ_=>y) t p)(L:n<=N.length)(u:∀ds R X,c ds R X->ds.length=n/\p {nx:=λ_=>R (.sh .non),rt:=R,ex:=λ_ e=>X e} (Ti N ds)):t {nx:=λ_ H'=>Q .non H',rt:=Q} (start N vs) H:=by
 obtain⟨ds,R,X,r,C,x,G⟩:=h;obtain⟨e,u⟩:=u ds R X C;refine o H (λb=>Mut (H b)) H _ _ _ _ (λb z=>Nd z) (Zj8 r<|by lia) u ⟨λg l H' f w f1=>x _ _ H' f w.same .non,λs v H' f J A=>x s v H' f J A,λg l c H' f w f1=>G c H' f w.same,λ_ _ _ z=>z.elim,λ_ _ _ z=>z.elim,λ_ _ _ _ _ z=>z.elim⟩
def Zhl(h:X0 mg c K vs H Q l)(f:∀ds R X,c ds R X->ds.length=n):vs.length=n:=by
 obtain⟨ds,R,X,r,g,_⟩:=h;rw[r.len]
 grind
noncomputable def atP(φ:Yk)(γ:Γ):Γ:=φ.map λo=>o.bind λj=>(γ[j]?).join
structure BW (φ:Yk) (γ:Γ) (g:PTG) (c:PTT) (e:PTE) (n:Nat) (item:Nat->S) (R:S->Prop):Prop where
 w:n<=100000/\∃f:Nat->Option D,(∀i,i<n->g (item i) (atP φ γ) λγ2=>c γ2 (λb=>if b=true then e γ2 (λs=>∃d,s.shd=some d/\f i=some d) (λ_=>False)else f i=none) (λ_=>False))/\R (.own ((List.range n).filterMap f))
noncomputable def Gp(φ:Yk)(f:PTI)(g:PTG)(c:PTT)(e:PTE):PTE:=λγ R X=>f γ (λn item=>BW φ γ g c e n item R) X
def A6{i:Nat}{s}(h:(atP φ γ)[i]?=some (some s)):∃j,φ[i]?=some (some j)/\γ[j]?=some (some s):=by
 unfold atP at h;cases e:φ[i]? with
 |none=>grind
 |some o=>
  cases o with
  |_=>grind
theorem AK:∀{φ:Yk},(φ.filterMap id).Nodup->∀(i j k:Nat),φ[i]?=some (some k)->φ[j]?=some (some k)->i=j
 |[],_,i,_,_,h,_=>by simp at h
 |none::r,n,i,j,k,g,f=>by
  cases i with
  |zero=>simp at g
  |succ i=>
   cases j with
   |zero=>simp at f
   |succ j=>exact QA (· + 1) (AK (by simpa using n) i j k (by simpa using g)<|by simpa using f)
 |some m::r,n,i,j,k,g,f=>by
  have l:m∉r.filterMap id/\(r.filterMap id).Nodup:=by simpa using n
  have mem:∀{j:Nat},r[j]?=some (some k)->k∈r.filterMap id:=λh=>JR.mpr ⟨some k,Qj h,rfl⟩;cases i with
  |zero=>
   cases j with
   |zero=>rfl
   |succ j=>simp_all
  |succ i=>
   cases j with
   |zero=>simp_all
   |succ j=>exact QA (· + 1) (AK l.2 i j k (by simpa using g)<|by simpa using f)
def Ap{i j:Nat}(g:φ[i]?=some (some j)){v}(f:σ[j]?=some (some v)):(atStart φ σ)[i]?=some (some v):=by
 unfold atStart
 grind
def GY{L}(env:Xz K H0 B H σ γ)(s:H L=none):∀b o,H b=some o->¬zof B γ σ b->¬zof (λb=>zof B γ σ b\/b=L) (atP φ γ) (atStart φ σ) b:=λb o v z y=>by
 rcases y with(y|y)|⟨u,r,x,n,f,l⟩
 ·grind
 ·grind
 ·obtain⟨m,p,h⟩:=A6 n;obtain⟨w,g,_⟩:=env.slot m _ h;rw[Ap p g]at f;exact z (.inr ⟨m,r,x,h,by rw[g];exact QA some (Qb f),l⟩)
def Zh1{L}(env:Xz K H0 B H σ γ)(n:Same H H')(N:H L=none)(Q:∃w,H' L=some (.lst w))(r:(φ.filterMap id).Nodup) :
  Xz K H0 (λb=>zof B γ σ b\/b=L) H' (atStart φ σ) (atP φ γ):=by
 refine⟨env.same.trans n,by unfold atStart atP;simp,λb z=>?_,λi j a a' J es b h1 h2 Y G U T=>?_,λi s h=>?_⟩
 ·rcases z with z|rfl
  ·exact Tg n (env.zm b z)
  ·obtain⟨w,e⟩:=Q;rw[e];trivial
 ·obtain⟨k,g,f⟩:=A6 h1;obtain⟨l,C,A⟩:=A6 h2;obtain⟨v,p,_⟩:=env.slot k _ f;obtain⟨u,y,_⟩:=env.slot l _ A;rw[Ap g p]at Y;rw[Ap C y]at G
  have:=env.own k l a a' J es b f A (by grind) (by rw[y];exact QA some (Qb G)) U T
  subst this;exact AK r i j k g C
 ·obtain⟨k,g,f⟩:=A6 h;obtain⟨v,p,o⟩:=env.slot k _ f;have M:Same (off (zof B γ σ) H) (off (zof (λb=>zof B γ σ b\/b=L) (atP φ γ)<|atStart φ σ) H'):=XA n (GY env N);refine⟨v,Ap g p,?_⟩;cases s with
  |sh d=>exact Rp.mono M o
  |own J=>
   obtain⟨a,e1,e3,e4⟩:=o;exact⟨a,e1,e3,e4.mono M λb _ x=>n b x⟩
  |_=>exact o
def Sub.of {g:Yl} (h:f.length=σ.length) (n:∀j,j∉g->f[j]?=σ[j]?) (o:∀j∈g,∀v,σ[j]?≠some (some v)):Sub σ f:=⟨h,λi v e=>by
 by_cases l:i∈g
 ·grind
 ·rw[n i l];exact e⟩
structure Zel (K:Ye) (H0:Hp) (B:Addr->Prop) (H1:Hp) (σ:L2.St) (γ:Γ) (J:It) (n:Nat) (item:Nat->S):Prop where
 go:∀(i:Nat) (H':Hp) (Z':Addr->Prop),i<n->Same H1 H'->Later H0 (zof B γ σ) H1 Z' H'->J.go i H'/\∀x H'',J.yld i H' x H''->Same H' H''/\TV K Z' H0 H' H'' (item i) x
 stop:∀(H':Hp) (Z':Addr->Prop),Same H1 H'->Later H0 (zof B γ σ) H1 Z' H'->J.stop n H'
def SL(K:Ye)(mg:Yi)(E:L2.St->XK)(f:TI)(g:PTI):Prop:=∀(H0:Hp) (B:Addr->Prop) (H:Hp) (σ:L2.St) (γ:Γ) (R:Nat->(Nat->S)->Prop) (X:XR) (Q:It->Hp->Prop),Xz K H0 B H σ γ->g γ R X->
 (∀n item J H1,R n item->Same H H1->Zel K H0 B H1 σ γ J n item->Q J H1)->(∀c H',X c->Same H H'->XE mg (E σ) c H')->f σ H Q
def SndI.c (h:SndI K mg E g o):SL K mg E g o:=λH0 B H σ γ R X Q f p q l=>
 h H0 B H σ γ R X Q f p (λn item J H1 s u ok=>q n item J H1 s u ⟨λi H' Z' r _ lt=>ok.go i H' Z' r lt,λH' Z' _ lt=>ok.stop H' Z' lt⟩) l
noncomputable def OZ(a:PTE):PTI:=λγ R X=>a γ (λs=>match s.d with
 | .lst f=>R f.length λi=>s.sub (f.getD i .non)
 | .tup f=>False
 | .scr g=>R g.length λi=>.sh (.int<|g.getD i 0)
 |_=>False) X
def SB(ha:Xu K mg E te a):SL K mg E (B0 K te) (OZ a):=by
 intro H0 B H σ γ R X Q env h q qx;refine ha H0 B H σ γ _ X _ env h (λs v H1 h1 S1 A=>?_) qx;have M:=env.grow S1;split at h1
 ·rename_i ds G;have U:=A.rp M.same;rw[G]at U;obtain⟨l,T,rfl,f,r1⟩:=U.lst_inv;refine⟨l,rfl,⟨T,SqL.of f⟩,q _ _ _ H1 h1 S1 ⟨λi H' Z' hi J lt=>?_,λH' Z' J lt=>⟨T,SqL.of (J _ _ f),by rw[r1.len];exact WU _⟩⟩⟩;have hd:ds[i]?=some (ds.getD i .non):=by rw[WV,WJ hi];rfl
  have hi':∃u,T[i]?=some u/\TV K Z' H0 H' H' (s.sub<|ds.getD i .non) u:=by
   cases s with
   |bor d=>
    have A:=Rp.strip A;rw[show d.strip=.lst ds from G]at A
    obtain⟨N,o,w,r,p⟩:=Rp.lst_inv A;cases w
    rw[M.same _ _ r]at f;cases f
    obtain⟨u,n,g⟩:=p.get hd;exact⟨u,n,NG lt.2.1 lt.1 g⟩
   |sh d=>
    have:=G
    subst this;obtain⟨N,o,w,r,p⟩:=Rp.lst_inv A;cases w
    rw[off_sub _ _ r]at f;cases f
    obtain⟨u,n,g⟩:=p.get hd;exact⟨u,n,Rp.mono lt.off g⟩
   |own L=>
    cases L with
    |dK L|dT L|ins x C xs cs|nst cs=>cases G
    |nsl x cs=>
     obtain⟨u,n,g⟩:=r1.get hd;exact⟨u,n,T7 lt.2.1 (Rp.mono J g)⟩
    |lsA x L=>
     cases G
     obtain⟨N,w,h0,_,o,r,p⟩:=A;cases w
     rw[r]at f;cases f
     obtain⟨u,n,g⟩:=p.get hd;exact⟨u,n,Rp.mono lt.off (Rp.mono (XA (Same.refl _) λb _ _ z y=>z (.inl y)) g)⟩
    |lst L=>
    cases G
    obtain⟨N,w,h0,o,r,p⟩:=A;cases w
    rw[r]at f;cases f
    obtain⟨u,n,g⟩:=p.get hd;exact⟨u,n,Rp.mono lt.off (Rp.mono (XA (Same.refl _) λb _ _ z y=>z (.inl y)) g)⟩
   |view L=>
    cases L with
    |dK L|dT L|ins x C xs cs|nst cs=>cases G
    |nsl x cs=>
     obtain⟨u,n,g⟩:=r1.get hd;exact⟨u,n,T7 lt.2.1 (Rp.mono J g)⟩
    |lsA x L=>
     cases G
     obtain⟨N,w,_,o,r,p⟩:=A;cases w
     rw[r]at f;cases f
     obtain⟨u,n,g⟩:=p.get hd;exact⟨u,n,Rp.mono lt.off g⟩
    |lst L=>
    cases G
    obtain⟨N,w,o,r,p⟩:=A;cases w
    rw[r]at f;cases f
    obtain⟨u,n,g⟩:=p.get hd;exact⟨u,n,Rp.mono lt.off g⟩
   |tmp d=>
    have:=G
    subst this;obtain⟨N,o,w,r,p⟩:=Rp.lst_inv A;cases w
    rw[r]at f;cases f
    obtain⟨u,n,g⟩:=p.get hd;exact⟨u,n,T7 lt.2.1 (Rp.mono J g)⟩
  obtain⟨u,Y,tu⟩:=hi';refine⟨⟨T,u,SqL.of (J _ _ f),Y⟩,λx H'' y=>?_⟩;obtain⟨rfl,y⟩:=y
  have:=y T (SqL.of<|J _ _ f)
  rw[Y]at this;cases this
  exact⟨Same.refl _,tu⟩
 ·exact h1.elim
 ·rename_i ns G;have U:=A.rp M.same;rw[G]at U;cases U with
  |scr hs=>
   refine⟨_,rfl,⟨_,hs⟩,q _ _ _ H1 h1 S1 ⟨λi H' Z' hi J lt=>?_,λH' Z' J lt=>⟨_,J.seq hs,by rw[WL];exact WU _⟩⟩⟩
   have Y:(ns.map V.int)[i]?=some (.int<|ns.getD i 0):=by
    rw[WX,WJ hi,WV,WJ hi];rfl
   refine⟨⟨_,_,J.seq hs,Y⟩,λx H'' y=>?_⟩;obtain⟨rfl,y⟩:=y
   have:=y _ (J.seq hs)
   rw[Y]at this;cases this
   exact⟨Same.refl _,.int _⟩
 ·exact h1.elim
def Tv{φ is wi g tc te it pg c a}(hi:SL K mg E wi it)(hg:Nm K is g pg)(hc:KL K mg E tc c)(he:Xu K mg E te a)(h1:autoParam ((φ.filterMap id).Nodup) au_1)(h2:autoParam (∀j∈is,φ[j]?=some none) au_1):Xu K mg E (B9 φ wi g tc te) (Gp φ it pg c a):=by
 intro H0 B H σ γ R X Q env h q qx;refine hi H0 B H σ γ _ X _ env h (λn item J H1 h1' S1 ok=>?_) qx;obtain⟨hn,f,hf,hR⟩:=h1'.w;have l:=env.grow S1;have hbig:n<=sizeLine:=WZ hn (by decide);intro L U;refine⟨λi m G C=>m=n-i/\i<=n/\Same H1 C/\C L=some (.lst G)/\Rps K (off (λb=>zof B γ σ b\/b=L) C) ((List.range i).filterMap f) G,⟨n,by simp,QY _,Ki U,XG,.nil⟩,?_⟩;rintro i m G C ⟨rfl,hin,u,hL,p⟩;have A:=l.grow u;by_cases r:i<n
 ·have envI2:=Zh1 l u U ⟨G,hL⟩ h1;obtain⟨go,yl⟩:=ok.go i C _ r u ⟨A.same,envI2.zm,λb o Y z=>⟨u _ _ Y,GY l U b o Y z⟩⟩;refine .inr ⟨go,λx H3 y=>?_⟩;obtain⟨S3,tv⟩:=yl x H3 y;refine hg H0 _ C H3 _ _ _ _ _ _ envI2 S3 tv (hf i r) λN T p2 e2 f2 k2=>⟨?_,?_⟩
  ·refine Sub.of k2.2 k2.1 λj hj v z=>?_;obtain⟨k,k1,_⟩:=He z;rw[h2 j hj]at k1;cases k1
  ·refine hc H0 _ H3 N T _ _ _ e2 p2 (λb H5 q5 S5=>?_) λ_ _ z=>z.elim;have e5:=e2.grow S5;cases b with
   |false=>
    rw[WS Ql]at q5 ⊢;refine⟨n-(i+1),by lia,rfl,r,(u.trans S3).trans S5,(S3.trans S5) _ _ hL,?_⟩;rw[List.range_succ,VS];simp only[QZ,q5,List.filterMap_nil,Q8];exact Rps.mono (XA (S3.trans S5) λ_ _ _ z=>z) p
   |true=>
    refine he H0 _ H5 N T _ _ _ e5 q5 (λs v H6 q6 S6 t6=>?_) λ_ _ z=>z.elim;obtain⟨d,hd,hfd⟩:=q6;have M:=(S3.trans S5).trans S6
    have hlen:G.length<=i:=by
     rw[p.len];exact WZ (List.length_filterMap_le _ _) (by rw[JY];exact WU _)
    refine⟨M _ _ hL,by lia,n-(i+1),by lia,rfl,r,λb o Y=>?_,XG,?_⟩
    ·rw[X1 (K7 Y U)];exact M _ _ (u _ _ Y)
    ·rw[List.range_succ,VS];have ef:[i].filterMap f=[d]:=by simp[hfd]
     rw[ef]
     have So:Same (off (λb=>zof B γ σ b\/b=L) H6) (off (λb=>zof B γ σ b\/b=L)<|upd H6 L<|.lst (G++[v])):=λb o h=>by
      obtain⟨a1,a2⟩:=Ts h;refine XY ?_ a2;rwa[X1 λz=>a2 (.inr z)]
     refine Rps.append (Rps.mono So<|Rps.mono (XA M λ_ _ _ z=>z) p) (.cons (Rp.mono So<|Rp.mono (XA (Same.refl _) λb _ _ z y=>z (.inl y)) (t6.shd (e5.grow S6).same e5.zm S6 hd)) .nil)
 ·have:i=n:=by lia
  subst this;exact .inl ⟨ok.stop C _ u (Later.of A<|Fr.grow u),q _ _ C hR (S1.trans u) ⟨L,rfl,(λ_ e=>e▸S1.free U),G,hL,p⟩⟩
noncomputable def Lq:PTT:=λ_ R _=>R true
def NO:KL K mg E Zao Lq:=λ_ _ H _ _ _ _ _ _ p q _=>q _ H p (Same.refl _)
def Zjx{g h:Type}(xs:List g)(f:g->Option h):(List.range xs.length).filterMap (λi=>(xs[i]?).bind f)=xs.filterMap f:=by
 induction xs with
 |nil=>rfl
 |cons x r l=>
  rw[Qe,List.range_succ_eq_map,QZ,List.filterMap_map,QZ];have e:(λi=>((x::r)[i]?).bind f)∘Nat.succ=λi=>(r[i]?).bind f:=rfl;rw[e,l];rfl
end
open M
section
variable {K:Ye}{mg:Yi}{E:L2.St->XK}{H0 H H1 H':Hp}{B Z Z':Addr->Prop}{σ:L2.St}{γ:Γ}
noncomputable def pCB(f:List S->(S->Prop)->Prop)(r:PTA):PTE:=λγ R X=>r γ (λg=>f g R) X
def P6{f o r}(A:XI K mg E o r)(h:∀H0 H H1 Z l vs R Q,Same H0 H1->Same H H1->(∀b,Z b->Mut (H b))->TVs K Z H0 H H1 l vs->f l R->(∀s z H',R s->Same H1 H'->TV K Z H0 H H' s z->Q z H')->w vs H1 Q) :
  Xu K mg E (tCB w o) (pCB f r):=by
 intro H0 B H σ γ R X Q g p q x;refine A H0 B H σ γ _ X _ g p (λl vs H1 C n v=>?_) x;exact h H0 H H1 _ l vs R Q (g.grow n).same n g.zm v C λs z H' y G u=>q s z H' y (n.trans G) u
noncomputable def S.free:S->List D->Bool
 | .bor _,f=>KJ f | .tmp _,f=>KJ f | .view (.nst _),f=>KJ f | .view (.nsl _ _),f=>KJ f|_,_=>true
def TVs.one_inv (h:TVs K Z H0 H H' [s] vs):∃v,vs=[v]/\TV K Z H0 H H' s v:=by
 cases h with
 |cons h r=>cases r;exact⟨_,rfl,h⟩
def TVs.two_inv (h:TVs K Z H0 H H' [s,t] vs):∃v u,vs=[v,u]/\TV K Z H0 H H' s v/\TV K Z H0 H H' t u:=by
 cases h with
 |cons h r=>cases r with|cons f r=>cases r;exact⟨_,_,rfl,h,f⟩
def TV.items (n:Same H0 H') (u:∀b,Z b->Mut (H b)) (C:Same H H') (h:TV K Z H0 H H' s v) (p:s.free ds=true) :
  (s.d=.lst ds->∃a vs,v=.ref a/\H' a=some (.lst vs)/\Rps K (off Z H') ds vs)/\(s.d=.tup ds->∃a vs,v=.ref a/\H' a=some (.tup vs)/\Rps K (off Z H') ds vs):=by
 have g:=λb z=>Tg C (u b z);cases s with
 |bor d=>
  have h:=Rp.strip h;refine⟨λe=>?_,λe=>?_⟩<;>rw[show d.strip=_ from e]at h
  ·obtain⟨a,vs,rfl,f,r⟩:=Rp.lst_inv h;exact⟨a,vs,rfl,n _ _ f,Rps.off g (Rps.mono n r) p⟩
  ·obtain⟨a,vs,rfl,f,r⟩:=Rp.tup_inv h;exact⟨a,vs,rfl,n _ _ f,Rps.off g (Rps.mono n r) p⟩
 |sh d=>
  refine⟨λe=>?_,λe=>?_⟩<;>(have w:=e;subst w)
  ·obtain⟨a,vs,rfl,f,r⟩:=Rp.lst_inv h;exact⟨a,vs,rfl,off_sub _ _ f,r⟩
  ·obtain⟨a,vs,rfl,f,r⟩:=Rp.tup_inv h;exact⟨a,vs,rfl,off_sub _ _ f,r⟩
 |own o=>
  cases o with
  |nsl x A=>
   refine⟨λe=>?_,λe=>by cases e⟩;have l:=h.shd n u C rfl;cases e
   obtain⟨a,vs,rfl,f,r⟩:=Rp.lst_inv l;exact⟨a,vs,rfl,off_sub _ _ f,r⟩
  |nst A=>
   refine⟨(λe=>by cases e),λe=>?_⟩;have l:=h.shd n u C rfl;cases e
   obtain⟨a,vs,rfl,f,r⟩:=Rp.tup_inv l;exact⟨a,vs,rfl,off_sub _ _ f,r⟩
  |lst o=>
   refine⟨λe=>?_,λe=>by cases e⟩;cases e
   obtain⟨a,rfl,G,vs,e,r⟩:=h;exact⟨a,vs,rfl,e,Rps.mono (XA (Same.refl _) λb _ _ z y=>z (.inl y)) r⟩
  |lsA x o=>
   refine⟨λe=>?_,λe=>by cases e⟩;cases e
   obtain⟨a,rfl,G,_,vs,e,r⟩:=h;exact⟨a,vs,rfl,e,Rps.mono (XA (Same.refl _) λb _ _ z y=>z (.inl y)) r⟩
  |_=>exact⟨(λe=>by cases e),(λe=>by cases e)⟩
 |view o=>
  cases o with
  |nsl x A=>
   refine⟨λe=>?_,λe=>by cases e⟩;have l:=h.rp n;rw[e]at l;obtain⟨a,vs,rfl,f,r⟩:=Rp.lst_inv l;exact⟨a,vs,rfl,f,Rps.off g r p⟩
  |nst A=>
   refine⟨(λe=>by cases e),λe=>?_⟩;have l:=h.rp n;rw[e]at l;obtain⟨a,vs,rfl,f,r⟩:=Rp.tup_inv l;exact⟨a,vs,rfl,f,Rps.off g r p⟩
  |lst o=>
   refine⟨λe=>?_,λe=>by cases e⟩;cases e
   obtain⟨a,rfl,vs,e,r⟩:=h;exact⟨a,vs,rfl,e,r⟩
  |lsA x o=>
   refine⟨λe=>?_,λe=>by cases e⟩;cases e
   obtain⟨a,rfl,_,vs,e,r⟩:=h;exact⟨a,vs,rfl,e,r⟩
  |_=>exact⟨(λe=>by cases e),(λe=>by cases e)⟩
 |tmp d=>
  refine⟨λe=>?_,λe=>?_⟩<;>(have w:=e;subst w)
  ·obtain⟨a,vs,rfl,f,r⟩:=Rp.lst_inv h;exact⟨a,vs,rfl,f,Rps.off g r p⟩
  ·obtain⟨a,vs,rfl,f,r⟩:=Rp.tup_inv h;exact⟨a,vs,rfl,f,Rps.off g r p⟩
def AH:List S->(S->Prop)->Prop
 |[s],R=>(match s.d with
  | .lst g=>R (.sh<|.int g.length) | .tup g=>R (.sh<|.int g.length) | .scr f=>R (.sh<|.int f.length) | .fL f=>R (.sh<|.int f.length) | .str x=>x.length<=sizeLine/\R (.sh<|.int x.length)|_=>False)
 |_,_=>False
def Au(C:XI K mg E w r):Xu K mg E (tCB (λxs H Q=>∃x n,xs=[x]/\F0 K x H n/\Q (.int n) H) w) (pCB AH r):=by
 refine P6 C λH0 H H1 Z L J R Q z M N u h q=>?_;unfold AH at h;split at h
 ·rename_i s;obtain⟨v,rfl,y⟩:=u.one_inv;have f:=y.rp z;split at h
  ·rename_i G e;rw[e]at f;obtain⟨a,g,rfl,p,l⟩:=f.lst_inv;exact⟨_,_,rfl,.inl ⟨g,SqL.of p,rfl⟩,by rw[l.len];exact q _ _ H1 h (Same.refl _) (.int _)⟩
  ·rename_i G e;rw[e]at f;obtain⟨a,g,rfl,p,l⟩:=f.tup_inv;exact⟨_,_,rfl,.inr ⟨g,SqT.of p,rfl⟩,by rw[l.len];exact q _ _ H1 h (Same.refl _) (.int _)⟩
  ·rename_i A e;rw[e]at f;cases f with
   |scr o=>exact⟨_,_,rfl,.inl ⟨_,o,rfl⟩,by rw[WL];exact q _ _ H1 h (Same.refl _) (.int _)⟩
  ·rename_i A e;rw[e]at f;cases f with
   |fL o=>exact⟨_,_,rfl,.inl ⟨_,.inl (.inr ⟨_,o⟩),rfl⟩,by rw[WL];exact q _ _ H1 h (Same.refl _) (.int _)⟩
  ·rename_i x e;rw[e]at f;rw[f.str_inv];exact⟨_,_,rfl,⟨h.1,rfl⟩,q _ _ H1 h.2 (Same.refl _) (.int _)⟩
  ·exact h.elim
 ·exact h.elim
def G2:List S->(S->Prop)->Prop
 |[s],R=>(match s.d with
  | .lst f=>s.free f=true/\R (.own f) | .tup f=>s.free f=true/\R (.own f)|_=>False)
 |_,_=>False
def NI(G:XI K mg E C r):Xu K mg E (tCB (λxs H Q=>∃p n,xs=[.ref p]/\(SqL K H p n\/SqT K H p n)/\∀l,H l=none->Q (.ref l) (upd H l<|.lst n)) C) (pCB G2 r):=by
 refine P6 G λH0 H H1 Z M L R Q y g z A h q=>?_;unfold G2 at h;split at h
 ·rename_i s;obtain⟨v,rfl,x⟩:=A.one_inv;split at h
  ·rename_i J e;obtain⟨a,o,rfl,w,u⟩:=(x.items y z g h.1).1 e;exact⟨a,o,rfl,.inl (SqL.of w),λl f=>q _ _ _ h.2 (Ki f) (N5 g f u)⟩
  ·rename_i J e;obtain⟨a,o,rfl,w,u⟩:=(x.items y z g h.1).2 e;exact⟨a,o,rfl,.inr (SqT.of w),λl f=>q _ _ _ h.2 (Ki f) (N5 g f u)⟩
  ·grind
 ·grind
def Mm:List S->(S->Prop)->Prop
 |[s],R=>(match s.d with
  | .lst f=>s.free f=true/\R (.sh<|.tup f) | .tup f=>s.free f=true/\R (.sh<|.tup f)|_=>False)
 |_,_=>False
def HC(L:XI K mg E J r):Xu K mg E (tCB (λxs H Q=>∃p n,xs=[.ref p]/\((SqL K H p n/\∀l,H l=none->Q (.ref l) (upd H l<|.tup n))\/(SqT K H p n/\Q (.ref p) H))) J) (pCB Mm r):=by
 refine P6 L λH0 H H1 Z T N R Q C u y G h q=>?_;have f:=λb z=>Tg u (y b z);unfold Mm at h;split at h
 ·rename_i s;obtain⟨v,rfl,A⟩:=G.one_inv;split at h
  ·rename_i M e;obtain⟨a,o,rfl,g,w⟩:=(A.items C y u h.1).1 e;refine⟨a,o,rfl,.inl ⟨SqL.of g,λl x=>q _ _ _ h.2 (Ki x) (.tup (XY XG λz=>?_)<|Rps.mono (XA (Ki x) λ_ _ _ z=>z) w)⟩⟩
   have:=f l z
   rw[x]at this;exact this
  ·rename_i M e;obtain⟨a,o,rfl,g,w⟩:=(A.items C y u h.1).2 e;refine⟨a,o,rfl,.inr ⟨SqT.of g,q _ _ _ h.2 (Same.refl _) (.tup (XY g λz=>?_) w)⟩⟩
   have:=f a z
   rw[g]at this;exact this
  ·grind
 ·exact h.elim
theorem Rps.ints:∀{f:Yg}{vs:List V},Rps K H (f.map D.int) vs->vs=f.map V.int
 |[],_,.nil=>rfl
 |j::r,_,.cons h t=>by rw[Rp.int_inv h,Rps.ints t];rfl
theorem Rps.of_ints:∀(f:Yg),Rps K H (f.map D.int) (f.map V.int)
 |[]=>.nil
 |j::r=>.cons (.int j) (Rps.of_ints r)
def Hs:List S->(S->Prop)->Prop
 |[s],R=>∃g:Yg,s.d=.lst (g.map D.int)/\g.length<64/\∀f:Yg,f.Perm g->f.Pairwise (·<=·)->R (.own<|f.map D.int)
 |_,_=>False
def F4{g r}(L:XI K mg E g r):Xu K mg E (tCB (λxs H Q=>∃p f,xs=[.ref p]/\f.length<64/\(SqL K H p (f.map V.int)\/H p=some (NF w p f))/\
  ∀l (ns:Yg),H l=none->ns.Perm f->ns.Pairwise (·<=·)->Q (.ref l) (upd H l<|.lst<|ns.map V.int)) g) (pCB Hs r):=by
 refine P6 L λH0 H H1 Z U N R Q A z Y x h q=>?_;unfold Hs at h;split at h
 ·rename_i s;obtain⟨v,rfl,y⟩:=x.one_inv;obtain⟨f,e,G,k⟩:=h;have n:=y.rp A;rw[e]at n;obtain⟨a,T,rfl,u,C⟩:=n.lst_inv;rw[C.ints]at u;exact⟨a,f,rfl,G,.inl (SqL.of u),λl ns o M J=>q _ _ _ (k ns M J) (Ki o) (N5 z o<|Rps.of_ints ns)⟩
 ·grind
def Hx:List S->(S->Prop)->Prop
 |[s,t],R=>(match s.d,t.d with | .int i,.int j=>R (.sh<|.int (if j>i then j else i))|_,_=>False)
 |_,_=>False
def LC(w:XI K mg E o r):Xu K mg E (tCB (λxs H Q=>∃i j,xs=[.int i,.int j]/\Q (.int (if j>i then j else i)) H) o) (pCB Hx r):=by
 refine P6 w λH0 H H1 Z A z R Q f C G n h q=>?_;unfold Hx at h;split at h
 ·obtain⟨v,u,rfl,s,p⟩:=n.two_inv;have l:=s.rp f;have g:=p.rp f;split at h
  ·rename_i i j y x;rw[y]at l;rw[x]at g;rw[l.int_inv,g.int_inv];exact⟨i,j,rfl,q _ _ H1 h (Same.refl _) (.int _)⟩
  ·grind
 ·grind
def Zsr:List S->(S->Prop)->Prop
 |[s],R=>(match s.d with | .int i=>R (.sh<|.int (if i<0 then -i else i))|_=>False)
 |_,_=>False
noncomputable def tyD:D->Option String
 | .int _=>some "int" | .bl _=>some "bool" | .non=>some "NoneType" | .str _=>some "str" | .tup _=>some "tuple" | .lst _=>some "list" | .fL _=>some "list" | .dK _=>some "dict" | .dT _=>some "dict" |_=>none
inductive KI:String->String->Bool->Prop
 |same (n:String):KI n n true
 |ib:KI "int" "bool" false
 |bi:KI "bool" "int" true
 |tl:KI "tuple" "list" false
 |lt:KI "list" "tuple" false
 |it:KI "int" "tuple" false
 |il:KI "int" "list" false
 |bt:KI "bool" "tuple" false
 |bL:KI "bool" "list" false
 |ti:KI "tuple" "int" false
 |li:KI "list" "int" false
 |si:KI "str" "int" false
 |is:KI "int" "str" false
 |ni:KI "NoneType" "int" false
 |nl:KI "NoneType" "list" false
 |nt:KI "NoneType" "tuple" false
def KI.kit (h:KI m n b):PySem.W.kitOne K (.type m) (.type n)=some b:=by
 cases h with
 |same=>exact Zkb K _
 |_=>rfl
def RC:List S->(S->Prop)->Prop
 |[s,t],R=>(match tyD s.d,t.d with|some m,.ty n=>∃b,KI m n b/\R (.sh<|.bl b)|_,_=>False)
 |_,_=>False
def Zer(h:Rp K H d v)(e:tyD d=some m):Ph K H v (.type m):=by
 cases h with
 |int i=>cases e;exact .int i
 |bl b=>cases e;exact .bl b
 |non=>cases e;exact .non
 |str x=>cases e;exact .str x
 |tup h r=>cases e;exact .tup h
 |lst h r=>cases e;exact .lst h
 |dK h=>cases e;exact .dK h
 |dT h=>cases e;exact .dT h
 |fL h=>cases e;exact .frz h
 |_=>cases e
def Tx(w:XI K mg E o r):Xu K mg E (tCB (λxs H Q=>∃x n t b,xs=[x,.ty n]/\Ph K H x t/\PySem.W.kitOne K t (.type n)=some b/\Q (.bl b) H) o) (pCB RC r):=by
 refine P6 w λH0 H H1 Z G C R Q f J L l h q=>?_;unfold RC at h;split at h
 ·obtain⟨v,u,rfl,s,p⟩:=l.two_inv;have g:=p.rp f;split at h
  ·rename_i m n A z;rw[z]at g;rw[g.ty_inv];obtain⟨b,k,y⟩:=h;exact⟨v,n,_,b,rfl,Zer (s.rp f) A,k.kit,q _ _ H1 y (Same.refl _) (.bl _)⟩
  ·grind
 ·grind
noncomputable def pBM(f:S->List S->(S->Prop)->Prop)(a:PTE)(r:PTA):PTE:=λγ R X=>a γ (λs=>(∃h,s.d=.lst h)/\r γ (λg=>f s g R) X) X
def Zfr{f te y a r}(ha:Xu K mg E te a)(U:XI K mg E y r)(h:∀H0 H H1 Z s v u vs R Q,Same H0 H1->Same H H1->(∀b,Z b->Mut (H b))->TV K Z H0 H H1 s v->TVs K Z H0 H H1 u vs->f s u R->(∀s z H',R s->Same H1 H'->TV K Z H0 H H' s z->Q z H')->N v vs H1 Q) :
  Xu K mg E (tBM K "list" N te y) (pBM f a r):=by
 intro H0 B H σ γ R X Q n p q G;refine ha H0 B H σ γ _ X _ n p (λs v H1 x o A=>?_) G;have g:=n.grow o;obtain⟨⟨ds,ed⟩,x⟩:=x;have C:=A.rp g.same;rw[ed]at C;obtain⟨l,J,rfl,Y,_⟩:=C.lst_inv;refine⟨.inl ⟨rfl,J,SqL.of Y⟩,U H0 B H1 σ γ _ X _ g x (λu vs H2 h2 w M=>?_) λc H' hc S'=>G c H' hc (o.trans S')⟩;exact h H0 H H2 _ s _ u vs R Q (g.grow w).same (o.trans w) n.zm (A.grow w) (TVs.weakG o M) h2 λs z H' T S3 L=>q s z H' T ((o.trans w).trans S3) L
def Re:S->List S->(S->Prop)->Prop:=λs f R=>match f with
 |[t]=>(match t.d with | .int z=>∃xs:Yg,s.d=.lst (xs.map D.int)/\z∈xs/\R (.sh<|.int (xs.idxOf z:Nat))|_=>False)
 |_=>False
def LO{a r}(G:Xu K mg E te a)(C:XI K mg E w r):Xu K mg E (tBM K "list" (DW K) te w) (pBM Re a r):=by
 refine Zfr G C λH0 H H1 Z s v T M R Q n U Y y x h q=>?_;unfold Re at h;split at h
 ·obtain⟨u,rfl,g⟩:=x.one_inv;have o:=g.rp n;split at h
  ·rename_i z e;rw[e]at o;obtain⟨xs,L,A,J⟩:=h;have f:=y.rp n;rw[L]at f;obtain⟨l,N,rfl,p,f⟩:=f.lst_inv;rw[f.ints]at p;exact⟨l,xs,z,rfl,by rw[o.int_inv],SqL.of p,A,q _ _ H1 J (Same.refl _) (.int _)⟩
  ·grind
 ·exact h.elim
noncomputable def prD(p:Int×Int):D:=.tup [.int p.1,.int p.2]
inductive InR:D->D->Bool->Prop
 |li (i:Int) (hs:Yg):InR (.int i) (.lst<|hs.map D.int) (decide (i∈hs))
 |ti (i:Int) (hs:Yg):InR (.int i) (.tup<|hs.map D.int) (decide (i∈hs))
 |lp (q:Int×Int) (ps:Yf):InR (prD q) (.lst<|ps.map prD) (decide (q∈ps))
def fIn(neg:Bool):S->S->(S->Prop)->Prop:=λx y R=>∃b,InR x.d y.d b/\R (.sh<|.bl (if neg then !b else b))
def Rp.pair (h:Rp K H (prD q) v):P1 H v q:=by
 obtain⟨a,n,rfl,f,r⟩:=Rp.tup_inv h;obtain⟨x,y,rfl,l,g⟩:=r.two_inv;rw[l.int_inv,g.int_inv]at f;exact⟨a,rfl,f⟩
def Rps.lv {vs} (h:Rps K H (ps.map prD) vs):LV P1 H vs ps:=by
 refine⟨by rw[h.len,WL],λi p f=>?_⟩;obtain⟨v,l,g⟩:=h.get (by rw[WX,f];rfl);exact⟨v,l,g.pair⟩
def Bk{C A a b}(U:Xu K mg E C a)(T:Xu K mg E A b):Xu K mg E (tOp (λx y H Q=>rIn K neg x y H Q\/BH neg x y H Q) C A) (p2 a b<|fIn neg):=by
 refine PD U T λH0 H z Z x y v u R Q G Y hm L J h q=>?_;obtain⟨k,s,w⟩:=h;have n:=L.rp G;have g:=J.rp G;generalize ex:x.d=dx at s n;generalize ey:y.d=dy at s g;cases s with
 |li i N=>
  obtain⟨l,o,rfl,f,r⟩:=g.lst_inv;rw[r.ints]at f;rw[n.int_inv];refine .inl ⟨l,_,rfl,.inl (SqL.of f),rfl,N6 _,?_⟩;rw[RD];exact q _ _ z w (Same.refl _) (.bl _)
 |ti i N=>
  obtain⟨l,o,rfl,f,r⟩:=g.tup_inv;rw[r.ints]at f;rw[n.int_inv];refine .inl ⟨l,_,rfl,.inr (SqT.of f),rfl,N6 _,?_⟩;rw[RD];exact q _ _ z w (Same.refl _) (.bl _)
 |lp p M=>
  obtain⟨l,o,rfl,f,r⟩:=g.lst_inv;exact .inr ⟨l,M,p,rfl,n.pair,⟨o,f,r.lv⟩,q _ _ z w (Same.refl _) (.bl _)⟩
def Sh(neg:Bool):S->S->(S->Prop)->Prop:=λx y R=>match x.d,y.d with
 | .lst h,.lst g=>∃xs f:Yg,h=xs.map D.int/\g=f.map D.int/\R (.sh<|.bl (if neg then !decide (xs=f)else decide (xs=f)))
 |_,_=>fEq neg x y R
def S8{a b}(T:Xu K mg E L a)(N:Xu K mg E J b):Xu K mg E (tOp (λx y H Q=>rEq x y H Q\/TN K false x y H Q) L J) (p2 a b<|Sh false):=by
 refine PD T N λH0 H p Z x y v u R Q w s1 s G C h q=>?_;have g:=G.rp w;have f:=C.rp w;unfold Sh at h;split at h
 ·rename_i ds es o n;obtain⟨xs,Y,rfl,rfl,U⟩:=h;rw[o]at g;rw[n]at f;obtain⟨l,us,rfl,A,r⟩:=g.lst_inv;obtain⟨m,ws,rfl,s,M⟩:=f.lst_inv;rw[r.ints]at A;rw[M.ints]at s;refine .inr ⟨l,m,_,_,rfl,rfl,SqL.of A,SqL.of s,N6 _,N6 _,?_⟩;rw[ER];exact q _ _ p U (Same.refl _) (.bl _)
 ·refine .inl ?_;unfold fEq at h;split at h
  ·rename_i i j o n;rw[o]at g;rw[n]at f;rw[g.int_inv,f.int_inv];refine⟨rfl,?_⟩;rw[SU λ_ _ z=>V.int.inj z];exact q _ _ p h (Same.refl _) (.bl _)
  ·rename_i i j o n;rw[o]at g;rw[n]at f;rw[g.str_inv,f.str_inv];refine⟨rfl,?_⟩;rw[SU λ_ _ z=>V.str.inj z];exact q _ _ p h (Same.refl _) (.bl _)
  ·rename_i i j o n;rw[o]at g;rw[n]at f;rw[g.bl_inv,f.bl_inv];refine⟨rfl,?_⟩;rw[SU λ_ _ z=>V.bl.inj z];exact q _ _ p h (Same.refl _) (.bl _)
  ·exact h.elim
def HW{a b}(T:Xu K mg E L a)(N:Xu K mg E J b):Xu K mg E (tOp (λx y H Q=>rNe x y H Q\/TN K true x y H Q) L J) (p2 a b<|Sh true):=by
 refine PD T N λH0 H p Z x y v u R Q w s1 s G C h q=>?_;have g:=G.rp w;have f:=C.rp w;unfold Sh at h;split at h
 ·rename_i ds es o n;obtain⟨xs,Y,rfl,rfl,U⟩:=h;rw[o]at g;rw[n]at f;obtain⟨l,us,rfl,A,r⟩:=g.lst_inv;obtain⟨m,ws,rfl,s,M⟩:=f.lst_inv;rw[r.ints]at A;rw[M.ints]at s;refine .inr ⟨l,m,_,_,rfl,rfl,SqL.of A,SqL.of s,N6 _,N6 _,?_⟩;rw[ER];exact q _ _ p U (Same.refl _) (.bl _)
 ·refine .inl ?_;unfold fEq at h;split at h
  ·rename_i i j o n;rw[o]at g;rw[n]at f;rw[g.int_inv,f.int_inv];refine⟨rfl,?_⟩;rw[SU λ_ _ z=>V.int.inj z];exact q _ _ p h (Same.refl _) (.bl _)
  ·rename_i i j o n;rw[o]at g;rw[n]at f;rw[g.str_inv,f.str_inv];refine⟨rfl,?_⟩;rw[SU λ_ _ z=>V.str.inj z];exact q _ _ p h (Same.refl _) (.bl _)
  ·rename_i i j o n;rw[o]at g;rw[n]at f;rw[g.bl_inv,f.bl_inv];refine⟨rfl,?_⟩;rw[SU λ_ _ z=>V.bl.inj z];exact q _ _ p h (Same.refl _) (.bl _)
  ·exact h.elim
noncomputable abbrev DL(K:Ye)(f:TE):TT:=λσ H Q=>f σ H λx H'=>∃k,Ge K x H' k/\Q k H'
noncomputable def OE(a:PTE):PTT:=λγ R X=>a γ (λx=>match x.d with
 | .bl b=>R b | .lst f=>R (!f.isEmpty) | .tup f=>R (!f.isEmpty) | .int i=>R (i != 0) | .non=>R false|_=>False) X
def CV{g f:Type}{l:List g}{m:List f}(h:l.length=m.length):l.isEmpty=m.isEmpty:=by
 cases l<;>cases m<;>simp at h ⊢
def Zh9(y:Xu K mg E te a):KL K mg E (DL K te) (OE a):=by
 intro H0 B H σ γ R X Q o p q w;refine y H0 B H σ γ _ X _ o p (λx v H1 g h u=>?_) w;have f:=u.rp (o.grow h).same;split at g
 ·rename_i b e;rw[e]at f;rw[f.bl_inv];exact⟨b,rfl,q _ H1 g h⟩
 ·rename_i z e;rw[e]at f;obtain⟨l,n,rfl,s,r⟩:=f.lst_inv;exact⟨!n.isEmpty,.inl ⟨n,SqL.of s,rfl⟩,by rw[CV r.len];exact q _ H1 g h⟩
 ·rename_i z e;rw[e]at f;obtain⟨l,n,rfl,s,r⟩:=f.tup_inv;exact⟨!n.isEmpty,.inr (.inl ⟨n,SqT.of s,rfl⟩),by rw[CV r.len];exact q _ H1 g h⟩
 ·rename_i i e;rw[e]at f;rw[f.int_inv];exact⟨_,rfl,q _ H1 g h⟩
 ·rename_i e;rw[e]at f;rw[f.non_inv];exact⟨_,rfl,q _ H1 g h⟩
 ·exact g.elim
noncomputable def cutD{f:Type}(xs:List f)(lo g:Option Int):List f:=(xs.drop<|HT.sIx xs.length 0 lo).take (HT.sIx xs.length xs.length g-HT.sIx xs.length 0 lo)
noncomputable def Ob:PTO:=λ_ R _=>R none
noncomputable def Ma(a:PTE):PTO:=λγ R X=>a γ (λs=>match s.d with | .int i=>R (some i)|_=>False) X
def CC:T6 K mg E Mw Ob:=λ_ _ H _ _ _ _ _ _ p q _=>q _ H p (Same.refl _)
def BQ(r:Xu K mg E te a):T6 K mg E (Lo te) (Ma a):=by
 intro H0 B H σ γ R X Q f p q o;refine r H0 B H σ γ _ X _ f p (λx v H1 h l n=>?_) o;have g:=n.rp (f.grow l).same;split at h
 ·rename_i i e;rw[e]at g;exact⟨i,g.int_inv,q _ H1 h l⟩
 ·grind
noncomputable def pSl(a:PTE)(l u:PTO):PTE:=λγ R X=>a γ (λs=>l γ (λlo=>u γ (λg=>match s.d with | .lst f=>s.free f=true/\R (.own<|cutD f lo g)|_=>False) X) X) X
def Rps.cut {lo f} (r:Rps K H ds vs):Rps K H (cutD ds lo f) (Ni vs lo f):=by
 unfold cutD Ni;rw[r.len];exact Rps.take _ (Rps.drop _ r)
def Zoz{a l u}(U:Xu K mg E te a)(N:T6 K mg E G l)(M:T6 K mg E J u):Xu K mg E (tSl (SJ K) te G J) (pSl a l u):=by
 intro H0 B H σ γ R X Q f p q o;refine U H0 B H σ γ _ X _ f p (λx v H1 h1 h L=>?_) o;refine N H0 B H1 σ γ _ X _ (f.grow h) h1 (λlo H2 Y n=>?_) λc H' s y=>o c H' s (h.trans y);refine M H0 B H2 σ γ _ X _ ((f.grow h).grow n) Y (λhi H3 w A=>?_) λc H' s y=>o c H' s ((h.trans n).trans y);have g:=(h.trans n).trans A;split at w
 ·rename_i ds e;obtain⟨b,C,rfl,T,r⟩:=((L.grow<|n.trans A).items (f.grow g).same f.zm g w.1).1 e;exact⟨b,C,rfl,SqL.of T,λm z=>q _ _ _ w.2 (g.trans<|Ki z) (N5 g z r.cut)⟩
 ·grind
def Gx:S->S->(S->Prop)->Prop:=λx y R=>match x.d,y.d with
 | .lst g,.lst f=>x.free g=true/\y.free f=true/\g.length+f.length<=100000/\R (.own (g++f))
 |_,_=>False
def KD{a b}(U:Xu K mg E L a)(T:Xu K mg E J b):Xu K mg E (tOp MX L J) (p2 a b Gx):=by
 refine PD U T λH0 H H2 Z x y v u R Q s f A G C h q=>?_;unfold Gx at h;split at h
 ·rename_i ds es e1 Y;obtain⟨l,o,rfl,N,r⟩:=(G.items s A f h.1).1 e1;obtain⟨m,n,rfl,g,w⟩:=(C.items s A f h.2.1).1 Y;have M:o.length+n.length<=sizeLine:=by rw[r.len,w.len];exact WZ h.2.2.1 (by decide)
  exact⟨l,m,o,n,rfl,rfl,N,g,M,λp z=>q _ _ _ h.2.2.2 (Ki z) (N5 f z<|r.append w)⟩
 ·grind
noncomputable def Gg(i:Nat)(a:PTE):PTS:=λR γ=>match γ[i]? with
 |some (some<|.own<|.lst f)=>a γ (λs=>match s.shd with
  |some d=>f.length<10000000/\R.nx (γ.set i<|some<|.own (f++[d]))
  |none=>False) (R.ex γ)
 |some (some<|.own<|.lsA x f)=>a γ (λs=>match s.shd with
  |some d=>f.length<10000000/\R.nx (γ.set i<|some<|.own<|.lsA x (f++[d]))
  |none=>False) (R.ex γ)
 |_=>False
def Zi4(i:Nat){te a}(T:Xu K mg E te a):X7 K mg E (Fg<|tBM K "list" Ee (KE i)<|Kp te KR) (Gg i a):=by
 intro H0 B H σ γ R D U f h e;unfold Gg at h;split at h
 ·rename_i N w;obtain⟨v,r,b,rfl,J,us,y,p⟩:=f.slot i _ w;refine⟨_,r,.inl ⟨rfl,us,SqL.of y⟩,T H0 B H σ γ _ _ _ f h (λs u H1 n l C=>?_) λc H' G A=>e.ex σ γ c H' G (f.grow A) (Fr.grow A)⟩;have g:=f.grow l;split at n
  ·rename_i d o;refine⟨b,us,u,rfl,rfl,l _ _ y,by rw[p.len];exact VC n.1 (by decide),?_⟩;obtain⟨o,M⟩:=g.mutate (es:=.lst (N++[d])) (us:=.lst (us++[u])) w r trivial λF H' Q L=>⟨_,L,Rps.mono Q (Rps.append (Rps.mono (XA l λ_ _ _ z=>z) p)<|.cons (C.shd g.same f.zm l o) .nil)⟩;exact e.nx _ _ _ n.2 o ((Fr.grow l).trans M)
  ·exact n.elim
 ·rename_i x N w;obtain⟨v,r,b,rfl,J,rfl,us,y,p⟩:=f.slot i _ w;refine⟨_,r,.inl ⟨rfl,us,SqL.of y⟩,T H0 B H σ γ _ _ _ f h (λs u H1 n l C=>?_) λc H' G A=>e.ex σ γ c H' G (f.grow A) (Fr.grow A)⟩;have g:=f.grow l;split at n
  ·rename_i d o;refine⟨b,us,u,rfl,rfl,l _ _ y,by rw[p.len];exact VC n.1 (by decide),?_⟩;obtain⟨o,M⟩:=g.mutate (es:=.lsA b (N++[d])) (us:=.lst (us++[u])) w r trivial λF H' Q L=>⟨rfl,_,L,Rps.mono Q (Rps.append (Rps.mono (XA l λ_ _ _ z=>z) p)<|.cons (C.shd g.same f.zm l o) .nil)⟩;exact e.nx _ _ _ n.2 o ((Fr.grow l).trans M)
  ·exact n.elim
 ·exact h.elim
end
section
variable {X:Cx}{K:Ye}
def FV(f:X.A.in1.units<cLine)(g:autoParam (X.K=K) au_0):OpR X (compareOp .In) (λx y H Q=>rIn K false x y H Q\/BH false x y H Q):=(Zbe g).or (Zeo f)
def Zdk(f:X.A.in1.units<cLine)(g:autoParam (X.K=K) au_0):OpR X (compareOp .NotIn) (λx y H Q=>rIn K true x y H Q\/BH true x y H Q):=(Zcy g).or (Zgp f)
def BA(f:X.A.units<cLine)(g:autoParam (X.K=K) au_0):OpR X (compareOp .Eq) (λx y H Q=>rEq x y H Q\/TN K false x y H Q):=by subst g;exact op_eq.or (GW f)
def Zkn(f:X.A.units<cLine)(g:autoParam (X.K=K) au_0):OpR X (compareOp .NotEq) (λx y H Q=>rNe x y H Q\/TN K true x y H Q):=by subst g;exact op_ne.or (Zjg f)
def FP(g:PE X e te)(h:autoParam (X.K=K) au_0)(f:autoParam (∀whole,isTrue e X.env whole=(do let v ←whole;standAt e.pos;holding [v] (truthy v))) au_3):PT X e (DL K te):=by
 subst h;exact Zsh g f
def NA(g:autoParam (X.K=K) au_0):Kv X (.type "list") (λxs H Q=>∃p f,xs=[.ref p]/\(SqL K H p f\/SqT K H p f)/\∀l,H l=none->Q (.ref l) (upd H l<|.lst f)):=by subst g;exact LS
def GR(g:autoParam (X.K=K) au_0):Kv X (.type "tuple") (λxs H Q=>∃p f,xs=[.ref p]/\((SqL K H p f/\∀l,H l=none->Q (.ref l) (upd H l<|.tup f))\/(SqT K H p f/\Q (.ref p) H))):=by subst g;exact Zfs
def T3(f:autoParam (X.K=K) au_0):Kv X (.builtin "isinstance") (λxs H Q=>∃x n t b,xs=[x,.ty n]/\Ph K H x t/\PySem.W.kitOne K t (.type n)=some b/\Q (.bl b) H):=by subst f;exact Zgh
def Ag(f:autoParam (X.K=K) au_0):SlR X (SJ K):=by subst f;exact Zsb
def A5(g:X.calm=true){w}(h:autoParam (X.K=K) au_0)(hw:autoParam (X.w=w) au_0):Kv X (.builtin "sorted") (λxs H Q=>∃p f,xs=[.ref p]/\f.length<64/\(SqL K H p (f.map V.int)\/H p=some (NF w p f))/\
  ∀l (ns:Yg),H l=none->ns.Perm f->ns.Pairwise (·<=·)->Q (.ref l) (upd H l<|.lst<|ns.map V.int)):=by subst h;subst hw;exact Rf g
def Nr{g l f}(h:PE X l f)(n:autoParam (X.K=K) au_0):PI X g l (B0 K f):=by subst n;exact Zac h
end
section
variable {P:Program}{w:World}{K:Ye}{mg:Yi}{base:Heap}{H H':Hp}
def Ze2(C:Callee P w K mg base CX k x ps sp)(h:∀ds R X vs H Q E,Rps K H ds vs->c ds R X->(∀s v H',R s->Same H H'->TV K (λb=>Mut (H b)) H H H' s v->Q v H')->(∀e H',X e->Same H H'->XE mg E e H')->sp vs H Q E) :
  Callee P w K mg base CX k x ps (X0 mg c K):=by
 obtain⟨f,o,F,rest⟩:=C.ex;exact⟨f,o,F.imp λvs H Q E ⟨ds,R,X,r,g,n,l⟩=>h ds R X vs H Q E r g n l,rest⟩
def Rp.scr_inv (h:Rp K H (.scr ns) v):∃a,v=.ref a/\SqL K H a (ns.map V.int):=by
 cases h with
 |scr h=>grind
def Rp.ints_inv {ns:Yg}{v} (h:Rp K H (.lst<|ns.map D.int) v):∃a,v=.ref a/\H a=some (.lst<|ns.map V.int):=by
 obtain⟨a,g,rfl,f,r⟩:=h.lst_inv;rw[r.ints]at f
 grind
def Rp.pairs_inv {v} (h:Rp K H (.lst<|ps.map prD) v):∃a,v=.ref a/\LAt P1 H a ps:=by
 obtain⟨a,f,rfl,g,r⟩:=h.lst_inv;exact⟨a,rfl,f,g,r.lv⟩
def Zqs{ns:Yg}(n:H a=none)(h:H' a=some (.lst<|ns.map V.int)):TV K (λb=>Mut (H b)) H H H' (.own<|ns.map D.int) (.ref a):=⟨a,rfl,(λ_ e=>e▸n),_,h,Rps.of_ints ns⟩
theorem SD:∀(ns:Yg),KJ (ns.map D.int)=true
 |[]=>rfl
 |n::r=>by rw[Qf];unfold KJ;rw[SD r];unfold imm;rfl
def Zjm(p:Int×Int):imm (prD p)=true:=rfl
theorem P0:∀(ps:Yf),KJ (ps.map prD)=true
 |[]=>rfl
 |p::r=>by rw[Qf];unfold KJ;rw[P0 r,Zjm];rfl
def Zsu{g:Type}{f:g->D}{xs:List g}{i}(h:i<xs.length):(xs.map f).getD i .non=f xs[i]:=by grind
def Pe{g:Type}{f:g->D}{xs:List g}{i}(l:0<=i)(h:i<(xs.length:Int)):atI (xs.map f) i=some (f (xs[i.toNat]'(by lia))):=by
 have n:i.toNat<xs.length:=by lia
 exact T5 (Bg l<|WJ n)
def FL{g:Type}{f:g->D}{xs:List g}{i}(h:i<xs.length):atI (xs.map f) (i:Int)=some (f xs[i]):=T5 (Te<|WJ h)
def KB{l:Type}{φ}{γ}{g}{c}{e}{s:S}{R}{xs:List l}{emb}(f:l->Option D)(n:xs.length<=100000)(turn:∀x∈xs,g (s.sub<|emb x) (atP φ γ) λh=>c h (λb=>if b=true then e h (λs=>∃d,s.shd=some d/\f x=some d) (λ_=>False)else f x=none) λ_=>False)(done:R (.own<|xs.filterMap f)) :
  BW φ γ g c e (xs.map emb).length (λi=>s.sub ((xs.map emb).getD i .non)) R:=by
 rw[WL];refine⟨⟨n,λi=>(xs[i]?).bind f,λi o=>?_,by rw[Zjx];exact done⟩⟩;simp_all
def D5{g c e item R n}(f:Nat->Option D)(o:n<=100000)(turn:∀i,i<n->g (item i) (atP φ l) λh=>c h (λb=>if b=true then e h (λs=>∃d,s.shd=some d/\f i=some d) (λ_=>False)else f i=none) λ_=>False)(done:R (.own ((List.range n).filterMap f))) :
  BW φ l g c e n item R:=⟨⟨o,f,turn,done⟩⟩
def PL{p:Type}{js}{γ}{g}{body}{s:S}{R}{xs:List p}{emb}(l:Nat->Γ->Prop)(u:l 0 (clr js γ))(turn:∀i r f,l i f->g (s.sub (emb xs[i])) f λo=>body {R with nx:=λn=>l (i+1) (clr js n),ct:=λn=>l (i+1) (clr js n),bk:=R.nx} o)(done:∀f,l xs.length f->R.nx f) :
  DC js γ g body R (xs.map emb).length (λi=>s.sub ((xs.map emb).getD i .non)):=by
 refine⟨⟨l,u,λi f r h=>?_,λf h=>?_⟩⟩
 ·grind
 ·grind
def Tf{n item}(f:Nat->Γ->Prop)(s:f 0 (clr p r))(turn:∀i h,i<n->f i h->g (item i) h λo=>body {R with nx:=λl=>f (i+1) (clr p l),ct:=λl=>f (i+1) (clr p l),bk:=R.nx} o)(done:∀h,f n h->R.nx h):DC p r g body R n item:=⟨⟨f,s,turn,done⟩⟩
def FT(h:Γ->Prop)(l:Γ->Nat)(p:h (clr n o))(turn:∀f,h f->c f (λb=>if b=true then body {R with nx:=λg=>h (clr n g)/\l (clr n g)<l f,ct:=λg=>h (clr n g)/\l (clr n g)<l f,bk:=R.nx} f else R.nx f) (R.ex f)):Mr n o c body R:=⟨⟨h,l,p,turn⟩⟩
def Nt(J:Γ->Prop)(l:p {R with nx:=J} g)(h:∀f,J f->q R f):HS p q R g:=⟨⟨J,l,h⟩⟩
theorem PU{f:Type}(c:f->Bool)(emb:f->D):∀g:List f,g.filterMap (λq=>if c q=true then some (emb q)else none)=(g.filter c).map emb
 |[]=>rfl
 |q::r=>by
  by_cases h:c q=true
  ·rw[List.filterMap_cons_some (by rw[WT h]),List.filter_cons_of_pos h,Qf,PU c emb r]
  ·rw[List.filterMap_cons_none (by grind),List.filter_cons_of_neg h,PU c emb r]
def TH{f:Type}(emb:f->D)(g:List f):g.filterMap (λq=>some (emb q))=g.map emb:=by simp
def TZ(f:h->D)(xs:List h)(lo g:Option Int):cutD (xs.map f) lo g=(cutD xs lo g).map f:=by
 unfold cutD;simp
def Bt(xs:List f){n}(h:0<=n):cutD xs none (some n)=xs.take n.toNat:=by
 unfold cutD;have e:n=(n.toNat:Int):=by lia
 rw[HT.ME,e,HT.FS,List.drop_zero,Nat.sub_zero,Q5];by_cases c:n.toNat<=xs.length
 ·simp
 ·simp
def SG(xs:List f){n}(h:0<=n):cutD xs (some n) none=xs.drop n.toNat:=by
 unfold cutD;have e:n=(n.toNat:Int):=by lia
 rw[HT.ME,e,HT.FS,Q5];by_cases c:n.toNat<=xs.length
 ·grind
 ·rw[Nat.min_eq_right (by lia),List.drop_of_length_le (WU _),List.drop_of_length_le (by lia)];simp
noncomputable def A9(K:Ye):Sp:=λf H Q _=>∃(a:Addr) (g:Yg),f=[.ref a]/\SqL K H a (g.map V.int)/\∀H',Q (.bl true) H'
noncomputable def M6:Pc:=λg R _=>∃f:Yg,g=[.scr f]/\R (.sh<|.bl true)
def Zd9(h:A9 K vs H Q n):X0 mg M6 K vs H Q n:=by
 obtain⟨a,f,rfl,l,q⟩:=h;refine⟨[.scr f],λs=>s=.sh (.bl true),λ_=>False,.cons (.scr l) .nil,⟨f,rfl,rfl⟩,λs v H' e o g=>?_,λ_ _ z=>z.elim⟩;subst e;cases g
 grind
end
section
variable {K:Ye}{mg:Yi}{E:L2.St->XK}{H0 H H1 H':Hp}{B Z Z':Addr->Prop}{σ:L2.St}{γ:Γ}
noncomputable def BL:D->Option V
 | .int i=>some (.int i) | .bl b=>some (.bl b) | .non=>some .non | .str x=>some (.str x)|_=>none
noncomputable def vD:V->D
 | .int i=>.int i | .bl b=>.bl b | .str x=>.str x|_=>.non
noncomputable def Ai:V->Bool
 | .int _=>true | .bl _=>true | .str _=>true | .non=>true|_=>false
def AY(h:Ai v=true):Rp K H (vD v) v:=by
 cases v with
 |int i=>exact .int i
 |bl b=>exact .bl b
 |str x=>exact .str x
 |non=>exact .non
 |_=>cases h
def FB(h:Rp K H d v)(e:BL d=some u):v=u:=by
 cases h with
 |int i|bl b|non|str x=>cases e;rfl
 |_=>cases e
noncomputable def Bv:D->Option Key
 | .int i=>some (.inl i) | .str x=>some (.inr x)|_=>none
noncomputable def Sy:List D->Option (List Key)
 |[]=>some []
 |d::r=>match Bv d,Sy r with
  |some k,some f=>some (k::f)
  |_,_=>none
noncomputable def SW:D->Option (List Key)
 | .tup f=>Sy f
 |_=>none
def A0(h:Rp K H d v)(e:Bv d=some k):v=kV k:=by
 cases h with
 |int i|str x=>cases e;rfl
 |_=>cases e
def Zdu:∀{ds vs}{f:List Key},Rps K H ds vs->Sy ds=some f->vs=f.map kV:=by
 intro ds
 induction ds with
 |nil=>
  intro _ _ h e;cases h
  cases e
  rfl
 |cons _ _ g=>
  intro _ f h e;cases h with
  |cons h r=>
   unfold Sy at e;split at e
   ·rename_i k o n l;cases e
    rw[A0 h n,g r l];rfl
   ·grind
def F1(h:Rp K H d v)(e:SW d=some f):∃b,v=.ref b/\H b=some (.tup<|f.map kV):=by
 cases h with
 |tup h r=>
  rw[Zdu r e]at h
  grind
 |_=>cases e
def Rp.dK_inv (h:Rp K H (.dK f) v):∃a,v=.ref a/\H a=some (.dK f):=by
 cases h with
 |dK h=>grind
def Rp.dT_inv (h:Rp K H (.dT f) v):∃a,v=.ref a/\H a=some (.dT f):=by
 cases h with
 |dT h=>grind
noncomputable def Zqi:PTE:=λ_ R _=>R (.own<|.dK [])
noncomputable def Zo3:PTE:=λ_ R _=>R (.own<|.dT [])
def Zdh:Xu K mg E Oc Zqi:=by
 intro H0 B H σ γ R X Q g p q _ l f;exact q _ _ _ p (Ki f) ⟨l,rfl,(λ_ e=>e▸f),XG⟩
def Zm6:Xu K mg E Hl Zo3:=by
 intro H0 B H σ γ R X Q g p q _ l f;exact q _ _ _ p (Ki f) ⟨l,rfl,(λ_ e=>e▸f),XG⟩
def OU:S->S->(S->Prop)->Prop:=λx y R=>match x.d with
 | .dK f=>∃k v,Bv y.d=some k/\XD f k=some v/\Ai v=true/\R (.sh<|vD v)
 | .dT f=>∃k v,SW y.d=some k/\XD f k=some v/\Ai v=true/\R (.sh<|vD v)
 |_=>False
def Fc{a b}(N:Xu K mg E M a)(p:Xu K mg E g b):Xu K mg E (Mn M g) (p2 a b OU):=by
 refine PD N p λH0 H J Z x y v u R Q C T U L g h q=>?_;have f:=L.rp C;have G:=g.rp C;unfold OU at h;split at h
 ·rename_i n e;rw[e]at f;obtain⟨l,rfl,o⟩:=f.dK_inv;obtain⟨k,w,A,z,s,r⟩:=h;refine⟨l,w,rfl,?_,q _ _ J r (Same.refl _) (AY s)⟩;rw[A0 G A,←z];exact DGet.k o
 ·rename_i n e;rw[e]at f;obtain⟨l,rfl,o⟩:=f.dT_inv;obtain⟨k,w,A,z,s,r⟩:=h;obtain⟨b,rfl,p⟩:=F1 G A;refine⟨l,w,rfl,?_,q _ _ J r (Same.refl _) (AY s)⟩;rw[←z];exact DGet.t o p
 ·grind
def Lu(neg:Bool):S->S->(S->Prop)->Prop:=λy x R=>match x.d with
 | .dK f=>∃k,Bv y.d=some k/\R (.sh<|.bl (if neg then !(XD f k).isSome else(XD f k).isSome))
 | .dT f=>∃k,SW y.d=some k/\R (.sh<|.bl (if neg then !(XD f k).isSome else(XD f k).isSome))
 |_=>False
def Zfh{w f a b}(J:Xu K mg E f a)(p:Xu K mg E w b):Xu K mg E (Iq f w) (p2 a b<|Lu true):=by
 refine PD J p λH0 H C Z y x u v R Q z L M f G h q=>?_;have g:=G.rp z;have A:=f.rp z;unfold Lu at h;split at h
 ·rename_i n e;rw[e]at g;obtain⟨l,rfl,o⟩:=g.dK_inv;obtain⟨k,s,r⟩:=h;refine⟨l,_,rfl,?_,q _ _ C r (Same.refl _) (.bl _)⟩;rw[A0 A s];exact DGet.k o
 ·rename_i n e;rw[e]at g;obtain⟨l,rfl,o⟩:=g.dT_inv;obtain⟨k,s,r⟩:=h;obtain⟨b,rfl,p⟩:=F1 A s;exact⟨l,_,rfl,DGet.t o p,q _ _ C r (Same.refl _) (.bl _)⟩
 ·grind
noncomputable def Os(i:Nat)(b a:PTE):PTS:=λR γ=>match γ[i]? with
 |some (some<|.own<|.dK f)=>a γ (λs=>b γ (λy=>∃k u,Bv y.d=some k/\BL s.d=some u/\f.length<100000/\R.nx (γ.set i<|some<|.own<|.dK<|putK f k u)) (R.ex γ)) (R.ex γ)
 |some (some<|.own<|.dT f)=>a γ (λs=>b γ (λy=>∃k u,SW y.d=some k/\BL s.d=some u/\f.length<100000/\R.nx (γ.set i<|some<|.own<|.dT<|putK f k u)) (R.ex γ)) (R.ex γ)
 |_=>False
def DR(i:Nat){ty tv a b}(hb:Xu K mg E ty b)(ha:Xu K mg E tv a):X7 K mg E (Rv (KE i) ty tv) (Os i b a):=by
 intro H0 B H σ γ R D hB n h e;have hx:=λc H' G x=>e.ex σ γ c H' G (n.grow x) (Fr.grow x);unfold Os at h;split at h
 ·rename_i o C;obtain⟨v,A,l,rfl,Y,U⟩:=n.slot i _ C;refine ha H0 B H σ γ _ _ _ n h (λs u H1 h1 p L=>⟨_,A,?_⟩) hx;have f:=n.grow p;refine hb H0 B H1 σ γ _ _ _ f h1 (λy w H2 h2 r J=>?_) λc H' G x=>hx c H' G (p.trans x);obtain⟨k,z,T,Q,N,M⟩:=h2;have g:=f.grow r;have eu:=FB (L.rp f.same) Q;have ew:=A0 (J.rp g.same) T;subst eu ew;refine⟨l,_,rfl,DPut.k (r _ _<|p _ _ U) (VC N<|by decide),?_⟩;obtain⟨e2,f2⟩:=g.mutate (es:=.dK (putK o k u)) (us:=.dK (putK o k u)) C A trivial λF H' SF hF=>hF;exact e.nx _ _ _ M e2 ((Fr.grow<|p.trans r).trans f2)
 ·rename_i o C;obtain⟨v,A,l,rfl,Y,U⟩:=n.slot i _ C;refine ha H0 B H σ γ _ _ _ n h (λs u H1 h1 p L=>⟨_,A,?_⟩) hx;have f:=n.grow p;refine hb H0 B H1 σ γ _ _ _ f h1 (λy w H2 h2 r J=>?_) λc H' G x=>hx c H' G (p.trans x);obtain⟨k,z,T,Q,N,M⟩:=h2;have g:=f.grow r;have eu:=FB (L.rp f.same) Q;obtain⟨b',rfl,hb'⟩:=F1 (J.rp g.same) T;subst eu;refine⟨l,_,rfl,DPut.t (r _ _<|p _ _ U) hb' (VC N<|by decide),?_⟩;obtain⟨e2,f2⟩:=g.mutate (es:=.dT (putK o k u)) (us:=.dT (putK o k u)) C A trivial λF H' SF hF=>hF;exact e.nx _ _ _ M e2 ((Fr.grow<|p.trans r).trans f2)
 ·exact h.elim
noncomputable def Ha(a:PTE):PTS:=λR γ=>a γ (λs=>match s.shd with|some d=>R.rt (.sh d)|none=>False) (R.ex γ)
def Zr6(r:Xu K mg E te a):X7 K mg E (SY te) (Ha a):=by
 intro H0 B H σ γ R D u f h e;refine r H0 B H σ γ _ _ _ f h (λs v H1 l g o=>?_) λc H' p n=>e.ex σ γ c H' p (f.grow n) (Fr.grow n);split at l
 ·rename_i d hd;exact e.rt (.sh d) v H1 l (f.same.trans g) (Rp.mono (XA (Same.refl _) λb _ _ z y=>z (.inl y)) (o.shd (f.grow g).same f.zm g hd))
 ·grind
noncomputable def Mt(i:Nat)(γ:Γ):Nat:=match γ[i]? with
 |some (some<|.own<|.lst f)=>f.length
 |_=>0
def KW(d:f)(ds:List f):atI (d::ds) 0=some d:=Bg (by simp) rfl
noncomputable def em(l:Int)(p:Yg):D:=.lst ((l::p).map D.int)
def Dx(l:Int)(p:Yg):atI ((l::p).map D.int) (-1)=some (.int<|X8 l p):=by
 refine T5 ?_;unfold atI ixN;rw[WS (by lia),WT (by grind)];have e:(-1+((l::p).length:Int)).toNat=p.length:=by grind
 rw[e];exact FM l p
def Zag:List S->(S->Prop)->Prop
 |[s],R=>∃f:Yg,s.d=.lst (f.map D.int)/\R (.sh<|.int f.sum)
 |_,_=>False
def Of(s:XI K mg E l r):Xu K mg E (tCB (λxs H Q=>∃(p:Addr) (ns:Yg),xs=[.ref p]/\SqL K H p (ns.map V.int)/\Q (.int ns.sum) H) l) (pCB Zag r):=by
 refine P6 s λH0 H H1 Z y x R Q o z A g h q=>?_;unfold Zag at h;split at h
 ·obtain⟨v,rfl,n⟩:=g.one_inv;obtain⟨ns,e,w⟩:=h;have f:=n.rp o;rw[e]at f;obtain⟨a,rfl,u⟩:=f.ints_inv;exact⟨a,ns,rfl,SqL.of u,q _ _ H1 w (Same.refl _) (.int _)⟩
 ·grind
def GL:List S->(S->Prop)->Prop
 |[s],R=>∃f:Yg,s.d=.lst (f.map D.int)/\0<f.length/\∀m,m∈f->(∀a∈f,m<=a)->R (.sh<|.int m)
 |_,_=>False
def Zj3(u:XI K mg E n r):Xu K mg E (tCB (λxs H Q=>∃(p:Addr) (ns:Yg),xs=[.ref p]/\SqL K H p (ns.map V.int)/\0<ns.length/\∀M,M∈ns->(∀a∈ns,M<=a)->Q (.int M) H) n) (pCB GL r):=by
 refine P6 u λH0 H H1 Z C A R Q s G J l h q=>?_;unfold GL at h;split at h
 ·obtain⟨v,rfl,o⟩:=l.one_inv;obtain⟨ns,e,f,x⟩:=h;have g:=o.rp s;rw[e]at g;obtain⟨a,rfl,w⟩:=g.ints_inv;exact⟨a,ns,rfl,SqL.of w,f,λm z y=>q _ _ H1 (x m z y) (Same.refl _) (.int _)⟩
 ·grind
def GE:List S->(S->Prop)->Prop
 |[s],R=>∃bs:List Bool,s.d=.lst (bs.map D.bl)/\R (.sh<|.bl<|bs.any id)
 |_,_=>False
theorem Rps.bls:∀{f:List Bool}{vs:List V},Rps K H (f.map D.bl) vs->vs=f.map V.bl
 |[],_,.nil=>rfl
 |j::r,_,.cons h t=>by rw[Rp.bl_inv h,Rps.bls t];rfl
def Rm(w:XI K mg E n r):Xu K mg E (tCB (λxs H Q=>∃(p:Addr) (bs:List Bool),xs=[.ref p]/\SqL K H p (bs.map V.bl)/\Q (.bl<|bs.any id) H) n) (pCB GE r):=by
 refine P6 w λH0 H H1 Z A y R Q s C G l h q=>?_;unfold GE at h;split at h
 ·obtain⟨v,rfl,o⟩:=l.one_inv;obtain⟨bs,e,x⟩:=h;have f:=o.rp s;rw[e]at f;obtain⟨a,z,rfl,g,u⟩:=f.lst_inv;rw[u.bls]at g;exact⟨a,bs,rfl,SqL.of g,q _ _ H1 x (Same.refl _) (.bl _)⟩
 ·grind
def Zai(neg:Bool):S->S->(S->Prop)->Prop:=λx y R=>match x.d,y.d with
 | .lst f,.lst []=>R (.sh<|.bl (if neg then !f.isEmpty else f.isEmpty))
 |_,_=>False
def Ck{n g a b}(L:Xu K mg E n a)(J:Xu K mg E g b):Xu K mg E (tOp (ET K neg) n g) (p2 a b<|Zai neg):=by
 refine PD L J λH0 H T Z x y v u R Q o Y hm A z h q=>?_;have s:=A.rp o;have p:=z.rp o;unfold Zai at h;split at h
 ·rename_i ds N M;rw[N]at s;rw[M]at p;obtain⟨l,w,rfl,G,r⟩:=s.lst_inv;obtain⟨m,U,rfl,f,C⟩:=p.lst_inv;cases C
  refine⟨l,m,w,rfl,rfl,SqL.of G,SqL.of f,?_⟩;rw[CV r.len];exact q _ _ T h (Same.refl _) (.bl _)
 ·grind
def Og(x y:Int){k}(h:k=0\/k=1):atI [D.int x,D.int y] k=some (.int (if k=0 then x else y)):=by
 rcases h with rfl|rfl
 ·rfl
 ·rfl
def TB(xs:List g)(lo f:Option Int):(cutD xs lo f).Sublist xs:=(Jq _ _).trans (List.drop_sublist _ _)
def Xz.gone (Q:Xz K H0 B H σ γ) (i:Nat):Xz K H0 B H (σ.set i none) (γ.set i none)/\Fr B H σ γ H (σ.set i none) (γ.set i none):=by
 obtain⟨l,f1⟩:=Q.drop i
 have f:∀j s,(γ.set i none)[j]?=some (some s)->j≠i:=λj s h=>by
  rcases Kg h with⟨_,e,_⟩|⟨n,_⟩
  ·cases e
  ·exact n
 have G:∀b,zof B (γ.set i none) (σ.set i none) b↔zof B (γ.set i none) σ b:=λb=>by
  constructor
  ·rintro(z|⟨j,p,x,g,r,u⟩)
   ·exact .inl z
   ·rw[Tw (f j _ g)]at r;exact .inr ⟨j,p,x,g,r,u⟩
  ·rintro(z|⟨j,p,x,g,r,u⟩)
   ·exact .inl z
   ·exact .inr ⟨j,p,x,g,by rw[Tw (f j _ g)];exact r,u⟩
 have ez:=funext λb=>propext (G b);refine⟨⟨l.same,by rw[QM];exact l.len,l.bm,λk j a N p M b y w C A L J=>?_,λj s h=>?_⟩,λb o h z=>?_⟩
 ·rw[Tw (f k _ y)]at C;rw[Tw (f j _ w)]at A;exact l.own k j a N p M b y w C A L J
 ·obtain⟨v,y,w⟩:=l.slot j s h
  grind
 ·rw[ez];exact f1 b o h z
noncomputable def Zir(mg:Yi)(n:Yn)(i:Nat)(l h:PTS):PTS:=λR γ=>l {R with ex:=λf c=>c∈n/\h {nx:=λg=>R.nx (g.set i none),rt:=R.rt,ex:=λ_ _=>False,bk:=λg=>R.bk (g.set i none),ct:=λg=>R.ct (g.set i none),rv:=R.rv} (f.set i<|some<|.sh<|.err<|ExcR.Xx mg c)} γ
def Zr8{C0}{L:Ends->TS}{ts}{N M}{E'}(J:Yn)(C:∀c∈J,ExcR.Kr K (ExcR.Xx mg c)/\PySem.W.exmOne K (.ref<|ExcR.Xx mg c) (.ref C0)=some true)(hb:∀D,X7 K mg (ExcR.hx K C0 i ts D) (L D) N)(hh:X7 K mg E' ts M)(hd:autoParam (∀c∈J,NJ c=none) au_1):X7 K mg E (λD σ H=>L D D σ H) (Zir mg J i N M):=by
 intro H0 B H σ γ R D T G h e;refine hb D H0 B H σ γ _ D T G h ⟨e.nx,e.rt,λy A c H' hc U f'=>?_,e.bk,e.ct,e.rv⟩;obtain⟨u,hp⟩:=hc;obtain⟨k1,k2⟩:=C c u;refine .of (hd c u) ⟨_,rfl,k2,λa Q=>?_⟩;have Y:TV K (zof B A y) H0 H' (upd H' a<|ExcR.Ac a<|ExcR.Xx mg c) (.sh<|.err<|ExcR.Xx mg c) (.ref a):=.err (XY XG λz=>by have:=U.zm a z;rw[Q]at this;exact this);obtain⟨e2,f2⟩:=U.set (Ki (o:=ExcR.Ac a (ExcR.Xx mg c)) Q) Y rfl;have l:=f'.trans f2;refine hh H0 B _ _ _ _ _ T e2 hp ⟨λf g s n r p=>?_,e.rt,λ_ _ _ _ z=>z.elim,λf g s n r p=>?_,λf g s n r p=>?_,λf g d v s n r p=>e.rv f g d v s n r (l.trans p)⟩
 ·obtain⟨x,w⟩:=r.gone i;exact e.nx _ _ s n x (l.trans<|p.trans w)
 ·obtain⟨x,w⟩:=r.gone i;exact e.bk _ _ s n x (l.trans<|p.trans w)
 ·obtain⟨x,w⟩:=r.gone i;exact e.ct _ _ s n x (l.trans<|p.trans w)
def Znb:Xu K mg E (tC<|.ref a) (pC<|.ref a):=Sq λ_=>.ref a
def Mu(K:Ye):List S->(S->Prop)->Prop
 |[s,t],R=>(match s.d,t.d with
  | .err C,.ref f=>∃b,ExcR.Kr K C/\PySem.W.kitOne K (.ref C) (.ref f)=some b/\R (.sh<|.bl b)
  | .err C,.ty n=>∃b,ExcR.Kr K C/\PySem.W.kitOne K (.ref C) (.type n)=some b/\R (.sh<|.bl b)
  | .erM C _,.ref f=>∃b,ExcR.Th K C/\PySem.W.kitOne K (.ref C) (.ref f)=some b/\R (.sh<|.bl b)
  | .erM C _,.ty n=>∃b,ExcR.Th K C/\PySem.W.kitOne K (.ref C) (.type n)=some b/\R (.sh<|.bl b)
  |_,_=>False)
 |_,_=>False
def Rp.err_inv (h:Rp K H (.err C) v):∃a,v=.ref a/\H a=some (ExcR.Ac a C):=by
 cases h with
 |err h=>grind
def Rp.ref_inv (h:Rp K H (.ref a) v):v=.ref a:=by cases h;rfl
def Rp.erM_inv (h:Rp K H (.erM C r) v):∃a f l o,v=.ref a/\H a=some (ExcR.Px a C<|some f)/\H f=some (.xd [("members",.ref l)])/\H l=some (.frz o<|.lst<|r.map V.int):=by
 cases h with
 |erM p n g=>grind
def MY(U:XI K mg E M r):Xu K mg E (tCB (λxs H Q=>∃a C z c b,xs=[.ref a,c]/\H a=some (ExcR.Px a C z)/\ExcR.Th K C/\(∃J,(∀u,RelV c u->u=J)/\PySem.W.kitOne K (.ref C) J=some b)/\Q (.bl b) H) M) (pCB (Mu K) r):=by
 refine P6 U λH0 H H1 Z ss Y R Q G s1 hm L h q=>?_;unfold Mu at h;split at h
 ·obtain⟨v,u,rfl,T,N⟩:=L.two_inv;have g:=T.rp G;have f:=N.rp G;split at h
  ·rename_i C A y x;rw[y]at g;rw[x]at f;obtain⟨a,rfl,o⟩:=g.err_inv;obtain⟨b,w,s,p⟩:=h;rw[f.ref_inv];exact⟨a,C,_,_,b,rfl,o,w.any,⟨.ref A,λu l=>l,s⟩,q _ _ H1 p (Same.refl _) (.bl _)⟩
  ·rename_i C n y x;rw[y]at g;rw[x]at f;obtain⟨a,rfl,o⟩:=g.err_inv;obtain⟨b,w,s,p⟩:=h;rw[f.ty_inv];exact⟨a,C,_,_,b,rfl,o,w.any,⟨.type n,λu l=>l,s⟩,q _ _ H1 p (Same.refl _) (.bl _)⟩
  ·rename_i C r A y x;rw[y]at g;rw[x]at f;obtain⟨a,z,_,_,rfl,o,_,_⟩:=g.erM_inv;obtain⟨b,w,s,p⟩:=h;rw[f.ref_inv];exact⟨a,C,_,_,b,rfl,o,w,⟨.ref A,λu l=>l,s⟩,q _ _ H1 p (Same.refl _) (.bl _)⟩
  ·rename_i C r n y x;rw[y]at g;rw[x]at f;obtain⟨a,z,_,_,rfl,o,_,_⟩:=g.erM_inv;obtain⟨b,w,s,p⟩:=h;rw[f.ty_inv];exact⟨a,C,_,_,b,rfl,o,w,⟨.type n,λu l=>l,s⟩,q _ _ H1 p (Same.refl _) (.bl _)⟩
  ·exact h.elim
 ·exact h.elim
noncomputable def E9(i:Nat)(b a:PTE):PTS:=λR γ=>match γ[i]? with
 |some (some<|.own<|.lst f)=>a γ (λs=>b γ (λy=>match y.d with
   | .int k=>∃j d,ixN f.length k=some j/\s.shd=some d/\R.nx (γ.set i<|some<|.own<|.lst<|f.set j d)
   |_=>False) (R.ex γ)) (R.ex γ)
 |some (some<|.own<|.lsA x f)=>a γ (λs=>b γ (λy=>match y.d with
   | .int k=>∃j d,ixN f.length k=some j/\s.shd=some d/\R.nx (γ.set i<|some<|.own<|.lsA x<|f.set j d)
   |_=>False) (R.ex γ)) (R.ex γ)
 |_=>False
theorem Rps.set (h:Rp K H d v):∀{ds vs} j,Rps K H ds vs->Rps K H (ds.set j d) (vs.set j v)
 |_,_,_,.nil=>.nil
 |_,_,0,.cons _ r=>.cons h r
 |_,_,j+1,.cons k r=>.cons k (Rps.set h j r)
def Zhf(i:Nat){tb te a b}(hb:Xu K mg E tb b)(ha:Xu K mg E te a):X7 K mg E (NH te<|Lr (KE i) tb HN) (E9 i b a):=by
 intro H0 B H σ γ R D hB g h e;have hx:=λc H' M A=>e.ex σ γ c H' M (g.grow A) (Fr.grow A);unfold E9 at h;split at h
 ·rename_i ds L;obtain⟨v,J,l,rfl,Y,us,U,G⟩:=g.slot i _ L;refine ha H0 B H σ γ _ _ _ g h (λs u H1 h1 o Q=>⟨_,J,?_⟩) hx;have f:=g.grow o;refine hb H0 B H1 σ γ _ _ _ f h1 (λy w H2 r p N=>?_) λc H' M A=>hx c H' M (o.trans A);have n:=f.grow p;have C:=N.rp n.same;split at r
  ·rename_i k ek;rw[ek]at C;obtain⟨j,d,h3,h4,h5⟩:=r;have T:=Rp.mono (XA p λ_ _ _ z=>z) (Q.shd f.same g.zm o h4);refine⟨l,us,k,j,rfl,C.int_inv,(o.trans p) _ _ U,by rw[G.len];exact h3,?_⟩;obtain⟨e2,f2⟩:=n.mutate (es:=.lst (ds.set j d)) (us:=.lst (us.set j u)) L J trivial λF H' SF hF=>⟨_,hF,Rps.mono SF (Rps.set T j<|Rps.mono (XA (o.trans p) λ_ _ _ z=>z) G)⟩;exact e.nx _ _ _ h5 e2 ((Fr.grow<|o.trans p).trans f2)
  ·exact r.elim
 ·rename_i x ds L;obtain⟨v,J,l,rfl,Y,rfl,us,U,G⟩:=g.slot i _ L;refine ha H0 B H σ γ _ _ _ g h (λs u H1 h1 o Q=>⟨_,J,?_⟩) hx;have f:=g.grow o;refine hb H0 B H1 σ γ _ _ _ f h1 (λy w H2 r p N=>?_) λc H' M A=>hx c H' M (o.trans A);have n:=f.grow p;have C:=N.rp n.same;split at r
  ·rename_i k ek;rw[ek]at C;obtain⟨j,d,h3,h4,h5⟩:=r;have T:=Rp.mono (XA p λ_ _ _ z=>z) (Q.shd f.same g.zm o h4);refine⟨l,us,k,j,rfl,C.int_inv,(o.trans p) _ _ U,by rw[G.len];exact h3,?_⟩;obtain⟨e2,f2⟩:=n.mutate (es:=.lsA l (ds.set j d)) (us:=.lst (us.set j u)) L J trivial λF H' SF hF=>⟨rfl,_,hF,Rps.mono SF (Rps.set T j<|Rps.mono (XA (o.trans p) λ_ _ _ z=>z) G)⟩;exact e.nx _ _ _ h5 e2 ((Fr.grow<|o.trans p).trans f2)
  ·exact r.elim
 ·exact h.elim
def Zsp:S->S->(S->Prop)->Prop:=λx y R=>match x.d,y.d with
 | .lst f,.int k=>x.free f=true/\(-(2 ^ 63)<=k/\k<2 ^ 63)/\f.length*k.toNat<=10000000/\R (.own (.lst (List.replicate k.toNat f).flatten))
 |_,_=>False
noncomputable def Bc:List D->Option (List V)
 |[]=>some []
 |d::r=>match BL d,Bc r with
  |some v,some f=>some (v::f)
  |_,_=>none
theorem Dg:∀{ds}{vs us:List V},Rps K H ds vs->Bc ds=some us->vs=us
 |[],_,_,.nil,e=>by cases e;rfl
 |d::r,_,us,.cons h t,e=>by
  unfold Bc at e;split at e
  ·rename_i v vs g f;cases e
   rw[FB h g,Dg t f]
  ·grind
def G7(neg:Bool):S->S->(S->Prop)->Prop:=λx y R=>match x.d,y.d with
 | .lst l,.lst h=>∃g f,Bc l=some g/\Bc h=some f/\g.all KZ=true/\f.all KZ=true/\R (.sh<|.bl (if neg then !eqL g f else eqL g f))
 |_,_=>False
def Zm4{n g a b}(N:Xu K mg E n a)(M:Xu K mg E g b):Xu K mg E (tOp (TN K neg) n g) (p2 a b<|G7 neg):=by
 refine PD N M λH0 H H2 Z x y v u R Q o s1 hm J G h q=>?_;unfold G7 at h;have s:=J.rp o;have p:=G.rp o;split at h
 ·rename_i ds es e1 e2;rw[e1]at s;rw[e2]at p;obtain⟨C,z,h1,h2,Y,U,T⟩:=h;obtain⟨l,vs,rfl,w,r⟩:=s.lst_inv;obtain⟨m,A,rfl,f,L⟩:=p.lst_inv;rw[Dg r h1]at w;rw[Dg L h2]at f;exact⟨l,m,C,z,rfl,rfl,SqL.of w,SqL.of f,Y,U,q _ _ H2 T (Same.refl _) (.bl _)⟩
 ·grind
def Zjv(f:X.A.units<cLine)(g:autoParam (X.K=K) au_0):OpR X (compareOp .Eq) (TN K false):=by subst g;exact GW f
end
end Pu
namespace PySem
open Sem (wp)
structure Zb6 {K:Type} (es:List DictEntry) (kvs:List (K×Value)):Prop where
 length:es.length=kvs.length
 get?:∀{i:Nat} {e:DictEntry} {k:K} {v:Value},es[i]?=some e->kvs[i]?=some (k,v)->True/\e.val=v
def VDict{K:Type}(h:Heap)(a:Addr)(f:List (K×Value))(l:Nat):Prop:=
 ∃o g,h.get? a=some o/\o.ExactDict/\o.data=.dict g l/\True/\Zb6 g.toList f/\True
section
variable {prog:Program}{w:World}{K:Type}{A:Around}{E:Yj}{s:Shared}
def Zgz(d:Addr)(hd:(d==sysModules)=false) :
  MeetsIn prog w (Builtin.«dict.values» ⟨[.ref d],[]⟩) (λ_ R s=>s.TypeIs (.ref d) "dict"/\
   R (.ok<|.ret<|.ref s.heap.objs.size) {s with heap:=s.heap.push {cls:=.type "dict_values",data:=.fields #[.ref d]}}):=
 .of_wp λA R s ⟨f,h⟩=>by
  refine WK ?_;unfold Builtin.Dict.noArgs;refine WK (wpAny_notOrdered_dict f ?_);show wpAny _ _ (pure d) _ _ s;refine WN ?_;show wpAny _ _ (Builtin.Dict.showsAll d >>= _) _ _ s;unfold Builtin.Dict.showsAll;rw[WS (by rw[hd];exact Ql)];refine WK (WN ?_);exact WK (QF<|WN ⟨_,rfl,h⟩)
def Zph{v d:Addr}{g:List (K×Value)}{y:Nat}{Q:Yj}(l:s.heap.IsValuesView v d)(B:VDict s.heap d g y)(G:Q (.ref s.heap.objs.size) {s with heap:=s.heap.push {cls:=.type "dict_valueiterator",data:=.fields #[.ref d,.int 0 0,.int g.length 0,.int y 0]}}) :
  wpAny (model prog w) A (pyIter<|.ref v) Q E s:=by
 obtain⟨J,p,C,r⟩:=id l;obtain⟨o,H,u,N,f,M,z,L⟩:=id B;refine wpAny_pyIter_slot l.typeIs F.slot_dict_values_iter (Vv F.slot_dict_values_iter l.typeIs F.entry_dict_values_iter ?_<|F.args_dict_values_iter_1 _);unfold Builtin.«dict_values.__iter__»;refine WK (WN ?_);refine WK ?_;unfold Builtin.Dict_items.dictOf;refine WK (JQ p r (x:=.ref d) rfl<|WN ?_);refine WK ?_;unfold Builtin.Dict_items.newIterator;refine WK (wpAny_dictEntries u f ?_);refine WK (wpAny_dictEpoch u f ?_);have n:H.size=g.length:=by rw[←z.length];simp
 have h:Builtin.Dict_items.ownsTuple "dict_valueiterator"=false:=by decide
 simp only[h,Jg,J1];refine QF (WN ⟨_,rfl, "dict_valueiterator",_,⟨_,Qc _ rfl,rfl⟩,F.slot_dict_valueiterator_next.lookup,?_⟩);simpa [rawInt,n]using G
def Zk2{n d:Addr}{i C:Nat}{f:List (K×Value)}{k:K}{v:Value}{Q:Yq->Shared->Prop}(g:s.heap.IsValIter n d i f.length C)(M:VDict s.heap d f C)(hx:f[i]?=some (k,v))(U:∀J,J.IsValIter n d (i+1) f.length C->Heap.SameBut n s.heap J->Q (some v) {s with heap:=J}) :
  wpAny (model prog w) A (pyNext<|.ref n) Q E s:=by
 obtain⟨o,G,T,hd⟩:=id g;obtain⟨Y,B,y,N,z,hk,L,hn⟩:=id M;unfold pyNext
 refine WK (wpAny_attempt (Jn (name:=Str.ofString "__next__") g.typeIs Vl
  (Vv Vl g.typeIs F.entry_dict_valueiterator_next ?_<|F.args_dict_valueiterator_next_1 _)))
 refine WK (WN ?_);refine WK ?_;refine WK ?_
 first|refine WK (Vo g.typeIs<|WN ?_)|refine WK (VE g.typeIs<|WN ?_)
 refine WK (wpAny_fieldsOf G hd ?_);have x:Builtin.Dict_items.ownsTuple "dict_valueiterator"=false:=by decide
 simp only[x,Jg,J1];show wpAny _ _ (if (Value.ref d==Value.none)=true then _ else _) _ _ s;rw[WS (show ¬((Value.ref d==Value.none)=true)from Ql)]
 refine WK (WN ?_);refine WK (wpAny_dictEntries y z ?_);have u:B.size=f.length:=by rw[←L.length];simp
 rw[WS (by rw[u];simp)];refine WK (WN ?_);refine WK (wpAny_dictEpoch y z ?_);rw[WS (by simp)];refine WN ?_
 have H:i<f.length:=by
  rcases Nat.lt_or_ge i f.length with h|h
  ·exact h
  ·simp[Vh h]at hx
 have p:i<B.size:=by rw[u];exact H
 have r:B[i].val=v:=(L.get? (e:=B[i]) (by simp[p]) hx).2;simp only[show ¬((i:Int)<0)from by omega,J1,Q5,Va p]
 refine WK ?_
 first|refine WK (Vo g.typeIs<|WN ?_)|refine WK (VE g.typeIs<|WN ?_)
 refine WK (J6 g.typeIs ?_);show wpAny _ _ (setField (.ref n) 1 (rawInt ((i:Int)+1)) >>= _) _ _ s;refine WK (Vf G hd (by simp) ?_)
 have l:(s.heap.update n<|Obj.mapFields (·.setIfInBounds 1 (rawInt ((i:Int)+1)))).IsValIter n d (i+1) f.length C:=
  ⟨_,QB _ G (Vg<|QN hd _),(Jt ..).trans T,by rw[QN hd];simp[rawInt]⟩
 refine WK (QX ?_);refine WK (J6 (s:={s with heap:=s.heap.update n (Obj.mapFields (·.setIfInBounds 1 (rawInt ((i:Int)+1))))}) l.typeIs ?_)
 refine WK (J6 (s:={s with heap:=s.heap.update n (Obj.mapFields (·.setIfInBounds 1 (rawInt ((i:Int)+1))))}) l.typeIs ?_)
 show wpAny _ _ (pure B[i].val) _ _ _;exact WN (WN ⟨_,rfl,WN (r▸U _ l (QT ..))⟩)
def Zox{r d:Addr}{i z:Nat}{g:List (K×Value)}{Q:Yq->Shared->Prop}(G:A.handled=none)(f:s.heap.IsValIter r d i g.length z)(C:VDict s.heap d g z)(hx:g[i]?=none)(J:∀x,Heap.ExtBut r s.heap x->Q none {s with heap:=x}):wpAny (model prog w) A (pyNext<|.ref r) Q E s:=by
 obtain⟨o,v,U,hd⟩:=id f;obtain⟨L,y,n,H,p,N,B,M⟩:=id C;unfold pyNext
 refine WK (wpAny_attempt (Jn (name:=Str.ofString "__next__") f.typeIs Vl
  (Vv Vl f.typeIs F.entry_dict_valueiterator_next ?_<|F.args_dict_valueiterator_next_1 _)))
 refine WK (WN ?_);refine WK ?_;refine WK ?_
 first|refine WK (Vo f.typeIs<|WN ?_)|refine WK (VE f.typeIs<|WN ?_)
 refine WK (wpAny_fieldsOf v hd ?_);have l:Builtin.Dict_items.ownsTuple "dict_valueiterator"=false:=by decide
 simp only[l,Jg,J1];show wpAny _ _ (if (Value.ref d==Value.none)=true then _ else _) _ _ s;rw[WS (show ¬((Value.ref d==Value.none)=true)from Ql)]
 refine WK (WN ?_);refine WK (wpAny_dictEntries n p ?_);have h:y.size=g.length:=by rw[←B.length];simp
 rw[WS (by rw[h];simp)];refine WK (WN ?_);refine WK (wpAny_dictEpoch n p ?_);rw[WS (by simp)];refine WN ?_;have u:y.size<=i:=by rw[h];simpa using hx
 simp only[show ¬((i:Int)<0)from by omega,J1,Q5,Jy u]
 refine WK ?_
 first|refine WK (Vo f.typeIs<|WN ?_)|refine WK (VE f.typeIs<|WN ?_)
 show wpAny _ _ (setField (.ref r) 0 .none >>= _) _ _ s;refine WK (Vf v hd (by simp) ?_);show wpAny _ _ (newExc (.type "StopIteration") [] >>= _) _ _ _;refine WK ?_;simp only[newExc,newTuple];refine WK (QF ?_<|by size_fits);refine WK (m:=firstArgMember _ _) (wpAny_of_eq (a:=Value.none) (by first|rfl|(simp only[firstArgMember];rfl)) ?_)
 refine QF ?_ (by size_fits);simp only[raiseNew];refine WK (wpAny_handled ?_);rw[show A.in1.handled=none from G]
 refine WK (WN<|wpAny_throw ?_);refine WK (wpAny_isInstance (T:="StopIteration") (b:=true) ⟨_,Qc _ rfl,rfl⟩ isSubtype_stop ?_);exact WN (J _ (((QT ..).extBut.push _).push _))
end
end PySem
open PySem PySem.Spec PyProof.Rows
namespace Own
open L2
noncomputable def GA(K:Ye):R2:=λx y H Q=>∃a b xs f,x=.ref a/\y=.ref b/\SqT K H a xs/\SqT K H b f/\xs.length+f.length<=sizeLine/\
 (xs=[]->Q (.ref b) H)/\(xs≠[]->f=[]->Q (.ref a) H)/\(xs≠[]->f≠[]->∀p,H p=none->Q (.ref p) (upd H p<|.tup (xs++f)))
section
variable {X:Cx}{K:Ye}
def Zjs(hK:autoParam (X.K=K) au_0):OpR X (binaryOp .Add) (GA K):=by
 subst hK;intro pins s G H x y v u Q I M L h;obtain⟨a,b,xs,J,rfl,rfl,C,B,hz,Y,U,T⟩:=h;cases M
 cases L
 by_cases hx:xs=[]
 ·obtain⟨r,N,p1,_⟩:=I.tuple C;obtain⟨f,r2,p2,_⟩:=I.tuple B;have e:=N.nil_iff.mpr hx;obtain⟨⟨cls,dd,data,sl⟩,z,A,n,hd⟩:=id p1;obtain⟨⟨E,w,data2,p⟩,g,o,n2,l⟩:=id p2;simp only at A hd o l;subst A hd o l
  exact concat_meets ⟨_,z,rfl⟩ ⟨_,g,rfl⟩ noFill_tuple_add seq_tuple_add Jx Jm (Jc _ _)
   (tuple_addW0 a b r.toArray f.toArray n n2 dd w sl p<|by grind) ⟨z,g,⟨.ref b,H,I,rfl,Y hx⟩⟩
 ·exact Znt pins s G H (.ref a) (.ref b) _ _ Q I rfl rfl ⟨a,b,xs,J,rfl,rfl,C,B,hx,hz,U hx,T hx⟩
def Zff(h:VV [(.ref b,x)] f):∃r,f=[(.ref b,r)]/\RelV x r:=by
 cases h with
 |cons h t=>
  cases t
  rename_i y;obtain⟨u,r⟩:=y;obtain⟨g,l⟩:=h;cases g
  grind
noncomputable def M3(n l:TE):TE:=λg H Q=>∀p,H p=none->n g (upd H p<|.dT []) λy o=>l g o λx f=>f p=some (.dT [])/\∃b h,y=.ref b/\f b=some (.tup<|h.map kV)/\Q (.ref p) (upd f p<|.dT [(h,x)])
def Zii{r p pos}(M:X.A.units+1<cLine)(T:PE X k r)(L:PE X v p):PE X (.Dict [some k] [v] pos) (M3 r p):=by
 intro pins s C H Q I q
 refine wpAny_Dict_any rfl rfl (by simp) (by simp) (thn ((Zhn T L Zfu) pins _ C _ (λw l=>match w with
  |[(y,x)]=>l s.heap.objs.size=some (.dT [])/\∃b g,y=.ref b/\l b=some (.tup<|g.map kV)/\Q (.ref s.heap.objs.size) (upd l s.heap.objs.size<|.dT [(g,x)])
  |_=>False) (I.laid (t':=s.toks) (λ_ _ q=>WO _ q) (WU _)<|Ie s.heap I.big)<|q _<|I.hok.fresh<|WU s.heap.objs.size) λws s2 ⟨w,l,o,rel,h⟩=>?_)
 split at h
 ·rename_i y x;obtain⟨e,b,g,ey,B,J⟩:=h;subst ey;obtain⟨E,ew,G⟩:=Zff rel;subst ew;obtain⟨z,hd,xs,f,dd⟩:=Ft o.hok e;cases f
  unfold storeAll;rw[List.forIn_cons];refine WK (WK (wpAny_dictSet_heap (Nat.lt_of_succ_lt M) (Fj o.hok B) dd λh' n N=>WN ?_))
  dsimp only
  refine WN ?_;obtain⟨u,es,ep,hq,h,h3,Y,_,U⟩:=n;refine⟨.ref s.heap.objs.size,_,FU (ob:=.dT [(g,x)]) o (by rw[e];exact True.intro) N ⟨u,hq⟩ ⟨(by show 1<=sizeLine;decide),hd,[(g,b,E)],?_,u,es,ep,hq,h,h3,Y,U⟩,rfl,J⟩;refine .cons ⟨rfl,?_,G⟩ .nil;rwa[X1 (Ej B e (λz=>nomatch z))]
 ·exact h.elim
end
section
variable {prog:Program}{w:World}{A:Around}{K:Type}{d r:Addr}{kvs:List (K×Value)}{ep:Nat}{h h':Heap}
def VDict.at (x:VDict h d kvs ep) (e:∀o,h.get? d=some o->h'.get? d=some o):VDict h' d kvs ep:=let ⟨o,g,f,r⟩:=x;⟨o,g,e _ f,r⟩
def VDict.lt (x:VDict h d kvs ep):d<h.objs.size:=let ⟨_,_,f,_⟩:=x;WY f
def Ziz(hh:A.handled=none)(I d:Addr)(hne:d≠I)(kvs:List (K×Value))(ep:Nat) :
  Walks prog w A I [I,d] [I] kvs.length (λi v=>∃k,kvs[i]?=some (k,v)) (λi h=>h.IsValIter I d i kvs.length ep/\VDict h d kvs ep) where
 sub:=λb hb=>by simp at hb;simp[hb]
 frame:=λ_ _ _ st hk=>⟨st.1.at λo e=>hk I (by simp) o e,VDict.at st.2 λo e=>hk d (by simp) o e⟩
 item:=λi s Q E hi st hQ=>by
  refine Zk2 (k:=(kvs[i]).1) (v:=(kvs[i]).2) st.1 st.2 (by grind) λh' hit' hs'=>?_;exact hQ _ h' s.toks ⟨(kvs[i]).1,by simp[hi]⟩ ⟨hit',VDict.at st.2 λo e=>hs'.extBut d o hne e⟩ λb o hb e=>hs'.extBut b o (λh=>hb (by grind)) e
 done:=λs Q E st hQ=>Zox hh st.1 st.2 (by simp) λh' he'=>hQ h' s.toks λb o hb e=>he' b o (λh=>hb (by grind)) e
 self:=λ_ _ _ _ st hQ=>wpAny_pyIter_valiter st.1 hQ
def Zkm:PySem.W.KdlSrc prog w "dict_values" r d kvs.length (λi v=>∃k,kvs[i]?=some (k,v)) (λh=>h.IsValuesView r d/\VDict h d kvs ep) where
 type:=λ_ hm=>hm.1.typeIs
 there:=λ_ hm=>⟨let ⟨_,ho,_⟩:=hm.1;WY ho,VDict.lt hm.2⟩
 keep:=λ_ _ hm hk=>⟨let ⟨o,ho,x⟩:=hm.1;⟨o,hk r (.inl rfl) o ho,x⟩,VDict.at hm.2 λo e=>hk d (.inr rfl) o e⟩
 notList:=by decide
 notTuple:=by decide
 hint:=λ_ _ _ _ hm hq=>PySem.W.kdl_hint_values hm.1.typeIs hq
 iter:=λ_ _ hh hm=>⟨_,_,(λ_ _ hq=>Zph hm.1 hm.2 hq),Ziz hh _ d (Qo<|VDict.lt hm.2) kvs ep,⟨⟨_,Qc _ rfl,rfl,rfl⟩,VDict.at hm.2 λo e=>WO _ e⟩⟩
end
noncomputable def BJ(v d:Addr):HO:=.ext λh=>h.IsValuesView v d
def CM:V->List V->Hp->VK->Prop:=λx g H Q=>∃d f,x=.ref d/\g=[]/\H d=some (.dT f)/\∀v,H v=none->Q (.ref v) (upd H v<|BJ v d)
section
variable {X:Cx}
def Zi2:MtR X "dict.values" CM:=by
 intro pins s w H x xs v y Q I l n h;obtain⟨d,p,rfl,rfl,hd,q⟩:=h;cases l
 have g:=n.zero;subst g;obtain⟨z,lo,xs,rel,u⟩:=Ft I.hok hd;obtain⟨o,C,E,f,hx,_⟩:=id u;refine call_meetsIn PySem.F.slot_dict_values ⟨o,f,hx.1⟩ PySem.F.entry_dict_values (PySem.F.args_dict_values_1 _) (Zgz d lo) ⟨⟨o,f,hx.1⟩,?_⟩;refine⟨.ref s.heap.objs.size,_,I.laid (o:=BJ s.heap.objs.size d) (λ_ _ q=>WO _ q) (WU _) ⟨⟨_,Qc _ rfl,rfl,rfl⟩,⟨_,Qc _ rfl⟩,λB A ⟨o,f,r⟩ e=>⟨o,e o f,r⟩⟩,rfl,q _ (I.hok.fresh<|WU _)⟩
def Zla{K}{o}{to}{name:Str}{apos cpos}(h:PE X o to)(n:autoParam (X.K=K) au_0)(l:autoParam (name = "values") au_0)(g:autoParam (attributeBase o name X.env (eval o X.env)=eval o X.env) au_0)(f:autoParam ((apos.endLine==cpos.line)=true) au_0):PE X (.Call (.Attribute o name apos) [] [] cpos) (Bs K "dict" CM to):=by
 subst n l;exact S9 PySem.F.plainAttrs_dict PySem.F.slot_dict_values PySem.F.type_dict_values Zi2 h g f
def L9:∀{kvs}{xs:List (List Key×Addr×Value)},KT H kvs xs->Vals (kvs.map (·.2)) (xs.map (·.2.2)):=by
 intro g
 induction g with
 |nil=>
  intro _ h;cases h
  exact .nil
 |cons _ _ f=>
  intro _ h;cases h with
  |cons h r=>
   exact .cons h.2.2 (f r)
def Zry(N:X.calm=true):Kv X (.type "list") (λxs H Q=>∃v d f,xs=[.ref v]/\H v=some (BJ v d)/\H d=some (.dT f)/\∀l,H l=none->Q (.ref l) (upd H l<|.lst<|f.map (·.2))):=by
 intro pins s σ H xs us Q I C h;obtain⟨v,d,f,rfl,G,hd,q⟩:=h;obtain⟨u,rfl,E⟩:=C.one;obtain rfl:=E;obtain⟨z,lo,xs,rel,dd⟩:=Ft I.hok hd;obtain⟨o,U,Y,L,hx,p,A,y,hn⟩:=id dd;have hl:xs.length=f.length:=by simpa using(L9 rel).length.symm
 have B:VDict s.heap d (xs.map λx=>((),x.2.2)) Y:=by
  refine⟨o,U,L,hx,p,trivial,⟨by rw[A,WL,WL],λ{i e k v} w r=>⟨trivial,?_⟩⟩,trivial⟩;rw[A,WX]at w;rw[WX]at r;cases M:xs[i]? with
  |none=>grind
  |some x=>
   rw[M]at w r;cases w
   cases r
   rfl
 refine PySem.W.kdl_call Zkm (I.ok.hd N) ⟨((I.hok v _ G).1),B⟩ (by rw[WL];lia) λh' tk n c' y T g=>?_;refine⟨.ref s.heap.objs.size,upd H s.heap.objs.size (.lst<|f.map (·.2)),?_,rfl,q _ (I.hok.fresh<|WU _)⟩;refine I.laid y (WU _) ⟨by rw[WL];exact z,n.toList,c',?_,by simpa using T⟩;rw[(PySem.W.kdl_vals_eq n.toList (by rw[QK];exact g.1) λj u J=>g.2 j u (by rw[←J,Vb])),Q7];exact L9 rel
end
end Own
namespace Pu
open L2 Own M
section
variable {K:Ye}{mg:Yi}{E:L2.St->XK}{H0 H H1 H':Hp}{B Z Z':Addr->Prop}{σ:L2.St}{γ:Γ}
noncomputable def Si:Option D->Option (List D)
 |some (.tup f)=>some f|_=>none
def CY(h:Si o=some ds):o=some (.tup ds):=by
 unfold Si at h;split at h
 ·grind
 ·grind
def Zlh:S->S->(S->Prop)->Prop:=λx y R=>∃g f,Si x.shd=some g/\Si y.shd=some f/\g.length+f.length<=100000/\R (.sh<|.tup (g++f))
def Zok{a b}(Y:Xu K mg E M a)(U:Xu K mg E L b):Xu K mg E (tOp (GA K) M L) (p2 a b Zlh):=by
 refine PD Y U λH0 H H2 Z x y v u R Q s f r J G h q=>?_;obtain⟨ds,es,e1,e2,T,h⟩:=h;have N:=J.shd s r f (CY e1);have w:=G.shd s r f (CY e2);obtain⟨l,C,rfl,h1,o⟩:=Rp.tup_inv N;obtain⟨m,A,rfl,h2,n⟩:=Rp.tup_inv w;refine⟨l,m,C,A,rfl,rfl,SqT.of (off_sub _ _ h1),SqT.of (off_sub _ _ h2),by rw[o.len,n.len];exact WZ T (by decide),λe=>?_,λ_ e=>?_,λ_ _ p g=>?_⟩
 ·subst e;cases o
  exact q _ _ _ h (Same.refl _) w
 ·subst e;cases n
  refine q _ _ _ h (Same.refl _) ?_;rw[Q8];trivial
 ·refine q _ _ _ h (Ki g) (.tup (XY XG λz=>?_)<|Rps.mono (XA (Ki g) λ_ _ _ z=>z)<|o.append n)
  have:=(λb z=>Tg f (r b z)) p z
  rw[g]at this;exact this
noncomputable def pIT(a:PTE):PTI:=λγ R X=>a γ (λs=>∃f,Si s.shd=some f/\R f.length λi=>.sh (f.getD i .non)) X
def Fd(L:Xu K mg E te a):SndI K mg E (DG K te) (pIT a):=by
 intro H0 B H σ γ R X Q f h q G;refine L H0 B H σ γ _ X _ f h (λs v H1 o p C=>?_) G;obtain⟨z,M,o⟩:=o;obtain⟨l,g,rfl,n,r⟩:=Rp.tup_inv (C.shd (f.grow p).same f.zm p (CY M));refine⟨l,rfl,⟨g,SqT.of (off_sub _ _ n)⟩,q _ _ _ H1 o p ⟨λi H' Z' J lt=>?_,λH' Z' lt=>?_⟩⟩
 ·have hd:z[i]?=some (z.getD i .non):=by rw[WV,WJ J];rfl
  obtain⟨u,w,A⟩:=r.get hd;have k:=off_sub _ _ (lt.off _ _ n);refine⟨⟨g,u,SqT.of k,w⟩,λx N y=>?_⟩;obtain⟨rfl,y⟩:=y
  have:=y g (SqT.of k)
  rw[w]at this;cases this
  exact⟨Same.refl _,Rp.mono lt.off A⟩
 ·exact⟨g,SqT.of (off_sub _ _<|lt.off _ _ n),by rw[r.len];exact WU _⟩
noncomputable def SH:List (List Key×V)->Bool
 |[]=>true
 |p::r=>Ai p.2&&SH r
theorem Ih:∀{f:List (List Key×V)},SH f=true->Rps K H (f.map λp=>vD p.2) (f.map (·.2))
 |[],_=>.nil
 |p::r,h=>by
  unfold SH at h;rw[Q9]at h;exact .cons (AY h.1) (Ih h.2)
def Zc2:List V->Hp->VK->Prop:=λxs H Q=>∃(v d:Addr) (f:List (List Key×V)),xs=[.ref v]/\H v=some (BJ v d)/\H d=some (.dT f)/\∀l,H l=none->Q (.ref l) (upd H l<|.lst<|f.map (·.2))
noncomputable def Zdz(a:PTE):PTE:=λγ R X=>a γ (λs=>∃f,s.d=.dT f/\SH f=true/\R (.own<|.lst (f.map λp=>vD p.2))) X
def Zij(C:Xu K mg E te a):Xu K mg E (tCB Zc2<|Kp (Bs K "dict" CM te) KR) (Zdz a):=by
 intro H0 B H σ γ R X Q g h q z;refine C H0 B H σ γ _ X _ g h (λs v H1 J o y=>?_) z;obtain⟨f,e,A,G⟩:=J;have r:=y.rp (g.grow o).same;rw[e]at r;obtain⟨l,rfl,n⟩:=r.dT_inv;refine⟨.inr (.inr<|.inl ⟨rfl,.inr ⟨f,n⟩⟩),l,f,rfl,rfl,n,λp u=>?_⟩;refine⟨p,l,f,rfl,XG,by rw[X1 (K7 n u)];exact n,λm w=>?_⟩;have x:Same H1 (upd H1 p<|BJ p l):=Ki u;exact q _ _ _ G ((o.trans x).trans (Ki w)) ⟨m,rfl,(λ_ e=>e▸(o.trans x).free w),_,XG,Ih A⟩
noncomputable def Zcl(a b:PTE):PTE:=λγ R X=>a γ (λy=>b γ (λx=>∃f u,SW y.d=some f/\BL x.d=some u/\R (.own<|.dT [(f,u)])) X) X
def Znv{a b}(ha:Xu K mg E L a)(hb:Xu K mg E J b):Xu K mg E (M3 L J) (Zcl a b):=by
 intro H0 B H σ γ R X Q A h q G p s;have r:Same H (upd H p<|.dT []):=Ki s;have env0:=A.grow r;refine ha H0 B _ σ γ _ X _ env0 h (λy v H1 h1 n N=>?_) λc H' g C=>G c H' g (r.trans C);have f:=env0.grow n;refine hb H0 B H1 σ γ _ X _ f h1 (λx w H2 h2 l M=>?_) λc H' g C=>G c H' g ((r.trans n).trans C);obtain⟨T,u,k1,Y,U⟩:=h2;have eu:=FB (M.rp (f.grow l).same) Y;obtain⟨b',rfl,z⟩:=F1 (Rp.mono l<|N.rp f.same) k1;subst eu;refine⟨l _ _ (n _ _ XG),b',T,rfl,z,q _ _ _ U (λc o g=>?_) ⟨p,rfl,(λ_ e=>e▸s),XG⟩⟩
 have:c≠p:=λe=>by subst e;rw[s]at g;cases g
 rw[X1 this];exact l _ _ (n _ _<|r _ _ g)
end
section
variable {X:Cx}{K:Ye}
def BB{g l f}(h:PE X l f)(n:autoParam (X.K=K) au_0):PI X g l (DG K f):=by subst n;exact Zha h
end
end Pu
namespace M
open L2 Own Pu
noncomputable def tD(f:Yg):D:=.tup (f.map D.int)
noncomputable def kT(f:Yg):List Key:=f.map Sum.inl
def Zg1(f:Yg):arg (tD f)=.sh (tD f):=by
 unfold arg tD imm;rw[SD]
def Be:Ti N (tD f::ds)=some (.sh<|tD f)::(ds.map (λd=>some (arg d))++List.replicate (N.length-(ds.length+1)) none):=by
 unfold Ti;rw[Qf,Zg1];rfl
def Ar(f:Yg):SW (tD f)=some (kT f):=by
 show Sy (f.map D.int)=some (f.map Sum.inl)
 induction f with
 |nil=>rfl
 |cons m r g=>
  rw[Qf,Qf];unfold Sy;rw[g];rfl
def Zq0(f:Yg):Si (some<|tD f)=some (f.map D.int):=rfl
noncomputable def XC(f:Yg)(h:Int):Yg:=f.filter λm=>decide (m≠h)
noncomputable def Nl(f:Yf)(g:Yg)(h:Int):Bool:=!(f.any λq=>decide (q.1=h)&&decide (q.2∈g))
noncomputable def firstM(f:Yf)(g:Yg)(h:Int):Bool:=!(f.any λq=>decide (q.2=h)&&decide (q.1∈g))
noncomputable def XO(f:Yg):List (Yg):=f.foldl (λS h=>S++S.map (·++[h])) [[]]
def Sf(f:Yg)(h:Int):XO (f++[h])=XO f++(XO f).map (·++[h]):=by
 unfold XO;simp
def SS{P:Yg->Prop}(n:P [])(g:∀r h,P r->P (r++[h]))(l:Yg):P l:=by
 have f:∀r:Yg,P r.reverse:=λr=>by
  induction r with
  |_=>grind
 rw[←List.reverse_reverse l]
 grind
def E4(f:Yg):(XO f).length=2 ^ f.length:=by
 refine SS (P:=λf=>(XO f).length=2 ^ f.length) rfl (λr h g=>?_) f;rw[Sf,WW,WL,g,WW,Vc,Nat.pow_succ];lia
def SO(g:Yg):∀f∈XO g,f.Sublist g:=by
 refine SS (P:=λg=>∀f∈XO g,f.Sublist g) (λf h=>?_) (λr h l f hm=>?_) g
 ·have:f=[]:=by simpa [XO]using h
  grind
 ·rw[Sf,Qh]at hm;rcases hm with hm|hm
  ·grind
  ·grind
noncomputable def oc(c:Int->Int->Int):Yg->Int
 |[]=>0
 |a::r=>(r.map<|c a).sum+oc c r
def Keeps(f:Yf)(o:Yg):Prop:=o.Pairwise λa b=>(b,a)∉f
structure KH (ws:Yf) (c:Int->Int->Int) (ms:Yg) (v:Int):Prop where
 is:∃o:Yg,o.Perm ms/\Keeps ws o/\oc c o=v
 le:∀o:Yg,o.Perm ms->Keeps ws o->v<=oc c o
def KH.uniq (h:KH f c n v) (k:KH f c n u):v=u:=by
 obtain⟨o,o1,l,s⟩:=h.is;obtain⟨p,g,p2,r⟩:=k.is
 have:=h.le p g p2
 have:=k.le o o1 l
 lia
theorem Ax(c:Int->Int->Int)(l:Int):∀o,oc c (o++[l])=oc c o+(o.map (c · l)).sum
 |[]=>by simp[oc]
 |a::r=>by
  rw[Vt];unfold oc;rw[Ax c l r]
  grind
def Sl{f:Int->Int}{xs g:Yg}(h:xs.Perm g):(xs.map f).sum=(g.map f).sum:=by
 induction h with
 |nil=>rfl
 |trans _ _ n l=>lia
 |_=>grind
def Nc{f:Yg}{h}(g:f.Nodup)(l:h∈f):f.Perm (h::XC f h):=by
 have e:XC f h=f.erase h:=by
  unfold XC;rw[g.erase_eq_filter]
  grind
 grind
def less_sub:(XC f h).Sublist f:=List.filter_sublist
def lastM_iff:Nl f g h=true↔∀b∈g,(h,b)∉f:=by
 unfold Nl;constructor
 ·grind
 ·grind
def firstM_iff:firstM f g h=true↔∀b∈g,(b,h)∉f:=by
 unfold firstM;constructor
 ·grind
 ·grind
def Zci{ms}{vs:Int->Int}{M}(s:ms.Nodup)(hw:∀q∈h,q.1≠q.2)(w:∀l∈ms,KH h c (XC ms l) (vs l))(E:∃l∈ms,Nl h ms l=true/\M=vs l+((XC ms l).map (c · l)).sum)(C:∀l∈ms,Nl h ms l=true->M<=vs l+((XC ms l).map (c · l)).sum):KH h c ms M:=by
 constructor
 ·obtain⟨l,g,f,e⟩:=E;obtain⟨o,o1,n,x⟩:=(w l g).is;refine⟨o++[l],?_,?_,?_⟩
  ·exact(List.perm_append_singleton l o).trans (((List.Perm.cons l o1)).trans (Nc s g).symm)
  ·refine VU.mpr ⟨n,List.pairwise_singleton _ _,λa B b v=>?_⟩;rw[WQ.mp v];exact lastM_iff.mp f a (less_sub.subset<|o1.mem_iff.mp B)
  ·rw[Ax,x,e,Sl o1]
 ·intro o o1 n;rcases Vd o with rfl|⟨p,l,rfl⟩
  ·grind
  ·rw[V2]at o1 n ⊢;have g:l∈ms:=o1.mem_iff.mp (by simp);obtain⟨A,_,y⟩:=VU.mp n
   have r:p.Perm (XC ms l):=by
    have:=((List.perm_append_singleton l p).symm.trans o1).trans (Nc s g)
    exact this.cons_inv
   have f:=lastM_iff.mpr λb v=>by
    rcases Qa.mp ((Nc s g).mem_iff.mp v)with e|u
    ·subst e;exact λz=>hw _ z rfl
    ·exact y b (r.mem_iff.mpr u) l (WQ.mpr rfl)
   have a1:=C l g f;have a2:=(w l g).le p r A;rw[Ax,Sl r];lia
def L0(a b:Yg)(l:Int):XC (a++b) l=XC a l++XC b l:=List.filter_append ..
def Oa(h:l∉a):XC a l=a:=List.filter_eq_self.mpr λm f=>WM λe=>h (e▸f)
def Zkp(f:Yg):∃T,XO f=[]::T:=by
 refine SS (P:=λf=>∃T,XO f=[]::T) ⟨[],rfl⟩ (λr h ⟨T,e⟩=>?_) f;rw[Sf,e]
 grind
def Od(f:Yg):(XO f).getLast?=some f:=by
 refine SS (P:=λf=>(XO f).getLast?=some f) rfl (λr h e=>?_) f;rw[Sf,List.getLast?_append,List.getLast?_map,e];rfl
def IP:f.Nodup->(XO f).Nodup:=by
 refine SS (P:=λf=>f.Nodup->(XO f).Nodup) (λ_=>by simp[XO]) (λr h n o=>?_) f;obtain⟨l,_,p⟩:=Vm.mp o;rw[Sf];refine Vm.mpr ⟨n l,?_,λa u b s e=>?_⟩
 ·exact List.Pairwise.map _ (λa b g e=>g (List.append_cancel_right e)) (n l)
 ·obtain⟨c,v,rfl⟩:=Qq.mp s;subst e;exact p h ((SO r _ u).subset (by simp)) h (by simp) rfl
def HJ:g.Nodup->∀k f,(XO g)[k]?=some f->∀l∈f,∃j:Nat,j<k/\(XO g)[j]?=some (XC f l):=by
 refine SS (P:=λg=>g.Nodup->∀k f,(XO g)[k]?=some f->∀l∈f,∃j,j<k/\(XO g)[j]?=some (XC f l)) (λ_ k f e l s=>?_) (λr h y A k f e l s=>?_) g
 ·have:f=[]:=by
   have:=Qj e
   simpa [XO]using this
  subst this;cases s
 ·obtain⟨x,_,B⟩:=Vm.mp A;rw[Sf]at e ⊢;by_cases C:k<(XO r).length
  ·rw[Qw C]at e;obtain⟨j,o,p⟩:=y x k f e l s;exact⟨j,o,by rw[Qw (by lia)];exact p⟩
  ·rw[Qy (by lia),WX]at e;cases q:(XO r)[k-(XO r).length]? with
   |none=>rw[q]at e;cases e
   |some n=>
    rw[q]at e;cases e
    have E:=λz=>B h ((SO r n<|Qj q).subset z) h (by simp) rfl;by_cases v:l=h
    ·subst v
     have w:XC (n++[l]) l=n:=by
      rw[L0,Oa E];simp[XC]
     obtain⟨j,o,p⟩:=Q4.mp (Qj q);refine⟨j,by lia,?_⟩;rw[Qw o,w,WJ o,p]
    ·have u:l∈n:=by
      rcases Qh.mp s with z|z
      ·exact z
      ·exact absurd (WQ.mp z) v
     have w:XC (n++[h]) l=XC n l++[h]:=by
      rw[L0];congr 1;exact Oa λz=>v (WQ.mp z)
     obtain⟨j,o,p⟩:=y x _ n q l u;refine⟨(XO r).length+j,by lia,?_⟩;rw[Qy (by lia),WX,Nat.add_sub_cancel_left,p,w];rfl
def F3(h:kT a=kT b):a=b:=List.map_inj_right (λ_ _=>Sum.inl.inj) |>.mp h
def Lm(h:Yg)(g:Yf):Prop:=∀f:Yg,f.Sublist h->f≠[]->∃l∈f,∀b∈f,(l,b)∉g
structure Tab (ws:Yf) (c:Int->Int->Int) (S:List (Yg)) (kvs:List (List Key×V)):Prop where
 keys:kvs.map (·.1)=S.map kT
 val:∀ms∈S,∃v,XD kvs (kT ms)=some (.int v)/\KH ws c ms v
def Zo1(f:Yf)(c:Int->Int->Int):Tab f c [[]] [([],.int 0)]:=by
 refine⟨rfl,λl h=>?_⟩;rw[WQ.mp h];refine⟨0,rfl,⟨[],.refl _,.nil,rfl⟩,λo g _=>?_⟩;rw[g.eq_nil];exact QP _
def Tab.put {S f h v} (T:Tab l c S f) (s:h∉S) (L:KH l c h v):Tab l c (S++[h]) (putK f (kT h)<|.int v):=by
 have p:XD f (kT h)=none:=by
  cases e:XD f (kT h)with
  |none=>rfl
  |some u=>
   unfold XD at e;cases q:f.find? (λr=>decide (r.1=kT h))with
   |none=>rw[q]at e;cases e
   |some x=>
    have w:=List.find?_some q;have o:x.1∈f.map (·.1):=Qq.mpr ⟨x,(List.mem_of_find?_eq_some q),rfl⟩;rw[T.keys,WR w]at o;obtain⟨n,g,y⟩:=Qq.mp o;rw[F3 y]at g;exact absurd g s
 constructor
 ·rw[Zh8 _ p,Qd,Qd,T.keys];rfl
 ·intro n g;rw[FN];by_cases e:n=h
  ·grind
  ·rw[WS λz=>e (F3 z)];rcases Qh.mp g with z|z
   ·exact T.val n z
   ·exact absurd (WQ.mp z) e
open Classical in
def R3{n:Yg}{P:Int->Int->Prop}(h:∀l∈n,∃v,P l v):∃f:Int->Int,∀l∈n,P l (f l):=
 ⟨λl=>if g:l∈n then Classical.choose (h l g)else 0,λl g=>by
  simp only[dif_pos g];exact Classical.choose_spec (h l g)⟩
def Zn7{r}(R:Ring o (l.map λq=>(q.2,q.1)) r):Ring o l r.reverse:=by
 have n:∀{x y:Int},(x,y)∈(l.map λq=>(q.2,q.1))->(y,x)∈l:=λh=>by
  obtain⟨q,hq,e⟩:=Qq.mp h;cases e
  exact hq
 refine⟨by rw[JM];exact R.two,List.pairwise_reverse.mpr (R.nodup.imp λh=>Ne.symm h),λx hx=>R.sub x (List.mem_reverse.mp hx),λi x y g f=>?_,λx y g f=>?_⟩
 ·have p:i+1<r.length:=by
   have:=(Qg.mp f).1
   rw[JM]at this;exact this
  rw[J7 (by lia)]at g f;exact n (R.chain (r.length-1-(i+1)) y x f<|by rw[←g];congr 1;lia)
 ·have two:=R.two;rw[J7 (by lia)]at g;rw[JM,J7 (by lia)]at f;exact n (R.last y x (by rw[←f];congr 1;lia)<|by rw[←g];congr 1)
def Mg{ws}(l:∀q∈ws,q.1≠q.2)(h:¬ ∃r,Ring n ws r):Lm n ws:=λg s f=>by
 refine Q1 λz=>h ?_
 have u:∀x∈g,∃y∈g,(y,x)∈(ws.map λq=>(q.2,q.1)):=λx hx=>by
  grind
 obtain⟨r,R⟩:=Zbk (λq hq=>by
  obtain⟨p,o,e⟩:=Qq.mp hq;subst e;exact λe=>l p o e.symm) f u
 have F:=Zn7 R;exact⟨_,F.two,F.nodup,λx hx=>s.subset (F.sub x hx),F.chain,F.last⟩
theorem MG:∀{f:List (List Key×V)},(f.map (·.1)).Nodup->∀p∈f,XD f p.1=some p.2
 |[],_,p,h=>by cases h
 |q::r,g,p,h=>by
  rw[Qf,QC]at g;rcases Qa.mp h with e|h
  ·rw[e];exact Td rfl
  ·rw[To λe=>g.1 (Qq.mpr ⟨p,h,e.symm⟩)];exact MG g.2 p h
def TabV(g:Yf)(c:Int->Int->Int)(S:List (Yg))(vs:Yg):Prop:=vs.length=S.length/\∀(i:Nat) (f:Yg) (v:Int),S[i]?=some f->vs[i]?=some v->KH g c f v
def Tab.vals {S f} (T:Tab s c S f) (z:S.Nodup):∃vs,f.map (·.2)=vs.map V.int/\TabV s c S vs:=by
 have y:(f.map (·.1)).Nodup:=by
  rw[T.keys];exact List.Pairwise.map _ (λa b r e=>r (F3 e)) z
 have x:∀p∈f,∃g∈S,p.1=kT g/\∃v,p.2=.int v/\KH s c g v:=λp l=>by
  have o:p.1∈f.map (·.1):=Qq.mpr ⟨p,l,rfl⟩;rw[T.keys]at o;obtain⟨g,w,e⟩:=Qq.mp o;obtain⟨v,h,n⟩:=T.val g w;rw[e,MG y p l]at h;exact⟨g,w,e.symm,v,Qb h,n⟩
 have C:f.length=S.length:=by
  have:=QA List.length T.keys
  rw[WL,WL]at this;exact this
 refine⟨f.map λp=>match p.2 with | .int v=>v|_=>0,?_,by rw[WL,C],λi g v o h=>?_⟩
 ·rw[Q7];refine Vr λp l=>?_;obtain⟨g,_,_,v,e,_⟩:=x p l;show p.2=V.int (match p.2 with | .int v=>v|_=>0)
  rw[e]
 ·rw[WX]at h;cases q:f[i]? with
  |none=>rw[q]at h;cases h
  |some p=>
   obtain⟨A,B,E,u,H,L⟩:=x p (Qj q);have n:(f.map (·.1))[i]?=some p.1:=by rw[WX,q];rfl
   rw[T.keys,WX,o]at n;have G:=F3 ((Qb n).trans E);simp_all
theorem GG:∀{kvs}{vs:Yg},kvs.map (·.2)=vs.map V.int->SH kvs=true/\kvs.map (λp=>vD p.2)=vs.map D.int
 |[],[],_=>⟨rfl,rfl⟩
 |p::r,v::vs,h=>by
  rw[Qf,Qf,JG]at h;obtain⟨g,f⟩:=GG h.2;unfold SH;rw[g,Qf,Qf,f,h.1];trivial
structure Pi (ws:Yf) (c:Int->Int->Int) (ms o:Yg):Prop where
 perm:o.Perm ms
 keeps:Keeps ws o
 le:∀p:Yg,p.Perm ms->Keeps ws p->oc c o<=oc c p
 first:∀p:Yg,p.Perm ms->Keeps ws p->oc c p=oc c o->o=p\/sl o p
def Zlo(g:Yf)(c:Int->Int->Int):Pi g c [] []:=by
 refine⟨.refl _,.nil,λp f _=>?_,λp f _ _=>.inl f.eq_nil.symm⟩;simp_all
def Zak{ms}{vs:Int->Int}{V g}{p}(r:ms.Nodup)(A:∀q∈n,q.1≠q.2)(v:∀l∈ms,KH n c (XC ms l) (vs l))(G:KH n c ms V)(w:(g::p).Perm ms)(B:Keeps n (g::p))(e:oc c (g::p)=V):g∈ms/\firstM n ms g=true/\vs g+((XC ms g).map (c g)).sum=V/\p.Perm (XC ms g)/\oc c p=vs g:=by
 have h:=w.mem_iff.mp (Q2 ..);have u:=(w.trans<|Nc r h).cons_inv;obtain⟨M,y⟩:=Vy.mp B
 have C:=firstM_iff.mpr λb s=>by
  rcases Qa.mp ((Nc r h).mem_iff.mp s)with e|E
  ·subst e;exact λz=>A _ z rfl
  ·grind
 have a1:=(v g h).le p u y;obtain⟨o,o1,x,L⟩:=(v g h).is;have a2:=G.le (g::o) ((List.Perm.cons g o1).trans (Nc r h).symm) (Vy.mpr ⟨λb s=>firstM_iff.mp C b (less_sub.subset<|o1.mem_iff.mp s),x⟩);have Q:oc c (g::p)=(p.map<|c g).sum+oc c p:=rfl;have N:oc c (g::o)=(o.map<|c g).sum+oc c o:=rfl;have J:=Sl (f:=c g) u;have H:=Sl (f:=c g) o1
 grind
def Zr7{h o}{vs:Int->Int}{V f}(w:h.Nodup)(H:∀q∈n,q.1≠q.2)(s:∀l∈h,KH n c (XC h l) (vs l))(x:KH n c h V)(u:f∈h)(N:firstM n h f=true)(U:vs f+((XC h f).map (c f)).sum=V)(M:∀g∈h,firstM n h g=true->vs g+((XC h g).map (c g)).sum=V->f<=g)(B:Pi n c (XC h f) o):Pi n c h (f::o):=by
 have Q:oc c o=vs f:=by
  obtain⟨p,r,p2,v⟩:=(s f u).is
  have:=(s f u).le o B.perm B.keeps
  have:=B.le p r p2
  lia
 have Y:=Sl (f:=c f) B.perm
 have e:oc c (f::o)=V:=by
  show(o.map<|c f).sum+oc c o=V;lia
 refine⟨(List.Perm.cons f B.perm).trans (Nc w u).symm,Vy.mpr ⟨λb L=>firstM_iff.mp N b (less_sub.subset<|B.perm.mem_iff.mp L),B.keeps⟩,λp r p2=>?_,λp r p2 v=>?_⟩
 ·rw[e];exact x.le p r p2
 ·cases p with
  |nil=>grind
  |cons g p=>
   obtain⟨G,E,C,A,y⟩:=Zak w H s x r p2 (v.trans e);have J:=M g G E C;by_cases T:f=g
   ·subst T;rcases B.first p A (Vy.mp p2).2 (y.trans Q.symm)with z|z
    ·exact .inl (by rw[z])
    ·exact .inr (sl_cons.mpr z)
   ·exact .inr (.inl<|by lia)
end M
namespace Pu
open L2 Own
section
variable {K:Ye}{mg:Yi}{E:L2.St->XK}{H0 H H1 H':Hp}{B Z Z':Addr->Prop}{σ:L2.St}{γ:Γ}
def O.from:O->O->Prop
 | .ins x _ _ h,.ins f _ _ g=>f=x/\∀c∈h,∃l∈g,l.1=c.1
 | .lsA x _,.lsA f _=>f=x
 |_,_=>False
def O.from_adr {o o':O}{a} (h:o.from o'):∀b,o.adr a b->o'.adr a b:=by
 unfold O.from at h
 split at h
 ·intro b f;rcases f with f|⟨c,n,f⟩
  ·exact .inl (f.trans h.1.symm)
  ·obtain⟨p,l,g⟩:=h.2 c n;exact .inr ⟨p,l,f.trans g.symm⟩
 ·intro b f;exact f.trans h.symm
 ·grind
def O.from_at {a l}{F n H H'} (h:o.from o') (g:OR K F H a o) (f:OR K n H' l o'):l=a:=by
 unfold O.from at h
 split at h
 ·exact f.1.trans (h.1.trans g.1.symm)
 ·exact f.1.trans (h.trans g.1.symm)
 ·grind
abbrev Pw:=O->List S->(O->D->Prop)->(O->Str->Prop)->Prop
noncomputable def S.pass:S->Option S
 | .sh d=>some (.sh d) | .own o=>some (.sh o.d)
 | .bor d=>match imm d with|true=>some (.sh d)|false=>some (.bor d)
 | .tmp d=>match imm d with|true=>some (.sh d)|false=>none
 | .view _=>none
def S.flat:S->Prop
 | .sh _=>True | .bor _=>True|_=>False
noncomputable def passes:List S->Option (List S)
 |[]=>some []
 |s::r=>match s.pass,passes r with|some f,some g=>some (f::g)|_,_=>none
structure After (K:Ye) (B:Addr->Prop) (H:Hp) (a:Addr) (o o':O) (H':Hp):Prop where
 same:Same (off (o.adr a) H) H'
 old:∀b,o.adr a b->o'.adr a b
 new:∀b,o'.adr a b->o.adr a b\/H b=none
 at_:OR K (off (λb=>B b\/o'.adr a b) H') H' a o'
noncomputable def spW(mg:Yi)(c:Pw)(K:Ye):Sp:=λl H Q E=>∃(o:O) (a:Addr) (g:List S) (h:List V) (B:Addr->Prop) (R:O->D->Prop) (X:O->Str->Prop),
 l=.ref a::h/\(∀b,B b->Mut (H b)/\¬o.adr a b)/\OR K (off (λb=>B b\/o.adr a b) H) H a o/\TVs K (λb=>B b\/o.adr a b) (off (o.adr a) H) H H g h/\(∀s∈g,s.flat)/\c o g R X/\
 (∀f d v H',R f d->After K B H a o f H'->Rp K (off (λb=>B b\/f.adr a b) H') d v->Q v H')/\∀f e H',X f e->After K B H a o f H'->XE mg E e H'
def TVs.get:∀{f vs}{i:Nat}{s:S},TVs K Z H0 H H' f vs->f[i]?=some s->∃v,vs[i]?=some v/\TV K Z H0 H H' s v:=by
 intro o
 induction o with
 |nil=>
  intro _ i _ h e;simp at e
 |cons _ _ g=>
  intro _ i d h e;cases h with
  |cons h r=>
   cases i with
   |zero=>
    simp at e;subst e;exact⟨_,rfl,h⟩
   |succ i=>
    obtain⟨v,n,l⟩:=g r (by simpa using e);exact⟨v,by simpa using n,l⟩
noncomputable def N9(N:Yn)(o:O)(f:List S):Γ:=some (.own o)::(f.map some++List.replicate (N.length-(f.length+1)) none)
def Zmi{o a f us}(T:∀b,B b->Mut (H b)/\¬o.adr a b)(M:OR K (off (λb=>B b\/o.adr a b) H) H a o)(r:TVs K (λb=>B b\/o.adr a b) (off (o.adr a) H) H H f us)(L:∀s∈f,s.flat)(hn:f.length+1<=N.length) :
  Xz K (off (o.adr a) H) B H (start N (.ref a::us)) (N9 N o f):=by
 have get:∀i s,(N9 N o f)[i+1]?=some (some s)->f[i]?=some s:=λi s h=>by
  unfold N9 at h;rw[Q6]at h;by_cases p:i<f.length
  ·rw[Qw (by rw[WL];exact p),WX,WJ p]at h;rw[WJ p];exact QA some (Qb<|Qb h)
  ·rw[Qy (by rw[WL];lia),VJ]at h;split at h<;>cases h
 have noown:∀i g,(N9 N o f)[i+1]?≠some (some<|.own g):=λi g h=>L _ (Qj<|get i _ h)
 have n:(start N (V.ref a::us))[0]?=some (some<|.ref a):=by
  unfold L2.start;rfl
 have C:∀b,zof B (N9 N o f) (start N (V.ref a::us)) b->B b\/o.adr a b:=λb z=>by
  rcases z with z|⟨i,g,a',l,u,U⟩
  ·exact .inl z
  ·cases i with
   |zero=>
    cases u
    have:o=g:=by
     cases l
     rfl
    subst this;exact .inr U
   |succ i=>exact absurd l (noown i g)
 refine⟨off_sub,?_,λb h=>(T b h).1,λi j x Y g w b l u _ _ _ _=>?_,λi s h=>?_⟩
 ·unfold L2.start N9;simp[r.len]
 ·cases i with
  |succ i=>exact absurd l (noown i g)
  |zero=>
   cases j with
   |zero=>rfl
   |succ j=>exact absurd u (noown j w)
 ·cases i with
  |zero=>
   have h:=h;cases h
   refine⟨_,n,a,rfl,λb Q=>?_,M.mono (XA (Same.refl _) λb _ _ z y=>z (C b y)) λ_ _ _ q=>q⟩;unfold off;rw[WT Q]
  |succ i=>
   have J:=get i s h;obtain⟨v,G,A⟩:=r.get J;refine⟨v,?_,?_⟩
   ·unfold L2.start;rw[Qw (by rw[WL,Qe];have:=(Qg.mp G).1;lia),WX,Q6,G];rfl
   ·have:=L s (Qj J)
    cases s with
    |bor d=>exact A
    |sh d=>exact Rp.mono (XA (Same.refl _) λb _ _ z y=>z (C b y)) A
    |_=>exact this.elim
def Lh(o:O)(R:O->D->Prop)(γ:Γ)(d:D):Prop:=∃f,γ[0]?=some (some<|.own f)/\o.from f/\R f d
def Zfl(o:O)(X:O->Str->Prop)(γ:Γ)(e:Str):Prop:=∃f,γ[0]?=some (some<|.own f)/\o.from f/\X f e
noncomputable def I0(o:O)(R:O->D->Prop)(X:O->Str->Prop):Nv:={nx:=λγ=>Lh o R γ .non,rt:=λ_=>False,ex:=Zfl o X,rv:=Lh o R}
def AI{σ'}{γ'}(n:OR K (off (λb=>B b\/o.adr a b) H) H a o)(e:Xz K (off (o.adr a) H) B H' σ' γ')(h:γ'[0]?=some (some<|.own o'))(k:o.from o'):After K B H a o o' H'/\∀b,B b\/o'.adr a b->zof B γ' σ' b:=by
 obtain⟨v,s,f,rfl,r,l⟩:=e.slot 0 _ h;have u:=O.from_at k n l;subst u;have g:∀b,B b\/o'.adr f b->zof B γ' σ' b:=λb z=>z.imp id λz=>⟨0,o',f,h,s,z⟩;refine⟨⟨e.same,O.from_adr k,λb p=>?_,l.mono (XA (Same.refl _) λb _ _ z y=>z (g b y)) λ_ _ _ q=>q⟩,g⟩
 have:=r b p
 unfold off at this;by_cases q:o.adr f b
 ·exact .inl q
 ·grind
def Zg0{t p vs Q Y n}(h:spW mg c K vs H Q Y)(L:X7 K mg (λ_=>Y) t p)(hn:n+1<=N.length)(M:∀o u R X,c o u R X->u.length=n/\p (I0 o R X) (N9 N o u)):t {nx:=λ_ H'=>Q .non H',rt:=Q} (start N vs) H:=by
 obtain⟨o,a,u,us,B,R,X,rfl,U,J,r,hf,hc,T,hX⟩:=h;obtain⟨e,M⟩:=M o u R X hc;refine L _ B H _ _ _ _ (λb z=>?_) (Zmi U J r hf<|by rw[e];exact hn) M ⟨λl s H' C G f1=>?_,λ_ _ _ z=>z.elim,λl s c H' C G f1=>?_,λ_ _ _ z=>z.elim,λ_ _ _ z=>z.elim,λl s d v H' C G f1 rd=>?_⟩
 ·obtain⟨g,f⟩:=U b z;obtain⟨x,hx⟩:=Nd g;exact⟨x,XY hx f⟩
 ·obtain⟨A,g,f,w⟩:=C;exact T A .non .non H' w (AI J G g f).1 .non
 ·obtain⟨A,g,f,w⟩:=C;exact hX A c H' w (AI J G g f).1
 ·obtain⟨A,g,f,w⟩:=C;obtain⟨k1,k2⟩:=AI J G g f;exact T A d v H' w k1 (Rp.mono (XA (Same.refl _) λb _ _ z y=>z (k2 b y)) rd)
def Znc(h:spW mg c K vs H Q s)(g:∀o f R X,c o f R X->f.length=n):vs.length=n+1:=by
 obtain⟨o,a,f,p,B,R,X,rfl,_,_,r,_,l,_⟩:=h;rw[Qe,r.len,g o f R X l]
abbrev PTW:=Γ->(Γ->D->Prop)->(Γ->Str->Prop)->Prop
def P3(K:Ye)(mg:Yi)(E:L2.St->XK)(t:TE)(p:PTW):Prop:=∀(H0:Hp) (B:Addr->Prop) (H:Hp) (σ:L2.St) (γ:Γ) (R:Γ->D->Prop) (X:Γ->Str->Prop) (Q:VK),(∀b,B b->∃o,H0 b=some o)->Xz K H0 B H σ γ->p γ R X->
 (∀f d v H',R f d->Xz K H0 B H' σ f->Fr B H σ γ H' σ f->Rp K (off (zof B f σ) H') d v->Q v H')->(∀f c H',X f c->Xz K H0 B H' σ f->Fr B H σ γ H' σ f->XE mg (E σ) c H')->t σ H Q
variable {te:TE}{w:PTW}
noncomputable def Zl7(w:PTW)(g:PTG):PTS:=λR γ=>w γ (λf d=>g (.sh d) f R.nx) R.ex
def EC(hw:P3 K mg E te w)(s:Nm K M g r):X7 K mg E (NH te g) (Zl7 w r):=by
 intro H0 B H σ γ R D x o h e;refine hw H0 B H σ γ _ _ _ x o h (λf d v H1 z J f1 p=>?_) λf c H' u L C=>e.ex σ f c H' u L C;exact s H0 B H1 H1 σ f (.sh d) v _ _ J (Same.refl _) p z λl n y G A _=>e.nx l n H1 y G (f1.trans A)
noncomputable def Zhu(w:PTW):PTS:=λR γ=>w γ (λf _=>R.nx f) R.ex
def N7(hw:P3 K mg E te w):X7 K mg E (Fg te) (Zhu w):=by
 intro H0 B H σ γ R D n g h e;exact hw H0 B H σ γ _ _ _ n g h (λf d v H1 o r f1 _=>e.nx σ f H1 o r f1) λf c H' l s p=>e.ex σ f c H' l s p
noncomputable def Zgb(w:PTW):PTS:=λR γ=>w γ R.rv R.ex
def Tt(hw:P3 K mg E te w):X7 K mg E (SY te) (Zgb w):=by
 intro H0 B H σ γ R D o g h e;exact hw H0 B H σ γ _ _ _ o g h (λf d v H1 p s f1 l=>e.rv σ f d v H1 p s f1 l) λf c H' n u r=>e.ex σ f c H' n u r
noncomputable def Zhs(a:PTE):PTS:=λR γ=>a γ (λs=>match s.shd with|some d=>R.rv γ d|none=>False) (R.ex γ)
def Sr(r:Xu K mg E te a):X7 K mg E (SY te) (Zhs a):=by
 intro H0 B H σ γ R D x f h e;refine r H0 B H σ γ _ _ _ f h (λs v H1 l g o=>?_) λc H' p n=>e.ex σ γ c H' p (f.grow n) (Fr.grow n);split at l
 ·rename_i d u;exact e.rv σ γ d v H1 l (f.grow g) (Fr.grow g) (o.shd (f.grow g).same f.zm g u)
 ·grind
def Zc5{s f:S}(h:s.pass=some f):f.flat:=by
 cases s with
 |bor d=>unfold S.pass at h;cases q:imm d<;>simp[q]at h<;>subst h<;>trivial
 |tmp d=>
  unfold S.pass at h;cases q:imm d<;>simp[q]at h
  subst h;trivial
 |view o=>cases h
 |_=>cases h;trivial
theorem BN:∀{g f:List S},passes g=some f->∀s∈f,s.flat
 |[],_,h=>by cases h;simp
 |s::r,_,h=>by
  unfold passes at h;split at h
  ·rename_i o p n l;cases h
   intro x hx;rcases Qa.mp hx with rfl|hx
   ·exact Zc5 n
   ·exact BN l x hx
  ·grind
def TV.pass {v P W f} (r:Same H0 H') (n:∀b,Z b->Mut (H b)) (x:Same H H') (p:Same H0 (off P f)) (l:Same (off Z H') (off W f)) (h:TV K Z H0 H H' s v) (e:s.pass=some g):TV K W (off P f) f f g v:=by
 have shd:∀d,s.shd=some d->Rp K (off W f) d v:=λd u=>Rp.mono l (h.shd r n x u);cases s with
 |view o=>cases e
 |tmp d=>
  unfold S.pass at e;cases q:imm d with
  |false=>simp_all
  |true=>simp[q]at e;subst e;exact shd d (by unfold S.shd;simp[q])
 |bor d=>
  unfold S.pass at e;cases q:imm d with
  |false=>simp[q]at e;subst e;exact Rp.mono p h
  |true=>simp[q]at e;subst e;exact shd d (by unfold S.shd;simp[q])
 |_=>cases e;exact shd _ rfl
theorem TVs.pass {HB} (p:Same H0 H') (n:∀b,Z b->Mut (H b)) (s:Same H H') (o:Same H0 (off P HB)) (l:Same (off Z H') (off W HB)):∀{g f}{vs:List V},TVs K Z H0 H H' g vs->passes g=some f->TVs K W (off P HB) HB HB f vs
 |_,_,_,.nil,e=>by cases e;exact .nil
 |_,_,_,.cons h r,e=>by
  unfold passes at e;split at e
  ·rename_i x y v u;cases e
   exact .cons (h.pass p n s o l v) (TVs.pass p n s o l r u)
  ·grind
def EG{c:Pw}{i:Nat}{o:O}{a:Addr}{ss l:List S}{us:List V}{R:Γ->D->Prop}{X:Γ->Str->Prop}{Q:VK}{Ec:XK}(env:Xz K H0 B H σ γ)(hB:∀b,B b->∃o,H0 b=some o)(U:Same H H1)(L:γ[i]?=some (some<|.own o))(G:σ[i]?=some (some<|.ref a))(t1:TVs K (zof B γ σ) H0 H H1 ss us)(hp:passes ss=some l)(hc:c o l (λo' d=>R (γ.set i<|some<|.own o') d) (λo' e=>X (γ.set i<|some<|.own o') e))(q:∀f d v H',R f d->Xz K H0 B H' σ f->Fr B H σ γ H' σ f->Rp K (off (zof B f σ) H') d v->Q v H')(qx:∀f c H',X f c->Xz K H0 B H' σ f->Fr B H σ γ H' σ f->XE mg Ec c H'):spW mg c K (.ref a::us) H1 Q Ec:=by
 have g:=env.grow U;obtain⟨v,h1,T,ev,h3,h4⟩:=g.slot i _ L;rw[G]at h1;cases h1
 cases ev
 have Y:∀b,o.adr a b->zof B γ σ b:=λb p=>.inr ⟨i,o,a,L,G,p⟩
 have J:∀o' H',After K (λb=>zof B γ σ b/\¬o.adr a b) H1 a o o' H'->Xz K H0 B H' σ (γ.set i<|some<|.own o')/\Fr B H σ γ H' σ (γ.set i<|some<|.own o')/\∀b x,H' b=some x->¬((zof B γ σ b/\¬o.adr a b)\/o'.adr a b)->¬zof B (γ.set i<|some<|.own o') σ b:=λo' H' A=>by
  have C:∀b x,H' b=some x->¬((zof B γ σ b/\¬o.adr a b)\/o'.adr a b)->¬zof B (γ.set i<|some<|.own o') σ b:=λb x _ n z=>by
   rcases z with z|⟨j,fs,T,e1,M,N⟩
   ·refine n (.inl ⟨.inl z,λw=>?_⟩);obtain⟨u,hu⟩:=hB b z;rw[h3 b w]at hu;cases hu
   ·rcases Kg e1 with⟨ej,q,_⟩|⟨nj,q⟩
    ·subst ej;cases q
     rw[G]at M;cases M
     exact n (.inr N)
    ·exact n (.inl ⟨.inr ⟨j,fs,T,q,M,N⟩,λw=>nj (env.own j i T a fs o b q L M G N w)⟩)
  obtain⟨s,r⟩:=g.change (o':=o') (H':=H') L G (λb x hx n=>A.same b x (XY hx n)) (λb p=>A.at_.mut b (A.old b p)) A.new (A.at_.mono (XA (Same.refl _) λb x hx z=>C b x hx z) λ_ _ _ q=>q);exact⟨s,(Fr.grow U).trans r,C⟩
 refine⟨o,a,l,us,λb=>zof B γ σ b/\¬o.adr a b,_,_,rfl,λb p=>⟨g.zm b p.1,p.2⟩,h4.mono (XA (Same.refl _) λb _ _ z y=>z (y.elim (λy=>y.1)<|Y b)) λ_ _ _ q=>q,?_,BN hp,hc,λo' d v H' hR A rd=>?_,λo' e H' hX A=>?_⟩
 ·refine t1.pass g.same env.zm U (λb x hx=>XY (g.same b x hx) λw=>?_) (XA (Same.refl _) λb _ _ z y=>z (y.elim (λy=>y.1)<|Y b)) hp;rw[h3 b w]at hx;cases hx
 ·obtain⟨s,r,k3⟩:=J o' H' A;exact q _ d v H' hR s r (Rp.mono (λb x h=>let ⟨p1,p2⟩:=Ts h;XY p1 (k3 b x p1 p2)) rd)
 ·obtain⟨s,r,_⟩:=J o' H' A;exact qx _ e H' hX s r
noncomputable def Zso(i:Nat)(c:Pw)(r:PTA):PTW:=λγ R X=>match γ[i]? with
 |some (some<|.own o)=>r γ (λh=>match passes h with|some f=>c o f (λg d=>R (γ.set i<|some<|.own g) d) (λg e=>X (γ.set i<|some<|.own g) e)|none=>False) (X γ)
 |_=>False
noncomputable def Rq(i:Nat)(c:Pw)(r:PTA):PTW:=λγ R X=>match γ[i]? with
 |some (some<|.own o)=>r γ (λg=>match passes g with|some f=>c o f (λh d=>R (γ.set i<|some<|.own h) d) (λ_ _=>False)|none=>False) (X γ)
 |_=>False
def Zdj(i:Nat){c g r}(C:XI K mg E g r):P3 K mg E (N0 (spW mg c K) [] E0<|Kp (KE i) g) (Rq i c r):=by
 intro H0 B H σ γ R X Q J f h q A;unfold Rq at h;split at h
 ·rename_i o n;obtain⟨v,l,a,rfl,_,_⟩:=f.slot i _ n;refine⟨_,l,C H0 B H σ γ _ _ _ f h (λN u H1 p M x=>?_) λc H' G s=>A γ c H' G (f.grow s) (Fr.grow s)⟩;show spW mg c K ((V.ref a::u)++[]) H1 Q E0;rw[Q8];split at p
  ·rename_i y L;exact EG (X:=λ_ _=>False) f J M n l x L p q λ_ _ _ z=>z.elim
  ·grind
 ·grind
def HD(C:Addr)(xs:Yn)(j:Nat):S->(S->Prop)->Prop
 | .view (.ins _ g f l),R=>g=C/\f=xs/\∃c,l[j]?=some c/\R (.view<|.lst c.2)
 | .bor (.ins g f h),R=>g=C/\f=xs/\∃d,h[j]?=some d/\R (arg d)
 |_,_=>False
noncomputable def Zr5(C:Addr)(xs:Yn)(j:Nat)(a:PTE):PTE:=λγ R X=>a γ (λs=>HD C xs j s R) X
def Rp.ins_inv (h:Rp K H (.ins C xs ds) v):∃a f vs,v=.ref a/\H a=some (.ins C f<|xs.zip vs)/\xs.length=vs.length/\Rps K H ds vs:=by
 cases h with
 |ins h e r=>grind
def FldAt(f:Str)(xs:Yn)(j:Nat):Prop:=∀g:List V,xs.length=g.length->(xs.zip g).lookup f=g[j]?
def TU(j:Nat){a}(L:Cls K C)(G:NoAttr K C f)(J:FldAt f xs j)(ha:Xu K mg E te a):Xu K mg E (Fy K te f) (Zr5 C xs j a):=by
 intro H0 B H σ γ R X Q l p q qx;refine ha H0 B H σ γ _ X _ l p (λs v H1 h z A=>?_) qx;have g:=l.grow z;unfold HD at h;split at h
 ·rename_i x C' n cs;obtain⟨rfl,rfl,c,M,o⟩:=h;obtain⟨b,rfl,T,N,⟨y,r⟩,e4,e5⟩:=A;obtain⟨U,u1,Y⟩:=e4 c (Qj M);refine⟨b,_,y,_,_,rfl,r,L,G,?_,q _ _ H1 o z ⟨c.1,rfl,U,u1,Y⟩⟩;rw[J _ (by grind),WX,M];rfl
 ·rename_i C' n ds;obtain⟨rfl,rfl,d,ed,o⟩:=h;obtain⟨b,y,vs,rfl,T,N,r⟩:=Rp.ins_inv A;obtain⟨u,hu,ru⟩:=r.get ed;refine⟨b,_,y,_,u,rfl,g.same _ _ T,L,G,by rw[J _ N];exact hu,q _ _ H1 o z (NG g.zm g.same ru)⟩
 ·exact h.elim
noncomputable def Lk(C:Addr)(xs:Yn)(c:Pc)(a:PTE)(r:PTA):PTE:=λγ R X=>a γ (λs=>match s.d with
 | .ins g f l=>g=C/\f=xs/\r γ (λh=>c (.ins g f l::h.map S.d) (λs=>R s.back) X) X
 |_=>False) X
def NoFld(m:Str)(xs:Yn):Prop:=∀f:List V,(xs.zip f).lookup m=none
noncomputable def DA(C:Addr)(m:Str)(sp:Sp)(E:L2.St->XK)(g:TE)(t:TA):TE:=λσ H Q=>g σ H λx H1=>∃a h fs,x=.ref a/\H1 a=some (.ins C h fs)/\fs.lookup m=none/\t σ H1 λf l=>sp (x::(f++[])) l Q (E σ)
def Ss{m xs c z a r}(hx:NoFld m xs)(ha:Xu K mg E te a)(T:XI K mg E z r):Xu K mg E (DA C m (X0 mg c K) E te z) (Lk C xs c a r):=by
 intro H0 B H σ γ R X Q h p q y;refine ha H0 B H σ γ _ X _ h p (λs v H1 o n M=>?_) y;have f:=h.grow n;split at o
 ·rename_i C' A ds ed;obtain⟨rfl,rfl,o⟩:=o;have x:=M.rp f.same;rw[ed]at x;obtain⟨b,dx,G,rfl,e1,e2,e3⟩:=Rp.ins_inv x;refine⟨b,dx,_,rfl,e1,hx G,T H0 B H1 σ γ _ X _ f o (λss us H2 h2 l L=>?_) λc H' Y S'=>y c H' Y (n.trans S')⟩;have g:=f.grow l;rw[Q8];refine⟨_,_,X,Rps.cons (Rp.mono l x) (L.rps g.same),h2,λs v H' N u J=>q _ _ H' N ((n.trans l).trans u) (J.back g (n.trans l) u),λe H' U u=>y e H' U ((n.trans l).trans u)⟩
 ·grind
def NT{m xs c g a r f}(hx:NoFld m xs)(l:Xu K mg (λ_=>f) te a)(h:XI K mg (λ_=>f) g r):Xu K mg (λ_=>f) (Nw C m (X0 mg c K) [] f te g) (Lk C xs c a r):=Ss hx l h
noncomputable def Ziv(C:Addr)(xs:Yn)(c:Pc)(a:PTE)(r:PTA):PTE:=λγ R X=>a γ (λs=>match s.d with
 | .ins g f l=>g=C/\f=xs/\r γ (λh=>c (.ins g f l::h.map S.d) (λs=>R s.back) λ_=>False) X
 |_=>False) X
def Kt{m xs c x a r}(hx:NoFld m xs)(ha:Xu K mg E te a)(U:XI K mg E x r):Xu K mg E (Nw C m (X0 mg c K) [] E0 te x) (Ziv C xs c a r):=by
 intro H0 B H σ γ R X Q h p q y;refine ha H0 B H σ γ _ X _ h p (λs v H1 l o N=>?_) y;have f:=h.grow o;split at l
 ·rename_i C' G ds ed;obtain⟨rfl,rfl,l⟩:=l;have u:=N.rp f.same;rw[ed]at u;obtain⟨b,dx,J,rfl,e1,e2,e3⟩:=Rp.ins_inv u;refine⟨b,dx,_,rfl,e1,hx J,U H0 B H1 σ γ _ X _ f l (λss us H2 h2 n M=>?_) λc H' Y S'=>y c H' Y (o.trans S')⟩;have g:=f.grow n;rw[Q8];exact⟨_,_,_,Rps.cons (Rp.mono n u) (M.rps g.same),h2,λs v H' T A L=>q _ _ H' T ((o.trans n).trans A) (L.back g (o.trans n) A),λ_ _ z=>z.elim⟩
 ·grind
noncomputable def AO(i:Nat)(C:Addr)(xs:Yn)(c:Pw)(r:PTA):PTW:=λγ R X=>match γ[i]? with
 |some (some<|.own<|.ins x l f o)=>l=C/\f=xs/\r γ (λn=>match passes n with|some g=>c (.ins x l f o) g (λh d=>R (γ.set i<|some<|.own h) d) (λh e=>X (γ.set i<|some<|.own h) e)|none=>False) (X γ)
 |_=>False
def ON(i:Nat){C m xs c g r}(hx:NoFld m xs)(A:XI K mg E g r):P3 K mg E (DA C m (spW mg c K) E (KE i) g) (AO i C xs c r):=by
 intro H0 B H σ γ R X Q J f h q l;unfold AO at h;split at h
 ·rename_i x C' u cs o;obtain⟨rfl,rfl,h⟩:=h;obtain⟨v,n,a,rfl,_,e1,e2,⟨N,M⟩,e4⟩:=f.slot i _ o;refine⟨_,n,a,N,_,rfl,M,hx _,A H0 B H σ γ _ _ _ f h (λY U H1 p T y=>?_) λc H' G s=>l γ c H' G (f.grow s) (Fr.grow s)⟩;rw[Q8];split at p
  ·rename_i z L;exact EG f J T o n y L p q l
  ·grind
 ·grind
def BG(i:Nat){C m xs c g r f}(hx:NoFld m xs)(h:XI K mg (λ_=>f) g r):P3 K mg (λ_=>f) (Nw C m (spW mg c K) [] f (KE i) g) (AO i C xs c r):=ON i hx h
noncomputable def IH(i:Nat)(C:Addr)(xs:Yn)(c:Pw)(r:PTA):PTW:=λγ R X=>match γ[i]? with
 |some (some<|.own<|.ins x h f o)=>h=C/\f=xs/\r γ (λl=>match passes l with|some g=>c (.ins x h f o) g (λn d=>R (γ.set i<|some<|.own n) d) (λ_ _=>False)|none=>False) (X γ)
 |_=>False
def NL(i:Nat){C m xs c g r}(hx:NoFld m xs)(G:XI K mg E g r):P3 K mg E (Nw C m (spW mg c K) [] E0 (KE i) g) (IH i C xs c r):=by
 intro H0 B H σ γ R X Q L f h q A;unfold IH at h;split at h
 ·rename_i x C' s cs n;obtain⟨rfl,rfl,h⟩:=h;obtain⟨v,l,a,rfl,_,e1,e2,⟨T,N⟩,e4⟩:=f.slot i _ n;refine⟨_,l,a,T,_,rfl,N,hx _,G H0 B H σ γ _ _ _ f h (λss Y H1 o U u=>?_) λc H' J p=>A γ c H' J (f.grow p) (Fr.grow p)⟩;rw[Q8];split at o
  ·rename_i y M;exact EG (X:=λ_ _=>False) f L U n l u M o q λ_ _ _ z=>z.elim
  ·grind
 ·grind
theorem Io{g:Type}:∀{l:List g}{i j:Nat}{x:g},l.Nodup->l[i]?=some x->l[j]?=some x->i=j
 |[],_,_,_,_,h,_=>by simp at h
 |y::r,0,0,_,_,_,_=>rfl
 |y::r,0,j+1,x,f,o,n|y::r,i+1,0,x,f,o,n=>by
  grind
 |y::r,i+1,j+1,x,f,o,n=>QA (· + 1) (Io (QC.mp f).2 (by trivial)<|by grind)
def Xz.cell {f b ds es us} (env:Xz K H0 B H σ γ) (L:γ[i]?=some (some<|.own<|.ins x C xs f)) (s:f[j]?=some (b,ds)) (r:Rps K (off (zof B γ σ) H) es us) :
  Xz K H0 B (upd H b<|.lst us) σ (γ.set i<|some<|.own<|.ins x C xs<|f.set j (b,es))/\Fr B H σ γ (upd H b<|.lst us) σ (γ.set i<|some<|.own<|.ins x C xs<|f.set j (b,es)):=by
 obtain⟨v,Y,a,rfl,e0,e1,e2,⟨dx,e3⟩,e4,e5⟩:=env.slot i _ L;subst e1;have l:=Qj s
 have M:a≠b:=λz=>by
  obtain⟨T,o,_⟩:=e4 _ l;rw[←show a=b from z,e3]at o
  cases o
 have em:(f.set j (b,es)).map (·.1)=f.map (·.1):=by
  apply JX;intro k;rw[WX,WX,List.getElem?_set];by_cases e:j=k
  ·subst e;rw[WT rfl,WT ((Qg.mp s).1),s];rfl
  ·rw[WS e]
 have N:(f.set j (b,es)).map (λc=>V.ref c.1)=f.map λc=>V.ref c.1:=by
  have:=QA (List.map V.ref) em
  rw[Q7,Q7]at this;exact this
 have adr:∀c,(O.ins a C xs<|f.set j (b,es)).adr a c->(O.ins a C xs f).adr a c:=λc g=>by
  rcases g with g|⟨d,hd,g⟩
  ·exact .inl g
  ·have:d.1∈(f.set j (b,es)).map (·.1):=JN hd
   rw[em]at this;obtain⟨d',A,p⟩:=Qq.mp this;exact .inr ⟨d',A,g.trans p.symm⟩
 have y:∀c,(O.ins a C xs f).adr a c->zof B γ σ c:=λc g=>.inr ⟨i,_,a,L,Y,g⟩
 have So:Same (off (zof B γ σ) H) (off (zof B (γ.set i<|some<|.own<|.ins a C xs<|f.set j (b,es)) σ)<|upd H b<|.lst us):=λc u h=>by
  obtain⟨A,p⟩:=Ts h;have G:=λz=>p (y c<|.inr ⟨_,l,z⟩);refine XY (by rw[X1 G];exact A) λz=>p ?_;rcases z with z|⟨k,fs,a',k1,k2,U⟩
  ·exact .inl z
  ·rcases Kg k1 with⟨Q,q,_⟩|⟨_,q⟩
   ·subst Q;cases q
    exact y c (adr c U)
   ·exact .inr ⟨k,fs,a',q,k2,U⟩
 refine env.change L Y (λc u hu n=>?_) (λc g=>?_) (λc g=>.inl (adr c g)) ⟨rfl,by rw[QM];exact e2,⟨dx,?_⟩,λc g=>?_,by rw[em];exact e5⟩
 ·rw[X1 λz=>n (.inr ⟨_,l,z⟩)];exact hu
 ·by_cases z:c=b
  ·rw[z,XG];trivial
  ·rw[X1 z];exact env.zm c (y c g)
 ·rw[X1 M,N];exact e3
 ·obtain⟨k,hk,Q⟩:=List.getElem_of_mem g;have J:(f.set j (b,es))[k]?=some c:=by rw[WJ hk,Q]
  rcases Kg J with⟨_,q,_⟩|⟨nk,q⟩
  ·subst q;exact⟨us,XG,Rps.mono So r⟩
  ·obtain⟨T,o,w2⟩:=e4 c (Qj q)
   have G:=λz=>nk (by
    have h1:(f.map (·.1))[k]?=some b:=by rw[WX,q];exact QA some z
    have h2:(f.map (·.1))[j]?=some b:=by rw[WX,s];rfl
    exact Io e5 h1 h2)
   exact⟨T,by rw[X1 G];exact o,Rps.mono So w2⟩
noncomputable def Oq(i j:Nat)(C:Addr)(xs:Yn)(a:PTE):PTW:=λγ R X=>match γ[i]? with
 |some (some<|.own<|.ins x h f g)=>h=C/\f=xs/\∃c,g[j]?=some c/\a γ (λs=>match s.shd with
  |some d=>c.2.length<10000000/\R (γ.set i<|some<|.own<|.ins x h f<|g.set j (c.1,c.2++[d])) .non
  |none=>False) (X γ)
 |_=>False
def Ce(i j:Nat){C f xs a}(p:Cls K C)(hn:NoAttr K C f)(hj:FldAt f xs j)(ha:Xu K mg E te a):P3 K mg E (tBM K "list" Ee (Fy K (KE i) f)<|Kp te KR) (Oq i j C xs a):=by
 intro H0 B H σ γ R X Q hB g h q T;unfold Oq at h;split at h
 ·rename_i x C' M cs J;obtain⟨rfl,rfl,c,r,h⟩:=h;obtain⟨v,hv,b,rfl,_,e1,e2,⟨dx,e3⟩,e4,e5⟩:=g.slot i _ J;obtain⟨y,G,A⟩:=e4 c (Qj r);refine⟨_,hv,b,_,dx,_,V.ref c.1,rfl,e3,p,hn,?_,.inl ⟨rfl,y,SqL.of G⟩,ha H0 B H σ γ _ _ _ g h (λs u H1 o n N=>?_) λc H' p L=>T γ c H' p (g.grow L) (Fr.grow L)⟩
  ·rw[hj _ (by grind),WX,r];rfl
  ·have l:=g.grow n;split at o
   ·rename_i d ed;refine⟨c.1,y,u,rfl,rfl,n _ _ G,by rw[A.len];exact VC o.1 (by decide),?_⟩;obtain⟨Y,U⟩:=l.cell J r (Rps.append (Rps.mono (XA n λ_ _ _ z=>z) A)<|.cons (N.shd l.same g.zm n ed) .nil);exact q _ _ _ _ o.2 Y ((Fr.grow n).trans U) .non
   ·exact o.elim
 ·exact h.elim
noncomputable def Zab(i j:Nat)(C:Addr)(xs:Yn):PTW:=λγ R _=>match γ[i]? with
 |some (some<|.own<|.ins x h f g)=>h=C/\f=xs/\∃c d,g[j]?=some c/\c.2[c.2.length-1]?=some d/\R (γ.set i<|some<|.own<|.ins x h f<|g.set j (c.1,c.2.dropLast)) d
 |_=>False
def Rps.dropLast:∀{ds}{vs:List V},Rps K H ds vs->Rps K H ds.dropLast vs.dropLast:=by
 intro ds
 induction ds with
 |nil=>
  intro _ h;cases h
  exact .nil
 |cons _ _ f=>
  intro _ h;cases h with
  |cons h r=>
   cases r with
   |nil=>exact .nil
   |cons c e=>exact .cons h (f<|.cons c e)
def E6(i j:Nat){C f xs}(N:Cls K C)(L:NoAttr K C f)(M:FldAt f xs j):P3 K mg E (Bs K "list" AB<|Fy K (KE i) f) (Zab i j C xs):=by
 intro H0 B H σ γ R X Q hB g h q qx;unfold Zab at h;split at h
 ·rename_i x C' y cs s;obtain⟨rfl,rfl,c,d,n,T,h⟩:=h;obtain⟨v,G,b,rfl,_,e1,e2,⟨dx,Y⟩,U,e5⟩:=g.slot i _ s;obtain⟨o,p,l⟩:=U c (Qj n);obtain⟨u,J,z⟩:=l.get T;refine⟨_,G,b,_,dx,_,V.ref c.1,rfl,Y,N,L,?_,.inl ⟨rfl,o,SqL.of p⟩,c.1,o,u,rfl,rfl,p,by rw[l.len];exact J,?_⟩
  ·rw[M _ (by grind),WX,n];rfl
  ·obtain⟨A,r⟩:=g.cell s n (Rps.dropLast l);exact q _ _ _ _ h A r (Rp.mono r.off z)
 ·grind
def PutAt(f:Str)(xs:Yn):Prop:=∀(g:List V) (y:V),xs.length=g.length->KP f y (xs.zip g)=(xs++[f]).zip (g++[y])
noncomputable def Zrc(i:Nat)(C:Addr)(f:Str)(xs:Yn)(a:PTE):PTS:=λR γ=>a γ (λs=>match s with
 | .own (.lst l)=>(match γ[i]? with
  |some (some<|.own<|.ins x h g n)=>h=C/\g=xs/\xs.length<1000/\∀b,R.nx (γ.set i<|some<|.own<|.ins x h (xs++[f]) (n++[(b,l)]))
  |_=>False)
 |_=>False) (R.ex γ)
def D6(i:Nat){C f xs a}(g:Cls K C)(hn:NoAttr K C f)(hp:PutAt f xs)(ha:Xu K mg E te a):X7 K mg E (HU K (KE i) te f) (Zrc i C f xs a):=by
 intro H0 B H σ γ R D hB p h e;refine ha H0 B H σ γ _ _ _ p h (λs v H1 G Q t1=>?_) λc H' g S'=>e.ex σ γ c H' g (p.grow S') (Fr.grow S');split at G
 ·rename_i ds;split at G
  ·rename_i x M o r hi;obtain⟨rfl,rfl,hl,G⟩:=G;obtain⟨u,hv,b,rfl,e0,e1,e2,⟨dx,e3⟩,e4,e5⟩:=p.slot i _ hi;subst e1;obtain⟨l,rfl,L,vs,l1,l2⟩:=t1;have L:=L l rfl;refine⟨_,hv,b,_,dx,_,rfl,Q _ _ e3,g,hn,?_,?_⟩
   ·rw[List.length_zip,WL];lia
   ·rw[hp _ _ (by rw[WL];exact e2)]
    have nl:∀c∈r,c.1≠l:=λc g=>by
     obtain⟨ws,J,_⟩:=e4 c g;exact K7 J L
    have nb:∀c∈r,c.1≠b:=λc g z=>by
     obtain⟨ws,J,_⟩:=e4 c g;rw[z,e3]at J;cases J
    have T:∀c,(O.ins b M o r).adr b c->zof B γ σ c:=λc g=>.inr ⟨i,_,b,hi,hv,g⟩
    have key:∀c u,H1 c=some u->¬(zof B γ σ c\/c=l)->¬zof B (γ.set i<|some<|.own<|.ins b M (o++[f]) (r++[(l,ds)])) σ c:=λc u _ n z=>by
     rcases z with z|⟨k,fs,a',k1,N,A⟩
     ·exact n (.inl<|.inl z)
     ·rcases Kg k1 with⟨ek,q,_⟩|⟨_,q⟩
      ·subst ek;cases q
       rw[hv]at N;cases N
       rcases A with A|⟨d,hd,A⟩
       ·exact n (.inl<|T c<|.inl A)
       ·rcases Qh.mp hd with hd|hd
        ·exact n (.inl<|T c<|.inr ⟨d,hd,A⟩)
        ·rw[WQ]at hd;subst hd;exact n (.inr A)
      ·exact n (.inl<|.inr ⟨k,fs,a',q,N,A⟩)
    have So:Same (off (λc=>zof B γ σ c\/c=l) H1) (off (zof B (γ.set i<|some<|.own<|.ins b M (o++[f]) (r++[(l,ds)])) σ)<|upd H1 b<|.ins M dx ((o++[f]).zip ((r.map λc=>V.ref c.1)++[.ref l]))):=λc u h=>by
     obtain⟨Y,U⟩:=Ts h;exact XY (by rw[X1 λz=>U (.inl<|T c<|.inl z)];exact Y) (key c u Y U)
    have S0:Same (off (zof B γ σ) H) (off (λc=>zof B γ σ c\/c=l) H1):=XA Q λc u g z y=>y.elim z λy=>by rw[y,L]at g;cases g
    obtain⟨k1,N⟩:=p.change (o':=.ins b M (o++[f]) (r++[(l,ds)])) (H':=upd H1 b (.ins M dx ((o++[f]).zip ((r.map λc=>V.ref c.1)++[.ref l])))) hi hv
     (λc u hu n=>by rw[X1 λz=>n (.inl z)];exact Q _ _ hu)
     (λc g=>by
      by_cases z:c=b
      ·rw[z,XG];trivial
      ·rw[X1 z];exact(p.grow Q).zm c (T c g))
     (λc g=>by
      rcases g with g|⟨d,hd,g⟩
      ·exact .inl (.inl g)
      ·rcases Qh.mp hd with hd|hd
       ·exact .inl (.inr ⟨d,hd,g⟩)
       ·rw[WQ]at hd;subst hd;exact .inr (by rw[show c=l from g];exact L))
     ⟨rfl,by rw[WW,WW,e2];rfl,⟨dx,by rw[XG,Qd];rfl⟩,λc g=>by
      rcases Qh.mp g with g|g
      ·obtain⟨ws,J,w2⟩:=e4 c g;exact⟨ws,by rw[X1 (nb c g)];exact Q _ _ J,Rps.mono So (Rps.mono S0 w2)⟩
      ·rw[WQ]at g;subst g;exact⟨vs,by rw[X1 (λz=>(K7 e3 L) z.symm)];exact l1,Rps.mono So l2⟩,by
      rw[Qd,Vm]
      exact⟨e5,by simp,λc g d hd z=>by
       obtain⟨c',Y,U⟩:=Qq.mp g
       have:d=l:=by simpa using hd
       exact nl c' Y (U.trans<|z.trans this)⟩⟩
    exact e.nx _ _ _ (G l) k1 N
  ·exact G.elim
 ·exact G.elim
def Za2{c}{M l}{us}{R:S->Prop}{X:XR}{Q:VK}{Ec}(env:Xz K H0 B H σ γ)(p:Same H H1)(T:TVs K (zof B γ σ) H0 H H1 M us)(N:passes M=some l)(h1:∀x,c (.ins x C [] []) l (λo' d=>d=.non/\R (.own o')) (λ_ e=>X e))(q:∀s v H',R s->Same H H'->TV K (zof B γ σ) H0 H H' s v->Q v H')(Y:∀c H',X c->Same H H'->XE mg Ec c H') :
  ∀x h,H1 x=none->H1 h=none->h≠x->spW mg c K (.ref x::us) (upd (upd H1 h<|.own x) x<|.ins C h []) (λv H2=>v=.non/\Q (.ref x) H2) Ec:=by
 have f:=env.grow p;intro x h n J nex
 have u:Same H1 (upd (upd H1 h<|.own x) x<|.ins C h []):=λb o e=>by
  rwa[X1 (K7 e n),X1 (K7 e J)]
 have r:∀o' H',After K (zof B γ σ) (upd (upd H1 h<|.own x) x<|.ins C h []) x (.ins x C [] []) o' H'->Same H1 H'/\∀b,o'.adr x b->H b=none:=λo' H' A=>by
  refine⟨λb o e=>A.same b o (XY (u b o e) λz=>?_),λb G=>?_⟩
  ·rcases z with z|⟨c,g,_⟩
   ·rw[z,n]at e;cases e
   ·cases g
  ·rcases A.new b G with(z|⟨c,g,_⟩)|z
   ·rw[z];exact p.free n
   ·cases g
   ·exact p.free (u.free z)
 refine⟨.ins x C [] [],x,l,us,zof B γ σ,_,_,rfl,λb G=>⟨Tg u (f.zm b G),λz=>?_⟩,⟨rfl,rfl,⟨h,XG⟩,(λc g=>by cases g),VR⟩,?_,BN N,h1 x,λo' d v H' L A U=>?_,λo' e H' hX A=>?_⟩
 ·rcases z with z|⟨c,g,_⟩
  ·have:=f.zm b G
   rw[z,n]at this;exact this
  ·cases g
 ·refine T.pass f.same env.zm p (λb o e=>XY (u _ _<|f.same b o e) λz=>?_) (XA u λb o e z y=>?_) N
  ·rcases z with z|⟨c,g,_⟩
   ·rw[z,(f.same).free n]at e;cases e
   ·cases g
  ·rcases y with y|y|⟨c,g,_⟩
   ·exact z y
   ·rw[y,n]at e;cases e
   ·cases g
 ·obtain⟨rfl,L⟩:=L;obtain⟨k1,k2⟩:=r o' H' A;exact⟨Rp.non_inv U,q _ _ H' L (p.trans k1) ⟨x,rfl,k2,A.at_⟩⟩
 ·exact Y e H' hX (p.trans (r o' H' A).1)
noncomputable def Zih(C:Addr)(c:Pw)(r:PTA):PTE:=λγ R X=>r γ (λg=>match passes g with|some f=>∀x,c (.ins x C [] []) f (λh d=>d=.non/\R (.own h)) (λ_ _=>False)|none=>False) X
def Ld{g r}(s:XI K mg E g r):Xu K mg E (EZ C (spW mg c K) [] E0 g) (Zih C c r):=by
 intro H0 B H σ γ R X Q f p q o;refine s H0 B H σ γ _ X _ f p (λy x H1 h v l=>?_) o;split at h
 ·rename_i n u;rw[Q8];exact Za2 f v l u h q λ_ _ z=>z.elim
 ·grind
end
def BR{f:Type}{us:List f}(h:us.length=1):∃a,us=[a]:=List.length_eq_one_iff.mp h
def BI{f:Type}{us:List f}(h:us.length=2):∃a b,us=[a,b]:=by
 cases us with
 |nil=>grind
 |cons a r=>obtain⟨b,rfl⟩:=BR (by simpa using h);exact⟨a,b,rfl⟩
def An{f:Type}{us:List f}(h:us.length=3):∃a b c,us=[a,b,c]:=by
 cases us with
 |nil=>grind
 |cons a r=>obtain⟨b,c,rfl⟩:=BI (by simpa using h);exact⟨a,b,c,rfl⟩
def Gc{f:Type}{us:List f}(h:us.length=4):∃a b c d,us=[a,b,c,d]:=by
 cases us with
 |nil=>grind
 |cons a r=>obtain⟨b,c,d,rfl⟩:=An (by simpa using h);exact⟨a,b,c,d,rfl⟩
def Za9{f:Type}{us:List f}(h:us.length=5):∃a b c d e,us=[a,b,c,d,e]:=by
 cases us with
 |nil=>grind
 |cons a r=>obtain⟨b,c,d,e,rfl⟩:=Gc (by simpa using h);exact⟨a,b,c,d,e,rfl⟩
structure XJ (K:Ye) (W:Addr->Prop) (x q:Str) (st:Stmt) (ps:Yn):Prop where
 ex:∃f fd,Fun K x q st f fd/\W f/\Binds K fd ps []
structure Po (P:Program) (w:World) (K:Ye) (mg:Yi) (base:Heap) (CX:CXT) (k:Nat) (W:Addr->Prop) (ps:Yn) (sp:Sp):Prop where
 ex:∃f fd,KG P w K mg base CX k f fd ps sp/\W f/\Binds K fd ps []
section
variable {P:Program}{w:World}{K:Ye}{mg:Yi}{base:Heap}{W:Addr->Prop}
def XJ.ok {st N ps k sp} (D:XJ K W x q st ps) (S:Xw N ps (Xv st)) (len:∀vs H Q E,sp vs H Q E->vs.length=ps.length)
  (l:∀f g A outer s H vs Q E,X5 k (A.deeper<|envOfC q (Xv st) s.heap.objs.size f g)->sp vs H Q E->
   ∃t,PSs (Kj CX0 P w K mg base N q (Xv st) f g A outer s H E).nox (XZ st) t/\t {nx:=λ_ H'=>Q .non H',rt:=Q} (start N vs) H):Po P w K mg base CX0 (k+1) W ps sp:=by
 obtain⟨f,r,F,o,p⟩:=D.ex;exact⟨f,r,F.ok S len λg A outer s H vs Q E n h=>l f g A outer s H vs Q E n h,o,p⟩
def XJ.okX {st N ps k sp} (D:XJ K W x q st ps) (S:Xw N ps (Xv st)) (len:∀vs H Q E,sp vs H Q E->vs.length=ps.length)
  (h:∀f g A outer s H vs Q E,X5 k (A.deeper<|envOfC q (Xv st) s.heap.objs.size f g)->sp vs H Q E->
   ∃t,PSs (Kj (ExcR.CXe P w) P w K mg base N q (Xv st) f g A outer s H E) (XZ st) t/\t {nx:=λ_ H'=>Q .non H',rt:=Q} (start N vs) H):Po P w K mg base (ExcR.CXe P w) (k+1) W ps sp:=by
 obtain⟨f,C,F,u,v⟩:=D.ex;obtain⟨oc,B,kV,y,z,J,g,G,o,rfl,p,n⟩:=F.ex;exact⟨f,_,Ek p n S len λA outer s H vs Q E r l=>h f g A outer s H vs Q E r l,u,v⟩
def NU:P5 (ExcR.CXe P w) X E0:=λ_ _ _ _ _ _ _ h=>by
 obtain⟨a,T,C,f,g,_,_,z⟩:=h
 grind
end
section
variable {X:Cx}{CX:CXT}{k:Nat}{Cc:Addr}{ps:Yn}{sp:Sp}{E:XK}{ES:L2.St->XK}{x m:Str}{p pos apos:Pos}{e o:Expr}{es:Yo}{ta:TE}{t:TA}
def Ta{pl}(C:Po X.prog X.w X.K X.mg X.base CX k (XH X.K Cc m) ps sp)(c:Cls X.K Cc)(r:X5 k X.A)(hx:P5 CX X E)(u:PE X o ta)(y:PA X (e::es) t)(g:autoParam (starEach (e::es) X.env=(false,eval e X.env)::starEach es X.env) au_0)(h:autoParam ((backTo pos<|starEach es X.env).any (·.1)=false) au_0)
  (n:autoParam (eval (.Call (.Attribute o m apos) (e::es) [] pos) X.env=(do
   let l ←eval o X.env
   standAt apos.atName
   let (f,first) ←holding [l] (getMethod l m pl)
   callWith pos f first (backTo pos<|starEach (e::es) X.env) (backToKw pos<|keywordEach [] X.env))) au_0) :
  PE X (.Call (.Attribute o m apos) (e::es) [] pos) (Nw Cc m sp [] E ta t):=by
 obtain⟨f,z,F,s,v⟩:=C.ex;exact Zrg u c s F r v .nil hx y g h n
def XX(C:Po X.prog X.w X.K X.mg X.base CX k (XH X.K Cc m) ps sp)(c:Cls X.K Cc)(l:X5 k X.A)(hx:P5 CX X E)(r:PE X o ta)
  (h:autoParam (eval (.Call (.Attribute o m apos) [] [] pos) X.env=(do
   let g ←eval o X.env
   standAt apos.atName
   let (f,first) ←holding [g] (getMethod g m u)
   callWith pos f first (backTo pos<|starEach [] X.env) (backToKw pos<|keywordEach [] X.env))) au_0) :
  PE X (.Call (.Attribute o m apos) [] [] pos) (Nw Cc m sp [] E ta KR):=by
 obtain⟨f,v,F,n,s⟩:=C.ex;exact Zn3 r c n F l s .nil hx h
def Zkv{g:L2.St}{H}{s}{Q}{us}{vs}(F:KG X.prog X.w X.K X.mg X.base CX k f B ps sp)(n:X5 k X.A)(y:Binds X.K B ps [])(hx:ExcR.Gf CX X ES)(I:Inv X pins g H s)(r:Vals vs us)(h:sp vs H Q (ES g)):wpAny (model X.prog X.w) X.A (call (.ref f) us) (EP X pins g Q) X.xe s:=by
 have v:(us++[]).length=ps.length:=by rw[Q8,←r.length];exact F.len _ _ _ _ h
 refine JB (Vx (F.run X.A X.stack s H ⟨us,[]⟩ (us++[]) vs Q (ES g) n I.env0 (y s us I.kIn v) (by grind) h) λr l hq=>?_);cases r with
 |error e=>exact hx pins g H s e l I hq
 |ok z=>
  cases z with
  |ret u=>exact I.after hq
  |cont=>exact False.elim hq
  |_=>trivial
def SC(C:Po X.prog X.w X.K X.mg X.base CX k (XH X.K Cc m) ps sp)(c:Cls X.K Cc)(B:X5 k X.A)(hx:ExcR.Gf CX X ES)(G:PE X o ta)
  (z:autoParam (eval (.Call (.Attribute o m apos) [] [] pos) X.env=(do
   let n ←eval o X.env
   standAt apos.atName
   let (f,first) ←holding [n] (getMethod n m T)
   callWith pos f first (backTo pos<|starEach [] X.env) (backToKw pos<|keywordEach [] X.env))) au_0) :
  PE X (.Call (.Attribute o m apos) [] [] pos) (DA Cc m sp ES ta KR):=by
 obtain⟨f,U,F,r,J⟩:=C.ex;intro pins s v H Q I h;refine VQ (thn (G pins s v H _ I h) ?_) z;rintro u N ⟨x,H1,g,y,a,Y,fs,L,M,l,q⟩;subst L;obtain rfl:=y;refine A2 g M c r l ?_;exact PySem.W.callWith_K0 g.kIn r.kp (Zkv (vs:=[.ref a]) F B J hx g (.cons rfl .nil) q)
def Hv(C:Po X.prog X.w X.K X.mg X.base CX k (Mk X.K Cc) ps sp)(n:X.mg x=some (.ref Cc))(l:X5 (k+1) X.A)(hx:P5 CX X E)(v:PA X (e::es) t)(r:autoParam (Gl X x) au_0)(h:autoParam ((x==("__debug__" : Str))=false) au_1)(s:autoParam (starEach (e::es) X.env=(false,eval e X.env)::starEach es X.env) au_0)(g:autoParam ((backTo pos<|starEach es X.env).any (·.1)=false) au_0) :
  PE X (.Call (.Name x p) (e::es) [] pos) (EZ Cc sp [] E t):=by
 obtain⟨f,y,F,M,u⟩:=C.ex;exact Zif M F l r n u .nil hx v h s g
end
abbrev PTF:=Γ->Str->(Str->Prop)->XR->Prop
section
variable {K:Ye}{mg:Yi}{E:L2.St->XK}{t:ExcR.TF}{p:PTF}{te:TE}{a:PTE}
def SN(K:Ye)(mg:Yi)(E:L2.St->XK)(t:ExcR.TF)(p:PTF):Prop:=∀(n:Hp) (B:Addr->Prop) (H:Hp) (h:L2.St) (l:Γ) (f:Str) (R:Str->Prop) (X:XR) (Q:Str->Hp->Prop),Xz K n B H h l->p l f R X->
 (∀x g,R x->Same H g->Q x g)->(∀c g,X c->Same H g->XE mg (E h) c g)->t h H f Q
noncomputable def Ze8:PTF:=λ_ f R _=>f.length<=sizeLine/\R f
def ND:SN K mg E ExcR.L5 Ze8:=λo B H l n f R X Q g h q _=>⟨h.1,q _ H h.2 (Same.refl _)⟩
noncomputable def Zpz(x:Str)(p:PTF):PTF:=λg f R X=>(f++x).length<=sizeLine/\p g (f++x) R X
def Tp(h:SN K mg E t p):SN K mg E (ExcR.Ow x t) (Zpz x p):=λs B H l n r R X Q f g q o=>⟨g.1,h s B H l n _ R X Q f g.2 q o⟩
noncomputable def Zd3(a:PTE)(p:PTF):PTF:=λg f R X=>a g (λs=>match s.d with
 | .int i=>i.natAbs.log2<1920/\(f++(Str.ofString<|toString i)).length<=sizeLine/\p g (f++Str.ofString (toString i)) R X
 | .str x=>x.length<=sizeLine/\(f++x).length<=sizeLine/\p g (f++x) R X
 |_=>False) X
def NM(N:Xu K mg E te a)(h:SN K mg E t p):SN K mg E (ExcR.Md te t) (Zd3 a p):=λC B H w y L R X Q o M q z=>by
 refine N C B H w y _ X _ o M (λs v G g r J=>?_) z;have f:=o.grow r;have u:=J.rp f.same;split at g
 ·rename_i i ei;rw[ei]at u;exact .inl ⟨i,u.int_inv,g.1,g.2.1,h C B G w y _ R X Q f g.2.2 (λx n hx l=>q x n hx (r.trans l)) λc n A l=>z c n A (r.trans l)⟩
 ·rename_i x T;rw[T]at u;exact .inr ⟨x,u.str_inv,g.1,g.2.1,h C B G w y _ R X Q f g.2.2 (λx n hx l=>q x n hx (r.trans l)) λc n A l=>z c n A (r.trans l)⟩
 ·grind
noncomputable def pF(p:PTF):PTE:=λf R X=>p f Str.empty (λx=>R (.sh<|.str x)) X
def Sd(h:SN K mg E t p):Xu K mg E (ExcR.tF t) (pF p):=λs B H g l R X Q f o q n=>
 h s B H g l _ _ X _ f o (λx u hx r=>q _ _ u hx r (.str x)) n
end
open M
noncomputable abbrev plD(f:Yf):D:=.lst (f.map prD)
noncomputable abbrev dD(q:Str×Yg):D:=.tup (.str q.1::q.2.map D.int)
noncomputable abbrev vF:Yn:=["book","fields","wished"]
noncomputable abbrev vO(C x b1 b2 g:Addr)(bk:List (Str×Yg))(fs f:List (Yf)):O:=.ins x C vF [(b1,bk.map dD),(b2,fs.map plD),(g,f.map plD)]
noncomputable abbrev P4(C:Addr)(bk:List (Str×Yg))(fs f:List (Yf)):D:=.ins C vF [.lst (bk.map dD),.lst (fs.map plD),.lst (f.map plD)]
def Fw{g:Type}(f:g->D)(xs:List g)(x:g):atI ((xs++[x]).map f) (-1)=some (f x):=by
 refine T5 ?_;unfold atI ixN;rw[WS (by lia),WT (by grind)];show(xs++[x])[_]?=some x;have e:((-1:Int)+((xs++[x]).length:Int)).toNat=xs.length:=by grind
 rw[e,Qy (WU _),Nat.sub_self];rfl
def Kx(e:Option Str)(X:Str->Prop)(R:Prop):Prop:=match e with|some c=>X c|none=>R
noncomputable def Ba(h:Int):Option Str:=if 1<=h/\h<=10 then none else some "BadHolder"
noncomputable def Ny:Yf->Option Str
 |[]=>none
 |q::r=>if ¬(1<=q.1/\q.1<=10)then some "BadHolder" else if ¬(1<=q.2/\q.2<=1000)then some "BadWidth" else Ny r
noncomputable def SE(ps:Yf):Option Str:=if 40<ps.length then some "TooManyStrips" else Ny ps
theorem Mj:∀{ps:Yf},Field ps->Ny ps=none
 |[],_=>rfl
 |q::r,h=>by
  obtain⟨n,l,g,f⟩:=h q Q2;unfold Ny;rw[WS (λz=>z ⟨n,l⟩),WS (λz=>z ⟨g,f⟩)];exact Mj λx hx=>h x (Qk _ hx)
def RQ(h:Field ps)(f:ps.length<=40):SE ps=none:=by
 unfold SE;rw[WS (by lia)];exact Mj h
noncomputable def F2(ps:Yf)(p:Int):Option Str:=if p<1\/(ps.length:Int)<p then some "NoStrip" else none
noncomputable def X6(ps:Yf)(p:Int):Int×Int:=ps.getD (p-1).toNat (0,0)
noncomputable def Pb(ps:Yf)(p h:Int):Option Str:=if p<1\/(ps.length:Int)<p then some "NoStrip" else if ¬(1<=h/\h<=10)then some "BadHolder" else if (X6 ps p).1=h then some "OwnStrip" else none
noncomputable def TY(ps:Yf)(p h:Int):Yf:=ps.set (p-1).toNat (h,(X6 ps p).2)
def LF{ps:Yf}{p:Int}{x}(g:1<=p)(f:p<=ps.length):cutD (ps.map prD) none (some (p-1))++[prD x]++cutD (ps.map prD) (some p) none=(ps.set (p-1).toNat x).map prD:=by
 rw[TZ,TZ,Bt ps (by lia),SG ps (by lia)];have e:p.toNat=(p-1).toNat+1:=by lia
 rw[e,List.set_eq_take_append_cons_drop,WT (by lia),Qd,Qf,Ju];rfl
def Na{p}(g:1<=p)(f:p<=ps.length):atI (ps.map prD) (p-1)=some (prD<|X6 ps p):=by
 rw[Pe (by lia) (by lia)];unfold X6;rw[WV,WJ (by lia)];rfl
def Zn2(ps:Yf)(p h:Int):(TY ps p h).length=ps.length:=QM ..
def Zgv(f:Field ps)(e:Pb ps p h=none):Field (TY ps p h):=by
 unfold Pb at e;split at e
 ·cases e
 ·split at e
  ·cases e
  ·rename_i r o;have g:(p-1).toNat<ps.length:=by lia
   intro q hq;rcases List.mem_or_eq_of_mem_set hq with hq|rfl
   ·exact f q hq
   ·have:X6 ps p∈ps:=by
     unfold X6;rw[WV,WJ g]
     grind
    obtain⟨_,_,n,l⟩:=f _ this;lia
def Zgw(q:Int×Int)(r:Yf):Ny (q::r)=if ¬(1<=q.1/\q.1<=10)then some ("BadHolder" : Str)else if ¬(1<=q.2/\q.2<=1000)then some ("BadWidth" : Str)else Ny r:=rfl
def HY(q:Str×Yg):imm (dD q)=true:=by
 unfold dD imm KJ;rw[SD];rfl
theorem Lp:∀(bk:List (Str×Yg)),KJ (bk.map dD)=true
 |[]=>rfl
 |q::r=>by
  rw[Qf];unfold KJ;rw[HY,Lp r];rfl
def A3(q:Str×Yg):arg (dD q)=.sh (dD q):=by
 unfold arg;rw[HY]
def Zqb:Ti N (dD q::ds)=some (.sh<|dD q)::(ds.map (λd=>some (arg d))++List.replicate (N.length-(ds.length+1)) none):=by
 unfold Ti;rw[Qf,A3];rfl
def En{q:Str×Yg}{i}(h:i<q.2.length):atI (.str q.1::q.2.map D.int) (1+(i:Int))=some (.int q.2[i]):=Te (by grind)
noncomputable def K4(ps:Yf)(p w:Int):Option Str:=if p<1\/(ps.length:Int)<p then some "NoStrip" else if w<1\/(X6 ps p).2<=w then some "BadPart" else if 40<=ps.length then some "TooManyStrips" else none
noncomputable def Tn(ps:Yf)(p w:Int):Yf:=ps.take (p-1).toNat++[((X6 ps p).1,w),((X6 ps p).1,(X6 ps p).2-w)]++ps.drop p.toNat
noncomputable def Bm(ps:Yf)(p w:Int):List Bool:=if p<1\/(ps.length:Int)<p then[true,true,false,false]else if w<1\/(X6 ps p).2<=w then[true,false,true,false]else if 40<=ps.length then[true,false,false,true]else[]
def Zcu(ps:Yf)(p w:Int):(K4 ps p w=some ("NoStrip" : Str)/\Bm ps p w=[true,true,false,false])\/(K4 ps p w=some ("BadPart" : Str)/\Bm ps p w=[true,false,true,false])\/(K4 ps p w=some ("TooManyStrips" : Str)/\Bm ps p w=[true,false,false,true])\/
  (K4 ps p w=none/\Bm ps p w=[]/\1<=p/\p<=ps.length/\1<=w/\w<(X6 ps p).2/\ps.length<40):=by
 unfold K4 Bm;by_cases c:p<1\/(ps.length:Int)<p
 ·grind
 ·grind
def FE{p}(h:1<=p)(g:p<=ps.length):X6 ps p∈ps:=by
 have f:(p-1).toNat<ps.length:=by lia
 unfold X6;rw[WV,WJ f]
 grind
def R6{p w}(f:1<=p):cutD (ps.map prD) none (some (p-1))++[prD ((X6 ps p).1,w),prD ((X6 ps p).1,(X6 ps p).2-w)]++cutD (ps.map prD) (some p) none=(Tn ps p w).map prD:=by
 rw[TZ,TZ,Bt ps (by lia),SG ps (by lia)];unfold Tn
 grind
def Zft{p w}(g:1<=p)(f:p<=ps.length):(Tn ps p w).length=ps.length+1:=by
 unfold Tn
 grind
def Zkz{p w:Int}(f:Field ps)(h:1<=p)(g:p<=ps.length)(n:1<=w)(l:w<(X6 ps p).2):Field (Tn ps p w):=by
 obtain⟨a1,a2,a3,a4⟩:=f _ (FE h g);intro q hq;rcases Qh.mp hq with hq|hq
 ·rcases Qh.mp hq with hq|hq
  ·exact f q (Vk hq)
  ·grind
 ·exact f q (JF hq)
section
variable {K:Ye}{mg:Yi}{E:L2.St->XK}
noncomputable def Om(i:Nat)(a:PTE):PTS:=λR f=>match f[i]? with
 |some (some<|.own<|.lst h)=>a f (λs=>match s.shd with
  |some (.lst g)=>h.length+g.length<=10000000/\R.nx (f.set i<|some<|.own (h++g))
  |_=>False) (R.ex f)
 |_=>False
def Zgu(i:Nat){te a}(U:Xu K mg E te a):X7 K mg E (Fg<|tBM K "list" ML (KE i)<|Kp te KR) (Om i a):=by
 intro H0 B H w x R D hB f h e;unfold Om at h;split at h
 ·rename_i ds G;obtain⟨v,C,b,rfl,T,us,J,A⟩:=f.slot i _ G;refine⟨_,C,.inl ⟨rfl,us,SqL.of J⟩,U H0 B H w x _ _ _ f h (λs u H1 p n N=>?_) λc M Q L=>e.ex w x c M Q (f.grow L) (Fr.grow L)⟩;have g:=f.grow n;split at p
  ·rename_i es r;obtain⟨a',y,rfl,o,l⟩:=Rp.lst_inv (N.shd g.same f.zm n r);refine⟨b,a',us,y,rfl,rfl,n _ _ J,off_sub _ _ o,by rw[A.len,l.len];exact WZ p.1 (by decide),?_⟩;obtain⟨r,f2⟩:=g.mutate (es:=.lst (ds++es)) (us:=.lst (us++y)) G C trivial λF M SF Y=>⟨_,Y,Rps.mono SF (Rps.append (Rps.mono (XA n λ_ _ _ z=>z) A) l)⟩;exact e.nx _ _ _ p.2 r ((Fr.grow n).trans f2)
  ·grind
 ·exact h.elim
end
theorem AJ:∀{a b:Yg},sl a b->¬sl b a
 |[],_,h,_|_::_,[],h,_=>by cases h
 |a::r,b::t,h,k=>by
  rcases h with h|⟨e,h⟩
  ·rcases k with k|⟨e,_⟩<;>lia
  ·rcases k with k|⟨_,k⟩
   ·lia
   ·exact AJ h k
def Pi.uniq (h:Pi f c g o) (k:Pi f c g p):o=p:=by
 have e:oc c p=oc c o:=by
  have n:=h.le p k.perm k.keeps;have l:=k.le o h.perm h.keeps;lia
 rcases h.first p k.perm k.keeps e with z|z
 ·lia
 ·rcases k.first o h.perm h.keeps e.symm with y|y
  ·grind
  ·exact absurd y (AJ z)
def run_mem:x∈Kw 1 n↔1<=x/\x<=n:=by
 unfold Kw;rw[Qq];constructor
 ·grind
 ·rintro⟨g,f⟩;exact⟨(x-1).toNat,JO.mpr (by lia),by lia⟩
noncomputable def Kk(f:Yf)(a b:Int):Option Str:=if ¬(1<=a/\a<=10)then some "BadHolder" else if ¬(1<=b/\b<=10)then some "BadHolder" else if a=b then some "LikeHolders" else if (a,b)∈f then some "WishStands" else if 20<=f.length then some "TooManyWishes" else none
noncomputable def K0(f:Yf)(a b:Int):Option Str:=if (a,b)∈f then none else some "NoWish"
noncomputable def Sv(f:Yf)(a b:Int):Yf:=f.filter λq=>!decide (q=(a,b))
noncomputable def Kn(ps:Yf)(p:Int):Option Str:=if p<1\/(ps.length:Int)<=p then some "NoStrip" else if ¬(X6 ps p).1=(X6 ps (p+1)).1 then some "UnlikeHolders" else if 1000<(X6 ps p).2+(X6 ps (p+1)).2 then some "TooWide" else none
noncomputable def Tc(ps:Yf)(p:Int):Yf:=ps.take (p-1).toNat++[((X6 ps p).1,(X6 ps p).2+(X6 ps (p+1)).2)]++ps.drop (p+1).toNat
def IE{p}(f:1<=p):cutD (ps.map prD) none (some (p-1))++[prD ((X6 ps p).1,(X6 ps p).2+(X6 ps (p+1)).2)]++cutD (ps.map prD) (some (p+1)) none=(Tc ps p).map prD:=by
 rw[TZ,TZ,Bt ps (by lia),SG ps (by lia)];unfold Tc
 grind
def Zpg{p}(g:1<=p)(f:p<ps.length):(Tc ps p).length+1=ps.length:=by
 unfold Tc
 grind
def Zro(f:Field ps)(e:Kn ps p=none):Field (Tc ps p):=by
 unfold Kn at e;split at e
 ·grind
 split at e
 ·cases e
 split at e
 ·cases e
 obtain⟨a1,a2,a3,a4⟩:=f _ (FE (p:=p) (by lia)<|by lia);obtain⟨b1,l,h,g⟩:=f _ (FE (p:=p+1) (by lia)<|by lia);intro q hq;rcases Qh.mp hq with hq|hq
 ·rcases Qh.mp hq with hq|hq
  ·exact f q (Vk hq)
  ·grind
 ·exact f q (JF hq)
def Zik(h:T4 f)(e:Kk f a b=none):T4 (f++[(a,b)]):=by
 unfold Kk at e;split at e
 ·cases e
 split at e
 ·cases e
 split at e
 ·cases e
 split at e
 ·cases e
 split at e
 ·cases e
 rename_i v u s n r;obtain⟨p,l,o⟩:=h;refine⟨by rw[WW,Vc];lia,?_,λq hq=>?_⟩
 ·rw[Vm];exact⟨l,by simp,λx hx y g z=>by rw[WQ]at g;subst g;exact n (z▸hx)⟩
 ·grind
def Zjf(h:T4 f):T4 (Sv f a b):=
 ⟨WZ (QE _ _) h.1,h.2.1.filter _,λq hq=>h.2.2 q (Qz.mp hq).1⟩
def Zfz:T4 []:=by trivial
noncomputable def Zi7(m:Yg)(k:Int):Int:=1+(k*m.getD 1 0+m.getD 2 0) % 10
def Zjt{a b}(o:1<=a/\a<=10)(n:1<=b/\b<=10)(l:a≠b)(h:(a,b)∉f)(g:f.length<20):Kk f a b=none:=by
 unfold Kk
 grind
noncomputable def Sx(ps:Yf)(os:Yg):Option Str:=if os.isPerm (X3 ps)=true then none else some "BadOrder"
def Ib{os}(h:os.Perm (X3 ps)):Sx ps os=none:=by
 unfold Sx;rw[WT (List.isPerm_iff.mpr h)]
def Zhp{os ns}(f:ns.Perm os)(g:ns.Pairwise (·<=·)):(ns=X3 ps)↔os.isPerm (X3 ps)=true:=by
 rw[List.isPerm_iff];exact⟨λz=>z▸f.symm,λz=>M7 z f g⟩
def Ziw(h:T4 f){i}(l:i<f.length):Kk (f.take i) f[i].1 f[i].2=none:=by
 obtain⟨⟨s,r,p,o⟩,n⟩:=h.2.2 f[i] (Qi l);refine Zjt ⟨s,r⟩ ⟨p,o⟩ n (λz=>?_) (by rw[Qp];have:=h.1;lia);obtain⟨j,g,e⟩:=Q4.mp z;rw[Qp]at g;rw[Vn]at e
 have:=(JZ h.2.1).mp (e.trans rfl)
 lia
noncomputable def BD(ps:Yf)(p:Int):List Bool:=if p<1\/(ps.length:Int)<=p then[true,true,false,false]else if ¬(X6 ps p).1=(X6 ps (p+1)).1 then[true,false,true,false]else if 1000<(X6 ps p).2+(X6 ps (p+1)).2 then[true,false,false,true]else[]
def Zg5(ps:Yf)(p:Int):(Kn ps p=some ("NoStrip" : Str)/\BD ps p=[true,true,false,false])\/(Kn ps p=some ("UnlikeHolders" : Str)/\BD ps p=[true,false,true,false])\/(Kn ps p=some ("TooWide" : Str)/\BD ps p=[true,false,false,true])\/
  (Kn ps p=none/\BD ps p=[]/\1<=p/\p<ps.length):=by
 unfold Kn BD;by_cases c:p<1\/(ps.length:Int)<=p
 ·grind
 ·grind
def Zor{p}(g:1<=p)(f:p<ps.length):atI (ps.map prD) p=some (prD<|X6 ps (p+1)):=by
 have:=Na (ps:=ps) (p:=p+1) (by lia) (by lia)
 grind
noncomputable abbrev d3(k:Str)(a b:Int):D:=.tup [.str k,.int a,.int b]
end Pu
namespace M
open L2 Own Pu
theorem Zdn(c:Int->Int->Int):∀o,oc c o.reverse=oc (λx y=>c y x) o
 |[]=>rfl
 |a::r=>by
  rw[List.reverse_cons,Ax,Zdn c r,Sl (List.reverse_perm r)];simp only[oc];lia
theorem GK(ps:Yf):∀o,oc (λx y=>pcM ps x y ps.length) o=PX ps ps.length o
 |[]=>rfl
 |a::r=>by
  unfold oc PX;rw[GK ps r]
def Zsg(g:Field ps)(h:o.Perm (X3 ps)):oc (λx y=>pcM ps x y ps.length) o=T1 ps o ps.length:=by
 rw[GK];refine LL (h.nodup_iff.mpr ((TR ps).imp (λh=>Jh h))) ps.length λj f=>?_;rw[WV,WJ f];exact h.mem_iff.mpr ((Fq g).mpr (Qq.mpr ⟨_,Qi f,rfl⟩))
def HG{o:Yg}(g:Field ps)(h:o.Perm (X3 ps)):∀p∈ps,p.1∈o:=λp f=>h.mem_iff.mpr ((Fq g).mpr (Qq.mpr ⟨p,f,rfl⟩))
end M
namespace Pu
open L2 Own
section
variable {K:Ye}{mg:Yi}{E:L2.St->XK}
noncomputable def Iz(K:Ye):R2:=λx y H Q=>∃(p q:Addr) (xs f:List V),x=.ref p/\y=.ref q/\SqT K H p xs/\SqT K H q f/\xs.all KZ=true/\f.all KZ=true/\Q (.bl (!eqL xs f)) H
def R9(w:X.A.units<cLine)(B:autoParam (X.K=K) au_0):OpR X (compareOp .NotEq) (Iz K):=by
 subst B;intro pins s L H x y v u Q I o n h;obtain⟨p,q,xs,f,rfl,rfl,z,hq,f1,J,k⟩:=h;obtain rfl:=o;obtain rfl:=n;obtain⟨N,l,r,_⟩:=I.tuple z;obtain⟨M,g,p2,_⟩:=I.tuple hq;have U:=l.length;have T:=g.length;refine SeqAt.RcNeAt.tuples r p2 w (λj G C=>Cs l g f1 J j G C) _ _ _ _ ⟨.bl (!eqL xs f),H,I,?_,k⟩;show _=Value.bool (!eqL xs f);unfold eqL;by_cases e:xs.length=f.length
 ·grind
 ·grind
def AE:S->S->(S->Prop)->Prop:=λx y R=>∃xs f:Yg,x.d=.tup (xs.map D.int)/\y.d=.tup (f.map D.int)/\R (.sh<|.bl (!decide (xs=f)))
def Gv{a b}(J:Xu K mg E z a)(G:Xu K mg E w b):Xu K mg E (tOp (Iz K) z w) (p2 a b AE):=by
 refine PD J G λH0 H T Z x y v u R Q g s1 hm s r h q=>?_;obtain⟨xs,U,N,M,L⟩:=h;have n:=s.rp g;have l:=r.rp g;rw[N]at n;rw[M]at l;obtain⟨p,us,rfl,o,B⟩:=Rp.tup_inv n;obtain⟨C,Y,rfl,f,A⟩:=Rp.tup_inv l;rw[B.ints]at o;rw[A.ints]at f;refine⟨p,C,_,_,rfl,rfl,SqT.of o,SqT.of f,N6 _,N6 _,?_⟩;rw[ER];exact q _ _ T L (Same.refl _) (.bl _)
def RY:List S->(S->Prop)->Prop
 |[s],R=>(match s.d with | .int i=>R (.sh<|.int i) | .bl k=>R (.sh<|.int (if k then 1 else 0))|_=>False)
 |_,_=>False
def Zmr(u:XI K mg E n r):Xu K mg E (tCB (λxs H Q=>(∃i,xs=[.int i]/\Q (.int i) H)\/∃k,xs=[.bl k]/\Q (.int (if k then 1 else 0)) H) n) (pCB RY r):=by
 refine P6 u λA H g Z x w R Q p y z l h q=>?_;unfold RY at h;split at h
 ·rename_i s;obtain⟨v,rfl,o⟩:=l.one_inv;have f:=o.rp p;split at h
  ·rename_i i e;rw[e]at f;exact .inl ⟨i,by rw[f.int_inv],q _ _ g h (Same.refl _) (.int _)⟩
  ·rename_i k e;rw[e]at f;exact .inr ⟨k,by rw[f.bl_inv],q _ _ g h (Same.refl _) (.int _)⟩
  ·grind
 ·exact h.elim
def Zr2(p q:Int×Int):decide ([p.1,p.2]=[q.1,q.2])=decide (p=q):=by grind
def Zj9{R}(h:R (.sh<|.bl (!decide (p=q)))):AE (.sh<|prD p) (.sh<|prD q) R:=by
 refine⟨[p.1,p.2],[q.1,q.2],rfl,rfl,?_⟩;have e:decide ([p.1,p.2]=[q.1,q.2])=decide (p=q):=by grind
 rw[e];omega
end
structure DI (K:Ye) (x:Str) (st:Stmt):Prop where
 ex:∃f fd,PySem.W.nsIn K mainGlobals x=some (some<|.ref f)/\Fun K x x st f fd
structure MI (K:Ye) (C:Addr) (m q:Str) (st:Stmt):Prop where
 ex:∃f fd,PySem.W.findIn K (.ref C) m=some (some<|.ref f)/\PySem.W.isFn K (.ref f)=true/\Fun K m q st f fd
section
variable {K:Ye}{h:Heap}{mg:Yi}
def di{st f oc od r n kV o p g ct}(a:PySem.W.nsIn K mainGlobals x=some (some<|.ref f))(l:K.lookup f=some ⟨oc,od,.func (PySem.W.fnOf x x (P9 st) (XZ st) (Xv st) .none kV o p r g ct),n⟩)(c:PySem.W.codeIn K g x=true)(k:PySem.W.keepIn K (.ref f)=true):DI K x st:=⟨f,_,a,F6 l c k⟩
def mi{st f oc od r n kV o p g ct}(a:PySem.W.findIn K (.ref C) m=some (some<|.ref f))(i:PySem.W.isFn K (.ref f)=true)(l:K.lookup f=some ⟨oc,od,.func (PySem.W.fnOf m q (P9 st) (XZ st) (Xv st) .none kV o p r g ct),n⟩)(c:PySem.W.codeIn K g q=true)(k:PySem.W.keepIn K (.ref f)=true):MI K C m q st:=⟨f,_,a,i,F6 l c k⟩
def DI.d {st ps} (D:DI K x st) (X:K.In h) (o:h.Ns mainGlobals mg)
  (b:∀kV f l n g ct us,us.length=ps.length->bindArgs (PySem.W.fnOf x x (P9 st) (XZ st) (Xv st) .none kV f l n g ct) ⟨us,[]⟩=pure (ps.zip us)):Def K mg x st ps:=
 let ⟨_,_,a,F⟩:=D.ex
 ⟨_,_,F,QI X o a,F.binds b⟩
def MI.d {m q st ps} (D:MI K C m q st) (e:o=C)
  (b:∀kV f l n g ct us,us.length=ps.length->bindArgs (PySem.W.fnOf m q (P9 st) (XZ st) (Xv st) .none kV f l n g ct) ⟨us,[]⟩=pure (ps.zip us)):XJ K (XH K o m) m q st ps:=
 let ⟨_,_,a,i,F⟩:=D.ex
 ⟨_,_,F,by rw[e];exact⟨a,i,F.kp⟩,F.binds b⟩
def MI.i {q st ps} (D:MI K C "__init__" q st) (e:p=C) (mk:PySem.W.makesIn K C=true) (n:PySem.W.keepIn K (.ref C)=true)
  (b:∀kV f l o g ct us,us.length=ps.length->bindArgs (PySem.W.fnOf "__init__" q (P9 st) (XZ st) (Xv st) .none kV f l o g ct) ⟨us,[]⟩=pure (ps.zip us)):XJ K (Mk K p) "__init__" q st ps:=
 let ⟨_,_,a,i,F⟩:=D.ex
 ⟨_,_,F,by rw[e];exact⟨mk,a,i,n⟩,F.binds b⟩
end
def fs{N P f}(r:autoParam (f.kind=.function) au_0)(p:autoParam (f.isCoroutine=false) au_0)(o:autoParam (f.isGenerator=false) au_0)(n:autoParam (N.Nodup) au_5)(l:autoParam (N.take P.length=P) au_0)(h:autoParam (∀x∈P,f.names.lookup x=some .local\/f.names.lookup x=some .cell) au_5)(g:autoParam (∀y∈f.names,y.2≠.free) au_5):Xw N P f:=⟨r,p,o,n,l,h,g⟩
def pz{pos x e te f}(i:Nat)(o:X.N.Nodup)(n:PE X e te)(h:autoParam (X.N[i]?=some x) au_0)(hx:autoParam (Loc X.env.scope x) au_6)(g:autoParam (swapsWith e (some<|.Name x f) pos.line X.env=pure false) au_0)(l:autoParam (X.fn x=true\/X.env.scope.names.lookup x=some .local) au_2) :
  PS X (.Assign [.Name x f] e pos) (NH te<|Sn i):=Zpw o h hx n g l
section
variable {K:Ye}{mg:Yi}{E:L2.St->XK}{H0 H H1 H':Hp}{B Z Z':Addr->Prop}{σ:L2.St}{γ:Γ}
def Xz.named (env:Xz K H0 B H σ γ) (f:γ[i]?=some (some<|.own<|.lst ds)) (g:σ[i]?=some (some<|.ref a)):Xz K H0 B H σ (γ.set i<|some<|.own<|.lsA a ds)/\Fr B H σ γ H σ (γ.set i<|some<|.own<|.lsA a ds):=by
 obtain⟨v,l,b,rfl,u,p,n,r⟩:=env.slot i _ f;rw[g]at l;cases l
 have s:∀b,zof B (γ.set i<|some<|.own<|.lsA a ds) σ b->zof B γ σ b:=λb z=>by
  rcases z with z|⟨j,fs,C,A,x,o⟩
  ·exact .inl z
  ·rcases Kg A with⟨w,q,_⟩|⟨_,e⟩
   ·subst w;cases q
    exact .inr ⟨j,_,a,f,g,o⟩
   ·exact .inr ⟨j,fs,C,e,x,o⟩
 exact env.change f g (λ_ _ h _=>h) (λb h=>by rw[show b=a from h,n];trivial) (λb h=>.inl h) ⟨rfl,p,n,Rps.mono (XA (Same.refl _) λb _ _ z y=>z (s b y)) r⟩
noncomputable def pNm(i:Nat)(p:PTS):PTS:=λR γ=>match γ[i]? with
 |some (some<|.own<|.lst f)=>∀a,p R (γ.set i<|some<|.own<|.lsA a f)
 |_=>p R γ
def Zkt(i:Nat){t p}(g:X7 K mg E t p):X7 K mg E t (pNm i p):=by
 intro H0 B H σ γ R D n f h e;unfold pNm at h;split at h
 ·rename_i y l;obtain⟨v,o,b,rfl,r,u,x,w⟩:=f.slot i _ l;obtain⟨s,f1⟩:=f.named l o;exact g H0 B H σ _ R D n s (h b) (e.from f1)
 ·exact g H0 B H σ γ R D n f h e
def Xz.change2 {o1 p Y g} (E:Xz K H0 B H σ γ) (hij:i≠j) (hi:γ[i]?=some (some<|.own o1)) (hj:γ[j]?=some (some<|.own Y)) (A:σ[i]?=some (some<|.ref a1)) (r:σ[j]?=some (some<|.ref a2))
  (hH:∀b x,H b=some x->¬o1.adr a1 b->¬Y.adr a2 b->H' b=some x) (hm:∀b,o1.adr a1 b\/Y.adr a2 b->Mut (H' b)) (n1:∀b,p.adr a1 b->o1.adr a1 b\/H b=none) (n2:∀b,g.adr a2 b->Y.adr a2 b\/H b=none) (ap:∀b,p.adr a1 b->¬g.adr a2 b)
  (r1:OR K (Pu.off (zof B ((γ.set i<|some<|.own p).set j (some<|.own g)) σ) H') H' a1 p) (r2:OR K (Pu.off (zof B ((γ.set i<|some<|.own p).set j (some<|.own g)) σ) H') H' a2 g) :
  Xz K H0 B H' σ ((γ.set i<|some<|.own p).set j (some<|.own g))/\Fr B H σ γ H' σ ((γ.set i<|some<|.own p).set j (some<|.own g)):=by
 generalize eg:(γ.set i<|some<|S.own p).set j (some<|.own g)=γ2 at r1 r2 ⊢
 have get:∀k s,γ2[k]?=some (some s)->(k=j/\s=.own g)\/(k=i/\k≠j/\s=.own p)\/(k≠i/\k≠j/\γ[k]?=some (some s)):=λk s h=>by
  rw[←eg]at h;rcases Kg h with⟨G,C,_⟩|⟨G,C⟩
  ·exact .inl ⟨G,(Qb C).symm⟩
  ·rcases Kg C with⟨f1,f2,_⟩|⟨f1,f2⟩
   ·exact .inr (.inl ⟨f1,G,(Qb f2).symm⟩)
   ·exact .inr (.inr ⟨f1,G,f2⟩)
 obtain⟨v1,T,x1,rfl,h1,k1⟩:=E.slot i _ hi;rw[A]at T;cases T
 obtain⟨v2,U,x2,rfl,h2,k2⟩:=E.slot j _ hj;rw[r]at U;cases U
 have za:∀b,o1.adr a1 b\/Y.adr a2 b->zof B γ σ b:=λb M=>M.elim (λM=>.inr ⟨i,o1,a1,hi,A,M⟩) λM=>.inr ⟨j,Y,a2,hj,r,M⟩
 have hz:∀b x,H b=some x->zof B γ2 σ b->zof B γ σ b:=λb x hx z=>by
  rcases z with z|⟨k,fs,a',G,C,f⟩
  ·exact .inl z
  ·rcases get k _ G with⟨J,N⟩|⟨J,_,N⟩|⟨_,_,e⟩
   ·subst J;cases N;rw[r]at C;cases C;rcases n2 b f with w|w
    ·exact za b (.inr w)
    ·rw[w]at hx;cases hx
   ·subst J;cases N;rw[A]at C;cases C;rcases n1 b f with w|w
    ·exact za b (.inl w)
    ·rw[w]at hx;cases hx
   ·exact .inr ⟨k,fs,a',e,C,f⟩
 have hH':∀b x,H b=some x->¬(o1.adr a1 b\/Y.adr a2 b)->H' b=some x:=λb x hx n=>hH b x hx (λz=>n (.inl z)) λz=>n (.inr z)
 have S1:=λb x h=>by
  obtain⟨T,U⟩:=Ts h;exact XY (hH' b x T λk=>U (za b k)) λz=>U (hz b x T z)
 have old:∀(k:Nat) L a b,γ[k]?=some (some<|.own L)->σ[k]?=some (some<|.ref a)->L.adr a b->∃o,H b=some o:=λk L a b G C f=>by
  obtain⟨u,T,a',U,_,q3⟩:=E.slot k _ G;rw[C]at T;cases T
  cases U
  exact Nd (q3.mut b f)
 have apart1:∀k L a b,k≠i->γ[k]?=some (some<|.own L)->σ[k]?=some (some<|.ref a)->L.adr a b->¬p.adr a1 b:=λk L a b nk G C f w=>by
  rcases n1 b w with w|w
  ·exact nk (E.own k i a a1 L o1 b G hi C A f w)
  ·obtain⟨u,hu⟩:=old k L a b G C f;rw[w]at hu;cases hu
 have apart2:∀k L a b,k≠j->γ[k]?=some (some<|.own L)->σ[k]?=some (some<|.ref a)->L.adr a b->¬g.adr a2 b:=λk L a b nk G C f w=>by
  rcases n2 b w with w|w
  ·exact nk (E.own k j a a2 L Y b G hj C r f w)
  ·obtain⟨u,hu⟩:=old k L a b G C f;rw[w]at hu;cases hu
 refine⟨⟨λb x h=>?_,by rw[←eg,QM,QM];exact E.len,λb M=>?_,λk l x x' fs fs' b G C f Q e5 e6=>?_,λk s h=>?_⟩,λb x h z=>⟨?_,λy=>z (hz b x h y)⟩⟩
 ·exact hH' b x (E.same b x h) λk=>by
   rcases k with k|k
   ·rw[h1 b k]at h;cases h
   ·rw[h2 b k]at h;cases h
 ·by_cases k:o1.adr a1 b\/Y.adr a2 b
  ·exact hm b k
  ·have:=E.bm b M
   obtain⟨x,hx⟩:=Nd this;rwa[hH' b x hx k,←hx]
 ·rcases get k _ G with⟨J,N⟩|⟨J,nk,N⟩|⟨nk,nk',e⟩<;>rcases get l _ C with⟨el,et⟩|⟨el,nl,et⟩|⟨nl,nl',e'⟩
  ·rw[J,el]
  ·subst J el;cases N;cases et;rw[r]at f;cases f;rw[A]at Q;cases Q;exact absurd e5 (ap b e6)
  ·subst J;cases N;rw[r]at f;cases f;exact absurd e5 (apart2 l fs' x' b nl' e' Q e6)
  ·subst J el;cases N;cases et;rw[A]at f;cases f;rw[r]at Q;cases Q;exact absurd e6 (ap b e5)
  ·rw[J,el]
  ·subst J;cases N;rw[A]at f;cases f;exact absurd e5 (apart1 l fs' x' b nl e' Q e6)
  ·subst el;cases et;rw[r]at Q;cases Q;exact absurd e6 (apart2 k fs x b nk' e f e5)
  ·subst el;cases et;rw[A]at Q;cases Q;exact absurd e6 (apart1 k fs x b nk e f e5)
  ·exact E.own k l x x' fs fs' b e e' f Q e5 e6
 ·rcases get k s h with⟨J,N⟩|⟨J,_,N⟩|⟨nk,nk',e⟩
  ·subst J N;exact⟨_,r,a2,rfl,λb M=>(n2 b M).elim (h2 b) λw=>E.same.free w,r2⟩
  ·subst J N;exact⟨_,A,a1,rfl,λb M=>(n1 b M).elim (h1 b) λw=>E.same.free w,r1⟩
  ·obtain⟨v,T,U⟩:=E.slot k s e;refine⟨v,T,?_⟩;cases s with
   |sh d=>exact Rp.mono S1 U
   |own fs=>
    obtain⟨x,rfl,f,Q⟩:=U;exact⟨x,rfl,f,Q.mono S1 λb M y C=>hH b y C (λw=>nk (E.own k i x a1 fs o1 b e hi T A M w)) λw=>nk' (E.own k j x a2 fs Y b e hj T r M w)⟩
   |_=>exact U
 ·exact hH' b x h λk=>z (za b k)
abbrev Pw2:=O->O->List S->(O->O->D->Prop)->(O->O->Str->Prop)->Prop
def two(o1 f:O)(a1 a2:Addr):Addr->Prop:=λb=>o1.adr a1 b\/f.adr a2 b
structure Af (K:Ye) (B:Addr->Prop) (H:Hp) (a1 a2:Addr) (o1 o2 o1' o2':O) (H':Hp):Prop where
 same:Same (off (two o1 o2 a1 a2) H) H'
 old1:∀b,o1.adr a1 b->o1'.adr a1 b
 old2:∀b,o2.adr a2 b->o2'.adr a2 b
 new1:∀b,o1'.adr a1 b->o1.adr a1 b\/H b=none
 new2:∀b,o2'.adr a2 b->o2.adr a2 b\/H b=none
 apart:∀b,o1'.adr a1 b->¬o2'.adr a2 b
 at1:OR K (off (λb=>B b\/two o1' o2' a1 a2 b) H') H' a1 o1'
 at2:OR K (off (λb=>B b\/two o1' o2' a1 a2 b) H') H' a2 o2'
noncomputable def Nx(mg:Yi)(c:Pw2)(K:Ye):Sp:=λo H Q E=>∃(o1 h:O) (a1 a2:Addr) (l:List S) (n:List V) (B:Addr->Prop) (R:O->O->D->Prop) (X:O->O->Str->Prop),
 o=.ref a1 :: .ref a2::n/\(∀b,B b->Mut (H b)/\¬two o1 h a1 a2 b)/\(∀b,o1.adr a1 b->¬h.adr a2 b)/\OR K (off (λb=>B b\/two o1 h a1 a2 b) H) H a1 o1/\OR K (off (λb=>B b\/two o1 h a1 a2 b) H) H a2 h/\
 TVs K (λb=>B b\/two o1 h a1 a2 b) (off (two o1 h a1 a2) H) H H l n/\(∀s∈l,s.flat)/\c o1 h l R X/\
 (∀g f d v H',R g f d->Af K B H a1 a2 o1 h g f H'->Rp K (off (λb=>B b\/two g f a1 a2 b) H') d v->Q v H')/\∀g f e H',X g f e->Af K B H a1 a2 o1 h g f H'->XE mg E e H'
noncomputable def Tu(N:Yn)(o1 g:O)(f:List S):Γ:=some (.own o1)::some (.own g)::(f.map some++List.replicate (N.length-(f.length+2)) none)
def Zjw{o1 f a1 a2 n us}(hB:∀b,B b->Mut (H b)/\¬two o1 f a1 a2 b)(ap:∀b,o1.adr a1 b->¬f.adr a2 b)(Q:OR K (off (λb=>B b\/two o1 f a1 a2 b) H) H a1 o1)(M:OR K (off (λb=>B b\/two o1 f a1 a2 b) H) H a2 f)(r:TVs K (λb=>B b\/two o1 f a1 a2 b) (off (two o1 f a1 a2) H) H H n us)(hf:∀s∈n,s.flat)(hn:n.length+2<=N.length) :
  Xz K (off (two o1 f a1 a2) H) B H (start N (.ref a1 :: .ref a2::us)) (Tu N o1 f n):=by
 have get:∀i s,(Tu N o1 f n)[i+2]?=some (some s)->n[i]?=some s:=λi s h=>by
  unfold Tu at h;rw[Q6,Q6]at h;by_cases T:i<n.length
  ·rw[Qw (by rw[WL];exact T),WX,WJ T]at h;rw[WJ T];exact QA some (Qb<|Qb h)
  ·rw[Qy (by rw[WL];lia),VJ]at h;split at h<;>cases h
 have noown:∀i C,(Tu N o1 f n)[i+2]?≠some (some<|.own C):=λi C h=>hf _ (Qj<|get i _ h)
 have w:(start N (V.ref a1::V.ref a2::us))[0]?=some (some<|.ref a1):=by
  unfold L2.start;rfl
 have u:(start N (V.ref a1::V.ref a2::us))[1]?=some (some<|.ref a2):=by
  unfold L2.start;rfl
 have g0:∀s,(Tu N o1 f n)[0]?=some (some s)->s=.own o1:=λs h=>by
  have h:some (some<|S.own o1)=some (some s):=h;cases h
  rfl
 have L:∀s,(Tu N o1 f n)[1]?=some (some s)->s=.own f:=λs h=>by
  have h:some (some<|S.own f)=some (some s):=h;cases h
  rfl
 have hz:∀b,zof B (Tu N o1 f n) (start N (V.ref a1::V.ref a2::us)) b->B b\/two o1 f a1 a2 b:=λb z=>by
  rcases z with z|⟨i,C,a',l,g,p⟩
  ·exact .inl z
  ·match i,l,g with
   | 0,l,g=>
    rw[w]at g;cases g
    cases g0 _ l
    exact .inr (.inl p)
   | 1,l,g=>
    rw[u]at g;cases g
    cases L _ l
    exact .inr (.inr p)
   |i+2,l,_=>exact absurd l (noown i C)
 have G:∀{o:O} {a:Addr},OR K (off (λb=>B b\/two o1 f a1 a2 b) H) H a o->OR K (off (zof B (Tu N o1 f n)<|start N (V.ref a1::V.ref a2::us)) H) H a o:=λh=>h.mono (XA (Same.refl _) λb _ _ z y=>z (hz b y)) λ_ _ _ q=>q;refine⟨off_sub,?_,λb h=>(hB b h).1,λi j x x' C J b l g p A h5 h6=>?_,λi s h=>?_⟩
 ·unfold L2.start Tu;simp[r.len]
 ·match i,j,l,g,p,A with
  | 0,0,_,_,_,_=>rfl
  | 1,1,_,_,_,_=>rfl
  | 0,1,l,g,p,A=>
   cases g0 _ l
   cases L _ g
   rw[w]at p;cases p
   rw[u]at A;cases A
   exact absurd h6 (ap b h5)
  | 1,0,l,g,p,A=>
   cases L _ l
   cases g0 _ g
   rw[u]at p;cases p
   rw[w]at A;cases A
   exact absurd h5 (ap b h6)
  |i+2,_,l,_,_,_=>exact absurd l (noown i C)
  | 0,j+2,_,g,_,_=>exact absurd g (noown j J)
  | 1,j+2,_,g,_,_=>exact absurd g (noown j J)
 ·match i,h with
  | 0,h=>
   cases g0 _ h
   refine⟨_,w,a1,rfl,λb U=>?_,G Q⟩;unfold off;rw[WT (.inl U)]
  | 1,h=>
   cases L _ h
   refine⟨_,u,a2,rfl,λb U=>?_,G M⟩;unfold off;rw[WT (.inr U)]
  |i+2,h=>
   have hs:=get i s h;obtain⟨v,hv,Y⟩:=r.get hs;refine⟨v,?_,?_⟩
   ·unfold L2.start;rw[Qw (by rw[WL,Qe,Qe];have:=(Qg.mp hv).1;lia),WX,Q6,Q6,hv];rfl
   ·have:=hf s (Qj hs)
    cases s with
    |bor d=>exact Y
    |sh d=>exact Rp.mono (XA (Same.refl _) λb _ _ z y=>z (hz b y)) Y
    |own _=>exact this.elim
    |view _=>exact this.elim
    |tmp _=>exact this.elim
def Ll(o1 h:O)(R:O->O->D->Prop)(γ:Γ)(d:D):Prop:=∃g f,γ[0]?=some (some<|.own g)/\γ[1]?=some (some<|.own f)/\o1.from g/\h.from f/\R g f d
def Zc6(o1 h:O)(X:O->O->Str->Prop)(γ:Γ)(e:Str):Prop:=∃g f,γ[0]?=some (some<|.own g)/\γ[1]?=some (some<|.own f)/\o1.from g/\h.from f/\X g f e
noncomputable def RL(o1 f:O)(R:O->O->D->Prop)(X:O->O->Str->Prop):Nv:={nx:=λγ=>Ll o1 f R γ .non,rt:=λ_=>False,ex:=Zc6 o1 f X,rv:=Ll o1 f R}
def Dw{o1 l g f}{σ'}{γ'}(u:OR K (off (λb=>B b\/two o1 l a1 a2 b) H) H a1 o1)(s:OR K (off (λb=>B b\/two o1 l a1 a2 b) H) H a2 l)(e:Xz K (off (two o1 l a1 a2) H) B H' σ' γ')(x:γ'[0]?=some (some<|.own g))(v:γ'[1]?=some (some<|.own f))(k1:o1.from g)(k2:l.from f) :
  Af K B H a1 a2 o1 l g f H'/\∀b,B b\/two g f a1 a2 b->zof B γ' σ' b:=by
 obtain⟨T,G,p,rfl,N,L⟩:=e.slot 0 _ x;obtain rfl:=O.from_at k1 u L;obtain⟨Q,C,n,rfl,p2,J⟩:=e.slot 1 _ v;obtain rfl:=O.from_at k2 s J
 have M:∀b,B b\/two g f p n b->zof B γ' σ' b:=λb z=>by
  rcases z with z|z|z
  ·exact .inl z
  ·exact .inr ⟨0,g,p,x,G,z⟩
  ·exact .inr ⟨1,f,n,v,C,z⟩
 have A:∀b,g.adr p b->¬f.adr n b:=λb z y=>absurd (e.own 0 1 p n g f b x v G C z y) (by decide);have fromZ:∀{o:O} {a:Addr},OR K (off (zof B γ' σ') H') H' a o->OR K (off (λb=>B b\/two g f p n b) H') H' a o:=λh=>h.mono (XA (Same.refl _) λb _ _ z y=>z (M b y)) λ_ _ _ q=>q
 have free:∀b,off (two o1 l p n) H b=none->two o1 l p n b\/H b=none:=λb w=>by
  unfold off at w;by_cases q:two o1 l p n b
  ·exact .inl q
  ·rw[WS q]at w;exact .inr w
 refine⟨⟨e.same,O.from_adr k1,O.from_adr k2,λb r=>?_,λb r=>?_,A,fromZ L,fromZ J⟩,M⟩
 ·rcases free b (N b r)with(w|w)|w
  ·exact .inl w
  ·exact absurd (O.from_adr k2 b w) (A b r)
  ·exact .inr w
 ·rcases free b (p2 b r)with(w|w)|w
  ·exact absurd r (A b<|O.from_adr k1 b w)
  ·exact .inl w
  ·exact .inr w
def Zra{t p vs Q Ec n}(h:Nx mg c K vs H Q Ec)(Y:X7 K mg (λ_=>Ec) t p)(hn:n+2<=N.length)(hp:∀o1 M C R X,c o1 M C R X->C.length=n/\p (RL o1 M R X) (Tu N o1 M C)):t {nx:=λ_ H'=>Q .non H',rt:=Q} (start N vs) H:=by
 obtain⟨o1,M,a1,a2,C,us,B,R,X,rfl,hB,ap,o,l,r,hf,hc,hQ,hX⟩:=h;obtain⟨e,hp⟩:=hp o1 M C R X hc;refine Y _ B H _ _ _ _ (λb z=>?_) (Zjw hB ap o l r hf<|by rw[e];exact hn) hp ⟨λw A H' T U f1=>?_,λ_ _ _ z=>z.elim,λw A c H' T U f1=>?_,λ_ _ _ z=>z.elim,λ_ _ _ z=>z.elim,λw A d v H' T U f1 rd=>?_⟩
 ·obtain⟨u,s⟩:=hB b z;obtain⟨x,hx⟩:=Nd u;exact⟨x,XY hx s⟩
 ·obtain⟨g,f,u,s,L,J,G⟩:=T;exact hQ g f .non .non H' G (Dw o l U u s L J).1 .non
 ·obtain⟨g,f,u,s,L,J,G⟩:=T;exact hX g f c H' G (Dw o l U u s L J).1
 ·obtain⟨g,f,u,s,L,J,G⟩:=T;obtain⟨k1,k2⟩:=Dw o l U u s L J;exact hQ g f d v H' G k1 (Rp.mono (XA (Same.refl _) λb _ _ z y=>z (k2 b y)) rd)
def Zou(h:Nx mg c K vs H Q s)(l:∀o1 g f R X,c o1 g f R X->f.length=n):vs.length=n+2:=by
 obtain⟨o1,g,a1,a2,f,p,B,R,X,rfl,_,_,_,_,r,_,o,_⟩:=h;rw[Qe,Qe,r.len,l o1 g f R X o]
def Zix{i j}{o1 r}{a1 a2}{ss L}{us}{R:Γ->D->Prop}{X:Γ->Str->Prop}{Q}{Ec}(env:Xz K H0 B H σ γ)(hB:∀b,B b->∃o,H0 b=some o)(S1:Same H H1)(hij:i≠j)(hi:γ[i]?=some (some<|.own o1))(Y:γ[j]?=some (some<|.own r))(G:σ[i]?=some (some<|.ref a1))(C:σ[j]?=some (some<|.ref a2))(t1:TVs K (zof B γ σ) H0 H H1 ss us)(hp:passes ss=some L)(hc:c o1 r L (λg f d=>R ((γ.set i<|some<|.own g).set j (some<|.own f)) d) (λg f e=>X ((γ.set i<|some<|.own g).set j (some<|.own f)) e))(q:∀p d v H',R p d->Xz K H0 B H' σ p->Fr B H σ γ H' σ p->Rp K (off (zof B p σ) H') d v->Q v H')(qx:∀p c H',X p c->Xz K H0 B H' σ p->Fr B H σ γ H' σ p->XE mg Ec c H'):Nx mg c K (.ref a1 :: .ref a2::us) H1 Q Ec:=by
 have l:=env.grow S1;obtain⟨v1,h1,x1,e1,h3,h4⟩:=l.slot i _ hi;rw[G]at h1;cases h1
 cases e1
 obtain⟨v2,h2,x2,J,h5,h6⟩:=l.slot j _ Y;rw[C]at h2;cases h2
 cases J
 have za:∀b,two o1 r a1 a2 b->zof B γ σ b:=λb s=>s.elim (λs=>.inr ⟨i,o1,a1,hi,G,s⟩) λs=>.inr ⟨j,r,a2,Y,C,s⟩;have h0:∀b,two o1 r a1 a2 b->H0 b=none:=λb s=>s.elim (h3 b) (h5 b);have down:∀{o:O} {a:Addr},OR K (off (zof B γ σ) H1) H1 a o->OR K (off (λb=>(zof B γ σ b/\¬two o1 r a1 a2 b)\/two o1 r a1 a2 b) H1) H1 a o:=λh=>h.mono (XA (Same.refl _) λb _ _ z y=>z (y.elim (λy=>y.1)<|za b)) λ_ _ _ q=>q
 have aft:∀g f H',Af K (λb=>zof B γ σ b/\¬two o1 r a1 a2 b) H1 a1 a2 o1 r g f H'->Xz K H0 B H' σ ((γ.set i<|some<|.own g).set j (some<|.own f))/\Fr B H σ γ H' σ ((γ.set i<|some<|.own g).set j (some<|.own f))/\∀b x,H' b=some x->¬((zof B γ σ b/\¬two o1 r a1 a2 b)\/two g f a1 a2 b)->¬zof B ((γ.set i<|some<|.own g).set j (some<|.own f)) σ b:=λg f H' A=>by
  have U:∀b x,H' b=some x->¬((zof B γ σ b/\¬two o1 r a1 a2 b)\/two g f a1 a2 b)->¬zof B ((γ.set i<|some<|.own g).set j (some<|.own f)) σ b:=λb x _ n z=>by
   rcases z with z|⟨k,fs,a',e1,J,e3⟩
   ·refine n (.inl ⟨.inl z,λw=>?_⟩);obtain⟨u,hu⟩:=hB b z;rw[h0 b w]at hu;cases hu
   ·rcases Kg e1 with⟨ek,q,_⟩|⟨nk,q⟩
    ·subst ek;cases q
     rw[C]at J;cases J
     exact n (.inr<|.inr e3)
    ·rcases Kg q with⟨ek,M,_⟩|⟨nk',M⟩
     ·subst ek;cases M
      rw[G]at J;cases J
      exact n (.inr<|.inl e3)
     ·refine n (.inl ⟨.inr ⟨k,fs,a',M,J,e3⟩,λw=>?_⟩);rcases w with w|w
      ·exact nk' (env.own k i a' a1 fs o1 b M hi J G e3 w)
      ·exact nk (env.own k j a' a2 fs r b M Y J C e3 w)
  have up:∀{o:O} {a:Addr},OR K (off (λb=>(zof B γ σ b/\¬two o1 r a1 a2 b)\/two g f a1 a2 b) H') H' a o->OR K (off (zof B ((γ.set i<|some<|.own g).set j (some<|.own f)) σ) H') H' a o:=λh=>h.mono (XA (Same.refl _) λb x hx z=>U b x hx z) λ_ _ _ q=>q;obtain⟨T,N⟩:=l.change2 hij hi Y G C (λb x hx n1 n2=>A.same b x (XY hx λw=>w.elim n1 n2)) (λb s=>s.elim (λs=>A.at1.mut b (A.old1 b s)) λs=>A.at2.mut b (A.old2 b s)) A.new1 A.new2 A.apart (up A.at1) (up A.at2);exact⟨T,(Fr.grow S1).trans N,U⟩
 refine⟨o1,r,a1,a2,L,us,λb=>zof B γ σ b/\¬two o1 r a1 a2 b,_,_,rfl,λb s=>⟨l.zm b s.1,s.2⟩,(λb z y=>hij (env.own i j a1 a2 o1 r b hi Y G C z y)),down h4,down h6,?_,BN hp,hc,λg f d v H' hR A rd=>?_,λg f e H' hX A=>?_⟩
 ·refine t1.pass l.same env.zm S1 (λb x hx=>XY (l.same b x hx) λw=>?_) (XA (Same.refl _) λb _ _ z y=>z (y.elim (λy=>y.1)<|za b)) hp;rw[h0 b w]at hx;cases hx
 ·obtain⟨T,N,k3⟩:=aft g f H' A;exact q _ d v H' hR T N (Rp.mono (λb x h=>let ⟨p1,p2⟩:=Ts h;XY p1 (k3 b x p1 p2)) rd)
 ·obtain⟨T,N,_⟩:=aft g f H' A;exact qx _ e H' hX T N
noncomputable def Zss(i j:Nat)(c:Pw2)(r:PTA):PTW:=λγ R X=>match γ[i]?,γ[j]? with
 |some (some<|.own o1),some (some<|.own n)=>r γ (λl=>match passes l with|some h=>c o1 n h (λg f d=>R ((γ.set i<|some<|.own g).set j (some<|.own f)) d) (λg f e=>X ((γ.set i<|some<|.own g).set j (some<|.own f)) e)|none=>False) (X γ)
 |_,_=>False
noncomputable def G9(i j:Nat)(c:Pw2)(r:PTA):PTW:=λγ R X=>match γ[i]?,γ[j]? with
 |some (some<|.own o1),some (some<|.own n)=>r γ (λl=>match passes l with|some f=>c o1 n f (λh g d=>R ((γ.set i<|some<|.own h).set j (some<|.own g)) d) (λ_ _ _=>False)|none=>False) (X γ)
 |_,_=>False
def Cr(i j:Nat)(n:i≠j){c o r}(C:XI K mg E o r):P3 K mg E (N0 (Nx mg c K) [] E0<|Kp (KE i)<|Kp (KE j) o) (G9 i j c r):=by
 intro H0 B H σ γ R X Q J f h q A;unfold G9 at h;split at h
 ·rename_i o1 Y s p;obtain⟨T,l,a1,rfl,_,_⟩:=f.slot i _ s;obtain⟨N,g,a2,rfl,_,_⟩:=f.slot j _ p;refine⟨_,l,_,g,C H0 B H σ γ _ _ _ f h (λU w H1 u M x=>?_) λc H' G v=>A γ c H' G (f.grow v) (Fr.grow v)⟩;show Nx mg c K ((V.ref a1::V.ref a2::w)++[]) H1 Q E0;rw[Q8];split at u
  ·rename_i y L;exact Zix (X:=λ_ _=>False) f J M n s p l g x L u q λ_ _ _ z=>z.elim
  ·grind
 ·grind
abbrev PTV:=Γ->(Γ->Bool->Prop)->(Γ->Str->Prop)->Prop
def A1(K:Ye)(mg:Yi)(E:L2.St->XK)(t:TT)(p:PTV):Prop:=∀(H0:Hp) (B:Addr->Prop) (H:Hp) (σ:L2.St) (γ:Γ) (R:Γ->Bool->Prop) (X:Γ->Str->Prop) (Q:Bool->Hp->Prop),(∀b,B b->∃o,H0 b=some o)->Xz K H0 B H σ γ->p γ R X->
 (∀f b H',R f b->Xz K H0 B H' σ f->Fr B H σ γ H' σ f->Q b H')->(∀f c H',X f c->Xz K H0 B H' σ f->Fr B H σ γ H' σ f->XE mg (E σ) c H')->t σ H Q
noncomputable def pVW(w:PTW):PTV:=λγ R X=>w γ (λf d=>match d with | .bl c=>R f c|_=>False) X
def EB(hw:P3 K mg E te w):A1 K mg E (DL K te) (pVW w):=by
 intro H0 B H σ γ R X Q p f h q o;refine hw H0 B H σ γ _ _ _ p f h (λl d v H' g r f1 n=>?_) o;split at g
 ·rw[n.bl_inv];exact⟨_,rfl,q _ _ _ g r f1⟩
 ·grind
noncomputable def Zkl(p:PTV):PTV:=λγ R X=>p γ (λf b=>R f (!b)) X
def Cm(n:A1 K mg E t p):A1 K mg E (DO t) (Zkl p):=by
 intro H0 B H σ γ R X Q o g h q l;exact n H0 B H σ γ _ _ _ o g h (λf b H' r s f1=>q f (!b) H' r s f1) l
noncomputable def Zf2(c:PTV)(p q:PTS):PTS:=λR γ=>c γ (λf b=>if b=true then p R f else q R f) R.ex
def EV{p q}(s:A1 K mg E tt c)(r:X7 K mg E t p)(hq:X7 K mg E u q):X7 K mg E (E2 tt t u) (Zf2 c p q):=by
 intro H0 B H σ γ R D l n h e;refine s H0 B H σ γ _ _ _ l n h (λf b H' o g f1=>?_) λf c H' o g f1=>e.ex _ _ _ _ o g f1;cases b with
 |true=>
  exact r H0 B H' σ f R D l g (by grind) (e.from f1)
 |false=>
  exact hq H0 B H' σ f R D l g (by grind) (e.from f1)
noncomputable def HI(i:Nat):PTW:=λγ R _=>match γ[i]? with
 |some (some<|.own<|.lsA x f)=>∃d,f[f.length-1]?=some d/\R (γ.set i<|some<|.own<|.lsA x f.dropLast) d
 |some (some<|.own<|.lst f)=>∃d,f[f.length-1]?=some d/\R (γ.set i<|some<|.own<|.lst f.dropLast) d
 |_=>False
def Lf(i:Nat):P3 K mg E (Bs K "list" AB<|KE i) (HI i):=by
 intro H0 B H σ γ R X Q L f h q J;unfold HI at h;split at h
 ·rename_i x C n;obtain⟨d,z,h⟩:=h;obtain⟨v,l,b,rfl,w,rfl,us,o,g⟩:=f.slot i _ n;obtain⟨u,s,r⟩:=g.get z;refine⟨_,l,.inl ⟨rfl,us,SqL.of o⟩,b,us,u,rfl,rfl,o,by rw[g.len];exact s,?_⟩;obtain⟨A,p⟩:=f.mutate (es:=.lsA b C.dropLast) (us:=.lst us.dropLast) n l trivial λF H' G y=>⟨rfl,_,y,Rps.mono G (Rps.dropLast g)⟩;exact q _ _ _ _ h A p (Rp.mono p.off r)
 ·rename_i C n;obtain⟨d,z,h⟩:=h;obtain⟨v,l,b,rfl,w,us,o,g⟩:=f.slot i _ n;obtain⟨u,s,r⟩:=g.get z;refine⟨_,l,.inl ⟨rfl,us,SqL.of o⟩,b,us,u,rfl,rfl,o,by rw[g.len];exact s,?_⟩;obtain⟨A,p⟩:=f.mutate (es:=.lst C.dropLast) (us:=.lst us.dropLast) n l trivial λF H' G y=>⟨_,y,Rps.mono G (Rps.dropLast g)⟩;exact q _ _ _ _ h A p (Rp.mono p.off r)
 ·grind
noncomputable def Zn1(w:PTW)(k:Int):PTW:=λγ R X=>w γ (λf d=>match d with | .tup g=>∃e,atI g k=some e/\R f e|_=>False) X
def Zpd(hw:P3 K mg E te w):P3 K mg E (tOp (λx y H Q=>Sg K x y H Q\/SQ K x y H Q) te<|tC<|.int k) (Zn1 w k):=by
 intro H0 B H σ γ R X Q G g h q s;refine hw H0 B H σ γ _ _ _ G g h (λl d v H' f J f1 p=>?_) s;split at f
 ·rename_i L;obtain⟨e,A,f⟩:=f;obtain⟨a,n,rfl,C,r⟩:=Rp.tup_inv p;obtain⟨u,z,o⟩:=r.at A;exact .inr ⟨a,n,k,u,rfl,rfl,SqT.of (off_sub _ _ C),z,q _ _ _ _ f J f1 o⟩
 ·grind
abbrev Pq:=List S->(S->Prop)->(Str->Prop)->Prop
noncomputable def spS(mg:Yi)(c:Pq)(K:Ye):Sp:=λg H Q E=>∃(f:List S) (B:Addr->Prop) (R:S->Prop) (X:Str->Prop),(∀b,B b->Mut (H b))/\TVs K B H H H f g/\(∀s∈f,s.flat)/\c f R X/\
 (∀s v H',R s->Same H H'->TV K B H H H' s v->Q v H')/\∀e H',X e->Same H H'->XE mg E e H'
noncomputable def N8(N:Yn)(f:List S):Γ:=f.map some++List.replicate (N.length-f.length) none
def Zc8{f us}(C:∀b,B b->Mut (H b))(r:TVs K B H H H f us)(w:∀s∈f,s.flat)(L:f.length<=N.length):Xz K H B H (start N us) (N8 N f):=by
 have get:∀i s,(N8 N f)[i]?=some (some s)->f[i]?=some s:=λi s h=>by
  unfold N8 at h;by_cases l:i<f.length
  ·rw[Qw (by rw[WL];exact l),WX,WJ l]at h;rw[WJ l];exact QA some (Qb<|Qb h)
  ·grind
 have noown:∀(i:Nat) g,(N8 N f)[i]?≠some (some<|.own g):=λi g h=>w _ (Qj<|get i _ h)
 have A:∀b,zof B (N8 N f) (start N us) b->B b:=λb z=>by
  rcases z with z|⟨i,g,T,n,Q,M⟩
  ·exact z
  ·exact absurd n (noown i g)
 refine⟨Same.refl _,?_,C,λi j x J g G b n _ _ _ _ _=>absurd n (noown i g),λi s h=>?_⟩
 ·unfold L2.start N8;simp[r.len]
 ·have u:=get i s h;obtain⟨v,p,o⟩:=r.get u;refine⟨v,?_,?_⟩
  ·unfold L2.start;rw[Qw (by rw[WL];exact(Qg.mp p).1),WX,p];rfl
  ·have:=w s (Qj u)
   cases s with
   |bor d=>exact o
   |sh d=>exact Rp.mono (XA (Same.refl _) λb _ _ z y=>z (A b y)) o
   |_=>exact this.elim
def Zhy{t p vs Q C n}(h:spS mg c K vs H Q C)(u:X7 K mg (λ_=>C) t p)(U:n<=N.length)(w:∀f R X,c f R X->f.length=n/\p {nx:=λ_=>R (.sh .non),rt:=R,ex:=λ_ e=>X e} (N8 N f)):t {nx:=λ_ H'=>Q .non H',rt:=Q} (start N vs) H:=by
 obtain⟨f,B,R,X,A,r,J,L,y,M⟩:=h;obtain⟨e,w⟩:=w f R X L;exact u H B H _ _ _ _ (λb z=>Nd (A b z)) (Zc8 A r J<|by lia) w ⟨λl o H' g x f1=>y _ _ H' g x.same .non,λs v H' g T G=>y s v H' g T G,λl o c H' g x f1=>M c H' g x.same,λ_ _ _ z=>z.elim,λ_ _ _ z=>z.elim,λ_ _ _ _ _ z=>z.elim⟩
def Zg6(h:spS mg c K vs H Q o)(g:∀f R X,c f R X->f.length=n):vs.length=n:=by
 obtain⟨f,B,R,X,_,r,_,l,_⟩:=h;rw[r.len]
 grind
def TV.backS (env:Xz K H0 B H1 σ γ) (o:Same H H1) (f:Same H1 H') (h:TV K (zof B γ σ) H1 H1 H' s v):TV K (zof B γ σ) H0 H H' s.back v:=by
 cases s with
 |bor d=>exact T7 (λb z=>Tg f (env.zm b z)) (Rp.mono f h)
 |own n=>
  obtain⟨a,rfl,l,r⟩:=h;exact⟨a,rfl,(λb g=>o.free (l b g)),r⟩
 |view n=>
  obtain⟨a,rfl,r⟩:=h;exact r.rp off_sub
 |_=>exact h
def TV.passS {v} (env:Xz K H0 B H1 σ γ) (g:∀b,zof B γ σ b->Mut (H b)) (n:Same H H1) (h:TV K (zof B γ σ) H0 H H1 s v) (e:s.pass=some f):TV K (zof B γ σ) H1 H1 H1 f v:=by
 have shd:∀d,s.shd=some d->Rp K (off (zof B γ σ) H1) d v:=λd l=>h.shd env.same g n l;cases s with
 |view o=>cases e
 |tmp d=>
  unfold S.pass at e;cases q:imm d with
  |false=>simp_all
  |true=>simp[q]at e;subst e;exact shd d (by unfold S.shd;simp[q])
 |bor d=>
  unfold S.pass at e;cases q:imm d with
  |false=>simp[q]at e;subst e;exact Rp.mono env.same h
  |true=>simp[q]at e;subst e;exact shd d (by unfold S.shd;simp[q])
 |_=>cases e;exact shd _ rfl
theorem TVs.passS (env:Xz K H0 B H1 σ γ) (l:∀b,zof B γ σ b->Mut (H b)) (n:Same H H1):∀{g f}{vs:List V},TVs K (zof B γ σ) H0 H H1 g vs->passes g=some f->TVs K (zof B γ σ) H1 H1 H1 f vs
 |_,_,_,.nil,e=>by cases e;exact .nil
 |_,_,_,.cons h r,e=>by
  unfold passes at e;split at e
  ·rename_i s u p o;cases e
   exact .cons (h.passS env l n p) (TVs.passS env l n r o)
  ·grind
noncomputable def Zm1(c:Pq)(r:PTA):PTE:=λγ R X=>r γ (λg=>match passes g with|some f=>c f (λs=>R s.back) (λ_=>False)|none=>False) X
def DN{n r}(G:XI K mg E n r):Xu K mg E (N0 (spS mg c K) [] E0 n) (Zm1 c r):=by
 intro H0 B H σ γ R X Q g p q A;refine G H0 B H σ γ _ X _ g p (λL J H1 o h y=>?_) A;rw[Q8];have f:=g.grow h;split at o
 ·rename_i l u;exact⟨l,zof B γ σ,_,_,f.zm,y.passS f g.zm h u,BN u,o,λs v H' C w x=>q _ _ H' C (h.trans w) (x.backS f h w),λ_ _ z=>z.elim⟩
 ·grind
noncomputable def Zst(a:PTE)(l u:PTO):PTE:=λγ R X=>a γ (λs=>l γ (λlo=>u γ (λf=>match s.d with | .lst g=>R (.tmp<|.lst<|cutD g lo f)|_=>False) X) X) X
noncomputable def Zlf(a:PTE)(l u:PTO):PTI:=λγ R X=>a γ (λs=>l γ (λlo=>u γ (λf=>match s with
 | .bor d=>(match d.strip with | .lst g=>R (cutD g lo f).length (λi=>arg ((cutD g lo f).getD i .non))|_=>False)
 |_=>False) X) X) X
def Zb9{a l u}(ha:Xu K mg E te a)(hl:T6 K mg E tl l)(hu:T6 K mg E th u):SL K mg E (B0 K<|tSl (SJ K) te tl th) (Zlf a l u):=by
 intro H0 B H σ γ R X Q f p q C;refine ha H0 B H σ γ _ X _ f p (λx v H1 h1 o s=>?_) C;refine hl H0 B H1 σ γ _ X _ (f.grow o) h1 (λlo H2 h2 L=>?_) λc H' J M=>C c H' J (o.trans M);refine hu H0 B H2 σ γ _ X _ ((f.grow o).grow L) h2 (λg U h S3=>?_) λc H' J M=>C c H' J ((o.trans L).trans M);have n:=(o.trans L).trans S3;split at h
 ·rename_i d;split at h
  ·rename_i w ed;have s:=Rp.strip s;rw[ed]at s;obtain⟨b,A,rfl,hb,r⟩:=Rp.lst_inv s;refine⟨b,A,rfl,SqL.of ((f.grow n).same _ _ hb),λm nm=>?_⟩;have S4:Same U (upd U m<|.lst<|Ni A lo g):=Ki nm;have N:Rps K H0 (cutD w lo g) (Ni A lo g):=r.cut;refine⟨m,rfl,⟨_,SqL.of XG⟩,q _ _ _ _ h (n.trans S4) ⟨λi H' Z' G z lt=>?_,λH' Z' z lt=>⟨_,SqL.of (z _ _ XG),by rw[N.len];exact WU _⟩⟩⟩;have hd:(cutD w lo g)[i]?=some ((cutD w lo g).getD i .non):=by rw[WV,WJ G];rfl
   obtain⟨u,T,h5⟩:=N.get hd;have Y:TV K Z' H0 H' H' (arg ((cutD w lo g).getD i .non)) u:=NG lt.2.1 lt.1 h5;refine⟨⟨_,u,SqL.of (z _ _ XG),T⟩,λx H'' y=>?_⟩;obtain⟨rfl,y⟩:=y
   have:=y _ (SqL.of<|z _ _ XG)
   rw[T]at this;cases this
   exact⟨Same.refl _,Y⟩
  ·exact h.elim
 ·exact h.elim
def Zaz{n:Type}{φ}{γ}{g}{c}{e}{R}{xs:List n}{emb}(f:n->Option D)(u:xs.length<=100000)(turn:∀x∈xs,g (arg<|emb x) (atP φ γ) λh=>c h (λb=>if b=true then e h (λs=>∃d,s.shd=some d/\f x=some d) (λ_=>False)else f x=none) λ_=>False)(done:R (.own<|xs.filterMap f)) :
  BW φ γ g c e (xs.map emb).length (λi=>arg ((xs.map emb).getD i .non)) R:=by
 refine⟨⟨by rw[WL];exact u,λi=>(xs[i]?).bind f,λi v=>?_,?_⟩⟩
 ·simp_all
 ·have:(List.range (xs.map emb).length).filterMap (λi=>(xs[i]?).bind f)=xs.filterMap f:=by
   rw[WL]
   have o:∀l:List n,(List.range l.length).filterMap (λi=>(l[i]?).bind f)=l.filterMap f:=λl=>by
    induction l with
    |nil=>rfl
    |cons x r p=>
     rw[Qe,List.range_succ_eq_map,QZ,List.filterMap_map,QZ];simp only[List.getElem?_cons_zero,Option.bind_some];have e:((λi=>((x::r)[i]?).bind f)∘Nat.succ)=λi=>(r[i]?).bind f:=rfl;rw[e,p]
   exact o xs
  grind
noncomputable def Zh5(a:PTE)(l u:PTO):PTE:=λγ R X=>a γ (λs=>l γ (λlo=>u γ (λg=>match s.d with | .scr f=>R (.own ((cutD f lo g).map D.int))|_=>False) X) X) X
def Ot(ns:Yg)(lo f:Option Int):Ni (ns.map V.int) lo f=(cutD ns lo f).map V.int:=by
 unfold Ni cutD;simp
def Zqn{a l u}(T:Xu K mg E te a)(M:T6 K mg E C l)(L:T6 K mg E G u):Xu K mg E (tSl (SJ K) te C G) (Zh5 a l u):=by
 intro H0 B H σ γ R X Q f p q o;refine T H0 B H σ γ _ X _ f p (λx v H1 Y h J=>?_) o;refine M H0 B H1 σ γ _ X _ (f.grow h) Y (λlo H2 U n=>?_) λc H' r s=>o c H' r (h.trans s);refine L H0 B H2 σ γ _ X _ ((f.grow h).grow n) U (λhi H3 z A=>?_) λc H' r s=>o c H' r ((h.trans n).trans s);have g:=(h.trans n).trans A;split at z
 ·rename_i ns e;have w:=(J.grow<|n.trans A).rp (f.grow g).same;rw[e]at w;obtain⟨b,rfl,N⟩:=w.scr_inv;refine⟨b,_,rfl,N,λm y=>?_⟩;rw[Ot];exact q _ _ _ z (g.trans<|Ki y) (N5 g y<|Rps.of_ints _)
 ·grind
end
open M
inductive Dd where
 |sell (p h:Int)|part (p w:Int)|unite (p:Int)|wish (a b:Int)|drop (a b:Int)
noncomputable def Dd.q:Dd->Str×Yg
 | .sell p h=>("sell",[p,h]) | .part p w=>("part",[p,w]) | .unite p=>("unite",[p]) | .wish a b=>("wish",[a,b]) | .drop a b=>("drop",[a,b])
noncomputable def Dd.land:Dd->Bool
 | .sell _ _=>true | .part _ _=>true | .unite _=>true|_=>false
noncomputable def Dd.err (f w:Yf):Dd->Option Str
 | .sell p h=>Pb f p h | .part p v=>K4 f p v | .unite p=>Kn f p | .wish a b=>Kk w a b | .drop a b=>K0 w a b
noncomputable def Dd.fld (f:Yf):Dd->Yf
 | .sell p h=>TY f p h | .part p v=>Tn f p v | .unite p=>Tc f p|_=>f
noncomputable def Dd.wsh (w:Yf):Dd->Yf
 | .wish a b=>w++[(a,b)] | .drop a b=>Sv w a b|_=>w
noncomputable def codeN:Option Str->Int
 |none=>0
 |some c=>if c=("NoStrip" : Str)then 1 else if c=("BadHolder" : Str)then 2 else if c=("OwnStrip" : Str)then 3 else if c=("BadPart" : Str)then 4 else if c=("TooManyStrips" : Str)then 5 else if c=("UnlikeHolders" : Str)then 6 else if c=("TooWide" : Str)then 7 else if c=("LikeHolders" : Str)then 8 else if c=("WishStands" : Str)then 9 else if c=("TooManyWishes" : Str)then 10 else 11
def Cb:codeN (some "NoStrip")=1:=rfl
def Fl:codeN (some "BadHolder")=2:=rfl
def R5:codeN (some "OwnStrip")=3:=rfl
def Dr:codeN (some "BadPart")=4:=rfl
def Zaf:codeN (some "TooManyStrips")=5:=rfl
def OI:codeN (some "UnlikeHolders")=6:=rfl
def Mz:codeN (some "TooWide")=7:=rfl
def Ia:codeN (some "LikeHolders")=8:=rfl
def LI:codeN (some "WishStands")=9:=rfl
def LZ:codeN (some "TooManyWishes")=10:=rfl
def Ii:codeN (some "NoWish")=11:=rfl
noncomputable def Dd.fld' (f:Yf) (x:Dd):Yf:=if x.err f []=none then x.fld f else f
noncomputable def Dd.wsh' (w:Yf) (x:Dd):Yf:=if x.err [] w=none then x.wsh w else w
noncomputable def Dd.nf (f w:Yf) (x:Dd):Yf:=if x.err f w=none then x.fld f else f
noncomputable def Dd.nw (f w:Yf) (x:Dd):Yf:=if x.err f w=none then x.wsh w else w
def Dd.err_land {x:Dd} (h:x.land=true) (f w u:Yf):x.err f w=x.err f u:=by
 cases x<;>first|rfl|cases h
def Dd.err_wish {x:Dd} (h:x.land=false) (f g w:Yf):x.err f w=x.err g w:=by
 cases x<;>first|rfl|cases h
def Dd.err_cases (f w : Yf) (x : Dd) : x.err f w = none ∨ x.err f w = some ("NoStrip" : Str) ∨ x.err f w = some ("BadHolder" : Str) ∨ x.err f w = some ("OwnStrip" : Str) ∨ x.err f w = some ("BadPart" : Str) ∨ x.err f w = some ("TooManyStrips" : Str) ∨ x.err f w = some ("UnlikeHolders" : Str) ∨ x.err f w = some ("TooWide" : Str) ∨ x.err f w = some ("LikeHolders" : Str) ∨ x.err f w = some ("WishStands" : Str) ∨ x.err f w = some ("TooManyWishes" : Str) ∨ x.err f w = some ("NoWish" : Str) := by
  cases x with
  | sell p h => show Pb f p h = _ ∨ Pb f p h = _ ∨ Pb f p h = _ ∨ Pb f p h = _ ∨ _; unfold Pb; repeat' split
                all_goals simp
  | part p h => show K4 f p h = _ ∨ K4 f p h = _ ∨ K4 f p h = _ ∨ K4 f p h = _ ∨ K4 f p h = _ ∨ K4 f p h = _ ∨ _; unfold K4; repeat' split
                all_goals simp
  | unite p => show Kn f p = _ ∨ Kn f p = _ ∨ Kn f p = _ ∨ Kn f p = _ ∨ Kn f p = _ ∨ Kn f p = _ ∨ Kn f p = _ ∨ Kn f p = _ ∨ _; unfold Kn; repeat' split
               all_goals simp
  | wish a b => show Kk w a b = _ ∨ Kk w a b = _ ∨ Kk w a b = _ ∨ Kk w a b = _ ∨ Kk w a b = _ ∨ Kk w a b = _ ∨ Kk w a b = _ ∨ Kk w a b = _ ∨ Kk w a b = _ ∨ Kk w a b = _ ∨ Kk w a b = _ ∨ _; unfold Kk; repeat' split
                all_goals simp
  | drop a b => show K0 w a b = _ ∨ K0 w a b = _ ∨ K0 w a b = _ ∨ K0 w a b = _ ∨ K0 w a b = _ ∨ K0 w a b = _ ∨ K0 w a b = _ ∨ K0 w a b = _ ∨ K0 w a b = _ ∨ K0 w a b = _ ∨ K0 w a b = _ ∨ K0 w a b = _; unfold K0; repeat' split
                all_goals simp
abbrev Kc:=List (Dd×Yf×Yf)
noncomputable def bkH(f:Kc):List (Str×Yg):=f.map λh=>h.1.q
noncomputable def fsH(f0:Yf)(f:Kc):List (Yf):=f0::f.map λh=>h.2.1
noncomputable def wsH(f:Kc):List (Yf):=[]::f.map λh=>h.2.2
noncomputable def Su(h:Dd×Yf×Yf):D:=.tup [plD h.2.1,plD h.2.2,dD h.1.q]
noncomputable def Zmh(f0:Yf):D:=.tup [plD f0,.lst [],.tup []]
noncomputable def XB(f0:Yf)(f:Kc):List D:=Zmh f0::f.map Su
noncomputable def Kd(f0:Yf)(f:Kc):Yf:=match f.getLast? with|some h=>h.2.1|none=>f0
noncomputable def Kf(f:Kc):Yf:=match f.getLast? with|some h=>h.2.2|none=>[]
def Fm(f0:Yf)(f:Kc):∃fs,fsH f0 f=fs++[Kd f0 f]/\fs.length=f.length:=by
 unfold fsH Kd;rcases Vd f with rfl|⟨h,x,rfl⟩
 ·exact⟨[],rfl,rfl⟩
 ·refine⟨f0::h.map λh=>h.2.1,?_,by simp⟩;simp
def Ak(f:Kc):∃g,wsH f=g++[Kf f]/\g.length=f.length:=by
 unfold wsH Kf;rcases Vd f with rfl|⟨h,x,rfl⟩
 ·exact⟨[],rfl,rfl⟩
 ·refine⟨[]::h.map λh=>h.2.2,?_,by simp⟩;simp
def Am(f0:Yf)(g:Kc):∃d,atI (XB f0 g) (-1)=some (.tup [plD (Kd f0 g),plD (Kf g),d]):=by
 have f:∀l (x:D),l≠[]->l[l.length-1]?=some x->atI l (-1)=some x:=λl x n h=>by
  have o:=VI.mpr n;unfold atI ixN;rw[WS (by lia),WT (by lia)];show l[_]?=_;rw[show((-1:Int)+(l.length:Int)).toNat=l.length-1 by lia];lia
 unfold XB Kd Kf;rcases Vd g with rfl|⟨h,x,rfl⟩
 ·exact⟨.tup [],f _ _ (by simp) rfl⟩
 ·refine⟨dD x.1.q,f _ _ (by simp) ?_⟩;rw[V2,JH,Qe,WL,WW,Vc,Vz,Q6,Qd,Qy (by simp),WL,Nat.sub_self];rfl
def Bf(f:Kc)(h:Dd×Yf×Yf):bkH (f++[h])=bkH f++[h.1.q]:=by unfold bkH;rw[Qd];rfl
def Bp(f0:Yf)(f:Kc)(h:Dd×Yf×Yf):fsH f0 (f++[h])=fsH f0 f++[h.2.1]:=by unfold fsH;rw[Qd];rfl
def Bb(f:Kc)(h:Dd×Yf×Yf):wsH (f++[h])=wsH f++[h.2.2]:=by unfold wsH;rw[Qd];rfl
def B3(f0:Yf)(f:Kc)(h:Dd×Yf×Yf):XB f0 (f++[h])=XB f0 f++[Su h]:=by unfold XB;rw[Qd];rfl
def Nh(f:Kc):(bkH f).length=f.length:=WL ..
def AD(f0:Yf)(f:Kc):(fsH f0 f).length=f.length+1:=by unfold fsH;rw[Qe,WL]
def Dz(f:Kc):(wsH f).length=f.length+1:=by unfold wsH;rw[Qe,WL]
def PZ(f0:Yf)(f:Kc):(XB f0 f).length=f.length+1:=by unfold XB;rw[Qe,WL]
def Dd.q_len (x:Dd):x.q.2.length<=2:=by cases x<;>simp[Dd.q]
end Pu
namespace Pu
@[irreducible] def mixP (c k:Int):Int:=((c % 2147483647+7919*k+1)*48271 % 2147483647+104729*k+11)*69621 % 2147483647
open L2 M Own PyProof.Rows PySem PySem.Spec
def Dd.fld_ok {d:Dd} (g:Field f) (o:f.length<=40) (e:d.err f w=none):Field (d.fld f)/\(d.fld f).length<=40:=by
 cases d with
 |sell p h=>exact⟨Zgv g e,by rw[show(Dd.sell p h).fld f=TY f p h from rfl,Zn2];exact o⟩
 |part p v=>
  have e:K4 f p v=none:=e;rcases Zcu f p v with⟨z,_⟩|⟨z,_⟩|⟨z,_⟩|⟨_,_,n,l,s,r,u⟩
  ·grind
  ·rw[e]at z;cases z
  ·rw[e]at z;cases z
  ·exact⟨Zkz g n l s r,by rw[show(Dd.part p v).fld f=Tn f p v from rfl,Zft n l];lia⟩
 |unite p=>
  have e:Kn f p=none:=e;rcases Zg5 f p with⟨z,_⟩|⟨z,_⟩|⟨z,_⟩|⟨_,_,n,l⟩
  ·rw[e]at z;cases z
  ·rw[e]at z;cases z
  ·rw[e]at z;cases z
  ·exact⟨Zro g e,by rw[show(Dd.unite p).fld f=Tc f p from rfl];have:=Zpg n l;lia⟩
 |_=>exact⟨g,o⟩
def Dd.wsh_ok {f w}{d:Dd} (g:T4 w) (e:d.err f w=none):T4 (d.wsh w):=by
 cases d with
 |wish a b=>exact Zik g e
 |drop a b=>exact Zjf g
 |_=>trivial
def FineH(f0:Yf)(f:Kc):Prop:=(∀g∈fsH f0 f,Field g/\g.length<=40)/\∀g∈wsH f,T4 g
def FineH.cur (h:FineH f0 f):(Field (Kd f0 f)/\(Kd f0 f).length<=40)/\T4 (Kf f):=by
 obtain⟨fs,n,_⟩:=Fm f0 f;obtain⟨g,l,_⟩:=Ak f;exact⟨h.1 _ (by grind),h.2 _ (by grind)⟩
def FineH.nil (l:Field f0) (h:f0.length<=40):FineH f0 []:=
 ⟨λg f=>by rw[show fsH f0 []=[f0]from rfl,WQ]at f;subst f;exact⟨l,h⟩,λg f=>by rw[show wsH []=[[]]from rfl,WQ]at f;subst f;exact Zfz⟩
def FineH.snoc (h:FineH f0 l) (o:Field x.2.1/\x.2.1.length<=40) (n:T4 x.2.2):FineH f0 (l++[x]):=
 ⟨λg f=>by rw[Bp]at f;rcases Qh.mp f with f|f;{exact h.1 g f};{rw[WQ]at f;subst f;exact o},λg f=>by rw[Bb]at f;rcases Qh.mp f with f|f;{exact h.2 g f};{rw[WQ]at f;subst f;exact n}⟩
def FineH.init (h:FineH f0 (l++[x])):FineH f0 l:=
 ⟨λg f=>h.1 g (by rw[Bp];exact QU _ f),λg f=>h.2 g (by rw[Bb];exact QU _ f)⟩
def FineH.back (h:FineH f0 f):FineH f0 f.dropLast:=by
 rcases Vd f with rfl|⟨l,x,rfl⟩
 ·grind
 ·rw[V2]at h ⊢;rw[QG];exact h.init
noncomputable def P8(f0:Yf)(f:Kc)(d:Dd):Kc:=if d.err (Kd f0 f) (Kf f)=none then f++[(d,d.fld (Kd f0 f),d.wsh (Kf f))]else f
def MK(f0:Yf)(f:Kc)(d:Dd):(P8 f0 f d).length<=f.length+1:=by
 unfold P8;split
 ·simp
 ·simp
def FineH.add (h:FineH f0 f) (d:Dd):FineH f0 (P8 f0 f d):=by
 unfold P8;split
 ·rename_i e;obtain⟨⟨n,l⟩,g⟩:=h.cur;exact h.snoc (Dd.fld_ok n l e) (Dd.wsh_ok g e)
 ·lia
def FineH.len (h:FineH f0 l):(∀g∈fsH f0 l,g.length<=1000)/\∀g∈wsH l,g.length<=1000:=⟨λg f=>by have:=(h.1 g f).2;lia,λg f=>by have:=(h.2 g f).1;lia⟩
def Dd.code_pos {x:Dd} (h:¬x.err f w=none):0<codeN (x.err f w):=by
 rcases x.err_cases f w with e|e|e|e|e|e|e|e|e|e|e|e<;>rw[e]at h ⊢
 ·grind
 ·trivial
 ·rw[Fl];decide
 ·rw[R5];decide
 ·rw[Dr];decide
 ·rw[Zaf];decide
 ·rw[OI];decide
 ·rw[Mz];decide
 ·rw[Ia];decide
 ·rw[LI];decide
 ·rw[LZ];decide
 ·rw[Ii];decide
def Dd.not_back (d:Dd):¬d.q.1=("back" : Str):=by
 cases d with
 |sell p h=>exact(by decide +kernel:¬("sell" : Str) = "back")
 |part p h=>exact(by decide +kernel:¬("part" : Str) = "back")
 |unite p=>exact(by decide +kernel:¬("unite" : Str) = "back")
 |wish p h=>exact(by decide +kernel:¬("wish" : Str) = "back")
 |drop p h=>exact(by decide +kernel:¬("drop" : Str) = "back")
def Zf1(f:Kc)(x:Dd×Yf×Yf):Kf (f++[x])=x.2.2:=by unfold Kf;rw[JH]
def Znz(f0:Yf)(f:Kc)(x:Dd×Yf×Yf):Kd f0 (f++[x])=x.2.1:=by unfold Kd;rw[JH]
def Zjz(n:Nn m){v}(h:1<=v/\v<=10):Nn (m.set 0 v):=by
 obtain⟨a,b,c,d,e,rfl,o,l,g,hd,f⟩:=n;exact⟨v,b,c,d,e,rfl,h,l,g,hd,f⟩
def TabV.uniq {S vs us} (h:TabV l c S vs) (k:TabV l c S us):vs=us:=by
 refine List.ext_getElem (by rw[h.1,k.1]) λi g n=>?_;have f:i<S.length:=by rw[←h.1];exact g
 exact(h.2 i S[i] vs[i] (WJ f) (WJ g)).uniq (k.2 i S[i] us[i] (WJ f) (WJ n))
end Pu
namespace Own
open L2
section
variable {prog:Program}{w:World}{A:Around}{E:Yj}{s:Shared}{l:Addr}{xs:Array (Int×Tok)}
def Zpq(y:A.handled=none)(r:s.heap.IsTuple l (intItems xs))(n:0<xs.size)(h:∀v f g,(intItems xs)[argBest (λi j=>decide (numAt xs i<numAt xs j)) (xs.size-1)]?=some v->(∀b o,s.heap.get? b=some o->f.get? b=some o)->Q v {s with heap:=f,toks:=g}) :
  wpAny (model prog w) A (call (.builtin "min") [.ref l]) Q E s:=by
 have p:l<s.heap.objs.size:=by obtain⟨_,e,_⟩:=r;exact WY e
 refine call_min_walk (wpAny_pyIter_tuple r ?_);refine⟨_,[_,l],[_],_,_,_,_,rfl,Walks.tuple (A:=A.in1) y _ l (Qo p) (intItems xs),⟨⟨_,Qc _ rfl,rfl,rfl⟩,r.push _⟩,λc u=>?_,by simpa [intItems]using n,CmpOf.ints_lt (numAt xs) (λ_ _=>intItems_at),λv f g z x=>?_⟩
 ·show c<(s.heap.push _).objs.size;rw[Vs];rcases Qa.mp u with rfl|u
  ·exact VB _
  ·grind
 ·refine h v f g (by simpa [intItems]using z) λb o e=>x b o (λhm=>?_) (WO _ e);rcases Qa.mp hm with B|hm
  ·exact absurd (B▸WY e) (QW _)
  ·cases hm
def Zfd(y:A.handled=none)(r:s.heap.IsTuple l (intItems xs))(n:0<xs.size)(h:∀v f g,(intItems xs)[argBest (λi j=>decide (numAt xs i>numAt xs j)) (xs.size-1)]?=some v->(∀b o,s.heap.get? b=some o->f.get? b=some o)->Q v {s with heap:=f,toks:=g}) :
  wpAny (model prog w) A (call (.builtin "max") [.ref l]) Q E s:=by
 have p:l<s.heap.objs.size:=by obtain⟨_,e,_⟩:=r;exact WY e
 refine call_max_walk (wpAny_pyIter_tuple r ?_);refine⟨_,[_,l],[_],_,_,_,_,rfl,Walks.tuple (A:=A.in1) y _ l (Qo p) (intItems xs),⟨⟨_,Qc _ rfl,rfl,rfl⟩,r.push _⟩,λc u=>?_,by simpa [intItems]using n,CmpOf.ints_gt (numAt xs) (λ_ _=>intItems_at),λv f g z x=>?_⟩
 ·show c<(s.heap.push _).objs.size;rw[Vs];rcases Qa.mp u with rfl|u
  ·exact VB _
  ·grind
 ·refine h v f g (by simpa [intItems]using z) λb o e=>x b o (λhm=>?_) (WO _ e);rcases Qa.mp hm with B|hm
  ·exact absurd (B▸WY e) (QW _)
  ·cases hm
end
section
variable {X:Cx}{K:Ye}
def Zem(E:X.calm=true)(L:autoParam (X.K=K) au_0):Kv X (.builtin "min") (λxs H Q=>∃p a b,xs=[.ref p]/\SqT K H p [.int a,.int b]/\Q (.int (if b<a then b else a)) H):=by
 subst L;intro pins s M H xs N Q I w h;obtain⟨p,a,b,rfl,G,q⟩:=h;obtain⟨u,rfl,x⟩:=w.one;obtain rfl:=x;obtain⟨B,r,A,_⟩:=I.tuple G;cases r with
 |cons z r=>
  cases r with
  |cons y r=>
   cases r
   obtain⟨g,rfl⟩:=z;obtain⟨f,rfl⟩:=y;have C:s.heap.IsTuple p (intItems #[(a,g),(b,f)]):=by have this:s.heap.IsTuple p _:=A;simpa [intItems]using this
   refine Zpq (I.ok.hd E) C (by simp) λv U T J o=>?_;have n:(intItems #[(a,g),(b,f)])[argBest (λi j=>decide (numAt #[(a,g),(b,f)] i<numAt #[(a,g),(b,f)] j)) 1]?=some v:=J;by_cases l:b<a
   ·have e:argBest (λi j=>decide (numAt #[(a,g),(b,f)] i<numAt #[(a,g),(b,f)] j)) 1=1:=by simp[argBest,numAt,l]
    rw[e]at n;obtain rfl:Value.int b f=v:=by simpa [intItems]using n
    rw[WT l]at q;exact⟨.int b,H,I.kept o,⟨_,rfl⟩,q⟩
   ·have e:argBest (λi j=>decide (numAt #[(a,g),(b,f)] i<numAt #[(a,g),(b,f)] j)) 1=0:=by simp[argBest,numAt,l]
    rw[e]at n;obtain rfl:Value.int a g=v:=by simpa [intItems]using n
    rw[WS l]at q;exact⟨.int a,H,I.kept o,⟨_,rfl⟩,q⟩
def Zcv(E:X.calm=true)(L:autoParam (X.K=K) au_0):Kv X (.builtin "max") (λxs H Q=>∃p a b,xs=[.ref p]/\SqT K H p [.int a,.int b]/\Q (.int (if b>a then b else a)) H):=by
 subst L;intro pins s M H xs N Q I w h;obtain⟨p,a,b,rfl,G,q⟩:=h;obtain⟨u,rfl,x⟩:=w.one;obtain rfl:=x;obtain⟨B,r,A,_⟩:=I.tuple G;cases r with
 |cons z r=>
  cases r with
  |cons y r=>
   cases r
   obtain⟨g,rfl⟩:=z;obtain⟨f,rfl⟩:=y;have C:s.heap.IsTuple p (intItems #[(a,g),(b,f)]):=by have this:s.heap.IsTuple p _:=A;simpa [intItems]using this
   refine Zfd (I.ok.hd E) C (by simp) λv U T J o=>?_;have n:(intItems #[(a,g),(b,f)])[argBest (λi j=>decide (numAt #[(a,g),(b,f)] i>numAt #[(a,g),(b,f)] j)) 1]?=some v:=J;by_cases l:b>a
   ·have e:argBest (λi j=>decide (numAt #[(a,g),(b,f)] i>numAt #[(a,g),(b,f)] j)) 1=1:=by simp[argBest,numAt,l]
    rw[e]at n;obtain rfl:Value.int b f=v:=by simpa [intItems]using n
    rw[WT l]at q;exact⟨.int b,H,I.kept o,⟨_,rfl⟩,q⟩
   ·have e:argBest (λi j=>decide (numAt #[(a,g),(b,f)] i>numAt #[(a,g),(b,f)] j)) 1=0:=by simp[argBest,numAt,l]
    rw[e]at n;obtain rfl:Value.int a g=v:=by simpa [intItems]using n
    rw[WS l]at q;exact⟨.int a,H,I.kept o,⟨_,rfl⟩,q⟩
end
end Own
namespace Pu
open L2 Own
section
variable {K:Ye}{mg:Yi}{E:L2.St->XK}
def LX:List S->(S->Prop)->Prop
 |[s],R=>(match s.d with | .tup [.int a,.int b]=>R (.sh<|.int (if b<a then b else a))|_=>False)
 |_,_=>False
def IG:List S->(S->Prop)->Prop
 |[s],R=>(match s.d with | .tup [.int a,.int b]=>R (.sh<|.int (if b>a then b else a))|_=>False)
 |_,_=>False
def Zay(B:XI K mg E n r):Xu K mg E (tCB (λxs H Q=>∃p a b,xs=[.ref p]/\SqT K H p [.int a,.int b]/\Q (.int (if b<a then b else a)) H) n) (pCB LX r):=by
 refine P6 B λT H C Z L G R Q u M N l h q=>?_;unfold LX at h;split at h
 ·rename_i s;obtain⟨v,rfl,o⟩:=l.one_inv;have f:=o.rp u;split at h
  ·rename_i a b e;rw[e]at f;obtain⟨p,J,rfl,g,w⟩:=Rp.tup_inv f;obtain⟨x,y,rfl,A,z⟩:=w.two_inv;rw[A.int_inv,z.int_inv]at g;exact⟨p,a,b,rfl,SqT.of g,q _ _ C h (Same.refl _) (.int _)⟩
  ·exact h.elim
 ·exact h.elim
def Zsi(B:XI K mg E n r):Xu K mg E (tCB (λxs H Q=>∃p a b,xs=[.ref p]/\SqT K H p [.int a,.int b]/\Q (.int (if b>a then b else a)) H) n) (pCB IG r):=by
 refine P6 B λT H C Z L G R Q u M N l h q=>?_;unfold IG at h;split at h
 ·rename_i s;obtain⟨v,rfl,o⟩:=l.one_inv;have f:=o.rp u;split at h
  ·rename_i a b e;rw[e]at f;obtain⟨p,J,rfl,g,w⟩:=Rp.tup_inv f;obtain⟨x,y,rfl,A,z⟩:=w.two_inv;rw[A.int_inv,z.int_inv]at g;exact⟨p,a,b,rfl,SqT.of g,q _ _ C h (Same.refl _) (.int _)⟩
  ·grind
 ·grind
end
end Pu
namespace M
open L2 Own Pu
noncomputable def ltS(k:Int):Yf->Int
 |[]=>0
 |q::l=>(if q.1<k then q.2 else 0)+ltS k l
noncomputable def NN:Yf->Int
 |[]=>0
 |p::l=>ltS p.1 l*p.2+NN l
theorem RN(k:Int)(a b:Int×Int)(B:Yf):∀A,ltS k (A++a::b::B)=ltS k (A++b::a::B)
 |[]=>by simp only[List.nil_append,ltS];lia
 |q::A=>by simp only[Vt,ltS];rw[RN k a b B A]
theorem GT(a b:Int×Int)(B:Yf):∀A,NN (A++a::b::B)+(if a.1<b.1 then a.2*b.2 else 0)=NN (A++b::a::B)+(if b.1<a.1 then a.2*b.2 else 0)
 |[]=>by
  simp only[List.nil_append,NN,ltS];by_cases f:a.1<b.1
  ·grind
  ·grind
 |q::A=>by
  simp only[Vt,NN];rw[RN q.1 a b B A]
  have:=GT a b B A
  lia
noncomputable def hdN(ps:Yf)(m:Int):Int:=(ps.getD (m-1).toNat (0,0)).1
def Zq2{p}(o:1<=p)(g:p<ns.length):∃A x y B,ns=A++x::y::B/\A.length+1=p/\Pj ns p=A++y::x::B/\ns.getD (p-1) 0=x/\ns.getD p 0=y:=by
 have f:ns.drop (p-1)=ns[p-1]'(by lia)::ns.drop (p-1+1):=QS (by lia);have n:p-1+1=p:=by lia
 rw[n,(QS g)]at f;have l:ns.getD p 0=ns[p]:=by rw[WV,WJ g];rfl
 have h:ns.getD (p-1) 0=ns[p-1]'(by lia):=by grind
 refine⟨ns.take (p-1),ns[p-1]'(by lia),ns[p],ns.drop (p+1),by rw[←f,J4],by rw[Qp];lia,?_,h,l⟩;unfold Pj;rw[l,h];simp
def Zhx{p}(g:1<=p)(f:p<ns.length):(Pj ns p).length=ns.length:=(D1 g f).length_eq
noncomputable def rkN(ps:Yf)(o:Yg)(m:Int):Int:=(o.idxOf (hdN ps m):Nat)
def FW(f:Yg)(p:Nat):Prop:=(∀q,1<=q->q<(if p=0 then f.length else p)->f.getD (q-1) 0<=f.getD q 0)/\(p=0\/(1<=p/\p<f.length/\f.getD p 0<f.getD (p-1) 0))
def FW.uniq (h:FW f p) (k:FW f g):p=g:=by
 have n:∀{a b:Nat},FW f a->FW f b->b≠0->(a=0\/b<a)->False:=λ{a b} s o l r=>by
  obtain⟨u,w,v⟩:=o.2.resolve_left l
  have:=s.1 b u (by grind)
  lia
 by_cases x:p=0
 ·grind
 ·grind
abbrev Mo:=Int×Int×Int×Int
inductive Mv (ps:Yf) (f:Int->Int):Yg->List Mo->Prop
 |done (ns:Yg):FW (ns.map f) 0->Mv ps f ns []
 |step (ns:Yg) (p:Nat) (ms:List Mo):FW (ns.map f) p->p≠0->Mv ps f (Pj ns p) ms->Mv ps f ns (((p:Int),ns.getD (p-1) 0,ns.getD p 0,exM ps ns p)::ms)
def BV{f:Int->Int}{ns:Yg}{i}(h:i<ns.length):(ns.map f).getD i 0=f (ns.getD i 0):=by grind
noncomputable def Pv(f:Int->Int)(ns:Yg):Int:=NN (ns.map λm=>(f m,1))
def R0(f:Int->Int){ns p}(l:1<=p)(g:p<ns.length)(h:f (ns.getD p 0)<f (ns.getD (p-1) 0)):Pv f ns=Pv f (Pj ns p)+1:=by
 obtain⟨A,x,y,B,e,_,o,n,ey⟩:=Zq2 l g;rw[n,ey]at h;rw[o,e];unfold Pv;rw[Qd,Qf,Qf,Qd,Qf,Qf];have k:=GT (f x,1) (f y,1) (B.map λm=>(f m,1)) (A.map λm=>(f m,1));lia
theorem G8(f:Int->Int)(k:Int):∀l:Yg,0<=ltS k (l.map λm=>(f m,1))/\ltS k (l.map λm=>(f m,1))<=l.length
 |[]=>⟨QP 0,QP 0⟩
 |m::l=>by
  have:=G8 f k l
  rw[Qf,Qe];unfold ltS;lia
theorem SR(f:Int->Int):∀l,0<=Pv f l/\Pv f l<=(l.length:Int)*l.length
 |[]=>⟨QP 0,QP 0⟩
 |m::l=>by
  have g:=SR f l;have h:=G8 f (f m) l;unfold Pv at g ⊢;rw[Qf,Qe];unfold NN
  grind
noncomputable def toI:D->Int
 | .int i=>i
 |_=>0
noncomputable def mvN(f:List (Option Pu.S)):Nat:=match f[2]?,f[3]? with
 |some (some<|Pu.S.own<|Pu.O.lst g),some (some<|Pu.S.own<|Pu.O.lst h)=>(Pv (λm=>(g.map toI).getD (m-1).toNat 0)<|h.map toI).toNat
 |_,_=>0
def DU(xs:Yg):(xs.map D.int).map toI=xs:=by
 rw[Q7];exact List.map_id _
end M
namespace Pu
open L2 Own M
noncomputable abbrev mvD(m:Mo):D:=.tup [.int m.1,.int m.2.1,.int m.2.2.1,.int m.2.2.2]
end Pu
namespace M
open L2 Own Pu
def Mv.len (h:Mv ps f ns l):(l.length:Int)<=Pv f ns:=by
 induction h with
 |done ns hw=>exact(SR f ns).1
 |step ns p l o s v u=>
  obtain⟨r,g,n⟩:=o.2.resolve_left s;rw[WL]at g;rw[BV g,BV (by lia)]at n
  have:=R0 f r g n
  grind
end M
namespace Pu
open L2 Own
section
variable {X:Cx}{k j:Nat}{x:Str}{ps:Yn}{sp:Sp}{e a b c:Expr}{es:Yo}{t:TA}{te tf tg:TE}{p pos:Pos}
def fz(C:Callee X.prog X.w X.K X.mg X.base CX0 k x ps sp)(h:X5 j X.A)(r:PA X (e::es) t)(l:autoParam (k<=j) au_1)(n:autoParam (Gl X x) au_0)(g:autoParam ((x==("__debug__" : Str))=false) au_1)(o:autoParam (starEach (e::es) X.env=(false,eval e X.env)::starEach es X.env) au_0)(f:autoParam ((backTo pos<|starEach es X.env).any (·.1)=false) au_0) :
  PE X (.Call (.Name x p) (e::es) [] pos) (N0 sp [] E0 t):=FJ C (h.mono l) Kh r n g o f
def jx(K:Ye)(h:PE X a te)(g:PE X b tf)(l:autoParam (X.K=K) au_0)(f:autoParam (Ei b) au_7):PE X (.Subscript a b pos) (tOp (λx y H Q=>Sg K x y H Q\/SQ K x y H Q) te tf):=LB (Zad l) h g f
def ln(K:Ye)(h:X.mg "len"=none)(o:PE X a te)(r:autoParam (X.K=K) au_0)(l:autoParam (Gl X "len") au_0)(g:autoParam (starEach [a] X.env=(false,eval a X.env)::starEach [] X.env) au_0)(f:autoParam ((backTo pos<|starEach [] X.env).any (·.1)=false) au_0) :
  PE X (.Call (.Name "len" p) [a] [] pos) (tCB (λxs H Q=>∃x n,xs=[x]/\F0 K x H n/\Q (.int (n:Nat)) H)<|Kp te KR):=Ka (Zl6 r) l h PySem.boot_len (Kb o KF g) (by decide) rfl g f
def cq(K:Ye)(f:X5 j X.A)(h:PE X a te)(g:PE X b tf)(l:autoParam (X.K=K) au_0):PT X (.Compare a [.Eq] [b] pos) (Av<|tOp (λx y H Q=>rEq x y H Q\/TN K false x y H Q) te tf):=TJ (BA f.units0 l) h g (Py _)
def cn(K:Ye)(f:X5 j X.A)(h:PE X a te)(g:PE X b tf)(l:autoParam (X.K=K) au_0):PT X (.Compare a [.NotEq] [b] pos) (Av<|tOp (λx y H Q=>rNe x y H Q\/TN K true x y H Q) te tf):=TJ (Zkn f.units0 l) h g (Py _)
def az(f:PE X a te)(g:autoParam (starEach [a] X.env=(false,eval a X.env)::starEach [] X.env) au_0):PA X [a] (Kp te KR):=Kb f KF g
def bz(g:PE X a te)(f:PE X b tf)(l:autoParam (starEach [a,b] X.env=(false,eval a X.env)::starEach [b] X.env) au_0)(h:autoParam (starEach [b] X.env=(false,eval b X.env)::starEach [] X.env) au_0):PA X [a,b] (Kp te<|Kp tf KR):=Kb g (Kb f KF h) l
def dz(h:PE X a te)(g:PE X b tf)(f:PE X c tg)(o:autoParam (starEach [a,b,c] X.env=(false,eval a X.env)::starEach [b,c] X.env) au_0)(n:autoParam (starEach [b,c] X.env=(false,eval b X.env)::starEach [c] X.env) au_0)(l:autoParam (starEach [c] X.env=(false,eval c X.env)::starEach [] X.env) au_0):PA X [a,b,c] (Kp te<|Kp tf<|Kp tg KR):=Kb h (Kb g (Kb f KF l) n) o
end
section
variable {K:Ye}{mg:Yi}{E:L2.St->XK}{ta tb tc:TE}{a b c:PTE}
def sz(f:Xu K mg E ta a):XI K mg E (Kp ta KR) (Pn a Nk):=K6 f XF
def tz(g:Xu K mg E ta a)(f:Xu K mg E tb b):XI K mg E (Kp ta<|Kp tb KR) (Pn a<|Pn b Nk):=K6 g (sz f)
def uz(h:Xu K mg E ta a)(g:Xu K mg E tb b)(f:Xu K mg E tc c):XI K mg E (Kp ta<|Kp tb<|Kp tc KR) (Pn a<|Pn b<|Pn c Nk):=K6 h (tz g f)
end
section
variable {K:Ye}{h:Heap}{mg:Yi}{C C':Addr}{x m q:Str}{st:Stmt}{ps:Yn}
abbrev Bd(x q:Str)(st:Stmt)(ps:Yn):Prop:=∀(kV g n:Value) (p:Yr) (l o:Value) (f:Ym),f.length=ps.length->bindArgs (PySem.W.fnOf x q (P9 st) (XZ st) (Xv st) .none kV g n p l o) ⟨f,[]⟩=pure (ps.zip f)
def DI.e (D:DI K x st) (X:K.In h) (g:h.Ns mainGlobals mg) (b:Bd x x st ps:=by
  intro _ _ _ _ _ _ us f
  first
   |(obtain⟨_,rfl⟩:=Pu.BR f;rfl)
   |(obtain⟨_,_,rfl⟩:=Pu.BI f;rfl)
   |(obtain⟨_,_,_,rfl⟩:=Pu.An f;rfl)
   |(obtain⟨_,_,_,_,rfl⟩:=Pu.Gc f;rfl)
   |(obtain⟨_,_,_,_,_,rfl⟩:=Pu.Za9 f;rfl)):Def K mg x st ps:=D.d X g b
def MI.e (D:MI K C m q st) (e:C'=C) (b:Bd m q st ps:=by
  intro _ _ _ _ _ _ us f
  first
   |(obtain⟨_,rfl⟩:=Pu.BR f;rfl)
   |(obtain⟨_,_,rfl⟩:=Pu.BI f;rfl)
   |(obtain⟨_,_,_,rfl⟩:=Pu.An f;rfl)
   |(obtain⟨_,_,_,_,rfl⟩:=Pu.Gc f;rfl)):XJ K (XH K C' m) m q st ps:=D.d e b
def MI.j (D:MI K C "__init__" q st) (e:C'=C) (mk:PySem.W.makesIn K C=true) (g:PySem.W.keepIn K (.ref C)=true) (b:Bd "__init__" q st ps:=by
  intro _ _ _ _ _ _ us f
  first
   |(obtain⟨_,rfl⟩:=Pu.BR f;rfl)
   |(obtain⟨_,_,rfl⟩:=Pu.BI f;rfl)
   |(obtain⟨_,_,_,rfl⟩:=Pu.An f;rfl)):XJ K (Mk K C') "__init__" q st ps:=D.i e mk g b
end
section
variable {P:Program}{w:World}{K:Ye}{mg:Yi}{base:Heap}{N ps:Yn}{sp:Sp}{p:PTS}{x q:Str}{st:Stmt}{k:Nat}{W:Addr->Prop}
structure Uz (K:Ye) (mg:Yi) (N ps:Yn) (sp:Sp) (p:PTS):Prop where
 len:∀vs H Q E,sp vs H Q E->vs.length=ps.length
 run:∀vs H Q E t,sp vs H Q E->X7 K mg (λ_=>E) t p->t {nx:=λ_ H'=>Q .non H',rt:=Q} (start N vs) H
def Uz.a (f:∀ds R X,c ds R X->ds.length=ps.length/\p {nx:=λ_=>R (.sh .non),rt:=R,ex:=λ_ e=>X e} (Ti N ds)) (g:autoParam (ps.length<=N.length) au_1):Uz K mg N ps (X0 mg c K) p:=
 ⟨λ_ _ _ _ h=>Zhl h λds R X z=>(f ds R X z).1,λ_ _ _ _ _ h s=>Zf5 h s g f⟩
def Uz.b (g:∀f R X,c f R X->f.length=ps.length/\p {nx:=λ_=>R (.sh .non),rt:=R,ex:=λ_ e=>X e} (N8 N f)) (l:autoParam (ps.length<=N.length) au_1):Uz K mg N ps (spS mg c K) p:=
 ⟨λ_ _ _ _ h=>Zg6 h λn R X z=>(g n R X z).1,λ_ _ _ _ _ h s=>Zhy h s l g⟩
def Uz.c {c y} (g:∀o f R X,c o f R X->f.length=ps.length/\p (I0 o R X) (N9 N o f)) (l:autoParam (ps.length+1<=N.length) au_1):Uz K mg N (y::ps) (spW mg c K) p:=
 ⟨λ_ _ _ _ h=>Znc h λo n R X z=>(g o n R X z).1,λ_ _ _ _ _ h s=>Zg0 h s l g⟩
def Uz.d {c y z} (l:∀o1 f g R X,c o1 f g R X->g.length=ps.length/\p (RL o1 f R X) (Tu N o1 f g)) (n:autoParam (ps.length+2<=N.length) au_1):Uz K mg N (y::z::ps) (Nx mg c K) p:=
 ⟨λ_ _ _ _ h=>Zou h λo1 f o R X z=>(l o1 f o R X z).1,λ_ _ _ _ _ h s=>Zra h s n l⟩
def _root_.Own.Def.oz (D:Def K mg x st ps) (S:Xw N ps (Xv st))
  (l:∀f g A outer s H E,X5 k (A.deeper<|envOfC x (Xv st) s.heap.objs.size f g)->
   ∃t,PSs (Kj CX0 P w K mg base N x (Xv st) f g A outer s H E).nox (XZ st) t/\X7 K mg (λ_=>E) t p) (u:Uz K mg N ps sp p):Callee P w K mg base CX0 (k+1) x ps sp:=
 D.ok S u.len λf g A outer s H o Q E n h=>(l f g A outer s H E n).elim λt z=>⟨t,z.1,u.run _ _ _ _ _ h z.2⟩
def _root_.Own.Def.ox (D:Def K mg x st ps) (S:Xw N ps (Xv st))
  (l:∀f g A outer s H E,X5 k (A.deeper<|envOfC x (Xv st) s.heap.objs.size f g)->
   ∃t,PSs (Kj (ExcR.CXe P w) P w K mg base N x (Xv st) f g A outer s H E) (XZ st) t/\X7 K mg (λ_=>E) t p) (u:Uz K mg N ps sp p):Callee P w K mg base (ExcR.CXe P w) (k+1) x ps sp:=
 ExcR.Def.okX D S u.len λf g A outer s H o Q E n h=>(l f g A outer s H E n).elim λt z=>⟨t,z.1,u.run _ _ _ _ _ h z.2⟩
def XJ.oz (D:XJ K W x q st ps) (S:Xw N ps (Xv st))
  (l:∀f g A outer s H E,X5 k (A.deeper<|envOfC q (Xv st) s.heap.objs.size f g)->
   ∃t,PSs (Kj CX0 P w K mg base N q (Xv st) f g A outer s H E).nox (XZ st) t/\X7 K mg (λ_=>E) t p) (u:Uz K mg N ps sp p):Po P w K mg base CX0 (k+1) W ps sp:=
 D.ok S u.len λf g A outer s H o Q E n h=>(l f g A outer s H E n).elim λt z=>⟨t,z.1,u.run _ _ _ _ _ h z.2⟩
def XJ.ox (D:XJ K W x q st ps) (S:Xw N ps (Xv st))
  (l:∀f g A outer s H E,X5 k (A.deeper<|envOfC q (Xv st) s.heap.objs.size f g)->
   ∃t,PSs (Kj (ExcR.CXe P w) P w K mg base N q (Xv st) f g A outer s H E) (XZ st) t/\X7 K mg (λ_=>E) t p) (u:Uz K mg N ps sp p):Po P w K mg base (ExcR.CXe P w) (k+1) W ps sp:=
 D.okX S u.len λf g A outer s H o Q E n h=>(l f g A outer s H E n).elim λt z=>⟨t,z.1,u.run _ _ _ _ _ h z.2⟩
end
section
variable {K:Ye}{h:Heap}{mg:Yi}{x:Str}{C:Addr}
structure EI (K:Ye) (x:Str) (C:Addr):Prop where
 a:PySem.W.nsIn K mainGlobals x=some (some<|.ref C)
 g:ExcR.Kr K C
def ei(a:PySem.W.nsIn K mainGlobals x=some (some<|.ref C))(q:PySem.W.excIn K C [.type "ValueError",.type "Exception",.type "BaseException",.type "object"] "ValueError.__new__"=true)(g:PySem.W.findIn K (.ref C) "__getattribute__"=some (some<|.builtin "BaseException.__getattribute__"))(f:PySem.W.findIn K (.ref C) "__getattr__"=some none)(l:PySem.W.findIn K (.ref C) "__class__"=some (some<|.builtin "object.__class__"))(i:PySem.W.clsIn K C=some d):EI K x C:=⟨a,⟨⟨q⟩,g,f,l,by rw[i];rfl⟩⟩
def EI.c (y:EI K x C) (X:K.In h) (f:h.Ns mainGlobals mg):ExcR.Xx mg x=C:=ExcR.CL (QI X f y.a)
def EI.m (y:EI K x C) (X:K.In h) (f:h.Ns mainGlobals mg):mg x=some (.ref<|ExcR.Xx mg x):=by rw[y.c X f];exact QI X f y.a
def EI.k (y:EI K x C) (X:K.In h) (f:h.Ns mainGlobals mg):ExcR.Kr K (ExcR.Xx mg x):=by rw[y.c X f];exact y.g
end
section
variable {K:Ye}{mg:Yi}{E:L2.St->XK}{H0 H H1 H':Hp}{B Z Z':Addr->Prop}{σ:L2.St}{γ:Γ}
noncomputable def Zhj(a b:PTE):PTE:=λγ R X=>a γ (λs=>b γ (λu=>match s,u with
 | .own (.lst g),.own (.lst f)=>KJ g=true/\KJ f=true/\∀x y,R (.own<|.nst [(x,g),(y,f)])
 |_,_=>False) X) X
def Za5{a b}(ha:Xu K mg E G a)(hb:Xu K mg E C b):Xu K mg E (Cj<|Kp G<|Kp C KR) (Zhj a b):=by
 intro H0 B H σ γ R X Q p h q M;refine ha H0 B H σ γ _ X _ p h (λs v H1 p1 A G=>?_) M;have f:=p.grow A;refine hb H0 B H1 σ γ _ X _ f p1 (λu w H2 p2 r C=>?_) λc H' n S'=>M c H' n (A.trans S');split at p2
 ·rename_i d1 d2;obtain⟨i1,i2,p2⟩:=p2;obtain⟨x,rfl,x0,vs,L,x2⟩:=G;obtain⟨y,rfl,y0,ws,y1,Y⟩:=C;have N:=y0 y rfl;refine⟨by show 2<=sizeLine;decide,λl nl=>?_⟩;have g:=Ki (o:=.tup [.ref x,.ref y]) nl;have U:=g _ _ (r _ _ L);have T:=g _ _ y1
  have J:∀c,(zof B γ σ c\/(O.nst [(x,d1),(y,d2)]).adr l c)->Mut (upd H2 l (.tup [.ref x,.ref y]) c):=λc z=>by
   rcases z with z|⟨e,he,z⟩
   ·exact Tg g ((f.grow r).zm c z)
   ·rcases Qa.mp he with rfl|he
    ·rw[z,U];trivial
    ·rw[WQ.mp he]at z;rw[z,T];trivial
  refine q _ _ _ (p2 x y) ((A.trans r).trans g) ⟨l,rfl,?_,?_,?_,?_⟩
  ·rintro c ⟨e,he,rfl⟩;rcases Qa.mp he with rfl|he
   ·exact(x0 x rfl)
   ·rw[WQ.mp he];exact A.free N
  ·refine XY XG λz=>?_
   have:=J l z
   rw[XG]at this;exact this
  ·rintro c n;rcases Qa.mp n with rfl|n
   ·exact⟨vs,U,Rps.off J (Rps.mono (off_sub.trans<|r.trans g) x2) i1⟩
   ·rw[WQ.mp n];exact⟨ws,T,Rps.off J (Rps.mono (off_sub.trans g) Y) i2⟩
  ·show[x,y].Nodup;simp[(K7 L N)]
 ·exact p2.elim
end
theorem NoFld.of:∀{xs:Yn},(xs.all λx=>!(m==x))=true->NoFld m xs
 |[],_,_|_::_,_,[]=>rfl
 |x::xs,h,v::f=>by
  rw[Jz,Q9]at h;show(match m==x with|true=>some v|false=>(xs.zip f).lookup m)=none
  rw[show(m==x)=false by simpa using h.1];exact NoFld.of h.2 f
theorem FldAt.of (n:(f==f)=true):∀{xs}{j:Nat},((xs.take j).all λx=>!(f==x))=true->xs[j]?=some f->FldAt f xs j
 |[],_,_,e,_,_=>by simp at e
 |_::_,_,_,_,[],e=>rfl
 |x::xs,0,_,e,v::g,_=>by
  simp_all
 |x::xs,j+1,h,e,v::g,l=>by
  rw[List.take_succ_cons,Jz,Q9]at h;show(match f==x with|true=>some v|false=>(xs.zip g).lookup f)=(v::g)[j+1]?
  rw[show(f==x)=false by simpa using h.1];exact FldAt.of n h.2 (by grind) g (by grind)
theorem PutAt.of:∀{xs:Yn},(xs.all λx=>decide (x≠f))=true->PutAt f xs
 |[],_,[],_,_=>rfl
 |[],_,_::_,_,e|_::_,_,[],_,e=>by cases e
 |x::xs,h,v::g,y,e=>by
  rw[Jz,Q9]at h;show(if x=f then(x,y)::xs.zip g else(x,v)::KP f y (xs.zip g))=(x,v)::(xs++[f]).zip (g++[y]);rw[WS (WR h.1),PutAt.of h.2 g y (by grind)]
end Pu
namespace Lam
open L2 Own
section
variable {X:Cx}{pins:Yh}{σ:L2.St}{H:Hp}{A:Around}{E:Yj}{s:Shared}{kS D:Addr}{vs:Ym}{kz:Yg}{keys:Array Value}{e e1:Nat}
def Zql{H h a o}(x:HOk P w H h)(f:H a=none)(new:ObjOk P w (upd H a o) h a o):HOk P w (upd H a o) h:=λb u e=>by
 by_cases g:b=a
 ·subst g;rw[XG]at e;cases e;exact new
 ·rw[X1 g]at e;exact(x b u e).stay (λc v _ q=>q) (λc q=>by rw[X1 (K7 q f)];exact q) λc xs q=>by rw[X1 (K7 q f)];exact q
variable {P:PySem.Fin->Shared->Prop}
end
end Lam
namespace ExcR
open L2
open Sem (wp)
section
variable {prog:Program}{w:World}{A:Around}{E:Yj}{h:Heap}{g:Array GenState}{d:Drawn}{t:Nat}{os:OsState}
variable {nm q:Str}{C N:Addr}{bs bm bmB:Ym}{hdct:Bool}{sn:Yn}{sub:Ym}{ab:Bool}{col:Option Bool}{dd:Yr}{k0 k1 k2 k3 k5:Yq}{B Bn newId nid initId inN:String}{bmN:Ym}
noncomputable def TC(C t:Addr)(f:Yr):Obj:={cls:=.ref C,dict:=f,data:=.fields #[.ref t,.none,.none,.none,.bool false,.none]}
def Zej(H:ExcBaseFacts Bn newId inN bmN)(u:bmB.contains (.type Bn)=true)(F:ExcBaseFacts B nid initId bmB)(T:OwnTail h bmB bm){M rest fI L Q}(s:h.get? C=some (excClassObj nm q C N bs bm hdct sn sub ab col dd k0 k1 k2 k3 k5 newId))(hn:h.Ns N M)(hi:M "__init__"=some (.ref fI))(z:h.get? fI=some L)(y:L.cls=.type "function")(hq:∀U e,Heap.MadeExcOf h U e (.ref C) rest->wpAny (model prog w) A (call (.ref fI) (.ref e::rest)) (λr J=>r=.none/\Q (.done<|.ret<|.ref e) J) E ⟨U,g,d,t,os⟩)(hrest:autoParam (rest.length<=sizeLine) au_8) :
  wpAny (model prog w) A (Builtin.«type.__call__» ⟨.ref C::rest,[]⟩) Q E ⟨h,g,d,t,os⟩:=by
 repeat (first|with_reducible refine QD s ?_|with_reducible refine wpAny_madeBy_exc s ?_|wp_step)
 refine codeAny_call_builtin_code (Jf _ H.quiet) (wpAny_check_new_subU H u T s ?_);refine codeAny_exc_new_subU H u F T s ?_ hrest;show wpAny _ _ _ _ _ _
 have k:∀b o,h.get? b=some o->((h.push {cls:=.type "tuple",data:=.seq rest.toArray}).push {cls:=.ref C,data:=.fields #[.ref h.objs.size,.none,.none,.none,.bool false,.none]}).get? b=some o:=
  λb o e=>WO _ (WO _ e)
 have f:=k _ _ s;have l:=k _ _ z;have p:=hn.keeps k;have v:=T.keeps k
 have n:((h.push {cls:=.type "tuple",data:=.seq rest.toArray}).push
   {cls:=.ref C,data:=.fields #[.ref h.objs.size,.none,.none,.none,.bool false,.none]}).get? (h.objs.size+1)=some
   {cls:=.ref C,data:=.fields #[.ref h.objs.size,.none,.none,.none,.bool false,.none]}:=by heap_get
 have G:(Value.ref C::bm).contains (.ref C)=true:=by simp
 unfold isInstance
 repeat (first|with_reducible refine QD n ?_|(with_reducible refine VH f ?_;rw[G])|wp_step)
 show wpAny _ _ (typeLookup (.ref C) _) _ _ _;refine wpAny_typeLookup_tail f p v F.mroIs F.init.lookup ?_;rw[hi];refine QX (WK ?_);unfold bindSpecial;refine WK (wpAny_typeOf ⟨_,l,y⟩ ?_);rw[WT (by decide)];refine WN (WK (Q3 (hq _ (h.objs.size+1) ⟨k,V9 (VN _),h.objs.size,n,V9 (WU _),?_⟩) (λr J Y=>?_) λ_ _ x=>x))
 ·exact WO _ (Heap.get?_push_at rfl rfl)
 ·obtain⟨rfl,hQ⟩:=Y
  wp_walk
  exact hQ
def Zkf(G:ExcBaseFacts Bn newId inN bmN)(p:bmB.contains (.type Bn)=true)(F:ExcBaseFacts B nid initId bmB)(T:OwnTail h bmB bm){u rest fI s Q}(f:h.get? C=some (excClassObj nm q C N bs bm hdct sn sub ab col dd k0 k1 k2 k3 k5 newId))(x:h.Ns N u)(z:u "__init__"=some (.ref fI))(o:h.get? fI=some s)(n:s.cls=.type "function")(hq:∀l e,Heap.MadeExcOf h l e (.ref C) rest->wpAny (model prog w) (A.under<|.builtin "type.__call__" ⟨.ref C::rest,[]⟩) (call (.ref fI) (.ref e::rest)) (λr v=>r=.none/\Q (.ref e) v) E ⟨l,g,d,t,os⟩)(hrest:autoParam (rest.length<=sizeLine) au_8) :
  wpAny (model prog w) A (call (.ref C) rest) Q E ⟨h,g,d,t,os⟩:=by
 have f1:=tc_lookup;have J:=tc_bind (.ref C);have H:(⟨h,g,d,t,os⟩:Shared).TypeIs (.ref C) "type":=⟨_,f,rfl⟩;refine JB (codeAny_of_tree ?_);show wpAny _ _ (callAny (.ref C) _) _ _ _
 repeat (any_goals (first|assumption|with_reducible refine QD f ?_|wp_step))
 refine⟨rfl,?_⟩;refine codeAny_call_builtin_at (Jf _<|by decide +kernel) entry_typeCall (wpAny_check_type_call_sub f (Zej (hrest:=hrest) G p F T f x z o n λl e y=>?_));exact hq l e y
end
section
variable {prog:Program}{w:World}{A:Around}{E:Yj}{s:Shared}{env:Env}
variable {nm q:Str}{C N:Addr}{bs bm bmB:Ym}{hdct:Bool}{sn:Yn}{sub:Ym}{ab:Bool}{col:Option Bool}{dd:Yr}{k0 k1 k2 k3 k5:Yq}{B Bn newId nid initId inN:String}{bmN:Ym}
def Zey(l:bm.contains (.type "BaseException")=true)(y:A.handled=none)(h:wpAny (model prog w) A x (λv f=>∃e t u,v=.ref e/\f.heap.get? C=some (excClassObj nm q C N bs bm hdct sn sub ab col dd k0 k1 k2 k3 k5 newId)/\f.heap.get? e=some (TC C t u)/\E (.ref e) f) E s) :
  wpAny (model prog w) A (raiseStmt env (some x) none) Q E s:=by
 have o:(Value.ref C::bm).contains (.type "BaseException")=true:=by rw[VM,l,Bool.or_true]
 unfold raiseStmt;refine WK (Q3 h (λv f n=>?_) λ_ _ x=>x);obtain⟨e,t,u,rfl,r,p,z⟩:=n;obtain⟨H,g,d,G,os⟩:=f;unfold TC at p
 repeat (first|with_reducible refine QD p ?_|with_reducible refine QD r ?_|(with_reducible refine VH r ?_;rw[o])|wp_step)
 exact wpAny_raiseNew_none y z
def Zqk(Fn:ExcBaseFacts Bn newId inN bmN)(Y:bmB.contains (.type Bn)=true)(F:ExcBaseFacts B nid initId bmB){mN x np cpos pos args fI oI Q}(u:bm.contains (.type "BaseException")=true)(hh:A.handled=none)(o:(backTo cpos<|starEach args env).any (·.1)=false)(hi:mN "__init__"=some (.ref fI))(L:oI.cls=.type "function")
  (h:wpAny (model prog w) A (eval (.Name x np) env) (λf p=>f=.ref C/\wpAny (model prog w) A (evalArgs (.ref C) true (backTo cpos<|starEach args env) [])
   (λa g=>a.kw=[]/\a.pos.length<=sizeLine/\g.heap.get? C=some (excClassObj nm q C N bs bm hdct sn sub ab col dd k0 k1 k2 k3 k5 newId)/\g.heap.Ns N mN/\OwnTail g.heap bmB bm/\g.heap.get? fI=some oI/\
    ∀H e,Heap.MadeExcOf g.heap H e (.ref C) a.pos->wpAny (model prog w) (A.under<|.builtin "type.__call__" ⟨.ref C::a.pos,[]⟩) (call (.ref fI) (.ref e::a.pos))
     (λr G=>r=.none/\G.heap.get? C=some (excClassObj nm q C N bs bm hdct sn sub ab col dd k0 k1 k2 k3 k5 newId)/\(∃t dx,G.heap.get? e=some (TC C t dx))/\E (.ref e) G) E {g with heap:=H}) E p) E s) :
  wpAny (model prog w) A (exec (.Raise (some<|.Call (.Name x np) args [] cpos) none pos) env) Q E s:=by
 refine WK (VX<|Zey (C:=C) (nm:=nm) (q:=q) (N:=N) (bs:=bs) (hdct:=hdct) (sn:=sn) (sub:=sub) (ab:=ab) (col:=col) (dd:=dd) (k0:=k0) (k1:=k1) (k2:=k2) (k3:=k3) (k5:=k5) (newId:=newId) u hh<|WK (Q3 (wpAny_Call_ofName (Q3 h (λf p n=>?_) λ_ _ x=>x)) (λv s₃ y=>WK (VX<|WN y)) λ_ _ x=>x));obtain⟨rfl,n⟩:=n;refine WK (QX (Q3 n (λa g l=>WK (VX ?_)) λ_ _ x=>x));obtain⟨apos,akw⟩:=a;obtain⟨J,hlen,hC,hn,T,M,l⟩:=l;obtain rfl:=J;simp only[o];refine WK (wpAny_keeperOf_exc hC ?_);refine WK (Zkf Fn Y F T hC hn hi M L λH e hm=>Q3 (l H e hm) (λr G z=>?_) λ_ _ x=>x);obtain⟨rfl,U,⟨t,dx,he⟩,hE⟩:=z;exact⟨rfl,WK (QX<|wpAny_point<|WN ⟨e,t,dx,rfl,U,he,hE⟩)⟩
end
end ExcR
namespace ExcR
open L2
open Sem (wp)
open Builtin Builtin.ObjectAttr
noncomputable def SZ:Ym:=[.type "ValueError",.type "Exception",.type "BaseException",.type "object"]
noncomputable def BP:Ym->Bool
 | .ref _::r=>BP r
 |l=>l==SZ
theorem Mq(self:Value):∀{l:Ym},BP l=true->refuseLoop self "__setattr__" l=pure ()
 | .ref c::r,e=>by rw[refuseLoop_ref];exact Mq self e
 |[],e=>rfl
 | .type n::r,e=>by
  have:=beq_iff_eq.mp e
  rw[this];exact PySem.F.store_ValueError.passes self
theorem OB:∀{l:Ym},BP l=true->l.contains (.type "object")=true
 | .ref c::r,e=>by rw[VM,OB (l:=r) e,Bool.or_true]
 |[],e=>by cases e
 | .type n::r,e=>by
  have:=beq_iff_eq.mp e
  rw[this];decide
structure Ad (K:Ye) (C:Addr):Prop where
 po:(PySem.W.clsIn K C).any (λcd=>BP cd.mro&&cd.hasDict)=true
 sa:PySem.W.findIn K (.ref C) "__setattr__"=some (some<|.builtin "object.__setattr__")
section
variable {prog:Program}{w:World}{A:Around}{E:Yj}{s:Shared}{K:Ye}{x C t:Addr}{name:Str}{v:Value}
def Za1(X:K.In s.heap)(hx:s.heap.get? x=some (TC C t none))(c:Ad K C)(n:NoAttr K C name)
  (h:∀g,g.get? x=some (TC C t<|some s.heap.objs.size)->g.Ns1 s.heap.objs.size (λy=>if y=name then some v else none)->(∀b o,b≠x->s.heap.get? b=some o->g.get? b=some o)->s.heap.objs.size<=g.objs.size->
   Q () {s with heap:=g,toks:=s.toks+2}):wpAny (model prog w) A (setAttr (.ref x) name v) Q E s:=by
 have u:=PySem.F.store_object;have J:PySem.W.InstAt s.heap x (TC C t none) C none:=⟨hx,rfl,rfl,True.intro⟩;obtain⟨Y,T,l⟩:=J0 c.po;obtain⟨l,M⟩:=(Q9 _ _▸l:_/\_);have ne:Y.mro.isEmpty=false:=by cases q:Y.mro with|nil=>rw[q]at l;cases l|cons _ _=>rfl
 have sub:PySem.W.Looks (model prog w) s.heap (isInstance (.ref x)<|.type "object") true:=J.type.andThen (PySem.W.looks_mroIn X<|by unfold PySem.W.mroIn;rw[T,Option.bind_some,WS (by rw[ne];decide),OB l]);have hm:PySem.W.Looks (model prog w) s.heap (mroOf<|.ref C) Y.mro:=(JL X T).andThen .now;refine PySem.W.set_plain X J c.sa (VA u.slot.plain u.entry (@PySem.W.check_slot (model prog w) _ _ {s with toks:=s.toks+1} "object.__setattr__" "object" "__setattr__" (.ref x) [.str name s.toks,v] [] _ u.kind u.split sub (u.args (.ref x) (.str name s.toks) v) ?_))
 rw[PySem.W.osa_eq,refuse_eq];refine WK (WK<|J.type.here (s:={s with toks:=s.toks+1})<|WK<|hm.here (s:={s with toks:=s.toks+1}) ?_)
 rw[Mq _ l];refine WN (WK<|J.type.here (s:={s with toks:=s.toks+1})<|WK<|JS (QV X n)<|WK<|WN ?_)
 refine WK (WN<|WK<|WK<|wpAny_loadPart hx<|WK<|JS (JL X T) ?_);rw[M];have f:(s.heap.push {cls:=.type "dict",data:=.dict #[]}).get? x=some (TC C t none):=WO _ hx;have p:=Qo (WY hx);refine WK (wpAny_alloc' ?_);refine WK (wpAny_update' f ?_);refine WN ?_
 have H:((s.heap.push {cls:=.type "dict",data:=.dict #[]}).update x λo=>{cls:=o.cls,dict:=some s.heap.objs.size,data:=o.data,slots:=o.slots}).get? s.heap.objs.size
   = some {cls:=.type "dict",data:=.dict #[]}:=
  (Heap.get?_update_ne _ _ _ _ p.symm).trans (Heap.get?_push_at rfl rfl)
 have G:((s.heap.push {cls:=.type "dict",data:=.dict #[]}).update x λo=>{cls:=o.cls,dict:=some s.heap.objs.size,data:=o.data,slots:=o.slots}).Ns s.heap.objs.size (λ_=>none):=
  ⟨_,#[],_,H,rfl,λe he=>absurd he (by simp),λ_=>rfl⟩
 refine WK (WN<|WK (wpAny_nsSet1 (Heap.Ns1.of_empty G) λg r z=>?_));obtain⟨oD,esD,epD,B,L,N⟩:=r.count (Within.cons name v Within.nil);refine WK (wpAny_lookBehind B (by rw[L];exact pastItsLine_dict (WZ N<|by rw[Qe,List.length_nil,Jw];lia)) ?_);refine WN (h g ?_ r (λb ob U hb=>?_) ?_)
 ·refine(z.2 x p).trans (QB _ f rfl)
 ·exact(z.2 b<|Qo<|WY hb).trans ((Heap.get?_update_ne _ _ _ _ U).trans (WO _ hb))
 ·rw[z.1,Heap.size_update,Vs];exact VN _
end
end ExcR
namespace ExcR
open L2
open Sem (wp)
open Builtin Builtin.ObjectAttr
section
variable {prog:Program}{w:World}{A:Around}{E:Yj}{h:Heap}{g:Array GenState}{d:Drawn}{t:Nat}{os:OsState}{a C dx:Addr}{o:Obj}{K:Ye}{name:Str}{v:Value}{mA:Yi}
def Zfx(k:K.In h)(p:PySem.W.hasDictIn K C=true)(hx:h.get? a=some o)(s:o.cls=.ref C)(hd:o.dict=some dx)(l:PySem.W.notCls o=true)(ns:h.Ns1 dx mA)(u:mA name=some v) :
  PySem.W.Looks (model prog w) h (inOwnDict name<|.ref a) (some v):=by
 obtain⟨od,n,x⟩:=MD ns;obtain⟨y,f,r⟩:=J0 p;refine PySem.W.looks_own k (od:=some od) ⟨hx,s,l,by rw[hd];exact n⟩ f ?_;unfold PySem.W.ownOf
 grind
def Zhw{Q}(k:K.In h)(r:PySem.W.hasDictIn K C=true)(n:NoAttr K C name)(hx:h.get? a=some o)(f:o.cls=.ref C)(hd:o.dict=some dx)(l:PySem.W.notCls o=true)(ns:h.Ns1 dx mA)(p:mA name=some v)(hq:Q (.done<|.ret v) ⟨h,g,d,t,os⟩):wpAny (model prog w) A (Builtin.«object.__getattribute__» ⟨[.ref a,.str name s],[]⟩) Q E ⟨h,g,d,t,os⟩:=by
 have L:=QV (M:=model prog w) k n
 repeat (any_goals (first|assumption|(with_reducible refine QD hx ?_;rw[f])|with_reducible refine L.at ?_|with_reducible refine(Zfx (prog:=prog) (w:=w) k r hx f hd l ns p).at ?_|wp_step))
def Zrw{fill expr Q}(k:K.In h)(G:PySem.W.findIn K (.ref C) "__getattribute__"=some (some<|.builtin "BaseException.__getattribute__"))(B:PySem.W.findIn K (.ref C) "__getattr__"=some none)(H:∀{A E t u} {Q:Unit->Shared->Prop},Q () ⟨h,g,d,t,os⟩->wpAny (model prog w) A (checkBuiltinCall "BaseException.__getattribute__" ⟨[.ref a,u],[]⟩) Q E ⟨h,g,d,t,os⟩)(z:PySem.W.hasDictIn K C=true)(n:NoAttr K C name)(hx:h.get? a=some o)(p:o.cls=.ref C)(hd:o.dict=some dx)(s:PySem.W.notCls o=true)(ns:h.Ns1 dx mA)(y:mA name=some v)(l:PySem.W.handedIn v=true)(hq:Q v ⟨h,g,d,t,os⟩):wpAny (model prog w) A (getAttrBy (.ref a) (.str name N) fill expr) Q E ⟨h,g,d,t,os⟩:=by
 have f0:=F.attrBase_ValueError.ga.bind (.ref a);have x:(expr&&onTheHeap (Value.builtin "BaseException.__getattribute__"))=false:=by cases expr<;>rfl
 have r:(Value.builtin "BaseException.__getattribute__" == Value.builtin "object.__getattribute__")=false:=by decide +kernel
 have J:(onTheHeap (Value.ref C)&&Value.builtin "BaseException.__getattribute__" == Value.builtin "object.__getattribute__")=false:=by rw[r];rfl
 have L:=QV (M:=model prog w) k G;have L2:=QV (M:=model prog w) k B
 repeat (any_goals (first|assumption|(with_reducible refine QD hx ?_;rw[p])|with_reducible refine L.at ?_|with_reducible refine L2.at ?_|wp_step))
 refine VA F.attrBase_ValueError.ga.plain F.entry_bexc_ga (H<|Zhw k z n hx p hd s ns y ?_);have f:=PySem.W.handedOut_of l;unfold handedOut at f
 repeat (any_goals (first|assumption|rw[f]|wp_step))
def Zgx{Q}(k:K.In h)(y:PySem.W.findIn K (.ref C) "__getattribute__"=some (some<|.builtin "BaseException.__getattribute__"))(x:PySem.W.findIn K (.ref C) "__getattr__"=some none)(z:∀{A E t u} {Q:Unit->Shared->Prop},Q () ⟨h,g,d,t,os⟩->wpAny (model prog w) A (checkBuiltinCall "BaseException.__getattribute__" ⟨[.ref a,u],[]⟩) Q E ⟨h,g,d,t,os⟩)(r:PySem.W.hasDictIn K C=true)(n:NoAttr K C name)(hx:h.get? a=some o)(s:o.cls=.ref C)(hd:o.dict=some dx)(l:PySem.W.notCls o=true)(ns:h.Ns1 dx mA)(p:mA name=some v)(f:PySem.W.handedIn v=true)(hq:Q v ⟨h,g,d,t+1,os⟩):wpAny (model prog w) A (getAttr (.ref a) name expr) Q E ⟨h,g,d,t,os⟩:=by
 repeat (any_goals (first|assumption|with_reducible apply Zrw k y x z r n hx s hd l ns p f|wp_step))
end
end ExcR
namespace ExcR
open L2
section
variable {X:Cx}{pins:Yh}{σ:L2.St}{H:Hp}{s:Shared}{a b:Addr}
def Rw(I:Inv X pins σ H s)(n:H b=none)(E:b≠X.env.locals)(C:∀x c,X.env.cells.lookup x=some c->c≠b)(B:∀p∈X.pn++pins,p.1≠b)(A:∀c u,X.s₀.heap.get? c=some u->c≠b)(new:ObjOk X.prog X.w (upd H b o) s.heap b o):Inv X pins σ (upd H b o) s:=by
 refine⟨I.ok,I.os,I.bare,⟨λc u g h f r=>I.base.keep c u g h f r,λc u g h f r=>I.base.slot c u g h f r,λc u g h f=>?_,I.base.there,λc y g=>?_,λc u v g=>?_,λc z g=>?_⟩,I.loc,I.cell,?_,λx c g=>?_,λp l=>?_,?_,I.len⟩
 ·rw[X1 (A c u g)];exact I.base.free c u g h f
 ·rw[X1 (K7 (I.base.tups c y g) n)];exact I.base.tups c y g
 ·rw[X1 (K7 (I.base.frzs c u v g) n)];exact I.base.frzs c u v g
 ·obtain⟨m,q⟩:=I.base.tbls c z g;exact⟨m,by rw[X1 (K7 q n)];exact q⟩
 ·rw[X1 (Ne.symm E)];exact I.free
 ·rw[X1 (C x c g)];exact I.freeC x c g
 ·obtain⟨a1,a2,a3,a4,a5⟩:=I.pin p l;exact⟨a1,by rw[X1 (B p l)];exact a2,a3,a4,a5⟩
 ·exact Lam.Zql I.hok n new
def Zfc(I:Inv X pins σ H s)(hex:X.ex=[])(h:s.heap.get? b=none)(k:∀c u,s.heap.get? c=some u->l.get? c=some u)(new:ObjOk X.prog X.w (upd H b o) l b o) :
  Inv X pins σ (upd H b o) {s with heap:=l,toks:=t'}:=by
 have g:∀{c u},s.heap.get? c=some u->c≠b:=λ{c u} e z=>by rw[z,h]at e;cases e
 refine Rw (I.kept k) (Gi I.hok h) ?_ (λx c e=>?_) (λp n=>g (I.pin p n).1) (λc u e=>?_) new
 ·obtain⟨m,⟨o1,y,A,f,_⟩,_⟩:=I.loc
  grind
 ·obtain⟨v,o1,f,_⟩:=I.cell x c e
  grind
 ·obtain⟨r,f⟩:=I.base.there c u e (by grind);exact g f
noncomputable def er(H:Hp)(a:Addr):Hp:=λb=>if b=a then none else H b
def Aq:er H a a=none:=by unfold er;rw[WT rfl]
def N4(h:b≠a):er H a b=H b:=by unfold er;rw[WS h]
def Zmk(h:er H a b=some o):H b=some o:=by
 by_cases z:b=a
 ·rw[z,Aq]at h;cases h
 ·rw[N4 z]at h;exact h
def forget(I:Inv X pins σ H s)(G:H a=some (.ext φ)):Inv X pins σ (er H a) s:=by
 have f:∀{c o},H c=some o->(∀B,o≠HO.ext B)->c≠a:=λ{c o} e n z=>by rw[z,G]at e;exact n _ (Qb e).symm
 have r:∀{c},H c=none->er H a c=none:=λ{c} e=>by
  by_cases z:c=a
  ·rw[z];exact Aq
  ·rw[N4 z];exact e
 refine⟨I.ok,I.os,I.bare,⟨λc u g l h y=>I.base.keep c u g l h y,λc u g l h y=>I.base.slot c u g l h y,λc u g l h=>r (I.base.free c u g l h),I.base.there,λc C g=>?_,λc u v g=>?_,λc E g=>?_⟩,I.loc,I.cell,r I.free,λx c g=>r (I.freeC x c g),λp A=>?_,λc o e=>?_,I.len⟩
 ·have q:=I.base.tups c C g;rw[N4 (f q λ_ z=>nomatch z)];exact q
 ·have q:=I.base.frzs c u v g;rw[N4 (f q λ_ z=>nomatch z)];exact q
 ·obtain⟨m,q⟩:=I.base.tbls c E g;exact⟨m,by rw[N4 (f q λ_ z=>nomatch z)];exact q⟩
 ·obtain⟨a1,a2,a3,a4,a5⟩:=I.pin p A
  grind
 ·refine(I.hok c o<|Zmk e).stay (λ_ _ _ z=>z) (λd z=>?_) λd xs z=>?_
  ·rw[N4 (f z λ_ w=>nomatch w)];exact z
  ·rw[N4 (f z λ_ w=>nomatch w)];exact z
def Zk9(I:Inv X pins σ H s)(h:H l=some (.lst xs)):∃o,Inv X pins σ (upd H l<|.frz o<|.lst xs) s:=by
 obtain⟨z,f,n,r,e⟩:=(I.hok l _ h);exact⟨_,FU I (by rw[h];trivial) ⟨rfl,λ_ _=>rfl⟩ ⟨_,e⟩ ⟨e,z,f,n,r,e⟩⟩
end
def Zl1(K:Ye)(C f:Addr):Prop:=∃(s:Yr) (g:ClassData) (sl:Array (Yq)) (h:Ym) (r p o n l:Yq),K.lookup C=some ⟨.type "type",s,.cls g,sl⟩/\g.mro=.ref C::h/\
 sl.toList=[r,p,o,n,some (.builtin "ValueError.__new__"),l]/\g.hasDel=false/\PySem.W.tailIn K SZ h=true/\PySem.W.nsOkIn K g.ns=true/\PySem.W.nsIn K g.ns "__init__"=some (some<|.ref f)
def Zk7{K h N f n v}(X:K.In h)(G:h.Ns N f)(e:PySem.W.nsIn K N n=some (some v)):f n=some v:=by
 obtain⟨o,u,w,r,hd,_,g⟩:=G;unfold PySem.W.nsIn at e;split at e
 ·rename_i c d l p sl q
  have:=X _ _ q
  split at e
  ·rename_i x s;rw[←g];unfold nsFind findBy
   grind
  ·grind
 ·cases e
structure Pg (K:Ye) (C f:Addr):Prop where
 q:Zl1 K C f
 fn:PySem.W.typeIn K (.ref f)=some (.type "function")
 st:Ad K C
 ga:PySem.W.findIn K (.ref C) "__getattribute__"=some (some<|.builtin "BaseException.__getattribute__")
 gt:PySem.W.findIn K (.ref C) "__getattr__"=some none
 nm:NoAttr K C "members"
 cl:PySem.W.findIn K (.ref C) "__class__"=some (some<|.builtin "object.__class__")
def Pg.hd {K C f} (c:Pg K C f):PySem.W.hasDictIn K C=true:=by
 obtain⟨l,h,g⟩:=J0 c.st.po;unfold PySem.W.hasDictIn
 grind
def Pg.obj {K C f h} (c:Pg K C f) (k:K.In h):∃g N nm q bs hdct sn sub ab col dd k0 k1 k2 k3 k5 o,h.get? C=some (excClassObj nm q C N bs g hdct sn sub ab col dd k0 k1 k2 k3 k5 "ValueError.__new__")/\h.Ns N o/\o "__init__"=some (.ref f)/\
  OwnTail h SZ g:=by
 obtain⟨dd,B,sl,g,k0,k1,k2,k3,k5,y,p,E,u,z,n,s⟩:=c.q;have r:=k _ _ y;cases B with
 |mk nm bs x w v hd sn sub ab col A=>
  simp only at p u n s;have l:sl=#[k0,k1,k2,k3,some (.builtin "ValueError.__new__"),k5]:=by grind
  rw[p,u,l]at r;exact⟨g,w,nm,v,bs,hd,sn,sub,ab,col,dd,k0,k1,k2,k3,k5,_,r,.of_isNs (JV k n),Zk7 k (.of_isNs<|JV k n) s,PySem.W.tail_of_in k z⟩
noncomputable def PY(a C t:Addr)(f:Yr):HO:=.ext λh=>h.get? a=some (TC C t f)
def O9{a C t f}(e:h.get? a=some (TC C t f)):ObjOk P w H h a (PY a C t f):=⟨e,⟨_,e⟩,λ_ _ q k=>k _ q⟩
noncomputable def Mx(K:Ye)(f:Str)(p te:TE):TS:=λD h H=>te h H λy r=>p h r λx g=>∃a C t l xs,x=.ref a/\y=.ref l/\g a=some (PY a C t none)/\Ad K C/\NoAttr K C f/\g l=some (.lst xs)/\
 ∀o n,g n=none->D.nx h (upd (upd (upd g l<|.frz o<|.lst xs) a<|PY a C t<|some n) n<|.xd [(f,.ref l)])
def Zcs{pos p}{N M}(ha:PE X o N)(hv:PE X value M)(hs:swapsWith value (some<|.Attribute o f p) pos.line X.env=pure false):PS X (.Assign [.Attribute o f p] value pos) (Mx X.K f N M):=by
 intro pins s w H D I h;refine plainObj_wpAny_Assign_Attribute (thn (hv pins s w H _ I h) ?_) hs;rintro u Y ⟨y,H1,I1,ry,q⟩;refine thn (ha pins Y w H1 _ I1 q) ?_;rintro ov A ⟨x,L,v,rx,a,C,t,l,xs,ex,ey,E,c,n,T,q2⟩;subst ex ey;obtain rfl:=rx;obtain rfl:=ry;obtain⟨B,J⟩:=Zk9 v T;have G:upd L l (.frz B<|.lst xs) a=some (PY a C t none):=by rw[X1 (Ej E T λz=>nomatch z)];exact E
 have Q:=v.hok.fresh (WU _);refine Za1 v.kIn ((v.hok a _ E).1) c n λh' U h2 h3 h4=>?_;have f0:=J.fpOk (H':=upd (upd L l<|.frz B<|.lst xs) a (PY a C t<|some A.heap.objs.size)) (WU _) (by rw[X1 (K7 E Q |>.symm)];exact(J.hok.fresh<|WU _))
 have I4:Inv X pins w (upd (upd L l<|.frz B<|.lst xs) a<|PY a C t<|some A.heap.objs.size) {A with heap:=h',toks:=A.toks+2}:=
  J.write (by rw[G];exact True.intro) (.inl rfl) (λb q r z=>h3 b q r z) ⟨_,U⟩ (O9 U)
 have I5:=Rw (o:=.xd [(f,.ref l)]) I4 f0.1 f0.2.1 f0.2.2.2.2.1 f0.2.2.2.2.2 (λc u e z=>by
  have:=WY e
  rw[z]at this
  exact absurd (Qs this v.sz) (QW _)) ⟨_,h2,λg=>by
   by_cases r:g=f
   ·subst r;simp only[List.lookup,beq_self_eq_true];exact rfl
   ·rw[WS r];simp only[List.lookup,Vp.mpr r];exact True.intro⟩
 exact⟨w,_,I5,q2 B _ Q⟩
noncomputable def Ig(K:Ye)(f:Str)(o:TE):TE:=λn H Q=>o n H λx h=>∃a C g l fs v,x=.ref a/\h a=some (Px a C<|some l)/\Pg K C g/\NoAttr K C f/\h l=some (.xd fs)/\fs.lookup f=some v/\Q v h
def Zep{h g d t os a C f o K v Q}(k:K.In h)(G:Pg K C f)(hx:h.get? a=some o)(r:o.cls=.ref C)(hq:Q () ⟨h,g,d,t,os⟩) :
  wpAny (model prog w) A (checkBuiltinCall "BaseException.__getattribute__" ⟨[.ref a,v],[]⟩) Q E ⟨h,g,d,t,os⟩:=by
 obtain⟨B,N,J,q,bs,n,H,sub,ab,z,dd,k0,Y,U,T,M,L,u,hN,p,s⟩:=G.obj k;have l:(Value.ref C::B).contains (.type "BaseException")=true:=by rw[VM,s.hasType (b:=true) (by decide +kernel)];rfl
 have y:builtinKind "BaseException.__getattribute__"=some .slot:=by decide +kernel
 have x:splitId "BaseException.__getattribute__"=some ("BaseException","__getattribute__"):=by decide +kernel
 have e3:=F.args_bexc_ga (.ref a) v;simp only[checkBuiltinCall,y,x];refine WK ?_;unfold isInstance
 repeat (first|(with_reducible refine QD hx ?_;rw[r])|(with_reducible refine VH u ?_;rw[l])|wp_step)
 exact hq
def Bi{ta}(L:PE X e ta)(M:attributeBase e f X.env (eval e X.env)=eval e X.env):PE X (.Attribute e f pos) (Ig X.K f ta):=by
 intro pins s B H Q I h;refine Hu M (thn (L pins s B H _ I h) ?_);rintro u s1 ⟨x,H1,r,E,a,C,g,Y,fs,v,T,U,c,n,hd,l,q⟩;subst T;obtain rfl:=E;obtain⟨⟨o,A,z,vs,N⟩,_⟩:=(r.hok a _ U);obtain⟨mA,J,G⟩:=(r.hok Y _ hd);obtain⟨w,hw,p⟩:=RelO.some_of (by rw[←l];exact G f);have y:=QA Prod.fst z;refine Zgx r.kIn c.ga c.gt (λhq=>Zep r.kIn c A y hq) c.hd n A y (QA Prod.snd z) (by unfold PySem.W.notCls;rw[N]) J hw (Zaa p) ⟨v,H1,r.tok _,p,q⟩
def Lb(X:Cx)(E:XK):Prop:=∀(pins:Yh) (g:L2.St) (H:Hp) (s:Shared) (C a t:Addr) (f:Yr),Inv X pins g H s->s.heap.get? a=some (TC C t f)->H a=none->X.s₀.heap.get? a=none->E (.ref C) f H->X.xe (.ref a) s
noncomputable def BY(K:Ye):Sp:=λg H Q _=>∃(a C t p:Addr) (xs:List V),g=[.ref a,.ref p]/\H a=some (PY a C t none)/\SqL K H p xs/\Ad K C/\NoAttr K C "members"/\
 ∀(l f:Addr) (o:Obj),H l=none->H f=none->f≠l->Q .non (upd (upd (upd H l<|.frz o<|.lst xs) a<|PY a C t<|some f) f<|.xd [("members",.ref l)])
noncomputable def LQ(K:Ye)(C:Addr)(E:XK)(t:TA):TS:=λ_ h H=>t h H λn g=>∃(p:Addr) (xs:List V),n=[.ref p]/\SqL K g p xs/\
 ∀(l f:Addr) (o:Obj),g l=none->g f=none->f≠l->E (.ref C) (some f) (upd (upd g l<|.frz o<|.lst xs) f<|.xd [("members",.ref l)])
def Znl{a l f o0 o1 F D}(h:H a=none)(g:l≠a)(hd:f≠a):er (upd (upd (upd (upd H a o0) l F) a o1) f D) a=upd (upd H l F) f D:=by
 funext b;by_cases z:b=a
 ·subst z;rw[Aq,X1 (Ne.symm hd),X1 (Ne.symm g),h]
 ·rw[N4 z];by_cases y:b=f
  ·rw[y,XG,XG]
  ·rw[X1 y,X1 y,X1 z];by_cases x:b=l
   ·rw[x,XG,XG]
   ·rw[X1 x,X1 x,X1 z]
section
variable {X:Cx}{x:Str}{C:Addr}{E:XK}{e:Expr}{t:TA}{p cpos pos:Pos}{k:Nat}{ps:Yn}
def Zkh(Ci:Pu.Po X.prog X.w X.K X.mg X.base CX0 k (Pg X.K C) ps (BY X.K))(hr:X5 (k+1) X.A)(hm:X.mg x=some (.ref C))(hR:Lb X E)(hex:X.ex=[])(hc:X.calm=true)(ha:PA X [e] t)(hg:autoParam (Gl X x) au_0)(hdb:autoParam ((x==("__debug__" : Str))=false) au_1)(he:autoParam (starEach [e] X.env=[(false,eval e X.env)]) au_0):PS X (.Raise (some<|.Call (.Name x p) [e] [] cpos) none pos) (LQ X.K C E t):=by
 obtain⟨f,fd,F,G,hb⟩:=Ci.ex;intro pins s σ H D I h;obtain⟨bm,N,nm,q,bs,hdct,sn,sub,ab,col,dd,k0,k1,k2,k3,k5,mN,hC,hN,hni,hT⟩:=G.obj I.ok.mod.kin;obtain⟨oI,hoI,hcI⟩:=Option.map_eq_some_iff.mp G.fn
 have Y:(backTo cpos<|starEach [e] X.env).any (·.1)=false:=by
  rw[he];rfl
 refine Zqk (nm:=nm) (q:=q) (N:=N) (bs:=bs) (hdct:=hdct) (sn:=sn) (sub:=sub) (ab:=ab) (col:=col) (dd:=dd) (k0:=k0) (k1:=k1) (k2:=k2) (k3:=k3) (k5:=k5)
  V5 (by decide +kernel) V5 (hT.hasType<|by decide +kernel) (I.ok.hd hc) Y hni hcI (Sw I hg hm ⟨rfl,?_⟩ hdb)
 have hA:=ha cpos pins s σ H _ I h;rw[he]at hA ⊢;refine JC (thn hA ?_);rintro us s2 ⟨vs,U,J,r2,p2,xs,ev,hp,q2⟩;subst ev;obtain⟨u,rfl,ru⟩:=r2.one;obtain rfl:=ru;refine⟨rfl,by show 1<=_;rw[Jw];lia,J.bk _ _ hC,hN.keeps J.bk,hT.keeps J.bk,J.bk _ _ (I.ok.mod.kin _ _ hoI),λh' a n=>?_⟩;obtain⟨y,ht,_,_⟩:=n.there;have na:=Gi J.hok n.new;have I3:=Zfc (t':=s2.toks) J hex n.new n.keeps (O9 ht)
 have L:BY X.K [.ref a,.ref p2] (upd U a<|PY a C y none) (λv H3=>v=.non/\∃l g o,U l=none/\U g=none/\g≠l/\l≠a/\g≠a/\H3=upd (upd (upd (upd U a<|PY a C y none) l<|.frz o<|.lst xs) a<|PY a C y<|some g) g (.xd [("members",.ref l)])) (λ_ _ _=>False):=by
  refine⟨a,C,y,p2,xs,rfl,XG,(Own.Ki na).seq hp,G.st,G.nm,λl g o T Q h3=>⟨rfl,l,g,o,?_⟩⟩;have e1:l≠a:=λz=>by rw[z,XG]at T;cases T
  have e2:g≠a:=λz=>by rw[z,XG]at Q;cases Q
  rw[X1 e1]at T;rw[X1 e2]at Q;exact⟨T,Q,h3,e1,e2,rfl⟩
 have r3:Vals [V.ref a,V.ref p2] [Value.ref a,Value.ref p2]:=.cons rfl (.cons rfl .nil)
 have hl:([Value.ref a,Value.ref p2]++[]).length=ps.length:=by
  have:=F.len _ _ _ _ L
  exact this
 refine JB (Vx (F.run _ X.stack _ _ ⟨[Value.ref a,Value.ref p2],[]⟩ [Value.ref a,Value.ref p2] _ _ (λ_ _ _=>False) (hr.make C [.ref p2] []) (I3.env0.make C [.ref p2] []) (hb _ [Value.ref a,Value.ref p2] I3.kIn hl) r3 L) λr s' B=>?_);cases r with
 |error e=>exact False.elim B
 |ok fl=>
  cases fl with
  |ret u=>
   obtain⟨v,H',I4,rv,ev,l,g,o,n1,n2,n3,n4,n5,eH⟩:=I3.after B;subst ev;obtain rfl:=rv;have ea:H' a=some (PY a C y<|some g):=by rw[eH,X1 (Ne.symm n5),XG]
   have M:=(I4.hok a _ ea).1;refine⟨rfl,I4.bk _ _ hC,⟨y,some g,M⟩,hR pins σ (er H' a) s' C a y (some g) (forget I4 ea) M Aq (B5 J hex n.new) ?_⟩;rw[eH,Znl na n4 n5];exact q2 l g o n1 n2 n3
  |_=>exact False.elim B
def Zj6{K h base N qual scope f cd A outer s H E} :
  Lb (Kj (CXe P w) P w K h base N qual scope f cd A outer s H E) E:=by
 intro pins v u G C a t o I l n g q;exact Q3 (Oj I rfl rfl rfl g n l rfl rfl rfl rfl) (λ_ B ⟨r,y⟩=>⟨a,r,C,o,u,rfl,y,q⟩) λ_ _ z=>z
def Zmo{K vs H Q E D}(h:BY K vs H Q E)(v:D.nx=λ_ H'=>Q .non H') :
  Mx K "members" (KE 0) (tCB (λxs H Q=>∃p f,xs=[.ref p]/\(SqL K H p f\/SqT K H p f)/\∀l,H l=none->Q (.ref l) (upd H l<|.lst f))<|Kp (KE 1) KR) D (start ["self","members"] vs) H:=by
 obtain⟨a,C,t,p,xs,rfl,r,u,c,n,q⟩:=h;refine⟨_,rfl,p,xs,rfl,.inl u,λl s=>⟨_,rfl,a,C,t,l,xs,rfl,rfl,?_,c,n,XG,λo y g=>?_⟩⟩
 ·rw[X1 (K7 r s)];exact r
 ·have w:y≠l:=λz=>by rw[z,XG]at g;cases g
  rw[X1 w]at g;rw[v,Iv]
  grind
end
end ExcR
namespace Pu
open L2 Own M
section
variable {K:Ye}{mg:Yi}{E:L2.St->XK}{H0 H H1 H':Hp}{B Z Z':Addr->Prop}{σ:L2.St}{γ:Γ}
theorem Zaj:∀{ns:Yg}{vs:List V},Rps K H (ns.map D.int) vs->vs=ns.map V.int
 |[],_,h=>by cases h;rfl
 |n::ns,_,h=>by
  cases h with
  |cons h r=>rw[Zaj r,h.int_inv];rfl
noncomputable def Zjj(r:PTA):PTS:=λR γ=>r γ (λg=>match g with
 |[s]=>(∃f:Yg,s.d=.lst (f.map D.int)/\R.ex γ (NW f))
 |_=>False) (R.ex γ)
def Zpe{Ec}(T:XI K mg (λ_=>Ec) J r):X7 K mg (λ_=>Ec) (ExcR.LQ K (ExcR.Xx mg "Ringed") Ec J) (Zjj r):=by
 intro H0 B H σ γ R D hB f h e;refine T H0 B H σ γ _ _ _ f h (λss C H1 x z L=>?_) λc H' U A=>e.ex σ γ c H' U (f.grow A) (Fr.grow A);split at x
 ·rename_i s;obtain⟨n,ed,Y⟩:=x;obtain⟨v,rfl,G⟩:=L.one_inv;have g:=G.rp (f.grow z).same;rw[ed]at g;obtain⟨p,C,rfl,w,M⟩:=g.lst_inv;rw[Zaj M]at w;refine⟨p,_,rfl,SqL.of w,λl dx o N Q u=>?_⟩;have S2:Same H1 (upd (upd H1 l<|.frz o<|.lst<|n.map V.int) dx<|.xd [("members",.ref l)]):=(Ki N).trans (Ki<|by rw[X1 u];exact Q);have y:=z.trans S2;exact(e.ex σ γ (NW n) _ Y (f.grow y)<|Fr.grow y).mem XG (by rw[X1 (Ne.symm u)];exact XG)
 ·grind
noncomputable def Zhq(mg:Yi)(i:Nat)(l h:PTS):PTS:=λR γ=>l {R with ex:=λf c=>∃r,c=NW r/\h {nx:=λg=>R.nx (g.set i none),rt:=R.rt,ex:=λ_ _=>False,bk:=λg=>R.bk (g.set i none),ct:=λg=>R.ct (g.set i none),rv:=R.rv} (f.set i<|some<|.sh<|.erM (ExcR.Xx mg "Ringed") r)} γ
def Zrj{C0}{Q:Ends->TS}{ts}{U T}{E'}(J:PySem.W.exmOne K (.ref<|ExcR.Xx mg "Ringed") (.ref C0)=some true)(hb:∀D,X7 K mg (ExcR.hx K C0 i ts D) (Q D) U)(hh:X7 K mg E' ts T):X7 K mg E (λD σ H=>Q D D σ H) (Zhq mg i U T):=by
 intro H0 B H σ γ R D hB L h e;refine hb D H0 B H σ γ _ D hB L h ⟨e.nx,e.rt,λC G c H' hc A f'=>?_,e.bk,e.ct,e.rv⟩;obtain⟨r,rfl,hp⟩:=hc;refine .ofM λM l o hd hl=>⟨_,rfl,J,λa Y=>?_⟩;have N:=Ki (o:=ExcR.Px a (ExcR.Xx mg "Ringed") (some M)) Y
 have tv:TV K (zof B G C) H0 H' (upd H' a<|ExcR.Px a (ExcR.Xx mg "Ringed")<|some M) (.sh<|.erM (ExcR.Xx mg "Ringed") r) (.ref a):=
  .erM (XY XG λz=>by have:=A.zm a z;rw[Y]at this;exact this) (XY (N _ _ hd) λz=>by have:=A.zm M z;rw[hd]at this;exact this) (XY (N _ _ hl) λz=>by have:=A.zm l z;rw[hl]at this;exact this)
 obtain⟨e2,f2⟩:=A.set N tv rfl;have n:=f'.trans f2;refine hh H0 B _ _ _ _ _ hB e2 hp ⟨λf g w p u s=>?_,e.rt,λ_ _ _ _ z=>z.elim,λf g w p u s=>?_,λf g w p u s=>?_,λf g d v w p u s=>e.rv f g d v w p u (n.trans s)⟩
 ·obtain⟨y,x⟩:=u.gone i;exact e.nx _ _ w p y (n.trans<|s.trans x)
 ·obtain⟨y,x⟩:=u.gone i;exact e.bk _ _ w p y (n.trans<|s.trans x)
 ·obtain⟨y,x⟩:=u.gone i;exact e.ct _ _ w p y (n.trans<|s.trans x)
noncomputable def Zhi(f:Addr)(a:PTE):PTE:=λγ R X=>a γ (λs=>match s.d with
 | .erM C r=>C=f/\R (.sh<|.fL r)
 |_=>False) X
def Zrs(G:∃g,ExcR.Pg K Y g)(J:Xu K mg E te a):Xu K mg E (ExcR.Ig K "members" te) (Zhi Y a):=by
 obtain⟨g,c⟩:=G;intro H0 B H σ γ R X Q h p q A;refine J H0 B H σ γ _ X _ h p (λs v H1 u x y=>?_) A;have f:=h.grow x;have n:=y.rp f.same;split at u
 ·rename_i C r T;obtain⟨rfl,L⟩:=u;rw[T]at n;obtain⟨b,U,l,o,rfl,N,M,w⟩:=n.erM_inv;exact⟨b,_,g,U,_,.ref l,rfl,N,c,c.nm,M,rfl,q _ _ H1 L x (.fL (XY w λz=>by have:=f.zm l z;rw[w]at this;exact this))⟩
 ·grind
end
end Pu
namespace Pu
open L2 Own
structure RI (K:Ye) (x:Str) (C:Addr) (q:Str) (st:Stmt):Prop where
 a:PySem.W.nsIn K mainGlobals x=some (some<|.ref C)
 ex:∃f fd,ExcR.Pg K C f/\Fun K "__init__" q st f fd
section
variable {K:Ye}{h:Heap}{mg:Yi}{x q:Str}{st:Stmt}{C M N f:Addr}
def Zpn{cd:ClassData}(m:PySem.W.excIn K M ExcR.SZ "ValueError.__new__"=true):PySem.W.tailIn K ExcR.SZ (.ref M::ExcR.SZ)=true:=by
 unfold PySem.W.excIn at m;split at m
 next A cd sl g=>
  split at m
  next E B v u s r n p y w=>
   simp only[Q9,beq_iff_eq,Bool.not_eq_true']at m;obtain⟨⟨⟨_,z⟩,o⟩,l⟩:=m;unfold PySem.W.tailIn;rw[Bool.or_eq_true];right
   try dsimp only
   rw[g]
   try dsimp only
   rw[o,l];rfl
  grind
 next=>cases m
def ri{cd sl y k0 k1 k2 k3 k5 Q es n oc od T o kV s z g ct}(a:PySem.W.nsIn K mainGlobals x=some (some<|.ref C))(l:K.lookup C=some ⟨.type "type",dd,.cls cd,sl⟩)(u:cd.mro=.ref C :: .ref M::[.type "ValueError",.type "Exception",.type "BaseException",.type "object"])(dl:cd.hasDel=false)(r:cd.hasDict=true)(p:sl.toList=[k0,k1,k2,k3,some (.builtin "ValueError.__new__"),k5])(v:cd.ns=N)(E:K.lookup N=some ⟨Q,U,.dict es n,y⟩)(A:(es.toList.all λe=>match e.key with | .str _ _=>true|_=>false)=true)(i:PySem.W.nsIn K N "__init__"=some (some<|.ref f))(m:PySem.W.excIn K M [.type "ValueError",.type "Exception",.type "BaseException",.type "object"] "ValueError.__new__"=true)(fn:PySem.W.isFn K (.ref f)=true)(w:PySem.W.findIn K (.ref C) "__setattr__"=some (some<|.builtin "object.__setattr__"))(J:PySem.W.findIn K (.ref C) "__getattribute__"=some (some<|.builtin "BaseException.__getattribute__"))(H:PySem.W.findIn K (.ref C) "__getattr__"=some none)(G:PySem.W.findIn K (.ref C) "__class__"=some (some<|.builtin "object.__class__"))(nm:PySem.W.findIn K (.ref C) "members"=some none)(B:K.lookup f=some ⟨oc,od,.func (PySem.W.fnOf "__init__" q (P9 st) (XZ st) (Xv st) .none kV s z T g ct),o⟩)(c:PySem.W.codeIn K g q=true)(k:PySem.W.keepIn K (.ref f)=true):RI K x C q st:=by
 have L:PySem.W.clsIn K C=some cd:=by unfold PySem.W.clsIn;rw[l]
 refine⟨a,f,_,⟨?_,beq_iff_eq.mp fn,⟨?_,w⟩,J,H,nm,G⟩,F6 B c k⟩
 ·refine⟨dd,cd,sl,_,k0,k1,k2,k3,k5,l,u,p,dl,Zpn (cd:=cd) m,?_,by rw[v];exact i⟩;rw[v];unfold PySem.W.nsOkIn;rw[E];show(es.all _)=true;rw[←Array.all_toList];omega
 ·rw[L];show(ExcR.BP cd.mro&&cd.hasDict)=true;rw[u,r];rfl
def RI.c (y:RI K x C q st) (X:K.In h) (g:h.Ns mainGlobals mg):ExcR.Xx mg x=C:=ExcR.CL (QI X g y.a)
def RI.m (y:RI K x C q st) (X:K.In h) (g:h.Ns mainGlobals mg):mg x=some (.ref<|ExcR.Xx mg x):=by rw[y.c X g];exact QI X g y.a
def RI.i (y:RI K x C q st) (X:K.In h) (l:h.Ns mainGlobals mg):∃g,ExcR.Pg K (ExcR.Xx mg x) g:=by
 obtain⟨f,n,e,_⟩:=y.ex;rw[y.c X l]
 grind
def RI.d (y:RI K x C q st) (e:p=C)
  (b:∀kV g n o l ct us,us.length=ps.length->bindArgs (PySem.W.fnOf "__init__" q (P9 st) (XZ st) (Xv st) .none kV g n o l ct) ⟨us,[]⟩=pure (ps.zip us)):XJ K (ExcR.Pg K p) "__init__" q st ps:=
 let ⟨_,_,i,F⟩:=y.ex
 ⟨_,_,F,by rw[e];exact i,F.binds b⟩
def RI.j (y:RI K x C q st) (e:l=C) (b:Bd "__init__" q st ps:=by
  intro _ _ _ _ _ _ us g;obtain⟨_,_,rfl⟩:=Pu.BI g;rfl):XJ K (ExcR.Pg K l) "__init__" q st ps:=y.d e b
end
end Pu
namespace M
open L2 Own Pu
def Nj(g:Yg)(f:Yf)(X:Str->Prop)(A:Prop):Prop:=(∀r,FR g f r->r≠[]->X (NW r))/\((¬ ∃r,Ring g f r)->A)
def FR.one (h:FR B x r) (o:FR B x A):r=A:=by
 rcases h with⟨rfl,h⟩|⟨l,t,rfl,v,w,C⟩
 ·rcases o with⟨rfl,_⟩|⟨s,p,rfl,g,n,_⟩
  ·rfl
  ·exact absurd n (h s g p)
 ·rcases o with⟨rfl,o⟩|⟨s,p,rfl,g,n,u⟩
  ·exact absurd w (o l v t)
  ·rcases C s g p n with z|⟨z,y⟩
   ·grind
   ·rcases u l v t w with E|⟨_,f⟩
    ·lia
    ·rcases y with y|⟨rfl,y⟩
     ·rcases f with f|⟨rfl,_⟩<;>lia
     ·rcases f with f|⟨_,f⟩
      ·lia
      ·rcases y with rfl|y
       ·rfl
       ·rcases f with rfl|f
        ·rfl
        ·exact absurd f (AJ y)
noncomputable def pcc(ps:Yf):Int->Int->Int:=λx y=>pcM ps x y ps.length
end M
namespace Pu
open L2 Own
def hq{A}(h:X5 j A)(f:autoParam (k<=j) au_1):X5 k A:=h.mono f
section
variable {X:Cx}{sc:Scope}{elt iter tg:Expr}{ifs:Yo}{pos:Pos}{wi:TI}{g:TG}{tc:TT}{te:TE}{x:Str}
def cz(N':Yn)(φ:Yk)(r:PI X tg iter wi)(n:∀{o C f h ex},PG (Ky X N' sc o C f h ex) tg g/\NK (Ky X N' sc o C f h ex) ifs tc/\PE (Ky X N' sc o C f h ex) elt te)(l:autoParam (X.calm=true) au_0)(S:autoParam (BM sc X.env.scope X.N N' φ=true) au_0)(p:autoParam (∀x,foldedSetIterable iter X.env x=pure x) au_3):PE X (.ListComp elt [⟨tg,iter,ifs,0⟩] sc pos) (B9 φ wi g tc te):=Df l (.of S) r (λ_ _ _ _ _=>n) p
def gk(i:Nat)(l:autoParam (decide X.N.Nodup=true) au_9)(f:autoParam (X.N[i]?=some x) au_0)(hx:autoParam (Loc X.env.scope x) au_6)(h:autoParam (X.fn x=true\/X.env.scope.names.lookup x=some .local) au_2):PG X (.Name x pos) (Sn i):=Cz (WR l) f hx h
end
section
variable {P:Program}{w:World}{K:Ye}{mg:Yi}{base:Heap}{N ps:Yn}{sp:Sp}{p:PTS}{x q:Str}{st:Stmt}{k:Nat}{W:Addr->Prop}
def _root_.Own.Def.ez (D:Def K mg x st ps) (S:Xw N ps (Xv st))
  (h:∀{f g A outer s H} {E:XK},X5 k (A.deeper<|envOfC x (Xv st) s.heap.objs.size f g)->
   ∃t,PSs (Kj CX0 P w K mg base N x (Xv st) f g A outer s H E).nox (XZ st) t/\X7 K mg (λ_=>E) t p) (u:Uz K mg N ps sp p):Callee P w K mg base CX0 (k+1) x ps sp:=D.oz S (λ_ _ _ _ _ _ _=>h) u
def _root_.Own.Def.ey (D:Def K mg x st ps) (S:Xw N ps (Xv st))
  (h:∀{f g A outer s H} {E:XK},X5 k (A.deeper<|envOfC x (Xv st) s.heap.objs.size f g)->
   ∃t,PSs (Kj (ExcR.CXe P w) P w K mg base N x (Xv st) f g A outer s H E) (XZ st) t/\X7 K mg (λ_=>E) t p) (u:Uz K mg N ps sp p):Callee P w K mg base (ExcR.CXe P w) (k+1) x ps sp:=D.ox S (λ_ _ _ _ _ _ _=>h) u
def XJ.ez (D:XJ K W x q st ps) (S:Xw N ps (Xv st))
  (h:∀{f g A outer s H} {E:XK},X5 k (A.deeper<|envOfC q (Xv st) s.heap.objs.size f g)->
   ∃t,PSs (Kj CX0 P w K mg base N q (Xv st) f g A outer s H E).nox (XZ st) t/\X7 K mg (λ_=>E) t p) (u:Uz K mg N ps sp p):Po P w K mg base CX0 (k+1) W ps sp:=D.oz S (λ_ _ _ _ _ _ _=>h) u
def XJ.ey (D:XJ K W x q st ps) (S:Xw N ps (Xv st))
  (h:∀{f g A outer s H} {E:XK},X5 k (A.deeper<|envOfC q (Xv st) s.heap.objs.size f g)->
   ∃t,PSs (Kj (ExcR.CXe P w) P w K mg base N q (Xv st) f g A outer s H E) (XZ st) t/\X7 K mg (λ_=>E) t p) (u:Uz K mg N ps sp p):Po P w K mg base (ExcR.CXe P w) (k+1) W ps sp:=D.ox S (λ_ _ _ _ _ _ _=>h) u
end
structure Fit {ι:Type} (F:ι->Cx) (K:Ye) (mg:Yi):Prop where
 k:∀j,(F j).K=K
 m:∀j,(F j).mg=mg
section
variable {ι:Type} (F:ι->Cx) (K:Ye) (mg:Yi) (E:L2.St->XK)
structure CE (e:Expr) (p:PTE):Prop where
 h:Fit F K mg->∃t,(∀j,PE (F j) e t)/\Xu K mg E t p
structure CT (e:Expr) (p:PTT):Prop where
 h:Fit F K mg->∃t,(∀j,PT (F j) e t)/\KL K mg E t p
structure CW (e:Expr) (p:PTT):Prop where
 h:Fit F K mg->∃t,(∀j,PW (F j) e t)/\KL K mg E t p
structure CA (es:Yo) (p:PTA):Prop where
 h:Fit F K mg->∃t,(∀j,PA (F j) es t)/\XI K mg E t p
structure CS (s:Stmt) (p:PTS):Prop where
 h:Fit F K mg->∃t,(∀j,PS (F j) s t)/\X7 K mg E t p
structure CB (b:Yp) (p:PTS):Prop where
 h:Fit F K mg->∃t,(∀j,PSs (F j) b t)/\X7 K mg E t p
structure CI (tg e:Expr) (p:PTI):Prop where
 h:Fit F K mg->∃t,(∀j,PI (F j) tg e t)/\SndI K mg E t p
structure CJ (tg e:Expr) (p:PTI):Prop where
 h:Fit F K mg->∃t,(∀j,PI (F j) tg e t)/\SL K mg E t p
structure CG (e:Expr) (is:Yl) (p:PTG):Prop where
 h:Fit F K mg->∃t,(∀j,PG (F j) e t)/\Nm K is t p
structure CGs (es:Yo) (is:Yl) (p:Sj):Prop where
 h:Fit F K mg->∃t,(∀j,PGs (F j) es t)/\Bj K is t p
structure CF (es:Yo) (p:PTT):Prop where
 h:Fit F K mg->∃t,(∀j,NK (F j) es t)/\KL K mg E t p
end
section
variable {ι:Type}{F:ι->Cx}{K:Ye}{mg:Yi}{E:L2.St->XK}{e f g:Expr}{es:Yo}{a b c:PTE}{r:PTA}{x:Str}{pos p1:Pos}{k n:Nat}{s:Stmt}{d1 d2:Yp}{p q:PTS}{t u:PTT}{is:Yl}{pg:PTG}{it:PTI}
def xv(i:Nat)(o:autoParam (∀j,(F j).N[i]?=some x) au_3)(h:autoParam (∀j,Vis (F j).env.scope x) au_10)(hd:autoParam ((x==("__debug__" : Str))=false) au_1)(l:autoParam ((x==("__classdict__" : Str))=false) au_1):CE F K mg E (.Name x pos) (Do i):=.mk λ_=>⟨_,λj=>pv i (o j) (h j) hd l,Xt i⟩
def xi:CE F K mg E (.Constant (.int i) k pos) (pC<|.int i):=.mk λ_=>⟨_,λ_=>X9,X2⟩
def xb:CE F K mg E (.Constant (.bool i) k pos) (pC<|.bl i):=.mk λ_=>⟨_,λ_=>TX,Ng⟩
def xs:CE F K mg E (.Constant (.str i) k pos) (pC<|.str i):=.mk λ_=>⟨_,λ_=>NR,NB⟩
def xe(h:∀{j},PE (F j) e te)(k:Xu K mg E te a):CE F K mg E e a:=.mk λ_=>⟨_,λ_=>h,k⟩
def xo{r}(y:∀{X},OpR X (binaryOp l) r)(w:∀{t u},Xu K mg E t a->Xu K mg E u b->Xu K mg E (tOp r t u) c)(A:CE F K mg E e a)(B:CE F K mg E f b):CE F K mg E (.BinOp e l f pos) c:=
 .mk λh=>let ⟨_,C,v⟩:=A.h h;let ⟨_,z,o⟩:=B.h h;⟨_,λj=>NP y (C j) (z j),w v o⟩
def xx(A:CE F K mg E e a)(B:CE F K mg E f b)(v:autoParam (Ei f) au_7):CE F K mg E (.Subscript e f pos) (p2 a b fIx):=
 .mk λh=>let ⟨_,y,o⟩:=A.h h;let ⟨_,w,l⟩:=B.h h;⟨_,λj=>jx K (y j) (w j) (h.k j) v,XW o l⟩
def xl(w:mg "len"=none)(A:CE F K mg E e a)(y:autoParam (∀j,Gl (F j) "len") au_3)(v:autoParam (∀j,starEach [e] (F j).env=(false,eval e (F j).env)::starEach [] (F j).env) au_3)(l:autoParam (∀j,(backTo pos (starEach [] (F j).env)).any (·.1)=false) au_3) :
  CE F K mg E (.Call (.Name "len" p1) [e] [] pos) (pCB AH<|Pn a Nk):=
 .mk λh=>let ⟨_,z,o⟩:=A.h h;⟨_,λj=>ln K (by rw[h.m j];exact w) (z j) (h.k j) (y j) (v j) (l j),Au (sz o)⟩
def xf{ps v}(C:Callee P w K mg base CX0 k x ps (X0 mg v K))(H:∀j,X5 m (F j).A)(A:CA F K mg E (e::es) r)(N:autoParam (∀j,(F j).prog=P/\(F j).w=w/\(F j).base=base) au_11)(J:autoParam (k<=m) au_1)(L:autoParam (∀j,Gl (F j) x) au_3)(o:autoParam ((x==("__debug__" : Str))=false) au_1)(M:autoParam (∀j,starEach (e::es) (F j).env=(false,eval e (F j).env)::starEach es (F j).env) au_3)(l:autoParam (∀j,(backTo pos (starEach es (F j).env)).any (·.1)=false) au_3) :
  CE F K mg E (.Call (.Name x p1) (e::es) [] pos) (Gy v r):=
 .mk λh=>let ⟨_,Q,G⟩:=A.h h;⟨_,λj=>fz (by obtain⟨B,z,y⟩:=N j;rw[B,z,y,h.k j,h.m j];exact C) (H j) (Q j) J (L j) o (M j) (l j),TM G⟩
def xt(A:CA F K mg E es r):CE F K mg E (.Tuple es k pos) (Rj r):=.mk λh=>let ⟨_,o,l⟩:=A.h h;⟨_,λj=>Pz (o j),PJ l⟩
def xL(A:CA F K mg E es r):CE F K mg E (.List es pos) (O3 r):=.mk λh=>let ⟨_,o,l⟩:=A.h h;⟨_,λj=>KS (o j),PB l⟩
def a0:CA F K mg E [] Nk:=.mk λ_=>⟨_,λ_=>KF,XF⟩
def ac(A:CE F K mg E e a)(B:CA F K mg E es r)(y:autoParam (∀j,starEach (e::es) (F j).env=(false,eval e (F j).env)::starEach es (F j).env) au_3):CA F K mg E (e::es) (Pn a r):=
 .mk λh=>let ⟨_,w,o⟩:=A.h h;let ⟨_,v,l⟩:=B.h h;⟨_,λj=>Kb (w j) (v j) (y j),K6 o l⟩
def a1(A:CE F K mg E e a)(h:autoParam (∀j,starEach [e] (F j).env=(false,eval e (F j).env)::starEach [] (F j).env) au_3):CA F K mg E [e] (Pn a Nk):=ac A a0 h
def a2(A:CE F K mg E e a)(B:CE F K mg E f b)(l:autoParam (∀j,starEach [e,f] (F j).env=(false,eval e (F j).env)::starEach [f] (F j).env) au_3)(h:autoParam (∀j,starEach [f] (F j).env=(false,eval f (F j).env)::starEach [] (F j).env) au_3):CA F K mg E [e,f] (Pn a<|Pn b Nk):=ac A (a1 B h) l
def a3(A:CE F K mg E e a)(B:CE F K mg E f b)(C:CE F K mg E g c)(o:autoParam (∀j,starEach [e,f,g] (F j).env=(false,eval e (F j).env)::starEach [f,g] (F j).env) au_3)(l:autoParam (∀j,starEach [f,g] (F j).env=(false,eval f (F j).env)::starEach [g] (F j).env) au_3)(h:autoParam (∀j,starEach [g] (F j).env=(false,eval g (F j).env)::starEach [] (F j).env) au_3):CA F K mg E [e,f,g] (Pn a<|Pn b<|Pn c Nk):=ac A (a2 B C l h) o
def te(h:∀{j},PT (F j) e tt)(k:KL K mg E tt t):CT F K mg E e t:=.mk λ_=>⟨_,λ_=>h,k⟩
def tc{r}(y:∀{X},OpR X (compareOp l) r)(w:∀{t u},Xu K mg E t a->Xu K mg E u b->Xu K mg E (tOp r t u) c)(A:CE F K mg E e a)(B:CE F K mg E f b)(z:behindInMarks l f=false:=by exact Py _):CT F K mg E (.Compare e [l] [f] pos) (Se c):=
 .mk λh=>let ⟨_,G,v⟩:=A.h h;let ⟨_,C,o⟩:=B.h h;⟨_,λj=>TJ y (G j) (C j) z,PP (w v o)⟩
def tq(v:∀j,X5 n (F j).A)(A:CE F K mg E e a)(B:CE F K mg E f b):CT F K mg E (.Compare e [.Eq] [f] pos) (Se<|p2 a b<|Sh false):=
 .mk λh=>let ⟨_,y,o⟩:=A.h h;let ⟨_,w,l⟩:=B.h h;⟨_,λj=>cq K (v j) (y j) (w j) (h.k j),PP (S8 o l)⟩
def tn(v:∀j,X5 n (F j).A)(A:CE F K mg E e a)(B:CE F K mg E f b):CT F K mg E (.Compare e [.NotEq] [f] pos) (Se<|p2 a b<|Sh true):=
 .mk λh=>let ⟨_,y,o⟩:=A.h h;let ⟨_,w,l⟩:=B.h h;⟨_,λj=>cn K (v j) (y j) (w j) (h.k j),PP (HW o l)⟩
def ti(v:∀j,X5 n (F j).A)(A:CE F K mg E e a)(B:CE F K mg E f b)(w:autoParam (behindInMarks .In f=false) au_12):CT F K mg E (.Compare e [.In] [f] pos) (Se<|p2 a b<|fIn false):=
 .mk λh=>let ⟨_,z,o⟩:=A.h h;let ⟨_,y,l⟩:=B.h h;⟨_,λj=>TJ (FV (Pp<|v j)<|h.k j) (z j) (y j) w,PP (Bk o l)⟩
def tI(v:∀j,X5 n (F j).A)(A:CE F K mg E e a)(B:CE F K mg E f b)(w:autoParam (behindInMarks .NotIn f=false) au_12):CT F K mg E (.Compare e [.NotIn] [f] pos) (Se<|p2 a b<|fIn true):=
 .mk λh=>let ⟨_,z,o⟩:=A.h h;let ⟨_,y,l⟩:=B.h h;⟨_,λj=>TJ (Zdk (Pp<|v j)<|h.k j) (z j) (y j) w,PP (Bk o l)⟩
def tt(A:CE F K mg E e a)(o:autoParam (∀j whole,isTrue e (F j).env whole=(do let v ←whole;standAt e.pos;holding [v] (truthy v))) au_7):CT F K mg E e (OE a):=.mk λh=>let ⟨_,w,l⟩:=A.h h;⟨_,λj=>FP (w j) (h.k j) (o j),Zh9 l⟩
def tN(A:CT F K mg E e t):CT F K mg E (.UnaryOp .Not e pos) (HQ t):=.mk λh=>let ⟨_,o,l⟩:=A.h h;⟨_,λj=>FY (o j),Zfk l⟩
def tp(A:CW F K mg E e t):CT F K mg E e t:=.mk λh=>let ⟨_,o,l⟩:=A.h h;⟨_,λj=>(o j).pt,l⟩
def wa(A:CT F K mg E e t)(B:CW F K mg E (.BoolOp .And (f::es) pos) u):CW F K mg E (.BoolOp .And (e::f::es) pos) (OD t u):=.mk λh=>let ⟨_,w,o⟩:=A.h h;let ⟨_,v,l⟩:=B.h h;⟨_,λj=>Zg9 (w j) (v j),Zrp o l⟩
def wo(A:CT F K mg E e t)(B:CW F K mg E (.BoolOp .Or (f::es) pos) u):CW F K mg E (.BoolOp .Or (e::f::es) pos) (pOr t u):=.mk λh=>let ⟨_,w,o⟩:=A.h h;let ⟨_,v,l⟩:=B.h h;⟨_,λj=>Zh0 (w j) (v j),Zk8 o l⟩
def wA(A:CT F K mg E e t):CW F K mg E (.BoolOp .And [e] pos) t:=.mk λh=>let ⟨_,o,l⟩:=A.h h;⟨_,λj=>Zob (o j),l⟩
def wO(A:CT F K mg E e t):CW F K mg E (.BoolOp .Or [e] pos) t:=.mk λh=>let ⟨_,o,l⟩:=A.h h;⟨_,λj=>Zj7 (o j),l⟩
def se(h:∀{j},PS (F j) s l)(k:X7 K mg E l p):CS F K mg E s p:=.mk λ_=>⟨_,λ_=>h,k⟩
def sS(i:Nat)(y:∀j,(F j).N.Nodup)(A:CE F K mg E e a)(v:autoParam (∀j,(F j).N[i]?=some x) au_3)(hx:autoParam (∀j,Loc (F j).env.scope x) au_13)(o:autoParam (∀j,swapsWith e (some<|.Name x p1) pos.line (F j).env=pure false) au_3)(w:autoParam (∀j,(F j).fn x=true\/(F j).env.scope.names.lookup x=some .local) au_14):CS F K mg E (.Assign [.Name x p1] e pos) (Ea a<|Bz i):=
 .mk λh=>let ⟨_,z,l⟩:=A.h h;⟨_,λj=>pz i (y j) (z j) (v j) (hx j) (o j) (w j),T8 l (Ko i)⟩
def sR(A:CE F K mg E e a):CS F K mg E (.Return (some e) pos) (R4 a):=.mk λh=>let ⟨_,o,l⟩:=A.h h;⟨_,λj=>Ku (o j),Aa l⟩
def sF(i:Nat)(A:CS F K mg E s p):CS F K mg E s (GI i p):=.mk λh=>let ⟨_,o,l⟩:=A.h h;⟨_,o,Znp i l⟩
def sI(A:CT F K mg E e t)(B:CB F K mg E d1 p)(C:CB F K mg E d2 q):CS F K mg E (.If e d1 d2 pos) (IQ t p q):=.mk λh=>let ⟨_,z,v⟩:=A.h h;let ⟨_,y,o⟩:=B.h h;let ⟨_,w,l⟩:=C.h h;⟨_,λj=>Ay (z j) (y j) (w j),Zqa v o l⟩
def sE(A:CE F K mg E e a)(o:autoParam (∀j,swapsWith e none pos.line (F j).env=pure false) au_3):CS F K mg E (.Expr e pos) (RE a):=.mk λh=>let ⟨_,v,l⟩:=A.h h;⟨_,λj=>Pf (v j) (o j),SM l⟩
def sO(l:Yl)(C:∀{j},PassesOwn (model (F j).prog (F j).w) (F j).A (F j).env (F j).xe)(I:CI F K mg E f e it)(G:CG F K mg f is pg)(B:CB F K mg E d1 p)(H:autoParam (∀j,(F j).calm=true) au_3)(z:autoParam (∀j x,foldedSetIterable e (F j).env x=pure x) au_7) :
  CS F K mg E (.For f e d1 [] pos) (L3 l it pg p):=
 .mk λh=>let ⟨_,M,y⟩:=I.h h;let ⟨_,L,v⟩:=G.h h;let ⟨_,J,o⟩:=B.h h;⟨_,λj=>Zoe C (H j) (M j) (L j) (J j) (z j),Zmy l y v o⟩
def sW(l:Yl)(y:∀{j},PassesOwn (model (F j).prog (F j).w) (F j).A (F j).env (F j).xe)(A:CT F K mg E e t)(B:CB F K mg E d1 p):CS F K mg E (.While e d1 [] pos) (Ho l t p):=
 .mk λh=>let ⟨_,C,v⟩:=A.h h;let ⟨_,z,o⟩:=B.h h;⟨_,λj=>Zf3 y (C j) (z j),Zlq l v o⟩
def b0:CB F K mg E [] Oo:=.mk λ_=>⟨_,λ_=>Ab,Aj⟩
def b1(A:CS F K mg E s p):CB F K mg E [s] p:=.mk λh=>let ⟨_,o,l⟩:=A.h h;⟨_,λj=>P2 (o j),l⟩
def bc(A:CS F K mg E s p)(B:CB F K mg E d1 q):CB F K mg E (s::d1) (RO p q):=.mk λh=>let ⟨_,w,o⟩:=A.h h;let ⟨_,v,l⟩:=B.h h;⟨_,λj=>Hg (w j) (v j),Ru o l⟩
def bj(A:CS F K mg E s p)(B:CB F K mg E d1 q):CB F K mg E (s::d1) (Zae p q):=.mk λh=>let ⟨_,w,o⟩:=A.h h;let ⟨_,v,l⟩:=B.h h;⟨_,λj=>Zpx (w j) (v j),Zfj o l⟩
def iL(A:CE F K mg E e a):CI F K mg E f e (pIL a):=.mk λh=>let ⟨_,o,l⟩:=A.h h;⟨_,λj=>Nr (o j) (h.k j),Znh l⟩
def ir(v:mg "range"=none)(A:CA F K mg E [e] r)(w:autoParam (∀j,Gl (F j) "range") au_3)(o:autoParam (∀j,starEach [e] (F j).env=[(false,eval e (F j).env)]) au_3):CI F K mg E f (.Call (.Name "range" p1) [e] [] pos) (IC r):=
 .mk λh=>let ⟨_,y,l⟩:=A.h h;⟨_,λj=>Zmf (w j) (by rw[h.m j];exact v) (y j) (o j),Zp4 l⟩
def iR(w:mg "range"=none)(A:CA F K mg E [e,g] r)(y:autoParam (∀j,Gl (F j) "range") au_3)(v:autoParam (∀j,starEach [e,g] (F j).env=[(false,eval e (F j).env),(false,eval g (F j).env)]) au_3)(l:autoParam (∀j,starEach [g] (F j).env=[(false,eval g (F j).env)]) au_3):CI F K mg E f (.Call (.Name "range" p1) [e,g] [] pos) (RK r):=
 .mk λh=>let ⟨_,z,o⟩:=A.h h;⟨_,λj=>Zhe (y j) (by rw[h.m j];exact w) (z j) (v j) (l j),Zpm o⟩
def je(h:∀{j},PI (F j) f e l)(k:SL K mg E l it):CJ F K mg E f e it:=.mk λ_=>⟨_,λ_=>h,k⟩
def jL(A:CE F K mg E e a):CJ F K mg E f e (OZ a):=.mk λh=>let ⟨_,o,l⟩:=A.h h;⟨_,λj=>Nr (o j) (h.k j),SB l⟩
def jI(I:CI F K mg E f e it):CJ F K mg E f e it:=.mk λh=>let ⟨_,o,l⟩:=I.h h;⟨_,o,l.c⟩
def gN(i:Nat)(o:autoParam (∀j,decide (F j).N.Nodup=true) au_15)(h:autoParam (∀j,(F j).N[i]?=some x) au_3)(hx:autoParam (∀j,Loc (F j).env.scope x) au_13)(l:autoParam (∀j,(F j).fn x=true\/(F j).env.scope.names.lookup x=some .local) au_14):CG F K mg (.Name x pos) [i] (Bz i):=.mk λ_=>⟨_,λj=>gk i (o j) (h j) (hx j) (l j),Ko i⟩
def gT(n:Nat){pr}(G:CGs F K mg es is pr)(w:autoParam (∀j,(F j).calm=true) au_3)(v:autoParam (∀j,(assignEach es (F j).env).length=n) au_3)(l:autoParam (∀j,(assignEach es (F j).env).findIdx? (·.1)=none) au_3):CG F K mg (.Tuple es k pos) is (AR n pr):=
 .mk λh=>let ⟨_,y,o⟩:=G.h h;⟨_,λj=>FA (w j) (y j) (h.k j) (v j) (l j),E8 o⟩
def g0:CGs F K mg [] [] Hj:=.mk λ_=>⟨_,λ_=>FH,Cg⟩
def gc(G:CG F K mg e is pg)(B:CGs F K mg es w l)(y:autoParam (∀j,(assignEach (e::es) (F j).env).map (·.2)=assign e (F j).env::(assignEach es (F j).env).map (·.2)) au_3):CGs F K mg (e::es) (is++w) (OQ pg l):=
 .mk λh=>let ⟨_,A,v⟩:=G.h h;let ⟨_,z,o⟩:=B.h h;⟨_,λj=>NZ (A j) (z j) (y j),By v o⟩
def f0:CF F K mg E [] Lq:=.mk λ_=>⟨_,λ_=>Nz,NO⟩
def f1(A:CT F K mg E e t):CF F K mg E [e] t:=.mk λh=>let ⟨_,o,l⟩:=A.h h;⟨_,λj=>FQ (o j),l⟩
noncomputable abbrev Blk(F:ι->Cx)(N':Yn)(h:Scope):ι×List (Str×Addr)×Addr×Shared×Hp×List Addr->Cx:=λj=>Ky (F j.1) N' h j.2.1 j.2.2.1 j.2.2.2.1 j.2.2.2.2.1 j.2.2.2.2.2
def xC(N':Yn)(φ:Yk)(I:CJ F K mg E f e it)(G:CG (Blk F N' v) K mg f is pg)(T:CF (Blk F N' v) K mg E es t)(A:CE (Blk F N' v) K mg E g a)(hc:autoParam (∀j,(F j).calm=true) au_3)(S:autoParam (∀j,BM v (F j).env.scope (F j).N N' φ=true) au_3)(hs:autoParam (∀j x,foldedSetIterable e (F j).env x=pure x) au_7)(h1:autoParam ((φ.filterMap id).Nodup) au_1)(h2:autoParam (∀j∈is,φ[j]?=some none) au_1) :
  CE F K mg E (.ListComp g [⟨f,e,es,0⟩] v pos) (Gp φ it pg t a):=.mk λh=>by
 have w:Fit (Blk F N' v) K mg:=⟨λj=>h.k j.1,λj=>h.m j.1⟩;obtain⟨_,Y,L⟩:=I.h h;obtain⟨_,U,J⟩:=G.h w;obtain⟨_,Q,H⟩:=T.h w;obtain⟨_,M,B⟩:=A.h w;exact⟨_,λj=>Df (hc j) (.of<|S j) (Y j) (λz C l o y=>⟨U (j,z,C,l,o,y),Q (j,z,C,l,o,y),M (j,z,C,l,o,y)⟩) (hs j),Tv L J H B h1 h2⟩
def sN(i:Nat)(A:CS F K mg E s p):CS F K mg E s (pNm i p):=.mk λh=>let ⟨_,o,l⟩:=A.h h;⟨_,o,Zkt i l⟩
def sr(A:CE F K mg E e a):CS F K mg E (.Return (some e) pos) (Ha a):=.mk λh=>let ⟨_,o,l⟩:=A.h h;⟨_,λj=>Ku (o j),Zr6 l⟩
def sV(i:Nat)(o:autoParam (∀j,(F j).N[i]?=some x) au_3)(h:autoParam (∀j,Vis (F j).env.scope x) au_10)(hd:autoParam ((x==("__debug__" : Str))=false) au_1)(l:autoParam ((x==("__classdict__" : Str))=false) au_1):CS F K mg E (.Return (some<|.Name x p1) pos) (DQ i):=.mk λ_=>⟨_,λj=>Ku (pv i (o j) (h j) hd l),Zeq i⟩
def sA(i:Nat)(A:CE F K mg E e a)(G:autoParam (∀j,(F j).N[i]?=some x) au_3)(B:autoParam (∀j,Vis (F j).env.scope x) au_10)(hd:autoParam ((x==("__debug__" : Str))=false) au_1)(C:autoParam ((x==("__classdict__" : Str))=false) au_1){apos cpos}(v:autoParam (∀j,attributeBase (.Name x p1) "append" (F j).env (eval (.Name x p1) (F j).env)=eval (.Name x p1) (F j).env) au_3)(w:autoParam (∀j,((backTo cpos (starEach [e] (F j).env)).all (λx=>!x.1)&&(backToKw cpos (keywordEach [] (F j).env)).all (λx=>x.1.isSome)&&decide ([e].length+([]:List Keyword).length+(if ([]:List Keyword).isEmpty then 0 else 1)<30))=true) au_3)(o:autoParam ((apos.endLine==cpos.line)=true) au_0)(y:autoParam (∀j,starEach [e] (F j).env=(false,eval e (F j).env)::starEach [] (F j).env) au_3)(l:autoParam (∀j,(backTo cpos (starEach [] (F j).env)).any (·.1)=false) au_3)(hw:autoParam (∀j,swapsWith (.Call (.Attribute (.Name x p1) "append" apos) [e] [] cpos) none pos.line (F j).env=pure false) au_3):CS F K mg E (.Expr (.Call (.Attribute (.Name x p1) "append" apos) [e] [] cpos) pos) (Gg i a):=
 .mk λh=>let ⟨_,H,z⟩:=A.h h;⟨_,λj=>Pf (Em Q0 VF VG Bw (pv i (G j) (B j) hd C) (Kb (H j) KF<|y j) (h.k j) (v j) (w j) o (y j)<|l j) (hw j),Zi4 i z⟩
def sU(i:Nat){l o}(B:∀j,(F j).N.Nodup)(w:∀{X},PIp X l (ipI o))(A:CE F K mg E e a)(y:autoParam (∀j,(F j).N[i]?=some x) au_3)(hx:autoParam (∀j,Loc (F j).env.scope x) au_13)(z:autoParam (∀j,(F j).fn x=true\/(F j).env.scope.names.lookup x=some .local) au_14):CS F K mg E (.AugAssign (.Name x p1) l e pos) (D4 i o a):=
 .mk λh=>let ⟨_,C,v⟩:=A.h h;⟨_,λj=>Zpa (B j) (y j) (hx j) (C j) w (z j),Zdq v⟩
def sC(i:Nat)(N':Yn)(φ:Yk){y py spos}(hN:∀j,(F j).N.Nodup)(I:CJ F K mg E f e it)(G:CG (Blk F N' v) K mg f is pg)(T:CF (Blk F N' v) K mg E es t)(A:CE (Blk F N' v) K mg E g a)(hy:autoParam (∀j,(F j).N[i]?=some y) au_3)(hl:autoParam (∀j,(F j).env.scope.names.lookup y=some .local) au_3)(hc:autoParam (∀j,(F j).calm=true) au_3)(S:autoParam (∀j,BM v (F j).env.scope (F j).N N' φ=true) au_3)(hs:autoParam (∀j x,foldedSetIterable e (F j).env x=pure x) au_7)(h1:autoParam ((φ.filterMap id).Nodup) au_1)(h2:autoParam (∀j∈is,φ[j]?=some none) au_1)(hw:autoParam (∀j,swapsWith (.ListComp g [⟨f,e,es,0⟩] v pos) (some<|.Name y py) spos.line (F j).env=pure true) au_3) :
  CS F K mg E (.Assign [.Name y py] (.ListComp g [⟨f,e,es,0⟩] v pos) spos) (Ea (Gp φ it pg t a)<|Bz i):=.mk λh=>by
 have w:Fit (Blk F N' v) K mg:=⟨λj=>h.k j.1,λj=>h.m j.1⟩;obtain⟨_,i1,M⟩:=I.h h;obtain⟨_,Y,L⟩:=G.h w;obtain⟨_,U,J⟩:=T.h w;obtain⟨_,Q,H⟩:=A.h w;exact⟨_,λj=>Zj2 (hN j) (hy j) (hl j) (hc j) (.of<|S j) (i1 j) (λB C l o z=>⟨Y (j,B,C,l,o,z),U (j,B,C,l,o,z),Q (j,B,C,l,o,z)⟩) (hs j) (hw j),T8 (Tv M L J H h1 h2) (Ko i)⟩
def sX(i:Nat)(B:CE F K mg E f b)(A:CE F K mg E e a)(M:autoParam (∀j,(F j).N[i]?=some x) au_3)(G:autoParam (∀j,Vis (F j).env.scope x) au_10)(hd:autoParam ((x==("__debug__" : Str))=false) au_1)(J:autoParam ((x==("__classdict__" : Str))=false) au_1){q1}(L:autoParam (∀j v,assign (.Subscript (.Name x p1) f q1) (F j).env v=(do
   let l ←holding [v] (eval (.Name x p1) (F j).env)
   let o ←holding [v,l] (eval f (F j).env)
   standAt q1
   holding [v,l,o] (setItem l o v)
   release [v,l,o] [])) au_7)(H:autoParam (∀j,swapsWithSole [.Subscript (.Name x p1) f q1] e pos.line (F j).env=pure false) au_3)(hw:autoParam (∀j,swappedStores [.Subscript (.Name x p1) f q1] e (F j).env=pure none) au_3)(Q:autoParam (∀j,(assignEach [.Subscript (.Name x p1) f q1] (F j).env).map (·.2)=[assign (.Subscript (.Name x p1) f q1) (F j).env]) au_3):CS F K mg E (.Assign [.Subscript (.Name x p1) f q1] e pos) (E9 i b a):=
 .mk λh=>let ⟨_,C,y⟩:=B.h h;let ⟨_,z,w⟩:=A.h h;⟨_,λj=>Zqy (z j) (Zo8 (pv i (M j) (G j) hd J) (C j) Zol<|L j) (H j) (hw j) (Q j),Zhf i y w⟩
structure CO {ι:Type} (F:ι->Cx) (K:Ye) (mg:Yi) (E:L2.St->XK) (o:Option Expr) (p:PTO):Prop where
 h:Fit F K mg->∃t,(∀j,PO (F j) o t)/\T6 K mg E t p
def o0:CO F K mg E none Ob:=.mk λ_=>⟨_,λ_=>DB,CC⟩
def o1(A:CE F K mg E e a):CO F K mg E (some e) (Ma a):=.mk λh=>let ⟨_,o,l⟩:=A.h h;⟨_,λj=>Bl (o j),BQ l⟩
def xp{lo o l u v}(A:CE F K mg E e a)(L:CO F K mg E lo l)(U:CO F K mg E o u):CE F K mg E (.Subscript e (.Slice lo o none v) pos) (pSl a l u):=
 .mk λh=>let ⟨_,G,z⟩:=A.h h;let ⟨_,C,y⟩:=L.h h;let ⟨_,B,w⟩:=U.h h;⟨_,λj=>Ae (Ag<|h.k j) (G j) (C j) (B j),Zoz z y w⟩
def xn(A:CE F K mg E e a):CE F K mg E (.UnaryOp .Not e pos) (MC a):=.mk λh=>let ⟨_,o,l⟩:=A.h h;⟨_,λj=>OL (o j),Ou l⟩
def x0:CE F K mg E (.Constant .none k pos) (pC .non):=.mk λ_=>⟨_,λ_=>Zc1,Zru⟩
def sQ{cpos v}(B:ExcR.Kr K (ExcR.Xx mg x))(y:mg x=some (.ref<|ExcR.Xx mg x))(H:∀{j},ExcR.DV (F j) v)(A:CA F K mg (λ_=>v) (e::es) r)(G:autoParam (∀j,(F j).calm=true) au_3)(z:autoParam (∀j,Gl (F j) x) au_3)(o:autoParam ((x==("__debug__" : Str))=false) au_1)(C:autoParam (∀j,starEach (e::es) (F j).env=(false,eval e (F j).env)::starEach es (F j).env) au_3)(l:autoParam (∀j,(backTo cpos (starEach es (F j).env)).any (·.1)=false) au_3)(hx:autoParam (NJ x=none) au_0) :
  CS F K mg (λ_=>v) (.Raise (some<|.Call (.Name x p1) (e::es) [] cpos) none pos) (L4 x r):=
 .mk λh=>let ⟨_,J,w⟩:=A.h h;⟨_,λj=>ExcR.Zc9 (by rw[h.k j];exact B.c) (by rw[h.m j];exact y) H (G j) (J j) (z j) o (C j) (l j),Zqr w hx⟩
def xg{ps y v}(C:Callee P w K mg base (ExcR.CXe P w) k x ps (X0 mg y K))(J:∀j,X5 m (F j).A)(hx:∀{j},P5 (ExcR.CXe P w) (F j) v)(A:CA F K mg (λ_=>v) (e::es) r)(Q:autoParam (∀j,(F j).prog=P/\(F j).w=w/\(F j).base=base) au_11)(L:autoParam (k<=m) au_1)(M:autoParam (∀j,Gl (F j) x) au_3)(o:autoParam ((x==("__debug__" : Str))=false) au_1)(N:autoParam (∀j,starEach (e::es) (F j).env=(false,eval e (F j).env)::starEach es (F j).env) au_3)(l:autoParam (∀j,(backTo pos (starEach es (F j).env)).any (·.1)=false) au_3) :
  CE F K mg (λ_=>v) (.Call (.Name x p1) (e::es) [] pos) (IJ y r):=
 .mk λh=>let ⟨_,T,H⟩:=A.h h;⟨_,λj=>FJ (by obtain⟨G,B,z⟩:=Q j;rw[G,B,z,h.k j,h.m j];exact C) ((J j).mono L) hx (T j) (M j) o (N j) (l j),Zgm H⟩
variable {pw:PTW}
end
section
variable {P:Program}{w:World}{K:Ye}{mg:Yi}{base:Heap}{N ps:Yn}{sp:Sp}{p:PTS}{x q:Str}{st:Stmt}{k:Nat}{W:Addr->Prop}
def _root_.Own.Def.fz (D:Def K mg x st ps) (S:Xw N ps (Xv st))
  (o:∀{f g A outer s H} {E:XK},(∀{n:Type},n->X5 k (A.deeper<|envOfC x (Xv st) s.heap.objs.size f g))->(Unit->N.Nodup)->
   CB (λ_:Unit=>(Kj CX0 P w K mg base N x (Xv st) f g A outer s H E).nox) K mg (λ_=>E) (XZ st) p) (u:Uz K mg N ps sp p):Callee P w K mg base CX0 (k+1) x ps sp:=
 D.ez S (λr=>let ⟨t,h,l⟩:=(o (λ_=>r) λ_=>S.nd).h ⟨λ_=>rfl,λ_=>rfl⟩;⟨t,h (),l⟩) u
def _root_.Own.Def.fy (D:Def K mg x st ps) (S:Xw N ps (Xv st))
  (o:∀{f g A outer s H} {E:XK},(∀{n:Type},n->X5 k (A.deeper<|envOfC x (Xv st) s.heap.objs.size f g))->(Unit->N.Nodup)->
   CB (λ_:Unit=>Kj (ExcR.CXe P w) P w K mg base N x (Xv st) f g A outer s H E) K mg (λ_=>E) (XZ st) p) (u:Uz K mg N ps sp p):Callee P w K mg base (ExcR.CXe P w) (k+1) x ps sp:=
 D.ey S (λr=>let ⟨t,h,l⟩:=(o (λ_=>r) λ_=>S.nd).h ⟨λ_=>rfl,λ_=>rfl⟩;⟨t,h (),l⟩) u
def XJ.fz (D:XJ K W x q st ps) (S:Xw N ps (Xv st))
  (o:∀{f g A outer s H} {E:XK},(∀{n:Type},n->X5 k (A.deeper<|envOfC q (Xv st) s.heap.objs.size f g))->(Unit->N.Nodup)->
   CB (λ_:Unit=>(Kj CX0 P w K mg base N q (Xv st) f g A outer s H E).nox) K mg (λ_=>E) (XZ st) p) (u:Uz K mg N ps sp p):Po P w K mg base CX0 (k+1) W ps sp:=
 D.ez S (λr=>let ⟨t,h,l⟩:=(o (λ_=>r) λ_=>S.nd).h ⟨λ_=>rfl,λ_=>rfl⟩;⟨t,h (),l⟩) u
def XJ.fy (D:XJ K W x q st ps) (S:Xw N ps (Xv st))
  (o:∀{f g A outer s H} {E:XK},(∀{n:Type},n->X5 k (A.deeper<|envOfC q (Xv st) s.heap.objs.size f g))->(Unit->N.Nodup)->
   CB (λ_:Unit=>Kj (ExcR.CXe P w) P w K mg base N q (Xv st) f g A outer s H E) K mg (λ_=>E) (XZ st) p) (u:Uz K mg N ps sp p):Po P w K mg base (ExcR.CXe P w) (k+1) W ps sp:=
 D.ey S (λr=>let ⟨t,h,l⟩:=(o (λ_=>r) λ_=>S.nd).h ⟨λ_=>rfl,λ_=>rfl⟩;⟨t,h (),l⟩) u
end
mutual
noncomputable def py:D->PyData
 | .int i=>.int i
 | .bl b=>.bool b
 | .str x=>.str x
 | .tup f=>.tuple (pys f)
 | .lst f=>.list (pys f)
 | .fL g=>.list (g.map .int)
 |_=>.none
noncomputable def pys:List D->List PyData
 |[]=>[]
 |d::r=>py d::pys r
end
mutual
noncomputable def okS:D->Bool
 | .int _=>true
 | .bl _=>true
 | .str _=>true
 | .tup f=>TK f
 | .lst f=>TK f
 | .fL _=>true
 | .non=>true
 |_=>false
noncomputable def TK:List D->Bool
 |[]=>true
 |d::r=>okS d&&TK r
end
theorem okSs_iff:∀{ds:List D},TK ds=true↔∀d∈ds,okS d=true
 |[]=>by simp[TK]
 |d::r=>by
  unfold TK;rw[Q9,okSs_iff];simp
theorem Bx{g:Type}(f:g->D):∀xs:List g,pys (xs.map f)=xs.map λx=>py (f x)
 |[]=>rfl
 |x::r=>by
  rw[Qf,Qf];unfold pys;rw[Bx f r]
def RdV(H:Hp)(v:V)(p:PyData):Prop:=∀(P:Program) (w:World) (h:Heap) (u:Value),HOk P w H h->RelV v u->∃f,Reads h u p f
def Zqj(H:Hp)(vs:List V)(ps:List PyData):Prop:=∀(P:Program) (w:World) (h:Heap) (f:Ym),HOk P w H h->Vals vs f->∃g,ReadsAll h f ps g
theorem MH{h:Heap}:∀{ns:Yg}{us:Ym},Vals (ns.map V.int) us->∃f,ReadsAll h us (ns.map .int) f
 |[],_,r=>by cases r;exact⟨_,.nil⟩
 |n::ns,_,r=>by
  cases r with
  |cons l g=>
   obtain⟨t,rfl⟩:=l;obtain⟨f,q⟩:=MH g;exact⟨_,.cons (.int _ _) q⟩
section
variable {K:Ye}{H:Hp}
def Rp.reads {d:D}{v:V}:Rp K H d v->okS d=true->RdV H v (py d):=by
 have f:∀{d} {P:Prop},okS d=false->okS d=true->P:=λh e=>by rw[h]at e;cases e
 refine Rp.rec (motive_1:=λd v _=>okS d=true->RdV H v (py d)) (motive_2:=λy z _=>TK y=true->Zqj H z (pys y)) ?_ ?_ ?_ ?_ (λ_=>f rfl) ?_ ?_ (λ_=>f rfl) (λ_=>f rfl) (λ_=>f rfl) (λ_=>f rfl) (λ_ _=>f rfl) (λ_=>f rfl) (λ_=>f rfl) (λ_ _ _=>f rfl) ?_ (λ_ _ _ _=>f rfl) ?_ ?_
 ·intro i _ P w h u ok r;obtain⟨t,rfl⟩:=r;exact⟨_,.int _ _⟩
 ·intro b _ P w h u ok r;cases r
  exact⟨_,.bool _⟩
 ·intro _ P w h u ok r;cases r
  exact⟨_,.none⟩
 ·intro x _ P w h u ok r;obtain⟨t,rfl⟩:=r;exact⟨_,.str _ _⟩
 ·intro y z a s E A e P w h u ok r;cases r
  obtain⟨_,g,l,o,p,N,n,hd⟩:=(show ObjOk P w H h _ (.tup _)from ok _ _ s)
  obtain⟨B,q⟩:=A (by unfold okS at e;exact e) P w h g ok l;exact⟨_,.tuple p N hd (by simpa using q)⟩
 ·intro y z a s E A e P w h u ok r;cases r
  obtain⟨_,g,n,l,p⟩:=(show ObjOk P w H h _ (.lst _)from ok _ _ s)
  obtain⟨B,q⟩:=A (by unfold okS at e;exact e) P w h g ok l;exact⟨_,.list p rfl rfl (by simpa using q)⟩
 ·intro a o Q s _ P w h u ok r;cases r
  obtain⟨_,_,g,n,l,p⟩:=(show ObjOk P w H h _ (.frz _<|.lst _)from ok _ _ s)
  obtain⟨B,q⟩:=MH (h:=h) l;exact⟨_,.list p rfl rfl (by simpa using q)⟩
 ·intro _ P w h C ok r;cases r
  exact⟨_,.nil⟩
 ·intro d v y z _ _ M L e P w h C ok r;unfold TK at e;rw[Q9]at e;cases r with
  |cons a b=>
   obtain⟨B,J⟩:=M e.1 P w h _ ok a;obtain⟨bs,G⟩:=L e.2 P w h _ ok b;exact⟨_,.cons J G⟩
end
structure Rk (p:PyData) (k b:Nat):Prop where
 ls:p.leavesShort 24=true
 sh:p.showable=true
 hd:p.hasDict=false
 bk:p.bulk<=b
 dp:p.depth<=k
structure RkA (ps:List PyData) (k b:Nat):Prop where
 ls:PyData.leavesShortAll 24 ps=true
 sh:PyData.showableAll ps=true
 hd:PyData.hasDictAll ps=false
 bk:PyData.bulkAll ps<=b
 dp:PyData.depthAll ps<=k
def Rk.int {i:Int} (h:i.natAbs<10 ^ 23) (k b:Nat):Rk (.int i) k b:=by
 refine⟨?_,?_,by simp only[PyData.hasDict],by simp only[PyData.bulk];lia,by simp only[PyData.depth];lia⟩
 ·simp only[PyData.leavesShort,V8]
  have:=int_text_length_le10 (a:=i) (k:=23) (by decide) h
  rw[PyData.shown_int,PySem.ofString_length];exact this
 ·simp only[PyData.showable,V8];by_cases z:i.natAbs=0
  ·rw[z];decide
  ·exact Qs ((Nat.log2_lt z).mpr (VC h<|show 10 ^ 23<2 ^ 77 by decide)) (by decide)
def RkA.nil (k b:Nat):RkA [] k b:=⟨rfl,rfl,rfl,by simp only[PyData.bulkAll];lia,by simp only[PyData.depthAll];lia⟩
def RkA.cons {p:PyData}{ps:List PyData}{k b1 b2 b:Nat} (h:Rk p k b1) (r:RkA ps k b2) (f:b1+1+b2<=b):RkA (p::ps) k b:=by
 refine⟨?_,?_,?_,?_,?_⟩
 ·simp only[PyData.leavesShortAll,h.ls,r.ls,Bool.and_self]
 ·simp only[PyData.showableAll,h.sh,r.sh,Bool.and_self]
 ·simp only[PyData.hasDictAll,h.hd,r.hd,Bool.or_self]
 ·simp only[PyData.bulkAll];have:=h.bk;have:=r.bk;lia
 ·simp only[PyData.depthAll];have:=h.dp;have:=r.dp;lia
theorem RkA.map {g:Type}{f:g->PyData}{k b:Nat}:∀{xs:List g},(∀x∈xs,Rk (f x) k b)->RkA (xs.map f) k (xs.length*(b+1))
 |[],_=>.nil _ _
 |x::r,h=>by
  rw[Qf];refine .cons (h x Q2) (RkA.map λy l=>h y (Qk _ l)) ?_;rw[Qe,Nat.add_mul];lia
def Rk.list {ps:List PyData}{k b b':Nat} (h:RkA ps k b) (f:autoParam (b<=b') au_16):Rk (.list ps) (k+1) b':=by
 refine⟨?_,?_,?_,?_,?_⟩
 ·simp only[PyData.leavesShort];exact h.ls
 ·simp only[PyData.showable];exact h.sh
 ·simp only[PyData.hasDict];exact h.hd
 ·simp only[PyData.bulk];have:=h.bk;lia
 ·simp only[PyData.depth];have:=h.dp;lia
def Rk.tuple {ps:List PyData}{k b b':Nat} (h:RkA ps k b) (f:autoParam (b<=b') au_16):Rk (.tuple ps) (k+1) b':=by
 refine⟨?_,?_,?_,?_,?_⟩
 ·simp only[PyData.leavesShort];exact h.ls
 ·simp only[PyData.showable];exact h.sh
 ·simp only[PyData.hasDict];exact h.hd
 ·simp only[PyData.bulk];have:=h.bk;lia
 ·simp only[PyData.depth];have:=h.dp;lia
def Rk.mono {p:PyData}{k k' b b':Nat} (h:Rk p k b) (f:k<=k') (g:b<=b'):Rk p k' b':=⟨h.ls,h.sh,h.hd,WZ h.bk g,WZ h.dp f⟩
def Rk.fits {p:PyData}{k b:Nat} (h:Rk p k b) (f:b<=200000):p.shown.length<=sizeLine:=by
 have l:=PyData.shown_le_bulk 24 (by decide) p h.ls;have g:=h.bk;rw[Jw];lia
end Pu
namespace Own
open L2
section
variable {X:Cx}
def GZ:List V->Hp->VK->Prop:=λxs H Q=>∃a p,xs=[.ref a]/\Pu.RdV H (.ref a) p/\Pu.Rk p 60 200000/\Q (.str p.shown) H
def Zap(o:X.A.guards=some [])(z:X.A.units+64<cLine):Kv X (.builtin "repr") GZ:=by
 intro pins s v H xs x Q I r h;obtain⟨a,p,rfl,n,f,q⟩:=h;obtain⟨u,rfl,g⟩:=r.one;obtain rfl:u=Value.ref a:=g;obtain⟨C,l⟩:=n X.prog X.w s.heap (.ref a) I.hok rfl;exact repr_of_reads' l f.sh (PyData.noDict_hsm f.hd) o (by have:=f.dp;lia) (λ_ _ e=>e) (λB u y hx=>⟨.str _,H,I.kept hx,⟨_,rfl⟩,q⟩) (f.fits<|WU _)
end
end Own
namespace Pu
open L2 Own
section
variable {K:Ye}{mg:Yi}{E:L2.St->XK}
structure Zn0 (d:D) (R:S->Prop):Prop where
 w:okS d=true/\(∃ds,d=.lst ds)/\Rk (py d) 60 200000/\R (.sh (.str (py d).shown))
def Rt:List S->(S->Prop)->Prop
 |[s],R=>Zn0 s.d R
 |_,_=>False
def Ra{g:TA}{r:PTA}(u:XI K mg E g r):Xu K mg E (tCB GZ g) (pCB Rt r):=by
 refine P6 u λN H A Z G B R Q o J L l h q=>?_;unfold Rt at h;split at h
 ·rename_i s;obtain⟨v,rfl,n⟩:=l.one_inv;have f:=n.rp o;obtain⟨z,⟨M,hd⟩,y,x⟩:=h.w;have p:=f.reads z;rw[hd]at f;obtain⟨a,C,rfl,_,_⟩:=f.lst_inv;exact⟨a,_,rfl,p,y,q _ _ A x (Same.refl _) (.str _)⟩
 ·exact h.elim
noncomputable def Zef(a:PTE)(l u:PTO):PTE:=λf R X=>a f (λs=>l f (λlo=>u f (λh=>match s.d with | .fL g=>R (.own ((cutD g lo h).map D.int))|_=>False) X) X) X
def Znf{te:TE}{G J:TO}{a:PTE}{l u:PTO}(ha:Xu K mg E te a)(hl:T6 K mg E G l)(U:T6 K mg E J u):Xu K mg E (tSl (SJ K) te G J) (Zef a l u):=by
 intro A B H o r R X Q f p q s;refine ha A B H o r _ X _ f p (λx v H1 h1 h T=>?_) s;refine hl A B H1 o r _ X _ (f.grow h) h1 (λlo H2 h2 n=>?_) λc C w z=>s c C w (h.trans z);refine U A B H2 o r _ X _ ((f.grow h).grow n) h2 (λhi H3 y N=>?_) λc C w z=>s c C w ((h.trans n).trans z);have g:=(h.trans n).trans N;split at y
 ·rename_i ns e;have L:=(T.grow<|n.trans N).rp (f.grow g).same;rw[e]at L;cases L with
  |fL Y=>
   refine⟨_,_,rfl,.inl (.inr ⟨_,Y⟩),λm M=>?_⟩;rw[Ot];exact q _ _ _ y (g.trans<|Ki M) (N5 g M<|Rps.of_ints _)
 ·exact y.elim
end
end Pu
namespace M
open L2 Own Pu
def Mv.uniq {ps:Yf}{f:Int->Int}{ns:Yg}{n g:List Mo} (h:Mv ps f ns n) (k:Mv ps f ns g):n=g:=by
 induction h generalizing g with
 |done ns hw=>
  cases k with
  |done=>rfl
  |step _ p _ l s _=>exact absurd (l.uniq hw) s
 |step ns p n l s w u=>
  cases k with
  |done _ hw=>exact absurd (l.uniq hw) s
  |step _ v _ o _ r=>
   obtain rfl:=l.uniq o;rw[u r]
def FZ{ps:Yf}(f:Field ps)(j:Nat):0<=(ps.getD j (0,0)).2/\(ps.getD j (0,0)).2<=1000:=by
 rw[WV];by_cases h:j<ps.length
 ·rw[WJ h]
  have:=f _ (Qi h)
  show 0<=ps[j].2/\ps[j].2<=1000;lia
 ·rw[Vh (by lia)];exact⟨QP 0,by decide⟩
theorem Lw{ps:Yf}(f:Field ps)(y:Int):∀n:Nat,0<=tpM ps y n/\tpM ps y n<=1000*n
 | 0=>⟨QP 0,QP 0⟩
 |n+1=>by
  have h:=Lw f y n;have w:=FZ f n;unfold tpM;split<;>lia
theorem O7{ps:Yf}(f:Field ps)(g:ps.length<=40)(x y:Int):∀n:Nat,n<=ps.length->0<=pcM ps x y n/\pcM ps x y n<=40000000*n
 | 0,_=>⟨QP 0,QP 0⟩
 |n+1,l=>by
  have h:=O7 f g x y n (by lia);have w:=FZ f n;have t:=Lw f y n;unfold pcM;split
  ·have p:=Int.mul_nonneg t.1 w.1;have o:tpM ps y n*(ps.getD n (0,0)).2<=40000*1000:=JP (by lia) w.2 w.1 (by decide);lia
  ·lia
theorem MN{c:Int->Int->Int}(f:∀x y,0<=c x y/\c x y<=1600000000):∀o:Yg,o.length<=10->0<=oc c o/\oc c o<=16000000000*o.length
 |[],_=>⟨QP 0,QP 0⟩
 |a::r,g=>by
  rw[Qe]at g;have h:=MN f r (by lia)
  have s:∀l:Yg,0<=(l.map<|c a).sum/\(l.map<|c a).sum<=1600000000*l.length:=λl=>by
   induction l with
   |nil=>exact⟨QP 0,QP 0⟩
   |cons b l n=>
    have:=f a b
    rw[Qf,List.sum_cons,Qe];lia
  have s:=s r;unfold oc;rw[Qe];lia
def HM{ps l:Yf}{f:Yg}{v:Int}(r:Field ps)(n:ps.length<=40)(p:f.length<=10)(h:KH l (pcc ps) f v):0<=v/\v<=160000000000:=by
 obtain⟨o,g,_,rfl⟩:=h.is
 have:=MN (c:=pcc ps) (λx y=>by have:=O7 r n x y ps.length (WU _);unfold pcc;lia) o (by rw[g.length_eq];exact p)
 have:=g.length_eq
 lia
def Znw{ps o:Yf}{f vs:Yg}(w:Field ps)(p:ps.length<=40)(n:f.length<=10)(h:TabV o (pcc ps) (XO f) vs):vs.length<=1024/\∀v∈vs,0<=v/\v<=160000000000:=by
 obtain⟨s,r⟩:=h;have e:=E4 f;refine⟨?_,λv l=>?_⟩
 ·rw[s,e];exact WZ (JI (by decide) n) (by decide)
 ·obtain⟨i,u,ei⟩:=List.getElem_of_mem l;have g:i<(XO f).length:=by lia
  refine HM w p ?_ (r i (XO f)[i] v (WJ g) (by rw[WJ u,ei]));exact WZ (SO f _<|Qi g).length_le n
def Zr0{ps:Yf}{f:Int->Int}{ns:Yg}{n:List Mo}(v:Field ps)(z:ps.length<=40)(h:Mv ps f ns n)(o:ns.Perm (Kw 1 ps.length)):∀m∈n,(0<=m.1/\m.1<=40)/\(0<=m.2.1/\m.2.1<=40)/\(0<=m.2.2.1/\m.2.2.1<=40)/\(0<=m.2.2.2/\m.2.2.2<=1000000):=by
 induction h with
 |done=>intro m s;cases s
 |step ns p n hw y s w=>
  obtain⟨x,r,_⟩:=hw.2.resolve_left y;rw[WL]at r;have A:ns.length=ps.length:=by rw[o.length_eq,B4]
  have g:∀i,i<ns.length->0<=ns.getD i 0/\ns.getD i 0<=40:=λi u=>by
   rw[WV,WJ u]
   have:=run_mem.mp (o.mem_iff.mp<|Qi u)
   show 0<=ns[i]/\ns[i]<=40;lia
  intro m l;rcases Qa.mp l with rfl|l
  ·refine⟨by dsimp only;lia,g _ (by lia),g _ r,?_⟩;have a:=FZ v (ns.getD (p-1) 0-1).toNat;have b:=FZ v (ns.getD p 0-1).toNat;exact⟨Int.mul_nonneg a.1 b.1,Int.le_trans (JP a.2 b.2 b.1<|by decide) (by decide)⟩
  ·exact w ((D1 x r).trans o) m l
def Zig{ps:Yf}{f:Int->Int}{g:List Mo}(p:ps.length<=40)(h:Mv ps f (Kw 1 ps.length) g):g.length<=1600:=by
 have o:=h.len;have l:=(SR f<|Kw 1 ps.length).2;rw[B4]at l;have n:(ps.length:Int)*(ps.length:Int)<=40*40:=JP (by lia) (by lia) (by lia) (by lia);lia
end M
namespace Pu
open L2 Own M
def Rk.nat {i:Int} (h:0<=i/\i<=160000000000) (k b:Nat):Rk (.int i) k b:=by
 have c:(160000000001:Nat)<=10 ^ 23:=by decide
 exact .int (by lia) k b
def Rk.ints {ns:Yg} (h:∀n∈ns,0<=n/\n<=160000000000):Rk (py<|.lst<|ns.map D.int) 1 ns.length:=by
 have e:py (.lst<|ns.map D.int)=.list (ns.map PyData.int):=by unfold py;rw[Bx];rfl
 rw[e];exact .list (RkA.map (b:=0) λn f=>.nat (h n f) _ _) (by lia)
def Rk.pairs {ps:Yf} (h:∀q∈ps,(0<=q.1/\q.1<=1000)/\(0<=q.2/\q.2<=1000)):Rk (py<|plD ps) 2 (ps.length*3):=by
 have e:py (plD ps)=.list (ps.map λq=>.tuple [.int q.1,.int q.2]):=by unfold plD py;rw[Bx];rfl
 rw[e];exact .list (RkA.map (b:=2) λq hq=>.tuple (b:=2) (.cons (b1:=0) (b2:=1) (.nat (by have:=h q hq;lia) _ _) (.cons (b1:=0) (b2:=0) (.nat (by have:=h q hq;lia) _ _) (.nil _ _)<|by lia)<|by lia)) (by lia)
def Rk.mvs {f:List Mo} (h:∀m∈f,(0<=m.1/\m.1<=40)/\(0<=m.2.1/\m.2.1<=40)/\(0<=m.2.2.1/\m.2.2.1<=40)/\(0<=m.2.2.2/\m.2.2.2<=1000000)):Rk (py<|.lst<|f.map mvD) 2 (f.length*5):=by
 have e:py (.lst<|f.map mvD)=.list (f.map λm=>.tuple [.int m.1,.int m.2.1,.int m.2.2.1,.int m.2.2.2]):=by unfold py;rw[Bx];rfl
 rw[e];exact .list (RkA.map (b:=4) λm g=>.tuple (b:=4) (.cons (b1:=0) (b2:=3) (.nat (by have:=h m g;lia) _ _) (.cons (b1:=0) (b2:=2) (.nat (by have:=h m g;lia) _ _) (.cons (b1:=0) (b2:=1) (.nat (by have:=h m g;lia) _ _) (.cons (b1:=0) (b2:=0) (.nat (by have:=h m g;lia) _ _) (.nil _ _)<|by lia)<|by lia)<|by lia)<|by lia)) (by lia)
def EM(ns:Yg):okS (.lst<|ns.map D.int)=true:=by
 unfold okS;exact okSs_iff.mpr λd hd=>by obtain⟨n,_,rfl⟩:=Qq.mp hd;rfl
def Zms(ps:Yf):okS (plD ps)=true:=by
 unfold plD okS;exact okSs_iff.mpr λd hd=>by obtain⟨n,_,rfl⟩:=Qq.mp hd;rfl
def Zbg(f:List Mo):okS (.lst<|f.map mvD)=true:=by
 unfold okS;exact okSs_iff.mpr λd hd=>by obtain⟨n,_,rfl⟩:=Qq.mp hd;rfl
end Pu
namespace M
open L2 Own Pu
def AllT(f w:Yf)(ds:List D):Prop:=
 (∃r,FR (X3 f) w r/\r≠[]/\r.length<=60/\ds=[.lst (r.map D.int),.fL r])\/
 ((¬ ∃r,Ring (X3 f) w r)/\∃(o:Yg) (v:Int) (g:Yg) (l:List Mo),Pi w (pcc f) (X3 f) o/\KH w (pcc f) (X3 f) v/\TabV w (pcc f) (XO<|X3 f) g/\Mv f (rkN f o) (Kw 1 f.length) l/\
  ds=[.lst [],.lst (o.map D.int),.int v,.lst (g.map D.int),.lst (l.map mvD),plD (o.flatMap λh=>f.filter λq=>decide (q.1=h))])
def AllT.uniq {f w:Yf}{ds es:List D} (x:∀q∈w,q.1≠q.2) (h:AllT f w ds) (k:AllT f w es):ds=es:=by
 rcases h with⟨r,n,s,_,rfl⟩|⟨p,o,v,G,L,n,s,E,C,rfl⟩
 ·rcases k with⟨u,g,l,_,rfl⟩|⟨p,_⟩
  ·rw[n.one g]
  ·exact absurd ⟨r,(n.ring x s).1⟩ p
 ·rcases k with⟨u,g,l,_,rfl⟩|⟨_,J,H,y,z,g,l,B,A,rfl⟩
  ·exact absurd ⟨u,(g.ring x l).1⟩ p
  ·obtain rfl:=Pi.uniq n g;obtain rfl:=s.uniq l;obtain rfl:=TabV.uniq E B;obtain rfl:=C.uniq A;rfl
def AllT.len {f w:Yf}{ds:List D} (h:AllT f w ds):ds.length<=6:=by
 rcases h with⟨r,_,_,_,rfl⟩|⟨_,o,v,g,l,_,_,_,_,rfl⟩<;>simp
theorem Ln{f:Yf}(g:Int->Int×Int->Bool):∀o:Yg,(o.flatMap λh=>f.filter (g h)).length<=o.length*f.length
 |[]=>by simp
 |a::r=>by
  rw[List.flatMap_cons,WW,Qe,Nat.add_mul];have n:=Ln (f:=f) g r;have l:=QE (g a) f;lia
def AllT.rk {f w:Yf}{ds:List D} (p:Field f) (s:f.length<=40) (M:∀q∈w,q.1≠q.2) (h:AllT f w ds):TK ds=true/\RkA (pys ds) 50 20000:=by
 have l:∀x∈X3 f,0<=x/\x<=10:=λx hx=>by
  obtain⟨q,hq,rfl⟩:=Qq.mp ((Fq p).mp hx)
  have:=p q hq
  lia
 rcases h with⟨r,y,C,B,rfl⟩|⟨hN,o,v,z,A,y,C,B,H,rfl⟩
 ·have N:∀n∈r,0<=n/\n<=160000000000:=λn u=>by have:=l n ((y.ring M C).1.sub n u);lia
  refine⟨okSs_iff.mpr λd hd=>?_,?_⟩
  ·simp only[Qa,Vu,or_false]at hd;rcases hd with rfl|rfl
   ·exact EM r
   ·rfl
  ·have U:py (.fL r)=py (.lst<|r.map D.int):=by unfold py;rw[Bx];rfl
   have e:pys [.lst (r.map D.int),.fL r]=[py (.lst<|r.map D.int),py (.fL r)]:=rfl;rw[e,U];have k:=(Rk.ints N).mono (k':=50) (b':=60) (by decide) B;exact .cons k (.cons k (.nil _ 0)<|WU _) (by decide)
 ·have lo:o.length<=10:=by rw[y.perm.length_eq];exact PK f
  have Q:∀n∈o,0<=n/\n<=160000000000:=λn u=>by have:=l n (y.perm.mem_iff.mp u);lia
  have L:=HM p s (PK f) C;have E:=Znw p s (PK f) B;have T:=Zr0 p s H (.refl _);have hc:=Zig s H;have J:=Ln (f:=f) (λh q=>decide (q.1=h)) o
  have G:∀q∈o.flatMap λh=>f.filter λq=>decide (q.1=h),(0<=q.1/\q.1<=1000)/\(0<=q.2/\q.2<=1000):=λq hq=>by
   obtain⟨h,_,hq⟩:=List.mem_flatMap.mp hq
   have:=p q (Qz.mp hq).1
   lia
  have Y:o.length*f.length<=10*40:=Nat.mul_le_mul lo s;generalize (o.flatMap λh=>f.filter λq=>decide (q.1=h))=g at J G ⊢;refine⟨okSs_iff.mpr λd hd=>?_,?_⟩
  ·simp only[Qa,Vu,or_false]at hd;rcases hd with rfl|rfl|rfl|rfl|rfl|rfl
   ·rfl
   ·exact EM o
   ·rfl
   ·exact EM z
   ·exact Zbg A
   ·exact Zms g
  ·have e:pys [.lst [],.lst (o.map D.int),.int v,.lst (z.map D.int),.lst (A.map mvD),plD g]=[py (.lst (([]:Yg).map D.int)),py (.lst<|o.map D.int),.int v,py (.lst<|z.map D.int),py (.lst<|A.map mvD),py (plD g)]:=rfl;rw[e];refine .cons (b2:=19990) ((Rk.ints (ns:=[]) (λn u=>by cases u)).mono (by decide) (QY 0)) ?_ (by decide);refine .cons (b2:=19970) ((Rk.ints Q).mono (b':=10) (by decide) lo) ?_ (by decide);refine .cons (b2:=19960) (.nat L _ 0) ?_ (by decide);refine .cons (b2:=18000) ((Rk.ints E.2).mono (b':=1024) (by decide) E.1) ?_ (by decide);refine .cons (b2:=2000) ((Rk.mvs T).mono (b':=8000) (by decide) (by lia)) ?_ (by decide);exact .cons (b2:=0) ((Rk.pairs G).mono (b':=1200) (by decide) (by lia)) (.nil _ _) (by decide)
def M9{ds:List D}(h:RkA (pys ds) 50 20000):Rk (py<|.lst ds) 60 200000:=by
 have e:py (.lst ds)=.list (pys ds):=by unfold py;rfl
 rw[e];exact(Rk.list (b':=20000) h<|WU _).mono (by decide) (by decide)
def Gw{ds:List D}(h:TK ds=true):okS (.lst ds)=true:=by
 unfold okS;exact h
def Za8{f0:Yf}{f:Kc}{i:Nat}(h:i<=f.length):(fsH f0 f)[i]?=some (Kd f0<|f.take i)/\(wsH f)[i]?=some (Kf<|f.take i)/\∃d,(XB f0 f)[i]?=some (.tup [plD (Kd f0<|f.take i),plD (Kf<|f.take i),d]):=by
 cases i with
 |zero=>exact⟨rfl,rfl,_,rfl⟩
 |succ j=>
  have g:j<f.length:=h;rw[Qm g,Znz,Zf1];unfold fsH wsH XB;rw[Q6,Q6,Q6,WX,WX,WX,WJ g];exact⟨rfl,rfl,_,rfl⟩
def FineH.take {f0:Yf}{l:Kc} (h:FineH f0 l) (i:Nat):FineH f0 (l.take i):=by
 refine⟨λg f=>h.1 g ?_,λg f=>h.2 g ?_⟩
 ·unfold fsH at f ⊢;rw[List.map_take]at f;rcases Qa.mp f with rfl|f
  ·exact Q2
  ·exact Qk _ (Vk f)
 ·unfold wsH at f ⊢;rw[List.map_take]at f;rcases Qa.mp f with rfl|f
  ·exact Q2
  ·exact Qk _ (Vk f)
end M
namespace T
open L2
noncomputable def top(i:Nat):Stmt:=PySem.Challenge.pw_stripmeld_k47_whole_begun_anew.main.body.getD i (.Pass ⟨0,0,0,0⟩)
noncomputable abbrev Dj:Stmt:=inClass (top 19) 0
def Zdx:Xw ["self","members"] ["self","members"] (Xv Dj):=Pu.fs
noncomputable abbrev Ds:Stmt:=top 24
def Zdr:Xw ["holder"] ["holder"] (Xv Ds):=Pu.fs
noncomputable abbrev CU:Stmt:=top 25
def Zr1:Xw ["width"] ["width"] (Xv CU):=Pu.fs
noncomputable abbrev AM:Stmt:=top 26
def Zpt:Xw ["strips","holder","width"] ["strips"] (Xv AM):=Pu.fs
noncomputable abbrev Co:Stmt:=top 27
def Za0:Xw ["strips"] ["strips"] (Xv Co):=Pu.fs
noncomputable abbrev D8:Stmt:=top 28
def Zls:Xw ["strips","order"] ["strips","order"] (Xv D8):=Pu.fs
noncomputable abbrev AQ:Stmt:=top 29
def Zeb:Xw ["strips","order","field","holder"] ["strips","order"] (Xv AQ):=Pu.fs
noncomputable abbrev Ep:Stmt:=top 31
def Zf8:Xw ["strips","ahead","behind","to_pass","cost","holder","width"] ["strips","ahead","behind"] (Xv Ep):=Pu.fs
noncomputable abbrev Ct:Stmt:=top 33
def Zq5:Xw ["strips"] ["strips"] (Xv Ct):=Pu.fs
noncomputable abbrev Cf:Stmt:=top 34
def Za3:Xw ["strips","numbers","place","left","right"] ["strips","numbers","place"] (Xv Cf):=Pu.fs
noncomputable abbrev Gk:Stmt:=top 35
def Zgg:Xw ["numbers","place"] ["numbers","place"] (Xv Gk):=Pu.fs
noncomputable abbrev Eo:Stmt:=top 36
def Ziq:Xw ["numbers","ranks","place"] ["numbers","ranks"] (Xv Eo):=Pu.fs
noncomputable abbrev AU:Stmt:=top 37
def Zmv:Xw ["strips","order","ranks","numbers","moves","place"] ["strips","order"] (Xv AU):=Pu.fs
noncomputable abbrev Da:Stmt:=top 38
def Zoo:Xw ["strips","place"] ["strips","place"] (Xv Da):=Pu.fs
noncomputable abbrev Ed:Stmt:=top 41
def RR:Xw ["paths","left","wishes","longer","reached","path","holder"] ["paths","left","wishes"] (Xv Ed):=Pu.fs
noncomputable abbrev Dv:Stmt:=top 42
def Zb8:Xw ["least","holders","wishes","paths","left","rings","reached"] ["least","holders","wishes"] (Xv Dv):=Pu.fs
noncomputable abbrev EA:Stmt:=top 43
def Zpf:Xw ["holders","wishes","ring","least","found"] ["holders","wishes"] (Xv EA):=Pu.fs
noncomputable abbrev DM:Stmt:=top 44
def Zjl:Xw ["strips","wishes","ring"] ["strips","wishes"] (Xv DM):=Pu.fs
noncomputable abbrev Cv:Stmt:=top 46
def Zdm:Xw ["strips","place"] ["strips","place"] (Xv Cv):=Pu.fs
noncomputable abbrev DP:Stmt:=top 47
def Zof:Xw ["strips","place","holder","strip"] ["strips","place","holder"] (Xv DP):=Pu.fs
noncomputable abbrev D2:Stmt:=top 48
def Zcp:Xw ["strips","place","width","strip"] ["strips","place","width"] (Xv D2):=Pu.fs
noncomputable abbrev Dc:Stmt:=top 49
def Zdd:Xw ["strips","place","left","right"] ["strips","place"] (Xv Dc):=Pu.fs
noncomputable abbrev Ew:Stmt:=top 50
def Zqo:Xw ["wishes","ahead","behind"] ["wishes","ahead","behind"] (Xv Ew):=Pu.fs
noncomputable abbrev EJ:Stmt:=top 51
def Zpb:Xw ["wishes","ahead","behind"] ["wishes","ahead","behind"] (Xv EJ):=Pu.fs
noncomputable abbrev Eb:Stmt:=top 53
def RA:Xw ["strips","holders","costs","ahead","behind"] ["strips"] (Xv Eb):=Pu.fs
noncomputable abbrev E3:Stmt:=top 54
def Zqh:Xw ["holders","sets","holder"] ["holders"] (Xv E3):=Pu.fs
noncomputable abbrev El:Stmt:=top 55
def Zlk:Xw ["members","holder"] ["members","holder"] (Xv El):=Pu.fs
noncomputable abbrev EF:Stmt:=top 56
def Zj1:Xw ["members","holder","wishes"] ["members","holder","wishes"] (Xv EF):=Pu.fs
noncomputable abbrev Dk:Stmt:=top 57
def Zrf:Xw ["members","holder","wishes"] ["members","holder","wishes"] (Xv Dk):=Pu.fs
noncomputable abbrev AF:Stmt:=top 58
def Zng:Xw ["members","last","least","pairs","others"] ["members","last","least","pairs"] (Xv AF):=Pu.fs
noncomputable abbrev Gs:Stmt:=top 59
def Zbq:Xw ["members","first","least","pairs","others"] ["members","first","least","pairs"] (Xv Gs):=Pu.fs
noncomputable abbrev E1:Stmt:=top 60
def GV:Xw ["strips","wishes","pairs","least","members","lasts"] ["strips","wishes","pairs"] (Xv E1):=Pu.fs
noncomputable abbrev Ga:Stmt:=top 61
def Zas:Xw ["strips","wishes","least"] ["strips","wishes"] (Xv Ga):=Pu.fs
noncomputable abbrev EH:Stmt:=top 62
def M4:Xw ["strips","wishes","pairs","least","members","order","firsts","best"] ["strips","wishes"] (Xv EH):=Pu.fs
noncomputable abbrev EX:Stmt:=top 63
def Zbp:Xw ["strips","wishes"] ["strips","wishes"] (Xv EX):=Pu.fs
noncomputable abbrev Dy:Stmt:=inClass (top 66) 0
def Zl8:Xw ["self","strips"] ["self","strips"] (Xv Dy):=Pu.fs
noncomputable abbrev Dl:Stmt:=inClass (top 66) 1
def Zc4:Xw ["self"] ["self"] (Xv Dl):=Pu.fs
noncomputable abbrev EW:Stmt:=inClass (top 66) 2
def Zh6:Xw ["self"] ["self"] (Xv EW):=Pu.fs
noncomputable abbrev DY:Stmt:=inClass (top 66) 3
def Zmn:Xw ["self"] ["self"] (Xv DY):=Pu.fs
noncomputable abbrev CZ:Stmt:=inClass (top 66) 4
def Zmj:Xw ["self"] ["self"] (Xv CZ):=Pu.fs
noncomputable abbrev EN:Stmt:=inClass (top 66) 5
def Zez:Xw ["self","deed","field","wishes"] ["self","deed","field","wishes"] (Xv EN):=Pu.fs
noncomputable abbrev Gm:Stmt:=inClass (top 66) 6
def Zi9:Xw ["self","place","holder","field"] ["self","place","holder"] (Xv Gm):=Pu.fs
noncomputable abbrev AL:Stmt:=inClass (top 66) 7
def Zln:Xw ["self","place","width","field"] ["self","place","width"] (Xv AL):=Pu.fs
noncomputable abbrev Dq:Stmt:=inClass (top 66) 8
def Zfb:Xw ["self","place","field"] ["self","place"] (Xv Dq):=Pu.fs
noncomputable abbrev De:Stmt:=inClass (top 66) 9
def Zb7:Xw ["self","ahead","behind","wishes"] ["self","ahead","behind"] (Xv De):=Pu.fs
noncomputable abbrev A8:Stmt:=inClass (top 66) 10
def Zlw:Xw ["self","ahead","behind","wishes"] ["self","ahead","behind"] (Xv A8):=Pu.fs
noncomputable abbrev AC:Stmt:=inClass (top 66) 11
def Zcb:Xw ["self"] ["self"] (Xv AC):=Pu.fs
noncomputable abbrev DX:Stmt:=inClass (top 66) 12
def Zjy:Xw ["self","many"] ["self","many"] (Xv DX):=Pu.fs
noncomputable abbrev Cn:Stmt:=inClass (top 66) 13
def Znq:Xw ["self"] ["self"] (Xv Cn):=Pu.fs
noncomputable abbrev Ca:Stmt:=inClass (top 66) 14
def Zrx:Xw ["self"] ["self"] (Xv Ca):=Pu.fs
noncomputable abbrev Cd:Stmt:=inClass (top 66) 15
def Zjh:Xw ["self"] ["self"] (Xv Cd):=Pu.fs
noncomputable abbrev Du:Stmt:=inClass (top 66) 16
def Zjn:Xw ["self"] ["self"] (Xv Du):=Pu.fs
noncomputable abbrev Cq:Stmt:=inClass (top 66) 17
def Zbt:Xw ["self"] ["self"] (Xv Cq):=Pu.fs
noncomputable abbrev AV:Stmt:=inClass (top 66) 18
def Zce:Xw ["self"] ["self"] (Xv AV):=Pu.fs
noncomputable abbrev Cu:Stmt:=top 68
def Zmz:Xw ["_law_script","_law_k"] ["_law_script","_law_k"] (Xv Cu):=Pu.fs
noncomputable abbrev D3:Stmt:=top 69
def Zea:Xw ["_law_found"] ["_law_found"] (Xv D3):=Pu.fs
noncomputable abbrev Et:Stmt:=top 70
def Zgf:Xw ["_law_cell","_law_place_here","_law_first"] ["_law_cell","_law_place_here"] (Xv Et):=Pu.fs
noncomputable abbrev D7:Stmt:=top 71
def Zrn:Xw ["_law_script","_law_k"] ["_law_script","_law_k"] (Xv D7):=Pu.fs
noncomputable abbrev Gh:Stmt:=top 72
def Zko:Xw ["_law_script"] ["_law_script"] (Xv Gh):=Pu.fs
noncomputable abbrev D9:Stmt:=top 73
def Zdo:Xw ["_law_cell","_law_wide","_law_least"] ["_law_cell"] (Xv D9):=Pu.fs
noncomputable abbrev Dp:Stmt:=top 74
def Zis:Xw ["_law_menu_here","_law_k"] ["_law_menu_here","_law_k"] (Xv Dp):=Pu.fs
noncomputable abbrev AS:Stmt:=top 75
def Zcc:Xw ["_law_found","_law_due","_law_k"] ["_law_found","_law_due"] (Xv AS):=Pu.fs
noncomputable abbrev DH:Stmt:=top 76
def Zit:Xw ["_law_found","_law_due","_law_k","_law_j"] ["_law_found","_law_due"] (Xv DH):=Pu.fs
noncomputable abbrev Er:Stmt:=top 77
def Zfv:Xw ["_law_found","_law_due","_law_j"] ["_law_found","_law_due"] (Xv Er):=Pu.fs
noncomputable abbrev DE:Stmt:=top 78
def Zhh:Xw ["_law_found","_law_due","_law_k"] ["_law_found","_law_due"] (Xv DE):=Pu.fs
noncomputable abbrev AN:Stmt:=top 79
def Zev:Xw ["_law_strips","_law_owners"] ["_law_strips"] (Xv AN):=Pu.fs
noncomputable abbrev Ef:Stmt:=top 80
def Zc0:Xw ["_law_strips","_law_order","_law_ranks","_law_total","_law_k","_law_j"] ["_law_strips","_law_order"] (Xv Ef):=Pu.fs
noncomputable abbrev Eu:Stmt:=top 81
def Ze6:Xw ["_law_ring","_law_holders","_law_wishes","_law_k"] ["_law_ring","_law_holders","_law_wishes"] (Xv Eu):=Pu.fs
noncomputable abbrev EU:Stmt:=top 82
def Zd7:Xw ["_law_strips","_law_deed_here","_law_place_here","_law_holder_here","_law_width_here","_law_parts"] ["_law_strips","_law_deed_here"] (Xv EU):=Pu.fs
noncomputable abbrev ED:Stmt:=top 83
def Zqx:Xw ["_law_wishes","_law_deed_here","_law_pair_here"] ["_law_wishes","_law_deed_here"] (Xv ED):=Pu.fs
noncomputable abbrev CP:Stmt:=top 84
def Zgo:Xw ["_law_now","_law_deed_here","_law_step_here"] ["_law_now","_law_deed_here"] (Xv CP):=Pu.fs
noncomputable abbrev EO:Stmt:=top 85
def Zrt:Xw ["_law_village","_law_deed_here"] ["_law_village","_law_deed_here"] (Xv EO):=Pu.fs
noncomputable abbrev Dh:Stmt:=top 86
def Fb:Xw ["_law_village","_law_past","_law_found","_law_refused","e","_law_due"] ["_law_village","_law_past"] (Xv Dh):=Pu.fs
noncomputable abbrev Gj:Stmt:=top 87
def Zki:Xw ["_law_village","_law_past"] ["_law_village","_law_past"] (Xv Gj):=Pu.fs
noncomputable abbrev EE:Stmt:=top 88
def LR:Xw ["_law_village","_law_past","_law_deed_here","_law_step_here","_law_found"] ["_law_village","_law_past","_law_deed_here"] (Xv EE):=Pu.fs
noncomputable abbrev Es:Stmt:=top 89
def Zp9:Xw ["_law_script","_law_menu_here","_law_many","_law_rest","_law_strips","_law_k","_law_cell","_law_width_here"] ["_law_script","_law_menu_here","_law_many"] (Xv Es):=Pu.fs
noncomputable abbrev DZ:Stmt:=top 90
def Zpy:Xw ["_law_script","_law_most"] ["_law_script","_law_most"] (Xv DZ):=Pu.fs
noncomputable abbrev CQ:Stmt:=top 91
def Zax:Xw ["_law_cell","_law_good"] ["_law_cell","_law_good"] (Xv CQ):=Pu.fs
noncomputable abbrev Ey:Stmt:=top 92
def Zd2:Xw ["_law_cell","_law_strips"] ["_law_cell","_law_strips"] (Xv Ey):=Pu.fs
noncomputable abbrev Ez:Stmt:=top 93
def Zp5:Xw ["_law_cell","_law_menu_here","_law_pool","_law_one","_law_two","_law_ahead"] ["_law_cell","_law_menu_here"] (Xv Ez):=Pu.fs
noncomputable abbrev Eg:Stmt:=top 94
def LU:Xw ["_law_script","_law_menu_here","_law_seed","_law_many","_law_deeds","_law_k","_law_pair_here"] ["_law_script","_law_menu_here"] (Xv Eg):=Pu.fs
noncomputable abbrev DT:Stmt:=top 95
def Zje:Xw ["_law_cell","_law_strips","_law_place_here"] ["_law_cell","_law_strips","_law_place_here"] (Xv DT):=Pu.fs
noncomputable abbrev Cw:Stmt:=top 96
def Zkj:Xw ["_law_cell","_law_menu_here","_law_now","_law_kind","_law_rest","_law_place_here","_law_more","_law_pair_here"] ["_law_cell","_law_menu_here","_law_now"] (Xv Cw):=Pu.fs
noncomputable abbrev Eh:Stmt:=top 97
def PH:Xw ["_law_village","_law_ring","_law_told","e"] ["_law_village"] (Xv Eh):=Pu.fs
noncomputable abbrev T9:Stmt:=top 98
def Zoa:Xw ["_law_script","_law_menu_here","_law_strips","_law_village","_law_past","_law_deed_here","_law_cell","_law_many","_law_stood","_law_other","_law_one","_law_two","_law_told"] ["_law_script"] (Xv T9):=Pu.fs
structure Glob (K:Ye) (mg:Yi):Prop where
 ZD:mg "ValueError"=none
 ZW:mg "any"=none
 Ya:mg "bool"=none
 ZX:mg "int"=none
 Zb:mg "isinstance"=none
 len:mg "len"=none
 Zg:mg "list"=none
 ZM:mg "max"=none
 ZY:mg "min"=none
 Zf:mg "range"=none
 ZR:mg "repr"=none
 Yb:mg "set"=none
 Zj:mg "sorted"=none
 Yc:mg "str"=none
 ZZ:mg "sum"=none
 Zn:mg "tuple"=none
 Z2:∃u,mg "HOLDERS"=some u/\RelV (.int 10) u
 Zp:∃u,mg "STRIPS"=some u/\RelV (.int 40) u
 Zq:∃u,mg "WIDEST"=some u/\RelV (.int 1000) u
 Zt:∃u,mg "MOST_WISHES"=some u/\RelV (.int 20) u
 Zu:∃u,mg "MOST_DEEDS"=some u/\RelV (.int 100) u
 Z9:mg "MeldError"=some (.ref<|ExcR.Xx mg "MeldError")
 Yd:ExcR.Kr K (ExcR.Xx mg "MeldError")
 Zk:mg "TooManyStrips"=some (.ref<|ExcR.Xx mg "TooManyStrips")
 Zl:ExcR.Kr K (ExcR.Xx mg "TooManyStrips")
 ZA:mg "BadHolder"=some (.ref<|ExcR.Xx mg "BadHolder")
 ZC:ExcR.Kr K (ExcR.Xx mg "BadHolder")
 ZE:mg "BadWidth"=some (.ref<|ExcR.Xx mg "BadWidth")
 ZF:ExcR.Kr K (ExcR.Xx mg "BadWidth")
 Zv:mg "NoStrip"=some (.ref<|ExcR.Xx mg "NoStrip")
 Zw:ExcR.Kr K (ExcR.Xx mg "NoStrip")
 ZG:mg "BadOrder"=some (.ref<|ExcR.Xx mg "BadOrder")
 ZH:ExcR.Kr K (ExcR.Xx mg "BadOrder")
 ZI:mg "OwnStrip"=some (.ref<|ExcR.Xx mg "OwnStrip")
 ZJ:ExcR.Kr K (ExcR.Xx mg "OwnStrip")
 ZN:mg "BadPart"=some (.ref<|ExcR.Xx mg "BadPart")
 ZO:ExcR.Kr K (ExcR.Xx mg "BadPart")
 Zy:mg "UnlikeHolders"=some (.ref<|ExcR.Xx mg "UnlikeHolders")
 Zz:ExcR.Kr K (ExcR.Xx mg "UnlikeHolders")
 ZP:mg "TooWide"=some (.ref<|ExcR.Xx mg "TooWide")
 ZQ:ExcR.Kr K (ExcR.Xx mg "TooWide")
 Z3:mg "LikeHolders"=some (.ref<|ExcR.Xx mg "LikeHolders")
 Z4:ExcR.Kr K (ExcR.Xx mg "LikeHolders")
 Z5:mg "WishStands"=some (.ref<|ExcR.Xx mg "WishStands")
 Z6:ExcR.Kr K (ExcR.Xx mg "WishStands")
 Z0:mg "TooManyWishes"=some (.ref<|ExcR.Xx mg "TooManyWishes")
 Z1:ExcR.Kr K (ExcR.Xx mg "TooManyWishes")
 ZS:mg "NoWish"=some (.ref<|ExcR.Xx mg "NoWish")
 ZT:ExcR.Kr K (ExcR.Xx mg "NoWish")
 ZK:mg "BookFull"=some (.ref<|ExcR.Xx mg "BookFull")
 ZL:ExcR.Kr K (ExcR.Xx mg "BookFull")
 Zm:mg "NothingDone"=some (.ref<|ExcR.Xx mg "NothingDone")
 Zh:ExcR.Kr K (ExcR.Xx mg "NothingDone")
 Z7:mg "NoSuchDeed"=some (.ref<|ExcR.Xx mg "NoSuchDeed")
 Z8:ExcR.Kr K (ExcR.Xx mg "NoSuchDeed")
 Zi:mg "Ringed"=some (.ref<|ExcR.Xx mg "Ringed")
 ZU:∃g,ExcR.Pg K (ExcR.Xx mg "Ringed") g
 ZV:PySem.W.exmOne K (.ref<|ExcR.Xx mg "Ringed") (.ref<|ExcR.Xx mg "Ringed")=some true
 Zo:PySem.W.exmOne K (.ref<|ExcR.Xx mg "NothingDone") (.ref<|ExcR.Xx mg "NothingDone")=some true
 Zs:PySem.W.kitOne K (.ref<|ExcR.Xx mg "NothingDone") (.ref<|ExcR.Xx mg "MeldError")=some true
 Zr:PySem.W.kitOne K (.ref<|ExcR.Xx mg "NothingDone") (.type "ValueError")=some true
 Zx:mg "Village"=some (.ref<|ExcR.Xx mg "Village")
 Za:Cls K (ExcR.Xx mg "Village")
 Zc:NoAttr K (ExcR.Xx mg "Village") "book"
 Zd:NoAttr K (ExcR.Xx mg "Village") "fields"
 Ze:NoAttr K (ExcR.Xx mg "Village") "wished"
def NX:Pu.FldAt "book" ["book","fields","wished"] 0:=.of (by decide +kernel) (by decide +kernel) rfl
def Zsa:Pu.PutAt "book" []:=.of (by decide +kernel)
def F5:Pu.FldAt "fields" ["book","fields","wished"] 1:=.of (by decide +kernel) (by decide +kernel) rfl
def Zoy:Pu.PutAt "fields" ["book"]:=.of (by decide +kernel)
def Az:Pu.FldAt "wished" ["book","fields","wished"] 2:=.of (by decide +kernel) (by decide +kernel) rfl
def Zk1:Pu.PutAt "wished" ["book","fields"]:=.of (by decide +kernel)
def Tj:Pu.NoFld "strips" ["book","fields","wished"]:=.of (by decide +kernel)
def TL:Pu.NoFld "wishes" ["book","fields","wished"]:=.of (by decide +kernel)
def Zbb:Pu.NoFld "deeds" ["book","fields","wished"]:=.of (by decide +kernel)
def Bu:Pu.NoFld "check_room" ["book","fields","wished"]:=.of (by decide +kernel)
def BE:Pu.NoFld "enter" ["book","fields","wished"]:=.of (by decide +kernel)
def Zl0:Pu.NoFld "sell" ["book","fields","wished"]:=.of (by decide +kernel)
def Zfm:Pu.NoFld "part" ["book","fields","wished"]:=.of (by decide +kernel)
def Zhg:Pu.NoFld "unite" ["book","fields","wished"]:=.of (by decide +kernel)
def IA:Pu.NoFld "wish" ["book","fields","wished"]:=.of (by decide +kernel)
def Zqw:Pu.NoFld "drop" ["book","fields","wished"]:=.of (by decide +kernel)
def RJ:Pu.NoFld "take_back" ["book","fields","wished"]:=.of (by decide +kernel)
def Zkg:Pu.NoFld "stood" ["book","fields","wished"]:=.of (by decide +kernel)
def Zi5:Pu.NoFld "ring" ["book","fields","wished"]:=.of (by decide +kernel)
def AZ:Pu.NoFld "order" ["book","fields","wished"]:=.of (by decide +kernel)
def Zcf:Pu.NoFld "cost" ["book","fields","wished"]:=.of (by decide +kernel)
def Zju:Pu.NoFld "table" ["book","fields","wished"]:=.of (by decide +kernel)
def Zck:Pu.NoFld "moves" ["book","fields","wished"]:=.of (by decide +kernel)
def Zog:Pu.NoFld "melded" ["book","fields","wished"]:=.of (by decide +kernel)
end T
namespace M
open L2 Own Pu
noncomputable def Zqc:Pc:=λf R X=>∃h:Int,f=[.int h]/\Kx (Ba h) X (R<|.sh .non)
noncomputable def AW(h:Int):Option Str:=if 1<=h/\h<=1000 then none else some "BadWidth"
noncomputable def Zrq:Pc:=λf R X=>∃h:Int,f=[.int h]/\Kx (AW h) X (R<|.sh .non)
noncomputable def GH(_:Ye):Sp:=λh H Q _=>∃(l:Addr) (f:Yf),h=[.ref l]/\LAt P1 H l f/\Field f/\f.length<=50/\
 ∀(q:Addr) (g:Hp),H q=none->Same H g->g q=some (.lst ((X3 f).map V.int))->Q (.ref q) g
noncomputable def Mi:Pc:=λg R _=>∃f:Yf,g=[.lst (f.map prD)]/\Field f/\f.length<=50/\R (.own ((X3 f).map D.int))
def SK{P:Program}{w:World}{K:Ye}{f:Yi}{base:Heap}(C:Callee P w K f base CX0 1 "holders_of" ["strips"] (GH K)):Callee P w K f base CX0 1 "holders_of" ["strips"] (X0 f Mi K):=Ze2 C λG R X A H Q E r p x B=>by
 obtain⟨l,rfl,y,o,u⟩:=p;obtain⟨v,rfl,g⟩:=r.one_inv;obtain⟨a,rfl,s⟩:=g.pairs_inv;exact⟨a,l,rfl,s,y,o,λq z n S h=>x _ _ z u S (Zqs n h)⟩
noncomputable def Zp0:Pc:=λg R _=>∃(f:Yf) (x y:Int),g=[.lst (f.map prD),.int x,.int y]/\Field f/\R (.sh<|.int<|pcM f x y f.length)
noncomputable def Zrk:Pc:=λg R _=>∃f:Yf,g=[.lst (f.map prD)]/\f.length<=1000/\R (.own ((Kw 1 f.length).map D.int))
noncomputable def Zgj:Pc:=λh R _=>∃(f:Yf) (g:Yg) (p:Int),h=[.lst (f.map prD),.lst (g.map D.int),.int p]/\Field f/\(∀n∈g,1<=n/\n<=f.length)/\1<=p/\p<g.length/\R (.sh<|.int<|exM f g p.toNat)
noncomputable def Zed:Pc:=λg R _=>∃(f:Yg) (p:Int),g=[.lst (f.map D.int),.int p]/\1<=p/\p<f.length/\f.length<=1000/\R (.own ((Pj f p.toNat).map D.int))
noncomputable def Zfa:Pc:=λh R _=>∃f g:Yg,h=[.lst (f.map D.int),.lst (g.map D.int)]/\(∀m∈f,1<=m/\m<=g.length)/\f.length<=1000/\∀p:Nat,FW (f.map λm=>g.getD (m-1).toNat 0) p->R (.sh<|.int p)
noncomputable def Zl2:Pc:=λg R X=>∃(f:Yf) (p:Int),g=[.lst (f.map prD),.int p]/\(if p<1\/(f.length:Int)<=p then X "NoStrip" else R (.sh .non))
noncomputable def Zkr:Pc:=λr R _=>∃(l:Int) (g:List (Yg)) (f:Yg) (o:Yf),r=[.lst (g.map<|em l),.lst (f.map D.int),.lst (o.map prD)]/\g.Pairwise sl/\f.Pairwise (· < ·)/\(∀p∈g,p.length<=100)/\f.length<=100/\
 ∀n,LG o l (λp h=>p∈g/\h∈f) n->n.length<=f.length->R (.own<|n.map<|em l)
noncomputable def Zji:Pc:=λg R X=>∃(f:Yf) (p:Int),g=[plD f,.int p]/\Kx (F2 f p) X (R<|.sh .non)
noncomputable def Zda:Pc:=λg R X=>∃(f:Yf) (a b:Int),g=[plD f,.int a,.int b]/\f.length<=1000/\Kx (K0 f a b) X (R<|.own ((Sv f a b).map prD))
noncomputable def Zi1:Pc:=λg R _=>∃f:Yg,g=[.lst (f.map D.int)]/\f.length<=10/\R (.own ((XO f).map tD))
noncomputable def Ziu:Pc:=λg R _=>∃(f:Yg) (h:Int),g=[tD f,.int h]/\f.length<=1000/\R (.sh<|tD<|XC f h)
noncomputable def Zeg:Pc:=λl R _=>∃(g:Yg) (h:Int) (f:Yf),l=[tD g,.int h,.lst (f.map prD)]/\f.length<=50/\R (.sh<|.bl<|Nl f g h)
noncomputable def Zh3:Pc:=λl R _=>∃(g:Yg) (h:Int) (f:Yf),l=[tD g,.int h,.lst (f.map prD)]/\f.length<=50/\R (.sh<|.bl<|firstM f g h)
noncomputable def Zmb(C:Addr):Pc:=λh R _=>∃(bk:List (Str×Yg)) (fs g:List (Yf)) (f:Yf),h=[P4 C bk (fs++[f]) g]/\R (.own<|f.map prD)
noncomputable def Zq1(C:Addr):Pc:=λh R _=>∃(bk:List (Str×Yg)) (fs g:List (Yf)) (f:Yf),h=[P4 C bk fs (g++[f])]/\R (.own<|f.map prD)
noncomputable def Zna(C:Addr):Pc:=λg R _=>∃(bk:List (Str×Yg)) (fs f:List (Yf)),g=[P4 C bk fs f]/\R (.own<|bk.map dD)
noncomputable def NY(bk:List (Str×Yg)):Option Str:=if 100<=bk.length then some "BookFull" else none
noncomputable def Zeh(C:Addr):Pc:=λg R X=>∃(bk:List (Str×Yg)) (fs f:List (Yf)),g=[P4 C bk fs f]/\Kx (NY bk) X (R<|.sh .non)
noncomputable def Zlm(C:Addr):Pw:=λo n R _=>∃(x b1 l h:Addr) (bk:List (Str×Yg)) (fs g:List (Yf)) (q:Str×Yg) (f w:Yf),o=vO C x b1 l h bk fs g/\n=[.sh (dD q),.sh (plD f),.sh (plD w)]/\bk.length<=1000/\fs.length<=1000/\g.length<=1000/\
 R (vO C x b1 l h (bk++[q]) (fs++[f]) (g++[w])) (.int (bk.length+1))
noncomputable def Zre(C:Addr):Pw:=λo l R X=>∃(x b1 h g:Addr) (bk:List (Str×Yg)) (fs f:List (Yf)),o=vO C x b1 h g bk fs f/\l=[]/\fs.length=bk.length+1/\f.length=bk.length+1/\
 (bk=[]->X (vO C x b1 h g bk fs f) "NothingDone")/\∀b0 q,bk=b0++[q]->R (vO C x b1 h g b0 fs.dropLast f.dropLast) (dD q)
noncomputable def Zk4(C:Addr):Pc:=λh R X=>∃(bk:List (Str×Yg)) (fs g:List (Yf)) (k:Int),h=[P4 C bk fs g,.int k]/\fs.length=bk.length+1/\g.length=bk.length+1/\(k<0\/(bk.length:Int)<k->X "NoSuchDeed")/\
 ∀(f w:Yf) (i:Nat) (x y:Addr),k=i->fs[i]?=some f->g[i]?=some w->R (.own<|.nst [(x,f.map prD),(y,w.map prD)])
noncomputable def Zf0:Pc:=λg R _=>∃(f:Yg) (k:Int),g=[.scr f,.int k]/\0<=k/\R (.sh<|.int<|f.getD k.toNat 0)
noncomputable def Zj0:Pc:=λf R _=>∃i:Int,f=[.int i]/\R (.sh<|.bl true)
noncomputable def Zqu:Pc:=λf R _=>∃c p:Int,f=[.int c,.int p]/\R (.sh<|.int<|mixP c p)
noncomputable def Zoj:Pc:=λf R _=>∃c:Int,f=[.int c]/\∀m,Nn m->R (.own<|m.map D.int)
noncomputable def Zm8:Pc:=λf R _=>∃(m:Yg) (k:Int),f=[.lst (m.map D.int),.int k]/\Nn m/\∀h:Int,1<=h->h<=10->h=Zi7 m k->R (.sh<|.int h)
noncomputable def Zsl:Pc:=λg R _=>∃f:Yf,g=[.lst (f.map prD)]/\f.length<=50/\R (.own ((X3 f).map D.int))
noncomputable def Zfn:Pc:=λg R _=>∃(f:Yf) (os:Yg),g=[.lst (f.map prD),.lst (os.map D.int)]/\Field f/\f.length<=50/\(∀p∈f,p.1∈os)/\R (.sh<|.int<|T1 f os f.length)
noncomputable def Zq6:Pq:=λg R _=>∃(f:Yf) (x:Dd),g=[.sh (plD f),.sh (dD x.q)]/\x.land=true/\f.length<=40/\R (.own [.int (codeN<|x.err f []),plD (x.fld' f)])
noncomputable def Zb3:Pq:=λf R _=>∃(w:Yf) (x:Dd),f=[.sh (plD w),.sh (dD x.q)]/\x.land=false/\w.length<=20/\R (.own [.int (codeN<|x.err [] w),plD (x.wsh' w)])
noncomputable def Ze0:Pc:=λf R _=>∃c g:Int,f=[.int c,.int g]/\∀v:Int,R (.sh<|.int v)
noncomputable def Zlr:Pc:=λg R _=>∃(c:Int) (f:Yf),g=[.int c,plD f]/\f.length<=1000/\∀v:Int,R (.sh<|.int v)
noncomputable def Zco:Pc:=λg R _=>∃(c:Int) (f:Yf) (p:Int),g=[.int c,plD f,.int p]/\f.length<=1000/\Field f/\∀v:Int,R (.sh<|.int v)
noncomputable def Zdf:Pc:=λg R X=>∃f:Yf,g=[plD f]/\f.length<=1000/\Kx (SE f) X (R<|.sh .non)
noncomputable def Zim:Pc:=λg R X=>∃(f:Yf) (os:Yg),g=[plD f,.lst (os.map D.int)]/\Field f/\f.length<=50/\os.length<64/\Kx (Sx f os) X (R<|.sh .non)
noncomputable def Zo7:Pc:=λh R _=>∃(l:Int) (f:Yg) (g:Yf),h=[.int l,.lst (f.map D.int),.lst (g.map prD)]/\f.Nodup/\f.length<=50/\∀r,RF f g l r->r.length<=60->R (.sh<|.lst<|r.map D.int)
noncomputable def Zle:Pc:=λg R X=>∃(f:Yf) (p h:Int),g=[plD f,.int p,.int h]/\f.length<=1000/\Kx (Pb f p h) X (R<|.own (TY f p h |>.map prD))
noncomputable def Zkw:Pc:=λg R X=>∃(f:Yf) (p w:Int),g=[plD f,.int p,.int w]/\f.length<=1000/\Kx (K4 f p w) X (R<|.own ((Tn f p w).map prD))
noncomputable def Zbv:Pc:=λg R X=>∃(f:Yf) (p:Int),g=[plD f,.int p]/\f.length<=1000/\Kx (Kn f p) X (R<|.own ((Tc f p).map prD))
noncomputable def Zop:Pc:=λg R X=>∃(f:Yf) (a b:Int),g=[plD f,.int a,.int b]/\f.length<=1000/\Kx (Kk f a b) X (R<|.own ((f++[(a,b)]).map prD))
noncomputable def Zpp:Pc:=λh R _=>∃f:Yf,h=[.lst (f.map prD)]/\Field f/\f.length<=50/\
 ∀g:List (List Key×V),(∀x∈X3 f,∀y∈X3 f,XD g [.inl x,.inl y]=some (.int<|pcM f x y f.length))->R (.own<|.dT g)
noncomputable def Zfi:Pc:=λh R _=>∃(f:Yg) (l:Int) (le g:List (List Key×V)) (c:Int->Int) (v:Int),h=[tD f,.int l,.dT le,.dT g]/\f.length<=1000/\XD le (kT<|XC f l)=some (.int v)/\
 (∀m∈XC f l,XD g [.inl m,.inl l]=some (.int<|c m))/\R (.sh<|.int (v+((XC f l).map c).sum))
noncomputable def Ziy:Pc:=λh R _=>∃(f:Yg) (l:Int) (le g:List (List Key×V)) (c:Int->Int) (v:Int),h=[tD f,.int l,.dT le,.dT g]/\f.length<=1000/\XD le (kT<|XC f l)=some (.int v)/\
 (∀m∈XC f l,XD g [.inl l,.inl m]=some (.int<|c m))/\R (.sh<|.int (v+((XC f l).map c).sum))
noncomputable def A4(bk:List (Str×Yg))(w:Yf)(a b:Int):Option Str:=if 100<=bk.length then some "BookFull" else K0 w a b
noncomputable def Zet(C:Addr):Pw:=λo r R X=>∃(x b1 n l:Addr) (bk:List (Str×Yg)) (fs g:List (Yf)) (f w:Yf) (p h:Int),o=vO C x b1 n l bk (fs++[f]) (g++[w])/\r=[.sh (.int p),.sh (.int h)]/\bk.length<=1000/\fs.length<=900/\g.length<=900/\w.length<=1000/\
 Kx (A4 bk w p h) (X<|vO C x b1 n l bk (fs++[f]) (g++[w])) (R (vO C x b1 n l (bk++[(("drop" : Str),[p,h])]) (fs++[f]++[f]) (g++[w]++[Sv w p h]))<|.int (bk.length+1))
noncomputable def Zfp:Pc:=λg R _=>∃(f:Yg) (k:Int),g=[.scr f,.int k]/\0<=k/\∀v:Int,R (.sh<|.int v)
noncomputable def Zp3:Pc:=λg R _=>∃f:Yg,g=[.scr f]/\∀v:Int,R (.sh<|.int v)
noncomputable def Zky:Pc:=λf R _=>∃xs:Yg,(f=[.lst (xs.map D.int),.lst (xs.map D.int)]\/f=[.fL xs,.lst (xs.map D.int)])/\xs.length<=1000000/\R (.sh<|.bl true)
noncomputable def Zdi:Pc:=λg R _=>∃f:Yf,g=[.lst (f.map prD),.lst (f.map prD)]/\f.length<=1000000/\R (.sh<|.bl true)
noncomputable def Zg3:Pc:=λf R _=>∃q:Str×Yg,f=[dD q,dD q]/\q.2.length<=100/\R (.sh<|.bl true)
noncomputable def Zme:Pc:=λl R _=>∃(f h:Yg) (g:Yf),l=[.fL f,.lst (h.map D.int),.lst (g.map prD)]/\f.length<=60/\Ring h g f/\R (.sh<|.bl true)
noncomputable def Zjq:Pq:=λg R _=>∃(f w:Yf) (h:List D) (x:Dd),g=[.sh (.tup (plD f::plD w::h)),.sh (dD x.q)]/\f.length<=40/\w.length<=20/\R (.own [.int (codeN<|x.err f w),plD (x.nf f w),plD (x.nw f w)])
noncomputable def Znx:Pc:=λh R _=>∃(g m:Yg) (n:Int),h=[.scr g,.lst (m.map D.int),.int n]/\Nn m/\0<=n/\n<=1000/\∀f:Yf,Field f->f.length=n.toNat->R (.own<|f.map prD)
noncomputable def Zl9:Pc:=λh R _=>∃(g:Yg) (n:Int),h=[.scr g,.int n]/\0<=n/\n<=1000/\∀f:Yg,(f.length:Int)<=n->R (.own<|f.map D.int)
noncomputable def Zgi:Pc:=λf R _=>∃(c:Int) (m:Yg),f=[.int c,.lst (m.map D.int)]/\Nn m/\∀a b:Int,R (.sh<|prD (a,b))
noncomputable def Nb(ps:Yf)(os:Yg):Yf:=os.flatMap λh=>ps.filter λq=>decide (q.1=h)
noncomputable def Ze7:Pc:=λg R X=>∃(f:Yf) (os:Yg),g=[plD f,.lst (os.map D.int)]/\Field f/\f.length<=50/\os.length<64/\Kx (Sx f os) X (R<|.own ((Nb f os).map prD))
noncomputable def Zcg:Pc:=λh R _=>∃(f:Yf) (o:Yg),h=[plD f,.lst (o.map D.int)]/\Field f/\f.length<=40/\o.Perm (X3 f)/\∀g:List Mo,Mv f (rkN f o) (Kw 1 f.length) g->R (.own<|g.map mvD)
noncomputable def Zfy:Pc:=λh R _=>∃(f:Yg) (g:Yf),h=[.lst (f.map D.int),.lst (g.map prD)]/\f.Nodup/\f.length<=50/\∀r,FR f g r->r.length<=60->R (.sh<|.lst<|r.map D.int)
noncomputable def Zfg:Pc:=λn R _=>∃(f g:Yf) (l:List (List Key×V)) (c:Int->Int->Int),n=[.lst (f.map prD),.lst (g.map prD),.dT l]/\Field f/\f.length<=50/\g.length<=50/\(∀q∈g,q.1≠q.2)/\
 (∀x∈X3 f,∀y∈X3 f,XD l [.inl x,.inl y]=some (.int<|c x y))/\Lm (X3 f) g/\∀h,Tab g c (XO<|X3 f) h->R (.own<|.dT h)
noncomputable def Zrl(C:Addr):Pw:=λo g R X=>∃(x:Addr) (f:Yf),o=.ins x C [] []/\g=[.sh (plD f)]/\f.length<=1000/\Kx (SE f) (X<|.ins x C [] []) (∀b1 l h,R (vO C x b1 l h [] [f] [[]]) .non)
noncomputable def Ah(bk:List (Str×Yg))(f:Yf)(p h:Int):Option Str:=if 100<=bk.length then some "BookFull" else Pb f p h
noncomputable def Zgq(C:Addr):Pw:=λo r R X=>∃(x b1 n l:Addr) (bk:List (Str×Yg)) (fs g:List (Yf)) (f w:Yf) (p h:Int),o=vO C x b1 n l bk (fs++[f]) (g++[w])/\r=[.sh (.int p),.sh (.int h)]/\bk.length<=1000/\fs.length<=900/\g.length<=900/\f.length<=1000/\
 Kx (Ah bk f p h) (X<|vO C x b1 n l bk (fs++[f]) (g++[w])) (R (vO C x b1 n l (bk++[(("sell" : Str),[p,h])]) (fs++[f]++[TY f p h]) (g++[w]++[w]))<|.int (bk.length+1))
noncomputable def FC(bk:List (Str×Yg))(f:Yf)(p h:Int):Option Str:=if 100<=bk.length then some "BookFull" else K4 f p h
noncomputable def Zhm(C:Addr):Pw:=λo r R X=>∃(x b1 n l:Addr) (bk:List (Str×Yg)) (fs g:List (Yf)) (f w:Yf) (p h:Int),o=vO C x b1 n l bk (fs++[f]) (g++[w])/\r=[.sh (.int p),.sh (.int h)]/\bk.length<=1000/\fs.length<=900/\g.length<=900/\f.length<=1000/\
 Kx (FC bk f p h) (X<|vO C x b1 n l bk (fs++[f]) (g++[w])) (R (vO C x b1 n l (bk++[(("part" : Str),[p,h])]) (fs++[f]++[Tn f p h]) (g++[w]++[w]))<|.int (bk.length+1))
noncomputable def F7(bk:List (Str×Yg))(f:Yf)(p:Int):Option Str:=if 100<=bk.length then some "BookFull" else Kn f p
noncomputable def Zku(C:Addr):Pw:=λo n R X=>∃(x b1 l h:Addr) (bk:List (Str×Yg)) (fs g:List (Yf)) (f w:Yf) (p:Int),o=vO C x b1 l h bk (fs++[f]) (g++[w])/\n=[.sh (.int p)]/\bk.length<=1000/\fs.length<=900/\g.length<=900/\f.length<=1000/\
 Kx (F7 bk f p) (X<|vO C x b1 l h bk (fs++[f]) (g++[w])) (R (vO C x b1 l h (bk++[(("unite" : Str),[p])]) (fs++[f]++[Tc f p]) (g++[w]++[w]))<|.int (bk.length+1))
noncomputable def BU(bk:List (Str×Yg))(w:Yf)(a b:Int):Option Str:=if 100<=bk.length then some "BookFull" else Kk w a b
noncomputable def Zjd(C:Addr):Pw:=λo r R X=>∃(x b1 n l:Addr) (bk:List (Str×Yg)) (fs g:List (Yf)) (f w:Yf) (p h:Int),o=vO C x b1 n l bk (fs++[f]) (g++[w])/\r=[.sh (.int p),.sh (.int h)]/\bk.length<=1000/\fs.length<=900/\g.length<=900/\w.length<=1000/\
 Kx (BU bk w p h) (X<|vO C x b1 n l bk (fs++[f]) (g++[w])) (R (vO C x b1 n l (bk++[(("wish" : Str),[p,h])]) (fs++[f]++[f]) (g++[w]++[w++[(p,h)]]))<|.int (bk.length+1))
noncomputable def Zdw:Pc:=λf R _=>∃bk:List (Str×Yg),f=[.lst (bk.map dD),.lst (bk.map dD)]/\(∀q∈bk,q.2.length<=100)/\bk.length<=1000/\R (.sh<|.bl true)
noncomputable def Zds(C:Addr):Pw2:=λo1 n l R _=>∃(x b1 h g a:Addr) (f0:Yf) (f:Kc),o1=vO C x b1 h g (bkH f) (fsH f0 f) (wsH f)/\n=.lsA a (XB f0 f)/\l=[]/\f.length<=200/\R (vO C x b1 h g (bkH f.dropLast) (fsH f0 f.dropLast)<|wsH f.dropLast) (.lsA a<|XB f0 f.dropLast) (.bl true)
noncomputable def Zp6:Pc:=λh R _=>∃(g m:Yg),h=[.scr g,.lst (m.map D.int)]/\Nn m/\∀f:Yf,f.length<=24->R (.own (f.map λq=>dD (Dd.wish q.1 q.2).q))
noncomputable def Zb5:Pc:=λh R _=>∃(c:Int) (m:Yg) (f w:Yf) (g:List D),h=[.int c,.lst (m.map D.int),.tup (plD f::plD w::g)]/\Nn m/\f.length<=1000/\Field f/\w.length<=1000/\(∀x:Dd,R (.sh<|dD x.q))/\R (.sh<|.tup [.str "back"])
noncomputable def Zar:Pc:=λh R X=>∃(f g:Yf),h=[.lst (f.map prD),.lst (g.map prD)]/\Field f/\f.length<=50/\(∀q∈g,q.1≠q.2)/\Nj (X3 f) g X (R<|.sh .non)
noncomputable def Zm9(C:Addr):Pc:=λh R _=>∃(bk:List (Str×Yg)) (fs g:List (Yf)) (f w:Yf),h=[P4 C bk (fs++[f]) (g++[w])]/\Field f/\f.length<=50/\∀r,FR (X3 f) w r->r.length<=60->R (.sh<|.lst<|r.map D.int)
noncomputable def Gd(bk:List (Str×Yg))(f w:Yf)(d:Dd):Option Str:=if 100<=bk.length then some "BookFull" else d.err f w
noncomputable def Zlb(C:Addr):Pw:=λo n R X=>∃(x b1 l h:Addr) (bk:List (Str×Yg)) (fs g:List (Yf)) (f w:Yf) (d:Dd),o=vO C x b1 l h bk (fs++[f]) (g++[w])/\n=[.sh (dD d.q)]/\bk.length<=1000/\fs.length<=900/\g.length<=900/\f.length<=1000/\w.length<=1000/\
 Kx (Gd bk f w d) (X<|vO C x b1 l h bk (fs++[f]) (g++[w])) (R (vO C x b1 l h (bk++[d.q]) (fs++[f]++[d.fld f]) (g++[w]++[d.wsh w]))<|.int (bk.length+1))
noncomputable def Zno(C:Addr):Pc:=λh R _=>∃(f0:Yf) (f:List (Dd×Yf×Yf)),h=[P4 C (bkH f) (fsH f0 f) (wsH f),.lst (XB f0 f)]/\f.length<=200/\(∀g∈fsH f0 f,g.length<=1000)/\(∀g∈wsH f,g.length<=1000)/\R (.sh<|.bl true)
noncomputable def Zaw:Pc:=λl R X=>∃(f g:Yf),l=[.lst (f.map prD),.lst (g.map prD)]/\Field f/\f.length<=50/\g.length<=50/\(∀q∈g,q.1≠q.2)/\Nj (X3 f) g X (∀h,TabV g (pcc f) (XO<|X3 f) h->R (.own<|h.map D.int))
noncomputable def Zcn:Pc:=λh R X=>∃(f g:Yf),h=[.lst (f.map prD),.lst (g.map prD)]/\Field f/\f.length<=50/\g.length<=50/\(∀q∈g,q.1≠q.2)/\Nj (X3 f) g X (∀o,Pi g (pcc f) (X3 f) o->R (.own<|o.map D.int))
noncomputable def Zl4(C:Addr):Pw2:=λo1 n l R _=>∃(x b1 h g a:Addr) (f0:Yf) (f:Kc) (q:D),o1=vO C x b1 h g (bkH f) (fsH f0 f) (wsH f)/\n=.lsA a (XB f0 f)/\l=[.sh q]/\f.length<100/\FineH f0 f/\
 ((q=.tup [.str "back"]/\R (vO C x b1 h g (bkH f.dropLast) (fsH f0 f.dropLast)<|wsH f.dropLast) (.lsA a<|XB f0 f.dropLast) (.bl true))\/
  ∃d:Dd,q=dD d.q/\R (vO C x b1 h g (bkH<|P8 f0 f d) (fsH f0<|P8 f0 f d)<|wsH<|P8 f0 f d) (.lsA a<|XB f0<|P8 f0 f d) (.bl true))
noncomputable def Zb2:Pc:=λh R X=>∃(f g:Yf),h=[.lst (f.map prD),.lst (g.map prD)]/\Field f/\f.length<=50/\g.length<=50/\(∀q∈g,q.1≠q.2)/\Nj (X3 f) g X (∀v,KH g (pcc f) (X3 f) v->R (.sh<|.int v))
noncomputable def Zrr(C:Addr):Pc:=λh R X=>∃(bk:List (Str×Yg)) (fs g:List (Yf)) (f w:Yf),h=[P4 C bk (fs++[f]) (g++[w])]/\Field f/\f.length<=50/\w.length<=50/\(∀q∈w,q.1≠q.2)/\Nj (X3 f) w X (∀o,Pi w (pcc f) (X3 f) o->R (.own<|o.map D.int))
noncomputable def Zbj(C:Addr):Pc:=λl R X=>∃(bk:List (Str×Yg)) (fs h:List (Yf)) (f w:Yf),l=[P4 C bk (fs++[f]) (h++[w])]/\Field f/\f.length<=50/\w.length<=50/\(∀q∈w,q.1≠q.2)/\Nj (X3 f) w X (∀g,TabV w (pcc f) (XO<|X3 f) g->R (.own<|g.map D.int))
noncomputable def Zq4(C:Addr):Pc:=λh R X=>∃(bk:List (Str×Yg)) (fs g:List (Yf)) (f w:Yf),h=[P4 C bk (fs++[f]) (g++[w])]/\Field f/\f.length<=50/\w.length<=50/\(∀q∈w,q.1≠q.2)/\Nj (X3 f) w X (∀v,KH w (pcc f) (X3 f) v->R (.sh<|.int v))
noncomputable def Zk3(C:Addr):Pc:=λl R X=>∃(bk:List (Str×Yg)) (fs h:List (Yf)) (f w:Yf),l=[P4 C bk (fs++[f]) (h++[w])]/\Field f/\f.length<=40/\w.length<=50/\(∀q∈w,q.1≠q.2)/\Nj (X3 f) w X (∀o g,Pi w (pcc f) (X3 f) o->Mv f (rkN f o) (Kw 1 f.length) g->R (.own<|g.map mvD))
noncomputable def Zp2(C:Addr):Pc:=λh R X=>∃(bk:List (Str×Yg)) (fs g:List (Yf)) (f w:Yf),h=[P4 C bk (fs++[f]) (g++[w])]/\Field f/\f.length<=50/\w.length<=50/\(∀q∈w,q.1≠q.2)/\Nj (X3 f) w X (∀o,Pi w (pcc f) (X3 f) o->R (.own ((Nb f o).map prD)))
noncomputable def Zei(C:Addr):Pc:=λl R _=>∃(bk:List (Str×Yg)) (fs h:List (Yf)) (f w:Yf),l=[P4 C bk (fs++[f]) (h++[w])]/\Field f/\f.length<=40/\w.length<=50/\(∀q∈w,q.1≠q.2)/\∀g,AllT f w g->R (.own g)
structure Fv (P:Program) (w:World) (K:Ye) (mg:Yi) (base:Heap):Type
variable {P:Program}{w:World}{K:Ye}{mg:Yi}{base:Heap}
abbrev Cal(_:Fv P w K mg base):=Callee P w K mg base
abbrev Cam(_:Fv P w K mg base):=Po P w K mg base
abbrev Cxe(_:Fv P w K mg base):=ExcR.CXe P w
abbrev X4(_:Fv P w K mg base):=ExcR.Xx mg "Village"
variable (ζ:Fv P w K mg base)
abbrev Zmm:Prop:=Cam ζ CX0 1 (ExcR.Pg K<|ExcR.Xx mg "Ringed") ["self","members"] (ExcR.BY K)
abbrev Ik:Prop:=Cal ζ (Cxe ζ) 1 "check_holder" ["holder"] (X0 mg Zqc K)
abbrev Rc:Prop:=Cal ζ (Cxe ζ) 1 "check_width" ["width"] (X0 mg Zrq K)
abbrev Zot:Prop:=Cal ζ CX0 1 "holders_of" ["strips"] (X0 mg Mi K)
abbrev LH:Prop:=Cal ζ CX0 1 "pair_cost" ["strips","ahead","behind"] (X0 mg Zp0 K)
abbrev Ri:Prop:=Cal ζ CX0 1 "own_numbers" ["strips"] (X0 mg Zrk K)
abbrev IX:Prop:=Cal ζ CX0 1 "exchange_cost" ["strips","numbers","place"] (X0 mg Zgj K)
abbrev Il:Prop:=Cal ζ CX0 1 "exchanged" ["numbers","place"] (X0 mg Zed K)
abbrev OT:Prop:=Cal ζ CX0 1 "first_wrong_place" ["numbers","ranks"] (X0 mg Zfa K)
abbrev Rx:Prop:=Cal ζ (Cxe ζ) 1 "check_neighbours" ["strips","place"] (X0 mg Zl2 K)
abbrev Zal:Prop:=Cal ζ CX0 1 "longer_paths" ["paths","left","wishes"] (X0 mg Zkr K)
abbrev L6:Prop:=Cal ζ (Cxe ζ) 1 "check_place" ["strips","place"] (X0 mg Zji K)
abbrev IW:Prop:=Cal ζ (Cxe ζ) 1 "without_wish" ["wishes","ahead","behind"] (X0 mg Zda K)
abbrev MM:Prop:=Cal ζ CX0 1 "sets_of" ["holders"] (X0 mg Zi1 K)
abbrev HV:Prop:=Cal ζ CX0 1 "without" ["members","holder"] (X0 mg Ziu K)
abbrev OM:Prop:=Cal ζ CX0 1 "may_lie_last" ["members","holder","wishes"] (X0 mg Zeg K)
abbrev Lv:Prop:=Cal ζ CX0 1 "may_lie_first" ["members","holder","wishes"] (X0 mg Zh3 K)
abbrev Ht:Prop:=Cam ζ CX0 1 (XH K (X4 ζ) "strips") ["self"] (X0 mg (Zmb<|X4 ζ) K)
abbrev O1:Prop:=Cam ζ CX0 1 (XH K (X4 ζ) "wishes") ["self"] (X0 mg (Zq1<|X4 ζ) K)
abbrev OH:Prop:=Cam ζ CX0 1 (XH K (X4 ζ) "deeds") ["self"] (X0 mg (Zna<|X4 ζ) K)
abbrev R8:Prop:=Cam ζ (Cxe ζ) 1 (XH K (X4 ζ) "check_room") ["self"] (X0 mg (Zeh<|X4 ζ) K)
abbrev Mc:Prop:=Cam ζ CX0 1 (XH K (X4 ζ) "enter") ["self","deed","field","wishes"] (Pu.spW mg (Zlm<|X4 ζ) K)
abbrev G3:Prop:=Cam ζ (Cxe ζ) 1 (XH K (X4 ζ) "take_back") ["self"] (Pu.spW mg (Zre<|X4 ζ) K)
abbrev RB:Prop:=Cam ζ (Cxe ζ) 1 (XH K (X4 ζ) "stood") ["self","many"] (X0 mg (Zk4<|X4 ζ) K)
abbrev Mh:Prop:=Cal ζ CX0 1 "_law_at" ["_law_script","_law_k"] (X0 mg Zf0 K)
abbrev Ry:Prop:=Cal ζ CX0 1 "_law_whole" ["_law_found"] (X0 mg Zj0 K)
abbrev IK:Prop:=Cal ζ CX0 1 "_law_mix" ["_law_cell","_law_place_here"] (X0 mg Zqu K)
abbrev HR:Prop:=Cal ζ CX0 1 "_law_menu" ["_law_cell"] (X0 mg Zoj K)
abbrev HX:Prop:=Cal ζ CX0 1 "_law_holder" ["_law_menu_here","_law_k"] (X0 mg Zm8 K)
abbrev LJ:Prop:=Cal ζ CX0 1 "_law_present" ["_law_strips"] (X0 mg Zsl K)
abbrev OP:Prop:=Cal ζ CX0 1 "_law_price" ["_law_strips","_law_order"] (X0 mg Zfn K)
abbrev Im:Prop:=Cal ζ CX0 1 "_law_field_step" ["_law_strips","_law_deed_here"] (Pu.spS mg Zq6 K)
abbrev Iy:Prop:=Cal ζ CX0 1 "_law_wish_step" ["_law_wishes","_law_deed_here"] (Pu.spS mg Zb3 K)
abbrev OW:Prop:=Cal ζ CX0 1 "_law_odd" ["_law_cell","_law_good"] (X0 mg Ze0 K)
abbrev O8:Prop:=Cal ζ CX0 1 "_law_place" ["_law_cell","_law_strips"] (X0 mg Zlr K)
abbrev OA:Prop:=Cal ζ CX0 1 "_law_width" ["_law_cell","_law_strips","_law_place_here"] (X0 mg Zco K)
abbrev G6:Prop:=Cal ζ (Cxe ζ) 2 "check_strips" ["strips"] (X0 mg Zdf K)
abbrev Ij:Prop:=Cal ζ (Cxe ζ) 2 "check_order" ["strips","order"] (X0 mg Zim K)
abbrev R1:Prop:=Cal ζ CX0 2 "ring_from" ["least","holders","wishes"] (X0 mg Zo7 K)
abbrev Mb:Prop:=Cal ζ (Cxe ζ) 2 "sold" ["strips","place","holder"] (X0 mg Zle K)
abbrev LK:Prop:=Cal ζ (Cxe ζ) 2 "parted" ["strips","place","width"] (X0 mg Zkw K)
abbrev Oe:Prop:=Cal ζ (Cxe ζ) 2 "united" ["strips","place"] (X0 mg Zbv K)
abbrev MF:Prop:=Cal ζ (Cxe ζ) 2 "with_wish" ["wishes","ahead","behind"] (X0 mg Zop K)
abbrev Oh:Prop:=Cal ζ CX0 2 "pair_costs" ["strips"] (X0 mg Zpp K)
abbrev G1:Prop:=Cal ζ CX0 2 "cost_with_last" ["members","last","least","pairs"] (X0 mg Zfi K)
abbrev OY:Prop:=Cal ζ CX0 2 "cost_with_first" ["members","first","least","pairs"] (X0 mg Ziy K)
abbrev LY:Prop:=Cam ζ (Cxe ζ) 2 (XH K (X4 ζ) "drop") ["self","ahead","behind"] (Pu.spW mg (Zet<|X4 ζ) K)
abbrev IB:Prop:=Cal ζ CX0 2 "_law_draw" ["_law_script","_law_k"] (X0 mg Zfp K)
abbrev Ox:Prop:=Cal ζ CX0 2 "_law_spare" ["_law_script"] (X0 mg Zp3 K)
abbrev O6:Prop:=Cal ζ CX0 2 "_law_row" ["_law_found","_law_due"] (X0 mg Zky K)
abbrev OO:Prop:=Cal ζ CX0 2 "_law_tuples" ["_law_found","_law_due"] (X0 mg Zdi K)
abbrev O4:Prop:=Cal ζ CX0 2 "_law_deed_is" ["_law_found","_law_due"] (X0 mg Zg3 K)
abbrev Rz:Prop:=Cal ζ CX0 2 "_law_is_ring" ["_law_ring","_law_holders","_law_wishes"] (X0 mg Zme K)
abbrev Lz:Prop:=Cal ζ CX0 2 "_law_step" ["_law_now","_law_deed_here"] (Pu.spS mg Zjq K)
abbrev Me:Prop:=Cal ζ CX0 2 "_law_start" ["_law_script","_law_menu_here","_law_many"] (X0 mg Znx K)
abbrev Hh:Prop:=Cal ζ CX0 2 "_law_days" ["_law_script","_law_most"] (X0 mg Zl9 K)
abbrev OS:Prop:=Cal ζ CX0 2 "_law_pair" ["_law_cell","_law_menu_here"] (X0 mg Zgi K)
abbrev HL:Prop:=Cal ζ (Cxe ζ) 3 "gathered" ["strips","order"] (X0 mg Ze7 K)
abbrev Hf:Prop:=Cal ζ CX0 3 "told_moves" ["strips","order"] (X0 mg Zcg K)
abbrev Lx:Prop:=Cal ζ CX0 3 "find_ring" ["holders","wishes"] (X0 mg Zfy K)
abbrev Hd:Prop:=Cal ζ CX0 3 "least_costs" ["strips","wishes","pairs"] (X0 mg Zfg K)
abbrev OX:Prop:=Cam ζ (Cxe ζ) 3 (Mk K<|X4 ζ) ["self","strips"] (Pu.spW mg (Zrl<|X4 ζ) K)
abbrev Li:Prop:=Cam ζ (Cxe ζ) 3 (XH K (X4 ζ) "sell") ["self","place","holder"] (Pu.spW mg (Zgq<|X4 ζ) K)
abbrev IL:Prop:=Cam ζ (Cxe ζ) 3 (XH K (X4 ζ) "part") ["self","place","width"] (Pu.spW mg (Zhm<|X4 ζ) K)
abbrev RZ:Prop:=Cam ζ (Cxe ζ) 3 (XH K (X4 ζ) "unite") ["self","place"] (Pu.spW mg (Zku<|X4 ζ) K)
abbrev O2:Prop:=Cam ζ (Cxe ζ) 3 (XH K (X4 ζ) "wish") ["self","ahead","behind"] (Pu.spW mg (Zjd<|X4 ζ) K)
abbrev IZ:Prop:=Cal ζ CX0 3 "_law_book_is" ["_law_found","_law_due"] (X0 mg Zdw K)
abbrev OV:Prop:=Cal ζ CX0 3 "_law_back" ["_law_village","_law_past"] (Nx mg (Zds<|X4 ζ) K)
abbrev MW:Prop:=Cal ζ CX0 3 "_law_opening" ["_law_script","_law_menu_here"] (X0 mg Zp6 K)
abbrev IS:Prop:=Cal ζ CX0 3 "_law_deed" ["_law_cell","_law_menu_here","_law_now"] (X0 mg Zb5 K)
abbrev Hc:Prop:=Cal ζ (Cxe ζ) 4 "check_no_ring" ["strips","wishes"] (X0 mg Zar K)
abbrev RH:Prop:=Cam ζ CX0 4 (XH K (X4 ζ) "ring") ["self"] (X0 mg (Zm9<|X4 ζ) K)
abbrev M5:Prop:=Cal ζ (Cxe ζ) 4 "_law_call" ["_law_village","_law_deed_here"] (Pu.spW mg (Zlb<|X4 ζ) K)
abbrev Ml:Prop:=Cal ζ CX0 4 "_law_stands" ["_law_village","_law_past"] (X0 mg (Zno<|X4 ζ) K)
abbrev G4:Prop:=Cal ζ (Cxe ζ) 5 "cost_table" ["strips","wishes"] (X0 mg Zaw K)
abbrev GO:Prop:=Cal ζ (Cxe ζ) 5 "best_order" ["strips","wishes"] (X0 mg Zcn K)
abbrev GJ:Prop:=Cal ζ CX0 5 "_law_go" ["_law_village","_law_past","_law_deed_here"] (Nx mg (Zl4<|X4 ζ) K)
abbrev GF:Prop:=Cal ζ (Cxe ζ) 6 "least_cost" ["strips","wishes"] (X0 mg Zb2 K)
abbrev Hw:Prop:=Cam ζ (Cxe ζ) 6 (XH K (X4 ζ) "order") ["self"] (X0 mg (Zrr<|X4 ζ) K)
abbrev RP:Prop:=Cam ζ (Cxe ζ) 6 (XH K (X4 ζ) "table") ["self"] (X0 mg (Zbj<|X4 ζ) K)
abbrev MU:Prop:=Cam ζ (Cxe ζ) 7 (XH K (X4 ζ) "cost") ["self"] (X0 mg (Zq4<|X4 ζ) K)
abbrev M0:Prop:=Cam ζ (Cxe ζ) 7 (XH K (X4 ζ) "moves") ["self"] (X0 mg (Zk3<|X4 ζ) K)
abbrev MZ:Prop:=Cam ζ (Cxe ζ) 7 (XH K (X4 ζ) "melded") ["self"] (X0 mg (Zp2<|X4 ζ) K)
abbrev HE:Prop:=Cal ζ CX0 8 "_law_all" ["_law_village"] (X0 mg (Zei<|X4 ζ) K)
abbrev Zgd:Prop:=Cal ζ CX0 9 "law" ["_law_script"] (X0 mg M6 K)
end M
namespace M
open L2 Own Pu
def Fu{f:Type}{xs:List f}{i:Nat}{d:f}(h:i<xs.length):xs.getD i d=xs[i]:=by rw[WV,WJ h];rfl
def Oz{f:Type}{xs:List f}{i:Nat}{d:f}(h:i<xs.length):xs.getD i d=xs[i]:=by rw[WV,WJ h];rfl
def Zf4{ns:Yg}{p:Int}(l:1<=p)(h:p<ns.length){b1:p.toNat<ns.length}{b2:(p-1).toNat<ns.length}:cutD (ns.map D.int) none (some (p-1))++[D.int ns[p.toNat],D.int ns[(p-1).toNat]]++cutD (ns.map D.int) (some (p+1)) none=(Pj ns p.toNat).map D.int:=by
 unfold Pj;rw[TZ,TZ,Bt ns (by lia),SG ns (by lia),Qd,Qd];have g:p.toNat-1=(p-1).toNat:=by lia
 have f:p.toNat+1=(p+1).toNat:=by lia
 rw[g,f,Oz b1,Oz b2];rfl
def Pd(ps:List (Yg))(f:Yg)(i j:Nat)(p:Yg)(h:Int):Prop:=(p∈ps.take i/\h∈f)\/(ps[i]?=some p/\h∈f.take j)
structure LGs (ws:Yf) (l:Int) (P:Yg->Int->Prop) (ls:Yg) (lg:List (Yg)) (kvs:List (Key×V)):Prop where
 g:LG ws l P lg
 nd:(lg.map<|X8 l).Nodup
 sub:∀h∈lg.map (X8 l),h∈ls
 rc:∀h:Int,(XD kvs<|.inl h).isSome=true↔h∈lg.map (X8 l)
 len:kvs.length<=lg.length
def LGs.len_le {n:Yf}{l:Int}{P:Yg->Int->Prop}{g:Yg}{h:List (Yg)}{f:List (Key×V)} (L:LGs n l P g h f):h.length<=g.length:=by
 have:=Ex L.nd L.sub
 rwa[WL]at this
def LG.congr {f:Yf}{l:Int}{P n:Yg->Int->Prop}{g:List (Yg)} (h:∀p x,P p x↔n p x) (G:LG f l P g):LG f l n g:=
 ⟨λq hq=>let ⟨p,x,a,b⟩:=G.mem q hq;⟨p,x,(h p x).mp a,b⟩,G.srt,λp x a b=>G.has p x ((h p x).mpr a) b⟩
def LGs.congr {n:Yf}{l:Int}{P s:Yg->Int->Prop}{o:Yg}{r:List (Yg)}{f:List (Key×V)} (h:∀p x,P p x↔s p x) (G:LGs n l P o r f):LGs n l s o r f:=⟨G.g.congr h,G.nd,G.sub,G.rc,G.len⟩
def LGs.start {ps:List (Yg)}{f:Yg}{g:Yf}{l:Int}:LGs g l (Pd ps f 0 0) f [] []:=by
 refine⟨⟨(λq hq=>by cases hq),List.Pairwise.nil,λp h a=>?_⟩,VR,(λh n=>by cases n),(λh=>by simp[XD]),WU _⟩;rcases a with⟨a,_⟩|⟨_,a⟩
 ·rw[Jl]at a;cases a
 ·rw[Jl]at a;cases a
def LGs.skip {ps:List (Yg)}{f:Yg}{u:Yf}{l:Int}{A:List (Yg)}{n:List (Key×V)}{i j:Nat}{p:Yg}{h:Int} (w:ps[i]?=some p) (L:f[j]?=some h) (C:ps.Pairwise sl)
  (G:LGs u l (Pd ps f i j) f A n) (no:(XD n<|.inl h).isSome=true\/(X8 l p,h)∉u):LGs u l (Pd ps f i (j+1)) f A n:=by
 obtain⟨H,N⟩:=Qg.mp L;obtain⟨J,ei⟩:=Qg.mp w;have y:∀x,x∈f.take (j+1)↔x∈f.take j\/x=h:=λx=>by rw[Qm H,Qh,WQ,N]
 refine⟨⟨λq hq=>?_,G.g.srt,λs x a b=>?_⟩,G.nd,G.sub,G.rc,G.len⟩
 ·obtain⟨s,x,a,b⟩:=G.g.mem q hq;exact⟨s,x,a.imp id λz=>⟨z.1,(y x).mpr (.inl z.2)⟩,b⟩
 ·rcases a with a|⟨a1,a2⟩
  ·exact G.g.has s x (.inl a) b
  ·rcases(y x).mp a2 with a2|rfl
   ·exact G.g.has s x (.inr ⟨a1,a2⟩) b
   ·rw[w]at a1;cases a1
    rcases no with no|no
    ·obtain⟨q,hq,e⟩:=Qq.mp ((G.rc x).mp no);obtain⟨v,B,o,rfl,Q⟩:=G.g.mem q hq;have M:B=x:=by rw[Pr]at e;exact e
     subst M;refine⟨v,hq,?_⟩;rcases o with⟨o,_⟩|⟨o,_⟩
     ·obtain⟨m,E,r⟩:=Q4.mp o;rw[Qp]at E;rw[Vn]at r
      have:=QR.mp C m i (by lia) J (by lia)
      rw[r,ei]at this;exact .inr this
     ·rw[w]at o;cases o
      exact .inl rfl
    ·exact absurd b no
def LGs.put {ps:List (Yg)}{r:Yg}{v:Yf}{l:Int}{y:List (Yg)}{s:List (Key×V)}{i j:Nat}{p:Yg}{h:Int} (A:ps[i]?=some p) (hh:r[j]?=some h) (T:ps.Pairwise sl) (U:r.Pairwise (· < ·))
  (G:LGs v l (Pd ps r i j) r y s) (new:(XD s<|.inl h).isSome=false) (hw:(X8 l p,h)∈v):LGs v l (Pd ps r i (j+1)) r (y++[p++[h]]) (putK s (.inl h)<|.bl true):=by
 obtain⟨J,L⟩:=Qg.mp hh;obtain⟨Y,ei⟩:=Qg.mp A;have B:∀x,x∈r.take (j+1)↔x∈r.take j\/x=h:=λx=>by rw[Qm J,Qh,WQ,L]
 have C:X8 l (p++[h])=h:=by rw[Pr];rfl
 have M:h∉y.map (X8 l):=λz=>by rw[(G.rc h).mpr z]at new;cases new
 refine⟨⟨λq hq=>?_,?_,λf x a b=>?_⟩,?_,λx hx=>?_,λx=>?_,?_⟩
 ·rcases Qh.mp hq with hq|hq
  ·obtain⟨f,x,a,b⟩:=G.g.mem q hq;exact⟨f,x,a.imp id λz=>⟨z.1,(B x).mpr (.inl z.2)⟩,b⟩
  ·rw[WQ.mp hq];exact⟨p,h,.inr ⟨A,(B h).mpr (.inr rfl)⟩,rfl,hw⟩
 ·refine VU.mpr ⟨G.g.srt,by simp,λq hq q' E=>?_⟩;rw[WQ.mp E];obtain⟨f,x,a,rfl,b⟩:=G.g.mem q hq;rcases a with⟨a,_⟩|⟨a1,a2⟩
  ·obtain⟨m,H,o⟩:=Q4.mp a;rw[Qp]at H;rw[Vn]at o
   have:=QR.mp T m i (by lia) Y (by lia)
   rw[o,ei]at this;exact EK x h this
  ·rw[A]at a1;cases a1
   obtain⟨m,H,o⟩:=Q4.mp a2;rw[Qp]at H;rw[Vn]at o
   have:=QR.mp U m j (by lia) J (by lia)
   rw[o,L]at this;exact LM this
 ·have u:∀f x,Pd ps r i j f x->(X8 l f,x)∈v->∃n,n++[x]∈y++[p++[h]]/\(n=f\/sl n f):=λf x a b=>let ⟨n,Q,N⟩:=G.g.has f x a b;⟨n,QU _ Q,N⟩;rcases a with a|⟨a1,a2⟩
  ·exact u f x (.inl a) b
  ·rcases(B x).mp a2 with a2|rfl
   ·exact u f x (.inr ⟨a1,a2⟩) b
   ·rw[A]at a1;cases a1
    exact⟨p,Qr _ (WQ.mpr rfl),.inl rfl⟩
 ·rw[Qd,Ji,C];refine Vm.mpr ⟨G.nd,by simp,λa ha b hb=>?_⟩;rw[WQ.mp hb];rintro rfl;exact M ha
 ·rw[Qd,Ji,C]at hx;rcases Qh.mp hx with hx|hx
  ·exact G.sub x hx
  ·rw[WQ.mp hx,←L];exact Qi J
 ·rw[Qd,Ji,C,FN,Qh,WQ];by_cases e:x=h
  ·subst e;rw[WT rfl];exact⟨λ_=>.inr rfl,λ_=>rfl⟩
  ·rw[WS (λz=>e (Sum.inl.inj z)),G.rc];exact⟨.inl,λz=>z.elim id λw=>absurd w e⟩
 ·rw[WW]
  have:=FI s (.inl h) (.bl true)
  have:=G.len
  simp;lia
theorem Mp{f:Type}{c:f->Bool}:∀{xs:List f}{x:f}{r:List f},xs.filter c=x::r->∃i,∃o:i<xs.length,xs[i]=x/\c x=true/\∀j (l:j<xs.length),j<i->c xs[j]=false
 |[],x,r,h=>by cases h
 |y::v,x,r,h=>by
  by_cases g:c y=true
  ·rw[List.filter_cons_of_pos g]at h;cases h
   exact⟨0,by simp,rfl,g,λj _ l=>by lia⟩
  ·rw[List.filter_cons_of_neg g]at h;obtain⟨i,o,u,s,p⟩:=Mp h;refine⟨i+1,by simp;lia,by simpa using u,s,λj l n=>?_⟩;cases j with
   |zero=>simpa using g
   |succ j=>simpa using p j (by simpa using l) (by lia)
def GC(c:Int->Bool):∀f:Yg,f.filterMap (λq=>if c q=true then some (D.int q)else none)=(f.filter c).map D.int:=PU c D.int
def Znr(ps:Yf)(os:Yg):(Nb ps os).length<=os.length*ps.length:=by
 unfold Nb
 induction os with
 |nil=>simp
 |cons h r f=>
  rw[List.flatMap_cons,WW,Qe,Nat.add_mul]
  have:=QE (λq:Int×Int=>decide (q.1=h)) ps
  lia
def FRi(g:Yg)(f:Yf)(ns:Yg)(r:Yg):Prop:=
 (r=[]/\∀l∈ns,∀t,¬Pt g f l t)\/∃l t,r=l::t/\l∈ns/\Pt g f l t/\∀m∈ns,∀u,Pt g f m u->t.length<u.length\/(t.length=u.length/\(l<m\/(l=m/\(t=u\/sl t u))))
def FRi.keep {p:Yg}{o:Yf}{ns r f:Yg}{l:Int} (h:FRi p o ns r) (y:∀m∈ns,m<l) (g:RF p o l f) (c:f=[]\/(r≠[]/\r.length<=f.length)):FRi p o (ns++[l]) r:=by
 rcases h with⟨rfl,h⟩|⟨w,t,rfl,x,B,A⟩
 ·rcases c with rfl|⟨c,_⟩
  ·rcases g with⟨_,g⟩|⟨t,e,_⟩
   ·refine .inl ⟨rfl,λm hm=>?_⟩;rcases Qh.mp hm with hm|hm
    ·exact h m hm
    ·rw[WQ.mp hm];exact g
   ·cases e
  ·exact absurd rfl c
 ·refine .inr ⟨w,t,rfl,QU _ x,B,λm hm u n=>?_⟩;rcases Qh.mp hm with hm|hm
  ·exact A m hm u n
  ·rw[WQ.mp hm]at n ⊢;rcases g with⟨rfl,g⟩|⟨s,rfl,_,g⟩
   ·exact absurd n (g u)
   ·rcases c with c|⟨_,c⟩
    ·cases c
    ·have v:=y w x;simp at c;rcases g u n with z|⟨z,_⟩
     ·exact .inl (by lia)
     ·by_cases e:t.length<u.length
      ·exact .inl e
      ·exact .inr ⟨by lia,.inl v⟩
def FRi.take {o:Yg}{n:Yf}{ns r f:Yg}{l:Int} (h:FRi o n ns r) (A:∀m∈ns,m<l) (v:RF o n l f) (c:f≠[]/\(r=[]\/f.length<r.length)):FRi o n (ns++[l]) f:=by
 rcases v with⟨rfl,_⟩|⟨s,rfl,f1,x⟩
 ·exact absurd rfl c.1
 ·refine .inr ⟨l,s,rfl,Qr _ (WQ.mpr rfl),f1,λm hm u g=>?_⟩;rcases Qh.mp hm with hm|hm
  ·rcases h with⟨rfl,h⟩|⟨y,t,rfl,C,B,w⟩
   ·exact absurd g (h m hm u)
   ·rcases c.2 with c|c
    ·cases c
    ·simp at c;rcases w m hm u g with z|⟨z,_⟩
     ·exact .inl (by lia)
     ·exact .inl (by lia)
  ·rw[WQ.mp hm]at g ⊢;rcases x u g with z|⟨z,p⟩
   ·exact .inl z
   ·exact .inr ⟨z,.inr ⟨rfl,p⟩⟩
def FRi.all {f:Yg}{n:Yf}{ns r:Yg} (g:∀z,z∈ns↔z∈f) (h:FRi f n ns r):FR f n r:=by
 rcases h with⟨rfl,h⟩|⟨l,t,rfl,v,u,s⟩
 ·exact .inl ⟨rfl,λl p=>h l ((g l).mpr p)⟩
 ·exact .inr ⟨l,t,rfl,(g l).mp v,u,λm o=>s m ((g m).mpr o)⟩
noncomputable def Zod(f:List (Option Pu.S)):Nat:=match f[4]? with
 |some (some<|Pu.S.sh<|Pu.D.tup g)=>g.length
 |_=>0
def Fw{f:Type}{xs:List f}{x:f}(h:xs[xs.length-1]?=some x):atI xs (-1)=some x:=by
 have g:=(Qg.mp h).1;unfold atI ixN;rw[WS (by lia),WT (by lia)];show xs[_]?=some x;rw[←h];congr 1;lia
def Zm5(f:Kc){j:Nat}(h:j<=f.length):(f.take j).dropLast=f.take (j-1):=by
 rw[List.dropLast_eq_take,List.take_take,Qp];congr 1;lia
noncomputable def Zjk(f:List (Option Pu.S)):Nat:=match f[4]? with
 |some (some<|Pu.S.own<|Pu.O.lsA _ g)=>g.length
 |_=>0
end M
namespace T
open L2 Own M
section
variable {P:Program}{w:World}{K:Ye}{mg:Yi}{base:Heap}
def Zos(G:Glob K mg)(D:Pu.XJ K (ExcR.Pg K<|ExcR.Xx mg "Ringed") "__init__" "Ringed.__init__" Dj ["self","members"])
  : Pu.Po P w K mg base CX0 1 (ExcR.Pg K<|ExcR.Xx mg "Ringed") ["self","members"] (ExcR.BY K):=by
 refine D.ok (k:=0) Zdx (λg H Q E h=>?_) (λf l A outer s H g Q E n h=>?_)
 ·obtain⟨_,_,_,_,_,rfl,_⟩:=h;rfl
 ·exact⟨_,P2 (ExcR.Zcs (pv 0) (PN LS (by rfl) G.Zg boot_list<|Kb (pv 1) KF)<|by rfl),ExcR.Zmo h rfl⟩
def Zmd(G:Glob K mg)(D:Def K mg "holders_of" Co ["strips"])
  : Callee P w K mg base CX0 1 "holders_of" ["strips"] (GH K):=by
 refine D.ok (k:=0) Za0 (λu H Q E h=>?_) (λf cdv A outer s H u Q E hr h=>?_)
 ·obtain⟨l,g,rfl,⟨u,y,v⟩,L,J,q⟩:=h;rfl
 ·obtain⟨l,g,rfl,⟨u,y,v⟩,L,J,q⟩:=h;refine⟨_,(P2<|Ku<|Ka (Rf rfl) (by rfl) G.Zj boot_sorted<|Kb (PN (Zsc rfl) (by rfl) G.Yb boot_set<|Kb (Df (N':=["holder","width"]) (φ:=[none,none]) rfl (Sk.of<|by rfl) (Zac<|pv 0) (λ_ _ _ _ _=>⟨(FA (K:=K) (n:=2) rfl<|NZ (Cz (i:=0) (show(["holder","width"]:Yn).Nodup from by decide +kernel) rfl (by first|exact Or.inl rfl|exact Or.inr rfl))<|NZ (Cz (i:=1) (show(["holder","width"]:Yn).Nodup from by decide +kernel) rfl (by first|exact Or.inl rfl|exact Or.inr rfl)) FH),Nz,(pv 0)⟩)) KF) KF),?_⟩
  have e1:=v.1;refine⟨_,rfl,l,rfl,⟨_,SqL.of y⟩,λD B=>Zqz (ds:=g) (λd=>some (V.int d.1)) (SqL.of y) e1 B (WZ J<|by decide) (λi x d H2 hx hd S k Y=>?_) ?_⟩
  ·obtain⟨d',p,a,rfl,ha⟩:=v.get hx;rw[hd]at p;cases p
   exact⟨a,_,rfl,SqT.of (S _ _ ha),rfl,_,_,rfl,_,_,rfl,rfl,.skip (.skip .refl),_,rfl,Y⟩
  ·have em:g.filterMap (λd=>some (V.int d.1))=(g.map (·.1)).map V.int:=by
    rw[VO,Q7];rfl
   rw[em];have S1:Same H (upd H D<|.lst ((g.map (·.1)).map V.int)):=Ki B;refine⟨D,g.map (·.1),rfl,SqL.of XG,by rw[WL];lia,λz N=>?_⟩;have M:=Own.Same.new (o:=NF w z ((g.map (·.1)).foldl SetR.K5 [])) S1 N;refine⟨z,_,rfl,?_,.inr XG,λr ns C U T=>?_⟩
   ·have:=Rr (g.map (·.1)) []
    rw[WL]at this;simp at this ⊢;lia
   ·rw[Zbz L U T];exact q r _ (M.free C) (Own.Same.new M C) XG
end
open Pu
section
variable {P:Program}{w:World}{K:Ye}{mg:Yi}{base:Heap} (ζ:Fv P w K mg base)
variable (G:Glob K mg) (YQ:Zmm ζ) (Y2:Ik ζ) (YR:Rc ζ) (Yw:Zot ζ) (YS:LH ζ) (YT:Ri ζ) (YU:IX ζ) (YV:Il ζ) (Y7:OT ζ) (YW:Rx ζ) (YX:Zal ζ) (Y8:L6 ζ) (YY:IW ζ) (YZ:MM ζ) (Y4:HV ζ) (Wa:OM ζ) (Wb:Lv ζ) (Yu:Ht ζ) (Yv:O1 ζ) (Wc:OH ζ) (Yz:R8 ζ) (Y0:Mc ζ) (YA:G3 ζ) (Wd:RB ζ) (Yt:Mh ζ) (Y1:Ry ζ) (Yx:IK ζ) (We:HR ζ) (Yy:HX ζ) (YB:LJ ζ) (Wf:OP ζ) (Wg:Im ζ) (Wh:Iy ζ) (Y5:OW ζ) (Wi:O8 ζ) (Wj:OA ζ) (Wk:G6 ζ) (YC:Ij ζ) (Wl:R1 ζ) (Wm:Mb ζ) (Wn:LK ζ) (Wo:Oe ζ) (Wp:MF ζ) (YD:Oh ζ) (Wq:G1 ζ) (Wr:OY ζ) (Ws:LY ζ) (Wt:IB ζ) (Wu:Ox ζ) (YE:O6 ζ) (Y3:OO ζ) (YF:O4 ζ) (Wv:Rz ζ) (Ww:Lz ζ) (Wx:Me ζ) (Wy:Hh ζ) (YG:OS ζ) (Wz:HL ζ) (W1:Hf ζ) (YH:Lx ζ) (YI:Hd ζ) (YJ:OX ζ) (W2:Li ζ) (W3:IL ζ) (W4:RZ ζ) (YK:O2 ζ) (W5:IZ ζ) (W6:OV ζ) (W7:MW ζ) (W8:IS ζ) (YL:Hc ζ) (W9:RH ζ) (WA:M5 ζ) (WB:Ml ζ) (YM:G4 ζ) (WC:GO ζ) (YN:GJ ζ) (WD:GF ζ) (Y6:Hw ζ) (WE:RP ζ) (WG:MU ζ) (WH:M0 ζ) (WI:MZ ζ) (YO:HE ζ)
def Zcq(p:Def K mg "check_holder" Ds ["holder"])
  : Ik ζ:=by
 refine p.fy Zdr (λr n=>(b1<|sI (tp<|wo (tc KY Pa (xv 0) xi)<|wO<|tc K9 KA (xv 0)<|xe (ExcR.P7 G.Z2) X2) (b1<|sQ G.ZC G.ZA ExcR.KO<|a1<|xe (ExcR.Sb<|ExcR.Tq<|ExcR.NV (ExcR.P7 G.Z2) ExcR.NC)<|Sd<|Tp<|NM X2 ND) b0)) (.a ?_)
 ·rintro u R X ⟨h,rfl,f⟩;refine⟨rfl,?_⟩;unfold Ba at f;refine Xy (λg=>Kz ?_) (λg=>?_)
  ·rw[WS (by have:=WR g;lia)]at f;exact⟨by decide,by decide,by decide,by decide,by simp,f⟩
  ·have s:¬h<1:=λz=>g (WM z);refine Xy (λl=>?_) (λl=>?_)
   ·rw[WS (by have:=WR l;lia)]at f;exact⟨by decide,by decide,by decide,by decide,by simp,f⟩
   ·have o:¬10<h:=λz=>l (WM z);rw[WT (by lia)]at f;exact f
def Zli(p:Def K mg "check_width" CU ["width"])
  : Rc ζ:=by
 refine p.fy Zr1 (λr n=>(b1<|sI (tp<|wo (tc KY Pa (xv 0) xi)<|wO<|tc K9 KA (xv 0)<|xe (ExcR.P7 G.Zq) X2) (b1<|sQ G.ZF G.ZE ExcR.KO<|a1<|xe (ExcR.Sb<|ExcR.Tq<|ExcR.NV (ExcR.P7 G.Zq) ExcR.NC)<|Sd<|Tp<|NM X2 ND) b0)) (.a ?_)
 ·rintro u R X ⟨h,rfl,f⟩;refine⟨rfl,?_⟩;unfold AW at f;refine Xy (λg=>Kz ?_) (λg=>?_)
  ·rw[WS (by have:=WR g;lia)]at f;exact⟨by decide,by decide,by decide,by decide,by simp,f⟩
  ·have s:¬h<1:=λz=>g (WM z);refine Xy (λl=>?_) (λl=>?_)
   ·rw[WS (by have:=WR l;lia)]at f;exact⟨by decide,by decide,by decide,by decide,by simp,f⟩
   ·have o:¬1000<h:=λz=>l (WM z);rw[WT (by lia)]at f;exact f
def Zqd(J:Def K mg "pair_cost" Ep ["strips","ahead","behind"])
  : LH ζ:=by
 refine J.fz Zf8 (λu n=>(bc (sS 3 n xi)<|bc (sS 4 n xi)<|bc (sF 0<|sO [5,6] Qn (iL<|xv 0) (gT 2<|gc (gN 5)<|gc (gN 6) g0)<|b1<|sI (tq u (xv 5)<|xv 2) (b1<|sU 3 n OC<|xv 6)<|b1<|sI (tq u (xv 5)<|xv 1) (b1<|sU 4 n OC<|xo N3 Np (xv 3)<|xv 6) b0)<|b1<|sV 4)) (.a ?_)
 ·rintro L R X ⟨f,x,y,rfl,C,B⟩;refine⟨rfl,rfl,PL (xs:=f) (emb:=prD) (λi h=>h=[some (.bor<|.lst<|f.map prD),some (.sh<|.int x),some (.sh<|.int y),some (.sh<|.int<|tpM f y i),some (.sh<|.int<|pcM f x y i),none,none]) rfl ?_ ?_⟩
  ·rintro i A h rfl;have v:f.getD i (0,0)=f[i]:=by rw[WV,WJ A];rfl
   have hw:=C _ (Qi A);have H:tpM f y (i+1)=tpM f y i+(if f[i].1=y then f[i].2 else 0):=by simp only[tpM];rw[v]
   have E:pcM f x y (i+1)=pcM f x y i+(if x≠y/\f[i].1=x then tpM f y i*f[i].2 else 0):=by simp only[pcM];rw[v]
   rw[H,E];generalize f[i]=p at hw;refine⟨rfl,Xy (λg=>?_) (λg=>Xy (λr=>?_) (λr=>?_))⟩
   ·have e:p.1=y:=WR g;rw[WT e,WS (by rintro⟨s,o⟩;exact s (o.symm.trans e)),Jj];rfl
   ·have e:¬p.1=y:=λz=>g (WM z);have l:p.1=x:=WR r;rw[WS e,WT ⟨λz=>e (l.trans z),l⟩,Jj];exact⟨.inr ⟨by show -(2 ^ 64)<p.2;lia,by show p.2<2 ^ 64;lia⟩,rfl⟩
   ·have e:¬p.1=y:=λz=>g (WM z);have l:¬p.1=x:=λz=>r (WM z);rw[WS e,WS (by rintro⟨s,o⟩;exact l o),Jj,Jj];rfl
  ·rintro h rfl;exact B
def Zj5(l:Def K mg "own_numbers" Ct ["strips"])
  : Ri ζ:=by
 refine l.fz Zq5 (λp n=>(b1<|sR<|xC ["index"] [none] (jI<|ir G.Zf<|a1<|xl G.len<|xv 0) (gN 0) f0<|xo XS XQ (xv 0) xi)) (.a ?_)
 ·rintro r R X ⟨f,rfl,o,h⟩;refine⟨rfl,?_⟩;have g:(f.map prD).length=f.length:=WL ..;refine⟨⟨by lia,by lia⟩,D5 (λi=>some (.int (0+(i:Int)+1))) (by lia) (λi _=>⟨_,rfl,rfl⟩) ?_⟩
  have e:(List.range ((f.map prD).length:Int).toNat).filterMap (λ(i:Nat)=>some (D.int (0+(i:Int)+1)))=(Kw 1 f.length).map D.int:=by
   unfold Kw;rw[VO,Q7,g,Q5];refine Vr λi _=>?_;show D.int (0+(i:Int)+1)=D.int (1+(i:Int));congr 1;lia
  rw[e];exact h
def Zh7(x:Def K mg "exchange_cost" Cf ["strips","numbers","place"])
  : IX ζ:=by
 refine x.fz Za3 (λA n=>(bc (sS 3 n<|xx (xv 0)<|xo Kl Km (xx (xv 1)<|xo Kl Km (xv 2) xi) xi)<|bc (sS 4 n<|xx (xv 0)<|xo Kl Km (xx (xv 1)<|xv 2) xi)<|b1<|sR<|xo N3 Np (xx (xv 3) xi)<|xx (xv 4) xi)) (.a ?_)
 ·rintro E R X ⟨g,f,p,rfl,s,h,C,B,l⟩;refine⟨rfl,?_⟩;have b1:(p-1).toNat<f.length:=by omega
  have r:p.toNat<f.length:=by omega
  have z:=h _ (Qi b1);have y:=h _ (Qi r);refine⟨_,Pe (by omega) (by omega),_,Pe (by omega) (by omega),_,Pe (by omega) (by omega),_,Pe (by omega) (by omega),_,rfl,_,rfl,?_⟩;have o:(f[(p-1).toNat]-1).toNat<g.length:=by omega
  have v:(f[p.toNat]-1).toNat<g.length:=by omega
  have f1:=s _ (Qi o);refine⟨.inl ⟨by show -(2 ^ 64)<(g[(f[(p-1).toNat]-1).toNat]).2;omega,by show(g[(f[(p-1).toNat]-1).toNat]).2<2 ^ 64;omega⟩,?_⟩
  have e:exM g f p.toNat=(g[(f[(p-1).toNat]-1).toNat]).2*(g[(f[p.toNat]-1).toNat]).2:=by
   unfold exM
   have u:f.getD (p.toNat-1) 0=f[(p-1).toNat]:=by
    rw[show p.toNat-1=(p-1).toNat by omega];exact Fu b1
   rw[u,Fu r,Fu o,Fu v]
  rw[e]at l;exact l
def Ze9(s:Def K mg "exchanged" Gk ["numbers","place"])
  : Il ζ:=by
 refine s.fz Zgg (λv n=>(b1<|sR<|xo KC KD (xo KC KD (xp (xv 0) o0<|o1<|xo Kl Km (xv 1) xi)<|xL<|a2 (xx (xv 0)<|xv 1)<|xx (xv 0)<|xo Kl Km (xv 1) xi)<|xp (xv 0) (o1<|xo XS XQ (xv 1) xi) o0)) (.a ?_)
 ·rintro x R X ⟨f,p,rfl,r,o,u,h⟩;refine⟨rfl,?_⟩;have b1:p.toNat<f.length:=by lia
  have b2:(p-1).toNat<f.length:=by lia
  have g:(cutD (f.map D.int) none<|some (p-1)).length<=1000:=by have:=(TB (f.map D.int) none<|some (p-1)).length_le;rw[WL]at this;lia
  have l:(cutD (f.map D.int) (some (p+1)) none).length<=1000:=by have:=(TB (f.map D.int) (some (p+1)) none).length_le;rw[WL]at this;lia
  refine⟨SD _,_,Pe (by lia) (by lia),_,Pe (by lia) (by lia),by simp,rfl,rfl,WZ (Qt g<|WU 2) (by decide),SD _,rfl,rfl,WZ (Qt (by rw[WW];exact Qt g (WU 2)) l) (by decide),?_⟩;have e:=Zf4 r o (b1:=b1) (b2:=b2);rw[←e]at h;exact h
def Zma(L:Def K mg "first_wrong_place" Eo ["numbers","ranks"])
  : OT ζ:=by
 refine L.fz Ziq (λN n=>(bc (sO [2] Qn (iR G.Zf<|a2 xi<|xl G.len<|xv 0) (gN 2)<|b1<|sI (tc K9 KA (xx (xv 1)<|xo Kl Km (xx (xv 0)<|xo Kl Km (xv 2) xi) xi)<|xx (xv 1)<|xo Kl Km (xx (xv 0)<|xv 2) xi) (b1<|sV 2) b0)<|b1<|sR xi)) (.a ?_)
 ·rintro U R X ⟨h,l,rfl,y,M,E⟩;refine⟨rfl,?_⟩;have Q:(h.map D.int).length=h.length:=WL ..
  have C:∀(i:Nat) (k:Int),i<h.length->k=(i:Int)->atI (h.map D.int) k=some (.int<|h.getD i 0):=λi k p e=>by
   rw[e];exact T5 (f:=D.int) (Te<|by rw[WV,WJ p];rfl)
  have A:∀i:Nat,i<h.length->atI (l.map D.int) (h.getD i 0-1)=some (.int (l.getD (h.getD i 0-1).toNat 0)):=λi p=>by
   have J:h.getD i 0∈h:=by
    rw[WV,WJ p];exact Qi p
   have:=y _ J
   generalize h.getD i 0=z at this;rw[Pe (f:=D.int) (xs:=l) (by lia) (by lia),WV,WJ (show(z-1).toNat<l.length by lia)];rfl
  have x:∀i:Nat,i<h.length->(h.map λm=>l.getD (m-1).toNat 0).getD i 0=l.getD (h.getD i 0-1).toNat 0:=λi p=>BV p;have B:(h.map λm=>l.getD (m-1).toNat 0).length=h.length:=WL ..;refine⟨⟨by lia,by lia⟩,Tf (λi r=>(∀q,1<=q->q<1+i->(h.map λm=>l.getD (m-1).toNat 0).getD (q-1) 0<=(h.map λm=>l.getD (m-1).toNat 0).getD q 0)/\r=[some (.bor<|.lst<|h.map D.int),some (.bor<|.lst<|l.map D.int),none]) ⟨λq u T=>by lia,rfl⟩ ?_ ?_⟩
  ·rintro i r p ⟨u,rfl⟩
   have o:i+1<h.length:=by
    have:i<((((h.map D.int).length:Nat):Int)-1).toNat:=p
    lia
   refine⟨_,C i _ (by lia) (by lia),_,A i (by lia),_,C (i+1) _ o (by lia),_,A (i+1) o,?_⟩;refine Xy (λg=>?_) (λg=>?_)
   ·have H:l.getD (h.getD (i+1) 0-1).toNat 0<l.getD (h.getD i 0-1).toNat 0:=WR g
    have:=E (i+1) ⟨λq s v=>u q s (by rw[WS (by lia)]at v;lia),.inr ⟨by lia,by rw[B];exact o,by rw[x _ o,Vz,x _ (by lia)];exact H⟩⟩
    rw[show((i+1:Nat):Int)=1+(i:Int) by lia]at this;exact this
   ·have H:¬l.getD (h.getD (i+1) 0-1).toNat 0<l.getD (h.getD i 0-1).toNat 0:=λz=>g (WM z);refine⟨λq s v=>?_,rfl⟩;by_cases c:q<1+i
    ·exact u q s c
    ·have:q=i+1:=by lia
     subst this;rw[x _ o,Vz,x _ (by lia)];lia
  ·rintro r ⟨u,rfl⟩;refine E 0 ⟨λq s v=>u q s ?_,.inl rfl⟩;rw[WT rfl,B]at v;lia
def Zd1(r:Def K mg "check_neighbours" Da ["strips","place"])
  : Rx ζ:=by
 refine r.fy Zoo (λs n=>(b1<|sI (tp<|wo (tc KY Pa (xv 1) xi)<|wO<|tc Sz SA (xv 1)<|xl G.len<|xv 0) (b1<|sQ G.Zw G.Zv ExcR.KO<|a1 xs) b0)) (.a ?_)
 ·rintro x R X ⟨h,p,rfl,f⟩;refine⟨rfl,?_⟩;have u:(h.map prD).length=h.length:=WL ..;refine Xy (λg=>Kz ?_) (λg=>?_)
  ·rw[WT (.inl<|WR g)]at f;exact⟨by simp,f⟩
  ·have v:¬p<1:=λz=>g (WM z);refine Xy (λo=>?_) (λo=>?_)
   ·have l:((h.map prD).length:Int)<=p:=WR o;rw[WT (.inr<|by lia)]at f;exact⟨by simp,f⟩
   ·have l:¬((h.map prD).length:Int)<=p:=λz=>o (WM z);rw[WS (by lia)]at f;exact f
def Zkq(DD:Def K mg "longer_paths" Ed ["paths","left","wishes"])
  : Zal ζ:=by
 refine DD.fz RR (λE n=>(bc (sS 3 n<|xL a0)<|bc (se (Pu.pz 4 RR.nd Zc7)<|T8 Zdh<|Ko 4)<|bc (sF 1<|sF 0<|sO [5,6] Qn (iL<|xv 0) (gN 5)<|b1<|sF 1<|sO [6] Qn (iL<|xv 1) (gN 6)<|b1<|sI (tp<|wa (te (Zsf<|Zgn (Pp<|E ()) (pv 6)<|pv 4)<|Zi0<|Zfh (Xt 6)<|Xt 4)<|wA<|ti E (xt<|a2 (xx (xv 5)<|xe (KQ KN X9)<|KM X2)<|xv 6)<|xv 2) (bc (se (DJ (Pp<|E ()) (pv 4) (pv 6) TX rfl)<|DR 4 (Xt 6) Ng)<|b1<|sF 6<|sA 3<|xo KC KD (xv 5)<|xL<|a1<|xv 6) b0)<|b1<|sV 3)) (.a ?_)
 ·rintro ds R X ⟨l,v,u,A,rfl,C,Y,H,U,hR⟩;refine⟨rfl,?_⟩
  refine⟨by simp,rfl,PL (xs:=v) (emb:=em l) (λi o=>∃r f,o=[some (.bor<|.lst<|v.map<|em l),some (.bor<|.lst<|u.map D.int),some (.bor<|.lst<|A.map prD),some (.own<|r.map<|em l),some (.own<|.dK f),none,none]/\LGs A l (Pd v u i 0) u r f)
   ⟨[],[],rfl,LGs.start⟩ ?_ ?_⟩
  ·rintro i L o ⟨r,f,rfl,s⟩;have y:v[i]?=some v[i]:=WJ L;have J:=H v[i] (Qi L);generalize v[i]=p at y J ⊢;refine⟨rfl,PL (xs:=u) (emb:=D.int) (λj o=>∃r f,o=[some (.bor<|.lst<|v.map<|em l),some (.bor<|.lst<|u.map D.int),some (.bor<|.lst<|A.map prD),some (.own<|r.map<|em l),some (.own<|.dK f),some (.bor<|em l p),none]/\LGs A l (Pd v u i j) u r f) ⟨r,f,rfl,s⟩ ?_ ?_⟩
   ·rintro j hj o ⟨r,f,rfl,s⟩;have B:u[j]?=some u[j]:=WJ hj;generalize u[j]=h at B ⊢;have Q:=s.len_le;have hkl:=s.len;refine⟨.inl h,rfl,Xy (λg=>?_) (λg=>?_)⟩
    ·have N:(XD f<|.inl h).isSome=false:=by
      cases e:(XD f<|.inl h).isSome with
      |false=>rfl
      |true=>rw[e]at g;cases g
     refine⟨_,Dx l p,by simp,_,.lp (X8 l p,h) A,Xy (λM=>?_) (λM=>?_)⟩
     ·refine⟨.inl h,.bl true,rfl,rfl,by lia,by simp,SD _,rfl,by simp;lia,by rw[WL];lia,r++[p++[h]],_,?_,s.put y B C Y N (WR M)⟩;rw[Qd]
      have e:em l (p++[h])=.lst ((l::p).map D.int++[.int h]):=by
       unfold em;rw[←Vt,Qd];rfl
      rw[Ji,e];rfl
     ·exact⟨r,f,rfl,s.skip y B C (.inr λz=>M (WM z))⟩
    ·have N:(XD f<|.inl h).isSome=true:=by
      cases e:(XD f<|.inl h).isSome with
      |true=>rfl
      |false=>rw[e]at g;exact absurd rfl g
     exact XT ⟨r,f,rfl,s.skip y B C (.inl N)⟩
   ·rintro o ⟨r,f,rfl,s⟩;refine⟨r,f,rfl,s.congr λT x=>?_⟩;unfold Pd;rw[QO,Jl];obtain⟨hi',ei⟩:=Qg.mp y;rw[Qm L,Qh,WQ,y,ei];constructor
    ·rintro(⟨a,b⟩|⟨a,b⟩)
     ·exact .inl ⟨.inl a,b⟩
     ·exact .inl ⟨.inr (Qb a).symm,b⟩
    ·rintro(⟨a|a,b⟩|⟨_,a⟩)
     ·exact .inl ⟨a,b⟩
     ·exact .inr ⟨QA some a.symm,b⟩
     ·cases a
  ·rintro o ⟨r,f,rfl,s⟩;refine hR r (s.g.congr λT x=>?_) s.len_le;unfold Pd;rw[QO,Jl];exact⟨(λz=>z.elim id λw=>by cases w.2),.inl⟩
def Zb4(r:Def K mg "check_place" Cv ["strips","place"])
  : L6 ζ:=by
 refine r.fy Zdm (λs n=>(b1<|sI (tp<|wo (tc KY Pa (xv 1) xi)<|wO<|tc K9 KA (xv 1)<|xl G.len<|xv 0) (b1<|sQ G.Zw G.Zv ExcR.KO<|a1 xs) b0)) (.a ?_)
 ·rintro x R X ⟨h,p,rfl,f⟩;refine⟨rfl,?_⟩;have u:(h.map prD).length=h.length:=WL ..;unfold F2 at f;refine Xy (λg=>Kz ?_) (λg=>?_)
  ·rw[WT (.inl<|WR g)]at f;exact⟨by simp,f⟩
  ·have v:¬p<1:=λz=>g (WM z);refine Xy (λo=>?_) (λo=>?_)
   ·have l:((h.map prD).length:Int)<p:=WR o;rw[WT (.inr<|by lia)]at f;exact⟨by simp,f⟩
   ·have l:¬((h.map prD).length:Int)<p:=λz=>o (WM z);rw[WS (by lia)]at f;exact f
def Za6(r:Def K mg "without_wish" EJ ["wishes","ahead","behind"])
  : IW ζ:=by
 refine r.fy Zpb (λp n=>(bc (sI (tI p (xt<|a2 (xv 1)<|xv 2)<|xv 0) (b1<|sQ G.ZT G.ZS ExcR.KO<|a1 xs) b0)<|b1<|sF 2<|sF 1<|sR<|xC ["wish","ahead","behind"] [none,some 1,some 2] (jL<|xv 0) (gN 0) (f1<|te (TJ (R9 (K:=K)<|show _<cLine from(p ()).units0) (pv 0) (Pz<|bz (pv 1)<|pv 2)<|Py _)<|PP<|Gv (Xt 0)<|PJ<|tz (Xt 1)<|Xt 2)<|xv 0)) (.a ?_)
 ·rintro u R X ⟨l,a,b,rfl,s,f⟩;refine⟨rfl,?_⟩;unfold K0 at f;refine⟨by simp,_,.lp (a,b) l,Xy (λg=>?_) (λg=>?_)⟩
  ·have o:¬(a,b)∈l:=λz=>by rw[WT rfl,WM z]at g;cases g
   rw[WS o]at f;exact⟨by simp,f⟩
  ·have o:(a,b)∈l:=Q1 λz=>g (by rw[WT rfl,Qu z];rfl);rw[WT o]at f;refine KB (xs:=l) (emb:=prD) (λq=>if (!decide (q=(a,b)))=true then some (prD q)else none) (by lia) (λq hq=>?_) ?_
   ·refine⟨by simp,?_⟩;show AE (.sh<|prD q) (.sh<|prD (a,b)) _;refine Zj9 ?_;exact Xy (λh=>⟨_,rfl,WT h⟩) (λh=>WS h)
   ·rw[PU (λq:Int×Int=>!decide (q=(a,b)))];exact f
def Zse(v:Def K mg "sets_of" E3 ["holders"])
  : MM ζ:=by
 refine v.fz Zqh (λy n=>(bc (sS 1 n<|xL<|a1<|xt a0)<|bc (sF 0<|sO [2] Qn (iL<|xv 0) (gN 2)<|b1<|sF 2<|sS 1 n<|xo KC KD (xv 1)<|xC ["members","holder"] [none,some 2] (jL<|xv 1) (gN 0) f0<|xe (NP (Zjs (K:=K)) (pv 0)<|Pz<|az<|pv 1)<|Zok (Xt 0)<|PJ<|sz<|Xt 1)<|b1<|sV 1)) (.a ?_)
 ·rintro z R X ⟨l,rfl,x,u⟩;refine⟨rfl,by simp,by simp,rfl,PL (xs:=l) (emb:=D.int) (λi g=>g=[some (.bor<|.lst<|l.map D.int),some (.own ((XO<|l.take i).map tD)),none]) rfl ?_ ?_⟩
  ·rintro i s g rfl
   have o:(XO<|l.take i).length<=1024:=by
    rw[E4,Qp];exact JI (j:=10) (by decide) (by lia)
   have p:∀f∈XO (l.take i),f.length<=10:=λf r=>by
    have:=(SO _ f r).length_le
    rw[Qp]at this;lia
   rw[Qm s,Sf];generalize XO (l.take i)=S at o p ⊢;generalize l[i]=h;refine KB (xs:=S) (emb:=tD) (λf=>some (tD (f++[h]))) (by lia) (λf r=>?_) ?_
   ·refine⟨by simp,_,_,Zq0 f,rfl,?_,_,rfl,?_⟩
    ·have:=p f r
     rw[WL];show f.length+1<=100000;lia
    ·unfold tD;rw[Qd];rfl
   ·rw[TH];refine⟨rfl,rfl,?_,?_⟩
    ·rw[WL,WL];lia
    ·show[_,_,_]=[_,_,_];rw[Qd,Q7];rfl
  ·rintro g rfl;rw[QO];exact u
def Zcj(o:Def K mg "without" El ["members","holder"])
  : HV ζ:=by
 refine o.fz Zlk (λg n=>(b1<|sR<|xe (PN (GR (K:=K)) (by rfl) G.Zn boot_tuple<|az<|cz ["member","holder"] [none,some 1] (BB (K:=K)<|pv 0) ⟨(gk 0),(FQ<|cn K (g ()) (pv 0)<|pv 1),(pv 0)⟩)<|HC<|sz<|Tv (SndI.c<|Fd<|Xt 0) (Ko 0) (PP<|HW (Xt 0)<|Xt 1)<|Xt 0)) (.a ?_)
 ·rintro u R X ⟨f,h,rfl,p,l⟩;refine⟨rfl,?_⟩;rw[Be];refine⟨_,rfl,KB (s:=.sh .non) (xs:=f) (emb:=D.int) (λm=>if decide (m≠h)=true then some (.int m)else none) (by lia) (λm r=>?_) ?_⟩
  ·show if (!decide (m=h))=true then _ else _;by_cases e:m=h
   ·rw[WM e];exact XT (by simp[e])
   ·rw[Qu e];exact Kz ⟨_,rfl,WT (WM e)⟩
  ·rw[PU (λm=>decide (m≠h))];exact⟨rfl,l⟩
def Zow(r:Def K mg "may_lie_last" EF ["members","holder","wishes"])
  : OM ζ:=by
 refine r.fz Zj1 (λo n=>(b1<|sR<|xn<|xe (Ka (Ro (K:=K) rfl) (by rfl) G.ZW boot_any<|az<|cz ["ahead","behind","holder","members"] [none,none,some 1,some 0] (Nr (K:=K)<|pv 2) ⟨(FA (K:=K) (n:=2) rfl<|NZ (gk 0)<|NZ (gk 1) FH),Nz,(BO (Nf (BA (K:=K)<|show _<cLine from(o ()).units0) (pv 0) (pv 2)<|Py _)<|B7<|Nf (FV (K:=K)<|show _<cLine from Pp (o ())) (pv 1) (pv 3)<|by with_unfolding_all rfl)⟩)<|Rm<|sz<|Tv (SB<|Xt 2) (E8<|By (Ko 0)<|By (Ko 1) Cg) NO<|BF (S8 (Xt 0)<|Xt 2)<|Bk (Xt 1)<|Xt 3)) (.a ?_)
 ·rintro u R X ⟨f,h,l,rfl,s,p⟩;refine⟨rfl,?_⟩;rw[Be];refine KB (xs:=l) (emb:=prD) (λq=>some (.bl (decide (q.1=h)&&decide (q.2∈f)))) (by lia) (λq hq=>?_) ?_
  ·refine⟨rfl,?_⟩;show if true=true then(if decide (q.1=h)=true then _ else _)else(some (D.bl (decide (q.1=h)&&decide (q.2∈f)))=none);refine Kz (Xy (λg=>⟨_,.ti _ _,?_⟩) (λg=>?_))
   ·refine⟨_,rfl,?_⟩;rw[g,JW];rfl
   ·refine⟨_,rfl,?_⟩;rw[Jv.mpr g,Bool.false_and]
  ·rw[TH];refine⟨l.map λq=>decide (q.1=h)&&decide (q.2∈f),by rw[Q7];rfl,?_⟩;rw[List.any_map];exact p
def Ze5(r:Def K mg "may_lie_first" Dk ["members","holder","wishes"])
  : Lv ζ:=by
 refine r.fz Zrf (λo n=>(b1<|sR<|xn<|xe (Ka (Ro (K:=K) rfl) (by rfl) G.ZW boot_any<|az<|cz ["ahead","behind","holder","members"] [none,none,some 1,some 0] (Nr (K:=K)<|pv 2) ⟨(FA (K:=K) (n:=2) rfl<|NZ (gk 0)<|NZ (gk 1) FH),Nz,(BO (Nf (BA (K:=K)<|show _<cLine from(o ()).units0) (pv 1) (pv 2)<|Py _)<|B7<|Nf (FV (K:=K)<|show _<cLine from Pp (o ())) (pv 0) (pv 3)<|by with_unfolding_all rfl)⟩)<|Rm<|sz<|Tv (SB<|Xt 2) (E8<|By (Ko 0)<|By (Ko 1) Cg) NO<|BF (S8 (Xt 1)<|Xt 2)<|Bk (Xt 0)<|Xt 3)) (.a ?_)
 ·rintro u R X ⟨f,h,l,rfl,s,p⟩;refine⟨rfl,?_⟩;rw[Be];refine KB (xs:=l) (emb:=prD) (λq=>some (.bl (decide (q.2=h)&&decide (q.1∈f)))) (by lia) (λq hq=>?_) ?_
  ·refine⟨rfl,?_⟩;show if true=true then(if decide (q.2=h)=true then _ else _)else(some (D.bl (decide (q.2=h)&&decide (q.1∈f)))=none);refine Kz (Xy (λg=>⟨_,.ti _ _,?_⟩) (λg=>?_))
   ·refine⟨_,rfl,?_⟩;rw[g,JW];rfl
   ·refine⟨_,rfl,?_⟩;rw[Jv.mpr g,Bool.false_and]
  ·rw[TH];refine⟨l.map λq=>decide (q.2=h)&&decide (q.1∈f),by rw[Q7];rfl,?_⟩;rw[List.any_map];exact p
def Zhz(h:XJ K (XH K (X4 ζ) "strips") "strips" "Village.strips" Dl ["self"])
  : Ht ζ:=by
 refine h.fz Zc4 (λo n=>(b1<|sR<|xe (PN (NA (K:=K)) (by rfl) G.Zg boot_list<|az<|jx K (Pk (pv 0) rfl)<|KQ KN X9)<|NI<|sz<|XW (TU 1 G.Za G.Zd F5<|Xt 0)<|KM X2)) (.a ?_)
 ·rintro p R X ⟨bk,fs,l,f,rfl,g⟩;refine⟨rfl,?_⟩;exact⟨rfl,rfl,_,rfl,_,Fw plD fs f,P0 _,g⟩
def Zia(l:XJ K (XH K (X4 ζ) "wishes") "wishes" "Village.wishes" EW ["self"])
  : O1 ζ:=by
 refine l.fz Zh6 (λo n=>(b1<|sR<|xe (PN (NA (K:=K)) (by rfl) G.Zg boot_list<|az<|jx K (Pk (pv 0) rfl)<|KQ KN X9)<|NI<|sz<|XW (TU 2 G.Za G.Ze Az<|Xt 0)<|KM X2)) (.a ?_)
 ·rintro p R X ⟨bk,fs,g,f,rfl,h⟩;refine⟨rfl,?_⟩;exact⟨rfl,rfl,_,rfl,_,Fw plD g f,P0 _,h⟩
def Zm2(g:XJ K (XH K (X4 ζ) "deeds") "deeds" "Village.deeds" DY ["self"])
  : OH ζ:=by
 refine g.fz Zmn (λl n=>(b1<|sR<|xe (PN (NA (K:=K)) (by rfl) G.Zg boot_list<|az<|Pk (pv 0) rfl)<|NI<|sz<|TU 0 G.Za G.Zc NX<|Xt 0)) (.a ?_)
 ·rintro o R X ⟨bk,fs,h,rfl,f⟩;refine⟨rfl,?_⟩;exact⟨rfl,rfl,_,rfl,Lp _,f⟩
def Zdv(l:XJ K (XH K (X4 ζ) "check_room") "check_room" "Village.check_room" CZ ["self"])
  : R8 ζ:=by
 refine l.fy Zmj (λp n=>(b1<|sI (tc Sz SA (xl G.len<|xe (Pk (pv 0) rfl)<|TU 0 G.Za G.Zc NX<|Xt 0)<|xe (ExcR.P7 G.Zu) X2) (b1<|sQ G.ZL G.ZK ExcR.KO<|a1<|xe (ExcR.Sb<|ExcR.Tq<|ExcR.NV (ExcR.P7 G.Zu)<|ExcR.Tq ExcR.NC)<|Sd<|Tp<|NM X2<|Tp ND) b0)) (.a ?_)
 ·rintro s R X ⟨bk,fs,o,rfl,f⟩;refine⟨rfl,?_⟩;have r:(bk.map dD).length=bk.length:=WL ..;unfold NY at f;refine⟨rfl,rfl,_,rfl,Xy (λg=>?_) (λg=>?_)⟩
  ·have h:(100:Int)<=((bk.map dD).length:Int):=WR g;rw[WT (by lia)]at f;exact⟨by decide,by decide,by decide,by decide,by decide,by simp,f⟩
  ·have h:¬(100:Int)<=((bk.map dD).length:Int):=λz=>g (WM z);rw[WS (by lia)]at f;exact f
def Zlx(A:XJ K (XH K (X4 ζ) "enter") "enter" "Village.enter" EN ["self","deed","field","wishes"])
  : Mc ζ:=by
 refine A.fz Zez (λC n=>(bc (sF 1<|se (Pf<|BC Q0 VF VG Bw (Pk (pv 0) rfl)<|az<|pv 1)<|N7<|Ce 0 0 G.Za G.Zc NX<|Xt 1)<|bc (sF 2<|se (Pf<|BC Q0 VF VG Bw (Pk (pv 0) rfl)<|az<|pv 2)<|N7<|Ce 0 1 G.Za G.Zd F5<|Xt 2)<|bc (sF 3<|se (Pf<|BC Q0 VF VG Bw (Pk (pv 0) rfl)<|az<|pv 3)<|N7<|Ce 0 2 G.Za G.Ze Az<|Xt 3)<|b1<|se (Ku<|ln K G.len<|Pk (pv 0) rfl)<|Sr<|Au<|sz<|TU 0 G.Za G.Zc NX<|Xt 0)) (.c ?_)
 ·rintro o B R X ⟨x,b1,z,y,bk,fs,g,q,f,w,rfl,rfl,J,H,E,r⟩;refine⟨rfl,?_⟩;have p:(bk.map dD).length<10000000:=by rw[WL];lia
  have l:(fs.map plD).length<10000000:=by rw[WL];lia
  have h:(g.map plD).length<10000000:=by rw[WL];lia
  refine⟨rfl,rfl,_,rfl,p,rfl,rfl,_,rfl,l,rfl,rfl,_,rfl,h,rfl,rfl,_,rfl,_,rfl,⟨rfl,by simp⟩,?_⟩;have e:(((bk.map dD++[dD q]).length:Nat):Int)=(bk.length:Int)+1:=by rw[WW,WL];simp
  show R (.ins x _ vF [(b1,bk.map dD++[dD q]),(z,fs.map plD++[plD f]),(y,g.map plD++[plD w])]) (.int (((bk.map dD++[dD q]).length:Nat):Int));rw[e];have v:bk.map dD++[dD q]=(bk++[q]).map dD:=by rw[Qd];rfl
  have u:fs.map plD++[plD f]=(fs++[f]).map plD:=by rw[Qd];rfl
  have s:g.map plD++[plD w]=(g++[w]).map plD:=by rw[Qd];rfl
  rw[v,u,s];exact r
def Zjo(H:XJ K (XH K (X4 ζ) "take_back") "take_back" "Village.take_back" AC ["self"])
  : G3 ζ:=by
 refine H.fy Zcb (λL n=>(bc (sI (tN<|tt<|xe (Pk (pv 0) rfl)<|TU 0 G.Za G.Zc NX<|Xt 0) (b1<|sQ G.Zh G.Zm ExcR.KO<|a1 xs) b0)<|bc (se (Pf<|S9 Q0 V3 V4 BZ<|Pk (pv 0) rfl)<|N7<|E6 0 1 G.Za G.Zd F5)<|bc (se (Pf<|S9 Q0 V3 V4 BZ<|Pk (pv 0) rfl)<|N7<|E6 0 2 G.Za G.Ze Az)<|b1<|se (Ku<|S9 Q0 V3 V4 BZ<|Pk (pv 0) rfl)<|Tt<|E6 0 0 G.Za G.Zc NX)) (.c ?_)
 ·rintro o J R X ⟨x,b1,r,p,bk,fs,f,rfl,rfl,N,M,y,A⟩;refine⟨rfl,?_⟩;have l:(bk.map dD).isEmpty=decide (bk=[]):=by cases bk<;>simp
  refine⟨rfl,rfl,_,rfl,?_⟩;show if (!(!(bk.map dD).isEmpty))=true then _ else _;rw[Bool.not_not,l];refine Xy (λg=>⟨by simp,_,rfl,⟨rfl,by simp⟩,y (WR g)⟩) (λg=>?_);have h:bk≠[]:=λz=>g (WM z);obtain⟨b0,q,rfl⟩:∃b0 q,bk=b0++[q]:=⟨_,_,(Vw h).symm⟩;have v:(b0++[q]).length=b0.length+1:=by simp
  have f1:(fs.map plD)[(fs.map plD).length-1]?=some (plD (fs[fs.length-1]'(by lia))):=by
   rw[WL,WX,WJ (by lia)];rfl
  have s:(f.map plD)[(f.map plD).length-1]?=some (plD (f[f.length-1]'(by lia))):=by
   rw[WL,WX,WJ (by lia)];rfl
  have u:((b0++[q]).map dD)[((b0++[q]).map dD).length-1]?=some (dD q):=by
   rw[WL,WX,v,Vz,Qy (WU _),Nat.sub_self];rfl
  refine⟨rfl,rfl,_,_,rfl,f1,rfl,rfl,_,_,rfl,s,rfl,rfl,_,_,rfl,u,_,rfl,⟨rfl,by simp⟩,?_⟩;have E:((b0++[q]).map dD).dropLast=b0.map dD:=by rw[Qd];exact QG
  have C:(fs.map plD).dropLast=fs.dropLast.map plD:=List.map_dropLast.symm;have B:(f.map plD).dropLast=f.dropLast.map plD:=List.map_dropLast.symm
  have:=A b0 q rfl
  rw[show vO (ExcR.Xx mg "Village") x b1 r p b0 fs.dropLast f.dropLast=.ins x (ExcR.Xx mg "Village") vF [(b1,((b0++[q]).map dD).dropLast),(r,(fs.map plD).dropLast),(p,(f.map plD).dropLast)] by rw[E,C,B]]at this;exact this
def Zfq(v:XJ K (XH K (X4 ζ) "stood") "stood" "Village.stood" DX ["self","many"])
  : RB ζ:=by
 refine v.fy Zjy (λB n=>(bc (sI (tp<|wo (tc KY Pa (xv 1) xi)<|wO<|tc K9 KA (xv 1)<|xl G.len<|xe (Pk (pv 0) rfl)<|TU 0 G.Za G.Zc NX<|Xt 0) (b1<|sQ G.Z8 G.Z7 ExcR.KO<|a1 xs) b0)<|b1<|sR<|xe (Pz<|bz (PN (NA (K:=K)) (by rfl) G.Zg boot_list<|az<|jx K (Pk (pv 0) rfl)<|pv 1)<|PN (NA (K:=K)) (by rfl) G.Zg boot_list<|az<|jx K (Pk (pv 0) rfl)<|pv 1)<|Za5 (NI<|sz<|XW (TU 1 G.Za G.Zd F5<|Xt 0)<|Xt 1)<|NI<|sz<|XW (TU 2 G.Za G.Ze Az<|Xt 0)<|Xt 1)) (.a ?_)
 ·rintro J R X ⟨bk,fs,p,k,rfl,E,C,r,u⟩;refine⟨rfl,?_⟩;have A:(bk.map dD).length=bk.length:=WL ..;refine Xy (λg=>Kz ?_) (λg=>?_)
  ·exact⟨by simp,r (.inl<|WR g)⟩
  ·have H:¬k<0:=λz=>g (WM z);refine⟨rfl,rfl,_,rfl,Xy (λo=>?_) (λo=>?_)⟩
   ·have l:((bk.map dD).length:Int)<k:=WR o;exact⟨by simp,r (.inr<|by lia)⟩
   ·have l:¬((bk.map dD).length:Int)<k:=λz=>o (WM z);have s:k.toNat<fs.length:=by lia
    have h:k.toNat<p.length:=by lia
    refine⟨rfl,rfl,_,rfl,_,Pe (f:=plD) (xs:=fs) (by lia) (by lia),P0 _,rfl,rfl,_,rfl,_,Pe (f:=plD) (xs:=p) (by lia) (by lia),P0 _,P0 _,P0 _,λx y=>?_⟩;exact u _ _ k.toNat x y (by lia) (WJ s) (WJ h)
def Zjc(p:Def K mg "_law_at" Cu ["_law_script","_law_k"])
  : Mh ζ:=by
 refine p.fz Zmz (λr n=>(bc (sI (tc KY Pa (xv 1)<|xl G.len<|xv 0) (b1<|sR<|xx (xv 0)<|xv 1) b0)<|b1<|sR xi)) (.a ?_)
 ·rintro s R X ⟨h,k,rfl,l,f⟩;refine⟨rfl,?_⟩;refine Xy (λg=>?_) (λg=>?_)
  ·have o:k<(h.length:Int):=WR g;have e:=WJ (show k.toNat<h.length by omega);rw[WV,e]at f;exact⟨_,Bg l e,f⟩
  ·have o:¬k<(h.length:Int):=λz=>g (WM z);rw[WV,Vh (by omega)]at f;exact f
def Zd8(g:Def K mg "_law_whole" D3 ["_law_found"])
  : Ry ζ:=by
 refine g.fz Zea (λh n=>(b1<|sR<|xe (BO (Ka (T3 (K:=K)) (by rfl) G.Zb QJ<|bz (pv 0)<|PV (v:=.ty "int") rfl G.ZX boot_int rfl)<|B7<|OL<|Ka (T3 (K:=K)) (by rfl) G.Zb QJ<|bz (pv 0)<|PV (v:=.ty "bool") rfl G.Ya boot_bool rfl)<|BF (Tx<|tz (Xt 0) Tr)<|Ou<|Tx<|tz (Xt 0) Tr)) (.a ?_)
 ·rintro l R X ⟨i,rfl,f⟩;refine⟨rfl,?_⟩;exact⟨_,.same _,_,.ib,f⟩
def Zpi(g:Def K mg "_law_mix" Et ["_law_cell","_law_place_here"])
  : IK ζ:=by
 refine g.fz Zgf (λh n=>(bc (sS 2 n<|xo XN XM (xo N3 Np (xo XS XQ (xo XS XQ (xo XN XM (xv 0) xi)<|xo N3 Np xi<|xv 1) xi) xi) xi)<|b1<|sR<|xo XN XM (xo N3 Np (xo XS XQ (xo XS XQ (xv 2)<|xo N3 Np xi<|xv 1) xi) xi) xi)) (.a ?_)
 ·rintro l R X ⟨c,p,rfl,f⟩;refine⟨rfl,?_⟩;unfold mixP at f;exact⟨(by show(0:Int)<2147483647;decide),.inl ⟨by decide,by decide⟩,.inr ⟨by decide,by decide⟩,(by show(0:Int)<2147483647;decide),.inl ⟨by decide,by decide⟩,.inr ⟨by decide,by decide⟩,(by show(0:Int)<2147483647;decide),f⟩
def Zfe(z:Def K mg "_law_menu" D9 ["_law_cell"])
  : HR ζ:=by
 refine z.fz Zdo (λA n=>(bc (sS 1 n<|xx (xL<|ac xi<|ac xi<|ac xi<|ac xi<|ac xi a0)<|xo XN XM (xo Kq Ks (xv 0) xi) xi)<|bc (sS 2 n<|xx (xL<|ac xi<|ac xi<|ac xi<|ac xi<|ac xi a0)<|xo XN XM (xo Kq Ks (xv 0) xi) xi)<|b1<|sF 2<|sF 1<|sR<|xL<|ac (xo XS XQ xi<|xo XN XM (xv 0) xi)<|ac (xx (xL<|ac xi<|ac xi<|ac xi<|ac xi a0)<|xo XN XM (xo Kq Ks (xv 0) xi) xi)<|ac (xo XN XM (xo Kq Ks (xv 0) xi) xi)<|ac (xv 1)<|ac (xv 2) a0)) (.a ?_)
 ·rintro B R X ⟨c,rfl,u⟩;refine⟨rfl,?_⟩;have p:0<=c / 10 % 4/\c / 10 % 4<4:=by lia
  have o:0<=c / 400 % 5/\c / 400 % 5<5:=by lia
  have s:∀v∈([1,3,7,9]:Yg),1<=v/\v<=9/\(v=1\/v=3\/v=7\/v=9):=by decide
  have g:∀i:Int,0<=i->i<5->∃d e:Int,atI [D.int 1000,.int 3,.int 1,.int 2,.int 3] i=some (.int d)/\atI [D.int 1,.int 1,.int 1,.int 1,.int 998] i=some (.int e)/\(1<=d/\d<=1000)/\1<=e/\e+d<=1001:=λi a b=>by
   have:i=0\/i=1\/i=2\/i=3\/i=4:=by lia
   rcases this with rfl|rfl|rfl|rfl|rfl
   ·exact⟨1000,1,rfl,rfl,by decide,by decide,by decide⟩
   ·exact⟨3,1,rfl,rfl,by decide,by decide,by decide⟩
   ·exact⟨1,1,rfl,rfl,by decide,by decide,by decide⟩
   ·exact⟨2,1,rfl,rfl,by decide,by decide,by decide⟩
   ·exact⟨3,998,rfl,rfl,by decide,by decide,by decide⟩
  obtain⟨d,e,y,x,hd,r⟩:=g _ o.1 o.2;have h:=s _ (Qi (l:=([1,3,7,9]:Yg)) (n:=(c / 10 % 4).toNat)<|by show(c / 10 % 4).toNat<4;lia);refine⟨by simp,⟨by decide,by decide⟩,(by show(0:Int)<5;decide),_,y,by simp,⟨by decide,by decide⟩,(by show(0:Int)<5;decide),_,x,(by show(0:Int)<10;decide),by simp,⟨by decide,by decide⟩,(by show(0:Int)<4;decide),_,Pe (f:=D.int) (xs:=[1,3,7,9]) p.1 p.2,⟨by decide,by decide⟩,(by show(0:Int)<10;decide),by simp,?_⟩;exact u [_,_,_,_,_] ⟨_,_,_,_,_,rfl,by lia,h,by lia,hd,r⟩
def Zh4(h:Def K mg "_law_holder" Dp ["_law_menu_here","_law_k"])
  : HX ζ:=by
 refine h.fz Zis (λl n=>(b1<|sR<|xo XS XQ xi<|xo XN XM (xo XS XQ (xo N3 Np (xv 1)<|xx (xv 0) xi)<|xx (xv 0) xi) xi)) (.a ?_)
 ·rintro u R X ⟨m,k,rfl,g,f⟩;refine⟨rfl,?_⟩;obtain⟨a,b,c,d,e,rfl,s,r,p,hd,o⟩:=g;exact⟨_,rfl,.inr ⟨by lia,by lia⟩,_,rfl,(by show(0:Int)<10;decide),f _ (by lia) (by lia) rfl⟩
def Zk0(o:Def K mg "_law_present" AN ["_law_strips"])
  : LJ ζ:=by
 refine o.fz Zev (λh n=>(bc (sS 1 n<|xC ["_law_strip"] [none] (jL<|xv 0) (gN 0) f0<|xx (xv 0) xi)<|b1<|sR<|xC ["_law_holder_here","_law_owners"] [none,some 1] (jI<|iR G.Zf<|a2 xi xi) (gN 0) (f1<|ti h (xv 0)<|xv 1)<|xv 0)) (.a ?_)
 ·rintro s R X ⟨f,rfl,p,l⟩;refine⟨rfl,?_⟩;refine KB (xs:=f) (emb:=prD) (λq=>some (.int q.1)) (by lia) (λq hq=>⟨_,rfl,_,rfl,rfl⟩) ?_;rw[TH (λq:Int×Int=>D.int q.1),show f.map (λq:Int×Int=>D.int q.1)=(f.map (·.1)).map D.int by rw[Q7];rfl];refine⟨⟨by decide,by decide,by decide,by decide⟩,D5 (n:=10) (λi=>if decide ((1:Int)+(i:Int)∈f.map (·.1))=true then some (.int (1+(i:Int)))else none) (by decide) (λi r=>?_) ?_⟩
  ·exact⟨_,.li _ _,Xy (λg=>⟨_,rfl,WT g⟩) (λg=>WS g)⟩
  rw[PU (λi:Nat=>decide ((1:Int)+(i:Int)∈f.map (·.1)))]
  have e:((List.range 10).filter λi:Nat=>decide ((1:Int)+(i:Int)∈f.map (·.1))).map (λi:Nat=>D.int (1+(i:Int)))=(X3 f).map D.int:=by
   unfold X3;rw[Zcx,List.filter_map,Q7];rfl
  rw[e];exact l
def Zbi(T:Def K mg "_law_price" Ef ["_law_strips","_law_order"])
  : OP ζ:=by
 refine T.fz Zc0 (λY n=>(bc (sC 2 ["_law_strip","_law_order"] [none,some 1] n (jL<|xv 0) (gN 0) f0<|xe (Em (K:=K) Q0 Jp PySem.F.type_list_index (Ly (K:=K)) (pv 1)<|az<|jx K (pv 0) X9)<|LO (Xt 1)<|sz<|XW (Xt 0) X2)<|bc (sS 3 n xi)<|bc (sO [4,5] Qn (ir G.Zf<|a1<|xl G.len<|xv 0) (gN 4)<|b1<|sO [5] Qn (ir G.Zf<|a1<|xv 4) (gN 5)<|b1<|sI (tc K9 KA (xx (xv 2)<|xv 5)<|xx (xv 2)<|xv 4) (b1<|sS 3 n<|xo XS XQ (xv 3)<|xo N3 Np (xx (xx (xv 0)<|xv 5) xi)<|xx (xx (xv 0)<|xv 4) xi) b0)<|b1<|sV 3)) (.a ?_)
 ·rintro ds R X ⟨h,os,rfl,C,U,u,M⟩;refine⟨rfl,?_⟩;have J:(h.map prD).length=h.length:=WL ..;refine KB (xs:=h) (emb:=prD) (λq=>some (.int (os.idxOf q.1:Nat))) (by lia) (λq hq=>⟨⟨_,rfl⟩,_,rfl,os,rfl,u q hq,_,rfl,rfl⟩) ?_;rw[TH (λq:Int×Int=>D.int (os.idxOf q.1:Nat)),show h.map (λq:Int×Int=>D.int (os.idxOf q.1:Nat))=(h.map λq:Int×Int=>((os.idxOf q.1:Nat):Int)).map D.int by rw[Q7];rfl];generalize y:(h.map λq:Int×Int=>((os.idxOf q.1:Nat):Int))=s
  have A:∀(j:Nat) (r:j<h.length),atI (s.map D.int) (0+(j:Int))=some (.int (os.idxOf h[j].1:Nat)):=λj r=>by
   rw[show(0:Int)+(j:Int)=(j:Int) by lia,←y];exact T5 (f:=D.int) (Te<|by rw[WX,WJ r];rfl)
  have B:∀(j:Nat) (r:j<h.length),atI (h.map prD) (0+(j:Int))=some (prD h[j]):=λj r=>by
   rw[show(0:Int)+(j:Int)=(j:Int) by lia];exact T5 (f:=prD) (Te<|WJ r)
  refine⟨⟨by lia,by lia⟩,Tf (λk l=>l=[some (.bor<|.lst<|h.map prD),some (.bor<|.lst<|os.map D.int),some (.own<|s.map D.int),some (.sh<|.int<|T1 h os k),none,none]) rfl ?_ ?_⟩
  ·rintro k l L rfl
   have o:k<h.length:=by
    have:k<(((h.map prD).length:Nat):Int).toNat:=L
    lia
   have v:h.getD k (0,0)=h[k]:=by rw[WV,WJ o];rfl
   have Q:T1 h os (k+1)=T1 h os k+rsM h os h[k].1 k*h[k].2:=by simp only[T1];rw[v]
   have E:=C h[k] (Qi o);refine⟨⟨by lia,by lia⟩,Tf (λj l=>l=[some (.bor<|.lst<|h.map prD),some (.bor<|.lst<|os.map D.int),some (.own<|s.map D.int),some (.sh<|.int (T1 h os k+rsM h os h[k].1 j*h[k].2)),some (.sh<|.int (0+(k:Int))),none]) ?_ ?_ ?_⟩
   ·rw[show rsM h os h[k].1 0=0 from rfl,Int.zero_mul,Jj]
    rfl
   ·rintro j l r rfl
    have p:j<h.length:=by
     have:j<((0:Int)+(k:Int)).toNat:=r
     lia
    have x:h.getD j (0,0)=h[j]:=by rw[WV,WJ p];rfl
    have H:=C h[j] (Qi p);have step:rsM h os h[k].1 (j+1)=rsM h os h[k].1 j+(if os.idxOf h[k].1<os.idxOf h[j].1 then h[j].2 else 0):=by simp only[rsM];rw[x]
    refine⟨_,A j p,_,A k o,Xy (λg=>?_) (λg=>?_)⟩
    ·have N:((os.idxOf h[k].1:Nat):Int)<((os.idxOf h[j].1:Nat):Int):=WR g;refine⟨_,B j p,_,rfl,_,B k o,_,rfl,.inl ⟨by show -(2 ^ 64)<h[j].2;lia,by show h[j].2<2 ^ 64;lia⟩,?_⟩;rw[step,WT (by lia),Int.add_mul,←Int.add_assoc];rfl
    ·have N:¬((os.idxOf h[k].1:Nat):Int)<((os.idxOf h[j].1:Nat):Int):=λz=>g (WM z);rw[step,WS (by lia),Jj];rfl
   ·rintro l rfl;rw[show((0:Int)+(k:Int)).toNat=k by lia,←Q];rfl
  ·rintro l rfl;rw[show(((h.map prD).length:Nat):Int).toNat=h.length by lia];exact M
def Zib(N:Def K mg "_law_field_step" EU ["_law_strips","_law_deed_here"])
  : Im ζ:=by
 refine N.fz Zd7 (λB n=>(bc (sS 2 n<|xx (xv 1) xi)<|bc (sI (tp<|wo (tc KY Pa (xv 2) xi)<|wO<|tc K9 KA (xv 2)<|xo Kl Km (xl G.len<|xv 0)<|xe (PN Ze1 (by rfl) G.ZX boot_int<|az<|Nf (BA (K:=K)<|show _<cLine from(B ()).units0) (jx K (pv 1) X9) NR<|Py _)<|Zmr<|sz<|S8 (XW (Xt 1) X2) NB) (b1<|sF 0<|sR<|xL<|a2 xi<|xv 0) b0)<|bc (sS 3 n<|xx (xx (xv 0)<|xo Kl Km (xv 2) xi) xi)<|bc (sS 4 n<|xx (xx (xv 0)<|xo Kl Km (xv 2) xi) xi)<|bc (sI (tq B (xx (xv 1) xi) xs) (bc (sI (tp<|wo (tc KY Pa (xx (xv 1) xi) xi)<|wO<|tc K9 KA (xx (xv 1) xi) xi) (b1<|sF 0<|sR<|xL<|a2 xi<|xv 0) b0)<|bc (sI (tq B (xx (xv 1) xi)<|xv 3) (b1<|sF 0<|sR<|xL<|a2 xi<|xv 0) b0)<|b1<|sR<|xL<|a2 xi<|xo KC KD (xo KC KD (xp (xv 0) o0<|o1<|xo Kl Km (xv 2) xi)<|xL<|a1<|xt<|a2 (xx (xv 1) xi)<|xv 4)<|xp (xv 0) (o1<|xv 2) o0) b0)<|bc (sI (tq B (xx (xv 1) xi) xs) (bc (sI (tp<|wo (tc KY Pa (xx (xv 1) xi) xi)<|wO<|tc Sz SA (xx (xv 1) xi)<|xv 4) (b1<|sF 0<|sR<|xL<|a2 xi<|xv 0) b0)<|bc (sI (tq B (xl G.len<|xv 0) xi) (b1<|sF 0<|sR<|xL<|a2 xi<|xv 0) b0)<|bc (sS 5 n<|xL<|a2 (xt<|a2 (xv 3)<|xx (xv 1) xi)<|xt<|a2 (xv 3)<|xo Kl Km (xv 4)<|xx (xv 1) xi)<|b1<|sR<|xL<|a2 xi<|xo KC KD (xo KC KD (xp (xv 0) o0<|o1<|xo Kl Km (xv 2) xi)<|xv 5)<|xp (xv 0) (o1<|xv 2) o0) b0)<|bc (sI (tn B (xx (xx (xv 0)<|xv 2) xi)<|xv 3) (b1<|sF 0<|sR<|xL<|a2 xi<|xv 0) b0)<|bc (sI (tc K9 KA (xo XS XQ (xv 4)<|xx (xx (xv 0)<|xv 2) xi) xi) (b1<|sF 0<|sR<|xL<|a2 xi<|xv 0) b0)<|b1<|sR<|xL<|a2 xi<|xo KC KD (xo KC KD (xp (xv 0) o0<|o1<|xo Kl Km (xv 2) xi)<|xL<|a1<|xt<|a2 (xv 3)<|xo XS XQ (xv 4)<|xx (xx (xv 0)<|xv 2) xi)<|xp (xv 0) (o1<|xo XS XQ (xv 2) xi) o0)) (.b ?_)
 ·rintro U R X ⟨f,x,rfl,hx,Q,l⟩;refine⟨rfl,?_⟩;have T:(f.map prD).length=f.length:=WL ..;have A:∀p:Int,(cutD (f.map prD) none<|some (p-1)).length<=1000:=λp=>by have:=(TB (f.map prD) none<|some (p-1)).length_le;rw[WL]at this;lia
  have E:∀p:Int,(cutD (f.map prD) (some p) none).length<=1000:=λp=>by have:=(TB (f.map prD) (some p) none).length_le;rw[WL]at this;lia
  cases x with
  |wish a b=>cases hx
  |drop a b=>cases hx
  |sell p h=>
   have l:R (.own [.int (codeN<|Pb f p h),plD (if Pb f p h=none then TY f p h else f)]):=l
   have o:∀c:Str,Pb f p h=some c->R (.own [.int (codeN<|some c),plD f]):=λc e=>by
    rw[e,WS (by intro z;cases z)]at l;exact l
   unfold Pb at o l
   have one:(p<1\/(f.length:Int)<p)->R (.own [.int 1,plD f]):=λz=>by
    rw[←Cb];exact o _ (WT z)
   refine⟨_,rfl,Xy (λg=>Kz ?_) (λg=>⟨_,rfl,Xy (λv=>?_) (λv=>?_)⟩)⟩
   ·exact⟨by simp,one (.inl<|WR g)⟩
   ·have r:(((f.map prD).length:Nat):Int)-0<p:=WR v;exact⟨by simp,one (.inr<|by lia)⟩
   ·have J:¬p<1:=λz=>g (WM z);have H:¬(((f.map prD).length:Nat):Int)-0<p:=λz=>v (WM z);rw[WS (by lia)]at o l;have a1:=Na (ps:=f) (p:=p) (by lia) (by lia);refine⟨_,a1,_,rfl,_,a1,_,rfl,_,rfl,?_⟩;refine⟨_,rfl,Xy (λs=>Kz ?_) (λs=>⟨_,rfl,Xy (λu=>?_) (λu=>?_)⟩)⟩
    ·have r:h<1:=WR s
     have:=o _ (WT<|by lia)
     rw[Fl]at this;exact⟨by simp,this⟩
    ·have r:10<h:=WR u
     have:=o _ (WT<|by lia)
     rw[Fl]at this;exact⟨by simp,this⟩
    ·have M:¬h<1:=λz=>s (WM z);have L:¬10<h:=λz=>u (WM z);rw[WS (VP.mpr ⟨by lia,by lia⟩)]at o l;refine⟨_,rfl,Xy (λy=>?_) (λy=>?_)⟩
     ·have r:h=(X6 f p).1:=WR y
      have:=o _ (WT r.symm)
      rw[R5]at this;exact⟨by simp,this⟩
     ·have r:¬h=(X6 f p).1:=λz=>y (WM z);rw[WS (λz=>r z.symm),WT rfl]at l;have e:=LF (ps:=f) (p:=p) (x:=(h,(X6 f p).2)) (by lia) (by lia);refine⟨rfl,_,rfl,by simp,by simp,rfl,rfl,WZ (Qt (A p)<|WU 1) (by decide),rfl,rfl,rfl,WZ (Qt (by rw[WW];exact Qt (A p) (WU 1))<|E p) (by decide),by simp,?_⟩;have C:plD (TY f p h)=.lst (cutD (f.map prD) none (some (p-1))++[prD (h,(X6 f p).2)]++cutD (f.map prD) (some p) none):=QA D.lst e.symm;rw[C]at l;exact l
  |part p w=>
   have l:R (.own [.int (codeN<|K4 f p w),plD (if K4 f p w=none then Tn f p w else f)]):=l
   have o:∀c:Str,K4 f p w=some c->R (.own [.int (codeN<|some c),plD f]):=λc e=>by
    rw[e,WS (by intro z;cases z)]at l;exact l
   unfold K4 at o l
   have one:(p<1\/(f.length:Int)<p)->R (.own [.int 1,plD f]):=λz=>by
    rw[←Cb];exact o _ (WT z)
   refine⟨_,rfl,Xy (λg=>Kz ?_) (λg=>⟨_,rfl,Xy (λv=>?_) (λv=>?_)⟩)⟩
   ·exact⟨by simp,one (.inl<|WR g)⟩
   ·have r:(((f.map prD).length:Nat):Int)-0<p:=WR v;exact⟨by simp,one (.inr<|by lia)⟩
   ·have J:¬p<1:=λz=>g (WM z);have H:¬(((f.map prD).length:Nat):Int)-0<p:=λz=>v (WM z);rw[WS (by lia)]at o l;have a1:=Na (ps:=f) (p:=p) (by lia) (by lia);refine⟨_,a1,_,rfl,_,a1,_,rfl,_,rfl,_,rfl,?_⟩;refine⟨_,rfl,Xy (λs=>Kz ?_) (λs=>⟨_,rfl,Xy (λu=>?_) (λu=>?_)⟩)⟩
    ·have:=o _ (WT<|.inl<|WR s)
     rw[Dr]at this;exact⟨by simp,this⟩
    ·have:=o _ (WT<|.inr<|WR u)
     rw[Dr]at this;exact⟨by simp,this⟩
    ·have M:¬w<1:=λz=>s (WM z);have L:¬(X6 f p).2<=w:=λz=>u (WM z);rw[WS (by lia)]at o l;refine Xy (λy=>?_) (λy=>?_)
     ·have r:(((f.map prD).length:Nat):Int)=40:=WR y
      have:=o _ (WT<|by lia)
      rw[Zaf]at this;exact⟨by simp,this⟩
     ·have r:¬(((f.map prD).length:Nat):Int)=40:=λz=>y (WM z);rw[WS (by lia),WT rfl]at l;refine⟨_,rfl,by simp,_,rfl,by simp,by simp,?_⟩;refine⟨rfl,rfl,rfl,WZ (Qt (A p)<|WU 2) (by decide),rfl,rfl,rfl,WZ (Qt (by rw[WW];exact Qt (A p) (WU 2))<|E p) (by decide),by simp,?_⟩;have C:plD (Tn f p w)=.lst (cutD (f.map prD) none (some (p-1))++[prD ((X6 f p).1,w),prD ((X6 f p).1,(X6 f p).2-w)]++cutD (f.map prD) (some p) none):=QA D.lst (R6<|by lia).symm;rw[C]at l;exact l
  |unite p=>
   have l:R (.own [.int (codeN<|Kn f p),plD (if Kn f p=none then Tc f p else f)]):=l
   have o:∀c:Str,Kn f p=some c->R (.own [.int (codeN<|some c),plD f]):=λc e=>by
    rw[e,WS (by intro z;cases z)]at l;exact l
   unfold Kn at o l
   have one:(p<1\/(f.length:Int)<=p)->R (.own [.int 1,plD f]):=λz=>by
    rw[←Cb];exact o _ (WT z)
   refine⟨_,rfl,Xy (λg=>Kz ?_) (λg=>⟨_,rfl,Xy (λv=>?_) (λv=>?_)⟩)⟩
   ·exact⟨by simp,one (.inl<|WR g)⟩
   ·have r:(((f.map prD).length:Nat):Int)-1<p:=WR v;exact⟨by simp,one (.inr<|by lia)⟩
   ·have J:¬p<1:=λz=>g (WM z);have H:¬(((f.map prD).length:Nat):Int)-1<p:=λz=>v (WM z);rw[WS (by lia)]at o l;have a1:=Na (ps:=f) (p:=p) (by lia) (by lia);have a2:=Zor (ps:=f) (p:=p) (by lia) (by lia);refine⟨_,a1,_,rfl,_,a1,_,rfl,_,rfl,_,rfl,?_⟩;refine⟨_,a2,_,rfl,Xy (λs=>?_) (λs=>?_)⟩
    ·have r:¬(X6 f (p+1)).1=(X6 f p).1:=λz=>by rw[WM z]at s;cases s
     have:=o _ (WT (λz=>r z.symm))
     rw[OI]at this;exact⟨by simp,this⟩
    ·have r:(X6 f (p+1)).1=(X6 f p).1:=Q1 λz=>s (by rw[Qu z];rfl);rw[WS (VP.mpr r.symm)]at o l;refine⟨_,a2,_,rfl,Xy (λu=>?_) (λu=>?_)⟩
     ·have:=o _ (WT<|WR u)
      rw[Mz]at this;exact⟨by simp,this⟩
     ·rw[WS (λz=>u (WM z)),WT rfl]at l;refine⟨rfl,_,a2,_,rfl,by simp,by simp,rfl,rfl,WZ (Qt (A p)<|WU 1) (by decide),rfl,rfl,rfl,WZ (Qt (by rw[WW];exact Qt (A p) (WU 1))<|E (p+1)) (by decide),by simp,?_⟩;have C:plD (Tc f p)=.lst (cutD (f.map prD) none (some (p-1))++[prD ((X6 f p).1,(X6 f p).2+(X6 f (p+1)).2)]++cutD (f.map prD) (some (p+1)) none):=QA D.lst (IE<|by lia).symm;rw[C]at l;exact l
def Zr3(T:Def K mg "_law_wish_step" ED ["_law_wishes","_law_deed_here"])
  : Iy ζ:=by
 refine T.fz Zqx (λr n=>(bc (sS 2 n<|xt<|a2 (xx (xv 1) xi)<|xx (xv 1) xi)<|bc (sI (tq r (xx (xv 1) xi) xs) (bc (sI (tI r (xv 2)<|xv 0) (b1<|sF 0<|sR<|xL<|a2 xi<|xv 0) b0)<|b1<|sR<|xL<|a2 xi<|xC ["_law_one","_law_pair_here"] [none,some 2] (jL<|xv 0) (gN 0) (f1<|te (TJ (R9 (K:=K)<|show _<cLine from(r ()).units0) (pv 0) (pv 1)<|Py _)<|PP<|Gv (Xt 0)<|Xt 1)<|xv 0) b0)<|bc (sI (tp<|wo (tc KY Pa (xe (Ka (Zem (K:=K) rfl) (by rfl) G.ZY boot_min<|az<|pv 2)<|Zay<|sz<|Xt 2) xi)<|wO<|tc K9 KA (xe (Ka (Zcv (K:=K) rfl) (by rfl) G.ZM boot_max<|az<|pv 2)<|Zsi<|sz<|Xt 2) xi) (b1<|sF 0<|sR<|xL<|a2 xi<|xv 0) b0)<|bc (sI (tq r (xx (xv 1) xi)<|xx (xv 1) xi) (b1<|sF 0<|sR<|xL<|a2 xi<|xv 0) b0)<|bc (sI (ti r (xv 2)<|xv 0) (b1<|sF 0<|sR<|xL<|a2 xi<|xv 0) b0)<|bc (sI (tq r (xl G.len<|xv 0) xi) (b1<|sF 0<|sR<|xL<|a2 xi<|xv 0) b0)<|b1<|sF 2<|sR<|xL<|a2 xi<|xo KC KD (xv 0)<|xL<|a1<|xv 2)) (.b ?_)
 ·rintro ds R X ⟨w,x,rfl,hx,hz,f⟩;refine⟨rfl,?_⟩;have M:(w.map prD).length=w.length:=WL ..;cases x with
  |sell p h=>cases hx
  |part p h=>cases hx
  |unite p=>cases hx
  |drop a b=>
   refine⟨_,rfl,_,rfl,by simp,_,rfl,?_⟩;show ∃c,InR (prD (a,b)) (plD w) c/\_;have f:R (.own [.int (codeN<|K0 w a b),plD (if K0 w a b=none then Sv w a b else w)]):=f;refine⟨_,.lp (a,b) w,Xy (λg=>?_) (λg=>?_)⟩
   ·have o:¬(a,b)∈w:=λz=>by rw[WT rfl,WM z]at g;cases g
    have e:K0 w a b=some ("NoWish" : Str):=WS o;rw[e,Ii,WS (by intro z;cases z)]at f;exact⟨by simp,f⟩
   ·have o:(a,b)∈w:=Q1 λz=>g (by rw[WT rfl,Qu z];rfl);have e:K0 w a b=none:=WT o;rw[e,WT rfl]at f;refine KB (xs:=w) (emb:=prD) (λq=>if (!decide (q=(a,b)))=true then some (prD q)else none) (by omega) (λq hq=>?_) ?_
    ·refine⟨[q.1,q.2],[a,b],rfl,rfl,?_⟩;have e:decide ([q.1,q.2]=[a,b])=decide (q=(a,b)):=Zr2 q (a,b);show if (!decide ([q.1,q.2]=[a,b]))=true then _ else _;rw[e];exact Xy (λh=>⟨_,rfl,WT h⟩) (λh=>WS h)
    ·rw[PU (λq:Int×Int=>!decide (q=(a,b)))];exact⟨by simp,f⟩
  |wish a b=>
   refine⟨_,rfl,_,rfl,by simp,_,rfl,?_⟩;have f:R (.own [.int (codeN<|Kk w a b),plD (if Kk w a b=none then w++[(a,b)]else w)]):=f
   have l:∀c:Str,Kk w a b=some c->R (.own [.int (codeN<|some c),plD w]):=λc e=>by
    rw[e,WS (by intro z;cases z)]at f;exact f
   have u:¬((1<=a/\a<=10)/\(1<=b/\b<=10))->R (.own [.int 2,plD w]):=λz=>by
    rw[←Fl];refine l _ ?_;unfold Kk;by_cases s:1<=a/\a<=10
    ·rw[WS (VP.mpr s),WT (λy=>z ⟨s,y⟩)]
    ·rw[WT s]
   have L:∀x y:Int,(if y<x then y else x)<=x/\(if y<x then y else x)<=y/\((if y<x then y else x)=x\/(if y<x then y else x)=y):=λx y=>by split<;>omega
   have J:∀x y:Int,x<=(if y>x then y else x)/\y<=(if y>x then y else x)/\((if y>x then y else x)=x\/(if y>x then y else x)=y):=λx y=>by split<;>omega
   have m1:=L a b;have m2:=J a b;refine Xy (λg=>Kz ?_) (λg=>Xy (λC=>?_) (λC=>?_))
   ·have o:(if b<a then b else a)<1:=WR g;exact⟨by simp,u (by omega)⟩
   ·have o:10<(if b>a then b else a):=WR C;exact⟨by simp,u (by omega)⟩
   ·have Y:¬(if b<a then b else a)<1:=λz=>g (WM z);have U:¬10<(if b>a then b else a):=λz=>C (WM z);have s:1<=a/\a<=10:=by omega
    have Q:1<=b/\b<=10:=by omega
    unfold Kk at l f;rw[WS (VP.mpr s),WS (VP.mpr Q)]at l f;refine⟨_,rfl,_,rfl,Xy (λB=>?_) (λB=>?_)⟩
    ·have:=l _ (WT<|WR B)
     rw[Ia]at this;exact⟨by simp,this⟩
    ·have H:¬a=b:=λz=>B (WM z);rw[WS H]at l f;show ∃c,InR (prD (a,b)) (plD w) c/\_;refine⟨_,.lp (a,b) w,Xy (λA=>?_) (λA=>?_)⟩
     ·have:=l _ (WT<|WR A)
      rw[LI]at this;exact⟨by simp,this⟩
     ·have E:¬(a,b)∈w:=λz=>A (WM z);rw[WS E]at l f;refine Xy (λv=>?_) (λv=>?_)
      ·have o:(((w.map prD).length:Nat):Int)=20:=WR v
       have:=l _ (WT<|by omega)
       rw[LZ]at this;exact⟨by simp,this⟩
      ·have o:¬(((w.map prD).length:Nat):Int)=20:=λz=>v (WM z);rw[WS (by omega),WT rfl]at f;refine⟨by simp,rfl,rfl,WZ (Qt (Vi M)<|WU 1) (by omega),by simp,?_⟩;have N:plD (w++[(a,b)])=.lst (w.map prD++[prD (a,b)]):=QA D.lst Qd;rw[N]at f;exact f
def Zsd(p:Def K mg "_law_odd" CQ ["_law_cell","_law_good"])
  : OW ζ:=by
 refine p.fz Zax (λo n=>(bc (sI (tq o (xo XN XM (xv 0) xi) xi) (b1<|sR<|xx (xL<|ac xi<|ac xi<|ac (xe (KQ KN X9)<|KM X2)<|ac (xo CH CD xi xi) a0)<|xo XN XM (xo Kq Ks (xv 0) xi) xi) b0)<|b1<|sV 1)) (.a ?_)
 ·rintro r R X ⟨c,g,rfl,h⟩;refine⟨rfl,?_⟩;have l:0<=c / 7 % 4/\c / 7 % 4<4:=by lia
  refine⟨(by show(0:Int)<7;decide),Xy (λ_=>?_) (λ_=>h _)⟩;exact⟨⟨by decide,by decide,by decide⟩,by simp,⟨by decide,by decide⟩,(by show(0:Int)<4;decide),_,Pe (f:=D.int) (xs:=[0,11,-3,10 ^ (30:Int).toNat]) l.1 l.2,h _⟩
def Zew(u:Def K mg "_law_place" Ey ["_law_cell","_law_strips"])
  : O8 ζ:=by
 refine u.fz Zd2 (λp n=>(bc (sI (tq p (xo XN XM (xv 0) xi) xi) (b1<|sR<|xx (xL<|ac xi<|ac (xe (KQ KN X9)<|KM X2)<|ac (xo XS XQ (xl G.len<|xv 1) xi)<|ac (xo CH CD xi xi) a0)<|xo XN XM (xo Kq Ks (xv 0) xi) xi) b0)<|bc (sI (te (TJ (IM (K:=K)<|show _<cLine from(p ()).units0) (pv 1) (KS KF)<|Py _)<|PP<|Ck (Xt 1)<|PB XF) (b1<|sR xi) b0)<|b1<|sR<|xo XS XQ xi<|xo XN XM (xo Kq Ks (xv 0) xi)<|xl G.len<|xv 1)) (.a ?_)
 ·rintro y R X ⟨c,h,rfl,v,l⟩;refine⟨rfl,?_⟩;have r:0<=c / 11 % 4/\c / 11 % 4<4:=by lia
  have x:(h.map prD).length=h.length:=WL ..;refine⟨(by show(0:Int)<11;decide),Xy (λ_=>?_) (λ_=>?_)⟩
  ·exact⟨⟨by decide,by decide,by decide⟩,by simp,⟨by decide,by decide⟩,(by show(0:Int)<4;decide),_,Pe (f:=D.int) (xs:=[0,-1,(((h.map prD).length:Nat):Int)+1,10 ^ (30:Int).toNat]) r.1 r.2,l _⟩
  ·refine⟨by simp,?_⟩;have o:(h.map prD).isEmpty=decide (h=[]):=by cases h<;>simp
   show if (h.map prD).isEmpty=true then _ else _;rw[o];refine Xy (λ_=>l _) (λg=>?_);have s:0<h.length:=VI.mpr λz=>g (WM z);exact⟨⟨by decide,by decide⟩,(by show 0<(((h.map prD).length:Nat):Int);lia),l _⟩
def Zbh(A:Def K mg "_law_width" DT ["_law_cell","_law_strips","_law_place_here"])
  : OA ζ:=by
 refine A.fz Zje (λu n=>(bc (sI (tp<|wo (tc KY Pa (xv 2) xi)<|wo (tc K9 KA (xv 2)<|xl G.len<|xv 1)<|wO<|tq u (xo XN XM (xv 0) xi) xi) (b1<|sR<|xx (xL<|ac xi<|ac (xe (KQ KN X9)<|KM X2)<|ac xi<|ac xi<|ac xi<|ac xi<|ac (xo CH CD xi xi) a0)<|xo XN XM (xo Kq Ks (xv 0) xi) xi) b0)<|b1<|sR<|xo XN XM (xo Kq Ks (xv 0) xi)<|xo XS XQ (xx (xx (xv 1)<|xo Kl Km (xv 2) xi) xi) xi)) (.a ?_)
 ·rintro L R X ⟨c,ps,p,rfl,E,x,h⟩;refine⟨rfl,?_⟩;have J:(ps.map prD).length=ps.length:=WL ..;have r:0<=c / 5 % 7/\c / 5 % 7<7:=by lia
  have l:∃v:Int,atI ([0,-1,1,1000,1001,999,10 ^ (30:Int).toNat].map D.int) (c / 5 % 7)=some (.int v):=⟨_,Pe (f:=D.int) (xs:=[0,-1,1,1000,1001,999,10 ^ (30:Int).toNat]) r.1 r.2⟩;obtain⟨v,o⟩:=l;refine Xy (λg=>Kz ?_) (λg=>Xy (λs=>Kz ?_) (λs=>⟨(by show(0:Int)<5;decide),Xy (λy=>?_) (λy=>?_)⟩))
  ·exact⟨⟨by decide,by decide,by decide⟩,by simp,⟨by decide,by decide⟩,(by show(0:Int)<7;decide),_,o,h _⟩
  ·exact⟨⟨by decide,by decide,by decide⟩,by simp,⟨by decide,by decide⟩,(by show(0:Int)<7;decide),_,o,h _⟩
  ·exact⟨⟨by decide,by decide,by decide⟩,by simp,⟨by decide,by decide⟩,(by show(0:Int)<7;decide),_,o,h _⟩
  ·have C:¬p<1:=λz=>g (WM z);have B:¬(((ps.map prD).length:Nat):Int)<p:=λz=>s (WM z);have H:=x _ (FE (ps:=ps) (p:=p) (by lia)<|by lia);exact⟨⟨by decide,by decide⟩,_,Na (by lia) (by lia),_,rfl,(by show 0<(X6 ps p).2+1;lia),h _⟩
def Zd0(y:Def K mg "check_strips" AM ["strips"])
  : G6 ζ:=by
 refine y.fy Zpt (λs n=>(bc (sI (tc K9 KA (xl G.len<|xv 0)<|xe (ExcR.P7 G.Zp) X2) (b1<|sQ G.Zl G.Zk ExcR.KO<|a1<|xe (ExcR.Sb<|ExcR.Tq<|ExcR.NV (ExcR.P7 G.Zp)<|ExcR.Tq ExcR.NC)<|Sd<|Tp<|NM X2<|Tp ND) b0)<|b1<|sF 0<|sO [1,2] ExcR.Gq (iL<|xv 0) (gT 2<|gc (gN 1)<|gc (gN 2) g0)<|bc (sE<|xg Y2 s ExcR.XU<|a1<|xv 1)<|b1<|sE<|xg YR s ExcR.XU<|a1<|xv 2)) (.a ?_)
 ·rintro C R X ⟨f,rfl,A,l⟩;refine⟨rfl,?_⟩;have B:(f.map prD).length=f.length:=WL ..;unfold SE at l;refine Xy (λg=>?_) (λg=>?_)
  ·have v:(40:Int)<((f.map prD).length:Int):=WR g;rw[WT (by lia)]at l;exact⟨by decide,by decide,by decide,by decide,by decide,by simp,l⟩
  ·have v:¬(40:Int)<((f.map prD).length:Int):=λz=>g (WM z);rw[WS (by lia)]at l;refine⟨rfl,PL (xs:=f) (emb:=prD) (λi o=>o=[some (.bor<|plD f),none,none]/\Ny (f.drop i)=Ny f) ⟨rfl,rfl⟩ ?_ ?_⟩
   ·rintro i u o ⟨rfl,h⟩;have x:f.drop i=f[i]::f.drop (i+1):=QS u;rw[x,Zgw]at h;generalize f[i]=p at h ⊢;refine⟨rfl,p.1,rfl,?_⟩;unfold Ba;by_cases c:1<=p.1/\p.1<=10
    ·rw[WS (λz=>z c)]at h;rw[WT c];refine⟨p.2,rfl,?_⟩;unfold AW;by_cases r:1<=p.2/\p.2<=1000
     ·rw[WS (λz=>z r)]at h;rw[WT r];exact⟨rfl,h⟩
     ·rw[WT r]at h;rw[WS r];rw[←h]at l;exact l
    ·rw[WT c]at h;rw[WS c];rw[←h]at l;exact l
   ·rintro o ⟨rfl,h⟩;rw[List.drop_length]at h;rw[←h]at l;exact l
def Zdt(x:Def K mg "check_order" D8 ["strips","order"])
  : Ij ζ:=by
 refine x.fy Zls (λo n=>(b1<|sI (tn o (xe (Ka (A5 (K:=K) (w:=w) rfl) (by rfl) G.Zj boot_sorted<|az<|pv 1)<|F4<|sz<|Xt 1)<|xf Yw o<|a1<|xv 0) (b1<|sQ G.ZH G.ZG ExcR.KO<|a1 xs) b0)) (.a ?_)
 ·rintro y R X ⟨ps,os,rfl,s,p,r,f⟩;refine⟨rfl,os,rfl,r,λl v u=>⟨ps,rfl,s,p,_,_,rfl,rfl,?_⟩⟩;have q:=Zhp (ps:=ps) v u;unfold Sx at f;refine Xy (λg=>?_) (λg=>?_)
  ·have h:¬l=X3 ps:=λz=>by rw[WT rfl,WM z]at g;cases g
   rw[WS (λz=>h (q.mpr z))]at f;exact⟨by simp,f⟩
  ·have h:l=X3 ps:=Q1 λz=>g (by rw[WT rfl,Qu z];rfl);rw[WT (q.mp h)]at f;exact f
def Zhr(DD:Def K mg "ring_from" Dv ["least","holders","wishes"])
  : R1 ζ:=by
 refine DD.fz Zb8 (λU n=>(bc (sF 0<|sS 3 n<|xL<|a1<|xL<|a1<|xv 0)<|bc (sS 4 n<|xe (Ka (A5 (K:=K) (w:=w) rfl) (by rfl) G.Zj boot_sorted<|az<|cz ["holder","least"] [none,some 0] (Nr (K:=K)<|pv 1) ⟨(gk 0),(FQ<|TJ K9 (pv 0) (pv 1)<|Py _),(pv 0)⟩)<|F4<|sz<|Tv (SB<|Xt 1) (Ko 0) (PP<|KA (Xt 0)<|Xt 1)<|Xt 0)<|bc (sW [5,6] Qn (tt<|xv 3)<|bc (sF 0<|sC 5 ["path","wishes","least"] [none,some 2,some 0] n (jL<|xv 3) (gN 0) (f1<|ti U (xt<|a2 (xx (xv 0)<|xe (KQ KN X9)<|KM X2)<|xv 2)<|xv 1)<|xv 0)<|bc (sI (tt<|xv 5) (b1<|sr<|xx (xv 5) xi) b0)<|bc (sS 3 n<|xf YX U<|a3 (xv 3) (xv 4)<|xv 2)<|bc (sS 6 n<|xC ["path"] [none] (jL<|xv 3) (gN 0) f0<|xx (xv 0)<|xe (KQ KN X9)<|KM X2)<|b1<|sC 4 ["holder","reached"] [none,some 6] n (jL<|xv 4) (gN 0) (f1<|tI U (xv 0)<|xv 1)<|xv 0)<|b1<|sr<|xL a0)) (.a ?_)
 ·rintro ds R X ⟨l,y,B,rfl,hnd,hz,hR⟩;refine⟨rfl,by simp,by simp,KB (xs:=y) (emb:=D.int) (λh=>if decide (l<h)=true then some (.int h)else none) (by lia) (λh _=>Xy (λg=>⟨_,rfl,WT g⟩) (λg=>WS g)) ?_⟩;rw[GC λh=>decide (l<h)];refine⟨y.filter λh=>decide (l<h),rfl,JU (QE _ _) (by lia),λf u J=>?_⟩;have hlt:f.Pairwise (· < ·):=A7 J (u.nodup_iff.mpr<|hnd.filter _)
  have hm:∀h,h∈f↔Gr y l h:=λh=>by
   rw[u.mem_iff,Qz,V8];exact Iff.rfl
  have M:f.length<=y.length:=by
   rw[u.length_eq];exact QE _ _
  refine FT (λE=>∃k o f,E=[some (.sh<|.int l),some (.bor<|.lst<|y.map D.int),some (.bor<|.lst<|B.map prD),some (.own<|o.map<|em l),some (.own<|f.map D.int),none,none]/\Lev y B l k o f/\o.length<=60/\f.length<=y.length/\(k+f.length<=y.length\/(o=[]/\k<=y.length+1)))
   (λγ=>2*Mt 4 γ+min 1 (Mt 3 γ)) ⟨0,[[]],f,rfl,Lev.start hlt hm,by simp,M,.inl (by lia)⟩ ?_
  rintro E ⟨k,o,f,rfl,L,hpl,hll,hk⟩;have emp:(!(o.map<|em l).isEmpty)=decide (o≠[]):=by cases o<;>simp
  show if (!(o.map<|em l).isEmpty)=true then _ else _;rw[emp];refine Xy (λg=>?_) (λg=>?_)
  ·have A:o≠[]:=WR g;have hk':k+f.length<=y.length:=hk.elim id λz=>absurd z.1 A;have Y:∀p∈o,p.length<=60:=λp u=>by rw[(L.way p u).1];lia
   refine KB (xs:=o) (emb:=em l) (λp=>if decide ((X8 l p,l)∈B)=true then some (em l p)else none) (by lia) (λp u=>⟨_,Dx l p,by simp,_,.lp (X8 l p,l) B,Xy (λg=>⟨_,rfl,WT g⟩) (λg=>WS g)⟩) ?_;rw[PU λp=>decide ((X8 l p,l)∈B)];generalize ef:(o.filter λp=>decide ((X8 l p,l)∈B))=fs;have Q:(!(fs.map<|em l).isEmpty)=decide (fs≠[]):=by cases fs<;>simp
   show if (!(fs.map<|em l).isEmpty)=true then _ else _;rw[Q];refine Xy (λg2=>?_) (λg2=>?_)
   ·have C:fs≠[]:=WR g2;cases fs with
    |nil=>exact absurd rfl C
    |cons p r=>
     obtain⟨i,hi,T,e2,e3⟩:=Mp ef;have u:p∈o:=by rw[←T];exact Qi hi
     refine⟨em l p,KW _ _,hR (l::p) (L.found hi T (WR e2) λj hj hji z=>?_) (by have:=(L.way p u).1;simp;lia)⟩
     have:=e3 j hj hji
     rw[WM z]at this;cases this
   ·have C:fs=[]:=Q1 λz=>g2 (WM z)
    have hn:∀p∈o,(X8 l p,l)∉B:=λp u z=>by
     have:p∈fs:=by rw[←ef];exact Qz.mpr ⟨u,WM z⟩
     rw[C]at this;cases this
    refine⟨l,o,f,B,rfl,L.srt,L.lsrt,λp u=>WZ (Y p u) (by decide),by lia,λs G hlg=>?_⟩;refine KB (xs:=s) (emb:=em l) (λp=>some (.int<|X8 l p)) (by lia) (λp _=>⟨_,Dx l p,_,rfl,rfl⟩) ?_;have T:s.filterMap (λp=>some (D.int<|X8 l p))=(s.map<|X8 l).map D.int:=by rw[VO,Q7];rfl
    rw[T];refine KB (xs:=f) (emb:=D.int) (λh=>if decide (¬h∈s.map (X8 l))=true then some (.int h)else none) (by lia) (λh _=>⟨_,.li h _,?_⟩) ?_
    ·by_cases c:h∈s.map (X8 l)
     ·simp only[WM c];exact XT (WS<|by simp[c])
     ·simp only[Qu c];exact Kz ⟨_,rfl,WT (by simp[c])⟩
    rw[GC λh=>decide (¬h∈s.map (X8 l))];have L':=L.next hn G rfl
    have H:∀h∈s.map (X8 l),h∈f:=λh hh=>by
     obtain⟨q,hq,e⟩:=Qq.mp hh;obtain⟨p,x,⟨_,a⟩,rfl,_⟩:=G.mem q hq;rw[Pr]at e;rw[←e];exact a
    have N:=QE (λh=>decide (¬h∈s.map (X8 l))) f
    have v:s≠[]->(f.filter λh=>decide (¬h∈s.map (X8 l))).length<f.length:=λA=>by
     obtain⟨q,hq⟩:=List.exists_mem_of_ne_nil s A;have hm:X8 l q∈f:=H _ (JN hq);refine Nat.lt_of_le_of_ne N λz=>?_
     have:=List.filter_eq_self.mp (List.Sublist.eq_of_length (List.filter_sublist (l:=f)) z) (X8 l q) hm
     rw[V8]at this;exact this (JN hq)
    refine⟨⟨k+1,s,_,rfl,L',by lia,by lia,?_⟩,?_⟩
    ·by_cases c:s=[]
     ·exact .inr ⟨c,by lia⟩
     ·have:=v c
      exact .inl (by lia)
    ·show 2*((f.filter λh=>decide (¬h∈s.map (X8 l))).map D.int).length+min 1 (s.map<|em l).length<2*(f.map D.int).length+min 1 (o.map<|em l).length;rw[WL,WL,WL,WL]
     have:0<o.length:=VI.mpr A
     by_cases c:s=[]
     ·rw[c];rw[c]at N;simp only[List.length_nil];lia
     ·have:=v c
      lia
  ·have hpe:o=[]:=Q1 λz=>g (WM z);subst hpe;exact⟨by simp,hR [] L.over (by simp)⟩
def Zfw(v:Def K mg "sold" DP ["strips","place","holder"])
  : Mb ζ:=by
 refine v.fy Zof (λo n=>(bc (sE<|xg Y8 o ExcR.XU<|a2 (xv 0)<|xv 1)<|bc (sE<|xg Y2 o ExcR.XU<|a1<|xv 2)<|bc (sS 3 n<|xx (xv 0)<|xo Kl Km (xv 1) xi)<|bc (sI (tq o (xx (xv 3) xi)<|xv 2) (b1<|sQ G.ZJ G.ZI ExcR.KO<|a1 xs) b0)<|b1<|sF 2<|sR<|xo KC KD (xo KC KD (xp (xv 0) o0<|o1<|xo Kl Km (xv 1) xi)<|xL<|a1<|xt<|a2 (xv 2)<|xx (xv 3) xi)<|xp (xv 0) (o1<|xv 1) o0)) (.a ?_)
 ·rintro A R X ⟨ps,p,h,rfl,y,f⟩;refine⟨rfl,?_⟩;unfold Pb at f;refine⟨ps,p,rfl,?_⟩;unfold F2;by_cases c:p<1\/(ps.length:Int)<p
  ·rw[WT c]at f ⊢;exact f
  ·rw[WS c]at f ⊢;refine⟨h,rfl,?_⟩;unfold Ba;by_cases l:1<=h/\h<=10
   ·rw[WS (λz=>z l)]at f;rw[WT l];refine⟨_,Na (by lia) (by lia),?_⟩;have s:(cutD (ps.map prD) none<|some (p-1)).length<=1000:=by have:=(TB (ps.map prD) none<|some (p-1)).length_le;rw[WL]at this;lia
    have u:(cutD (ps.map prD) (some p) none).length<=1000:=by have:=(TB (ps.map prD) (some p) none).length_le;rw[WL]at this;lia
    refine⟨_,rfl,Xy (λg=>?_) (λg=>?_)⟩
    ·have r:(X6 ps p).1=h:=WR g;rw[WT r]at f;exact⟨by simp,f⟩
    ·have r:¬(X6 ps p).1=h:=λz=>g (WM z);rw[WS r]at f;refine⟨P0 _,_,rfl,by simp,by simp,rfl,rfl,WZ (Qt s<|WU 1) (by decide),P0 _,rfl,rfl,WZ (Qt (by rw[WW];exact Qt s (WU 1)) u) (by decide),?_⟩;have e:=LF (ps:=ps) (p:=p) (x:=(h,(X6 ps p).2)) (by lia) (by lia);show R (.own (cutD (ps.map prD) none (some (p-1))++[prD (h,(X6 ps p).2)]++cutD (ps.map prD) (some p) none));rw[e];exact f
   ·rw[WT l]at f;rw[WS l];exact f
def Zq8(A:Def K mg "parted" D2 ["strips","place","width"])
  : LK ζ:=by
 refine A.fy Zcp (λx n=>(bc (sE<|xg Y8 x ExcR.XU<|a2 (xv 0)<|xv 1)<|bc (sS 3 n<|xx (xv 0)<|xo Kl Km (xv 1) xi)<|bc (sI (tp<|wo (tc KY Pa (xv 2) xi)<|wO<|tc Sz SA (xv 2)<|xx (xv 3) xi) (b1<|sQ G.ZO G.ZN ExcR.KO<|a1 xs) b0)<|bc (sI (tc Sz SA (xl G.len<|xv 0)<|xe (ExcR.P7 G.Zp) X2) (b1<|sQ G.Zl G.Zk ExcR.KO<|a1<|xe (ExcR.Sb<|ExcR.Tq<|ExcR.NV (ExcR.P7 G.Zp)<|ExcR.Tq ExcR.NC)<|Sd<|Tp<|NM X2<|Tp ND) b0)<|b1<|sF 2<|sR<|xo KC KD (xo KC KD (xp (xv 0) o0<|o1<|xo Kl Km (xv 1) xi)<|xL<|a2 (xt<|a2 (xx (xv 3) xi)<|xv 2)<|xt<|a2 (xx (xv 3) xi)<|xo Kl Km (xx (xv 3) xi)<|xv 2)<|xp (xv 0) (o1<|xv 1) o0)) (.a ?_)
 ·rintro J R X ⟨h,p,w,rfl,B,f⟩;refine⟨rfl,?_⟩;have C:(h.map prD).length=h.length:=WL ..;refine⟨h,p,rfl,?_⟩;unfold K4 at f;unfold F2;by_cases c:p<1\/(h.length:Int)<p
  ·rw[WT c]at f ⊢;exact f
  ·rw[WS c]at f ⊢;refine⟨_,Na (by lia) (by lia),?_⟩
   have E:¬(w<1\/(X6 h p).2<=w)->_:=λo=>by
    rw[WS o]at f;exact f
   by_cases o:w<1\/(X6 h p).2<=w
   ·rw[WT o]at f;refine Xy (λg=>Kz ⟨by simp,f⟩) (λg=>⟨_,rfl,Xy (λl=>⟨by simp,f⟩) (λl=>?_)⟩);have H:¬w<1:=λz=>g (WM z);have y:¬(X6 h p).2<=w:=λz=>l (WM z);lia
   ·rw[WS o]at f;refine Xy (λg=>absurd (WR g) (by lia)) (λg=>⟨_,rfl,Xy (λl=>absurd (WR l) (by lia)) (λl=>?_)⟩);refine Xy (λs=>?_) (λs=>?_)
    ·have r:(40:Int)<=((h.map prD).length:Int):=WR s;rw[WT (by lia)]at f;exact⟨by decide,by decide,by decide,by decide,by decide,by simp,f⟩
    ·have r:¬(40:Int)<=((h.map prD).length:Int):=λz=>s (WM z);rw[WS (by lia)]at f;have u:(cutD (h.map prD) none<|some (p-1)).length<=1000:=by have:=(TB (h.map prD) none<|some (p-1)).length_le;rw[WL]at this;lia
     have v:(cutD (h.map prD) (some p) none).length<=1000:=by have:=(TB (h.map prD) (some p) none).length_le;rw[WL]at this;lia
     refine⟨P0 _,_,rfl,by simp,_,rfl,_,rfl,by simp,by simp,rfl,rfl,WZ (Qt u<|WU 2) (by decide),P0 _,rfl,rfl,WZ (Qt (by rw[WW];exact Qt u (WU 2)) v) (by decide),?_⟩;rw[←R6 (by lia)]at f;exact f
def Zqp(v:Def K mg "united" Dc ["strips","place"])
  : Oe ζ:=by
 refine v.fy Zdd (λr n=>(bc (sE<|xg YW r ExcR.XU<|a2 (xv 0)<|xv 1)<|bc (sS 2 n<|xx (xv 0)<|xo Kl Km (xv 1) xi)<|bc (sS 3 n<|xx (xv 0)<|xv 1)<|bc (sI (tn r (xx (xv 2) xi)<|xx (xv 3) xi) (b1<|sQ G.Zz G.Zy ExcR.KO<|a1 xs) b0)<|bc (sI (tc K9 KA (xo XS XQ (xx (xv 2) xi)<|xx (xv 3) xi)<|xe (ExcR.P7 G.Zq) X2) (b1<|sQ G.ZQ G.ZP ExcR.KO<|a1<|xe (ExcR.Sb<|ExcR.Tq<|ExcR.NV (ExcR.P7 G.Zq)<|ExcR.Tq ExcR.NC)<|Sd<|Tp<|NM X2<|Tp ND) b0)<|b1<|sR<|xo KC KD (xo KC KD (xp (xv 0) o0<|o1<|xo Kl Km (xv 1) xi)<|xL<|a1<|xt<|a2 (xx (xv 2) xi)<|xo XS XQ (xx (xv 2) xi)<|xx (xv 3) xi)<|xp (xv 0) (o1<|xo XS XQ (xv 1) xi) o0)) (.a ?_)
 ·rintro A R X ⟨ps,p,rfl,x,f⟩;refine⟨rfl,?_⟩;have y:(ps.map prD).length=ps.length:=WL ..;refine⟨ps,p,rfl,?_⟩;unfold Kn at f;by_cases c:p<1\/(ps.length:Int)<=p
  ·rw[WT c]at f ⊢;exact f
  ·rw[WS c]at f ⊢
   have u:atI (ps.map prD) p=some (prD<|X6 ps (p+1)):=by
    have:=Na (ps:=ps) (p:=p+1) (by lia) (by lia)
    rwa[show p+1-1=p by lia]at this
   refine⟨_,Na (by lia) (by lia),_,u,_,rfl,_,rfl,Xy (λg=>?_) (λg=>?_)⟩
   ·have l:¬(X6 ps p).1=(X6 ps (p+1)).1:=λz=>by rw[WM z]at g;cases g
    rw[WT l]at f;exact⟨by simp,f⟩
   ·have l:(X6 ps p).1=(X6 ps (p+1)).1:=Q1 λz=>g (by rw[Qu z];rfl);rw[WS (λz=>z l)]at f;refine⟨_,rfl,_,rfl,Xy (λh=>?_) (λh=>?_)⟩
    ·rw[WT (WR h)]at f;exact⟨by decide,by decide,by decide,by decide,by decide,by simp,f⟩
    ·rw[WS (λz=>h (WM z))]at f;have o:(cutD (ps.map prD) none<|some (p-1)).length<=1000:=by have:=(TB (ps.map prD) none<|some (p-1)).length_le;rw[WL]at this;lia
     have s:(cutD (ps.map prD) (some (p+1)) none).length<=1000:=by have:=(TB (ps.map prD) (some (p+1)) none).length_le;rw[WL]at this;lia
     refine⟨P0 _,_,rfl,_,rfl,_,rfl,by simp,by simp,rfl,rfl,WZ (Qt o<|WU 1) (by decide),P0 _,rfl,rfl,WZ (Qt (by rw[WW];exact Qt o (WU 1)) s) (by decide),?_⟩;rw[←IE (by lia)]at f;exact f
def Zm0(y:Def K mg "with_wish" Ew ["wishes","ahead","behind"])
  : MF ζ:=by
 refine y.fy Zqo (λl n=>(bc (sE<|xg Y2 l ExcR.XU<|a1<|xv 1)<|bc (sE<|xg Y2 l ExcR.XU<|a1<|xv 2)<|bc (sI (tq l (xv 1)<|xv 2) (b1<|sQ G.Z4 G.Z3 ExcR.KO<|a1 xs) b0)<|bc (sI (ti l (xt<|a2 (xv 1)<|xv 2)<|xv 0) (b1<|sQ G.Z6 G.Z5 ExcR.KO<|a1 xs) b0)<|bc (sI (tc Sz SA (xl G.len<|xv 0)<|xe (ExcR.P7 G.Zt) X2) (b1<|sQ G.Z1 G.Z0 ExcR.KO<|a1<|xe (ExcR.Sb<|ExcR.Tq<|ExcR.NV (ExcR.P7 G.Zt)<|ExcR.Tq ExcR.NC)<|Sd<|Tp<|NM X2<|Tp ND) b0)<|b1<|sF 2<|sF 1<|sR<|xo KC KD (xv 0)<|xL<|a1<|xt<|a2 (xv 1)<|xv 2)) (.a ?_)
 ·rintro A R X ⟨h,a,b,rfl,v,f⟩;refine⟨rfl,?_⟩;have x:(h.map prD).length=h.length:=WL ..;unfold Kk at f;refine⟨a,rfl,?_⟩;unfold Ba;by_cases p:1<=a/\a<=10
  ·rw[WS (λz=>z p)]at f;rw[WT p];refine⟨b,rfl,?_⟩;unfold Ba;by_cases o:1<=b/\b<=10
   ·rw[WS (λz=>z o)]at f;rw[WT o];refine Xy (λg=>?_) (λg=>?_)
    ·rw[WT (WR g)]at f;exact⟨by simp,f⟩
    ·rw[WS (λz=>g (WM z))]at f;refine⟨by simp,_,.lp (a,b) h,Xy (λu=>?_) (λu=>?_)⟩
     ·rw[WT (WR u)]at f;exact⟨by simp,f⟩
     ·rw[WS (λz=>u (WM z))]at f;refine Xy (λs=>?_) (λs=>?_)
      ·have r:(20:Int)<=((h.map prD).length:Int):=WR s;rw[WT (by lia)]at f;exact⟨by decide,by decide,by decide,by decide,by decide,by simp,f⟩
      ·have r:¬(20:Int)<=((h.map prD).length:Int):=λz=>s (WM z);rw[WS (by lia)]at f;refine⟨by simp,by simp,P0 _,rfl,WZ (Qt (WZ (Vi x) v)<|WU 1) (by decide),?_⟩;rw[Qd]at f;exact f
   ·rw[WT o]at f;rw[WS o];exact f
  ·rw[WT p]at f;rw[WS p];exact f
def Zom(E:Def K mg "pair_costs" Eb ["strips"])
  : Oh ζ:=by
 refine E.fz RA (λr n=>(bc (sS 1 n<|xf Yw r<|a1<|xv 0)<|bc (se (Pu.pz 2 RA.nd Zbw)<|T8 Zm6<|Ko 2)<|bc (sF 1<|sO [3,4] Qn (iL<|xv 1) (gN 3)<|b1<|sF 1<|sO [4] Qn (iL<|xv 1) (gN 4)<|b1<|sF 4<|sF 3<|se (DJ (Pp<|r ()) (pv 2) (Pz<|bz (pv 3)<|pv 4) (fz YS (r ())<|dz (pv 0) (pv 3)<|pv 4) rfl)<|DR 2 (PJ<|tz (Xt 3)<|Xt 4)<|TM<|uz (Xt 0) (Xt 3)<|Xt 4)<|b1<|sV 2)) (.a ?_)
 ·rintro H R X ⟨l,rfl,v,z,u⟩;refine⟨rfl,l,rfl,v,z,?_⟩;have C:=PK l;generalize X3 l=g at C u ⊢
  refine⟨rfl,PL (xs:=g) (emb:=D.int) (λi h=>∃f:List (List Key×V),h=[some (.bor<|.lst<|l.map prD),some (.sh<|.lst<|g.map D.int),some (.own<|.dT f),none,none]/\f.length<=i*10/\
   ∀x∈g.take i,∀y∈g,XD f [.inl x,.inl y]=some (.int<|pcM l x y l.length)) ⟨[],rfl,by simp,by simp⟩ ?_ ?_⟩
  ·rintro i B h ⟨f,rfl,s,p⟩
   refine⟨rfl,PL (xs:=g) (emb:=D.int) (λj h=>∃f:List (List Key×V),h=[some (.bor<|.lst<|l.map prD),some (.sh<|.lst<|g.map D.int),some (.own<|.dT f),some (.sh (.int g[i])),none]/\f.length<=i*10+j/\
    (∀x∈g.take i,∀y∈g,XD f [.inl x,.inl y]=some (.int<|pcM l x y l.length))/\∀y∈g.take j,XD f [.inl g[i],.inl y]=some (.int (pcM l g[i] y l.length))) ⟨f,rfl,by lia,p,by simp⟩ ?_ ?_⟩
   ·rintro j A h ⟨f,rfl,s,p,hw⟩;refine⟨l,_,_,rfl,v,by simp,_,_,rfl,rfl,by lia,_,rfl,WZ (FI _ _ _) (by lia),λx hx y o=>?_,λy o=>?_⟩
    ·rw[FN];by_cases e:([.inl x,.inl y]:List Key)=[.inl g[i],.inl g[j]]
     ·rw[WT e];simp only[JG,Sum.inl.injEq,and_true]at e;rw[e.1,e.2]
     ·rw[WS e];exact p x hx y o
    ·rw[FN];by_cases e:([.inl g[i],.inl y]:List Key)=[.inl g[i],.inl g[j]]
     ·rw[WT e];simp only[JG,Sum.inl.injEq,and_true]at e;rw[e.2]
     ·rw[WS e];rw[Qm A,Qh,WQ]at o;rcases o with o|o
      ·exact hw y o
      ·subst o;exact absurd rfl e
   ·rintro h ⟨f,rfl,s,p,hw⟩;rw[QO]at hw;refine⟨f,rfl,by lia,λx hx y o=>?_⟩;rw[Qm B,Qh,WQ]at hx;rcases hx with hx|hx
    ·exact p x hx y o
    ·subst hx;exact hw y o
  ·rintro h ⟨f,rfl,s,p⟩;rw[QO]at p;exact u f p
def Znj(y:Def K mg "cost_with_last" AF ["members","last","least","pairs"])
  : G1 ζ:=by
 refine y.fz Zng (λg n=>(bc (sS 4 n<|xf Y4 g<|a2 (xv 0)<|xv 1)<|b1<|sF 1<|sR<|xo XS XQ (xe (Bq (Pp<|g ()) (pv 2) (pv 4) (λ_ _=>rfl))<|Fc (Xt 2)<|Xt 4)<|xe (Ka (IV (K:=K) rfl) (by rfl) G.ZZ boot_sum<|az<|cz ["other","pairs","last"] [none,some 3,some 1] (BB (K:=K)<|pv 4) ⟨(gk 0),Nz,(Bq (Pp<|g ()) (pv 1) (Pz<|bz (pv 0)<|pv 2) (λ_ _=>rfl))⟩)<|Of<|sz<|Tv (SndI.c<|Fd<|Xt 4) (Ko 0) NO<|Fc (Xt 1)<|PJ<|tz (Xt 0)<|Xt 2)) (.a ?_)
 ·rintro A R X ⟨f,l,le,z,c,v,rfl,h,p,u,x⟩;refine⟨rfl,?_⟩;rw[Be];have o:(XC f l).length<=1000:=WZ less_sub.length_le h;refine⟨f,l,rfl,h,_,_,Ar _,p,rfl,_,rfl,KB (s:=.sh .non) (xs:=XC f l) (emb:=D.int) (λm=>some (.int<|c m)) (by lia) (λm r=>?_) ?_⟩
  ·exact⟨by simp,_,_,rfl,u m r,rfl,_,rfl,rfl⟩
  ·rw[TH];exact⟨(XC f l).map c,by rw[Q7];rfl,x⟩
def Zpj(y:Def K mg "cost_with_first" Gs ["members","first","least","pairs"])
  : OY ζ:=by
 refine y.fz Zbq (λg n=>(bc (sS 4 n<|xf Y4 g<|a2 (xv 0)<|xv 1)<|b1<|sF 1<|sR<|xo XS XQ (xe (Bq (Pp<|g ()) (pv 2) (pv 4) (λ_ _=>rfl))<|Fc (Xt 2)<|Xt 4)<|xe (Ka (IV (K:=K) rfl) (by rfl) G.ZZ boot_sum<|az<|cz ["other","pairs","first"] [none,some 3,some 1] (BB (K:=K)<|pv 4) ⟨(gk 0),Nz,(Bq (Pp<|g ()) (pv 1) (Pz<|bz (pv 2)<|pv 0) (λ_ _=>rfl))⟩)<|Of<|sz<|Tv (SndI.c<|Fd<|Xt 4) (Ko 0) NO<|Fc (Xt 1)<|PJ<|tz (Xt 2)<|Xt 0)) (.a ?_)
 ·rintro A R X ⟨f,l,le,z,c,v,rfl,h,p,u,x⟩;refine⟨rfl,?_⟩;rw[Be];have o:(XC f l).length<=1000:=WZ less_sub.length_le h;refine⟨f,l,rfl,h,_,_,Ar _,p,rfl,_,rfl,KB (s:=.sh .non) (xs:=XC f l) (emb:=D.int) (λm=>some (.int<|c m)) (by lia) (λm r=>?_) ?_⟩
  ·exact⟨by simp,_,_,rfl,u m r,rfl,_,rfl,rfl⟩
  ·rw[TH];exact⟨(XC f l).map c,by rw[Q7];rfl,x⟩
def Zlz(z:XJ K (XH K (X4 ζ) "drop") "drop" "Village.drop" A8 ["self","ahead","behind"])
  : LY ζ:=by
 refine z.fy Zlw (λl n=>(bc (se (Pf<|XX Yz G.Za (hq<|l ()) ExcR.XU<|pv 0)<|SM<|NT Bu (Xt 0) XF)<|bc (sS 3 n<|xg YY l ExcR.XU<|a3 (xe (XX Yv G.Za (hq<|l ()) Kh<|pv 0)<|Kt TL (Xt 0) XF) (xv 1)<|xv 2)<|b1<|sF 2<|sF 1<|sF 3<|se (Ku<|Ta Y0 G.Za (hq<|l ()) Kh (pv 0)<|dz (Pz<|dz NR (pv 1)<|pv 2) (XX Yu G.Za (hq<|l ()) Kh<|pv 0)<|pv 3)<|Tt<|NL 0 BE<|uz (PJ<|uz NB (Xt 1)<|Xt 2) (Kt Tj (Xt 0) XF)<|Xt 3)) (.c ?_)
 ·rintro o A R X ⟨x,b1,y,v,bk,fs,r,f,w,p,h,rfl,rfl,u,B,hw,s,g⟩;refine⟨rfl,?_⟩;unfold A4 at g;refine⟨rfl,rfl,bk,fs++[f],r++[w],rfl,?_⟩;unfold NY;by_cases c:100<=bk.length
  ·rw[WT c]at g ⊢;exact⟨_,rfl,⟨rfl,by simp⟩,g⟩
  ·rw[WS c]at g ⊢;refine⟨rfl,rfl,bk,fs++[f],r,w,rfl,w,p,h,rfl,s,?_⟩;cases e:K0 w p h with
   |some c=>
    rw[e]at g;exact⟨_,rfl,⟨rfl,by simp⟩,g⟩
   |none=>
    rw[e]at g;refine⟨rfl,rfl,by simp,rfl,rfl,bk,fs,r++[w],f,rfl,?_⟩;exact⟨x,b1,y,v,bk,fs++[f],r++[w],("drop",[p,h]),f,Sv w p h,rfl,rfl,u,by rw[WW];simp;lia,by rw[WW];simp;lia,_,rfl,⟨rfl,by simp⟩,g⟩
def Za7(l:Def K mg "_law_draw" D7 ["_law_script","_law_k"])
  : IB ζ:=by
 refine l.fz Zrn (λf n=>(bc (sI (tq f (xo XN XM (xf Yt f<|a2 (xv 0) xi) xi) xi) (b1<|sR<|xf Yt f<|a2 (xv 0)<|xo XS XQ xi<|xv 1) b0)<|b1<|sR<|xf Yx f<|a2 (xf Yt f<|a2 (xv 0) xi)<|xv 1)) (.a ?_)
 ·rintro p R X ⟨g,k,rfl,o,h⟩;refine⟨rfl,g,0,rfl,by decide,(by show(0:Int)<2;decide),Xy (λ_=>?_) (λ_=>?_)⟩
  ·exact⟨g,_,rfl,by lia,h _⟩
  ·exact⟨g,1,rfl,by decide,_,_,rfl,h _⟩
def Zd5(l:Def K mg "_law_spare" Gh ["_law_script"])
  : Ox ζ:=by
 refine l.fz Zko (λf n=>(bc (sI (tq f (xo XN XM (xf Yt f<|a2 (xv 0) xi) xi) xi) (b1<|sR<|xo Kq Ks (xf Yt f<|a2 (xv 0) xi) xi) b0)<|b1<|sR<|xf Yx f<|a2 (xf Yt f<|a2 (xv 0) xi) xi)) (.a ?_)
 ·rintro o R X ⟨g,rfl,h⟩;refine⟨rfl,?_⟩;exact⟨g,0,rfl,by decide,(by show(0:Int)<2;decide),Xy (λ_=>⟨g,0,rfl,by decide,⟨by decide,by decide⟩,h _⟩) (λ_=>⟨g,1,rfl,by decide,_,_,rfl,h _⟩)⟩
def Zbs(y:Def K mg "_law_row" AS ["_law_found","_law_due"])
  : O6 ζ:=by
 refine y.fz Zcc (λl n=>(bc (sI (tp<|wo (tN<|tt<|xe (Ka (T3 (K:=K)) (by rfl) G.Zb QJ<|bz (pv 0)<|PV (v:=.ty "list") rfl G.Zg boot_list rfl)<|Tx<|tz (Xt 0) Tr)<|wO<|tn l (xl G.len<|xv 0)<|xl G.len<|xv 1) (b1<|sR xb) b0)<|bc (sO [2] Qn (ir G.Zf<|a1<|xl G.len<|xv 1) (gN 2)<|b1<|sI (tp<|wo (tN<|tt<|xf Y1 l<|a1<|xx (xv 0)<|xv 2)<|wO<|tn l (xx (xv 0)<|xv 2)<|xx (xv 1)<|xv 2) (b1<|sR xb) b0)<|b1<|sR xb)) (.a ?_)
 ·rintro A R X ⟨xs,rfl|rfl,z,x⟩;refine⟨rfl,?_⟩
  ·have s:(xs.map D.int).length=xs.length:=WL ..;refine⟨_,.same _,XT (Tz rfl ?_)⟩;refine⟨⟨by lia,by lia⟩,Tf (λi f=>f=[some (.bor<|.lst<|xs.map D.int),some (.bor<|.lst<|xs.map D.int),none]) rfl ?_ ?_⟩
   ·rintro i f r rfl;have p:i<(((xs.map D.int).length:Nat):Int).toNat:=r;have ez:(0:Int)+(i:Int)=(i:Int):=by lia
    have h:i<xs.length:=by lia
    have g:atI (xs.map D.int) (0+(i:Int))=some (.int xs[i]):=by rw[ez];exact FL h
    exact⟨_,g,_,rfl,XT ⟨_,g,_,g,Tz rfl rfl⟩⟩
   ·rintro f rfl;exact x
  ·refine⟨rfl,?_⟩;have s:(xs.map D.int).length=xs.length:=WL ..;have o:((xs.length:Nat):Int)=(((xs.map D.int).length:Nat):Int):=by rw[s]
   refine⟨_,.same _,XT (Tz o ?_)⟩;refine⟨⟨by lia,by lia⟩,Tf (λi f=>f=[some (.sh<|.fL xs),some (.bor<|.lst<|xs.map D.int),none]) rfl ?_ ?_⟩
   ·rintro i f r rfl;have p:i<(((xs.map D.int).length:Nat):Int).toNat:=r;have ez:(0:Int)+(i:Int)=(i:Int):=by lia
    have h:i<xs.length:=by lia
    have g:atI (xs.map D.int) (0+(i:Int))=some (.int xs[i]):=by rw[ez];exact FL h
    have u:atI xs (0+(i:Int))=some xs[i]:=by rw[ez];exact Te (WJ h)
    exact⟨_,u,_,rfl,XT ⟨_,u,_,g,Tz rfl rfl⟩⟩
   ·rintro f rfl;exact x
def Zgk(A:Def K mg "_law_tuples" DH ["_law_found","_law_due"])
  : OO ζ:=by
 refine A.fz Zit (λl n=>(bc (sI (tp<|wo (tN<|tt<|xe (Ka (T3 (K:=K)) (by rfl) G.Zb QJ<|bz (pv 0)<|PV (v:=.ty "list") rfl G.Zg boot_list rfl)<|Tx<|tz (Xt 0) Tr)<|wO<|tn l (xl G.len<|xv 0)<|xl G.len<|xv 1) (b1<|sR xb) b0)<|bc (sO [2,3] Qn (ir G.Zf<|a1<|xl G.len<|xv 1) (gN 2)<|bc (sI (tp<|wo (tN<|tt<|xe (Ka (T3 (K:=K)) (by rfl) G.Zb QJ<|bz (jx K (pv 0)<|pv 2)<|PV (v:=.ty "tuple") rfl G.Zn boot_tuple rfl)<|Tx<|tz (XW (Xt 0)<|Xt 2) Tr)<|wO<|tn l (xl G.len<|xx (xv 0)<|xv 2)<|xl G.len<|xx (xv 1)<|xv 2) (b1<|sR xb) b0)<|b1<|sO [3] Qn (ir G.Zf<|a1<|xl G.len<|xx (xv 1)<|xv 2) (gN 3)<|b1<|sI (tp<|wo (tN<|tt<|xf Y1 l<|a1<|xx (xx (xv 0)<|xv 2)<|xv 3)<|wO<|tn l (xx (xx (xv 0)<|xv 2)<|xv 3)<|xx (xx (xv 1)<|xv 2)<|xv 3) (b1<|sR xb) b0)<|b1<|sR xb)) (.a ?_)
 ·rintro E R X ⟨g,rfl,B,y⟩;refine⟨rfl,?_⟩;have C:(g.map prD).length=g.length:=WL ..;refine⟨_,.same _,XT (Tz rfl ?_)⟩;refine⟨⟨by lia,by lia⟩,Tf (λi f=>∃t,f=[some (.bor<|.lst<|g.map prD),some (.bor<|.lst<|g.map prD),none,t]) ⟨_,rfl⟩ ?_ ?_⟩
  ·rintro i f u ⟨t,rfl⟩;have s:i<(((g.map prD).length:Nat):Int).toNat:=u;have ez:(0:Int)+(i:Int)=(i:Int):=by lia
   have x:i<g.length:=by lia
   have h:atI (g.map prD) (0+(i:Int))=some (prD g[i]):=by rw[ez];exact FL x
   generalize g[i]=q at h;refine⟨_,h,_,.same _,XT ⟨_,h,_,h,?_⟩⟩;refine⟨_,h,⟨(by show -(2 ^ 62)<=(2:Int);decide),(by show(2:Int)<2 ^ 62;decide)⟩,Tf (λj f=>∃t,f=[some (.bor<|.lst<|g.map prD),some (.bor<|.lst<|g.map prD),some (.sh<|.int (0+(i:Int))),t]) ⟨_,rfl⟩ ?_ ?_⟩
   ·rintro j f r ⟨t,rfl⟩;have p:j<2:=r
    obtain⟨z,o⟩:∃z:Int,atI [D.int q.1,D.int q.2] (0+(j:Int))=some (.int z):=by
     have:j=0\/j=1:=by lia
     rcases this with rfl|rfl
     ·exact⟨_,rfl⟩
     ·exact⟨_,rfl⟩
    exact⟨_,h,_,o,z,rfl,XT ⟨_,h,_,o,_,h,_,o,Tz rfl ⟨_,rfl⟩⟩⟩
   ·rintro f ⟨t,rfl⟩;exact⟨_,rfl⟩
  ·rintro f ⟨t,rfl⟩;exact y
def Zby(p:Def K mg "_law_deed_is" Er ["_law_found","_law_due"])
  : O4 ζ:=by
 refine p.fz Zfv (λh n=>(bc (sI (tp<|wo (tN<|tt<|xe (Ka (T3 (K:=K)) (by rfl) G.Zb QJ<|bz (pv 0)<|PV (v:=.ty "tuple") rfl G.Zn boot_tuple rfl)<|Tx<|tz (Xt 0) Tr)<|wo (tn h (xl G.len<|xv 0)<|xl G.len<|xv 1)<|wO<|tN<|tt<|xe (Ka (T3 (K:=K)) (by rfl) G.Zb QJ<|bz (jx K (pv 0) X9)<|PV (v:=.ty "str") rfl G.Yc boot_str rfl)<|Tx<|tz (XW (Xt 0) X2) Tr) (b1<|sR xb) b0)<|bc (sI (tn h (xx (xv 0) xi)<|xx (xv 1) xi) (b1<|sR xb) b0)<|bc (sO [2] Qn (iR G.Zf<|a2 xi<|xl G.len<|xv 1) (gN 2)<|b1<|sI (tp<|wo (tN<|tt<|xf Y1 h<|a1<|xx (xv 0)<|xv 2)<|wO<|tn h (xx (xv 0)<|xv 2)<|xx (xv 1)<|xv 2) (b1<|sR xb) b0)<|b1<|sR xb)) (.a ?_)
 ·rintro u R X ⟨q,rfl,r,o⟩;refine⟨rfl,?_⟩;have s:(D.str q.1::q.2.map D.int).length=q.2.length+1:=by rw[Qe,WL]
  rw[Zqb];show _;rw[Qf,A3];refine⟨_,.same _,XT (Tz rfl ⟨_,KW _ _,_,.same _,XT ⟨_,KW _ _,_,KW _ _,Tz rfl ?_⟩⟩)⟩;refine⟨⟨by lia,by lia⟩,Tf (λi f=>f=[some (.sh<|dD q),some (.sh<|dD q),none]) rfl ?_ ?_⟩
  ·rintro i f l rfl
   have g:i<q.2.length:=by
    have:i<((((D.str q.1::q.2.map D.int).length:Nat):Int)-1).toNat:=l
    lia
   exact⟨_,En g,_,rfl,XT ⟨_,En g,_,En g,Tz rfl rfl⟩⟩
  ·rintro f rfl;exact o
def Zf6(M:Def K mg "_law_is_ring" Eu ["_law_ring","_law_holders","_law_wishes"])
  : Rz ζ:=by
 refine M.fz Ze6 (λo n=>(bc (sI (tp<|wo (tN<|tt<|xe (Ka (T3 (K:=K)) (by rfl) G.Zb QJ<|bz (pv 0)<|PV (v:=.ty "list") rfl G.Zg boot_list rfl)<|Tx<|tz (Xt 0) Tr)<|wO<|tc KY Pa (xl G.len<|xv 0) xi) (b1<|sR xb) b0)<|bc (sO [3] Qn (ir G.Zf<|a1<|xl G.len<|xv 0) (gN 3)<|bc (sI (tp<|wo (tN<|tt<|xf Y1 o<|a1<|xx (xv 0)<|xv 3)<|wo (tI o (xx (xv 0)<|xv 3)<|xv 1)<|wO<|ti o (xx (xv 0)<|xv 3)<|xe (Ae (Ag (K:=K)) (pv 0) DB<|Bl<|pv 3)<|Znf (Xt 0) CC<|BQ<|Xt 3) (b1<|sR xb) b0)<|b1<|sI (tp<|wa (tc K9 KA (xv 3) xi)<|wA<|tI o (xt<|a2 (xx (xv 0)<|xo Kl Km (xv 3) xi)<|xx (xv 0)<|xv 3)<|xv 2) (b1<|sR xb) b0)<|b1<|sR<|xe (Nf (FV (K:=K)<|show _<cLine from Pp (o ())) (Pz<|bz (jx K (pv 0)<|KQ KN X9)<|jx K (pv 0) X9) (pv 2)<|by with_unfolding_all rfl)<|Bk (PJ<|tz (XW (Xt 0)<|KM X2)<|XW (Xt 0) X2)<|Xt 2)) (.a ?_)
 ·rintro T R X ⟨f,B,l,rfl,N,s,J⟩;refine⟨rfl,?_⟩;have two:=s.two;refine⟨_,.same _,XT ?_⟩;show if decide (((f.length:Nat):Int)<2)=true then _ else _;rw[Qu (by lia)];refine XT ?_;refine⟨⟨by lia,by lia⟩,Tf (λi h=>h=[some (.sh<|.fL f),some (.bor<|.lst<|B.map D.int),some (.bor<|.lst<|l.map prD),none]) rfl ?_ ?_⟩
  ·rintro i h H rfl;have E:i<((f.length:Nat):Int).toNat:=H;have ez:(0:Int)+(i:Int)=(i:Int):=by lia
   have u:i<f.length:=by lia
   have x:atI f (0+(i:Int))=some f[i]:=by rw[ez];exact Te (WJ u)
   refine⟨_,x,_,rfl,XT ⟨_,x,_,.li _ _,?_⟩⟩;show if (!decide (f[i]∈B))=true then _ else _;rw[WM (s.sub _<|Qi u)];refine XT ⟨_,x,?_⟩
   have L:cutD f none (some (0+(i:Int)))=f.take i:=by
    rw[Bt f (by lia),ez,Q5]
   show ∃b,InR (.int f[i]) (.lst ((cutD f none<|some (0+(i:Int))).map D.int)) b/\_;rw[L];refine⟨_,.li _ _,?_⟩;show if decide (f[i]∈f.take i)=true then _ else _
   have y:f[i]∉f.take i:=λz=>by
    obtain⟨j,C,e⟩:=Q4.mp z;rw[Qp]at C;rw[Vn]at e
    have:=(JZ (h₀:=by lia) (h₁:=u) s.nodup).mp e
    lia
   rw[Qu y];refine XT (Xy (λg=>?_) (λg=>XT rfl));have Q:0<(0:Int)+(i:Int):=WR g
   have A:atI f (0+(i:Int)-1)=some f[i-1]:=by
    rw[show(0:Int)+(i:Int)-1=((i-1:Nat):Int) by lia];exact Te (WJ<|by lia)
   refine⟨_,A,_,x,by simp,_,.lp (f[i-1],f[i]) l,?_⟩;show if (!decide ((f[i-1],f[i])∈l))=true then _ else _;rw[WM (s.chain (i-1) _ _ (WJ<|by lia)<|by rw[show i-1+1=i by lia];exact WJ u)];exact XT rfl
  ·rintro h rfl;have r:0<f.length:=by lia
   have p:f.length-1<f.length:=by lia
   have a1:atI f (-1)=some f[f.length-1]:=by
    unfold atI ixN;rw[WS (by lia),WT (by lia)];show f[_]?=_;rw[show((-1:Int)+(f.length:Int)).toNat=f.length-1 by lia];exact WJ p
   have a2:atI f 0=some f[0]:=Te (j:=0) (WJ r);refine⟨_,a1,_,a2,by simp,_,.lp (f[f.length-1],f[0]) l,?_⟩;show R (.sh<|.bl<|decide ((f[f.length-1],f[0])∈l));rw[WM (s.last _ _ (WJ r)<|WJ p)];exact J
def Znu(v:Def K mg "_law_step" CP ["_law_now","_law_deed_here"])
  : Lz ζ:=by
 refine v.fz Zgo (λo n=>(bc (sI (tp<|wo (tq o (xx (xv 1) xi) xs)<|wO<|tq o (xx (xv 1) xi) xs) (bc (sF 1<|sS 2 n<|xe (fz Wh (o ())<|bz (jx K (pv 0) X9)<|pv 1)<|DN<|tz (XW (Xt 0) X2)<|Xt 1)<|b1<|sR<|xL<|a3 (xx (xv 2) xi) (xx (xv 0) xi)<|xx (xv 2) xi) b0)<|bc (sF 1<|sS 2 n<|xe (fz Wg (o ())<|bz (jx K (pv 0) X9)<|pv 1)<|DN<|tz (XW (Xt 0) X2)<|Xt 1)<|b1<|sR<|xL<|a3 (xx (xv 2) xi) (xx (xv 2) xi)<|xx (xv 0) xi)) (.b ?_)
 ·rintro u R X ⟨f,w,u,x,rfl,r,hw,l⟩;refine⟨rfl,?_⟩;have g:atI (plD f::plD w::u) 1=some (plD w):=Bg (by decide) rfl
  have land:∀x:Dd,x.land=true->R (.own [.int (codeN<|x.err f w),plD (x.nf f w),plD (x.nw f w)])->R (.own [.int (codeN<|x.err f []),plD (x.fld' f),plD w]):=λx h k=>by
   have e:=x.err_land h f w [];have s:x.wsh w=w:=by cases x<;>first|rfl|cases h
   unfold Dd.nf Dd.nw at k;rw[s,e,ite_self]at k;unfold Dd.fld';exact k
  have wish:∀x:Dd,x.land=false->R (.own [.int (codeN<|x.err f w),plD (x.nf f w),plD (x.nw f w)])->R (.own [.int (codeN<|x.err [] w),plD f,plD (x.wsh' w)]):=λx h k=>by
   have e:=x.err_wish h f [] w;have s:x.fld f=f:=by cases x<;>first|rfl|cases h
   unfold Dd.nf Dd.nw at k;rw[s,e,ite_self]at k;unfold Dd.wsh';exact k
  cases x with
  |sell p h=>exact⟨_,rfl,_,rfl,_,KW _ _,f,.sell p h,rfl,rfl,r,_,rfl,_,rfl,_,g,by simp,land _ rfl l⟩
  |part p h=>exact⟨_,rfl,_,rfl,_,KW _ _,f,.part p h,rfl,rfl,r,_,rfl,_,rfl,_,g,by simp,land _ rfl l⟩
  |unite p=>exact⟨_,rfl,_,rfl,_,KW _ _,f,.unite p,rfl,rfl,r,_,rfl,_,rfl,_,g,by simp,land _ rfl l⟩
  |wish a b=>exact⟨_,rfl,_,g,w,.wish a b,rfl,rfl,hw,_,rfl,_,KW _ _,_,rfl,by simp,wish _ rfl l⟩
  |drop a b=>exact⟨_,rfl,_,rfl,_,g,w,.drop a b,rfl,rfl,hw,_,rfl,_,KW _ _,_,rfl,by simp,wish _ rfl l⟩
def Zqt(H:Def K mg "_law_start" Es ["_law_script","_law_menu_here","_law_many"])
  : Me ζ:=by
 refine H.fz Zp9 (λl n=>(bc (sS 3 n<|xf Yt l<|a2 (xv 0) xi)<|bc (sS 4 n<|xL a0)<|bc (sO [5,6,7] Qn (ir G.Zf<|a1<|xv 2) (gN 5)<|bc (sF 3<|sS 6 n<|xv 3)<|bj (sI (tq l (xo XN XM (xf Yt l<|a2 (xv 0) xi) xi) xi) (b1<|sS 6 n<|xf Yx l<|a2 (xf Yt l<|a2 (xv 0) xi)<|xo XS XQ xi<|xv 5) b0)<|bc (sS 7 n<|xo XS XQ (xx (xv 1) xi)<|xo XN XM (xo Kq Ks (xv 6)<|xx (xv 1) xi)<|xx (xv 1) xi)<|bc (sF 7<|sA 4<|xt<|a2 (xf Yy l<|a2 (xv 1)<|xo XN XM (xv 6)<|xx (xv 1) xi)<|xv 7)<|b1<|sS 3 n<|xo Kq Ks (xo Kq Ks (xv 3)<|xx (xv 1) xi)<|xx (xv 1) xi)<|b1<|sV 4)) (.a ?_)
 ·rintro ds R X ⟨o,m,n,rfl,x,Y,U,E⟩;refine⟨rfl,?_⟩;have s:=x;obtain⟨a,b,c,d,e,rfl,T,Q,N,hd,M⟩:=x;refine⟨o,2,rfl,by decide,by simp,⟨by lia,by lia⟩,Tf (λi f=>∃(g:Yf) (r:Int),f=[some (.bor<|.scr o),some (.bor<|.lst (([a,b,c,d,e]:Yg).map D.int)),some (.sh<|.int n),some (.sh<|.int r),some (.own<|g.map prD),none,none,none]/\Field g/\g.length=i) ⟨[],_,rfl,(λq hq=>by cases hq),rfl⟩ ?_ ?_⟩
  ·rintro i f C ⟨g,r,rfl,u,p⟩;have A:(g.map prD).length=g.length:=WL ..;have B:i<n.toNat:=C;refine Nt (λf=>∃(v:Int) (t:Option S),f=[some (.bor<|.scr o),some (.bor<|.lst (([a,b,c,d,e]:Yg).map D.int)),some (.sh<|.int n),some (.sh<|.int r),some (.own<|g.map prD),t,some (.sh<|.int v),none]) ?_ ?_
   ·refine⟨o,0,rfl,by decide,(by show(0:Int)<2;decide),Xy (λ_=>?_) (λ_=>⟨_,_,rfl⟩)⟩;exact⟨o,1,rfl,by decide,_,_,rfl,_,_,rfl⟩
   ·rintro f ⟨v,t,rfl⟩;have L:=JJ (v / a) (show d≠0 by lia);have J:=Jk (v / a) (show 0<d by lia);refine⟨_,rfl,_,rfl,⟨by lia,by lia⟩,_,rfl,(by show 0<d;lia),_,rfl,(by show 0<a;lia),[a,b,c,d,e],_,rfl,s,λh z y _=>⟨by simp,by lia,?_⟩⟩;refine⟨_,rfl,⟨by lia,by lia⟩,_,rfl,⟨by lia,by lia⟩,g++[(h,e+v / a % d)],r / a / d,?_,λq hq=>?_,by rw[WW,p];rfl⟩
    ·rw[Qd];rfl
    ·rcases Qh.mp hq with hq|hq
     ·exact u q hq
     ·rw[WQ]at hq;subst hq;exact⟨z,y,by show 1<=e+v / a % d;lia,by show e+v / a % d<=1000;lia⟩
  ·rintro f ⟨g,r,rfl,u,p⟩;exact E g u p
def Zks(p:Def K mg "_law_days" DZ ["_law_script","_law_most"])
  : Hh ζ:=by
 refine p.fz Zpy (λg n=>(bc (sI (tq g (xo XN XM (xf Yt g<|a2 (xv 0) xi) xi) xi) (b1<|sR<|xe (Ae (Ag (K:=K)) (pv 0) (Bl X9)<|Bl<|NP XS X9<|pv 1)<|Zqn (Xt 0) (BQ X2)<|BQ<|XQ X2<|Xt 1) b0)<|b1<|sR<|xC ["_law_k","_law_script"] [none,some 0] (jI<|ir G.Zf<|a1<|xo XN XM (xf Yt g<|a2 (xv 0) xi)<|xo XS XQ (xv 1) xi) (gN 0) f0<|xf Yx g<|a2 (xf Yt g<|a2 (xv 1) xi)<|xo XS XQ xi<|xv 0)) (.a ?_)
 ·rintro y R X ⟨f,n,rfl,x,v,h⟩;refine⟨rfl,f,0,rfl,by decide,(by show(0:Int)<2;decide),Xy (λ_=>?_) (λ_=>?_)⟩
  ·refine h _ ?_;unfold Pu.cutD;rw[Qp]
   have l:HT.sIx f.length 0 (some 3)=min 3 f.length:=by
    rw[show(3:Int)=((3:Nat):Int) by rfl,HT.FS]
   have o:HT.sIx f.length f.length (some (3+n))=min (3+n).toNat f.length:=by
    rw[show(3+n:Int)=(((3+n).toNat:Nat):Int) by lia,HT.FS];rfl
   rw[l,o];lia
  ·refine⟨f,2,rfl,by decide,(by show 0<n+1;lia),?_⟩;have s:=JJ (f.getD (2:Int).toNat 0) (show n+1≠0 by lia);have r:=Jk (f.getD (2:Int).toNat 0) (show 0<n+1 by lia);refine⟨⟨by lia,by lia⟩,D5 (λi=>some (.int<|mixP (f.getD (1:Int).toNat 0) (200+(0+(i:Int))))) (by lia) (λi u=>⟨f,1,rfl,by decide,_,_,rfl,_,rfl,rfl⟩) ?_⟩
   have e:(List.range (f.getD (2:Int).toNat 0 % (n+1)).toNat).filterMap (λi:Nat=>some (D.int<|mixP (f.getD (1:Int).toNat 0) (200+(0+(i:Int)))))=((List.range (f.getD (2:Int).toNat 0 % (n+1)).toNat).map λi:Nat=>mixP (f.getD (1:Int).toNat 0) (200+(0+(i:Int)))).map D.int:=by
    rw[VO,Q7];rfl
   rw[e];refine h _ ?_;rw[WL,JY];lia
def Zch(y:Def K mg "_law_pair" Ez ["_law_cell","_law_menu_here"])
  : OS ζ:=by
 refine y.fz Zp5 (λh n=>(bc (sS 2 n<|xx (xL<|ac xi<|ac (xx (xv 1) xi)<|ac (xx (xv 1) xi)<|ac (xx (xv 1) xi) a0)<|xo XN XM (xv 0) xi)<|bc (sS 3 n<|xo XN XM (xo Kq Ks (xv 0) xi)<|xv 2)<|bc (sS 4 n<|xo XN XM (xo XS XQ (xo XS XQ (xv 3) xi)<|xo XN XM (xo Kq Ks (xv 0) xi)<|xe (Ka (On rfl) (by rfl) G.ZM boot_max<|bz X9<|NP Kl (pv 2) X9)<|LC<|tz X2<|Km (Xt 2) X2)<|xv 2)<|bc (sS 5 n<|xf Y5 h<|a2 (xo Kq Ks (xv 0) xi)<|xf Yy h<|a2 (xv 1)<|xv 3)<|b1<|sF 5<|sR<|xt<|a2 (xv 5)<|xf Y5 h<|a2 (xo Kq Ks (xv 0) xi)<|xf Yy h<|a2 (xv 1)<|xv 4)) (.a ?_)
 ·rintro L R X ⟨c,m,rfl,r,v⟩;refine⟨rfl,?_⟩;have g:=r;obtain⟨a,b,e,d,f,rfl,o,C,B,hd,A⟩:=r;have E:0<=c % 4/\c % 4<4:=by lia
  obtain⟨pool,x,z⟩:∃p:Int,atI [D.int 10,.int a,.int a,.int a] (c % 4)=some (.int p)/\1<=p/\p<=10:=by
   have:c % 4=0\/c % 4=1\/c % 4=2\/c % 4=3:=by lia
   rcases this with e|e|e|e<;>rw[e]
   ·exact⟨10,rfl,by decide,by decide⟩
   ·exact⟨a,rfl,o⟩
   ·exact⟨a,rfl,o⟩
   ·exact⟨a,rfl,o⟩
  have l:0<(if pool-1>1 then pool-1 else 1):=by split<;>lia
  refine⟨_,rfl,_,rfl,_,rfl,by simp,(by show(0:Int)<4;decide),_,x,?_⟩;refine⟨⟨by decide,by decide⟩,(by show 0<pool;lia),⟨by decide,by decide⟩,l,(by show 0<pool;lia),?_⟩;refine⟨⟨by decide,by decide⟩,_,_,rfl,g,λJ _ _ _=>⟨_,_,rfl,λu=>?_⟩⟩;exact⟨⟨by decide,by decide⟩,_,_,rfl,g,λH _ _ _=>⟨_,_,rfl,λs=>⟨by simp,v u s⟩⟩⟩
def Zo0(z:Def K mg "gathered" AQ ["strips","order"])
  : HL ζ:=by
 refine z.fy Zeb (λr n=>(bc (sE<|xg YC r ExcR.XU<|a2 (xv 0)<|xv 1)<|bc (sS 2 n<|xL a0)<|bc (sF 1<|sO [3] ExcR.Gq (iL<|xv 1) (gN 3)<|b1<|se (Pf<|BC Q0 PySem.F.slot_list_extend PySem.F.type_list_extend Zmx (pv 2)<|az<|cz ["strip","holder"] [none,some 3] (Nr (K:=K)<|pv 0) ⟨(gk 0),(FQ<|cq K (r ()) (jx K (pv 0) X9)<|pv 1),(pv 0)⟩)<|Zgu 2<|Tv (SB<|Xt 0) (Ko 0) (PP<|S8 (XW (Xt 0) X2)<|Xt 1)<|Xt 0)<|b1<|sV 2)) (.a ?_)
 ·rintro E R X ⟨f,os,rfl,x,p,u,l⟩;refine⟨rfl,f,os,rfl,x,p,u,?_⟩;cases e:Sx f os with
  |some c=>rw[e]at l;exact l
  |none=>
   rw[e]at l;have o:R (.own ((Nb f os).map prD)):=l;refine⟨by simp,rfl,PL (xs:=os) (emb:=D.int) (λi h=>h=[some (.bor<|plD f),some (.bor<|.lst<|os.map D.int),some (.own ((Nb f<|os.take i).map prD)),none]) rfl ?_ ?_⟩
   ·rintro i v h rfl;have B:=Znr f (os.take i);have s:(os.take i).length<=64:=by rw[Qp];lia
    have A:=Nat.mul_le_mul s p;have C:=QE (λq:Int×Int=>decide (q.1=os[i])) f;refine KB (xs:=f) (emb:=prD) (λq=>if decide (q.1=os[i])=true then some (prD q)else none) (by lia) (λq hq=>⟨_,rfl,Xy (λg=>⟨_,rfl,WT g⟩) (λg=>WS g)⟩) ?_;rw[PU (λq:Int×Int=>decide (q.1=os[i]))];refine⟨by rw[WL,WL];lia,?_⟩
    have y:Nb f (os.take (i+1))=Nb f (os.take i)++f.filter λq=>decide (q.1=os[i]):=by
     unfold Nb;rw[Qm v,List.flatMap_append];simp
    rw[y,Qd];rfl
   ·rintro h rfl;rw[QO];exact o
def Zg2(DD:Def K mg "told_moves" AU ["strips","order"])
  : Hf ζ:=by
 refine DD.fz Zmv (λA n=>(bc (sE<|xe (FJ YC (hq<|A ()) NU<|bz (pv 0)<|pv 1)<|TM<|tz (Xt 0)<|Xt 1)<|bc (sC 2 ["holder","width","order"] [none,none,some 1] n (jL<|xv 0) (gT 2<|gc (gN 0)<|gc (gN 1) g0) f0<|xe (Em (K:=K) Q0 Jp PySem.F.type_list_index (Ly (K:=K)) (pv 2)<|az<|pv 0)<|LO (Xt 2)<|sz<|Xt 0)<|bc (sS 3 n<|xf YT A<|a1<|xv 0)<|bc (sS 4 n<|xL a0)<|bc (sS 5 n<|xf Y7 A<|a2 (xv 3)<|xv 2)<|bc (sW [] Qn (tc K9 KA (xv 5) xi)<|bc (sF 5<|sA 4<|xt<|ac (xv 5)<|ac (xx (xv 3)<|xo Kl Km (xv 5) xi)<|ac (xx (xv 3)<|xv 5)<|ac (xf YU A<|a3 (xv 0) (xv 3)<|xv 5) a0)<|bc (sS 3 n<|xf YV A<|a2 (xv 3)<|xv 5)<|b1<|sS 5 n<|xf Y7 A<|a2 (xv 3)<|xv 2)<|b1<|sV 4)) (.a ?_)
 ·rintro ds R X ⟨l,o,rfl,hF,hz,Q,hR⟩;refine⟨rfl,?_⟩;have hh:=PK l;have hol:=Q.length_eq;have U:=HG hF Q;refine⟨l,o,rfl,hF,by lia,by lia,?_⟩;rw[Ib Q];refine KB (xs:=l) (emb:=prD) (λq=>some (.int (o.idxOf q.1:Nat))) (by lia) (λq hq=>?_) ?_
  ·exact⟨rfl,⟨_,rfl⟩,o,rfl,U q hq,_,rfl,rfl⟩
  rw[TH (λq:Int×Int=>D.int (o.idxOf q.1:Nat))];have er:l.map (λq:Int×Int=>D.int (o.idxOf q.1:Nat))=(l.map λq:Int×Int=>((o.idxOf q.1:Nat):Int)).map D.int:=by rw[Q7];rfl
  rw[er];generalize L:(l.map λq:Int×Int=>((o.idxOf q.1:Nat):Int))=v;have lrs:v.length=l.length:=by rw[←L,WL]
  have rk:∀m:Int,1<=m/\m<=l.length->v.getD (m-1).toNat 0=rkN l o m:=λm y=>by
   have Y:(m-1).toNat<l.length:=by lia
   rw[←L];unfold rkN hdN;rw[WV,WV,WX,WJ Y];rfl
  have keys:∀r:Yg,r.Perm (Kw 1 l.length)->r.map (λm=>v.getD (m-1).toNat 0)=r.map (rkN l o):=λr u=>Vr λm y=>rk m (runI_mem.mp<|u.mem_iff.mp y)
  have inr:∀r:Yg,r.Perm (Kw 1 l.length)->∀m∈r,1<=m/\m<=v.length:=λr u m y=>by
   have:=runI_mem.mp (u.mem_iff.mp y)
   lia
  refine⟨l,rfl,by lia,by simp,?_⟩;refine⟨_,v,rfl,inr _ (.refl _),by rw[B4];lia,λp0 H=>?_⟩;rw[keys _ (.refl _)]at H
  have e0:∀r:Yg,r.Perm (Kw 1 l.length)->Pv (λm=>v.getD (m-1).toNat 0) r=Pv (rkN l o) r:=λr u=>by
   unfold Pv;congr 1;exact Vr λm y=>by show(v.getD (m-1).toNat 0,(1:Int))=_;rw[rk m (runI_mem.mp<|u.mem_iff.mp y)]
  have b0:=SR (rkN l o) (Kw 1 l.length)
  have nn:((l.length:Int))*l.length<=1600:=by
   have:=JP (a:=(l.length:Int)) (b:=l.length) (c:=40) (d:=40) (by lia) (by lia) (by lia) (by lia)
   lia
  rw[B4]at b0;refine FT (λC=>∃(r:Yg) (s:List Mo) (p:Nat),FW (r.map<|rkN l o) p/\r.Perm (Kw 1 l.length)/\(∀E,Mv l (rkN l o) r E->Mv l (rkN l o) (Kw 1 l.length) (s++E))/\(s.length:Int)+Pv (rkN l o) r=Pv (rkN l o) (Kw 1 l.length)/\C=[some (.bor<|plD l),some (.bor<|.lst<|o.map D.int),some (.own<|v.map D.int),some (.own<|r.map D.int),some (.own<|s.map mvD),some (.sh<|.int p)]) mvN ⟨Kw 1 l.length,[],p0,H,.refl _,λE h=>h,by simp,rfl⟩ ?_;rintro C ⟨r,s,p,hw,u,hM,hc,rfl⟩;have hl:r.length=l.length:=by rw[u.length_eq,B4]
  have b1:=SR (rkN l o) r;refine Xy (λg=>?_) (λg=>?_)
  ·have g':0<((p:Nat):Int):=WR g;obtain⟨h1,B,h3⟩:=hw.2.resolve_left (by lia);rw[WL]at B;rw[BV B,BV (by lia)]at h3;have hs:=R0 (rkN l o) h1 B h3;have x:(Pj r p).Perm (Kw 1 l.length):=(D1 h1 B).trans u;have b2:=SR (rkN l o) (Pj r p)
   have ix:∀(i:Nat) (k:Int),i<r.length->k=(i:Int)->atI (r.map D.int) k=some (.int<|r.getD i 0):=λi k Y e=>by
    rw[e];exact T5 (f:=D.int) (Te<|by rw[WV,WJ Y];rfl)
   have lm:(s.map mvD).length=s.length:=WL ..;have M:∀m∈r,1<=m/\m<=l.length:=λm y=>runI_mem.mp (u.mem_iff.mp y);refine⟨_,ix (p-1) _ (by lia) (by lia),_,ix p _ B rfl,?_⟩;refine⟨l,r,p,rfl,hF,M,by lia,by lia,by simp,by lia,?_⟩;refine⟨r,p,rfl,by lia,by lia,by lia,?_⟩;rw[Q5];refine⟨Pj r p,v,rfl,inr _ x,by rw[Zhx h1 B];lia,λp' J=>?_⟩;rw[keys _ x]at J;refine⟨⟨Pj r p,s++[((p:Int),r.getD (p-1) 0,r.getD p 0,exM l r p)],p',J,x,λE T=>?_,?_,?_⟩,?_⟩
   ·rw[Ju];exact hM _ (.step r p E hw (by lia) T)
   ·rw[WW,Vc];lia
   ·rw[Qd];rfl
   ·show(Pv _ (((Pj r p).map D.int).map toI)).toNat<(Pv _ ((r.map D.int).map toI)).toNat;rw[DU,DU,DU,e0 _ x,e0 _ u];lia
  ·have g':¬0<((p:Nat):Int):=λz=>g (WM z);have N:p=0:=by lia
   subst N
   have:=hM [] (.done r hw)
   rw[Q8]at this;exact hR s this
def Zpo(DD:Def K mg "find_ring" EA ["holders","wishes"])
  : Lx ζ:=by
 refine DD.fz Zpf (λT n=>(bc (sS 2 n<|xL a0)<|bc (sF 2<|sO [3,4] Qn (iL<|xe (Ka (A5 (K:=K) (w:=w) rfl) (by rfl) G.Zj boot_sorted<|az<|pv 0)<|F4<|sz<|Xt 0) (gN 3)<|bc (sS 4 n<|xf Wl T<|a3 (xv 3) (xv 0)<|xv 1)<|b1<|sI (tp<|wa (tt<|xv 4)<|wA<|tp<|wo (tN<|tt<|xv 2)<|wO<|tc KY Pa (xl G.len<|xv 4)<|xl G.len<|xv 2) (b1<|sF 4<|sS 2 n<|xv 4) b0)<|b1<|sF 2<|sV 2)) (.a ?_)
 ·rintro ds R X ⟨B,E,rfl,x,Q,hR⟩;refine⟨rfl,by simp,B,rfl,by lia,λu L v=>?_⟩;have H:u.Pairwise (· < ·):=A7 v (L.nodup_iff.mpr x);refine⟨rfl,PL (xs:=u) (emb:=D.int) (λi s=>∃r,s=[some (.bor<|.lst<|B.map D.int),some (.bor<|.lst<|E.map prD),some (.sh<|.lst<|r.map D.int),none,none]/\r.length<=60/\FRi B E (u.take i) r) ⟨[],rfl,by simp,.inl ⟨rfl,λl M=>by rw[Jl]at M;cases M⟩⟩ ?_ ?_⟩
  ·rintro i N s ⟨r,rfl,o,F⟩
   have h:∀m∈u.take i,m<u[i]:=λm U=>by
    obtain⟨j,Y,e⟩:=Q4.mp U;rw[Qp]at Y;rw[Vn]at e;rw[←e];exact QR.mp H j i (by lia) N (by lia)
   rw[Qm N];generalize u[i]=l at h ⊢;refine⟨l,B,E,rfl,x,Q,λf C y=>?_⟩;have ef:(!(f.map D.int).isEmpty)=decide (f≠[]):=by cases f<;>simp
   have er:(!(r.map D.int).isEmpty)=decide (r≠[]):=by cases r<;>simp
   show if (!(f.map D.int).isEmpty)=true then _ else _;rw[ef];refine Xy (λg=>?_) (λg=>XT ⟨r,rfl,o,F.keep h C (.inl (Q1 λz=>g (WM z)))⟩);have A:f≠[]:=WR g;show if (!(!(r.map D.int).isEmpty))=true then _ else _;rw[er];by_cases p:r=[]
   ·rw[Qu (λz=>z p)];exact Kz (Kz ⟨f,rfl,y,F.take h C ⟨A,.inl p⟩⟩)
   ·rw[WM p];refine XT ?_;show if decide (((f.map D.int).length:Int)<((r.map D.int).length:Int))=true then _ else _;rw[WL,WL];refine Xy (λJ=>?_) (λJ=>?_)
    ·have:=WR J
     exact⟨f,rfl,y,F.take h C ⟨A,.inr (by lia)⟩⟩
    ·have:¬(f.length:Int)<(r.length:Int):=λz=>J (WM z)
     exact⟨r,rfl,o,F.keep h C (.inr ⟨p,by lia⟩)⟩
  ·rintro s ⟨r,rfl,o,F⟩;rw[QO]at F;exact hR r (F.all λz=>L.mem_iff) o
def Zkx(DD:Def K mg "least_costs" E1 ["strips","wishes","pairs"])
  : Hd ζ:=by
 refine DD.fz GV (λN n=>(bc (se (Pu.pz 3 GV.nd<|Zii (Pp<|N ()) (Pz KF) X9)<|T8 (Znv (PJ XF) X2)<|Ko 3)<|bc (sO [4,5] Qn (iL<|xp (xf YZ N<|a1<|xf Yw N<|a1<|xv 0) (o1 xi) o0) (gN 4)<|bc (sC 5 ["holder","members","wishes"] [none,some 4,some 1] n (je (BB (K:=K)<|pv 4)<|SndI.c<|Fd<|Xt 4) (gN 0) (f1<|tt<|xf Wa N<|a3 (xv 1) (xv 0)<|xv 2)<|xv 0)<|b1<|se (DJ (Pp<|N ()) (pv 3) (pv 4) (Ka (Zcw (K:=K) rfl) (by rfl) G.ZY boot_min<|az<|cz ["last","members","least","pairs"] [none,some 4,some 3,some 2] (Nr (K:=K)<|pv 5) ⟨(gk 0),Nz,(fz Wq (N ())<|Kb (pv 1)<|Kb (pv 0)<|Kb (pv 2)<|Kb (pv 3) KF)⟩) rfl)<|DR 3 (Xt 4)<|Zj3<|sz<|Tv (SB<|Xt 5) (Ko 0) NO<|TM<|K6 (Xt 1)<|K6 (Xt 0)<|K6 (Xt 2)<|K6 (Xt 3) XF)<|b1<|sV 3)) (.a ?_)
 ·rintro ds R X ⟨C,v,pa,c,rfl,hF,hz,hw,hu,hc,hL,hR⟩;refine⟨rfl,by simp,_,_,rfl,rfl,?_⟩;refine⟨C,rfl,hF,hz,_,rfl,PK C,?_⟩;have hh:=PK C;have nd:(X3 C).Nodup:=(TR C).imp (λh=>Jh h);generalize X3 C=hs at hh nd hc hL hR ⊢;have hsl:=E4 hs;have x:=SO hs;have A:=HJ nd;have E:=IP nd
  have y:(XO hs).length<=1024:=by
   rw[hsl];exact JI (j:=10) (by decide) hh
  obtain⟨T,eT⟩:=Zkp hs;rw[eT]at x A E y hR ⊢;refine⟨rfl,rfl,?_⟩
  have ec:Pu.cutD (List.map tD ([]::T)) (some 1) none=T.map tD:=by
   rw[TZ,SG _ (by decide)];rfl
  rw[ec];refine PL (xs:=T) (emb:=tD) (λi B=>∃f:List (List Key×V),B=[some (.bor<|.lst<|C.map prD),some (.bor<|.lst<|v.map prD),some (.bor<|.dT pa),some (.own<|.dT f),none,none]/\Tab v c ([]::T.take i) f) ⟨_,rfl,Zo1 v c⟩ ?_ ?_
  ·rintro i hi B ⟨f,rfl,L⟩;have em:([]::T)[i+1]?=some T[i]:=by rw[Q6,WJ hi]
   have hmem:T[i]∈[]::T:=Qj em;have p:=x _ hmem;have Y:T[i]≠[]:=λe=>(QC.mp E).1 (e▸Qi hi)
   have U:T[i]∉[]::T.take i:=λz=>by
    rcases Qa.mp z with z|z
    ·exact Y z
    ·obtain⟨j,hj,e⟩:=Q4.mp z;rw[Qp]at hj;rw[Vn]at e;exact QR.mp (QC.mp E).2 j i (by lia) hi (by lia) e
   have hml:T[i].length<=10:=WZ p.length_le hh
   have H:∀l∈T[i],XC T[i] l∈[]::T.take i:=λl r=>by
    obtain⟨j,hj,e⟩:=A (i+1) _ em l r
    have:([]::T.take i)=([]::T).take (i+1):=by rw[List.take_succ_cons]
    rw[this];refine Qj (i:=j) ?_;rw[Vj hj];exact e
   have ndm:T[i].Nodup:=nd.sublist p
   have hkl:f.length<=1024:=by
    have:=QA List.length L.keys
    rw[WL,WL,Qe,Qp]at this;rw[Qe]at y;lia
   have etk:[]::T.take (i+1)=([]::T.take i)++[T[i]]:=by rw[Qm hi];rfl
   rw[etk];generalize T[i]=o at *;obtain⟨vs,Q⟩:=R3 λl r=>L.val _ (H l r);obtain⟨l0,hl0,hl0'⟩:=hL o p Y;refine⟨_,rfl,KB (s:=.sh .non) (xs:=o) (emb:=D.int) (λh=>if Nl v o h=true then some (.int h)else none) (by lia) (λh hm=>?_) ?_⟩
   ·refine⟨o,h,v,rfl,hw,?_⟩;refine Xy (λg=>⟨_,rfl,WT g⟩) (λg=>WS g)
   ·rw[PU (λh=>Nl v o h)];refine KB (xs:=o.filter (λh=>Nl v o h)) (emb:=D.int) (λl=>some (.int (vs l+((XC o l).map (c · l)).sum))) (WZ (QE _ _)<|by lia) (λl r=>?_) ?_
    ·obtain⟨u,hl2⟩:=Qz.mp r;exact⟨o,l,f,pa,(c · l),vs l,rfl,by lia,(Q l u).1,λm hm=>hc m (p.subset<|less_sub.subset hm) l (p.subset u),_,rfl,rfl⟩
    ·rw[TH];refine⟨(o.filter (λh=>Nl v o h)).map λl=>vs l+((XC o l).map (c · l)).sum,by rw[Q7];rfl,?_,λM hM hle=>⟨_,_,Ar o,rfl,by lia,_,rfl,L.put U (Zci ndm hu (λl r=>(Q l r).2) ?_ ?_)⟩⟩
     ·rw[WL];exact List.length_pos_of_mem (Qz.mpr ⟨hl0,lastM_iff.mpr hl0'⟩)
     ·obtain⟨l,r,e⟩:=Qq.mp hM;obtain⟨u,hl2⟩:=Qz.mp r;exact⟨l,u,hl2,e.symm⟩
     ·intro l r J;exact hle _ (Qq.mpr ⟨l,Qz.mpr ⟨r,J⟩,rfl⟩)
  ·rintro B ⟨f,rfl,L⟩;rw[QO]at L;exact hR f L
def Zrh(s:XJ K (Mk K<|X4 ζ) "__init__" "Village.__init__" Dy ["self","strips"])
  : OX ζ:=by
 refine s.fy Zl8 (λl n=>(bc (sE<|xg Wk l ExcR.XU<|a1<|xv 1)<|bc (se (E7 (pv 0) (KS KF) rfl)<|D6 0 G.Za G.Zc Zsa<|PB XF)<|bc (se (E7 (pv 0) (KS<|az<|PN (NA (K:=K)) (by rfl) G.Zg boot_list<|az<|pv 1) rfl)<|D6 0 G.Za G.Zd Zoy<|PB<|sz<|NI<|sz<|Xt 1)<|b1<|se (E7 (pv 0) (KS<|az<|KS KF) rfl)<|D6 0 G.Za G.Ze Zk1<|PB<|sz<|PB XF)) (.c ?_)
 ·rintro o u R X ⟨x,g,rfl,rfl,h,f⟩;refine⟨rfl,g,rfl,h,?_⟩;cases e:SE g with
  |some c=>
   rw[e]at f;exact⟨_,rfl,⟨rfl,by simp⟩,f⟩
  |none=>
   rw[e]at f;refine⟨by simp,rfl,rfl,by decide,λb1=>?_⟩;refine⟨rfl,by simp,rfl,rfl,by decide,λr=>?_⟩;refine⟨by simp,by simp,rfl,rfl,by decide,λp=>?_⟩;exact⟨_,rfl,⟨rfl,by simp⟩,f b1 r p⟩
def Zic(z:XJ K (XH K (X4 ζ) "sell") "sell" "Village.sell" Gm ["self","place","holder"])
  : Li ζ:=by
 refine z.fy Zi9 (λl n=>(bc (se (Pf<|XX Yz G.Za (hq<|l ()) ExcR.XU<|pv 0)<|SM<|NT Bu (Xt 0) XF)<|bc (sS 3 n<|xg Wm l ExcR.XU<|a3 (xe (XX Yu G.Za (hq<|l ()) Kh<|pv 0)<|Kt Tj (Xt 0) XF) (xv 1)<|xv 2)<|b1<|sF 2<|sF 1<|sF 3<|se (Ku<|Ta Y0 G.Za (hq<|l ()) Kh (pv 0)<|dz (Pz<|dz NR (pv 1)<|pv 2) (pv 3)<|XX Yv G.Za (hq<|l ()) Kh<|pv 0)<|Tt<|NL 0 BE<|uz (PJ<|uz NB (Xt 1)<|Xt 2) (Xt 3)<|Kt TL (Xt 0) XF)) (.c ?_)
 ·rintro o A R X ⟨x,b1,y,v,bk,fs,r,f,w,p,h,rfl,rfl,u,B,hw,s,g⟩;refine⟨rfl,?_⟩;unfold Ah at g;refine⟨rfl,rfl,bk,fs++[f],r++[w],rfl,?_⟩;unfold NY;by_cases c:100<=bk.length
  ·rw[WT c]at g ⊢;exact⟨_,rfl,⟨rfl,by simp⟩,g⟩
  ·rw[WS c]at g ⊢;refine⟨rfl,rfl,bk,fs,r++[w],f,rfl,f,p,h,rfl,s,?_⟩;cases e:Pb f p h with
   |some c=>
    rw[e]at g;exact⟨_,rfl,⟨rfl,by simp⟩,g⟩
   |none=>
    rw[e]at g;refine⟨rfl,rfl,by simp,rfl,rfl,bk,fs++[f],r,w,rfl,?_⟩;exact⟨x,b1,y,v,bk,fs++[f],r++[w],("sell",[p,h]),TY f p h,w,rfl,rfl,u,by rw[WW];simp;lia,by rw[WW];simp;lia,_,rfl,⟨rfl,by simp⟩,g⟩
def Zly(z:XJ K (XH K (X4 ζ) "part") "part" "Village.part" AL ["self","place","width"])
  : IL ζ:=by
 refine z.fy Zln (λl n=>(bc (se (Pf<|XX Yz G.Za (hq<|l ()) ExcR.XU<|pv 0)<|SM<|NT Bu (Xt 0) XF)<|bc (sS 3 n<|xg Wn l ExcR.XU<|a3 (xe (XX Yu G.Za (hq<|l ()) Kh<|pv 0)<|Kt Tj (Xt 0) XF) (xv 1)<|xv 2)<|b1<|sF 2<|sF 1<|sF 3<|se (Ku<|Ta Y0 G.Za (hq<|l ()) Kh (pv 0)<|dz (Pz<|dz NR (pv 1)<|pv 2) (pv 3)<|XX Yv G.Za (hq<|l ()) Kh<|pv 0)<|Tt<|NL 0 BE<|uz (PJ<|uz NB (Xt 1)<|Xt 2) (Xt 3)<|Kt TL (Xt 0) XF)) (.c ?_)
 ·rintro o A R X ⟨x,b1,y,v,bk,fs,r,f,w,p,h,rfl,rfl,u,B,hw,s,g⟩;refine⟨rfl,?_⟩;unfold FC at g;refine⟨rfl,rfl,bk,fs++[f],r++[w],rfl,?_⟩;unfold NY;by_cases c:100<=bk.length
  ·rw[WT c]at g ⊢;exact⟨_,rfl,⟨rfl,by simp⟩,g⟩
  ·rw[WS c]at g ⊢;refine⟨rfl,rfl,bk,fs,r++[w],f,rfl,f,p,h,rfl,s,?_⟩;cases e:K4 f p h with
   |some c=>
    rw[e]at g;exact⟨_,rfl,⟨rfl,by simp⟩,g⟩
   |none=>
    rw[e]at g;refine⟨rfl,rfl,by simp,rfl,rfl,bk,fs++[f],r,w,rfl,?_⟩;exact⟨x,b1,y,v,bk,fs++[f],r++[w],("part",[p,h]),Tn f p h,w,rfl,rfl,u,by rw[WW];simp;lia,by rw[WW];simp;lia,_,rfl,⟨rfl,by simp⟩,g⟩
def Zcm(y:XJ K (XH K (X4 ζ) "unite") "unite" "Village.unite" Dq ["self","place"])
  : RZ ζ:=by
 refine y.fy Zfb (λh n=>(bc (se (Pf<|XX Yz G.Za (hq<|h ()) ExcR.XU<|pv 0)<|SM<|NT Bu (Xt 0) XF)<|bc (sS 2 n<|xg Wo h ExcR.XU<|a2 (xe (XX Yu G.Za (hq<|h ()) Kh<|pv 0)<|Kt Tj (Xt 0) XF)<|xv 1)<|b1<|sF 1<|sF 2<|se (Ku<|Ta Y0 G.Za (hq<|h ()) Kh (pv 0)<|dz (Pz<|bz NR<|pv 1) (pv 2)<|XX Yv G.Za (hq<|h ()) Kh<|pv 0)<|Tt<|NL 0 BE<|uz (PJ<|tz NB<|Xt 1) (Xt 2)<|Kt TL (Xt 0) XF)) (.c ?_)
 ·rintro o z R X ⟨x,b1,v,u,bk,fs,l,f,w,p,rfl,rfl,s,A,hw,r,g⟩;refine⟨rfl,?_⟩;unfold F7 at g;refine⟨rfl,rfl,bk,fs++[f],l++[w],rfl,?_⟩;unfold NY;by_cases c:100<=bk.length
  ·rw[WT c]at g ⊢;exact⟨_,rfl,⟨rfl,by simp⟩,g⟩
  ·rw[WS c]at g ⊢;refine⟨rfl,rfl,bk,fs,l++[w],f,rfl,f,p,rfl,r,?_⟩;cases e:Kn f p with
   |some c=>
    rw[e]at g;exact⟨_,rfl,⟨rfl,by simp⟩,g⟩
   |none=>
    rw[e]at g;refine⟨rfl,rfl,by simp,rfl,rfl,bk,fs++[f],l,w,rfl,?_⟩;exact⟨x,b1,v,u,bk,fs++[f],l++[w],("unite",[p]),Tc f p,w,rfl,rfl,s,by rw[WW];simp;lia,by rw[WW];simp;lia,_,rfl,⟨rfl,by simp⟩,g⟩
def Zqf(z:XJ K (XH K (X4 ζ) "wish") "wish" "Village.wish" De ["self","ahead","behind"])
  : O2 ζ:=by
 refine z.fy Zb7 (λl n=>(bc (se (Pf<|XX Yz G.Za (hq<|l ()) ExcR.XU<|pv 0)<|SM<|NT Bu (Xt 0) XF)<|bc (sS 3 n<|xg Wp l ExcR.XU<|a3 (xe (XX Yv G.Za (hq<|l ()) Kh<|pv 0)<|Kt TL (Xt 0) XF) (xv 1)<|xv 2)<|b1<|sF 2<|sF 1<|sF 3<|se (Ku<|Ta Y0 G.Za (hq<|l ()) Kh (pv 0)<|dz (Pz<|dz NR (pv 1)<|pv 2) (XX Yu G.Za (hq<|l ()) Kh<|pv 0)<|pv 3)<|Tt<|NL 0 BE<|uz (PJ<|uz NB (Xt 1)<|Xt 2) (Kt Tj (Xt 0) XF)<|Xt 3)) (.c ?_)
 ·rintro o A R X ⟨x,b1,y,v,bk,fs,r,f,w,p,h,rfl,rfl,u,B,hw,s,g⟩;refine⟨rfl,?_⟩;unfold BU at g;refine⟨rfl,rfl,bk,fs++[f],r++[w],rfl,?_⟩;unfold NY;by_cases c:100<=bk.length
  ·rw[WT c]at g ⊢;exact⟨_,rfl,⟨rfl,by simp⟩,g⟩
  ·rw[WS c]at g ⊢;refine⟨rfl,rfl,bk,fs++[f],r,w,rfl,w,p,h,rfl,s,?_⟩;cases e:Kk w p h with
   |some c=>
    rw[e]at g;exact⟨_,rfl,⟨rfl,by simp⟩,g⟩
   |none=>
    rw[e]at g;refine⟨rfl,rfl,by simp,rfl,rfl,bk,fs,r++[w],f,rfl,?_⟩;exact⟨x,b1,y,v,bk,fs++[f],r++[w],("wish",[p,h]),f,w++[(p,h)],rfl,rfl,u,by rw[WW];simp;lia,by rw[WW];simp;lia,_,rfl,⟨rfl,by simp⟩,g⟩
def Zrb(s:Def K mg "_law_book_is" DE ["_law_found","_law_due"])
  : IZ ζ:=by
 refine s.fz Zhh (λg n=>(bc (sI (tp<|wo (tN<|tt<|xe (Ka (T3 (K:=K)) (by rfl) G.Zb QJ<|bz (pv 0)<|PV (v:=.ty "list") rfl G.Zg boot_list rfl)<|Tx<|tz (Xt 0) Tr)<|wO<|tn g (xl G.len<|xv 0)<|xl G.len<|xv 1) (b1<|sR xb) b0)<|bc (sO [2] Qn (ir G.Zf<|a1<|xl G.len<|xv 1) (gN 2)<|b1<|sI (tN<|tt<|xf YF g<|a2 (xx (xv 0)<|xv 2)<|xx (xv 1)<|xv 2) (b1<|sR xb) b0)<|b1<|sR xb)) (.a ?_)
 ·rintro y R X ⟨bk,rfl,hq,u,r⟩;refine⟨rfl,?_⟩;have x:(bk.map dD).length=bk.length:=WL ..;refine⟨_,.same _,XT (Tz rfl ?_)⟩;refine⟨⟨by lia,by lia⟩,Tf (λi f=>f=[some (.bor<|.lst<|bk.map dD),some (.bor<|.lst<|bk.map dD),none]) rfl ?_ ?_⟩
  ·rintro i f p rfl;have o:i<(((bk.map dD).length:Nat):Int).toNat:=p;have ez:(0:Int)+(i:Int)=(i:Int):=by lia
   have h:i<bk.length:=by lia
   have l:atI (bk.map dD) (0+(i:Int))=some (dD bk[i]):=by rw[ez];exact FL h
   refine⟨_,l,_,l,bk[i],?_,hq _ (Qi h),XT rfl⟩;show[(arg (dD bk[i])).d,(arg (dD bk[i])).d]=_;rw[A3];rfl
  ·rintro f rfl;exact r
def Zny(J:Def K mg "_law_back" Dh ["_law_village","_law_past"])
  : OV ζ:=by
 refine J.fz Fb (λl n=>(bc (sS 2 n<|xt a0)<|bc (sS 3 n<|xL a0)<|bj (se (ExcR.MT (λpins D=>(P2<|Pu.pz 2 Fb.nd<|SC YA G.Za (hq<|l ()) (ExcR.Sm (pins:=pins) (D:=D) (i:=4) rfl rfl Fb.nd rfl rfl rfl G.Zm (by decide) (λa=>(P2<|Pu.pz 3 Fb.nd<|KS<|bz (Ka (ExcR.RW (K:=K)) (by rfl) G.Zb QJ<|bz (pv 4)<|ExcR.Zq7 G.Z9)<|Ka (ExcR.RW (K:=K)) (by rfl) G.Zb QJ<|bz (pv 4)<|PV (v:=.ty "ValueError") rfl G.ZD (by decide +kernel) rfl)))<|pv 0))) (Zr8 (E':=λ_=>E0) ["NothingDone"] (λc z=>by
    simp only[Qa,Vu,or_false]at z;rcases z with rfl
    ·exact⟨G.Zh,G.Zo⟩)
    (λD=>(EC (ON 0 RJ XF)<|Ko 2)) (T8 (PB<|tz (MY<|tz (Xt 4) Znb)<|MY<|tz (Xt 4) Tr)<|Ko 3)))<|bc (sI (tq l (xl G.len<|xv 1) xi) (b1<|se (Ku<|Nf (Zjv (K:=K)<|show _<cLine from(l ()).units0) (pv 3) (KS<|bz TX TX)<|Py _)<|Sr<|Zm4 (Xt 3)<|PB<|tz Ng Ng) b0)<|bc (se (Pu.pz 5 Fb.nd<|jx K (S9 Q0 V3 V4 BZ<|pv 1) X9)<|EC (Zpd<|Lf 1)<|Ko 5)<|b1<|se (Ku<|BO (Nf (IM (K:=K)<|show _<cLine from(l ()).units0) (pv 3) (KS KF)<|Py _)<|B7<|fz YF (l ())<|bz (pv 2)<|pv 5)<|Sr<|BF (Ck (Xt 3)<|PB XF)<|TM<|tz (Xt 2)<|Xt 5)) (.d ?_)
 ·rintro o1 M L R X ⟨x,b1,r,p,a,f0,u,rfl,rfl,rfl,B,o⟩;refine⟨rfl,?_⟩;have A:=PZ f0 u;refine⟨by simp,by simp,?_⟩;rcases Vd u with rfl|⟨h,y,rfl⟩
  ·refine Nt (λf=>∃t:Option S,f=[some (.own<|vO (ExcR.Xx mg "Village") x b1 r p (bkH []) (fsH f0 [])<|wsH []),some (.own<|.lsA a<|XB f0 []),some (.sh<|.tup []),some (.own<|.lst [.bl true,.bl true]),t,none]) ?_ ?_
   ·refine⟨rfl,rfl,x,b1,r,p,bkH [],fsH f0 [],wsH [],rfl,rfl,rfl,rfl,λ_=>?_,λb0 q e=>by cases b0<;>cases e⟩;exact⟨by simp,_,G.Zh,G.Zs,_,G.Zh,G.Zr,by simp,_,rfl⟩
   ·rintro f ⟨t,rfl⟩;refine⟨by simp,[.bl true,.bl true],[.bl true,.bl true],rfl,rfl,rfl,rfl,?_⟩;exact⟨_,_,rfl,rfl,⟨rfl,by simp⟩,rfl,o⟩
  ·rw[V2]at o A B ⊢;rw[QG]at o;refine Nt (λf=>f=[some (.own<|vO (ExcR.Xx mg "Village") x b1 r p (bkH h) (fsH f0 h)<|wsH h),some (.own<|.lsA a<|XB f0 (h++[y])),some (.sh<|dD y.1.q),some (.own<|.lst []),none,none]) ?_ ?_
   ·refine⟨rfl,rfl,x,b1,r,p,bkH (h++[y]),fsH f0 (h++[y]),wsH (h++[y]),rfl,rfl,by rw[AD,Nh],by rw[Dz,Nh],λe=>?_,λb0 q e=>?_⟩
    ·rw[Bf]at e;simp at e
    ·rw[Bf]at e;obtain⟨rfl,H⟩:=List.append_inj' e rfl;cases H
     rw[Bp,Bb,QG,QG];exact rfl
   ·rintro f rfl;have s:(XB f0 (h++[y])).length=h.length+2:=by rw[PZ,WW,Vc]
    have g:¬(((XB f0 (h++[y])).length:Nat):Int)=1:=by lia
    have C:(XB f0 (h++[y]))[(XB f0 (h++[y])).length-1]?=some (Su y):=by
     rw[s,B3,Qy (by rw[PZ];lia),PZ];rw[show h.length+2-1-(h.length+1)=0 by lia];rfl
    have E:(XB f0 (h++[y])).dropLast=XB f0 h:=by rw[B3,QG]
    show if decide ((((XB f0 (h++[y])).length:Nat):Int)=1)=true then _ else _;rw[Qu g];refine XT ⟨_,C,_,rfl,?_⟩;rw[E];refine⟨QY _,y.1.q,rfl,by have:=y.1.q_len;lia,?_⟩;exact⟨_,_,rfl,rfl,⟨rfl,by simp⟩,rfl,o⟩
def Zps(M:Def K mg "_law_opening" Eg ["_law_script","_law_menu_here"])
  : MW ζ:=by
 refine M.fz LU (λl n=>(bc (sS 2 n<|xf Yx l<|a2 (xf Yt l<|a2 (xv 0) xi) xi)<|bc (se (λ{_}=>(@Pu.pz _ _ _ _ _ _ 3 LU.nd (@LB _ _ _ _ _ _ _ (Zad (K:=K)) (@KS _ _ _ _<|@Kb _ _ _ _ _ X9 (@Kb _ _ _ _ _ X9 (@Kb _ _ _ _ _ X9 (@Kb _ _ _ _ _ X9 (@Kb _ _ _ _ _ X9 (@Kb _ _ _ _ _ X9 (@Kb _ _ _ _ _ X9 (@Kb _ _ _ _ _ X9 (@Kb _ _ _ _ _ (jx K (pv 1) X9) KF rfl) rfl) rfl) rfl) rfl) rfl) rfl) rfl) rfl) (NP XN (pv 2) X9) (λ_ _=>rfl)) rfl (by first|exact Or.inl rfl|exact Or.inr rfl) rfl (by first|exact .inl rfl|exact .inr rfl|assumption)))<|T8 (XW (PB<|K6 X2<|K6 X2<|K6 X2<|K6 X2<|K6 X2<|K6 X2<|K6 X2<|K6 X2<|K6 (XW (Xt 1) X2) XF)<|XM (Xt 2) X2)<|Ko 3)<|bc (sS 4 n<|xL a0)<|bc (sO [5,6] Qn (ir G.Zf<|a1<|xv 3) (gN 5)<|bc (sS 6 n<|xf YG l<|a2 (xf Yx l<|a2 (xv 2)<|xo XS XQ xi<|xv 5)<|xv 1)<|bj (sI (tq l (xo XN XM (xv 2) xi) xi) (b1<|sS 6 n<|xt<|a2 (xo XS XQ xi<|xo XN XM (xo XS XQ (xv 2)<|xv 5) xi)<|xo XS XQ xi<|xo XN XM (xo XS XQ (xo XS XQ (xo XS XQ (xv 2)<|xv 5) xi)<|xo Kq Ks (xv 5) xi) xi) b0)<|bj (sI (tq l (xo XN XM (xv 2) xi) xi) (b1<|sS 6 n<|xt<|a2 (xf Yy l<|a2 (xv 1)<|xv 5)<|xf Yy l<|a2 (xv 1)<|xo XN XM (xo XS XQ (xv 5) xi)<|xv 3) b0)<|b1<|sA 4<|xt<|a3 xs (xx (xv 6) xi)<|xx (xv 6) xi)<|b1<|sV 4)) (.a ?_)
 ·rintro ds R X ⟨r,m,rfl,A,L⟩;refine⟨rfl,?_⟩;have o:=A;obtain⟨a,b,c,d,e,rfl,Y,U,T,hd,Q⟩:=A;refine⟨r,1,rfl,by decide,_,_,rfl,?_⟩;generalize mixP (r.getD (1:Int).toNat 0) 300=p;have B:0<=p % 9/\p % 9<9:=by lia
  obtain⟨many,em,N⟩:∃v:Int,atI ([0,1,2,3,4,6,9,24,a].map D.int) (p % 9)=some (.int v)/\0<=v/\v<=24:=by
   refine⟨_,Pe (f:=D.int) (xs:=[0,1,2,3,4,6,9,24,a]) B.1 B.2,?_⟩
   have s:∀v∈([0,1,2,3,4,6,9,24,a]:Yg),0<=v/\v<=24:=by
    intro v z;simp at z;rcases z with rfl|rfl|rfl|rfl|rfl|rfl|rfl|rfl|rfl<;>lia
   exact s _ (Qi _)
  refine⟨_,rfl,by simp,(by show(0:Int)<9;decide),_,em,by simp,⟨by lia,by lia⟩,?_⟩;refine Tf (λi g=>∃h:Yf,h.length=i/\g=[some (.bor<|.scr r),some (.bor<|.lst (([a,b,c,d,e]:Yg).map D.int)),some (.sh<|.int p),some (.sh<|.int many),some (.own (h.map λq=>dD (Dd.wish q.1 q.2).q)),none,none]) ⟨[],rfl,rfl⟩ ?_ ?_
  ·rintro i g J ⟨h,hq,rfl⟩;have H:i<many.toNat:=J;have E:(h.map λq=>dD (Dd.wish q.1 q.2).q).length=h.length:=WL ..;refine⟨_,_,rfl,_,_,rfl,o,λu p2=>?_⟩;refine Nt (λg=>∃(x y:Int),g=[some (.bor<|.scr r),some (.bor<|.lst (([a,b,c,d,e]:Yg).map D.int)),some (.sh<|.int p),some (.sh<|.int many),some (.own (h.map λq=>dD (Dd.wish q.1 q.2).q)),some (.sh<|.int (0+(i:Int))),some (.sh<|prD (x,y))]) ?_ ?_
   ·refine⟨(by show(0:Int)<9;decide),Xy (λ_=>?_) (λ_=>⟨u,p2,rfl⟩)⟩;exact⟨(by show(0:Int)<10;decide),⟨by decide,by decide⟩,(by show(0:Int)<10;decide),by simp,_,_,rfl⟩
   ·rintro g ⟨u,p2,rfl⟩;refine Nt (λg=>∃(x y:Int),g=[some (.bor<|.scr r),some (.bor<|.lst (([a,b,c,d,e]:Yg).map D.int)),some (.sh<|.int p),some (.sh<|.int many),some (.own (h.map λq=>dD (Dd.wish q.1 q.2).q)),some (.sh<|.int (0+(i:Int))),some (.sh<|prD (x,y))]) ?_ ?_
    ·refine⟨(by show(0:Int)<9;decide),Xy (λ_=>?_) (λ_=>⟨u,p2,rfl⟩)⟩;exact⟨_,_,rfl,o,λh1 _ _ _=>⟨(by show 0<many;lia),_,_,rfl,o,λh2 _ _ _=>⟨by simp,_,_,rfl⟩⟩⟩
    ·rintro g ⟨x,y,rfl⟩;refine⟨_,KW _ _,_,Og _ _ (.inr rfl),by simp,by lia,?_⟩;exact⟨h++[(x,y)],by rw[WW,hq];rfl,by rw[Qd];rfl⟩
  ·rintro g ⟨h,hq,rfl⟩;have C:h.length=many.toNat:=hq;exact L h (by lia)
def Zec(DD:Def K mg "_law_deed" Cw ["_law_cell","_law_menu_here","_law_now"])
  : IS ζ:=by
 refine DD.fz Zkj (λl n=>(bc (sS 3 n<|xo XN XM (xv 0) xi)<|bc (sS 4 n<|xo Kq Ks (xv 0) xi)<|bc (sS 5 n<|xf Wi l<|a2 (xv 4)<|xx (xv 2) xi)<|bc (sS 6 n<|xo Kq Ks (xo Kq Ks (xv 4) xi)<|xe (Ka (On rfl) (by rfl) G.ZM boot_max<|bz X9<|ln K G.len<|jx K (pv 2) X9)<|LC<|tz X2<|Au<|sz<|XW (Xt 2) X2)<|bc (sI (tc KY Pa (xv 3) xi) (b1<|sF 5<|sR<|xt<|a3 xs (xv 5)<|xf Y5 l<|a2 (xv 6)<|xf Yy l<|a2 (xv 1)<|xo XN XM (xo Kq Ks (xv 6) xi)<|xx (xv 1) xi) b0)<|bc (sI (tc KY Pa (xv 3) xi) (b1<|sF 5<|sR<|xt<|a3 xs (xv 5)<|xf Wj l<|a3 (xv 6) (xx (xv 2) xi)<|xv 5) b0)<|bc (sI (tq l (xv 3) xi) (b1<|sF 5<|sR<|xt<|a2 xs<|xv 5) b0)<|bc (sS 7 n<|xf YG l<|a2 (xv 4)<|xv 1)<|bj (sI (tp<|wa (tq l (xv 3) xi)<|wa (tc K9 KA (xo XN XM (xv 4) xi) xi)<|wA<|te (TJ (Zsj (K:=K)<|show _<cLine from(l ()).units0) (jx K (pv 2) X9) (KS KF)<|Py _)<|PP<|Ck (XW (Xt 2) X2)<|PB XF) (b1<|sS 7 n<|xx (xx (xv 2) xi)<|xo XN XM (xo Kq Ks (xv 4) xi)<|xl G.len<|xx (xv 2) xi) b0)<|bc (sI (tc KY Pa (xv 3) xi) (b1<|sR<|xt<|a3 (xx (xL<|a2 xs xs)<|xo Kq Ks (xv 3) xi) (xx (xv 7) xi)<|xx (xv 7) xi) b0)<|b1<|sR<|xt<|a1 xs)) (.a ?_)
 ·rintro ds R X ⟨c,m,f,w,Q,rfl,N,M,hF,hw,u,hB⟩;refine⟨rfl,?_⟩;have x:=N;have o:atI (plD f::plD w::Q) 1=some (plD w):=Bg (by decide) rfl;have hl:(f.map prD).length=f.length:=WL ..;have Y:(w.map prD).length=w.length:=WL ..;have A:∀z:Int,0<(if z>1 then z else 1)/\((if z>1 then z else 1)=z\/(if z>1 then z else 1)=1):=λz=>by split<;>lia
  have s:=A (((f.map prD).length:Nat):Int);refine⟨(by show(0:Int)<9;decide),⟨by decide,by decide⟩,_,KW _ _,_,f,rfl,M,λp=>?_⟩;refine⟨⟨by decide,by decide⟩,_,KW _ _,⟨s.1,Int.lt_of_le_of_lt (b:=1000) (by rcases s.2 with w|w<;>rw[w]<;>lia) (by decide)⟩,?_⟩
  obtain⟨L,m1,m2,m3,m4,em,ha,hb,hc,hd,he⟩:=N;have U:atI (m.map D.int) 0=some (.int L):=by rw[em];rfl
  refine Xy (λ_=>?_) (λ_=>Xy (λ_=>?_) (λ_=>Xy (λ_=>?_) (λg4=>?_)))
  ·exact⟨⟨by decide,by decide⟩,_,U,(by show 0<L;lia),m,_,rfl,x,λh _ _ _=>⟨_,_,rfl,λv=>⟨by simp,u (.sell p v)⟩⟩⟩
  ·exact⟨_,KW _ _,_,f,p,rfl,M,hF,λv=>⟨by simp,u (.part p v)⟩⟩
  ·exact⟨by simp,u (.unite p)⟩
  ·refine⟨_,m,rfl,x,λa b=>?_⟩;refine Nt (λr=>∃(a b:Int) (J H E:Option S),r=[some (.sh<|.int c),some (.bor<|.lst<|m.map D.int),some (.bor<|.tup (plD f::plD w::Q)),some (.sh<|.int (c % 9)),J,H,E,some (.sh<|prD (a,b))]) ?_ ?_
   ·refine Xy (λ_=>⟨(by show(0:Int)<4;decide),Xy (λ_=>⟨_,o,by simp,?_⟩) (λ_=>XT ⟨a,b,_,_,_,rfl⟩)⟩) (λ_=>XT ⟨a,b,_,_,_,rfl⟩);have C:(w.map prD).isEmpty=decide (w=[]):=by cases w<;>simp
    show if (!(w.map prD).isEmpty)=true then _ else _;rw[C];refine Xy (λg=>?_) (λg=>⟨a,b,_,_,_,rfl⟩);have y:w≠[]:=λz=>by rw[WM z]at g;cases g
    have hp:0<w.length:=VI.mpr y;have T:=JJ (c / 9 / 4) (show(((w.map prD).length:Nat):Int)≠0 by lia);have q2:=Jk (c / 9 / 4) (show 0<(((w.map prD).length:Nat):Int) by lia);exact⟨_,o,⟨by decide,by decide⟩,_,o,(by show 0<(((w.map prD).length:Nat):Int);lia),_,Pe (f:=prD) (xs:=w) T (by lia),_,_,_,_,_,rfl⟩
   ·rintro r ⟨a,b,J,H,E,rfl⟩;refine Xy (λg=>?_) (λg=>⟨by simp,hB⟩);have g':c % 9<8:=WR g;have hk:c % 9 / 7=0\/c % 9 / 7=1:=by lia
    have ex:∃k:Str,atI [D.str "wish",.str "drop"] (c % 9 / 7)=some (.str k)/\(k=("wish" : Str)\/k=("drop" : Str)):=by
     rcases hk with e|e<;>rw[e]
     ·exact⟨_,rfl,.inl rfl⟩
     ·exact⟨_,rfl,.inr rfl⟩
    obtain⟨k,ek,B⟩:=ex;refine⟨by simp,⟨by decide,by decide⟩,_,ek,_,KW _ _,_,Og _ _ (.inr rfl),by simp,?_⟩;rcases B with rfl|rfl
    ·exact u (.wish a b)
    ·exact u (.drop a b)
def Zl3(z:Def K mg "check_no_ring" DM ["strips","wishes"])
  : Hc ζ:=by
 refine z.fy Zjl (λf n=>(bc (sS 2 n<|xf YH f<|a2 (xf Yw f<|a1<|xv 0)<|xv 1)<|b1<|sI (tt<|xv 2) (b1<|sF 2<|se (ExcR.Zkh YQ (hq<|f ()) G.Zi ExcR.Zj6 rfl rfl<|az<|pv 2)<|Zpe<|sz<|Xt 2) b0)) (.a ?_)
 ·rintro C R X ⟨l,o,rfl,y,p,s,u,v⟩;refine⟨rfl,l,rfl,y,p,_,o,rfl,(TR l).imp (λh=>Jh h),WZ (PK l) (by decide),λr f B=>?_⟩;by_cases e:r=[]
  ·have x:=(f.none_iff s).mp e;subst e;exact XT (A:=False) (v x)
  ·have hx:=u r f e;refine Xy (λ_=>⟨r,rfl,hx⟩) (λg=>absurd g ?_);cases r with
   |nil=>exact absurd rfl e
   |cons a t=>simp
def Ze4(v:XJ K (XH K (X4 ζ) "ring") "ring" "Village.ring" Cn ["self"])
  : RH ζ:=by
 refine v.fz Znq (λg n=>(b1<|sr<|xf YH g<|a2 (xf Yw g<|a1<|xe (XX Yu G.Za (hq<|g ()) Kh<|pv 0)<|Kt Tj (Xt 0) XF)<|xe (XX Yv G.Za (hq<|g ()) Kh<|pv 0)<|Kt TL (Xt 0) XF)) (.a ?_)
 ·rintro x R X ⟨bk,fs,l,f,w,rfl,u,o,s⟩;refine⟨rfl,rfl,rfl,bk,fs,l++[w],f,rfl,f,rfl,u,o,rfl,rfl,bk,fs++[f],l,w,rfl,?_⟩;exact⟨_,w,rfl,(TR f).imp (λh=>Jh h),WZ (PK f) (by decide),λr g p=>s r g p⟩
def Zlc(B:Def K mg "_law_call" EO ["_law_village","_law_deed_here"])
  : M5 ζ:=by
 refine B.fy Zrt (λu n=>(bc (sI (tq u (xx (xv 1) xi) xs) (b1<|se (Ku<|Ta W2 G.Za (hq<|u ()) ExcR.XU (pv 0)<|bz (jx K (pv 1) X9)<|jx K (pv 1) X9)<|Tt<|BG 0 Zl0<|tz (XW (Xt 1) X2)<|XW (Xt 1) X2) b0)<|bc (sI (tq u (xx (xv 1) xi) xs) (b1<|se (Ku<|Ta W3 G.Za (hq<|u ()) ExcR.XU (pv 0)<|bz (jx K (pv 1) X9)<|jx K (pv 1) X9)<|Tt<|BG 0 Zfm<|tz (XW (Xt 1) X2)<|XW (Xt 1) X2) b0)<|bc (sI (tq u (xx (xv 1) xi) xs) (b1<|se (Ku<|Ta W4 G.Za (hq<|u ()) ExcR.XU (pv 0)<|az<|jx K (pv 1) X9)<|Tt<|BG 0 Zhg<|sz<|XW (Xt 1) X2) b0)<|bc (sI (tq u (xx (xv 1) xi) xs) (b1<|se (Ku<|Ta YK G.Za (hq<|u ()) ExcR.XU (pv 0)<|bz (jx K (pv 1) X9)<|jx K (pv 1) X9)<|Tt<|BG 0 IA<|tz (XW (Xt 1) X2)<|XW (Xt 1) X2) b0)<|b1<|se (Ku<|Ta Ws G.Za (hq<|u ()) ExcR.XU (pv 0)<|bz (jx K (pv 1) X9)<|jx K (pv 1) X9)<|Tt<|BG 0 Zqw<|tz (XW (Xt 1) X2)<|XW (Xt 1) X2)) (.c ?_)
 ·rintro o C R X ⟨x,b1,s,r,bk,fs,l,f,w,d,rfl,rfl,y,v,hw,z,A,g⟩;refine⟨rfl,?_⟩;cases d with
  |sell p h=>
   refine⟨_,rfl,?_⟩;refine⟨rfl,rfl,_,rfl,_,rfl,x,b1,s,r,bk,fs,l,f,w,p,h,rfl,rfl,y,v,hw,z,?_⟩;have g:Kx (Ah bk f p h) (X<|vO (ExcR.Xx mg "Village") x b1 s r bk (fs++[f]) (l++[w])) (R (vO (ExcR.Xx mg "Village") x b1 s r (bk++[(Dd.sell p h).q]) (fs++[f]++[(Dd.sell p h).fld f]) (l++[w]++[(Dd.sell p h).wsh w]))<|.int (bk.length+1)):=g;cases e:Ah bk f p h with
   |some c=>rw[e]at g;exact⟨_,rfl,⟨rfl,by simp⟩,g⟩
   |none=>rw[e]at g;exact⟨_,rfl,⟨rfl,by simp⟩,g⟩
  |part p h=>
   refine⟨_,rfl,_,rfl,?_⟩;refine⟨rfl,rfl,_,rfl,_,rfl,x,b1,s,r,bk,fs,l,f,w,p,h,rfl,rfl,y,v,hw,z,?_⟩;have g:Kx (FC bk f p h) (X<|vO (ExcR.Xx mg "Village") x b1 s r bk (fs++[f]) (l++[w])) (R (vO (ExcR.Xx mg "Village") x b1 s r (bk++[(Dd.part p h).q]) (fs++[f]++[(Dd.part p h).fld f]) (l++[w]++[(Dd.part p h).wsh w]))<|.int (bk.length+1)):=g;cases e:FC bk f p h with
   |some c=>rw[e]at g;exact⟨_,rfl,⟨rfl,by simp⟩,g⟩
   |none=>rw[e]at g;exact⟨_,rfl,⟨rfl,by simp⟩,g⟩
  |unite p=>
   refine⟨_,rfl,_,rfl,_,rfl,?_⟩;refine⟨rfl,rfl,_,rfl,x,b1,s,r,bk,fs,l,f,w,p,rfl,rfl,y,v,hw,z,?_⟩;have g:Kx (F7 bk f p) (X<|vO (ExcR.Xx mg "Village") x b1 s r bk (fs++[f]) (l++[w])) (R (vO (ExcR.Xx mg "Village") x b1 s r (bk++[(Dd.unite p).q]) (fs++[f]++[(Dd.unite p).fld f]) (l++[w]++[(Dd.unite p).wsh w]))<|.int (bk.length+1)):=g;cases e:F7 bk f p with
   |some c=>rw[e]at g;exact⟨_,rfl,⟨rfl,by simp⟩,g⟩
   |none=>rw[e]at g;exact⟨_,rfl,⟨rfl,by simp⟩,g⟩
  |wish p h=>
   refine⟨_,rfl,_,rfl,_,rfl,_,rfl,?_⟩;refine⟨rfl,rfl,_,rfl,_,rfl,x,b1,s,r,bk,fs,l,f,w,p,h,rfl,rfl,y,v,hw,A,?_⟩;have g:Kx (BU bk w p h) (X<|vO (ExcR.Xx mg "Village") x b1 s r bk (fs++[f]) (l++[w])) (R (vO (ExcR.Xx mg "Village") x b1 s r (bk++[(Dd.wish p h).q]) (fs++[f]++[(Dd.wish p h).fld f]) (l++[w]++[(Dd.wish p h).wsh w]))<|.int (bk.length+1)):=g;cases e:BU bk w p h with
   |some c=>rw[e]at g;exact⟨_,rfl,⟨rfl,by simp⟩,g⟩
   |none=>rw[e]at g;exact⟨_,rfl,⟨rfl,by simp⟩,g⟩
  |drop p h=>
   refine⟨_,rfl,_,rfl,_,rfl,_,rfl,?_⟩;refine⟨rfl,rfl,_,rfl,_,rfl,x,b1,s,r,bk,fs,l,f,w,p,h,rfl,rfl,y,v,hw,A,?_⟩;have g:Kx (A4 bk w p h) (X<|vO (ExcR.Xx mg "Village") x b1 s r bk (fs++[f]) (l++[w])) (R (vO (ExcR.Xx mg "Village") x b1 s r (bk++[(Dd.drop p h).q]) (fs++[f]++[(Dd.drop p h).fld f]) (l++[w]++[(Dd.drop p h).wsh w]))<|.int (bk.length+1)):=g;cases e:A4 bk w p h with
   |some c=>rw[e]at g;exact⟨_,rfl,⟨rfl,by simp⟩,g⟩
   |none=>rw[e]at g;exact⟨_,rfl,⟨rfl,by simp⟩,g⟩
def Zhd(z:Def K mg "_law_stands" Gj ["_law_village","_law_past"])
  : Ml ζ:=by
 refine z.fz Zki (λg n=>(bc (sI (tN<|tt<|xf Y3 g<|a2 (xe (XX Yu G.Za (hq<|g ()) Kh<|pv 0)<|Kt Tj (Xt 0) XF)<|xx (xx (xv 1)<|xe (KQ KN X9)<|KM X2) xi) (b1<|sR xb) b0)<|bc (sI (tN<|tt<|xf Y3 g<|a2 (xe (XX Yv G.Za (hq<|g ()) Kh<|pv 0)<|Kt TL (Xt 0) XF)<|xx (xx (xv 1)<|xe (KQ KN X9)<|KM X2) xi) (b1<|sR xb) b0)<|b1<|sR<|xf W5 g<|a2 (xe (XX Wc G.Za (hq<|g ()) Kh<|pv 0)<|Kt Zbb (Xt 0) XF)<|xe (cz ["_law_one"] [none] (Nr (K:=K)<|Ae (Ag (K:=K)) (pv 1) (Bl X9) DB) ⟨(gk 0),Nz,(jx K (pv 0) X9)⟩)<|Tv (Zb9 (Xt 1) (BQ X2) CC) (Ko 0) NO<|XW (Xt 0) X2)) (.a ?_)
 ·rintro L R X ⟨f0,f,rfl,E,s,hw,u⟩;refine⟨rfl,?_⟩;obtain⟨fs,p,B⟩:=Fm f0 f;obtain⟨r,l,A⟩:=Ak f;obtain⟨d,o⟩:=Am f0 f;have J:(Kd f0 f).length<=1000:=s _ (by rw[p];simp);have H:(Kf f).length<=1000:=hw _ (by rw[l];simp);have C:=Nh f
  have y:∀q∈bkH f,q.2.length<=100:=λq hq=>by
   unfold bkH at hq;obtain⟨h,_,rfl⟩:=Qq.mp hq
   have:=h.1.q_len
   lia
  have v:cutD (XB f0 f) (some 1) none=f.map Su:=by
   rw[SG _ (by decide)];rfl
  refine⟨rfl,rfl,bkH f,fs,wsH f,Kd f0 f,by rw[←p];rfl,?_⟩;refine⟨_,o,_,rfl,Kd f0 f,rfl,by lia,XT ?_⟩;refine⟨rfl,rfl,bkH f,fsH f0 f,r,Kf f,by rw[←l];rfl,?_⟩;refine⟨_,o,_,rfl,Kf f,rfl,by lia,XT ?_⟩;refine⟨rfl,rfl,bkH f,fsH f0 f,wsH f,rfl,?_⟩;show BW _ _ _ _ _ (cutD (XB f0 f) (some 1) none).length (λi=>arg ((cutD (XB f0 f) (some 1) none).getD i .non)) _;rw[v];refine Zaz (xs:=f) (emb:=Su) (λh=>some (dD h.1.q)) (by lia) (λh _=>?_) ?_
  ·refine⟨_,rfl,_,?_,rfl⟩;show(arg<|dD h.1.q).shd=_;rw[A3];rfl
  ·rw[TH (λh:Dd×Yf×Yf=>dD h.1.q)]
   have x:f.map (λh:Dd×Yf×Yf=>dD h.1.q)=(bkH f).map dD:=by
    unfold bkH;rw[Q7];rfl
   rw[x];exact⟨bkH f,rfl,y,by lia,u⟩
def Zex(J:Def K mg "cost_table" Ga ["strips","wishes"])
  : G4 ζ:=by
 refine J.fy Zas (λp n=>(bc (sE<|xg YL p ExcR.XU<|a2 (xv 0)<|xv 1)<|bc (sS 2 n<|xf YI p<|a3 (xv 0) (xv 1)<|xf YD p<|a1<|xv 0)<|b1<|sR<|xe (PN (Zry rfl) (by rfl) G.Zg boot_list<|Kb (Zla (K:=K)<|pv 2) KF)<|Zij<|Xt 2)) (.a ?_)
 ·rintro L R X ⟨f,v,rfl,u,l,hw,o,C,s⟩;refine⟨rfl,f,v,rfl,u,l,o,C,λx=>?_⟩;have s:=s x;refine⟨f,rfl,u,l,λz r=>⟨f,v,z,pcc f,rfl,u,l,hw,o,r,Mg o x,λg T=>?_⟩⟩;have A:(X3 f).Nodup:=(TR f).imp (λh=>Jh h);obtain⟨y,e,B⟩:=T.vals (IP A);obtain⟨H,E⟩:=GG e;refine⟨g,rfl,H,?_⟩;rw[E];exact s y B
def Zg8(DD:Def K mg "best_order" EH ["strips","wishes"])
  : GO ζ:=by
 refine DD.fy M4 (λA n=>(bc (sE<|xg YL A ExcR.XU<|a2 (xv 0)<|xv 1)<|bc (sS 2 n<|xf YD A<|a1<|xv 0)<|bc (se (Pu.pz 3 M4.nd<|fz YI (A ())<|dz (pv 0) (pv 1)<|pv 2)<|T8 (TM<|uz (Xt 0) (Xt 1)<|Xt 2)<|Ko 3)<|bc (sS 4 n<|xe (PN (GR (K:=K)) (by rfl) G.Zn boot_tuple<|az<|fz Yw (A ())<|az<|pv 0)<|HC<|sz<|TM<|sz<|Xt 0)<|bc (sS 5 n<|xL a0)<|bc (sW [6,7] ExcR.Gq (tt<|xv 4)<|bc (sC 6 ["holder","members","wishes"] [none,some 4,some 1] n (je (BB (K:=K)<|pv 4)<|SndI.c<|Fd<|Xt 4) (gN 0) (f1<|tt<|xf Wb A<|a3 (xv 1) (xv 0)<|xv 2)<|xv 0)<|bc (sC 7 ["first","members","least","pairs"] [none,some 4,some 3,some 2] n (jL<|xv 6) (gN 0) (f1<|tq A (xf Wr A<|ac (xv 1)<|ac (xv 0)<|ac (xv 2)<|ac (xv 3) a0)<|xe (Bq (Pp<|A ()) (pv 2) (pv 1) (λ_ _=>rfl))<|Fc (Xt 2)<|Xt 1)<|xv 0)<|bc (sA 5<|xx (xv 7) xi)<|b1<|sS 4 n<|xf Y4 A<|a2 (xv 4)<|xx (xv 7) xi)<|b1<|sV 5)) (.a ?_)
 ·rintro ds R X ⟨z,v,rfl,hF,hz,hw,hu,hX,hR⟩;refine⟨rfl,z,v,rfl,hF,hz,hu,hX,λhN=>?_⟩;have hR:=hR hN;refine⟨z,rfl,hF,hz,λpa hpa=>⟨z,v,pa,pcc z,rfl,hF,hz,hw,hu,hpa,Mg hu hN,λkvs T=>⟨z,rfl,hF,hz,?_⟩⟩⟩;have hh:=PK z;have hri:=TR z;have nd:(X3 z).Nodup:=hri.imp (λh=>Jh h);have hpa':∀x∈X3 z,∀y∈X3 z,XD pa [.inl x,.inl y]=some (.int<|pcc z x y):=hpa;generalize pcc z=c at *;generalize X3 z=Y at *
  refine⟨rfl,by simp,FT (λγ'=>∃(u o:Yg),γ'=[some (.bor<|.lst<|z.map prD),some (.bor<|.lst<|v.map prD),some (.own<|.dT pa),some (.own<|.dT kvs),some (.sh<|tD u),some (.own<|o.map D.int),none,none]/\u∈XO Y/\o.length+u.length<=10/\
   ∀p,Pi v c u p->Pi v c Y (o++p)) Zod ⟨Y,[],rfl,List.mem_of_getLast? (Od Y),by simpa using hh,λp hp=>hp⟩ ?_⟩
  rintro γ' ⟨u,o,rfl,M,hol,hB⟩;show if (!(u.map D.int).isEmpty)=true then _ else _;refine Xy (λg=>?_) (λg=>?_)
  ·have E:=SO Y u M;have hne:u≠[]:=λe=>by subst e;simp at g
   have C:u.Nodup:=nd.sublist E;have hrm:=hri.sublist E
   have B:∀l∈u,XC u l∈XO Y:=λl N=>by
    obtain⟨k,hk,e⟩:=Q4.mp M;obtain⟨j,_,ej⟩:=HJ nd k u (by rw[WJ hk,e]) l N;exact Qj ej
   obtain⟨J,hvs⟩:=R3 λl N=>T.val _ (B l N);obtain⟨V,hV1,U⟩:=T.val u M;have hv2:∀l∈u,KH v c (XC u l) (J l):=λl N=>(hvs l N).2
   have L:∃f rest,(u.filter (λh=>firstM v u h)).filter (λf=>decide (J f+((XC u f).map (c f)).sum=V))=f::rest:=by
    obtain⟨q,q1,q2,q3⟩:=U.is;cases q with
    |nil=>exact absurd q1.nil_eq.symm hne
    |cons g p=>
     obtain⟨r1,r2,r3,_⟩:=Zak C hu hv2 U q1 q2 q3;exact List.exists_cons_of_ne_nil (List.ne_nil_of_mem<|Qz.mpr ⟨Qz.mpr ⟨r1,r2⟩,WM r3⟩)
   obtain⟨f,rest,ef⟩:=L;have Q:f∈(u.filter (λh=>firstM v u h)).filter (λf=>decide (J f+((XC u f).map (c f)).sum=V)):=by rw[ef];exact Q2 ..
   obtain⟨Q,hf3⟩:=Qz.mp Q;obtain⟨H,hf2⟩:=Qz.mp Q
   have hmin:∀g∈u,firstM v u g=true->J g+((XC u g).map (c g)).sum=V->f<=g:=λg h1 h2 h3=>by
    have hg:g∈(u.filter (λh=>firstM v u h)).filter (λf=>decide (J f+((XC u f).map (c f)).sum=V)):=Qz.mpr ⟨Qz.mpr ⟨h1,h2⟩,WM h3⟩
    have A:(f::rest).Pairwise (· < ·):=by
     rw[←ef];exact(hrm.filter _).filter _
    rw[ef]at hg;rcases Qa.mp hg with e|hg
    ·lia
    ·have:=(Vy.mp A).1 g hg
     lia
   refine⟨_,rfl,KB (s:=.sh .non) (xs:=u) (emb:=D.int) (λh=>if firstM v u h=true then some (.int h)else none) (by lia) (λh hm=>?_) ?_⟩
   ·refine⟨u,h,v,rfl,hw,?_⟩;refine Xy (λg=>⟨_,rfl,WT g⟩) (λg=>WS g)
   ·rw[PU (λh=>firstM v u h)];refine KB (xs:=u.filter (λh=>firstM v u h)) (emb:=D.int) (λf=>if decide (J f+((XC u f).map (c f)).sum=V)=true then some (.int f)else none) (WZ (QE _ _)<|by lia) (λl N=>?_) ?_
    ·obtain⟨hl1,hl2⟩:=Qz.mp N;refine⟨u,l,kvs,pa,c l,J l,rfl,by lia,(hvs l hl1).1,λm hm=>hpa' l (E.subset hl1) m (E.subset<|less_sub.subset hm),_,_,Ar u,hV1,rfl,?_⟩;refine Xy (λg=>⟨_,rfl,WT g⟩) (λg=>WS g)
    ·rw[PU (λf=>decide (J f+((XC u f).map (c f)).sum=V)),ef];refine⟨_,KW _ _,by rw[WL];lia,_,KW _ _,u,f,rfl,by lia,⟨XC u f,o++[f],?_,B f H,?_,λp hp=>?_⟩,?_⟩
     ·rw[Qd];rfl
     ·have:=(Nc C H).length_eq
      rw[WW];rw[Qe]at this;show o.length+1+_<=10;lia
     ·rw[Ju];exact hB _ (Zr7 C hu hv2 U H hf2 (WR hf3) hmin hp)
     ·have:=(Nc C H).length_eq
      rw[Qe]at this;show((XC u f).map D.int).length<(u.map D.int).length;rw[WL,WL];lia
  ·have e:u=[]:=by
    cases u with
    |nil=>rfl
    |cons a r=>exact absurd rfl g
   subst e
   have:=hB [] (Zlo v c)
   rw[Q8]at this;exact hR o this
def Zoi(DD:Def K mg "_law_go" EE ["_law_village","_law_past","_law_deed_here"])
  : GJ ζ:=by
 refine DD.fz LR (λo n=>(bc (sI (tq o (xx (xv 2) xi) xs) (bj (sI (tc K9 KA (xl G.len<|xv 1) xi) (bc (se (Pf<|XX YA G.Za (hq<|o ()) NU<|pv 0)<|N7<|NL 0 RJ XF)<|b1<|se (Pf<|S9 Q0 V3 V4 BZ<|pv 1)<|N7<|Lf 1) b0)<|b1<|se (Ku TX)<|Sr Ng) b0)<|bc (sF 2<|sS 3 n<|xe (fz Ww (o ())<|bz (jx K (pv 1)<|KQ KN X9)<|pv 2)<|DN<|tz (XW (Xt 1)<|KM X2)<|Xt 2)<|bc (sI (tc K9 KA (xx (xv 3) xi) xi) (b1<|se (Ku TX)<|Sr Ng) b0)<|bc (sF 2<|sA 1<|xt<|a3 (xx (xv 3) xi) (xx (xv 3) xi)<|xv 2)<|bc (sF 2<|se (Pu.pz 4 LR.nd<|FJ WA (hq<|o ()) NU<|bz (pv 0)<|pv 2)<|EC (Zdj 0<|sz<|Xt 2)<|Ko 4)<|b1<|se (Ku<|BO (fz Y1 (o ())<|az<|pv 4)<|B7<|Nf (BA (K:=K)<|show _<cLine from(o ()).units0) (pv 4) (NP Kl (ln K G.len<|pv 1) X9)<|Py _)<|Sr<|BF (TM<|sz<|Xt 4)<|S8 (Xt 4)<|Km (Au<|sz<|Xt 1) X2)) (.d ?_)
 ·rintro o1 o2 ss R X ⟨x,b1,B,A,a,f0,f,q,rfl,rfl,rfl,hz,T,s⟩;refine⟨rfl,?_⟩;obtain⟨⟨h1,U⟩,J⟩:=T.cur;rcases s with⟨rfl,l⟩|⟨d,rfl,l⟩
  ·refine⟨_,rfl,?_⟩;refine Nt (λp=>∃H E C:Option S,p=[some (.own<|vO (ExcR.Xx mg "Village") x b1 B A (bkH f.dropLast) (fsH f0 f.dropLast)<|wsH f.dropLast),some (.own<|.lsA a<|XB f0 f.dropLast),H,E,C]) ?_ ?_
   ·rcases Vd f with rfl|⟨h,y,rfl⟩
    ·exact⟨_,_,_,rfl⟩
    ·rw[V2,QG];have r:(XB f0 (h++[y])).length=h.length+2:=by rw[PZ,WW,Vc]
     have g:(((XB f0 (h++[y])).length:Nat):Int)>1:=by lia
     have v:(XB f0 (h++[y]))[(XB f0 (h++[y])).length-1]?=some (Su y):=by
      rw[r,B3,Qy (by rw[PZ];lia),PZ];rw[show h.length+2-1-(h.length+1)=0 by lia];rfl
     have ed:(XB f0 (h++[y])).dropLast=XB f0 h:=by rw[B3,QG]
     show if decide ((((XB f0 (h++[y])).length:Nat):Int)>1)=true then _ else _;rw[WM g];refine Kz ⟨rfl,rfl,x,b1,B,A,bkH (h++[y]),fsH f0 (h++[y]),wsH (h++[y]),rfl,rfl,by rw[AD,Nh],by rw[Dz,Nh],λe=>?_,λb0 q e=>?_⟩
     ·rw[Bf]at e;simp at e
     ·rw[Bf]at e;obtain⟨rfl,e2⟩:=List.append_inj' e rfl;cases e2
      rw[Bp,Bb,QG,QG];refine⟨_,v,?_⟩;rw[ed];exact⟨_,_,_,rfl⟩
   ·rintro p ⟨H,E,C,rfl⟩;exact⟨_,_,rfl,rfl,⟨rfl,by simp⟩,rfl,l⟩
  ·obtain⟨fs,M,lf⟩:=Fm f0 f;obtain⟨N,L,lw⟩:=Ak f;obtain⟨dl,v⟩:=Am f0 f;have lb:=Nh f;have lp:=PZ f0 f;have Q:=d.not_back;refine⟨_,KW _ _,?_⟩;show if decide (d.q.1=("back" : Str))=true then _ else _;rw[Qu Q];refine XT ⟨_,v,Kd f0 f,Kf f,[dl],d,rfl,U,J.1,_,rfl,?_⟩;by_cases e:d.err (Kd f0 f) (Kf f)=none
   ·have z:P8 f0 f d=f++[(d,d.fld (Kd f0 f),d.wsh (Kf f))]:=by unfold P8;rw[WT e]
    rw[z]at l;rw[Bf,Bp,Bb,B3,M,L]at l;show if decide (codeN (d.err (Kd f0 f)<|Kf f)>0)=true then _ else _;rw[e];refine XT ⟨_,rfl,_,rfl,by simp,by lia,?_⟩;refine⟨x,b1,B,A,bkH f,fs,N,Kd f0 f,Kf f,d,by rw[←M,←L],rfl,by lia,by lia,by lia,by lia,by have:=J.1;lia,?_⟩
    have ec:Gd (bkH f) (Kd f0 f) (Kf f) d=none:=by
     unfold Gd;rw[WS (by lia),e]
    have en:d.nf (Kd f0 f) (Kf f)=d.fld (Kd f0 f):=by unfold Dd.nf;rw[WT e]
    have u:d.nw (Kd f0 f) (Kf f)=d.wsh (Kf f):=by unfold Dd.nw;rw[WT e]
    rw[ec];have Y:((((bkH f).length:Nat):Int)+1=((((XB f0 f++[D.tup [plD (d.nf (Kd f0 f)<|Kf f),plD (d.nw (Kd f0 f)<|Kf f),dD d.q]]).length:Nat)):Int)-1):=by rw[WW,Vc];lia
    refine⟨_,rfl,Kz ?_⟩;refine⟨_,_,rfl,rfl,⟨rfl,by simp⟩,rfl,?_⟩;rw[WM Y,en,u];exact l
   ·have z:P8 f0 f d=f:=by unfold P8;rw[WS e]
    rw[z]at l;show if decide (codeN (d.err (Kd f0 f)<|Kf f)>0)=true then _ else _;rw[WM (Dd.code_pos e)];exact Kz ⟨_,_,rfl,rfl,⟨rfl,by simp⟩,rfl,l⟩
def Zf7(E:Def K mg "least_cost" EX ["strips","wishes"])
  : GF ζ:=by
 refine E.fy Zbp (λy n=>(b1<|sR<|xx (xg YM y ExcR.XU<|a2 (xv 0)<|xv 1)<|xe (KQ KN X9)<|KM X2)) (.a ?_)
 ·rintro J R X ⟨g,r,rfl,C,u,hw,x,A,h⟩;refine⟨rfl,g,r,rfl,C,u,hw,x,A,λB s p=>?_⟩;have h:=h B;have o:=Od (X3 g);rw[List.getLast?_eq_getElem?]at o;have H:=(Qg.mp o).1;have z:=p.1;obtain⟨v,l⟩:∃v,s[(XO<|X3 g).length-1]?=some v:=⟨_,WJ (by lia)⟩;have L:=p.2 _ _ _ o l;rw[←z]at l;exact⟨_,T5 (f:=D.int) (Fw l),h _ L⟩
def Zga(u:XJ K (XH K (X4 ζ) "order") "order" "Village.order" Ca ["self"])
  : Hw ζ:=by
 refine u.fy Zrx (λg n=>(b1<|sR<|xg WC g ExcR.XU<|a2 (xe (XX Yu G.Za (hq<|g ()) Kh<|pv 0)<|Kt Tj (Xt 0) XF)<|xe (XX Yv G.Za (hq<|g ()) Kh<|pv 0)<|Kt TL (Xt 0) XF)) (.a ?_)
 ·rintro v R X ⟨bk,fs,h,f,w,rfl,s,l,hw,o,r,p⟩;refine⟨rfl,?_⟩;exact⟨rfl,rfl,bk,fs,h++[w],f,rfl,rfl,rfl,bk,fs++[f],h,w,rfl,f,w,rfl,s,l,hw,o,r,p⟩
def Zie(u:XJ K (XH K (X4 ζ) "table") "table" "Village.table" Du ["self"])
  : RP ζ:=by
 refine u.fy Zjn (λg n=>(b1<|sR<|xg YM g ExcR.XU<|a2 (xe (XX Yu G.Za (hq<|g ()) Kh<|pv 0)<|Kt Tj (Xt 0) XF)<|xe (XX Yv G.Za (hq<|g ()) Kh<|pv 0)<|Kt TL (Xt 0) XF)) (.a ?_)
 ·rintro v R X ⟨bk,fs,h,f,w,rfl,s,l,hw,o,r,p⟩;refine⟨rfl,?_⟩;exact⟨rfl,rfl,bk,fs,h++[w],f,rfl,rfl,rfl,bk,fs++[f],h,w,rfl,f,w,rfl,s,l,hw,o,r,p⟩
def Zrv(u:XJ K (XH K (X4 ζ) "cost") "cost" "Village.cost" Cd ["self"])
  : MU ζ:=by
 refine u.fy Zjh (λg n=>(b1<|sR<|xg WD g ExcR.XU<|a2 (xe (XX Yu G.Za (hq<|g ()) Kh<|pv 0)<|Kt Tj (Xt 0) XF)<|xe (XX Yv G.Za (hq<|g ()) Kh<|pv 0)<|Kt TL (Xt 0) XF)) (.a ?_)
 ·rintro v R X ⟨bk,fs,h,f,w,rfl,s,l,hw,o,r,p⟩;refine⟨rfl,?_⟩;exact⟨rfl,rfl,bk,fs,h++[w],f,rfl,rfl,rfl,bk,fs++[f],h,w,rfl,f,w,rfl,s,l,hw,o,r,p⟩
def Zht(A:XJ K (XH K (X4 ζ) "moves") "moves" "Village.moves" Cq ["self"])
  : M0 ζ:=by
 refine A.fy Zbt (λg n=>(b1<|sR<|xf W1 g<|a2 (xe (XX Yu G.Za (hq<|g ()) Kh<|pv 0)<|Kt Tj (Xt 0) XF)<|xe (XX Y6 G.Za (hq<|g ()) ExcR.XU<|pv 0)<|NT AZ (Xt 0) XF)) (.a ?_)
 ·rintro B R X ⟨bk,fs,h,f,w,rfl,l,s,hw,u,x,y⟩;refine⟨rfl,?_⟩;exact⟨rfl,rfl,bk,fs,h++[w],f,rfl,rfl,rfl,bk,fs,h,f,w,rfl,l,by lia,hw,u,x,λz o p=>⟨f,o,rfl,l,s,p.perm,λr v=>y z o r p v⟩⟩
def Zns(x:XJ K (XH K (X4 ζ) "melded") "melded" "Village.melded" AV ["self"])
  : MZ ζ:=by
 refine x.fy Zce (λg n=>(b1<|sR<|xg Wz g ExcR.XU<|a2 (xe (XX Yu G.Za (hq<|g ()) Kh<|pv 0)<|Kt Tj (Xt 0) XF)<|xe (XX Y6 G.Za (hq<|g ()) ExcR.XU<|pv 0)<|NT AZ (Xt 0) XF)) (.a ?_)
 ·rintro z R X ⟨bk,fs,l,f,w,rfl,p,y,hw,r,s,u⟩;refine⟨rfl,rfl,rfl,bk,fs,l++[w],f,rfl,rfl,rfl,bk,fs,l,f,w,rfl,p,by omega,hw,r,s,λv o h=>⟨f,o,rfl,p,by omega,?_,?_⟩⟩
  ·have:=h.perm.length_eq
   have:=PK f
   omega
  ·rw[Ib h.perm];exact u v o h
def Zd6(DD:Def K mg "_law_all" Eh ["_law_village"])
  : HE ζ:=by
 refine DD.fz PH (λp n=>(bc (sS 1 n<|xe (XX W9 G.Za (hq<|p ()) Kh<|pv 0)<|Kt Zi5 (Xt 0) XF)<|bc (sS 2 n<|xL a0)<|bj (se (ExcR.MT (λpins D=>(Hg (Pu.pz 2 PH.nd<|KS<|Kb (SC Y6 G.Za (hq<|p ()) (ExcR.Sm (pins:=pins) (D:=D) (i:=3) rfl rfl PH.nd rfl rfl rfl G.Zi (by decide) (λa=>(P2<|Pu.pz 2 PH.nd<|KS<|az<|ExcR.Bi (pv 3)<|by rfl)))<|pv 0)<|Kb (SC WG G.Za (hq<|p ()) (ExcR.Sm (pins:=pins) (D:=D) (i:=3) rfl rfl PH.nd rfl rfl rfl G.Zi (by decide) (λa=>(P2<|Pu.pz 2 PH.nd<|KS<|az<|ExcR.Bi (pv 3)<|by rfl)))<|pv 0)<|Kb (SC WE G.Za (hq<|p ()) (ExcR.Sm (pins:=pins) (D:=D) (i:=3) rfl rfl PH.nd rfl rfl rfl G.Zi (by decide) (λa=>(P2<|Pu.pz 2 PH.nd<|KS<|az<|ExcR.Bi (pv 3)<|by rfl)))<|pv 0)<|Kb (SC WH G.Za (hq<|p ()) (ExcR.Sm (pins:=pins) (D:=D) (i:=3) rfl rfl PH.nd rfl rfl rfl G.Zi (by decide) (λa=>(P2<|Pu.pz 2 PH.nd<|KS<|az<|ExcR.Bi (pv 3)<|by rfl)))<|pv 0) KF)<|P2<|Pu.pz 2 PH.nd<|NP KC (pv 2)<|KS<|az<|SC WI G.Za (hq<|p ()) (ExcR.Sm (pins:=pins) (D:=D) (i:=3) rfl rfl PH.nd rfl rfl rfl G.Zi (by decide) (λa=>(P2<|Pu.pz 2 PH.nd<|KS<|az<|ExcR.Bi (pv 3)<|by rfl)))<|pv 0)))<|Zrj (E':=λ_=>E0) G.ZV (λD=>(Ru (T8 (PB<|K6 (Ss AZ (Xt 0) XF)<|K6 (Ss Zcf (Xt 0) XF)<|K6 (Ss Zju (Xt 0) XF)<|K6 (Ss Zck (Xt 0) XF) XF)<|Ko 2)<|T8 (KD (Xt 2)<|PB<|sz<|Ss Zog (Xt 0) XF)<|Ko 2))<|T8 (PB<|sz<|Zrs G.ZU<|Xt 3)<|Ko 2)<|b1<|sF 1<|sR<|xo KC KD (xL<|a1<|xv 1)<|xv 2)) (.a ?_)
 ·rintro ds R X ⟨bk,fs,s,f,w,rfl,x,hz,hw,u,T⟩;refine⟨rfl,rfl,rfl,bk,fs,s,f,w,rfl,x,by lia,λr p B=>?_⟩;refine⟨by simp,?_⟩;refine Nt (λy=>∃A:List D,AllT f w (.lst (r.map D.int)::A)/\y=[some (.bor<|P4 (ExcR.Xx mg "Village") bk (fs++[f]) (s++[w])),some (.sh<|.lst<|r.map D.int),some (.own<|.lst A),none]) ?_ ?_
  ·have z:∀g,FR (X3 f) w g->g≠[]->AllT f w (.lst (r.map D.int)::[.fL g]):=λg h l=>by
    obtain rfl:=h.one p;exact .inl ⟨g,h,l,B,rfl⟩
   refine⟨rfl,rfl,bk,fs,s,f,w,rfl,x,by lia,hw,u,λg h l=>⟨g,rfl,rfl,by simp,_,z g h l,rfl⟩,λJ o H=>?_⟩;refine⟨rfl,rfl,bk,fs,s,f,w,rfl,x,by lia,hw,u,λg h l=>⟨g,rfl,rfl,by simp,_,z g h l,rfl⟩,λ_ v Y=>?_⟩;refine⟨rfl,rfl,bk,fs,s,f,w,rfl,x,by lia,hw,u,λg h l=>⟨g,rfl,rfl,by simp,_,z g h l,rfl⟩,λ_ M Q=>?_⟩;refine⟨rfl,rfl,bk,fs,s,f,w,rfl,x,by lia,hw,u,λg h l=>⟨g,rfl,rfl,by simp,_,z g h l,rfl⟩,λ_ o' N E U=>⟨by simp,?_⟩⟩;refine⟨rfl,rfl,bk,fs,s,f,w,rfl,x,by lia,hw,u,λg h l=>⟨g,rfl,rfl,by simp,_,z g h l,rfl⟩,λ_ o2 C=>⟨by simp,?_⟩⟩;obtain rfl:=Pi.uniq H E;obtain rfl:=Pi.uniq H C;have er:r=[]:=(p.none_iff u).mpr J;subst er;exact⟨rfl,rfl,by simp,_,.inr ⟨J,o,v,M,N,H,Y,Q,U,rfl⟩,rfl⟩
  ·rintro y ⟨A,L,rfl⟩;have B:=L.len;exact⟨by simp,rfl,rfl,by simp at B ⊢;lia,T _ L⟩
def Zml(DD:Def K mg "law" T9 ["_law_script"])
  : Zgd ζ:=by
 refine DD.fz Zoa (λp n=>(bc (sS 1 n<|xf We p<|a1<|xf Wt p<|a2 (xv 0) xi)<|bc (sX 1 xi<|xo XS XQ xi<|xo XN XM (xx (xv 1) xi) xi)<|bc (sS 2 n<|xf Wx p<|a3 (xv 0) (xv 1)<|xo XN XM (xo Kq Ks (xf Yt p<|a2 (xv 0) xi) xi) xi)<|bc (sS 3 n<|xe (Hv YJ G.Zx (hq<|p ()) NU<|az<|PN (NA (K:=K)) (by rfl) G.Zg boot_list<|az<|pv 2)<|Ld<|sz<|NI<|sz<|Xt 2)<|bc (sF 2<|sS 4 n<|xL<|a1<|xt<|a3 (xv 2) (xL a0)<|xt a0)<|bc (sN 4<|sO [5] Qn (iL<|xf W7 p<|a2 (xv 0)<|xv 1) (gN 5)<|b1<|sF 5<|sN 4<|se (Ay (FY<|FP (K:=K)<|fz YN (p ())<|dz (pv 3) (pv 4)<|pv 5) (P2<|Ku TX)
   Ab)<|EV (Cm<|EB<|Cr 3 4 (by decide)<|sz<|Xt 5) (Aa Ng) Aj)<|bc (sO [6] Qn (iL<|xf Wy p<|a2 (xv 0) xi) (gN 6)<|b1<|sN 4<|se (Ay (FY<|FP (K:=K)<|fz YN (p ())<|dz (pv 3) (pv 4)<|fz W8 (p ())<|dz (pv 6) (pv 1)<|jx K (pv 4)<|KQ KN X9) (P2<|Ku TX)
   Ab)<|EV (Cm<|EB<|Cr 3 4 (by decide)<|sz<|TM<|uz (Xt 6) (Xt 1)<|XW (Xt 4)<|KM X2) (Aa Ng) Aj)<|bc (sS 7 n<|xo XN XM (xf Wu p<|a1<|xv 0)<|xl G.len<|xv 4)<|bc (sS 8 n<|xe (Ta Wd G.Za (hq<|p ()) NU (pv 3)<|az<|pv 7)<|Kt Zkg (Xt 3)<|sz<|Xt 7)<|bc (sF 8<|sI (tp<|wo (tN<|tt<|xe (Ka (T3 (K:=K)) (by rfl) G.Zb QJ<|bz (pv 8)<|PV (v:=.ty "tuple") rfl G.Zn boot_tuple rfl)<|Tx<|tz (Xt 8) Tr)<|wO<|tn p (xl G.len<|xv 8) xi) (b1<|sR xb) b0)<|bc (sI (tp<|wo (tN<|tt<|xf Y3 p<|a2 (xx (xv 8) xi)<|xx (xx (xv 4)<|xv 7) xi)<|wO<|tN<|tt<|xf Y3 p<|a2 (xx (xv 8) xi)<|xx (xx (xv 4)<|xv 7) xi) (b1<|sR xb) b0)<|bc (sS 9 n<|xe (Hv YJ G.Zx (hq<|p ()) NU<|az<|jx K (pv 8) X9)<|Ld<|sz<|XW (Xt 8) X2)<|bc (sO [10,11] Qn (iL<|xx (xv 8) xi) (gT 2<|gc (gN 10)<|gc (gN 11) g0)<|b1<|sF 11<|sF 10<|se (Pf<|Ta YK G.Za (hq<|p ()) NU (pv 9)<|bz (pv 10)<|pv 11)<|N7<|NL 9 IA<|tz (Xt 10)<|Xt 11)<|bc (sS 12 n<|xf YO p<|a1<|xv 9)<|bc (sW [] Qn (tc K9 KA (xl G.len<|xv 4)<|xo XS XQ (xv 7) xi)<|b1<|sN 4<|se (Ay (FY<|FP (K:=K)<|fz W6 (p ())<|bz (pv 3)<|pv 4) (P2<|Ku TX)
   Ab)<|EV (Cm<|EB<|Cr 3 4 (by decide) XF) (Aa Ng) Aj)<|bc (sI (tp<|wo (tn p (xe (Ka (Zap (p ()).gd (p ()).units) (by rfl) G.ZR boot_repr<|az<|fz YO (p ())<|az<|pv 3)<|Ra<|sz<|TM<|sz<|Xt 3)<|xe (Ka (Zap (p ()).gd (p ()).units) (by rfl) G.ZR boot_repr<|az<|pv 12)<|Ra<|sz<|Xt 12)<|wO<|tN<|tt<|xf WB p<|a2 (xv 3)<|xv 4) (b1<|sR xb) b0)<|bc (sI (tq p (xl G.len<|xv 12) xi) (b1<|sR<|xf Wv p<|a3 (xx (xv 12) xi) (xf YB p<|a1<|xx (xx (xv 4)<|xe (KQ KN X9)<|KM X2) xi)<|xx (xx (xv 4)<|xe (KQ KN X9)<|KM X2) xi) b0)<|bc (sI (tp<|wo (tN<|tt<|xe (Ka (T3 (K:=K)) (by rfl) G.Zb QJ<|bz (jx K (pv 12) X9)<|PV (v:=.ty "list") rfl G.Zg boot_list rfl)<|Tx<|tz (XW (Xt 12) X2) Tr)<|wO<|tN<|tt<|xf YE p<|a2 (xe (Ka (A5 (K:=K) (w:=w) rfl) (by rfl) G.Zj boot_sorted<|az<|jx K (pv 12) X9)<|F4<|sz<|XW (Xt 12) X2)<|xf YB p<|a1<|xx (xx (xv 4)<|xe (KQ KN X9)<|KM X2) xi) (b1<|sR xb) b0)<|b1<|sR<|xf YE p<|a2 (xL<|a1<|xx (xv 12) xi)<|xL<|a1<|xf Wf p<|a2 (xx (xx (xv 4)<|xe (KQ KN X9)<|KM X2) xi)<|xx (xv 12) xi)) (.a ?_)
 ·rintro ds R X ⟨B,rfl,hR⟩;refine⟨rfl,B,0,rfl,by decide,λc0=>⟨c0,rfl,λm N=>?_⟩⟩;have hM0:=N;obtain⟨a0,a1,a2,a3,a4,em,ha,_⟩:=hM0;have i0:atI (m.map D.int) 0=some (.int a0):=by rw[em];rfl
  have s0:ixN (m.map D.int).length 0=some 0:=by rw[em];rfl
  have N:=Zjz N (v:=1+a0 % 5) (by lia);have es:(m.map D.int).set 0 (.int (1+a0 % 5))=(m.set 0 (1+a0 % 5)).map D.int:=by rw[List.map_set]
  refine⟨_,i0,(by show(0:Int)<5;decide),_,_,s0,rfl,?_⟩;rw[es];generalize m.set 0 (1+a0 % 5)=m at N;refine⟨B,0,rfl,by decide,⟨by decide,by decide⟩,(by show(0:Int)<13;decide),B,m,_,rfl,N,by lia,by lia,λl hF hlen=>?_⟩;have hz:l.length<=40:=by lia
  refine⟨rfl,λx=>⟨x,l,rfl,rfl,by lia,?_⟩⟩;rw[RQ hF hz];refine λb1 J H=>⟨rfl,?_⟩;refine⟨by simp,by simp,by simp,by simp,λa=>?_⟩;refine⟨B,m,rfl,N,λL hq=>?_⟩;refine⟨rfl,PL (xs:=L) (emb:=λq:Int×Int=>dD (Dd.wish q.1 q.2).q) (λi s=>∃h:Kc,h.length<=i/\FineH l h/\s=[some (.bor<|.scr B),some (.own<|m.map D.int),some (.sh<|plD l),some (.own<|vO (ExcR.Xx mg "Village") x b1 J H (bkH h) (fsH l h)<|wsH h),some (.own<|.lsA a<|XB l h),none,none,none,none,none,none,none,none]) ?_ ?_ ?_⟩
  ·exact⟨[],QY _,FineH.nil hF hz,rfl⟩
  ·rintro i s hi ⟨h,U,u,rfl⟩;refine⟨x,b1,J,H,a,l,h,_,rfl,rfl,rfl,by lia,u,.inr ⟨.wish L[i].1 L[i].2,rfl,?_⟩⟩;refine XT ?_;exact⟨P8 l h (.wish L[i].1 L[i].2),by have:=MK l h (.wish L[i].1 L[i].2);lia,u.add _,rfl⟩
  rintro s ⟨h,U,u,rfl⟩;refine⟨B,20,rfl,by decide,by decide,λcs hc=>?_⟩;refine⟨rfl,PL (xs:=cs) (emb:=D.int) (λi s=>∃h:Kc,h.length<=24+i/\FineH l h/\s=[some (.bor<|.scr B),some (.own<|m.map D.int),some (.sh<|plD l),some (.own<|vO (ExcR.Xx mg "Village") x b1 J H (bkH h) (fsH l h)<|wsH h),some (.own<|.lsA a<|XB l h),none,none,none,none,none,none,none,none]) ?_ ?_ ?_⟩
  ·exact⟨h,by lia,u,rfl⟩
  ·rintro i s hi ⟨h,U,u,rfl⟩;obtain⟨⟨C,c2⟩,c3⟩:=u.cur;obtain⟨dl,Y⟩:=Am l h;refine⟨_,Y,_,m,Kd l h,Kf h,[dl],rfl,N,by lia,C,by have:=c3.1;lia,λd=>?_,?_⟩
   ·refine⟨x,b1,J,H,a,l,h,_,rfl,rfl,rfl,by lia,u,.inr ⟨d,rfl,?_⟩⟩;have la:=MK l h d;exact⟨P8 l h d,by lia,u.add d,rfl⟩
   ·refine⟨x,b1,J,H,a,l,h,_,rfl,rfl,rfl,by lia,u,.inl ⟨rfl,?_⟩⟩;have la:h.dropLast.length<=h.length:=by rw[List.length_dropLast];lia
    exact⟨h.dropLast,by lia,u.back,rfl⟩
  rintro s ⟨h,U,u,rfl⟩;have hl0:h.length<=50:=by lia
  clear U hc hq;have lp:=PZ l h;refine⟨B,rfl,λA=>⟨(by show 0<(((XB l h).length:Nat):Int);lia),?_⟩⟩
  obtain⟨i,hi,ei⟩:∃i:Nat,i<=h.length/\(A % (((XB l h).length:Nat):Int))=(i:Int):=by
   have q1:=JJ A (show(((XB l h).length:Nat):Int)≠0 by lia);have q2:=Jk A (show 0<(((XB l h).length:Nat):Int) by lia);exact⟨(A % (((XB l h).length:Nat):Int)).toNat,by lia,by lia⟩
  obtain⟨tf,tw,td,tp⟩:=Za8 (f0:=l) hi;have Q:=FineH.take u i;obtain⟨⟨C,c2⟩,c3⟩:=Q.cur;have Y:atI (XB l h) (A % (((XB l h).length:Nat):Int))=some (.tup [plD (Kd l<|h.take i),plD (Kf<|h.take i),td]):=by rw[ei];exact Te tp
  have T:∀q∈(Kf<|h.take i),q.1≠q.2:=λq hq=>(c3.2.2 q hq).2;have hw2:=c3.1;refine⟨rfl,rfl,bkH h,fsH l h,wsH h,(A % (((XB l h).length:Nat):Int)),rfl,by rw[AD,Nh],by rw[Dz,Nh],λz=>?_,λf w i' y1 y2 e1 e2 e3=>?_⟩
  ·rw[Nh]at z;lia
  obtain rfl:i'=i:=by lia
  obtain rfl:=Qb (tf.symm.trans e2);obtain rfl:=Qb (tw.symm.trans e3);clear e1 e2 e3 tf tw tp;generalize eF:Kd l (h.take i')=F at C c2 Y;generalize eW:Kf (h.take i')=W at c3 Y T hw2;refine⟨true,.same _,XT ?_⟩;refine⟨_,rfl,_,Y,_,rfl,F,rfl,by lia,XT ?_⟩;refine⟨_,rfl,_,Y,_,rfl,W,rfl,by lia,XT ?_⟩;refine⟨_,rfl,λx2=>⟨x2,F,rfl,rfl,by lia,?_⟩⟩;rw[RQ C c2];refine λd1 d2 d3=>⟨rfl,?_⟩;refine⟨_,rfl,rfl,PL (xs:=W) (emb:=prD) (λj s=>∃(bk:List (Str×Yg)) (fs E:List (Yf)),bk.length=j/\fs.length=j/\E.length=j/\s=[some (.bor<|.scr B),some (.own<|m.map D.int),some (.sh<|plD l),some (.own<|vO (ExcR.Xx mg "Village") x b1 J H (bkH h) (fsH l h)<|wsH h),some (.own<|.lsA a<|XB l h),none,none,some (.sh<|.int (A % (((XB l h).length:Nat):Int))),some (.sh<|.tup [plD F,plD W]),some (.own<|vO (ExcR.Xx mg "Village") x2 d1 d2 d3 bk (fs++[F]) (E++[W.take j])),none,none,none]) ⟨[],[],[],rfl,rfl,rfl,rfl⟩ ?_ ?_⟩
  ·rintro j hj s ⟨bk,fs,E,l1,l2,l3,rfl⟩;have hwe:=Ziw c3 hj;refine⟨rfl,rfl,rfl,x2,d1,d2,d3,bk,fs,E,F,W.take j,W[j].1,W[j].2,rfl,rfl,by lia,by lia,by lia,by rw[Qp];lia,?_⟩;unfold BU;rw[WS (by lia),hwe];refine⟨bk++[(("wish" : Str),[W[j].1,W[j].2])],fs++[F],E++[W.take j],by rw[WW];simp;lia,by rw[WW];simp;lia,by rw[WW];simp;lia,?_⟩;rw[Qm hj];rfl
  rintro s ⟨bk,fs,E,l1,l2,l3,rfl⟩;rw[QO];refine⟨bk,fs,E,F,W,rfl,C,c2,by lia,T,λes hA=>?_⟩;refine FT (λs=>∃j,i'<=j/\j<=h.length/\s=[some (.bor<|.scr B),some (.own<|m.map D.int),some (.sh<|plD l),some (.own<|vO (ExcR.Xx mg "Village") x b1 J H (bkH<|h.take j) (fsH l<|h.take j)<|wsH<|h.take j),some (.own<|.lsA a<|XB l<|h.take j),none,none,some (.sh<|.int (A % (((XB l h).length:Nat):Int))),some (.sh<|.tup [plD F,plD W]),some (.own<|vO (ExcR.Xx mg "Village") x2 d1 d2 d3 bk (fs++[F]) (E++[W])),none,none,some (.own<|.lst es)]) Zjk ⟨h.length,hi,WU _,by rw[QO];rfl⟩ ?_;rintro s ⟨j,hj1,hj2,rfl⟩;have lj:(h.take j).length=j:=by rw[Qp];lia
  have lpj:=PZ l (h.take j);rw[lj]at lpj;refine Xy (λg=>?_) (λg=>?_)
  ·have g':(A % (((XB l h).length:Nat):Int))+1<(((XB l<|h.take j).length:Nat):Int):=WR g;refine⟨x,b1,J,H,a,l,h.take j,rfl,rfl,rfl,by lia,?_⟩;rw[Zm5 h hj2];refine⟨⟨j-1,by lia,by lia,rfl⟩,?_⟩;show(XB l<|h.take (j-1)).length<(XB l<|h.take j).length;rw[PZ,PZ,lj,Qp];lia
  have g':¬(A % (((XB l h).length:Nat):Int))+1<(((XB l<|h.take j).length:Nat):Int):=λz=>g (WM z);obtain rfl:j=i':=by lia
  clear g g' lpj hj1;obtain⟨fs',ef,lf⟩:=Fm l (h.take j);obtain⟨ws',ew,lw⟩:=Ak (h.take j);obtain⟨dl,y⟩:=Am l (h.take j);rw[eF]at ef y;rw[eW]at ew y;have hk:=hA.rk C c2 T;refine⟨bkH (h.take j),fs',ws',F,W,by rw[←ef,←ew];rfl,C,c2,by lia,T,λes' hA'=>?_⟩;obtain rfl:=hA'.uniq T hA;refine⟨Gw hk.1,⟨_,rfl⟩,M9 hk.2,⟨Gw hk.1,⟨_,rfl⟩,M9 hk.2,?_⟩⟩;refine Tz rfl ?_;refine⟨l,h.take j,rfl,by lia,Q.len.1,Q.len.2,XT ?_⟩;rcases hA with⟨r,U,u,h3,rfl⟩|⟨hNo,o,v,vs,ms,M,k2,k3,k4,rfl⟩
  ·exact⟨_,rfl,_,y,_,rfl,F,rfl,by lia,_,y,_,rfl,r,X3 F,W,rfl,by lia,(U.ring T u).1,hR⟩
  have lo:o.length<=10:=by rw[M.perm.length_eq];exact PK F
  have ev:T1 F o F.length=v:=by
   have e:oc (pcc F) o=T1 F o F.length:=Zsg C M.perm;rw[←e];exact(KH.uniq ⟨⟨o,M.perm,M.keeps,rfl⟩,M.le⟩ k2)
  refine⟨_,rfl,true,.same _,XT ⟨_,rfl,o,rfl,by lia,λns' p1 p2=>?_⟩⟩;obtain rfl:=M7 M.perm p1 p2;have lh:=PK F;refine⟨_,y,_,rfl,F,rfl,by lia,X3 F,.inl rfl,by lia,XT ?_⟩;refine⟨_,rfl,by simp,_,y,_,rfl,_,rfl,F,o,rfl,C,by lia,HG C M.perm,?_⟩;rw[ev];exact⟨by simp,[v],.inl rfl,by simp,hR⟩
end
end T
namespace T
open L2 Own M
def Zi8{l:PySem.W.OpenLaw}{w:World}{K:Ye}{h:Heap}{g:Yi}{fa:Addr}(X:K.In h)(f:h.Ns mainGlobals g)(hfa:g "law"=some (.ref fa)){n:Addr}(Ui:PySem.W.nsIn K mainGlobals "Village"=some (some<|.ref n))(U0:PySem.W.plainGet K n Str.empty=true)(U1:PySem.W.hasDictIn K n=true)(U2:PySem.W.plainOver K n=true)(U3:PySem.W.findIn K (.ref n) "__setattr__"=some (some<|.builtin "object.__setattr__"))(U4:PySem.W.makesIn K n=true)(U5:PySem.W.keepIn K (.ref n)=true)(U6:PySem.W.findIn K (.ref n) "book"=some none)(U7:PySem.W.findIn K (.ref n) "fields"=some none)(U8:PySem.W.findIn K (.ref n) "wished"=some none)(a1:Pu.DI K "check_holder" Ds)(a2:Pu.DI K "check_width" CU)(a3:Pu.DI K "check_strips" AM)(a4:Pu.DI K "holders_of" Co)(a5:Pu.DI K "check_order" D8)(a6:Pu.DI K "gathered" AQ)(a7:Pu.DI K "pair_cost" Ep)(a8:Pu.DI K "own_numbers" Ct)(a9:Pu.DI K "exchange_cost" Cf)(a10:Pu.DI K "exchanged" Gk)(a11:Pu.DI K "first_wrong_place" Eo)(a12:Pu.DI K "told_moves" AU)(a13:Pu.DI K "check_neighbours" Da)(a14:Pu.DI K "longer_paths" Ed)(a15:Pu.DI K "ring_from" Dv)(a16:Pu.DI K "find_ring" EA)(a17:Pu.DI K "check_no_ring" DM)(a18:Pu.DI K "check_place" Cv)(a19:Pu.DI K "sold" DP)(a20:Pu.DI K "parted" D2)(a21:Pu.DI K "united" Dc)(a22:Pu.DI K "with_wish" Ew)(a23:Pu.DI K "without_wish" EJ)(a24:Pu.DI K "pair_costs" Eb)(a25:Pu.DI K "sets_of" E3)(a26:Pu.DI K "without" El)(a27:Pu.DI K "may_lie_last" EF)(a28:Pu.DI K "may_lie_first" Dk)(a29:Pu.DI K "cost_with_last" AF)(a30:Pu.DI K "cost_with_first" Gs)(a31:Pu.DI K "least_costs" E1)(a32:Pu.DI K "cost_table" Ga)(a33:Pu.DI K "best_order" EH)(a34:Pu.DI K "least_cost" EX)(a35:Pu.MI K n "__init__" "Village.__init__" Dy)(a36:Pu.MI K n "strips" "Village.strips" Dl)(a37:Pu.MI K n "wishes" "Village.wishes" EW)(a38:Pu.MI K n "deeds" "Village.deeds" DY)(a39:Pu.MI K n "check_room" "Village.check_room" CZ)(a40:Pu.MI K n "enter" "Village.enter" EN)(a41:Pu.MI K n "sell" "Village.sell" Gm)(a42:Pu.MI K n "part" "Village.part" AL)(a43:Pu.MI K n "unite" "Village.unite" Dq)(a44:Pu.MI K n "wish" "Village.wish" De)(a45:Pu.MI K n "drop" "Village.drop" A8)(a46:Pu.MI K n "take_back" "Village.take_back" AC)(a47:Pu.MI K n "stood" "Village.stood" DX)(a48:Pu.MI K n "ring" "Village.ring" Cn)(a49:Pu.MI K n "order" "Village.order" Ca)(a50:Pu.MI K n "cost" "Village.cost" Cd)(a51:Pu.MI K n "table" "Village.table" Du)(a52:Pu.MI K n "moves" "Village.moves" Cq)(a53:Pu.MI K n "melded" "Village.melded" AV)(a54:Pu.DI K "_law_at" Cu)(a55:Pu.DI K "_law_whole" D3)(a56:Pu.DI K "_law_mix" Et)(a57:Pu.DI K "_law_draw" D7)(a58:Pu.DI K "_law_spare" Gh)(a59:Pu.DI K "_law_menu" D9)(a60:Pu.DI K "_law_holder" Dp)(a61:Pu.DI K "_law_row" AS)(a62:Pu.DI K "_law_tuples" DH)(a63:Pu.DI K "_law_deed_is" Er)(a64:Pu.DI K "_law_book_is" DE)(a65:Pu.DI K "_law_present" AN)(a66:Pu.DI K "_law_price" Ef)(a67:Pu.DI K "_law_is_ring" Eu)(a68:Pu.DI K "_law_field_step" EU)(a69:Pu.DI K "_law_wish_step" ED)(a70:Pu.DI K "_law_step" CP)(a71:Pu.DI K "_law_call" EO)(a72:Pu.DI K "_law_back" Dh)(a73:Pu.DI K "_law_stands" Gj)(a74:Pu.DI K "_law_go" EE)(a75:Pu.DI K "_law_start" Es)(a76:Pu.DI K "_law_days" DZ)(a77:Pu.DI K "_law_odd" CQ)(a78:Pu.DI K "_law_place" Ey)(a79:Pu.DI K "_law_pair" Ez)(a80:Pu.DI K "_law_opening" Eg)(a81:Pu.DI K "_law_width" DT)(a82:Pu.DI K "_law_deed" Cw)(a83:Pu.DI K "_law_all" Eh){Q:Addr}{od84 N:Yr}{sl84:Array (Yq)}{oc84 J L H x M:Value}(a84:PySem.W.nsIn K mainGlobals "law"=some (some<|.ref Q))(l84:K.lookup Q=some ⟨oc84,od84,.func (PySem.W.fnOf "law" "law" (P9 T9) (XZ T9) (Xv T9) .none J L H N x M),sl84⟩)(c84:PySem.W.codeIn K x "law"=true)(k84:PySem.W.keepIn K (.ref Q)=true)(U9:PySem.W.nsIn K mainGlobals "ValueError"=some none)(UA:PySem.W.nsIn K mainGlobals "any"=some none)(UB:PySem.W.nsIn K mainGlobals "bool"=some none)(UC:PySem.W.nsIn K mainGlobals "int"=some none)(UD:PySem.W.nsIn K mainGlobals "isinstance"=some none)(UE:PySem.W.nsIn K mainGlobals "len"=some none)(UF:PySem.W.nsIn K mainGlobals "list"=some none)(UG:PySem.W.nsIn K mainGlobals "max"=some none)(UH:PySem.W.nsIn K mainGlobals "min"=some none)(UI:PySem.W.nsIn K mainGlobals "range"=some none)(UJ:PySem.W.nsIn K mainGlobals "repr"=some none)(UK:PySem.W.nsIn K mainGlobals "set"=some none)(UL:PySem.W.nsIn K mainGlobals "sorted"=some none)(UM:PySem.W.nsIn K mainGlobals "str"=some none)(UN:PySem.W.nsIn K mainGlobals "sum"=some none)(UO:PySem.W.nsIn K mainGlobals "tuple"=some none){UY:Tok}(UP:PySem.W.nsIn K mainGlobals "HOLDERS"=some (some<|.int 10 UY)){UZ:Tok}(UQ:PySem.W.nsIn K mainGlobals "STRIPS"=some (some<|.int 40 UZ)){Xa:Tok}(UR:PySem.W.nsIn K mainGlobals "WIDEST"=some (some<|.int 1000 Xa)){Xb:Tok}(US:PySem.W.nsIn K mainGlobals "MOST_WISHES"=some (some<|.int 20 Xb)){Xc:Tok}(UT:PySem.W.nsIn K mainGlobals "MOST_DEEDS"=some (some<|.int 100 Xc)){UW:Addr}(Ue:Pu.EI K "MeldError" UW){Xd:Addr}(Uj:Pu.EI K "TooManyStrips" Xd){Xe:Addr}(Uk:Pu.EI K "BadHolder" Xe){Xf:Addr}(Ul:Pu.EI K "BadWidth" Xf){Xg:Addr}(Um:Pu.EI K "NoStrip" Xg){Xh:Addr}(Uo:Pu.EI K "BadOrder" Xh){Xi:Addr}(Up:Pu.EI K "OwnStrip" Xi){Xj:Addr}(Uq:Pu.EI K "BadPart" Xj){Xk:Addr}(Ur:Pu.EI K "UnlikeHolders" Xk){Xl:Addr}(Us:Pu.EI K "TooWide" Xl){Xm:Addr}(Ut:Pu.EI K "LikeHolders" Xm){Xn:Addr}(Uu:Pu.EI K "WishStands" Xn){Xo:Addr}(Uv:Pu.EI K "TooManyWishes" Xo){Xp:Addr}(Uw:Pu.EI K "NoWish" Xp){Xq:Addr}(Ux:Pu.EI K "BookFull" Xq){Ug:Addr}(Uh:Pu.EI K "NothingDone" Ug){Xr:Addr}(Uy:Pu.EI K "NoSuchDeed" Xr){UU:Addr}(Ud:Pu.RI K "Ringed" UU "Ringed.__init__" Dj)(x_Ringed:PySem.W.exmOne K (.ref UU) (.ref UU)=some true)(x_NothingDone_NothingDone:PySem.W.exmOne K (.ref Ug) (.ref Ug)=some true)(k_NothingDone_MeldError:PySem.W.kitOne K (.ref Ug) (.ref UW)=some true)(k_NothingDone_ValueError:PySem.W.kitOne K (.ref Ug) (.type "ValueError")=some true)
  : ∃fd:FuncData,(∀(s:Shared) (v:Value),BindsTo s fd ⟨[v],[]⟩ [("_law_script",v)])/\∀base:Heap,K.In base->base.Ns mainGlobals g->KG l.prog w K g base CX0 9 fa fd ["_law_script"] (Pu.A9 K):=by
 have e:=hfa.symm.trans (QI X f a84);cases e
 have Xs:=Ue.c X f;have UV:=Uh.c X f;have UX:=Ud.c X f;have p:=ExcR.CL (QI X f Ui);have G:Glob K g:=⟨Qx X f U9,Qx X f UA,Qx X f UB,Qx X f UC,Qx X f UD,Qx X f UE,Qx X f UF,Qx X f UG,Qx X f UH,Qx X f UI,Qx X f UJ,Qx X f UK,Qx X f UL,Qx X f UM,Qx X f UN,Qx X f UO,⟨_,QI X f UP,⟨_,rfl⟩⟩,⟨_,QI X f UQ,⟨_,rfl⟩⟩,⟨_,QI X f UR,⟨_,rfl⟩⟩,⟨_,QI X f US,⟨_,rfl⟩⟩,⟨_,QI X f UT,⟨_,rfl⟩⟩,(Ue.m X f),(Ue.k X f),(Uj.m X f),(Uj.k X f),(Uk.m X f),(Uk.k X f),(Ul.m X f),(Ul.k X f),(Um.m X f),(Um.k X f),(Uo.m X f),(Uo.k X f),(Up.m X f),(Up.k X f),(Uq.m X f),(Uq.k X f),(Ur.m X f),(Ur.k X f),(Us.m X f),(Us.k X f),(Ut.m X f),(Ut.k X f),(Uu.m X f),(Uu.k X f),(Uv.m X f),(Uv.k X f),(Uw.m X f),(Uw.k X f),(Ux.m X f),(Ux.k X f),(Uh.m X f),(Uh.k X f),(Uy.m X f),(Uy.k X f),(Ud.m X f),(Ud.i X f),(by rw[UX];exact x_Ringed),(by rw[UV];exact x_NothingDone_NothingDone),(by rw[UV,Xs];exact k_NothingDone_MeldError),(by rw[UV];exact k_NothingDone_ValueError),(by rw[p];exact QI X f Ui),(by rw[p];exact⟨U0,U1,U2,U3⟩),(by rw[p];exact U6),(by rw[p];exact U7),(by rw[p];exact U8)⟩;have T:=F6 (st:=T9) l84 c84 k84;have b84:=T.binds (ps:=["_law_script"]) λ_ _ _ _ _ _ us hl=>by obtain⟨_,rfl⟩:=Pu.BR hl;rfl
 have D84:Def K g "law" T9 ["_law_script"]:=⟨_,_,T,QI X f a84,b84⟩;refine⟨PySem.W.fnOf "law" "law" (P9 T9) (XZ T9) (Xv T9) .none J L H N x M,λs v=>.of_eq rfl,λbase _ _=>?_⟩;have C0:=@Zos l.prog w K g base G (Ud.j UX);have C1:=@Zcq l.prog w K g base ⟨⟩ G (a1.e X f);have C2:=@Zli l.prog w K g base ⟨⟩ G (a2.e X f);have C4:=@Zmd l.prog w K g base G (a4.e X f);have C7:=@Zqd l.prog w K g base ⟨⟩ (a7.e X f);have C8:=@Zj5 l.prog w K g base ⟨⟩ G (a8.e X f);have C9:=@Zh7 l.prog w K g base ⟨⟩ (a9.e X f);have C10:=@Ze9 l.prog w K g base ⟨⟩ (a10.e X f);have C11:=@Zma l.prog w K g base ⟨⟩ G (a11.e X f);have C13:=@Zd1 l.prog w K g base ⟨⟩ G (a13.e X f);have C14:=@Zkq l.prog w K g base ⟨⟩ (a14.e X f);have C18:=@Zb4 l.prog w K g base ⟨⟩ G (a18.e X f);have C23:=@Za6 l.prog w K g base ⟨⟩ G (a23.e X f);have C25:=@Zse l.prog w K g base ⟨⟩ (a25.e X f);have Y:=@Zcj l.prog w K g base ⟨⟩ G (a26.e X f);have C27:=@Zow l.prog w K g base ⟨⟩ G (a27.e X f);have C28:=@Ze5 l.prog w K g base ⟨⟩ G (a28.e X f);have o:=@Zhz l.prog w K g base ⟨⟩ G (a36.e p);have r:=@Zia l.prog w K g base ⟨⟩ G (a37.e p);have C38:=@Zm2 l.prog w K g base ⟨⟩ G (a38.e p);have C:=@Zdv l.prog w K g base ⟨⟩ G (a39.e p);have B:=@Zlx l.prog w K g base ⟨⟩ G (a40.e p);have C46:=@Zjo l.prog w K g base ⟨⟩ G (a46.e p);have C47:=@Zfq l.prog w K g base ⟨⟩ G (a47.e p);have u:=@Zjc l.prog w K g base ⟨⟩ G (a54.e X f);have A:=@Zd8 l.prog w K g base ⟨⟩ G (a55.e X f);have y:=@Zpi l.prog w K g base ⟨⟩ (a56.e X f);have C59:=@Zfe l.prog w K g base ⟨⟩ (a59.e X f);have E:=@Zh4 l.prog w K g base ⟨⟩ (a60.e X f);have C65:=@Zk0 l.prog w K g base ⟨⟩ G (a65.e X f);have C66:=@Zbi l.prog w K g base ⟨⟩ G (a66.e X f);have C68:=@Zib l.prog w K g base ⟨⟩ G (a68.e X f);have C69:=@Zr3 l.prog w K g base ⟨⟩ G (a69.e X f);have C77:=@Zsd l.prog w K g base ⟨⟩ (a77.e X f);have C78:=@Zew l.prog w K g base ⟨⟩ G (a78.e X f);have C81:=@Zbh l.prog w K g base ⟨⟩ G (a81.e X f);have C3:=Zd0 ⟨⟩ G C1 C2 (a3.e X f);have C5:=Zdt ⟨⟩ G (SK C4) (a5.e X f);have C15:=Zhr ⟨⟩ G C14 (a15.e X f);have C19:=Zfw ⟨⟩ G C1 C18 (a19.e X f);have C20:=Zq8 ⟨⟩ G C18 (a20.e X f);have C21:=Zqp ⟨⟩ G C13 (a21.e X f);have C22:=Zm0 ⟨⟩ G C1 (a22.e X f);have C24:=Zom ⟨⟩ (SK C4) C7 (a24.e X f);have C29:=Znj ⟨⟩ G Y (a29.e X f);have C30:=Zpj ⟨⟩ G Y (a30.e X f);have C45:=Zlz ⟨⟩ G C23 o r C B (a45.e p);have C57:=Za7 ⟨⟩ u y (a57.e X f);have C58:=Zd5 ⟨⟩ u y (a58.e X f);have C61:=Zbs ⟨⟩ G A (a61.e X f);have C62:=Zgk ⟨⟩ G A (a62.e X f);have C63:=Zby ⟨⟩ G A (a63.e X f);have C67:=Zf6 ⟨⟩ G A (a67.e X f);have C70:=Znu ⟨⟩ C68 C69 (a70.e X f);have C75:=Zqt ⟨⟩ G u y E (a75.e X f);have C76:=Zks ⟨⟩ G u y (a76.e X f);have C79:=Zch ⟨⟩ G E C77 (a79.e X f);have C6:=Zo0 ⟨⟩ C5 (a6.e X f);have C12:=Zg2 ⟨⟩ C8 C9 C10 C11 C5 (a12.e X f);have C16:=Zpo ⟨⟩ G C15 (a16.e X f);have C31:=Zkx ⟨⟩ G (SK C4) C25 C27 C29 (a31.e X f);have C35:=Zrh ⟨⟩ G C3 (a35.j p U4 U5);have C41:=Zic ⟨⟩ G o r C B C19 (a41.e p);have C42:=Zly ⟨⟩ G o r C B C20 (a42.e p);have C43:=Zcm ⟨⟩ G o r C B C21 (a43.e p);have C44:=Zqf ⟨⟩ G o r C B C22 (a44.e p);have C64:=Zrb ⟨⟩ G C63 (a64.e X f);have C72:=Zny ⟨⟩ G C46 C63 (a72.e X f);have C80:=Zps ⟨⟩ G u y E C79 (a80.e X f);have C82:=Zec ⟨⟩ G E C77 C78 C81 C79 (a82.e X f);have C17:=Zl3 ⟨⟩ G C0 (SK C4) C16 (a17.e X f);have C48:=Ze4 ⟨⟩ G (SK C4) o r C16 (a48.e p);have C71:=Zlc ⟨⟩ G C45 C41 C42 C43 C44 (a71.e X f);have C73:=Zhd ⟨⟩ G o r C38 C62 C64 (a73.e X f);have C32:=Zex ⟨⟩ G C24 C31 C17 (a32.e X f);have C33:=Zg8 ⟨⟩ G (SK C4) Y C28 C24 C30 C31 C17 (a33.e X f);have C74:=Zoi ⟨⟩ G C46 A C70 C71 (a74.e X f);have C34:=Zf7 ⟨⟩ C32 (a34.e X f);have U:=Zga ⟨⟩ G o r C33 (a49.e p);have C51:=Zie ⟨⟩ G o r C32 (a51.e p);have C50:=Zrv ⟨⟩ G o r C34 (a50.e p);have C52:=Zht ⟨⟩ G o C12 U (a52.e p);have C53:=Zns ⟨⟩ G o C6 U (a53.e p)
 have C83:=Zd6 ⟨⟩ G C48 U C51 C50 C52 C53 (a83.e X f);have C84:=Zml ⟨⟩ G C47 u C59 C65 C66 C57 C58 C61 C62 C67 C75 C76 C35 C44 C72 C80 C82 C73 C74 C83 D84;exact(C84.at (QI X f a84) T D84).imp λ_ _ _ _ z=>Pu.Zd9 z
end T
namespace PySem.W.Fast
def I:True:=⟨⟩
def tw5418143702531102303:=I
def tw569587307947333824:=I
def tw14344009392612449472:=I
def tw5944357383737443552:=I
def tw13517346233777799392:=I
def tw16234190904438758656:=I
def tw17082101022577426816:=I
def tw10173114958407828896:=I
def tw3822439631761208768:=I
def tw8507454385346677216:=I
def tw9465690217015093728:=I
def tw15617897429380411872:=I
def tw2867733889598003712:=I
def tw10611024152116844160:=I
def tw4002260789083123360:=I
def tw16091376337173839520:=I
def tw9577721957604148960:=I
def tw17981499236282636064:=I
def tw14040829941249774400:=I
def tw2534009059450124096:=I
def tw979711575265386336:=I
def tw13029113636074057696:=I
def tw976901331422248993:=I
def tw4900352612363294849:=I
def tw9175229959466434721:=I
def tw2555653305148012801:=I
def tw10180692380060402017:=I
def tw11588732703579686305:=I
def tw10131102275677219233:=I
def tw7664495514883721665:=I
def tw3653085664479534529:=I
def tw3755526407892348385:=I
def tw15769980948114552353:=I
def tw9295644272177144385:=I
def tw3055314238824691297:=I
def tw16453466618497363553:=I
def tw12834818851550513793:=I
def tw5137153890609461889:=I
def tw8366396628579608225:=I
def tw15392787217289311905:=I
def tw11159770043398679233:=I
def tw3451712264637866721:=I
def tw8809915223093828353:=I
def tw11491380314657221377:=I
def tw17441149018407600993:=I
def tw18387118949300165473:=I
def tw2416079530979063745:=I
def tw6719612668027376642:=I
def tw11701931449829547010:=I
def tw170368046132257794:=I
def tw2306312677801969794:=I
def tw12862117425139003554:=I
def tw16583566282201216162:=I
def tw13496273569059887298:=I
def tw13323527222108509442:=I
def tw16686187262486407426:=I
def tw13568283535740585314:=I
def tw11641177354249908610:=I
def tw17915724198073581986:=I
def tw12690265739697969570:=I
def tw11579304905414866370:=I
def tw1100046226261357026:=I
def tw12999695362839477730:=I
def tw12134971448885602850:=I
def tw13337073853857155650:=I
def tw5361033344833415746:=I
def tw12037381199193157250:=I
def tw6827804371036732034:=I
def tw12323290899051546274:=I
def tw4542751080298155682:=I
def tw140767759938711234:=I
def tw11190477515182405346:=I
def tw1176421161831310082:=I
def tw9685420122893794050:=I
def tw16341473381658510082:=I
def tw2319167117772835618:=I
def tw11175465437761883970:=I
def tw12966007957573953346:=I
def tw7420988520697060226:=I
def tw7389160465440632738:=I
def tw4941479850353251266:=I
def tw360624406451268578:=I
def tw4850578414072893475:=I
def tw9334423854074056771:=I
def tw2246667140163437667:=I
def tw2964088737428510819:=I
def tw12984219788402878563:=I
def tw12732783913467863203:=I
def tw7925361350876529859:=I
def tw5249994069846492355:=I
def tw897257300835637475:=I
def tw15704562220174463299:=I
def tw14050884632388974979:=I
def tw10900987744741702051:=I
def tw7347279120176260547:=I
def tw14791599223529316867:=I
def tw17940839585892977155:=I
def tw3922540921847579171:=I
def tw6121393230141979171:=I
def tw6962059279957843523:=I
def tw10113815250757019203:=I
def tw3617699473407756899:=I
def tw15970399734689483395:=I
def tw1606493362652095139:=I
def tw11776210494312746723:=I
def tw12032928319408852707:=I
def tw4343833872903792355:=I
def tw17358390195872040707:=I
def tw922482569784952579:=I
def tw1065967201648652099:=I
def tw16120723632585736003:=I
def tw7029301072083462083:=I
def tw1433616603318151107:=I
def tw10503301532809694212:=I
def tw4697941830316677124:=I
def tw2144599496980475940:=I
def tw16681076204869293124:=I
def tw18188275361395583076:=I
def tw17131846154627432644:=I
def tw556165986124238052:=I
def tw11268514100866523364:=I
def tw1370124091938195684:=I
def tw16370435505726488836:=I
def tw5736052522689480964:=I
def tw10594895813237813540:=I
def tw15661722269845476644:=I
def tw9193442808796640548:=I
def tw11003532681945727300:=I
def tw4071693260808729956:=I
def tw15292426028218404292:=I
def tw15667419134695589412:=I
def tw7777407730787454532:=I
def tw16246156337317585476:=I
def tw9947613163779846724:=I
def tw1721504502571562564:=I
def tw17156997526070525572:=I
def tw5873670951909717668:=I
def tw1889626939404028644:=I
def tw17595142461650689764:=I
def tw15028515590821321476:=I
def tw2188653550507006756:=I
def tw10644482417876297508:=I
def tw14802438899490105188:=I
def tw1462110936892662660:=I
def tw11538495995977664452:=I
def tw242695360178756548:=I
def tw13290840530483923940:=I
def tw15433955328573504484:=I
def tw2960339514210802693:=I
def tw18069563604858178597:=I
def tw7424573132524000293:=I
def tw5573122897241243717:=I
def tw17137568359401377861:=I
def tw4573758214930987077:=I
def tw102284164806870117:=I
def tw10637300315636860037:=I
def tw321656760954767493:=I
def tw7514851475066333349:=I
def tw1236508056945394917:=I
def tw8596028857965234597:=I
def tw12917548531848280485:=I
def tw14436694123842542021:=I
def tw3916623078575238597:=I
def tw7573669814278834661:=I
def tw9620823896615397:=I
def tw17940721411131418117:=I
def tw10644437785540555269:=I
def tw3883127482833471013:=I
def tw13993096253262216773:=I
def tw7371591060786112069:=I
def tw6993383924535062085:=I
def tw4551397225115884165:=I
def tw16795637335617939077:=I
def tw322024148485371557:=I
def tw18120254065668236037:=I
def tw2677072846926621445:=I
def tw17534499249568169765:=I
def tw3186798741326711589:=I
def tw17967637561084516261:=I
def tw13194211008173106085:=I
def tw12710299452122474437:=I
def tw1760568360449996741:=I
def tw15189093276479717349:=I
def tw665257267325770822:=I
def tw16173522376819932230:=I
def tw15204048020373536870:=I
def tw14187427917679495302:=I
def tw13480580178094565542:=I
def tw9833772789142831270:=I
def tw4426412657389891782:=I
def tw14634039516826876134:=I
def tw17542940208040955110:=I
def tw11367212157255267590:=I
def tw10086801052911351046:=I
def tw15401333209569577222:=I
def tw1115196141740819750:=I
def tw13901912167946278182:=I
def tw6454424813773693286:=I
def tw16169384217823182182:=I
def tw18327141645802609030:=I
def tw9978199376636197254:=I
def tw5586520885571139974:=I
def tw9895891049706408326:=I
def tw9361467348535299462:=I
def tw5435520556740300198:=I
def tw10846363970338064966:=I
def tw4358793465084030534:=I
def tw10681230597085659750:=I
def tw8236561126758110822:=I
def tw15216421480487625350:=I
def tw11090041350555453062:=I
def tw9000106975521827494:=I
def tw4922593714947370694:=I
def tw3535368488560002790:=I
def tw8362903329340905190:=I
def tw15881060442862056166:=I
def tw8404088632569755366:=I
def tw16119272216235546374:=I
def tw12024155188023736070:=I
def tw16611851868659129126:=I
def tw12824805768855070502:=I
def tw11836982712992990022:=I
def tw8332059021677690694:=I
def tw16592081698134014854:=I
def tw1118369794049962918:=I
def tw16115982525951314886:=I
def tw160254033963511750:=I
def tw14817900036353085447:=I
def tw5195469000442343431:=I
def tw17138900367902733351:=I
def tw15796096774024411207:=I
def tw8278220822656464999:=I
def tw10648680340006671495:=I
def tw17849475144224915591:=I
def tw4451537283704505479:=I
def tw11568361209571697799:=I
def tw18094876500566894727:=I
def tw16489090256885222567:=I
def tw17309642810561708199:=I
def tw17391175851596579015:=I
def tw7496368771811708103:=I
def tw8730972103920948487:=I
def tw18360761976722366759:=I
def tw3476160518631650599:=I
def tw11486013597952135495:=I
def tw9504780067965851975:=I
def tw8388084314678185319:=I
def tw7631065206072199559:=I
def tw2775456230797286823:=I
def tw4267043406937570791:=I
def tw6568040864141557255:=I
def tw970370017590627847:=I
def tw12955787078602614279:=I
def tw9869394612884271623:=I
def tw16007964895878741511:=I
def tw1959873007605721703:=I
def tw8545163736910937703:=I
def tw16195349957320899175:=I
def tw6495475689053299367:=I
def tw10740232844951844519:=I
def tw3389766952389273287:=I
def tw6269530306350943975:=I
def tw11270416294453883623:=I
def tw13981034336175848167:=I
def tw12570160289599847143:=I
def tw12474348955459710951:=I
def tw2036849022861963239:=I
def tw3907402301953989640:=I
def tw5685007568368778280:=I
def tw18374740403779159080:=I
def tw9544137030366174280:=I
def tw7226991801523064904:=I
def tw15725939455365439560:=I
def tw11750764329371787368:=I
def tw2771623015734120616:=I
def tw1203127952598657224:=I
def tw15541946495560249544:=I
def tw7443109790190421288:=I
def tw16381243397749115272:=I
def tw2461398582659814920:=I
def tw6383494403571675688:=I
def tw15596155365743620648:=I
def tw4604041366596039240:=I
def tw12480925330818487880:=I
def tw18285609775755630248:=I
def tw17583527002621516488:=I
def tw17197372678231736040:=I
def tw10500659268586571528:=I
def tw9613157060377168648:=I
def tw6189850893515785000:=I
def tw6012548018658150216:=I
def tw1847952201572177768:=I
def tw17710254550730919816:=I
def tw18005381356553499528:=I
def tw17726389757273874344:=I
def tw7573145180945764328:=I
def tw3617045477979336745:=I
def tw1539022128783430793:=I
def tw6020170512947170441:=I
def tw11628150559394862281:=I
def tw12177066153975683273:=I
def tw4463776879748235497:=I
def tw10777231636048931113:=I
def tw12485951045842547017:=I
def tw7300607379183744361:=I
def tw12564307566130411881:=I
def tw9548601586731076969:=I
def tw16182780814438133129:=I
def tw8557552195623509417:=I
def tw9700199315750442473:=I
def tw15932727523248092745:=I
def tw1049430833879849577:=I
def tw1671423349925429865:=I
def tw9585265706966218345:=I
def tw6925755327595695753:=I
def tw13811446544345920265:=I
def tw9268377822581770025:=I
def tw13438780342447018825:=I
def tw10956516005433881545:=I
def tw2781278375311306697:=I
def tw6375502152444805065:=I
def tw4299020578939838441:=I
def tw1571661529589696489:=I
def tw15241436692197798889:=I
def tw10805925307310995498:=I
def tw9419378292422453322:=I
def tw13375196547044115594:=I
def tw13509219129961571466:=I
def tw8318957411849152746:=I
def tw13899515666864412938:=I
def tw14328370995803411786:=I
def tw11840263619490539850:=I
def tw8752428638192209258:=I
def tw5132874870031436138:=I
def tw6775321798704252330:=I
def tw4622949685913603530:=I
def tw7877653329909211594:=I
def tw2400011668389020170:=I
def tw12607881990178168330:=I
def tw1331264669763493450:=I
def tw8973774910411913834:=I
def tw14060290282847671946:=I
def tw11337880529025989258:=I
def tw4653951146691802794:=I
def tw6675231567266412234:=I
def tw6021395533164851946:=I
def tw2744111212903459594:=I
def tw2682527034686339882:=I
def tw5246062548561091402:=I
def tw7394950732746837866:=I
def tw3353977400092700554:=I
def tw1602770591041586154:=I
def tw2712750757192268778:=I
def tw18085461980724147243:=I
def tw11776795633178756139:=I
def tw11886807807913085003:=I
def tw15661776585496808523:=I
def tw17162422077776776267:=I
def tw8104017588635649131:=I
def tw9314529402978105451:=I
def tw5075967266550891659:=I
def tw528586416683990251:=I
def tw9562144192351334667:=I
def tw4439721679593068843:=I
def tw10613916277369976139:=I
def tw5723166581114627403:=I
def tw10491763254399767019:=I
def tw7623585395131206123:=I
def tw13910807663416548875:=I
def tw15946386945705972267:=I
def tw9457389290569733707:=I
def tw1674637949194485355:=I
def tw18161992393846472363:=I
def tw6275874701125262027:=I
def tw4881430237019019979:=I
def tw8847469741724628683:=I
def tw4754268069434313451:=I
def tw16142854269814237995:=I
def tw14495671006623497003:=I
def tw6838059680896835435:=I
def tw15359721840941597579:=I
def tw1253039190309002123:=I
def tw2875802205284044779:=I
def tw18240581459584902156:=I
def tw16655411795449972844:=I
def tw13084542290255091852:=I
def tw1767936161662420108:=I
def tw801891084396659948:=I
def tw6457801898415233260:=I
def tw14932205102778763564:=I
def tw9302713336195146028:=I
def tw11036773095619057004:=I
def tw11735918354856268204:=I
def tw1756663813102145996:=I
def tw17279244514698566092:=I
def tw17825692062665649644:=I
def tw4070154762592512492:=I
def tw8249791854233808364:=I
def tw3318124015595599372:=I
def tw7212038200977507852:=I
def tw13148615570105192972:=I
def tw15830536080788880908:=I
def tw3907175405407144492:=I
def tw2333898185270342220:=I
def tw2868619007790711468:=I
def tw10735559378712766124:=I
def tw10458271747982469804:=I
def tw13643859016547628716:=I
def tw4476119958460180172:=I
def tw836382372060477196:=I
def tw16643061033020241708:=I
def tw14447013951883625260:=I
def tw9349240872207833996:=I
def tw8374719610457619340:=I
def tw18068731749589952460:=I
def tw3711432326666977228:=I
def tw6534292922115704812:=I
def tw10685857478762613773:=I
def tw17235023339722035213:=I
def tw16593037490080542733:=I
def tw17846678654019878989:=I
def tw13506320481494110317:=I
def tw12065017308957961325:=I
def tw1504574401123344525:=I
def tw9879209636498213037:=I
def tw13422487120716625133:=I
def tw15792886341905530125:=I
def tw3790019412776505613:=I
def tw10987280995652947245:=I
def tw5351142306215714093:=I
def tw16999975085358067021:=I
def tw14882272953043582285:=I
def tw11646080928265348461:=I
def tw6263775443053062509:=I
def tw8418918007921821037:=I
def tw13526266799082992013:=I
def tw675273693345583533:=I
def tw2123035828749369901:=I
def tw603856460776923789:=I
def tw9703588685427606189:=I
def tw5283025479492847277:=I
def tw8540144619111148205:=I
def tw12731679393658291949:=I
def tw6041454852693090093:=I
def tw12349791296819396397:=I
def tw18132060333864387405:=I
def tw16252227137483862861:=I
def tw4244769666202202989:=I
def tw8655567117767671661:=I
def tw733791346579848109:=I
def tw6232812294901110765:=I
def tw4397993841724376045:=I
def tw3921118590553554958:=I
def tw10214145691102988334:=I
def tw15316931631462929454:=I
def tw14453333984411360334:=I
def tw8841579459557702766:=I
def tw17532144450758292718:=I
def tw8539088300459187502:=I
def tw5845451010103634222:=I
def tw6527645420344281422:=I
def tw5514393970360497550:=I
def tw7784326444601438606:=I
def tw15607819591123955150:=I
def tw16952214286453656046:=I
def tw5706504432973856302:=I
def tw15296220213465525902:=I
def tw6976021304360887950:=I
def tw9568852950276643534:=I
def tw109810134051265262:=I
def tw16089657419798263534:=I
def tw13162037582747809518:=I
def tw4722559551434101550:=I
def tw14409233700577242926:=I
def tw3673851937981853646:=I
def tw1319735049420973038:=I
def tw12719768946295758863:=I
def tw2706375724839796783:=I
def tw5715114808787439663:=I
def tw14761681192596432943:=I
def tw11286161139839863919:=I
def tw11901803155705358479:=I
def tw4495687581027231887:=I
def tw108021226002185391:=I
def tw9782706969065858415:=I
def tw3395943468669879663:=I
def tw13277780241419330927:=I
def tw2830422546085898607:=I
def tw15107491512191741295:=I
def tw4024671810327013839:=I
def tw6073070508644148783:=I
def tw15188732970158723695:=I
def tw9631435961557620399:=I
def tw12366895201845150415:=I
def tw5110061973391674095:=I
def tw7181657778415885039:=I
def tw8693624357326841583:=I
def tw10380573487354888975:=I
def tw2165399554540601103:=I
def tw273114002343464783:=I
def tw17296376962262217551:=I
def tw12687919299197573007:=I
def tw7921414012863880079:=I
def tw17209296565400078255:=I
def tw9439039898203787183:=I
def tw954312708871726031:=I
def tw12044318199492047855:=I
def tw13436557443410415632:=I
def tw1798717706765537392:=I
def tw13694503545710430352:=I
def tw974347770485713168:=I
def tw17629488331391146288:=I
def tw18331014842933944624:=I
def tw11382804481113572656:=I
def tw4226525620065690992:=I
def tw7331770964010606992:=I
def tw12830230310988993936:=I
def tw7618223773714198960:=I
def tw13161851425269216688:=I
def tw10929806181364814288:=I
def tw2724200981677465040:=I
def tw8284944269727992304:=I
def tw10818764004144107024:=I
def tw2430155283455413808:=I
def tw11759042872635659824:=I
def tw14061029251165938224:=I
def tw11093025079768486480:=I
def tw16287741149534775952:=I
def tw18330224088952273584:=I
def tw8815644216077460176:=I
def tw17113309816074481360:=I
def tw7800046513615787760:=I
def tw1103068723046819632:=I
def tw11798868108093303632:=I
def tw15003644413566376848:=I
def tw10311402245812676528:=I
def tw702953455441282032:=I
def tw9211114887458319344:=I
def tw5004840513884486640:=I
def tw4452342826562694161:=I
def tw11381054507948248113:=I
def tw12186163682075892785:=I
def tw11029867826730816625:=I
def tw4953565318544518257:=I
def tw12101845527256761489:=I
def tw3558850376406442129:=I
def tw5808156170609280145:=I
def tw6301303595672493233:=I
def tw17372663745748104369:=I
def tw18358384616004282577:=I
def tw11024457258312265937:=I
def tw10213085920607671569:=I
def tw9017208884730608913:=I
def tw7246335291306918161:=I
def tw16174706979932808497:=I
def tw13254986140628519281:=I
def tw1505217663820342641:=I
def tw10144089853384598929:=I
def tw8853015059250309649:=I
def tw16536395510344462897:=I
def tw9644847662330941009:=I
def tw3331878696278740561:=I
def tw4520480704619430513:=I
def tw10709581405029881553:=I
def tw10407581733931016913:=I
def tw8773668752662207217:=I
def tw12031865084515184369:=I
def tw6728459187526522673:=I
def tw7434672369519443793:=I
def tw8500076154112101201:=I
def tw18364687703454150481:=I
def tw15985583360557992881:=I
def tw17011653133721826257:=I
def tw5538533091187064785:=I
def tw12881050366688531474:=I
def tw16135051083805439026:=I
def tw3745730446977459282:=I
def tw12154259651963506802:=I
def tw3328106750532983954:=I
def tw7341814958694486162:=I
def tw6236701986914831538:=I
def tw8560160344991018258:=I
def tw16925194534860787026:=I
def tw18059835060699620690:=I
def tw9774616412930861458:=I
def tw15352992602532710866:=I
def tw2870569039497790962:=I
def tw16244275690383435250:=I
def tw14749922247919810098:=I
def tw31725085096792626:=I
def tw16255720733101710898:=I
def tw18048234322095574610:=I
def tw6198694340435615314:=I
def tw13139082782935834226:=I
def tw1026786573986134674:=I
def tw12724689863651487410:=I
def tw12039289443005100722:=I
def tw16474039935007943378:=I
def tw6690190860496981746:=I
def tw6680014537674478386:=I
def tw6180129471760332594:=I
def tw15715333652776433490:=I
def tw7340122237286367058:=I
def tw14454901950370923346:=I
def tw4704268077740581714:=I
def tw2949888947969975122:=I
def tw3491468750227117042:=I
def tw5949924643904376851:=I
def tw17626327776071083027:=I
def tw8853815622859958323:=I
def tw15693229387103002707:=I
def tw10138311110575703155:=I
def tw670190427389446259:=I
def tw15430289588369995923:=I
def tw904105354626886867:=I
def tw18055665026842461427:=I
def tw15365730563475873043:=I
def tw17558831282699013427:=I
def tw10394491994823951699:=I
def tw14801077442271918419:=I
def tw10435547597508394355:=I
def tw10577335617178720627:=I
def tw11711902648285313427:=I
def tw5163638268958725555:=I
def tw577125392482885043:=I
def tw14387557369784148531:=I
def tw6760866762754814515:=I
def tw982450661744162419:=I
def tw725018783810638451:=I
def tw5329127635312964243:=I
def tw16532508136242140851:=I
def tw1605451687458331347:=I
def tw4779258235029006067:=I
def tw2569372983254341395:=I
def tw10416349401127246611:=I
def tw17371085700517099315:=I
def tw12740746911138053011:=I
def tw7996591262945254323:=I
def tw5285916393589697556:=I
def tw14976920583552735348:=I
def tw4382949384027407572:=I
def tw9879361702364877012:=I
def tw15442457393877441748:=I
def tw6189559693204882676:=I
def tw6749593593907484916:=I
def tw1380744425191350516:=I
def tw2386950267483178228:=I
def tw7948868971181134068:=I
def tw12996282099698808084:=I
def tw17517872609289314612:=I
def tw18253192223093241140:=I
def tw11643699055429600596:=I
def tw13192611178529409428:=I
def tw17096093061224948180:=I
def tw1406011253957026260:=I
def tw1680793140542940756:=I
def tw11318460854323304020:=I
def tw12769075461235006036:=I
def tw7646763111731052180:=I
def tw9957315716389746388:=I
def tw7069286874391924436:=I
def tw6669301881700934388:=I
def tw15293766142966261492:=I
def tw9259687683577762580:=I
def tw2817420795585946388:=I
def tw3434160333609109300:=I
def tw10459375472804269876:=I
def tw16951214043625412404:=I
def tw6063792353924030292:=I
def tw5769199460541423444:=I
def tw10437963298397938516:=I
def tw1922511518406542196:=I
def tw3660572339087946612:=I
def tw6525596139960199028:=I
def tw8691796486930914292:=I
def tw4952343223729783893:=I
def tw9331183077545800789:=I
def tw15165320600182074485:=I
def tw14771384911536053365:=I
def tw13404975633010442421:=I
def tw203986248781659317:=I
def tw6003228694438589685:=I
def tw13714686028396864789:=I
def tw16019166438181750069:=I
def tw10838890369308495189:=I
def tw17706284995869559125:=I
def tw8378044283308560725:=I
def tw15768412793837413717:=I
def tw14961919787549262229:=I
def tw16499351982710211093:=I
def tw6163850521727019573:=I
def tw4607493745674759733:=I
def tw4113481696164387445:=I
def tw5463554810527586933:=I
def tw15166825689530810997:=I
def tw15613757214951652085:=I
def tw9110277799104902901:=I
def tw9150308750552120085:=I
def tw2559148105692167957:=I
def tw18438178009620305685:=I
def tw11511959521916384021:=I
def tw14210110164081822517:=I
def tw15598803885917757237:=I
def tw4220107111384448821:=I
def tw8177950907582986069:=I
def tw6435059185702284213:=I
def tw8726542332438446102:=I
def tw2510242721653620790:=I
def tw15174229199635022902:=I
def tw1268281153465419830:=I
def tw9082996353987087414:=I
def tw1637795136288543798:=I
def tw974894766492128406:=I
def tw1628198522474412214:=I
def tw11503370160424243382:=I
def tw4116098168399447286:=I
def tw11602452292400811286:=I
def tw14841884317022628118:=I
def tw17133202850525650262:=I
def tw16565908537009883478:=I
def tw5068757960555616694:=I
def tw12837615315255924182:=I
def tw14594099593241670102:=I
def tw15600262410783772118:=I
def tw10896811134924480982:=I
def tw5537459785133124086:=I
def tw12058085984179983894:=I
def tw2122893747464870454:=I
def tw2659678545874243158:=I
def tw15711554609980080790:=I
def tw14748505876202887894:=I
def tw5128820456780547798:=I
def tw7683984541347606326:=I
def tw16605811816986770230:=I
def tw4809452018261655350:=I
def tw6279770874775840598:=I
def tw15582690037693582198:=I
def tw3615290499202222966:=I
def tw18059749140608794486:=I
def tw17328441101147439030:=I
def tw16915000454280872918:=I
def tw11570066150584166423:=I
def tw7034656407425565815:=I
def tw10871913217383269527:=I
def tw18391842055540354263:=I
def tw15330254463176458455:=I
def tw924429015677748535:=I
def tw9410464573502138711:=I
def tw7801657823138781591:=I
def tw16050144067056202135:=I
def tw12502191044866617783:=I
def tw14173327313932584471:=I
def tw13643559348754293271:=I
def tw16523679295630098999:=I
def tw5869290215779413719:=I
def tw16878896399351684855:=I
def tw11932689547953122135:=I
def tw2867377039507301271:=I
def tw2729208168690858903:=I
def tw5359027108676257687:=I
def tw1970670740024795095:=I
def tw12563136675176334295:=I
def tw12235409010396927991:=I
def tw6454429234566432856:=I
def tw2004503459709206648:=I
def tw8215712875447246968:=I
def tw6396885924195394712:=I
def tw12522261448871543992:=I
def tw15540950455938668824:=I
def tw5245125273411607864:=I
def tw16971429790840716664:=I
def tw15870481513921775000:=I
def tw8977664840466872728:=I
def tw3554788421942179256:=I
def tw18022829436465741272:=I
def tw17398978062211976728:=I
def tw10200582744642087448:=I
def tw15457851881240388152:=I
def tw9882140405292979800:=I
def tw9077083260480246392:=I
def tw5787946559450308216:=I
def tw7505693456415223416:=I
def tw17986795019109895832:=I
def tw5948539893456273048:=I
def tw9313644514191032056:=I
def tw18244983395016404760:=I
def tw11519283462973783832:=I
def tw4344283728581227320:=I
def tw625255712822973272:=I
def tw8625301657855436664:=I
def tw6120839426399779704:=I
def tw16970636056634082168:=I
def tw13907984683485426584:=I
def tw12324057570498183064:=I
def tw1421354709044074424:=I
def tw954052144461780920:=I
def tw18078123608996891576:=I
def tw18051040003382239160:=I
def tw11233718901627577401:=I
def tw7285244772944730201:=I
def tw15193223017510234233:=I
def tw13727663678839745689:=I
def tw15552880059632671929:=I
def tw5955624429997995225:=I
def tw2267153854782290201:=I
def tw17321351260881728825:=I
def tw16769975609914637657:=I
def tw14528462247197998425:=I
def tw18203555812815221113:=I
def tw17310978105433241017:=I
def tw14970166652854398393:=I
def tw12761357964433827321:=I
def tw9490734198127874553:=I
def tw14842133670245804569:=I
def tw504537982101799481:=I
def tw15808207164099219001:=I
def tw6130382869109439129:=I
def tw17508654953915533017:=I
def tw15207896176521463513:=I
def tw14707602101371394777:=I
def tw9101491278701557497:=I
def tw4260691732726881049:=I
def tw6194428981315643161:=I
def tw16673135537843857209:=I
def tw3196906411479787321:=I
def tw10346842611196586809:=I
def tw5270755584260160345:=I
def tw10580336164349040473:=I
def tw4378605760380431225:=I
def tw6276331498750216089:=I
def tw10920343174717473721:=I
def tw1078268024719430585:=I
def tw13241466192175820729:=I
def tw1266630034959870937:=I
def tw5639337588767357913:=I
def tw6165960168375449754:=I
def tw1563583133048421562:=I
def tw4505797052782472410:=I
def tw3167473331524517114:=I
def tw17913762416157885722:=I
def tw9795140375263586586:=I
def tw5561383890028818714:=I
def tw2291835253516698938:=I
def tw12340717119662071098:=I
def tw223954604891035962:=I
def tw7678679888179651898:=I
def tw5144204540897791386:=I
def tw16547968625153522106:=I
def tw10613707535390842330:=I
def tw11091354775048991194:=I
def tw7012386350865034810:=I
def tw9147909693776895578:=I
def tw3422045963797535354:=I
def tw17044817007898927834:=I
def tw5657521512015909594:=I
def tw13632806569834246874:=I
def tw17101868794563904250:=I
def tw5323867962999566138:=I
def tw10955364266298799930:=I
def tw5598317160170145626:=I
def tw4945042903384063866:=I
def tw17334703627399417754:=I
def tw11673388713312158650:=I
def tw18023978818123008954:=I
def tw16731901553925723066:=I
def tw12312160580968818715:=I
def tw5657833677576007707:=I
def tw12731639374575791163:=I
def tw8818806536368618555:=I
def tw14114593648119193691:=I
def tw7369596406016155771:=I
def tw13474505975134161051:=I
def tw602654744551462075:=I
def tw3919393617586135227:=I
def tw4412573861466996955:=I
def tw15836257033720696027:=I
def tw12234470005281923291:=I
def tw11320533423238161627:=I
def tw14322564441917752571:=I
def tw1318057159053350171:=I
def tw16980689651931893019:=I
def tw13946694235902607675:=I
def tw15097585822530712923:=I
def tw15859626018473362779:=I
def tw8850379069792550235:=I
def tw1103015079941044603:=I
def tw9291935458359312795:=I
def tw15197823037367852475:=I
def tw7590397651526047163:=I
def tw16083959770800421371:=I
def tw9921785834736071195:=I
def tw10024769271767719451:=I
def tw16972313548892217979:=I
def tw13236881411693463163:=I
def tw15565121102151324315:=I
def tw18309110870599702171:=I
def tw8668251521493376667:=I
def tw284020080982024859:=I
def tw11680466982994939579:=I
def tw11585472720559771323:=I
def tw13741780187917788859:=I
def tw17834235304274705083:=I
def tw15275737086489758459:=I
def tw12629660198329348859:=I
def tw3185755694343783195:=I
def tw7380220166932431643:=I
def tw1070909102066143003:=I
def tw4753195884794965787:=I
def tw16913849144352976699:=I
def tw5213713928383948603:=I
def tw5949834262307504987:=I
def tw3628020769801898907:=I
def tw15013160490540404635:=I
def tw14766739008517789595:=I
def tw7126159665059275707:=I
def tw11995465724340111323:=I
def tw14156923975676499963:=I
def tw629493329856018427:=I
def tw8672401521420317724:=I
def tw6868919402337597500:=I
def tw11059011709141876860:=I
def tw11725336151307050140:=I
def tw16631217473665920156:=I
def tw16804374414761118076:=I
def tw17192293221868847516:=I
def tw11979017490666593724:=I
def tw12387984869101808060:=I
def tw447588678998148540:=I
def tw9041588433467885084:=I
def tw707632207005566492:=I
def tw17923203680460255868:=I
def tw16392065845516353148:=I
def tw8595867591067755132:=I
def tw11021096284172713628:=I
def tw10719477097765096124:=I
def tw8711009380087688892:=I
def tw9034388910662503132:=I
def tw15043332763938088732:=I
def tw5999397940448145340:=I
def tw11598340331006507964:=I
def tw5025924201518356444:=I
def tw1900005824521502684:=I
def tw1306304765271640125:=I
def tw2459478153023079485:=I
def tw9371146448979390525:=I
def tw11342603388447588509:=I
def tw1701560730384737437:=I
def tw1842630513422488733:=I
def tw15112292802924534941:=I
def tw3993632414172445853:=I
def tw11099944333602758877:=I
def tw4227639216716869853:=I
def tw8010547827988690237:=I
def tw6503848847720030589:=I
def tw5808238709552823677:=I
def tw13207360474188998045:=I
def tw1143606371440879005:=I
def tw10700702306561470909:=I
def tw13801691159794138589:=I
def tw15041605464969026045:=I
def tw9123478461250849309:=I
def tw170572883719574045:=I
def tw3416723602158475805:=I
def tw5912027434251904605:=I
def tw616266343061748317:=I
def tw9535034770456935005:=I
def tw15685654392509267549:=I
def tw12494479222905152125:=I
def tw8242034015409711741:=I
def tw12244789729349689981:=I
def tw9166043167241128605:=I
def tw8034006275718999709:=I
def tw5730584155453579997:=I
def tw1451692613873009405:=I
def tw11393806276398605085:=I
def tw15100022071259065149:=I
def tw9899527799843857245:=I
def tw13227004588550275933:=I
def tw8808647023851127677:=I
def tw2634451620454867901:=I
def tw7338364897696040925:=I
def tw8953480070011673597:=I
def tw6735497926540335134:=I
def tw7790591547580871710:=I
def tw9662630729766578238:=I
def tw11277963414809913438:=I
def tw5671637137700339870:=I
def tw3012588753168569534:=I
def tw13039640454649301182:=I
def tw16933846414033248574:=I
def tw307678078208931134:=I
def tw11306577983582144894:=I
def tw14199946074990918046:=I
def tw16162575543606045086:=I
def tw10263907565123031486:=I
def tw15743085277193597374:=I
def tw5488299053623483870:=I
def tw5594852099694807582:=I
def tw176895374788957758:=I
def tw7131340846334911134:=I
def tw1805891901073008286:=I
def tw4027521907060288318:=I
def tw14635848487722366782:=I
def tw14918481664884045630:=I
def tw7826117167337004894:=I
def tw7309362847783418750:=I
def tw14659750487711517630:=I
def tw9818280001170846654:=I
def tw3950512401772747742:=I
def tw11658619955502567422:=I
def tw4907992731167296543:=I
def tw10824489936276339743:=I
def tw5301156020132540447:=I
def tw15973476344483778719:=I
def tw12536642566725275871:=I
def tw10666987138969026815:=I
def tw12998107699304693055:=I
def tw7300485950865522015:=I
def tw17067962697001325951:=I
def tw852126476978483807:=I
def tw16789614982912875167:=I
def tw12978100316371551935:=I
def tw8579189506049710815:=I
def tw10683271712494557951:=I
def tw10106632075054630687:=I
def tw4056605169226572575:=I
def tw4196193717823651679:=I
def tw6626409809554878335:=I
def tw13063308402866471807:=I
def tw11791899696802475935:=I
def tw2396562304125562783:=I
end PySem.W.Fast
open PySem PySem.W PyProof.Rows
set_option maxRecDepth 100000 in
set_option maxHeartbeats 0 in
theorem PySem.Challenge.cw_stripmeld_k47_whole_begun_anew_holds : PySem.Challenge.rw_stripmeld_k47_whole_begun_anew.Holds := by
 w_on;o_law;k_head;(case hw=>w_witness2)
 k_fill
 refine L2.Zaq (l:=PySem.Challenge.rw_stripmeld_k47_whole_begun_anew) (n:=63) (k:=9) (x:="_law_script") (CX:=L2.CX0) (sp:=Pu.A9) rfl (by decide) rfl ⟨rfl,by decide,by decide,rfl⟩ (fun w h Y=>PySem.W.kIn_of Y) ?F ?S ?C
 case F=>
  intro w mg fa h KX G hmg
  refine' T.Zi8 KX G hmg ?Ui ?U0 ?U1 ?U2 ?U3 ?U4 ?U5 ?U6 ?U7 ?U8 ?a1 ?a2 ?a3 ?a4 ?a5 ?a6 ?a7 ?a8 ?a9 ?a10 ?a11 ?a12 ?a13 ?a14 ?a15 ?a16 ?a17 ?a18 ?a19 ?a20 ?a21 ?a22 ?a23 ?a24 ?a25 ?a26 ?a27 ?a28 ?a29 ?a30 ?a31 ?a32 ?a33 ?a34 ?a35 ?a36 ?a37 ?a38 ?a39 ?a40 ?a41 ?a42 ?a43 ?a44 ?a45 ?a46 ?a47 ?a48 ?a49 ?a50 ?a51 ?a52 ?a53 ?a54 ?a55 ?a56 ?a57 ?a58 ?a59 ?a60 ?a61 ?a62 ?a63 ?a64 ?a65 ?a66 ?a67 ?a68 ?a69 ?a70 ?a71 ?a72 ?a73 ?a74 ?a75 ?a76 ?a77 ?a78 ?a79 ?a80 ?a81 ?a82 ?a83 ?a84 ?l84 ?c84 ?k84 ?U9 ?UA ?UB ?UC ?UD ?UE ?UF ?UG ?UH ?UI ?UJ ?UK ?UL ?UM ?UN ?UO ?UP ?UQ ?UR ?US ?UT ?Ue ?Uj ?Uk ?Ul ?Um ?Uo ?Up ?Uq ?Ur ?Us ?Ut ?Uu ?Uv ?Uw ?Ux ?Uh ?Uy ?Ud ?x_Ringed ?x_NothingDone_NothingDone ?k_NothingDone_MeldError ?k_NothingDone_ValueError
  (case Ui|U0|U1|U2|U3|U4|U5|U6|U7|U8=>k_is)
  (case a1|a2|a3|a4|a5|a6|a7|a8|a9|a10|a11|a12|a13|a14|a15|a16|a17|a18|a19|a20|a21|a22|a23|a24|a25|a26|a27|a28|a29|a30|a31|a32|a33|a34=>apply Pu.di<;>k_is)
  (case a35|a36|a37|a38|a39|a40|a41|a42|a43|a44|a45|a46|a47|a48|a49|a50|a51|a52|a53=>apply Pu.mi<;>k_is)
  (case a54|a55|a56|a57|a58|a59|a60|a61|a62|a63|a64|a65|a66|a67|a68|a69|a70|a71|a72|a73|a74|a75|a76|a77|a78|a79|a80|a81|a82|a83=>apply Pu.di<;>k_is)
  (case a84|l84|c84|k84|U9|UA|UB|UC|UD|UE|UF|UG|UH|UI|UJ|UK|UL|UM|UN|UO|UP|UQ|UR|US|UT=>k_is)
  (case Ue|Uj|Uk|Ul|Um|Uo|Up|Uq|Ur|Us|Ut|Uu|Uv|Uw|Ux|Uh|Uy=>apply Pu.ei<;>first|(k_is;done)|k_exc)
  (case Ud=>apply Pu.ri<;>first|(k_is;done)|k_exc|rfl)
  (case x_Ringed|x_NothingDone_NothingDone=>kts_exm)
  (case k_NothingDone_MeldError|k_NothingDone_ValueError=>kit_is)
 case S=>exact fun K H a ns hl hO hS=>⟨a,ns,rfl,hS,fun _=>rfl⟩
 case C=>exact fun _ _ _ _ z=>z
