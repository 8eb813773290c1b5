import PyProof.Rows.All
import Wide.All
import OpenK.AllK
import Wide.FinOn
import Lean
import PyProof.EqAt
import PyProof.EqKinds
import PyProof.TupleCall
import PySem.Challenge.RW_stripmeld_k30_asked_of_a_village
set_option Elab.async false
set_option linter.all false
set_option compiler.extract_closed false
set_option genSizeOf false
set_option maxRecDepth 100000
def bu_0(h:True:=by rfl):True:=h
def au_0:Lean.Syntax:=bu_0._auto_1
def bu_1(h:True:=by decide):True:=h
def au_1:Lean.Syntax:=bu_1._auto_1
def bu_2(h:True:=by first | exact .inl rfl | exact .inr rfl | assumption):True:=h
def au_2:Lean.Syntax:=bu_2._auto_1
def bu_3(h:True:=by intro _; rfl):True:=h
def au_3:Lean.Syntax:=bu_3._auto_1
def bu_4(h:True:=by first | exact Or.inl rfl | exact Or.inr (Or.inl rfl) | exact Or.inr (Or.inr rfl)):True:=h
def au_4:Lean.Syntax:=bu_4._auto_1
def bu_5(h:True:=by decide +kernel):True:=h
def au_5:Lean.Syntax:=bu_5._auto_1
def bu_6(h:True:=by first | exact Or.inl rfl | exact Or.inr rfl):True:=h
def au_6:Lean.Syntax:=bu_6._auto_1
def bu_7(h:True:=by intro _ _; rfl):True:=h
def au_7:Lean.Syntax:=bu_7._auto_1
def bu_8(h:True:=by size_fits):True:=h
def au_8:Lean.Syntax:=bu_8._auto_1
def bu_9(h:True:=by kernel_rfl):True:=h
def au_9:Lean.Syntax:=bu_9._auto_1
def bu_10(h:True:=by intro _; first | exact Or.inl rfl | exact Or.inr (Or.inl rfl) | exact Or.inr (Or.inr rfl)):True:=h
def au_10:Lean.Syntax:=bu_10._auto_1
def bu_11(h:True:=by intro _; exact ⟨rfl, rfl, rfl⟩):True:=h
def au_11:Lean.Syntax:=bu_11._auto_1
def bu_12(h:True:=by with_unfolding_all rfl):True:=h
def au_12:Lean.Syntax:=bu_12._auto_1
def bu_13(h:True:=by intro _; first | exact Or.inl rfl | exact Or.inr rfl):True:=h
def au_13:Lean.Syntax:=bu_13._auto_1
def bu_14(h:True:=by intro _; first | exact .inl rfl | exact .inr rfl | assumption):True:=h
def au_14:Lean.Syntax:=bu_14._auto_1
def bu_15(h:True:=by intro _; kernel_rfl):True:=h
def au_15:Lean.Syntax:=bu_15._auto_1
noncomputable section
def W6:=@List.length_map
def W7:=@PySem.wpAny_bind
def W8:=@List.getElem?_eq_getElem
def W9:=@decide_eq_true
def WA:=@of_decide_eq_true
def WB:=@List.mem_singleton
def WC:=@List.getD_eq_getElem?_getD
def WD:=@PySem.Heap.get?_push_of_some
def WE:=@PySem.wpAny_pure
def WG:=@if_neg
def WH:=@if_pos
def WI:=@Nat.le_refl
def WJ:=@List.length_append
def WK:=@Nat.le_trans
def WL:=@List.getElem?_map
def WM:=@PySem.Heap.lt_size
def WN:=@List.take_succ_eq_append_getElem
def WO:=@List.mem_append
def WQ:=@PySem.Heap.get?_push_size
def WR:=@Option.some.inj
def WS:=@List.map_append
def WT:=@List.getElem?_eq_some_iff
def WU:=@List.mem_cons
def WV:=@List.length_cons
def WW:=@List.getElem_mem
def WX:=@PySem.PassesOwn.never
def WY:=@Bool.false_ne_true
def WZ:=@List.mem_of_getElem?
def Qa:=@List.length_take
def Qb:=@List.mem_cons_of_mem
def Qc:=@PySem.F.plainAttrs_list
def Qd:=@Classical.byContradiction
def Qe:=@List.map_cons
def Qf:=@Nat.ne_of_lt
def Qg:=@List.pairwise_iff_getElem
def Qh:=@List.mem_filter
def Qi:=@List.mem_append_right
def Qj:=@List.getElem?_append_left
def Qk:=@List.mem_map
def Ql:=@List.size_toArray
def Qm:=@Nat.add_le_add
def Qn:=@List.mem_iff_getElem
def Qo:=@Nat.lt_of_lt_of_le
def Qp:=@List.take_length
def Qq:=@decide_eq_false
def Qr:=@List.map_map
def Qs:=@List.mem_cons_self
def Qt:=@PySem.wpAny_mono
def Qu:=@List.getElem?_append_right
def Qv:=@List.append_nil
def Qw:=@List.nodup_cons
def Qx:=@Bool.and_eq_true
def Qy:=@Int.toNat_natCast
def Qz:=@PySem.W.mg_none_of
def Q0:=@PySem.Heap.get?_update_self
def Q1:=@List.drop_eq_getElem_cons
def Q2:=@congrArg
def Q3:=@List.nodup_append
def Q4:=@List.mem_append_left
def Q5:=@List.length_filter_le
def Q6:=@Array.length_toList
def Q7:=@PySem.wpAny_newObj_type
def Q8:=@PySem.Heap.get?_update_other
def Q9:=@List.length_set
def QA:=@PySem.W.mg_of
def QB:=@List.getElem?_cons_succ
def QC:=@PySem.Obj.data_mapFields
def QD:=@PySem.Heap.SameBut.update
def QE:=@PySem.W.kia_one
def QF:=@Nat.add_sub_cancel
def QG:=@List.length_eq_zero_iff
def QH:=@PySem.F.slot_list_index
def QI:=@Nat.lt_irrefl
def QJ:=@PySem.wpAny_holding
def QK:=@List.take_zero
def QL:=@List.getElem_take
def QM:=@List.map_congr_left
def QN:=@Array.getElem?_eq_getElem
def QO:=@Array.getElem?_toList
def QP:=@List.eq_nil_or_concat
def QR:=@List.getElem?_take_of_lt
def QS:=@List.cons_append
def QT:=@List.pairwise_cons
def QU:=@Nat.zero_le
def QV:=@List.dropLast_concat_getLast
def QW:=@PySem.F.type_list_index
def QX:=@PySem.wpAny_loadPart_at
def QY:=@List.lookup_cons
def QZ:=@PySem.wpAny_setField
def Va:=@PySem.Obj.isFreed_of_fields
def Vb:=@List.length_singleton
def Vc:=@Nat.le_of_eq
def Vd:=@PySem.F.slot_dict_valueiterator_next
def Ve:=@List.dropLast_concat
def Vf:=@PySem.wpAny_typeNameOfWhole_valiter
def Vg:=@List.filterMap_cons
def Vh:=@beq_eq_false_iff_ne
def Vi:=@PySem.mem_of_lookup
def Vj:=@PySem.Heap.size_push
def Vk:=@PySem.wpAny_call_entry
def Vl:=@List.filterMap_eq_map'
def Vm:=@PySem.codeAny_mono
def Vn:=@PySem.wpAny_passesOwn
def Vo:=@List.getElem?_eq_none
def Vp:=@List.take_append_drop
def Vq:=@List.concat_eq_append
def Vr:=@PySem.F.excBase_ValueError
def Vs:=@PySem.wpAny_truthy_bool
def Vt:=@List.take_sublist
def Vu:=@PySem.wpAny_setState_of
def Vv:=@PySem.Heap.get?_none_of_le
def Vw:=@PySem.W.looks_findIn
def Vx:=@List.pairwise_append
def Vy:=@List.mem_of_mem_take
def Vz:=@List.nodup_nil
def V0:=@Nat.lt_succ_self
def V1:=@List.all_eq_true
def V2:=@PySem.wpAny_typeNameOf_valiter
def V3:=@PySem.F.slot_list_append
def V4:=@PySem.F.type_list_append
def V5:=@List.length_pos_iff
def V6:=@List.getElem?_replicate
def V7:=@List.find?_cons
def V8:=@PySem.codeAny_builtin
def V9:=@List.map_singleton
def VA:=@Nat.le_succ
def VB:=@List.append_assoc
def VC:=@Bool.eq_false_iff
def VD:=@List.flatMap_cons
def VE:=@Classical.not_not
def VF:=@PySem.W.methodCall_KW
def VG:=@Nat.lt_trans
def VH:=@List.filterMap_append
def VI:=@PySem.F.slot_list_pop
def VJ:=@PySem.F.type_list_pop
def VL:=@Nat.mul_le_mul
def VM:=@Int.ne_of_lt
def VN:=@PyProof.Rows.callWith_type1
def VO:=@PySem.Around.under_plainId
def VP:=@PySem.wpAny_standAt
def VQ:=@List.any_cons
def VR:=@Array.getElem?_eq_some_iff
def VS:=@Int.le_refl
def VT:=@List.exists_mem_of_ne_nil
def VU:=@PyProof.Rows.boot_isinstance
def VW:=@Nat.le_of_lt
def VX:=@PySem.wpAny_Call_Name_kw
def VY:=@PySem.F.args_tuple_add_2
def VZ:=@PyProof.Rows.F.entry_set_update_loop
def Ja:=@PyProof.Rows.F.plain_set_update_loop
def Jb:=@Bool.false_eq_true
def Jc:=@List.idxOf_lt_length_iff
def Jd:=@Int.add_zero
def Je:=@PySem.F.slot_list_extend
def Jf:=@PySem.F.type_list_extend
def Jg:=@PySem.F.entry_tuple_add
def Jh:=@PySem.wpAny_callSpecial?_slot
def Ji:=@List.filter_cons_of_pos
def Jj:=@List.pairwise_map
def Jk:=@PySem.fits_of_scanBound
def Jl:=@Nat.lt_succ_of_lt
def Jm:=@PySem.Obj.cls_mapFields
def Jn:=@decide_eq_true_eq
def Jo:=@List.length_range
def Jp:=@PySem.F.slot_tuple_add
def Jq:=@Array.getElem?_eq_none
def Jr:=@Nat.add_mul
def Js:=@PyProof.Rows.boot_sorted
def Jt:=@List.all_cons
def Ju:=@PySem.W.any_some
def Jv:=@if_false
def Jw:=@List.not_mem_nil
def Jx:=@PySem.wpAny_isOneOf_valiter
def Jy:=@List.getElem?_reverse
def Jz:=@List.getElem?_set_ne
def J0:=@PySem.wpAny_execs_nil
def J1:=@Bool.eq_iff_iff
def J2:=@PySem.wpAny_call
def J4:=@PySem.Calls.evalArgs_plain
def J6:=@PySem.call_meets
def J7:=@Option.map_some
def J8:=@PySem.codeAny_call_builtin
def J9:=@Nat.not_lt
def JA:=@List.mem_of_mem_drop
def JB:=@List.cons.injEq
def JC:=@Nat.mul_le_mul_right
def JD:=@PySem.W.plainGet_of
def JE:=@PySem.W.looks_clsIn
def JF:=@List.length_reverse
def JG:=@List.mem_map_of_mem
def JH:=@PySem.wpAny_isSubtype_exc
def JI:=@List.flatMap_append
def JJ:=@List.mem_range
def JK:=@Bool.false_and
def JL:=@PySem.sizeLine_eq
def JM:=@PySem.wpAny_field
def JN:=@List.mem_filterMap
def JO:=@PySem.W.Looks.here
def JP:=@PySem.W.callWith_K
def JQ:=@Nat.lt_of_le_of_lt
def JR:=@List.getElem_idxOf
def JS:=@PySem.W.isNs_of_in
def JT:=@List.filter_append
def JU:=@List.contains_cons
def JV:=@Int.emod_lt_of_pos
def JW:=@Bool.true_and
def JX:=@List.ext_getElem?
def JY:=@Nat.ne_of_gt
abbrev ZV:=List (Int×Int)
abbrev ZW:=List Int
abbrev ZX:=List (PySem.Addr×PySem.Obj)
abbrev ZY:=PySem.Str->Option PySem.Value
abbrev ZZ:=PySem.Value->PySem.Shared->Prop
abbrev Ya:=List (Option Nat)
abbrev Yb:=List Nat
abbrev Yc:=List PySem.Value
abbrev Yd:=List PySem.Str
abbrev Ye:=List PySem.Expr
abbrev Yf:=List PySem.Stmt
abbrev Yg:=Option PySem.Value
abbrev Yh:=Option PySem.Addr
abbrev Yi:=Array (Int×PySem.Value)
abbrev ZU:=PySem.W.Frag
namespace L2
open PySem PySem.Spec PyProof.Rows
abbrev Key:=Sum Int Str
noncomputable def Sl:Key->Value->Bool
 | .inl k,v=>Value.isInt k v
 | .inr x,v=>Value.isStrOf x v
noncomputable def Zi9(w:World):Key->Int
 | .inl k=>hashInt k
 | .inr x=>hashStr w x
def TR:∀{k}{v:Value},Sl k v=true->(∃i t,k=Sum.inl i/\v=Value.int i t)\/(∃x t,k=Sum.inr x/\v=Value.str x t)
 | .inl i,v,h=>by
  obtain⟨t,e⟩:=Value.isInt_shape h
  grind
 | .inr x,v,h=>by
  obtain⟨t,e⟩:=Value.isStrOf_shape h
  grind
def Zgc(i:Int)(t:Tok):Sl (.inl i) (.int i t)=true:=by simp[Sl,Value.isInt]
def Zbu(x:Str)(t:Tok):Sl (.inr x) (.str x t)=true:=by simp[Sl,Value.isStrOf]
def Zbz(a b:Int):decide ((Sum.inl a:Key)=Sum.inl b)=(a==b):=by grind
def Zrn(a b:Str):decide ((Sum.inr a:Key)=Sum.inr b)=decide (a=b):=by simp
def Zpt(a:Int)(b:Str):decide ((Sum.inl a:Key)=Sum.inr b)=false:=Qq (λq=>nomatch q)
def Zak(a:Str)(b:Int):decide ((Sum.inr a:Key)=Sum.inl b)=false:=Qq (λq=>nomatch q)
noncomputable def P1(prog:Program)(w:World):PySem.KeyKind prog w Key where
 is:=Sl
 hash:=Zi9 w
 inj:=λv a b ha hb=>by
  rcases TR ha with⟨i,t,rfl,rfl⟩|⟨x,t,rfl,rfl⟩
  ·rcases TR hb with⟨j,u,rfl,e⟩|⟨y,u,rfl,e⟩
   ·injection e with e1 _;rw[e1]
   ·exact nomatch e
  ·rcases TR hb with⟨j,u,rfl,e⟩|⟨y,u,rfl,e⟩
   ·exact nomatch e
   ·injection e with e1 _;rw[e1]
 byValue:=λk v h=>by
  rcases TR h with⟨i,t,rfl,rfl⟩|⟨x,t,rfl,rfl⟩<;>rfl
 pyHash:=λhv h=>by
  rcases TR hv with⟨i,t,rfl,rfl⟩|⟨x,t,rfl,rfl⟩
  ·exact wpAny_pyHash_int h
  ·exact wpAny_pyHash_str h
 eqBool:=λhu hv h=>by
  rcases TR hu with⟨i,t,rfl,rfl⟩|⟨x,t,rfl,rfl⟩
  ·rcases TR hv with⟨j,u,rfl,rfl⟩|⟨y,u,rfl,rfl⟩
   ·rw[Zbz]at h;exact wpAny_eqBool_int h
   ·rw[Zpt]at h;exact SeqAt.EqAt.int_str i t y u _ _ _ _ h
  ·rcases TR hv with⟨j,u,rfl,rfl⟩|⟨y,u,rfl,rfl⟩
   ·rw[Zak]at h;exact SeqAt.EqAt.str_int x t j u _ _ _ _ h
   ·rw[Zrn]at h;exact wpAny_eqBool_str h
 «strs»:=λk x t v h=>by
  rcases TR h with⟨i,u,rfl,e⟩|⟨y,u,rfl,e⟩
  ·exact nomatch e
  ·injection e with e1 _;subst e1;cases v<;>rfl
def Zid(prog:Program)(w:World)(i:Int)(t:Tok):(P1 prog w).is (.inl i) (.int i t)=true:=Zgc i t
def Zdc(prog:Program)(w:World)(x:Str)(t:Tok):(P1 prog w).is (.inr x) (.str x t)=true:=Zbu x t
inductive V where
 |non|bl (b:Bool)|int (i:Int)|str (x:Str)|byt (b:Array UInt8)|flt (b:UInt64)|ref (a:Addr)|ty (n:String)
 deriving DecidableEq
def RelV:V->Value->Prop
 | .non,u=>u=Value.none
 | .bl b,u=>u=Value.bool b
 | .int i,u=>∃t,u=Value.int i t
 | .str x,u=>∃t,u=Value.str x t
 | .byt b,u=>∃t,u=Value.bytes b t
 | .flt b,u=>∃t,u=Value.float b t
 | .ref a,u=>u=Value.ref a
 | .ty n,u=>u=Value.type n
abbrev Vals:List V->Yc->Prop:=Paired RelV
def Vals.length (r:Vals xs us):xs.length=us.length:=Paired.length r
def Vals.get:∀{xs us}{i:Nat}{x:V},Vals xs us->xs[i]?=some x->∃u,us[i]?=some u/\RelV x u:=by
 intro n
 induction n with
 |nil=>
  intro _ i _ h e;simp at e
 |cons _ _ f=>
  intro _ i d h e;cases h with
  |cons h r=>
   cases i with
   |zero=>
    simp at e;subst e;exact⟨_,rfl,h⟩
   |succ i=>
    obtain⟨v,l,g⟩:=f r (by simpa using e);exact⟨v,by simpa using l,g⟩
theorem Vals.set (r:RelV x u):∀{xs us} i,Vals xs us->Vals (xs.set i x) (us.set i u)
 |_,_,_,.nil=>.nil
 |_,_,0,.cons _ t=>.cons r t
 |_,_,i+1,.cons q t=>.cons q (Vals.set r i t)
def Vals.append:∀{xs ys}{us f:Yc},Vals xs us->Vals ys f->Vals (xs++ys) (us++f):=by
 intro l
 induction l with
 |nil=>
  intro _ _ _ h s;cases h
  exact s
 |cons _ _ g=>
  intro _ _ _ h s;cases h with
  |cons h r=>
   exact .cons h (g r s)
theorem Vals.take:∀{xs us} n,Vals xs us->Vals (xs.take n) (us.take n)
 |_,_,0,_|_,_,_+1,.nil=>.nil
 |_,_,n+1,.cons r t=>.cons r (Vals.take n t)
theorem Vals.drop:∀{xs us} n,Vals xs us->Vals (xs.drop n) (us.drop n)
 |_,_,0,r=>r
 |_,_,_+1,.nil=>.nil
 |_,_,n+1,.cons _ t=>Vals.drop n t
def RelO:Option V->Yg->Prop
 |some v,some u=>RelV v u
 |none,none=>True
 |_,_=>False
def KV{f:Type}:List (f×V)->List (f×Value)->Prop:=Paired λ(p:f×V) (q:f×Value)=>p.1=q.1/\RelV p.2 q.2
noncomputable def kV:Key->V
 | .inl i=>.int i
 | .inr x=>.str x
inductive HO where
 |lst (xs:List V)
 |tup (xs:List V)
 |dK (kvs:List (Key×V))|dT (kvs:List (List Key×V))
 |set (S:Int->Bool) (n:Nat)
 |ins (C dx:Addr) (fs:List (Str×V))
 |own (x:Addr)
 |xd (fs:List (Str×V))
 |met (f x:Addr)
 |rng (lo hi:Int)
 |frz (o:Obj) (u:HO)
 |tbl (ps:Array Value)
 |ext (φ:Heap->Prop)
abbrev Hp:=Addr->Option HO
noncomputable def upd(H:Hp)(a:Addr)(o:HO):Hp:=λb=>if b=a then some o else H b
def X5:upd H a o a=some o:=by unfold upd;rw[WH rfl]
def Xs{a b o}(h:b≠a):upd H a o b=H b:=by unfold upd;rw[WG h]
def HV:upd (upd H a o) a u=upd H a u:=by
 funext b;unfold upd;split<;>rfl
def DL{H:Hp}{a b}{o u}(h:H a=some o)(f:H b=some u)(d:o≠u):a≠b:=by grind
def K8{H:Hp}{a b}{o}(h:H a=some o)(f:H b=none):a≠b:=by grind
section
variable (P:Program) (w:World)
def ObjOk(H:Hp)(h:Heap)(a:Addr):HO->Prop
 | .lst xs=>xs.length<=sizeLine/\∃(l:Yc) (n:Nat),Vals xs l/\h.get? a=some {cls:=.type "list",data:=.seq l.toArray n}
 | .tup xs=>xs.length<=sizeLine/\∃l:Yc,Vals xs l/\IsTup h a l.toArray
 | .dK g=>g.length<=sizeLine/\(a==sysModules)=false/\∃z,KV g z/\h.DictOf (P1 P w) a z
 | .dT g=>g.length<=sizeLine/\(a==sysModules)=false/\∃xs:List (List Key×Addr×Value),
   Paired (λ(p:List Key×V) (q:List Key×Addr×Value)=>p.1=q.1/\H q.2.1=some (.tup<|p.1.map kV)/\RelV p.2 q.2.2) g xs/\
   ∃o E L,h.get? a=some o/\o.ExactDict/\o.data=.dict E L/\E.toList=xs.map (entryOfKey<|tupleKind<|P1 P w)/\(xs.map (·.1)).Nodup
 | .set S n=>h.SetOf (intKind P w) a S n
 | .ins C s fs=>H s=some (.own a)/\fs.length<=1000/\s≠a/\h.get? a=some (PySem.W.instObj C s)/\
   ∃r,h.Ns1 s r/\(∀f,RelO (fs.lookup f) (r f))/\PySem.Within r (fs.map (·.1))
 | .own _=>∃o,h.get? a=some o
 | .xd fs=>∃r,h.Ns1 a r/\∀f,RelO (fs.lookup f) (r f)
 | .rng lo J=>∃t u v,h.get? a=some {cls:=.type "range",data:=.fields #[.int lo t,.int J u,.int 1 v]}
 | .frz o u=>h.get? a=some o/\ObjOk H h a u
 | .tbl G=>h.get? a=some {cls:=.none,data:=.fields G}
 | .met f x=>h.get? a=some (PySem.W.methodObj (.ref f)<|.ref x)
 | .ext y=>y h/\(∃o,h.get? a=some o)/\∀B A:Heap,y B->(∀o,B.get? a=some o->A.get? a=some o)->y A
def HOk(H:Hp)(h:Heap):Prop:=∀a o,H a=some o->ObjOk P w H h a o
end
section
variable {P:Program}{w:World}{H H':Hp}{h h':Heap}{a:Addr}{o:HO}
def ObjOk.lt (x:ObjOk P w H h a o):a<h.objs.size:=by
 cases o with
 |lst xs=>obtain⟨_,_,_,_,e⟩:=x;exact WM e
 |tup xs=>obtain⟨_,_,_,p⟩:=x;exact p.lt
 |set S n=>obtain⟨o,_,_,_,e,_⟩:=x;exact WM e
 |ins C v fs=>obtain⟨_,_,_,e,_⟩:=x;exact WM e
 |own y=>obtain⟨_,e⟩:=x;exact WM e
 |xd fs=>obtain⟨_,⟨_,_,_,e,_⟩,_⟩:=x;exact WM e
 |rng lo s=>obtain⟨_,_,_,e⟩:=x;exact WM e
 |frz r u=>obtain⟨e,_⟩:=x;exact WM e
 |tbl l|met f y=>exact WM x
 |ext g=>obtain⟨_,⟨_,e⟩,_⟩:=x;exact WM e
 |_=>obtain⟨_,_,_,_,o,_,_,e,_⟩:=x;exact WM e
def Paired.mapP:∀{l:List u}{g:List s},Paired F l g->(∀a b,F a b->G a b)->Paired G l g:=by
 intro p
 induction p with
 |nil=>
  intro _ h _;cases h
  exact .nil
 |cons _ _ n=>
  intro _ h f;cases h with
  |cons h r=>
   exact .cons (f _ _ h) (n r f)
def ObjOk.stay (x:ObjOk P w H h a o) (k:∀b u,(b=a\/H b=some (.own a))->h.get? b=some u->h'.get? b=some u)
  (Q:∀b,H b=some (.own a)->H' b=some (.own a)) (N:∀b xs,H b=some (.tup xs)->H' b=some (.tup xs)):ObjOk P w H' h' a o:=by
 induction o with
 |lst xs=>obtain⟨z,A,n,r,e⟩:=x;exact⟨z,A,n,r,k _ _ (.inl rfl) e⟩
 |tup xs=>obtain⟨z,A,r,g,e,c⟩:=x;exact⟨z,A,r,g,k _ _ (.inl rfl) e,c⟩
 |dK G=>obtain⟨z,y,J,r,g,l,s,e,c⟩:=x;exact⟨z,y,J,r,g,l,s,k _ _ (.inl rfl) e,c⟩
 |dT G=>
  obtain⟨z,y,xs,r,g,l,s,e,c⟩:=x;exact⟨z,y,xs,Paired.mapP r λp q z=>⟨z.1,N _ _ z.2.1,z.2.2⟩,g,l,s,k _ _ (.inl rfl) e,c⟩
 |set S n=>obtain⟨g,l,s,t,e,c⟩:=x;exact⟨g,l,s,t,k _ _ (.inl rfl) e,c⟩
 |ins C dx fs=>
  obtain⟨d,z,L,e,E,⟨B,l,s,T,c⟩,r⟩:=x;exact⟨Q _ d,z,L,k _ _ (.inl rfl) e,E,⟨B,l,s,k _ _ (.inr d) T,c⟩,r⟩
 |own y=>obtain⟨g,e⟩:=x;exact⟨g,k _ _ (.inl rfl) e⟩
 |xd fs=>obtain⟨E,⟨B,l,s,e,c⟩,r⟩:=x;exact⟨E,⟨B,l,s,k _ _ (.inl rfl) e,c⟩,r⟩
 |rng lo hi=>obtain⟨t,u,v,e⟩:=x;exact⟨t,u,v,k _ _ (.inl rfl) e⟩
 |frz g u M=>obtain⟨e,q⟩:=x;exact⟨k _ _ (.inl rfl) e,M q⟩
 |tbl Y=>
  have e:=x;exact k a _ (.inl rfl) e
 |met f y=>
  have e:=x;exact k a _ (.inl rfl) e
 |ext U=>obtain⟨p,⟨o,e⟩,st⟩:=x;exact⟨st _ _ p λo q=>k _ _ (.inl rfl) q,⟨o,k _ _ (.inl rfl) e⟩,st⟩
def HOk.lt (x:HOk P w H h) (e:H a=some o):a<h.objs.size:=(x a o e).lt
def HOk.fresh (x:HOk P w H h) (e:h.objs.size<=a):H a=none:=by
 cases q:H a with
 |none=>rfl
 |some u=>exact absurd (Qo (x.lt q) e) (QI _)
def HOk.kept (x:HOk P w H h) (k:∀b u,h.get? b=some u->h'.get? b=some u):HOk P w H h':=λa o e=>
 (x a o e).stay (λb u _ q=>k b u q) (λ_ q=>q) λ_ _ q=>q
def HOk.laid (x:HOk P w H h) (k:∀b u,h.get? b=some u->h'.get? b=some u) (l:h.objs.size<=a) (new:ObjOk P w (upd H a o) h' a o):HOk P w (upd H a o) h':=λb u e=>by
 have f:=x.fresh l;by_cases g:b=a
 ·subst g;rw[X5]at e;cases e;exact new
 ·rw[Xs g]at e;exact(x b u e).stay (λc v _ q=>k c v q) (λc q=>by rw[Xs (K8 q f)];exact q) λc xs q=>by rw[Xs (K8 q f)];exact q
end
def Rd(H:Hp)(a:Addr)(u:HO):Prop:=H a=some u\/∃o,H a=some (.frz o u)
def Rd.ok {H h a u} (r:Rd H a u) (x:HOk P w H h):ObjOk P w H h a u:=by
 rcases r with r|⟨o,r⟩
 ·exact x a u r
 ·obtain⟨_,q⟩:=x a _ r;lia
def Mut:Option HO->Prop
 |some (.lst _)=>True
 |some (.dK _)=>True
 |some (.dT _)=>True
 |some (.set _ _)=>True
 |some (.ins _ _ _)=>True
 |some (.ext _)=>True
 |_=>False
section
variable {P:Program}{w:World}{H:Hp}{h h':Heap}{x e:Addr}{o':HO}
def HOk.write (ok:HOk P w H h) (g:Mut (H x)) (A:e=x\/H e=some (.own x)) (k:∀b u,b≠e->h.get? b=some u->h'.get? b=some u) (l:∃u,h'.get? e=some u)
  (new:ObjOk P w (upd H x o') h' x o'):HOk P w (upd H x o') h':=λb u q=>by
 have nown:∀c y,H c=some (.own y)->c≠x:=λc y r z=>by subst z;rw[r]at g;exact g
 have ntup:∀c xs,H c=some (.tup xs)->c≠x:=λc xs r z=>by subst z;rw[r]at g;exact g
 by_cases p:b=x
 ·subst p;rw[X5]at q;cases q;exact new
 ·rw[Xs p]at q;by_cases f:b=e
  ·have n:H b=some (.own x):=by
    rcases A with z|z
    ·grind
    ·rw[f];exact z
   rw[q]at n;cases n;obtain⟨v,s⟩:=l;exact⟨v,by rw[f];exact s⟩
  ·refine(ok b u q).stay (λc v o r=>k c v ?_ r) (λc r=>by rw[Xs (nown c b r)];exact r) λc xs r=>by rw[Xs (ntup c xs r)];exact r
   rcases o with rfl|o
   ·exact f
   ·grind
end
structure Un (fs ex:List Addr) (H H':Hp) (h h':Heap):Prop where
 keep:∀b o,h.get? b=some o->H b=none->b∉fs->b∉ex->h'.get? b=some o
 slot:∀b o,h.get? b=some o->H b=none->b∈fs->b∉ex->∃sl,h'.get? b=some {o with slots:=sl}
 free:∀b o,h.get? b=some o->H b=none->b∉ex->H' b=none
 there:∀b o,h.get? b=some o->b∉ex->∃o',h'.get? b=some o'
 tups:∀b xs,H b=some (.tup xs)->H' b=some (.tup xs)
 frzs:∀b o u,H b=some (.frz o u)->H' b=some (.frz o u)
 tbls:∀b ps,H b=some (.tbl ps)->∃more,H' b=some (.tbl (ps++more))
section
variable {fs fs' ex ex':List Addr}{H H1 H2:Hp}{h h1 h2 h':Heap}{a x e:Addr}{o:HO}
def Un.any (u:Un fs ex H H1 h h1) {b ob} (q:h.get? b=some ob) (n:H b=none) (hx:b∉ex):∃sl,h1.get? b=some {ob with slots:=sl}:=by
 by_cases f:b∈fs
 ·exact u.slot b ob q n f hx
 ·exact⟨ob.slots,u.keep b ob q n f hx⟩
def Un.kept (k:∀b u,h.get? b=some u->h'.get? b=some u):Un fs ex H H h h':=
 ⟨λb f q _ _ _=>k b f q,λb f q _ _ _=>⟨f.slots,k b f q⟩,λ_ _ _ n _=>n,λb f q _=>⟨f,k b f q⟩,λ_ _ q=>q,λ_ _ _ q=>q,λ_ g q=>⟨#[],by rw[q];simp⟩⟩
def Un.refl:Un fs ex H H h h:=Un.kept λ_ _ q=>q
def Un.laid (k:∀b u,h.get? b=some u->h'.get? b=some u) (hp:h.objs.size<=a) (hn:H a=none):Un fs ex H (upd H a o) h h' where
 keep:=λb u q _ _ _=>k b u q
 slot:=λb u q _ _ _=>⟨u.slots,k b u q⟩
 free:=λb u q n _=>by rw[Xs (Qf<|Qo (WM q) hp)];exact n
 there:=λb u q _=>⟨u,k b u q⟩
 tups:=λb xs q=>by rw[Xs (K8 q hn)];exact q
 frzs:=λb u xs q=>by rw[Xs (K8 q hn)];exact q
 tbls:=λb ps q=>⟨#[],by rw[Xs (K8 q hn),q];simp⟩
def Un.write (f:Mut (H x)) (v:e=x\/H e=some (.own x)) (k:∀b u,b≠e->h.get? b=some u->h'.get? b=some u) (s:∃u,h'.get? e=some u):Un fs ex H (upd H x o) h h':=by
 have hx:∀b,H b=none->b≠x:=λb n z=>by subst z;rw[n]at f;exact f
 have l:∀b,H b=none->b≠e:=λb n z=>by
  rcases v with r|r
  ·grind
  ·grind
 have g:∀b u,H b=some u->¬Mut (some u)->b≠x:=λb u q p z=>by subst z;rw[q]at f;exact p f
 refine⟨λb u q n _ _=>k b u (l b n) q,λb u q n _ _=>⟨u.slots,k b u (l b n) q⟩,λb u q n _=>by rw[Xs (hx b n)];exact n,λb u q _=>?_,
  λb xs q=>by rw[Xs (g b _ q λz=>z)];exact q,λb u xs q=>by rw[Xs (g b _ q λz=>z)];exact q,λb y q=>⟨#[],by rw[Xs (g b _ q λz=>z),q];simp⟩⟩
 by_cases w:b=e
 ·grind
 ·grind
end
noncomputable def trk(h:Heap)(H:Hp):List Addr:=(List.range h.objs.size).filter λa=>(H a).isSome
noncomputable def Ni(h:Heap)(H:Hp):Heap:=PySem.W.hideAll h (trk h H)
def Zgf(h:Heap)(H:Hp):(Ni h H).objs.size=h.objs.size:=PySem.W.hideAll_size _ _
def Zf1{H b o}(e:h.get? b=some o)(n:H b=none):(Ni h H).get? b=some o:=
 PySem.W.hideAll_get _ e λf=>by
  have q:=(Qh.mp f).2
  grind
def Zoi(e:(Ni h H).get? b=some o):h.get? b=some o/\H b=none:=by
 have f:=PySem.W.of_hideAll (trk h H) e;refine⟨f,?_⟩;cases q:H b with
 |none=>rfl
 |some x=>
  have g:b∈trk h H:=Qh.mpr ⟨JJ.mpr (WM f),by simp[q]⟩;have z:(Ni h H).get? b=none:=PySem.W.hideAll_none (trk h H) g
  grind
noncomputable def Ziv(g h:Heap)(L:Addr):ZX:=(List.range h.objs.size).filterMap λa=>if a=L\/(g.get? a).isSome=true then none else(h.get? a).map λo=>(a,o)
noncomputable def rest(g h:Heap)(L d:Addr):ZX:=(Ziv g h L).filter λp=>decide (p.1≠d)
structure Mod (K:ZU) (mg:ZY) (base:Heap):Prop where
 kin:K.In base
 glob:base.Ns mainGlobals mg
 blt:∃mb,base.Ns builtinsNs mb/\∀x:Str,x≠"__name__"->mb x=bootBuiltins x
 nolimit:base.NoLimit
structure Cx where
 prog:Program
 w:World
 K:ZU
 mg:ZY
 base:Heap
 A:Around
 N:Yd
 s₀:Shared
 H₀:Hp
 env:Env
 outer:List Env
 stack:List Env
 ex:List Addr
 fn:Str->Bool
 calm:Bool
 pn:ZX
 xe:ZZ
noncomputable def frs(l:List Env):List Addr:=l.filterMap (·.frame)
noncomputable abbrev Cx.fs (X:Cx):List Addr:=frs X.outer
def Vis(f:Scope)(x:Str):Prop:=f.names.lookup x=some .local\/f.names.lookup x=some .cell\/f.names.lookup x=some .free
def Loc(f:Scope)(x:Str):Prop:=f.names.lookup x=some .local\/f.names.lookup x=some .cell
def Look(env:Env)(h:Heap)(m:ZY)(x:Str)(u:Value):Prop:=
 (env.kindOf x=some .local/\m x=some u)\/((env.kindOf x=some .cell\/env.kindOf x=some .free)/\∃c,env.cells.lookup x=some c/\h.IsCell c (some u))
structure Cx.Ok (X:Cx):Prop where
 mod:Mod X.K X.mg X.base
 kind:X.env.scope.kind=.function
 glob:X.env.globals=mainGlobals
 blt:X.env.builtins=builtinsNs
 above:X.s₀.heap.objs.size<=X.env.locals
 inj:∀x y c,X.env.cells.lookup x=some c->X.env.cells.lookup y=some c->x=y
 has:∀x,(X.env.kindOf x=some .cell\/X.env.kindOf x=some .free)->∃c,X.env.cells.lookup x=some c
 cab:∀x c,X.fn x=true->X.env.cells.lookup x=some c->X.s₀.heap.objs.size<=c
 hd:X.calm=true->X.A.handled=none
 frames:X.A.frames=some X.stack
 stk:X.stack=X.outer\/(X.stack=X.env::X.outer/\X.env.frame=some X.env.locals)
 exf:∀b∈X.ex,b≠X.env.locals/\∀x c,X.env.cells.lookup x=some c->c≠b
 bs:∀b o,X.base.get? b=some o->X.s₀.heap.get? b=some o/\X.H₀ b=none
 bsz:X.base.objs.size<=X.s₀.heap.objs.size
 noex:∀b o,X.base.get? b=some o->b∉X.ex
 exfs:∀b∈X.ex,b∉X.fs
 funs:X.s₀.heap.FunFrames X.base X.outer
 frf:∀b∈X.fs,X.H₀ b=none
structure Inv (X:Cx) (pins:ZX) (σ:List (Option V)) (H:Hp) (s:Shared):Prop where
 ok:X.Ok
 os:s.os=X.s₀.os
 bare:AllBare s.gens
 base:Un X.fs X.ex X.H₀ H X.s₀.heap s.heap
 loc:∃m,s.heap.Ns X.env.locals m/\∀(i:Nat) (x:Str) (v:V),X.N[i]?=some x->σ[i]?=some (some v)->Vis X.env.scope x->∃u,RelV v u/\Look X.env s.heap m x u
 cell:∀x c,X.env.cells.lookup x=some c->∃v,s.heap.IsCell c v
 free:H X.env.locals=none
 freeC:∀x c,X.env.cells.lookup x=some c->H c=none
 pin:∀p∈X.pn++pins,s.heap.get? p.1=some p.2/\H p.1=none/\p.1≠X.env.locals/\p.1∉X.fs/\∀v,p.2.data≠.cell v
 hok:HOk X.prog X.w H s.heap
 len:σ.length=X.N.length
section
variable {X:Cx}{pins:ZX}{σ:List (Option V)}{H H':Hp}{s:Shared}{h':Heap}
def Cx.Ok.nofr (ok:X.Ok) {b o} (e:X.base.get? b=some o):b∉X.fs:=λf=>by
 have:=(ok.funs.mem f).1
 grind
def Inv.bs (I:Inv X pins σ H s):∀b o,X.base.get? b=some o->s.heap.get? b=some o/\H b=none:=λb o e=>
 ⟨I.base.keep b o (I.ok.bs b o e).1 (I.ok.bs b o e).2 (I.ok.nofr e) (I.ok.noex b o e),I.base.free b o (I.ok.bs b o e).1 (I.ok.bs b o e).2 (I.ok.noex b o e)⟩
def Inv.bk (I:Inv X pins σ H s):∀b o,X.base.get? b=some o->s.heap.get? b=some o:=λb o e=>(I.bs b o e).1
def Inv.mod (I:Inv X pins σ H s):Mod X.K X.mg X.base:=I.ok.mod
def Inv.kIn (I:Inv X pins σ H s):X.K.In s.heap:=I.ok.mod.kin.keeps I.bk
def Inv.lt (I:Inv X pins σ H s):X.env.locals<s.heap.objs.size:=let ⟨_,f,_⟩:=I.loc;f.lt
def Inv.sz (I:Inv X pins σ H s):X.s₀.heap.objs.size<=s.heap.objs.size:=WK I.ok.above (VW I.lt)
def Inv.nofs (I:Inv X pins σ H s) {a:Addr} (h:s.heap.objs.size<=a):a∉X.fs:=λg=>by
 obtain⟨_,o,f,_⟩:=I.ok.funs.mem g;exact absurd (Qo (WM f)<|WK I.sz h) (QI _)
def Inv.cne (I:Inv X pins σ H s):∀x c,X.env.cells.lookup x=some c->c≠X.env.locals:=λx c e z=>by
 obtain⟨v,o,l,hd⟩:=I.cell x c e;obtain⟨m,⟨h,n,p,f,g,_⟩,_⟩:=I.loc
 grind
def Inv.funs (I:Inv X pins σ H s):s.heap.FunFrames X.base X.outer:=by
 have all:∀l,(∀b∈frs l,b∈X.fs)->X.s₀.heap.FunFrames X.base l->s.heap.FunFrames X.base l:=by
  intro l
  induction l with
  |nil=>intro _ _;trivial
  |cons A r p=>
   intro n x;obtain⟨y,⟨L,o,f,w,v,hd⟩,u⟩:=x;have h:=n L (by unfold frs;rw[Vg,f];exact Qs);obtain⟨sl,e⟩:=I.base.slot L o v (I.ok.frf L h) h λz=>I.ok.exfs L z h;exact⟨y,⟨L,_,f,w,e,hd⟩,p (λb g=>n b (by unfold frs;rw[Vg,f];exact Qb _ g)) u⟩
 exact all X.outer (λ_ g=>g) I.ok.funs
def Inv.stack (I:Inv X pins σ H s):s.heap.FunFrames X.base X.stack:=by
 rcases I.ok.stk with e|⟨e,g⟩
 ·rw[e];exact I.funs
 ·rw[e];obtain⟨m,f,_⟩:=I.loc;refine .cons (by rw[I.ok.kind];decide) g f ?_ I.funs;exact Vv (WK I.ok.bsz I.ok.above)
def Inv.stkSub (I:Inv X pins σ H s):∀b∈frs X.stack,b∈X.env.locals::X.fs:=λb f=>by
 rcases I.ok.stk with e|⟨e,g⟩
 ·grind
 ·rw[e]at f;unfold frs at f;rw[Vg,g]at f;trivial
def Inv.stkFree (I:Inv X pins σ H s):∀b∈frs X.stack,H b=none:=λb f=>by
 rcases WU.mp (I.stkSub b f)with e|f
 ·rw[e];exact I.free
 ·obtain⟨_,o,g,_⟩:=I.ok.funs.mem f;exact I.base.free b o g (I.ok.frf b f) λz=>I.ok.exfs b z f
def Inv.step {d'}{ch:List Addr} (I:Inv X pins σ H s)
  (g:∀b∈ch,(b∈X.ex\/X.s₀.heap.objs.size<=b)/\b≠X.env.locals/\(∀x c,X.env.cells.lookup x=some c->c≠b)/\∀p∈X.pn++pins,p.1≠b)
  (keep:∀b o,b≠X.env.locals->b∉X.fs->b∉ch->s.heap.get? b=some o->H b=none->h'.get? b=some o)
  (slot:∀b o,b≠X.env.locals->b∈X.fs->b∉ch->s.heap.get? b=some o->H b=none->∃sl,h'.get? b=some {o with slots:=sl}) (free:∀b o,b∉ch->s.heap.get? b=some o->H b=none->H' b=none)
  (there:∀b o,b∉ch->s.heap.get? b=some o->∃o',h'.get? b=some o')
  (tups:∀b xs,H b=some (.tup xs)->H' b=some (.tup xs)) (frzs:∀b o u,H b=some (.frz o u)->H' b=some (.frz o u)) (tbls:∀b ps,H b=some (.tbl ps)->∃more,H' b=some (.tbl (ps++more)))
  (ns:∀m,s.heap.Ns X.env.locals m->h'.Ns X.env.locals m) (J:HOk X.prog X.w H' h') (Y:AllBare g') :
  Inv X pins σ H' {s with heap:=h',gens:=g',drawn:=d',toks:=t'}:=by
 have B:∀b o,X.s₀.heap.get? b=some o->b≠X.env.locals:=λb o e=>Qf (Qo (WM e) I.ok.above)
 have f:∀b o,X.s₀.heap.get? b=some o->b∉X.ex->b∉ch:=λb o e hx y=>by
  rcases(g b y).1 with z|z
  ·exact hx z
  ·exact absurd (Qo (WM e) z) (QI _)
 have cellK:∀x c,X.env.cells.lookup x=some c->∀v,s.heap.IsCell c v->h'.IsCell c v:=λx c e v ⟨o,A,hd⟩=>by
  have C:=λz=>(g c z).2.2.1 x c e rfl;by_cases L:c∈X.fs
  ·obtain⟨sl,q⟩:=slot c o (I.cne x c e) L C A (I.freeC x c e);exact⟨_,q,hd⟩
  ·exact⟨o,keep c o (I.cne x c e) L C A (I.freeC x c e),hd⟩
 refine⟨I.ok,I.os,Y,⟨λb o e n y hx=>?_,λb o e n y hx=>?_,λb o e n hx=>?_,λb o e hx=>?_,λb xs e=>tups b xs (I.base.tups b xs e),λb o xs e=>frzs b o xs (I.base.frzs b o xs e),λb ps e=>?_⟩,?_,λx c e=>?_,?_,λx c e=>?_,λp Q=>?_,J,I.len⟩
 ·exact keep b o (B b o e) y (f b o e hx) (I.base.keep b o e n y hx) (I.base.free b o e n hx)
 ·obtain⟨sl,h⟩:=I.base.slot b o e n y hx;obtain⟨G,E⟩:=slot b _ (B b o e) y (f b o e hx) h (I.base.free b o e n hx);exact⟨G,E⟩
 ·obtain⟨o',h⟩:=I.base.there b o e hx;exact free b o' (f b o e hx) h (I.base.free b o e n hx)
 ·obtain⟨o',h⟩:=I.base.there b o e hx;exact there b o' (f b o e hx) h
 ·obtain⟨N,h⟩:=I.base.tbls b ps e;obtain⟨M,E⟩:=tbls b _ h;exact⟨N++M,by rw[E,Array.append_assoc]⟩
 ·obtain⟨m,T,U⟩:=I.loc;refine⟨m,ns m T,λi x v h E e3=>?_⟩;obtain⟨u,r,l⟩:=U i x v h E e3;refine⟨u,r,?_⟩;rcases l with l|⟨k,c,e,z⟩
  ·exact .inl l
  ·exact .inr ⟨k,c,e,cellK x c e _ z⟩
 ·obtain⟨v,z⟩:=I.cell x c e;exact⟨v,cellK x c e v z⟩
 ·obtain⟨m,⟨o,_,_,A,_⟩,_⟩:=I.loc;exact free _ o (λz=>(g _ z).2.1 rfl) A I.free
 ·obtain⟨v,o,A,hd⟩:=I.cell x c e;exact free c o (λz=>(g c z).2.2.1 x c e rfl) A (I.freeC x c e)
 ·obtain⟨e,n,ne,nf,d⟩:=I.pin p Q
  grind
def Inv.un (I:Inv X pins σ H s) (u:Un X.fs [] H H' s.heap h') (g:HOk X.prog X.w H' h'):Inv X pins σ H' {s with heap:=h',toks:=t'}:=by
 obtain⟨m,⟨o,E,G,v,r⟩,_⟩:=id I.loc;obtain⟨sl,A⟩:=u.any v I.free (by simp)
 exact I.step (ch:=[]) (λ_ z=>nomatch z) (λb o _ h _ e n=>u.keep b o e n h (by simp)) (λb o _ h _ e n=>u.slot b o e n h (by simp)) (λb o _ e n=>u.free b o e n (by simp)) (λb o _ e=>u.there b o e (by simp)) u.tups u.frzs u.tbls (λC y=>by
  obtain⟨B,l,p,f,x⟩:=y;rw[v]at f;cases f;exact⟨_,l,p,A,x⟩) g I.bare
def Inv.call {d'}{ch} (I:Inv X pins σ H s) (u:Un (frs X.stack) ch H H' s.heap h') (l:HOk X.prog X.w H' h') (G:AllBare L)
  (h:∀b∈ch,(b∈X.ex\/X.s₀.heap.objs.size<=b)/\b≠X.env.locals/\(∀x c,X.env.cells.lookup x=some c->c≠b)/\∀p∈X.pn++pins,p.1≠b) :
  Inv X pins σ H' {s with heap:=h',gens:=L,drawn:=d',toks:=t'}:=by
 obtain⟨m,⟨o,Q,T,B,r⟩,_⟩:=id I.loc;obtain⟨sl,v⟩:=u.any B I.free λz=>(h _ z).2.1 rfl
 exact I.step h (λb o v J f e n=>u.keep b o e n (λz=>(WU.mp<|I.stkSub b z).elim v J) f) (λb o _ _ f e n=>u.any e n f) (λb o f e n=>u.free b o e n f) (λb o f e=>u.there b o e f) u.tups u.frzs u.tbls (λN E=>by
  obtain⟨M,y,A,g,C⟩:=E;rw[B]at g;cases g;exact⟨_,y,A,v,C⟩) l G
def Inv.turned {it} (I:Inv X pins σ H s) (k:∀b o,b≠it->s.heap.get? b=some o->h'.get? b=some o) (B:H it=none) (l:it≠X.env.locals)
  (J:it∈X.ex\/X.s₀.heap.objs.size<=it) (G:∀x c,X.env.cells.lookup x=some c->c≠it) (E:∀p∈X.pn++pins,p.1≠it):Inv X pins σ H {s with heap:=h',toks:=t'}:=by
 refine I.step (ch:=[it]) (λb C=>?_) (λb o _ _ f e _=>k b o (λz=>f (by simp[z])) e) (λb o _ _ f e _=>⟨o.slots,k b o (λz=>f (by simp[z])) e⟩) (λ_ _ _ _ n=>n)
  (λb o f e=>⟨o,k b o (λz=>f (by simp[z])) e⟩) (λ_ _ e=>e) (λ_ _ _ e=>e) (λb A e=>⟨#[],by rw[e];simp⟩) (λm h=>?_) (λb u e=>?_) I.bare
 ·grind
 ·obtain⟨o,w,y,g,r⟩:=h;exact⟨o,w,y,k _ o (Ne.symm l) g,r⟩
 ·refine(I.hok b u e).stay (λc v f q=>k c v ?_ q) (λ_ q=>q) λ_ _ q=>q;rcases f with z|z
  ·grind
  ·grind
def Inv.tok (I:Inv X pins σ H s) (t:Nat):Inv X pins σ H {s with toks:=t}:=I.un Un.refl I.hok
def Inv.kept (I:Inv X pins σ H s) (k:∀b u,s.heap.get? b=some u->h'.get? b=some u):Inv X pins σ H {s with heap:=h',toks:=t'}:=I.un (Un.kept k) (I.hok.kept k)
def Inv.laid {a:Addr}{o}{t'} (I:Inv X pins σ H s) (k:∀b u,s.heap.get? b=some u->h'.get? b=some u) (f:s.heap.objs.size<=a) (new:ObjOk X.prog X.w (upd H a o) h' a o) :
  Inv X pins σ (upd H a o) {s with heap:=h',toks:=t'}:=I.un (Un.laid k f<|I.hok.fresh f) (I.hok.laid k f new)
def Inv.write (I:Inv X pins σ H s) (g:Mut (H x)) (h:e=x\/H e=some (.own x)) (k:∀b u,b≠e->s.heap.get? b=some u->h'.get? b=some u) (f:∃u,h'.get? e=some u)
  (new:ObjOk X.prog X.w (upd H x o) h' x o):Inv X pins σ (upd H x o) {s with heap:=h',toks:=t'}:=I.un (Un.write g h k f) (I.hok.write g h k f new)
def Inv.weak (I:Inv X pins σ H s) (l:f.length=σ.length) (w:∀(i:Nat) v,f[i]?=some (some v)->σ[i]?=some (some v)):Inv X pins f H s:=
 ⟨I.ok,I.os,I.bare,I.base,let ⟨m,h,g⟩:=I.loc;⟨m,h,λi x v p o n=>g i x v p (w i v o) n⟩,I.cell,I.free,I.freeC,I.pin,I.hok,l.trans I.len⟩
def Inv.pins_of (I:Inv X pins σ H s) (h:∀p∈pins',s.heap.get? p.1=some p.2/\H p.1=none/\p.1≠X.env.locals/\p.1∉X.fs/\∀v,p.2.data≠.cell v):Inv X pins' σ H s:=
 ⟨I.ok,I.os,I.bare,I.base,I.loc,I.cell,I.free,I.freeC,λp f=>(WO.mp f).elim (λz=>I.pin p (Q4 _ z)) (h p),I.hok,I.len⟩
def Dj{N:Yd}(f:N.Nodup){i j:Nat}{x}(a:N[i]?=some x)(b:N[j]?=some x):i=j:=by
 obtain⟨n,h⟩:=WT.mp a;obtain⟨l,g⟩:=WT.mp b;exact(List.getElem_inj f).mp (h.trans g.symm)
def Zn2{i x v u Q}(I:Inv X pins σ H s)(hN:X.N.Nodup)(hi:X.N[i]?=some x)(hx:Loc X.env.scope x)(r:RelV v u)(h:∀s',Inv X pins (σ.set i<|some v) H s'->(∃a,Heap.SameBut a s.heap s'.heap/\(a=X.env.locals\/X.env.cells.lookup x=some a))->Q () s')(hf:autoParam (X.fn x=true\/X.env.scope.names.lookup x=some .local) au_2):wpAny M A (storeName X.env x u) Q E s:=by
 obtain⟨m,hn,hl⟩:=id I.loc;have hcls:(X.env.scope.kind == .class || (X.env.scope.kind == .module&&X.env.locals != X.env.globals))=false:=by rw[I.ok.kind];rfl
 have J:i<σ.length:=by rw[I.len];exact(WT.mp hi).1
 have cne:=I.cne
 have tracked:∀{a:Addr} {h':Heap},(∃o,s.heap.get? a=some o/\H a=none)->Heap.SameBut a s.heap h'->HOk X.prog X.w H h':=λ{a h'} ha f b ob e=>by
  obtain⟨_,_,B⟩:=ha;refine(I.hok b ob e).stay (λc w' l q=>(f.2 c ?_).trans q) (λ_ q=>q) λ_ _ q=>q;rintro rfl;rcases l with rfl|l
  ·rw[B]at e;cases e
  ·rw[B]at l;cases l
 rcases hx with G|G
 ·refine wpAny_storeName_local G hn (λh' hn' f=>?_) hcls;obtain⟨oL,_,_,hoL,_⟩:=id hn;refine h _ ⟨I.ok,I.os,I.bare,⟨λb o e n U hx=>?_,λb o e n U hx=>?_,I.base.free,λb o e hx=>?_,I.base.tups,I.base.frzs,I.base.tbls⟩,⟨_,hn',λj y v' g C e3=>?_⟩,λy c e=>?_,I.free,I.freeC,λp hp=>?_,tracked ⟨oL,hoL,I.free⟩ f,by simpa using I.len⟩ ⟨_,f,.inl rfl⟩
  ·exact(f.2 b<|Qf<|Qo (WM e) I.ok.above).trans (I.base.keep b o e n U hx)
  ·obtain⟨sl,g⟩:=I.base.slot b o e n U hx;exact⟨sl,(f.2 b<|Qf<|Qo (WM e) I.ok.above).trans g⟩
  ·obtain⟨o',g⟩:=I.base.there b o e hx;exact⟨o',(f.2 b<|Qf<|Qo (WM e) I.ok.above).trans g⟩
  ·by_cases L:j=i
   ·subst L;rw[hi]at g;cases g;rw[List.getElem?_set_self J]at C;cases C
    exact⟨u,r,.inl ⟨G,by simp⟩⟩
   ·rw[Jz (Ne.symm L)]at C;obtain⟨u',r',q⟩:=hl j y v' g C e3;refine⟨u',r',?_⟩;rcases q with⟨k,e⟩|⟨k,c,e,z⟩
    ·refine .inl ⟨k,?_⟩
     have:y≠x:=λe=>L (Dj hN g (e▸hi))
     simp[this,e]
    ·exact .inr ⟨k,c,e,z.sameBut f (cne y c e)⟩
  ·obtain⟨w',z⟩:=I.cell y c e;exact⟨w',z.sameBut f (cne y c e)⟩
  ·obtain⟨e,n,ne,nf,d⟩:=I.pin p hp;exact⟨(f.2 p.1 ne).trans e,n,ne,nf,d⟩
 ·have T:X.fn x=true:=by
   rcases hf with z|z
   ·exact z
   ·rw[z]at G;cases G
  obtain⟨c,l⟩:=I.ok.has x (.inl G);obtain⟨w',z⟩:=I.cell x c l;refine wpAny_storeName_cell I.ok.kind G l z (λh' hc' f=>?_);obtain⟨oc,hoc,Y⟩:=id z;refine h {s with heap:=h'} ⟨I.ok,I.os,I.bare,⟨λb o e n U hx=>?_,λb o e n U hx=>?_,I.base.free,λb o e hx=>?_,I.base.tups,I.base.frzs,I.base.tbls⟩,⟨m,hn.sameBut f (Ne.symm<|cne x c l),λj y v' g C e3=>?_⟩,λy c' e=>?_,I.free,I.freeC,λp hp=>?_,tracked ⟨oc,hoc,I.freeC x c l⟩ f,by simpa using I.len⟩ ⟨c,f,.inr l⟩
  ·exact(f.2 b<|Qf<|Qo (WM e)<|I.ok.cab x c T l).trans (I.base.keep b o e n U hx)
  ·obtain⟨sl,g⟩:=I.base.slot b o e n U hx;exact⟨sl,(f.2 b<|Qf<|Qo (WM e)<|I.ok.cab x c T l).trans g⟩
  ·obtain⟨o',g⟩:=I.base.there b o e hx;exact⟨o',(f.2 b<|Qf<|Qo (WM e)<|I.ok.cab x c T l).trans g⟩
  ·by_cases L:j=i
   ·subst L;rw[hi]at g;cases g;rw[List.getElem?_set_self J]at C;cases C
    exact⟨u,r,.inr ⟨.inl G,c,l,hc'⟩⟩
   ·rw[Jz (Ne.symm L)]at C;obtain⟨u',r',q⟩:=hl j y v' g C e3;refine⟨u',r',?_⟩;rcases q with q|⟨k,c',e,z'⟩
    ·exact .inl q
    ·refine .inr ⟨k,c',e,z'.sameBut f ?_⟩;rintro rfl;exact L (Dj hN g (I.ok.inj _ _ _ e l▸hi))
  ·by_cases hcc:c'=c
   ·subst hcc;exact⟨_,hc'⟩
   ·obtain⟨w2,z2⟩:=I.cell y c' e;exact⟨w2,z2.sameBut f hcc⟩
  ·obtain⟨e,n,ne,nf,d⟩:=I.pin p hp;refine⟨(f.2 p.1 ?_).trans e,n,ne,nf,d⟩;intro q;rw[q,hoc]at e;exact d w' (by rw[←(WR e)];exact Y)
def B3{i x v u Q}(I:Inv X pins σ H s)(n:X.N.Nodup)(g:X.N[i]?=some x)(hx:Loc X.env.scope x)(r:RelV v u)(h:∀f,Inv X pins (σ.set i<|some v) H f->Q () f)(l:autoParam (X.fn x=true\/X.env.scope.names.lookup x=some .local) au_2):wpAny M A (storeName X.env x u) Q E s:=
 Zn2 I n g hx r (λf o _=>h f o) l
def Inv.call' {ch} (I:Inv X pins σ H s) (l:f.os=s.os) (u:Un (frs X.stack) ch H H' s.heap f.heap) (g:HOk X.prog X.w H' f.heap) (n:AllBare f.gens)
  (h:∀b∈ch,(b∈X.ex\/X.s₀.heap.objs.size<=b)/\b≠X.env.locals/\(∀x c,X.env.cells.lookup x=some c->c≠b)/\∀p∈X.pn++pins,p.1≠b):Inv X pins σ H' f:=by
 obtain⟨h',v,y,o,r⟩:=f;subst l;exact I.call u g n h
end
abbrev XK:=Value->Yh->Hp->Prop
abbrev St:=List (Option V)
abbrev VK:=V->Hp->Prop
abbrev TE:=St->Hp->VK->Prop
abbrev TT:=St->Hp->(Bool->Hp->Prop)->Prop
abbrev TA:=St->Hp->(List V->Hp->Prop)->Prop
structure Ends where
 nx:St->Hp->Prop
 rt:VK
 bk:St->Hp->Prop:=λ_ _=>False
 ct:St->Hp->Prop:=λ_ _=>False
abbrev TS:=Ends->St->Hp->Prop
def EP(X:Cx)(pins:ZX)(g:St)(Q:VK)(u:Value)(h:Shared):Prop:=∃v f,Inv X pins g f h/\RelV v u/\Q v f
def TP(X:Cx)(pins:ZX)(g:St)(Q:Bool->Hp->Prop)(b:Bool)(h:Shared):Prop:=∃f,Inv X pins g f h/\Q b f
def AP(X:Cx)(pins:ZX)(h:St)(Q:List V->Hp->Prop)(us:Yc)(l:Shared):Prop:=∃f g,Inv X pins h g l/\Vals f us/\Q f g
def SP(X:Cx)(pins:ZX)(D:Ends)(f:Flow)(l:Shared):Prop:=
 match f with
 | .next=>∃g h,Inv X pins g h l/\D.nx g h
 | .brk=>∃g h,Inv X pins g h l/\D.bk g h
 | .cont=>∃g h,Inv X pins g h l/\D.ct g h
 | .ret u=>∃v g h,Inv X pins g h l/\RelV v u/\D.rt v h
def PE(X:Cx)(e:Expr)(t:TE):Prop:=
 ∀(pins:ZX) (s:Shared) (f:St) (H:Hp) (Q:VK),Inv X pins f H s->t f H Q->wpAny (model X.prog X.w) X.A (eval e X.env) (EP X pins f Q) X.xe s
def PT(X:Cx)(e:Expr)(t:TT):Prop:=
 ∀(pins:ZX) (s:Shared) (f:St) (H:Hp) (Q:Bool->Hp->Prop),Inv X pins f H s->t f H Q->wpAny (model X.prog X.w) X.A (isTrue e X.env<|eval e X.env) (TP X pins f Q) X.xe s
def PW(X:Cx)(e:Expr)(t:TT):Prop:=
 ∀(whole:Sem Value) (pins:ZX) (s:Shared) (f:St) (H:Hp) (Q:Bool->Hp->Prop),Inv X pins f H s->t f H Q->wpAny (model X.prog X.w) X.A (isTrue e X.env whole) (TP X pins f Q) X.xe s
def PW.pt (h:PW X e t):PT X e t:=h _
def PA(X:Cx)(es:Ye)(t:TA):Prop:=
 ∀(pos:Pos) (pins:ZX) (s:Shared) (f:St) (H:Hp) (Q:List V->Hp->Prop),Inv X pins f H s->t f H Q->wpAny (model X.prog X.w) X.A (spliced<|backTo pos<|starEach es X.env) (AP X pins f Q) X.xe s
def PS(X:Cx)(st:Stmt)(t:TS):Prop:=
 ∀(pins:ZX) (s:Shared) (f:St) (H:Hp) (D:Ends),Inv X pins f H s->t D f H->wpAny (model X.prog X.w) X.A (exec st X.env) (SP X pins D) X.xe s
def PSs(X:Cx)(st:Yf)(t:TS):Prop:=
 ∀(pins:ZX) (s:Shared) (f:St) (H:Hp) (D:Ends),Inv X pins f H s->t D f H->wpAny (model X.prog X.w) X.A (execs st X.env) (SP X pins D) X.xe s
def thn{M A E s}(h:wpAny M A t Q E s)(f:∀a s,Q a s->g a s):wpAny M A t g E s:=Qt h f λ_ _ x=>x
section
variable {X:Cx}
def bin{B z}(J:PE X a B)(G:PE X b z){pins}{s}{g:St}{H}{R:V->V->Hp->Prop}(I:Inv X pins g H s)(h:B g H λx r=>z g r λy o=>R x y o){α}{Q}{f:Value->Value->Sem α}(U:∀v u p x y o,Inv X pins g o p->RelV x v->RelV y u->R x y o->wpAny (model X.prog X.w) X.A (f v u) Q X.xe p) :
  wpAny (model X.prog X.w) X.A (eval a X.env) (λv n=>wpAny (model X.prog X.w) X.A (eval b X.env) (λu l=>wpAny (model X.prog X.w) X.A (f v u) Q X.xe l) X.xe n) X.xe s:=by
 refine thn (J pins s g H _ I h) λv C ⟨x,r,L,N,E⟩=>?_;refine thn (G pins C g r _ L E) λu p ⟨y,o,Y,M,T⟩=>?_
 grind
noncomputable def K7(i:Nat):TE:=λf H Q=>∃v,f[i]?=some (some v)/\Q v H
noncomputable def tC(v:V):TE:=λ_ H Q=>Q v H
def Zay{pos}(C:X.N[i]?=some x)(y:Vis X.env.scope x)(hd:autoParam ((x==("__debug__" : Str))=false) au_1)(o:autoParam ((x==("__classdict__" : Str))=false) au_1):PE X (.Name x pos) (K7 i):=by
 intro pins s w H Q I h;obtain⟨v,e,h⟩:=h;obtain⟨m,z,B⟩:=I.loc;obtain⟨u,r,l⟩:=B i x v C e y;have n:EP X pins w Q u s:=⟨v,H,I,r,h⟩;rcases l with⟨g,A⟩|⟨g,c,p,f⟩
 ·exact wpAny_Name (wpAny_loadName_local I.ok.kind g z A n) hd
 ·rcases g with g|g
  ·exact wpAny_Name (wpAny_loadName_cell I.ok.kind g p f n) hd
  ·exact wpAny_Name (wpAny_loadName_free I.ok.kind g p f n o) hd
def Xu:PE X (.Constant (.int i) j pos) (tC<|.int i):=λ_ _ _ H _ I h=>wpAny_Constant_int ⟨.int i,H,I.tok _,⟨_,rfl⟩,h⟩
def N1:PE X (.Constant (.bool b) j pos) (tC<|.bl b):=λ_ _ _ H _ I h=>Constant_bool ⟨.bl b,H,I,rfl,h⟩
def NN:PE X (.Constant (.str x) j pos) (tC<|.str x):=λ_ _ _ H _ I h=>Calls.Constant_str ⟨.str x,H,I.tok _,⟨_,rfl⟩,h⟩
def Gl(X:Cx)(x:Str):Prop:=X.env.kindOf x=some .globalImplicit
def Ss{pins}{s}{f:St}{H}{x}{u}{pos}{Q}(I:Inv X pins f H s)(l:Gl X x)(g:X.mg x=some u)(h:Q u s)(hd:autoParam ((x==("__debug__" : Str))=false) au_1):wpAny (model X.prog X.w) X.A (eval (.Name x pos) X.env) Q E s:=
 Calls.Name_function_global I.ok.kind l (Calls.loadGlobal_global (by rw[I.ok.glob];exact I.mod.glob.keeps I.bk) g h) hd
def SN{E}{pins}{s}{f:St}{H}{x}{u}{pos}{Q}(I:Inv X pins f H s)(o:Gl X x)(n:X.mg x=none)(g:bootBuiltins x=some u)(h:Q u s)(l:autoParam (x≠"__name__") au_1)(hd:autoParam ((x==("__debug__" : Str))=false) au_1):wpAny (model X.prog X.w) X.A (eval (.Name x pos) X.env) Q E s:=by
 obtain⟨v,r,p⟩:=I.mod.blt;exact Calls.Name_function_global I.ok.kind o (Calls.loadGlobal_builtin (by rw[I.ok.glob];exact I.mod.glob.keeps I.bk) n (by rw[I.ok.blt];exact r.keeps I.bk) ((p x l).trans g) h) hd
def Zdg{u pos}(g:Gl X x)(f:X.mg x=some u)(r:RelV v u)(hd:autoParam ((x==("__debug__" : Str))=false) au_1):PE X (.Name x pos) (tC v):=
 λ_ _ _ H _ I h=>Ss I g f ⟨v,H,I,r,h⟩ hd
def Bl{u pos}(n:Gl X x)(l:X.mg x=none)(f:bootBuiltins x=some u)(r:RelV v u)(g:autoParam (x≠"__name__") au_1)(hd:autoParam ((x==("__debug__" : Str))=false) au_1):PE X (.Name x pos) (tC v):=
 λ_ _ _ H _ I h=>SN I n l f ⟨v,H,I,r,h⟩ g hd
variable {a b:Expr}{ta tb:TE}{pos:Pos}
def PC(X:Cx)(l:CmpOp)(a b:Expr)(t:TE):Prop:=
 ∀(pins:ZX) (s:Shared) (h:St) (H:Hp) (Q:VK),Inv X pins h H s->t h H Q->
  wpAny (model X.prog X.w) X.A (eval a X.env) (λv g=>wpAny (model X.prog X.w) X.A (eval b X.env) (λu f=>wpAny (model X.prog X.w) X.A (compareOp l v u) (EP X pins h Q) X.xe f) X.xe g) X.xe s
def Zav(b:Expr){op}(h:op≠.In)(l:op≠.NotIn):behindInMarks op b=false:=by
 have g:(op==CmpOp.In)=false:=by grind
 have f:(op==CmpOp.NotIn)=false:=by grind
 cases b<;>simp[behindInMarks,g,f]
noncomputable def tB(t:TE):TT:=λf H Q=>t f H λx g=>∃c,x=.bl c/\Q c g
def Zal(h:PC X g a b t)(f:behindInMarks g b=false:=by first|exact Zav _ (by decide) (by decide)|rfl):PT X (.Compare a [g] [b] pos) (tB t):=by
 intro pins s l H Q I hw;refine wpAny_isTrue_Compare1 (thn (h pins s l H _ I hw) λv A f=>thn f λu z p=>thn p ?_) f;rintro c y ⟨x,w,r,n,o⟩;obtain⟨d,rfl,q⟩:=o;cases n
 exact Vs ⟨w,r,q⟩
variable {tA tB':TT}{rest:Ye}
noncomputable def Ie(t u:TT):TT:=λf H Q=>t f H λc g=>if c=true then u f g Q else Q false g
noncomputable def tOr(t u:TT):TT:=λf H Q=>t f H λc g=>if c=true then Q true g else u f g Q
noncomputable def Ex(t:TT):TT:=λf H Q=>t f H λc g=>Q (!c) g
def Ze0(g:PT X a tA):PW X (.BoolOp .And [a] pos) tA:=by
 intro l pins s f H Q I h;refine isTrue_and (thn (g pins s f H Q I h) λc n e=>?_);cases c with
 |true=>exact isTrue_and_nil e
 |false=>exact e
def Zcc(g:PT X a tA):PW X (.BoolOp .Or [a] pos) tA:=by
 intro l pins s f H Q I h;refine isTrue_or (thn (g pins s f H Q I h) λc n e=>?_);cases c with
 |false=>exact isTrue_or_nil e
 |true=>exact e
def Zhi(p:PT X a tA)(o:PW X (.BoolOp .And (b::rest) pos) tB'):PW X (.BoolOp .And (a::b::rest) pos) (Ie tA tB'):=by
 intro g pins s f H Q I h;refine isTrue_and (thn (p pins s f H _ I h) λc l ⟨u,r,n⟩=>?_);cases c with
 |true=>exact o g pins l f u Q r n
 |false=>trivial
def Zro(p:PT X a tA)(o:PW X (.BoolOp .Or (b::rest) pos) tB'):PW X (.BoolOp .Or (a::b::rest) pos) (tOr tA tB'):=by
 intro g pins s f H Q I h;refine isTrue_or (thn (p pins s f H _ I h) λc l ⟨u,r,n⟩=>?_);cases c with
 |true=>trivial
 |false=>exact o g pins l f u Q r n
def CM(g:PT X a tA):PT X (.UnaryOp .Not a pos) (Ex tA):=by
 intro pins s f H Q I h;exact isTrue_not (g pins s f H (λc l=>Q (!c) l) I h)
noncomputable def Hg(ta tb:TE):TE:=λf H Q=>ta f H λx g=>∃c,x=.bl c/\if c=true then tb f g Q else Q (.bl false) g
noncomputable def Ii(ta:TE):TE:=λf H Q=>ta f H λx g=>∃c,x=.bl c/\Q (.bl (!c)) g
def SR{t}(h:PE X a t):PE X (.BoolOp f [a] pos) t:=by trivial
def Bc(u:PE X a ta)(r:PE X (.BoolOp .And (b::rest) pos) tb):PE X (.BoolOp .And (a::b::rest) pos) (Hg ta tb):=by
 intro pins s g H Q I h;refine BoolOp_and (thn (u pins s g H _ I h) ?_);rintro v o ⟨x,n,l,p,f⟩;obtain⟨c,rfl,f⟩:=f;cases p
 refine Vs ?_;cases c with
 |true=>exact r pins o g n Q l f
 |false=>exact⟨.bl false,n,l,rfl,f⟩
def R3(n:PE X a ta):PE X (.UnaryOp .Not a pos) (Ii ta):=by
 intro pins s g H Q I h;refine UnaryOp_ (thn (n pins s g H _ I h) ?_);rintro v r ⟨x,p,o,l,f⟩;obtain⟨c,rfl,f⟩:=f;cases l
 exact not_of (Vs ⟨.bl (!c),p,o,rfl,f⟩)
end
def SqL(K:ZU)(H:Hp)(a:Addr)(xs:List V):Prop:=
 Rd H a (.lst xs)\/
  ∃(o:Obj) (f:Array Value) (n:Nat),K.lookup a=some o/\o.cls=.type "list"/\o.dict=none/\o.data=.seq f n/\f.size<=sizeLine/\Vals xs f.toList
def SqT(K:ZU)(H:Hp)(a:Addr)(xs:List V):Prop:=
 Rd H a (.tup xs)\/
  ∃(o:Obj) (f:Array Value) (n:Nat),K.lookup a=some o/\o.cls=.type "tuple"/\o.data=.seq f n/\f.size<=sizeLine/\Vals xs f.toList
noncomputable def Zpb:Value->Option V
 | .none=>some .non
 | .bool b=>some (.bl b)
 | .int i _=>some (.int i)
 | .str x _=>some (.str x)
 | .bytes b _=>some (.byt b)
 | .float b _=>some (.flt b)
 | .ref a=>some (.ref a)
 | .type n=>some (.ty n)
 |_=>none
def RelV.abs (r:RelV x u):Zpb u=some x:=by
 cases x with
 |non|bl _|ref _|ty _=>cases r;rfl
 |_=>obtain⟨t,rfl⟩:=r;rfl
def RelV.inj {u} (r:RelV x u) (q:RelV y u):x=y:=WR (r.abs.symm.trans q.abs)
def Vals.inj:∀{xs ys}{us:Yc},Vals xs us->Vals ys us->xs=ys:=by
 intro o
 induction o with
 |nil=>
  intro _ _ h g;cases h
  cases g
  rfl
 |cons _ _ n=>
  intro _ _ h g;cases h with
  |cons h r=>
   cases g with
   |cons l f=>rw[h.inj l,n r f]
section
variable {X:Cx}{pins:ZX}{σ:St}{H:Hp}{s:Shared}{a:Addr}{xs ys:List V}
def SqL.of {K} (h:H a=some (.lst xs)):SqL K H a xs:=.inl (.inl h)
def SqT.of {K} (h:H a=some (.tup xs)):SqT K H a xs:=.inl (.inl h)
def Inv.list (I:Inv X pins σ H s) (h:SqL X.K H a xs):∃f,Vals xs f/\PlainL s.heap a f.toArray/\xs.length<=sizeLine:=by
 rcases h with h|⟨o,f,n,l,p,hd,g,u,r⟩
 ·obtain⟨z,f,n,r,e⟩:=h.ok I.hok;exact⟨f,r,⟨_,n,e,rfl,rfl,rfl⟩,z⟩
 ·refine⟨f.toList,r,⟨o,n,I.kIn a o l,p,hd,by simpa using g⟩,?_⟩;have e:=r.length
  grind
def Inv.tuple (I:Inv X pins σ H s) (h:SqT X.K H a xs):∃f,Vals xs f/\IsTup s.heap a f.toArray/\xs.length<=sizeLine:=by
 rcases h with h|⟨o,f,n,l,u,g,v,r⟩
 ·obtain⟨z,f,r,p⟩:=h.ok I.hok
  grind
 ·refine⟨f.toList,r,⟨o,I.kIn a o l,u,n,by simpa using g⟩,?_⟩;have e:=r.length
  grind
def Inv.list_inj (I:Inv X pins σ H s) (h:SqL X.K H a xs) (p:SqL X.K H a ys):xs=ys:=by
 obtain⟨g,r,⟨o,n,e,_,_,d⟩,_⟩:=I.list h;obtain⟨f,l,⟨u,v,w,_,_,x⟩,_⟩:=I.list p
 have:g=f:=by grind
 subst this;exact r.inj l
def Inv.tuple_inj (I:Inv X pins σ H s) (h:SqT X.K H a xs) (p:SqT X.K H a ys):xs=ys:=by
 obtain⟨g,r,⟨o,e,_,n,d⟩,_⟩:=I.tuple h;obtain⟨f,l,⟨u,w,_,v,x⟩,_⟩:=I.tuple p
 have:g=f:=by grind
 subst this;exact r.inj l
end
noncomputable abbrev Cx.wish (X:Cx) (E:ZZ):Cx:={X with xe:=E}
noncomputable abbrev Cx.nox (X:Cx):Cx:=X.wish λ_ _=>False
def Cx.Ok.wish {X:Cx} (ok:X.Ok) (E:ZZ):(X.wish E).Ok:=
 ⟨ok.mod,ok.kind,ok.glob,ok.blt,ok.above,ok.inj,ok.has,ok.cab,ok.hd,ok.frames,ok.stk,ok.exf,ok.bs,ok.bsz,ok.noex,ok.exfs,ok.funs,ok.frf⟩
def Cx.Ok.unwish {X:Cx}{E} (ok:(X.wish E).Ok):X.Ok:=
 ⟨ok.mod,ok.kind,ok.glob,ok.blt,ok.above,ok.inj,ok.has,ok.cab,ok.hd,ok.frames,ok.stk,ok.exf,ok.bs,ok.bsz,ok.noex,ok.exfs,ok.funs,ok.frf⟩
section
variable {X:Cx}{pins:ZX}{σ:St}{H:Hp}{s:Shared}{E:ZZ}
def Inv.wish (I:Inv X pins σ H s) (E:ZZ):Inv (X.wish E) pins σ H s:=⟨I.ok.wish E,I.os,I.bare,I.base,I.loc,I.cell,I.free,I.freeC,I.pin,I.hok,I.len⟩
def Inv.unwish (I:Inv (X.wish E) pins σ H s):Inv X pins σ H s:=⟨I.ok.unwish,I.os,I.bare,I.base,I.loc,I.cell,I.free,I.freeC,I.pin,I.hok,I.len⟩
def SP.unwish (h:SP (X.wish E) pins D f n):SP X pins D f n:=by
 cases f with
 |ret u=>obtain⟨v,g,l,I,r,q⟩:=h;exact⟨v,g,l,I.unwish,r,q⟩
 |_=>obtain⟨g,l,I,q⟩:=h;exact⟨g,l,I.unwish,q⟩
def PSs.nox {st t} (h:PSs X.nox st t):PSs X st t:=λpins s σ H D I hw=>
 Qt (h pins s σ H D (I.wish _) hw) (λ_ _ q=>q.unwish) λ_ _ z=>False.elim z
end
section
variable {X:Cx}{st:Stmt}{rest:Yf}{t u:TS}{e:Expr}{te:TE}{pos:Pos}
noncomputable def RM:TS:=λD f H=>D.nx f H
noncomputable def Ig(t u:TS):TS:=λD f H=>t {D with nx:=u D} f H
def N9:PSs X [] RM:=λ_ _ f H _ I h=>J0 ⟨f,H,I,h⟩
def Zp4(p:PS X st t)(o:PSs X rest u):PSs X (st::rest) (Ig t u):=by
 intro pins s l H D I h;refine wpAny_execs_cons (thn (p pins s l H {D with nx:=u D} I h) λf n q=>?_)
 cases f with
 |next=>
  obtain⟨g,v,r,q⟩:=q;exact o pins n g v D r q
 |_=>exact q
def Pr(l:PS X st t):PSs X [st] t:=by
 intro pins s g H D I h;refine wpAny_execs_cons (thn (l pins s g H D I h) λf n q=>?_);cases f with
 |next=>exact J0 q
 |_=>lia
def Inv.quiet {f:St}{H}{s} (I:Inv X pins f H s):interactive X.env=false:=by simp[interactive,I.ok.kind]
noncomputable def SM(te:TE):TS:=λD f H=>te f H λ_ g=>D.nx f g
def Ku(l:PE X e te)(hs:autoParam (swapsWith e none pos.line X.env=pure false) au_0):PS X (.Expr e pos) (SM te):=by
 intro pins s f H D I h;exact wpAny_Expr_any (thn (l pins s f H _ I h) λv p ⟨x,o,n,r,g⟩=>⟨f,o,n,g⟩) I.quiet hs
noncomputable def Si(te:TE):TS:=λD f H=>te f H D.rt
def Kx(n:PE X e te):PS X (.Return (some e) pos) (Si te):=by
 intro pins s f H D I h;exact wpAny_Return_some (thn (n pins s f H _ I h) λv r ⟨x,p,o,g,l⟩=>⟨x,f,p,o,g,l⟩)
noncomputable def AA(c:TT)(t u:TS):TS:=λD f H=>c f H λb g=>if b=true then t D f g else u D f g
def NO{tc}(p:PT X c tc)(v:PSs X a t)(r:PSs X b u):PS X (.If c a b pos) (AA tc t u):=by
 intro pins s f H D I h;refine wpAny_If (thn (p pins s f H _ I h) ?_);rintro d g ⟨o,n,l⟩;cases d with
 |true=>exact v pins g f o D n l
 |false=>exact r pins g f o D n l
end
abbrev TG:=V->St->Hp->(St->Hp->Prop)->Prop
abbrev TGs:=List V->St->Hp->(St->Hp->Prop)->Prop
def PG(X:Cx)(target:Expr)(t:TG):Prop:=
 ∀(pins:ZX) (s:Shared) (g:St) (H:Hp) (v:V) (u:Value) (Q:St->Hp->Prop),Inv X pins g H s->RelV v u->t v g H Q->
  wpAny (model X.prog X.w) X.A (assign target X.env u) (λ_ l=>∃f h,Inv X pins f h l/\Q f h) X.xe s
def PGs(X:Cx)(o:Ye)(t:TGs):Prop:=
 ∀(pins:ZX) (s:Shared) (g:St) (H:Hp) (h:List V) (l:Yc) (Q:St->Hp->Prop),Inv X pins g H s->Vals h l->t h g H Q->
  wpAny (model X.prog X.w) X.A (assignInOrder ((assignEach o X.env).map (·.2)) l) (λ_ p=>∃f n,Inv X pins f n p/\Q f n) X.xe s
abbrev Rq:=V->V->V->Hp->(Hp->Prop)->Prop
def LK(X:Cx)(t:Rq):Prop:=
 ∀(pins:ZX) (s:Shared) (f:St) (H:Hp) (o i v:V) (g h u:Value) (Q:Hp->Prop),Inv X pins f H s->RelV o g->RelV i h->RelV v u->t o i v H Q->
  wpAny (model X.prog X.w) X.A (setItem g h u) (λ_ n=>∃l,Inv X pins f l n/\Q l) X.xe s
abbrev TIp:=V->V->Hp->VK->Prop
def PIp(X:Cx)(g:Operator)(t:TIp):Prop:=
 ∀(pins:ZX) (s:Shared) (f:St) (H:Hp) (x y:V) (v u:Value) (Q:VK),Inv X pins f H s->RelV x v->RelV y u->t x y H Q->
  wpAny (model X.prog X.w) X.A (inplaceOp g v u) (EP X pins f Q) X.xe s
section
variable {X:Cx}{pos:Pos}
noncomputable def S9(i:Nat):TG:=λv f H Q=>Q (f.set i<|some v) H
def Gh(l:X.N.Nodup)(f:X.N[i]?=some x)(hx:Loc X.env.scope x)(g:autoParam (X.fn x=true\/X.env.scope.names.lookup x=some .local) au_2):PG X (.Name x pos) (S9 i):=by
 intro pins s o H v u Q I r h;exact wpAny_assign_Name (B3 I l f hx r (λp n=>⟨_,H,n,h⟩) g)
noncomputable def Mh:TGs:=λg f H Q=>g=[]/\Q f H
noncomputable def IS(t:TG)(u:TGs):TGs:=λh g H Q=>∃v r,h=v::r/\t v g H λf l=>u r f l Q
def FN:PGs X [] Mh:=by
 intro pins s f H g l Q I r h;obtain⟨e,h⟩:=h;exact assignInOrder_nil ⟨f,H,I,h⟩
def N3{t u}(w:PG X e t)(p:PGs X es u)(hs:autoParam ((assignEach (e::es) X.env).map (·.2)=assign e X.env::(assignEach es X.env).map (·.2)) au_0):PGs X (e::es) (IS t u):=by
 intro pins s g H A C Q I r h;obtain⟨v,B,x,h⟩:=h;subst x;cases r with
 |cons r n=>
  rw[hs];refine assignInOrder_cons (thn (w pins s g H _ _ _ I r h) ?_);rintro _ l ⟨f,z,y,o⟩;exact p pins l f z _ _ Q y n o
noncomputable def D2(K:ZU)(n:Nat)(t:TGs):TG:=λv f H Q=>∃a xs,v=.ref a/\SqT K H a xs/\xs.length=n/\t xs f H Q
def Zch{k t n}(z:X.calm=true)(h:PGs X es t)(x:autoParam ((assignEach es X.env).length=n) au_0)(f:autoParam ((assignEach es X.env).findIdx? (·.1)=none) au_0):PG X (.Tuple es k pos) (D2 X.K n t):=by
 intro pins s g H v u Q I r hw;obtain⟨a,xs,B,hq,y,hw⟩:=hw;subst B;cases r
 obtain⟨p,l,w,E⟩:=I.tuple hq;refine assign_Tuple_tuple (I.ok.hd z) w (by simp[x,←y,l.length]) f λA hx=>?_;have C:Inv X pins g H {s with heap:=A}:=I.kept λb o e=>hx b o (Qf<|WM e) e
 exact h pins _ g H xs _ Q C (by lia) hw
noncomputable def RT(g ti:TE)(t:Rq):TG:=λv f H Q=>g f H λo n=>ti f n λi l=>t o i v l λh=>Q f h
def Zls{n ti t}(G:PE X o n)(J:PE X i ti)(hs:LK X t)
  (L:autoParam (∀v,assign (.Subscript o i pos) X.env v=(do
   let f ←holding [v] (eval o X.env)
   let g ←holding [v,f] (eval i X.env)
   standAt pos
   holding [v,f,g] (setItem f g v)
   release [v,f,g] [])) au_3):PG X (.Subscript o i pos) (RT n ti t):=by
 intro pins s l H v u Q I r h;rw[L];refine W7 (QJ<|thn (G pins s l H _ I h) ?_);rintro f w ⟨x,H1,T,A,E⟩;refine W7 (QJ<|thn (J pins w l H1 _ T E) ?_);rintro g p ⟨y,Y,N,z,C⟩;refine W7 (VP<|W7<|QJ<|thn (hs pins p l Y x y v f g u _ N A z r C) ?_);rintro _ s3 ⟨U,M,B⟩;exact wpAny_release ⟨l,U,M,B⟩
noncomputable def NT(te:TE)(g:TG):TS:=λD f H=>te f H λx h=>g x f h D.nx
def Zca{f e te g}(u:PE X e te)(r:PG X f g)(hs:autoParam (swapsWithSole [f] e pos.line X.env=pure false) au_0)(hw:autoParam (swappedStores [f] e X.env=pure none) au_0)(w:autoParam ((assignEach [f] X.env).map (·.2)=[assign f X.env]) au_0):PS X (.Assign [f] e pos) (NT te g):=by
 intro pins s l H D I h;refine wpAny_Assign_stores (thn (u pins s l H _ I h) ?_) hs hw;rintro v n ⟨x,z,y,o,p⟩;rw[w];exact thn (r pins n l z x v _ y o p) λ_ A q=>q
def Zk2(u:X.N.Nodup)(o:X.N[i]?=some x)(hx:Loc X.env.scope x)(r:PE X e te)(hs:autoParam (swapsWith e (some<|.Name x f) pos.line X.env=pure false) au_0)(p:autoParam (X.fn x=true\/X.env.scope.names.lookup x=some .local) au_2) :
  PS X (.Assign [.Name x f] e pos) (NT te<|S9 i):=by
 intro pins s g H D I h;refine wpAny_Assign_Name (thn (r pins s g H _ I h) λv C ⟨y,A,z,l,n⟩=>?_) hs;exact B3 z u o hx l (λB w=>⟨_,A,w,n⟩) p
noncomputable def O6(i:Nat)(te:TE)(ti:TIp):TS:=λD f H=>∃x,f[i]?=some (some x)/\te f H λy h=>ti x y h λz g=>D.nx (f.set i<|some z) g
def Zo9(hN:X.N.Nodup)(G:X.N[i]?=some x)(hx:Loc X.env.scope x)(he:PE X e te)(Y:PIp X E ti)(hf:autoParam (X.fn x=true\/X.env.scope.names.lookup x=some .local) au_2) :
  PS X (.AugAssign (.Name x C) E e pos) (O6 i te ti):=by
 intro pins s B H D I h;obtain⟨v,e1,h⟩:=h;obtain⟨m,hn,hl⟩:=I.loc;have p:Vis X.env.scope x:=by rcases hx with k|k;exact .inl k;exact .inr (.inl k)
 obtain⟨u,r,l⟩:=hl i x v G e1 p;refine wpAny_AugAssign_Name ?_
 have J:wpAny (model X.prog X.w) X.A (eval e X.env) (λw o=>wpAny (model X.prog X.w) X.A (inplaceOp E u w) (λr n=>wpAny (model X.prog X.w) X.A (storeName X.env x r) (λ_=>SP X pins D .next) X.xe n) X.xe o) X.xe s:=by
  refine thn (he pins s B H _ I h) λw L ⟨y,H1,I1,Q,U⟩=>?_;refine thn (Y pins L B H1 v y u w _ I1 r Q U) λz s2 ⟨zv,H2,I2,M,T⟩=>?_;exact B3 I2 hN G hx M (λs3 I3=>⟨_,H2,I3,T⟩) hf
 rcases l with⟨f,hm⟩|⟨f,c,hc,g⟩
 ·exact wpAny_loadName_local I.ok.kind f hn hm J
 ·rcases f with f|f
  ·exact wpAny_loadName_cell I.ok.kind f hc g J
  ·rcases hx with k|k
   ·have:X.env.scope.names.lookup x=some .free:=f
    grind
   ·have:X.env.scope.names.lookup x=some .free:=f
    rw[k]at this;cases this
noncomputable def ipI(f:Int->Int->Int):TIp:=λx y H Q=>∃i j,x=.int i/\y=.int j/\Q (.int<|f i j) H
def OT:PIp X .Add (ipI λi j=>i+j):=by
 intro pins s o H x y v u Q I g f h;obtain⟨i,j,n,l,q⟩:=h;subst n;subst l;obtain⟨t,rfl⟩:=g;obtain⟨p,rfl⟩:=f;exact iadd_int ⟨.int _,H,I.tok _,⟨_,rfl⟩,q⟩
noncomputable def MX(c:TT)(o:TS):TS:=λD f H=>∃W:Nat->St->Hp->Prop,(∃m,W m f H)/\∀m f H,W m f H->
 c f H λb l=>if b=true then ∃N:St->Hp->Prop,(∀g n,N g n->∃h,h<m/\W h g n)/\o {D with nx:=N,ct:=N,bk:=D.nx} f l else D.nx f l
def Zlz{tc p}(u:PassesOwn (model X.prog X.w) X.A X.env X.xe)(U:PT X c tc)(Y:PSs X body p):PS X (.While c body [] pos) (MX tc p):=by
 intro pins s E H D I h;obtain⟨W,⟨T,J⟩,turn⟩:=h;refine wpAny_While (codeAny_whileLoop (λn Q=>∃l B,Inv X pins l B Q/\W n l B) ?_ T ⟨E,H,I,J⟩);rintro n M ⟨g,z,I1,G⟩;refine Vn u (thn (U pins M g z _ I1<|turn n g z G) λb L ⟨y,x,o⟩=>?_);cases b with
 |true=>
  obtain⟨N,hN,o⟩:=o;refine Vn u (thn (Y pins L g y _ x o) λf s3 r=>?_);cases f with
  |brk|ret v=>exact r
  |_=>
   obtain⟨C,H3,I3,n3⟩:=r
   grind
 |false=>
  exact J0 ⟨g,y,x,o⟩
end
structure It where
 go:Nat->Hp->Prop
 yld:Nat->Hp->V->Hp->Prop
 stop:Nat->Hp->Prop
def TY(X:Cx)(pins:ZX)(H:Hp)(b:Addr):Prop:=
 H b=none/\b≠X.env.locals/\b∉X.fs/\(b∈X.ex\/X.s₀.heap.objs.size<=b)/\(∀x c,X.env.cells.lookup x=some c->c≠b)/\∀p∈X.pn++pins,p.1≠b
def Inv.fpOk {g:St}{H H'}{s}{b:Addr} (I:Inv X pins g H s) (f:s.heap.objs.size<=b) (l:H' b=none):TY X pins H' b:=by
 refine⟨l,JY (Qo I.lt f),I.nofs f,.inr (WK I.sz f),λx c e z=>?_,λp h z=>?_⟩
 ·obtain⟨v,q⟩:=I.cell x c e;exact absurd (Qo q.lt<|by grind) (QI _)
 ·exact absurd (Qo (WM (I.pin p h).1)<|by grind) (QI _)
structure Turn (P:Program) (w:World) (K:ZU) (tg:Expr) (J:It) (fp:List Addr) (it:Addr) (tn:Nat->Heap->Prop):Prop where
 mem:it∈fp
 obj:∀i h,tn i h->∀b∈fp,∃o,h.get? b=some o/\∀v,o.data≠.cell v
 keep:∀i h h',tn i h->(∀b∈fp,∀o,h.get? b=some o->h'.get? b=some o)->tn i h'
 item:∀(X:Cx),X.prog=P->X.w=w->X.K=K->X.calm=true->∀(i:Nat) (pins:ZX) (s:Shared) (σ:St) (H:Hp) (E:ZZ),Inv X pins σ H s->(∀b∈fp,TY X pins H b)->tn i s.heap->J.go i H->
  wpAny (model P w) X.A (pyNext<|.ref it) (λr s1=>∃u,r=some u/\
   wpAny (model P w) X.A (letOwnedTupleGo tg (.ref it) u) (λ_ s2=>∃x H',Inv X pins σ H' s2/\RelV x u/\J.yld i H x H'/\tn (i+1) s2.heap/\∀b∈fp,H' b=none) E s1) E s
 done:∀(X:Cx),X.prog=P->X.w=w->X.K=K->X.calm=true->∀(i:Nat) (pins:ZX) (s:Shared) (σ:St) (H:Hp) (E:ZZ),Inv X pins σ H s->(∀b∈fp,TY X pins H b)->tn i s.heap->J.stop i H->
  wpAny (model P w) X.A (pyNext<|.ref it) (λr s1=>r=none/\Inv X pins σ H s1) E s
 self:∀(A:Around) (i:Nat) (s:Shared) (Q:ZZ) (E:ZZ),tn i s.heap->Q (.ref it) s->wpAny (model P w) A (pyIter<|.ref it) Q E s
abbrev TI:=St->Hp->(It->Hp->Prop)->Prop
def PIE(X:Cx)(pins:ZX)(o:St)(p:Expr)(R:It->Hp->Prop)(f:Value)(h:Shared):Prop:=
 ∃(l:Addr) (n:List Addr) (tn:Nat->Heap->Prop) (J:It) (g:Hp),f=.ref l/\Inv X pins o g h/\Turn X.prog X.w X.K p J n l tn/\tn 0 h.heap/\(∀b∈n,TY X pins g b)/\R J g
def PI(X:Cx)(h iter:Expr)(g:TI):Prop:=
 ∀(pins:ZX) (s:Shared) (f:St) (H:Hp) (R:It->Hp->Prop),Inv X pins f H s->g f H R->
  wpAny (model X.prog X.w) X.A (eval iter X.env) (λv l=>wpAny (model X.prog X.w) X.A (pyIter v) (PIE X pins f h R) X.xe l) X.xe s
def Av {s g h u o n vs Q} (l : s.heap.get? h = some o) (p : o.cls = .type n) (hd : o.data = .fields vs)
    (r : ["enumerate", "zip", "dict_itemiterator", "dict_reverseitemiterator", "odict_iterator", "itertools.zip_longest", "itertools.pairwise"].contains n = false) (f : Q () s) : wpAny M A (letOwnedTupleGo g (.ref h) u) Q E s := by
  cases g <;> first
    | exact WE f
    | (cases u <;> first
        | exact WE f
        | (refine W7 (wpAny_load l ?_)
           rw [p, hd]
           show wpAny M A (if (["enumerate", "zip", "dict_itemiterator", "dict_reverseitemiterator", "odict_iterator", "itertools.zip_longest", "itertools.pairwise"].contains n && vs[0]? == some (rawInt _)) = true then _ else _) Q E s
           rw [WG (by grind)]
           exact WE f))
noncomputable def Itl(K:ZU)(a:Addr):It:=
 ⟨λi H=>∃xs x,SqL K H a xs/\xs[i]?=some x,λi H x f=>f=H/\∀xs,SqL K H a xs->xs[i]?=some x,λi H=>∃xs,SqL K H a xs/\xs.length<=i⟩
noncomputable def Itt(K:ZU)(a:Addr):It:=
 ⟨λi H=>∃xs x,SqT K H a xs/\xs[i]?=some x,λi H x f=>f=H/\∀xs,SqT K H a xs->xs[i]?=some x,λi H=>∃xs,SqT K H a xs/\xs.length<=i⟩
noncomputable def Itr(lo:Int)(n:Nat):It:=⟨λi _=>i<n,λi H x f=>f=H/\x=.int (lo+i),λi _=>n<=i⟩
def Zco{K tg}(a it:Addr):Turn P w K tg (Itl K a) [it] it (λi h=>h.IsListIter it a i) where
 mem:=by simp
 obj:=λi h st b hb=>by
  have e:b=it:=by simpa using hb
  subst e;obtain⟨o,e,c,d⟩:=st;exact⟨o,e,λv z=>by rw[d]at z;cases z⟩
 keep:=λi h h' st k=>st.at λo e=>k it (by simp) o e
 item:=by
  intro X hP hw hK hc i pins s σ H E I hf st hg;subst hP hw hK;obtain⟨xs,x,hq,hx⟩:=hg;obtain⟨its,rv,p,hz⟩:=I.list hq;obtain⟨u,hu,ru⟩:=rv.get hx;obtain⟨f0,f1,f2,f3,f4,f5⟩:=hf it (by simp);refine wpAny_pyNext_list_item st p.isList (by simpa using hu) λh' st' sb=>?_;have I1:Inv X pins σ H {s with heap:=h'}:=I.turned (λb o hb e=>(sb.2 b hb).trans e) f0 f1 f3 f4 f5
  obtain⟨o,e,c,d⟩:=id st';exact⟨u,rfl,Av e c d (by decide) ⟨x,H,I1,ru,⟨rfl,λys hy=>by rw[I.list_inj hy hq];exact hx⟩,st',λb hb=>(hf b hb).1⟩⟩
 done:=by
  intro X hP hw hK hc i pins s σ H E I hf st hg;subst hP hw hK;obtain⟨xs,hq,hx⟩:=hg;obtain⟨its,rv,p,hz⟩:=I.list hq;obtain⟨f0,f1,f2,f3,f4,f5⟩:=hf it (by simp);have hl:=rv.length;exact wpAny_pyNext_list_end (I.ok.hd hc) st p.isList (by simp;lia) λh' eb=>⟨rfl,I.turned (λb o hb e=>eb b o hb e) f0 f1 f3 f4 f5⟩
 self:=λ_ _ _ _ _ st h=>wpAny_pyIter_listiter st h
def Zgo{K tg}(a it:Addr):Turn P w K tg (Itt K a) [it] it (λi h=>h.IsTupleIter it a i) where
 mem:=by simp
 obj:=λi h st b hb=>by
  have e:b=it:=by simpa using hb
  subst e;obtain⟨o,e,c,d⟩:=st;exact⟨o,e,λv z=>by rw[d]at z;cases z⟩
 keep:=λi h h' st k=>st.at λo e=>k it (by simp) o e
 item:=by
  intro X hP hw hK hc i pins s σ H E I hf st hg;subst hP hw hK;obtain⟨xs,x,hq,hx⟩:=hg;obtain⟨its,rv,p,hz⟩:=I.tuple hq;obtain⟨u,hu,ru⟩:=rv.get hx;obtain⟨f0,f1,f2,f3,f4,f5⟩:=hf it (by simp);refine wpAny_pyNext_tuple_item st p (by simpa using hu) λh' st' sb=>?_;have I1:Inv X pins σ H {s with heap:=h'}:=I.turned (λb o hb e=>(sb.2 b hb).trans e) f0 f1 f3 f4 f5
  obtain⟨o,e,c,d⟩:=id st';exact⟨u,rfl,Av e c d (by decide) ⟨x,H,I1,ru,⟨rfl,λys hy=>by rw[I.tuple_inj hy hq];exact hx⟩,st',λb hb=>(hf b hb).1⟩⟩
 done:=by
  intro X hP hw hK hc i pins s σ H E I hf st hg;subst hP hw hK;obtain⟨xs,hq,hx⟩:=hg;obtain⟨its,rv,p,hz⟩:=I.tuple hq;obtain⟨f0,f1,f2,f3,f4,f5⟩:=hf it (by simp);have hl:=rv.length;exact wpAny_pyNext_tuple_end (I.ok.hd hc) st p (by simp;lia) λh' eb=>⟨rfl,I.turned (λb o hb e=>eb b o hb e) f0 f1 f3 f4 f5⟩
 self:=λ_ _ _ _ _ st h=>wpAny_pyIter_tupleiter st h
def Zj5{K tg}(it:Addr)(lo:Int)(n:Nat):Turn P w K tg (Itr lo n) [it] it (λi h=>IsRangeIter h it (lo+(i:Nat)*1) ((n:Int)-(i:Nat)) 1) where
 mem:=by simp
 obj:=λi h st b hb=>by
  have e:b=it:=by simpa using hb
  subst e
  exact⟨_,st,λv z=>by
   cases z⟩
 keep:=λi h h' st k=>k it (by simp) _ st
 item:=by
  intro X hP hw hK hc i pins s σ H E I hf st hg;subst hP hw hK;obtain⟨f0,f1,f2,f3,f4,f5⟩:=hf it (by simp);refine(Walks.range (prog:=X.prog) (w:=X.w) (I.ok.hd hc) it lo 1 n).item i s _ _ hg st λv h' tk hv st' kk=>?_;obtain⟨t,rfl⟩:=hv;have I1:Inv X pins σ H {s with heap:=h',toks:=tk}:=I.turned (λb o hb e=>kk b o (by simpa using hb) e) f0 f1 f3 f4 f5
  refine⟨_,rfl,Av st' rfl rfl (by decide) ⟨.int (lo+i),H,I1,⟨t,?_⟩,⟨rfl,rfl⟩,st',λb hb=>(hf b hb).1⟩⟩;rw[Int.mul_one]
 done:=by
  intro X hP hw hK hc i pins s σ H E I hf st hg;obtain⟨f0,f1,f2,f3,f4,f5⟩:=hf it (by simp);exact wpAny_pyNext_range_end (I.ok.hd hc) st (by have:n<=i:=hg;lia) λh' eb=>⟨rfl,I.turned (λb o hb e=>eb b o hb e) f0 f1 f3 f4 f5⟩
 self:=λ_ _ _ _ _ st h=>wpAny_pyIter_rangeiter st h
section
variable {X:Cx}{tg:Expr}
noncomputable def Ab(K:ZU)(h:TE):TI:=λg H R=>h g H λx f=>∃a,x=.ref a/\(∃xs,SqL K f a xs)/\R (Itl K a) f
noncomputable def AK(K:ZU)(h:TE):TI:=λg H R=>h g H λx f=>∃a,x=.ref a/\(∃xs,SqT K f a xs)/\R (Itt K a) f
def LW(z:PE X l r):PI X tg l (Ab X.K r):=by
 intro pins s n H R I h;refine thn (z pins s n H _ I h) λv g ⟨x,A,f,u,w⟩=>?_;obtain⟨a,e,⟨xs,hq⟩,q⟩:=w;subst e;cases u
 obtain⟨y,B,p,C⟩:=f.list hq;refine wpAny_pyIter_list p.isList ?_;refine⟨g.heap.objs.size,[g.heap.objs.size],_,_,A,rfl,f.kept λb o e=>WD _ e,Zco a _,⟨_,WQ _ rfl,rfl,rfl⟩,λb E=>?_,q⟩;have e:b=g.heap.objs.size:=by grind
 subst e;exact f.fpOk (WI _) (f.hok.fresh<|WI _)
def Zda(z:PE X l r):PI X tg l (AK X.K r):=by
 intro pins s n H R I h;refine thn (z pins s n H _ I h) λv g ⟨x,A,f,u,w⟩=>?_;obtain⟨a,e,⟨xs,hq⟩,q⟩:=w;subst e;cases u
 obtain⟨y,B,p,C⟩:=f.tuple hq;refine wpAny_pyIter_tuple p ?_;refine⟨g.heap.objs.size,[g.heap.objs.size],_,_,A,rfl,f.kept λb o e=>WD _ e,Zgo a _,⟨_,WQ _ rfl,rfl,rfl⟩,λb E=>?_,q⟩;have e:b=g.heap.objs.size:=by grind
 subst e;exact f.fpOk (WI _) (f.hok.fresh<|WI _)
def RQ{g:St}{H}{s}{R}{E}{lo f}{t u v}{tk}(I:Inv X pins g H s)(x:-(2 ^ 62)<=lo)(r:lo<2 ^ 62)(p:-(2 ^ 62)<=f)(n:f<2 ^ 62)(q:R (Itr lo (f-lo).toNat) H):wpAny (model X.prog X.w) X.A (pyIter<|.ref s.heap.objs.size) (PIE X pins g tg R) E {s with heap:=s.heap.push {cls:=.type "range",data:=.fields #[.int lo t,.int f u,.int 1 v]},toks:=tk}:=by
 refine wpAny_pyIter_range (IsRange.new ..) (small_one x r p n) ?_;have h:Inv X pins g H {s with heap:=s.heap.push {cls:=.type "range",data:=.fields #[.int lo t,.int f u,.int 1 v]},toks:=tk}:=I.kept λb o e=>WD _ e
 refine⟨(s.heap.push {cls:=.type "range",data:=.fields #[.int lo t,.int f u,.int 1 v]}).objs.size,[(s.heap.push {cls:=.type "range",data:=.fields #[.int lo t,.int f u,.int 1 v]}).objs.size],_,_,H,rfl,
  h.kept λb o e=>WD _ e,Zj5 _ lo (f-lo).toNat,?_,λb l=>?_,q⟩
 ·have z:lo+((0:Nat):Int)*1=lo:=by simp
  have y:(((f-lo).toNat:Nat):Int)-((0:Nat):Int)=Builtin.Range.rangeSize lo f 1:=by rw[rangeSize_one];split<;>lia
  rw[z,y];exact WQ _ rfl
 ·have e:b=(s.heap.push {cls:=.type "range",data:=.fields #[.int lo t,.int f u,.int 1 v]}).objs.size:=by simpa using l
  subst e;exact h.fpOk (WI _) (h.hok.fresh<|WI _)
noncomputable def Ly(h:TA):TI:=λf H R=>h f H λg l=>∃j:Int,g=[.int j]/\-(2 ^ 62)<=j/\j<2 ^ 62/\R (Itr 0 j.toNat) l
noncomputable def RE(h:TA):TI:=λf H R=>h f H λg l=>∃i j:Int,g=[.int i,.int j]/\(-(2 ^ 62)<=i/\i<2 ^ 62/\-(2 ^ 62)<=j/\j<2 ^ 62)/\R (Itr i (j-i).toNat) l
def E3(w:Gl X "range")(v:X.mg "range"=none)(x:PA X [a] l)(hs:autoParam (starEach [a] X.env=[(false,eval a X.env)]) au_0):PI X tg (.Call (.Name "range" p) [a] [] pos) (Ly l):=by
 intro pins s g H R I h;refine Call_ (SN I w v boot_range<|VN (thn (x pos pins s g H _ I h) λA B ⟨z,C,y,o,f⟩=>?_) hs rfl);obtain⟨j,e,f,u,q⟩:=f;subst e;cases o with
 |cons r n=>
  cases n
  obtain⟨t,rfl⟩:=r;exact call_range_1 (RQ y (by lia) (by lia) f u<|by grind)
def Zeb{p pos}(A:Gl X "range")(z:X.mg "range"=none)(B:PA X [a,b] o)(hs:autoParam (starEach [a,b] X.env=[(false,eval a X.env),(false,eval b X.env)]) au_0)(l:autoParam (starEach [b] X.env=[(false,eval b X.env)]) au_0) :
  PI X tg (.Call (.Name "range" p) [a,b] [] pos) (RE o):=by
 intro pins s n H R I h;refine Call_ (SN I A z boot_range<|VN (thn (B pos pins s n H _ I h) λG L ⟨E,M,C,u,g⟩=>?_) (by grind)<|by rw[l];rfl);obtain⟨i,j,e,⟨g,y,x,w⟩,q⟩:=g;subst e;cases u with
 |cons r f=>
  cases f with
  |cons v f=>
   cases f
   obtain⟨t,rfl⟩:=r;obtain⟨J,rfl⟩:=v;exact call_range_2 (RQ C g y x w q)
noncomputable def OY(p:TI)(g:TG)(r:TS):TS:=λD f H=>p f H λJ u=>∃W:Nat->Nat->St->Hp->Prop,(∃m,W 0 m f u)/\∀i m f H,W i m f H->
 (J.stop i H/\D.nx f H)\/(J.go i H/\∃N:St->Hp->Prop,(∀h l,N h l->∃o,o<m/\W (i+1) o h l)/\∀x l,J.yld i H x l->g x f l λn s=>r {D with nx:=N,ct:=N,bk:=D.nx} n s)
noncomputable def Bi(f:List Addr)(h:Heap):ZX:=f.filterMap λb=>(h.get? b).map λo=>(b,o)
def F2{b o}(f:b∈g)(e:h.get? b=some o):(b,o)∈Bi g h:=JN.mpr ⟨b,f,by rw[e];rfl⟩
def Znu(f:p∈Bi g h):p.1∈g/\h.get? p.1=some p.2:=by
 obtain⟨b,l,e⟩:=JN.mp f;cases q:h.get? b with
 |_=>grind
def Inv.pinned {f:St}{H}{s}{fp} (I:Inv X pins f H s) (h:∀b∈fp,TY X pins H b) (n:∀b∈fp,∃o,s.heap.get? b=some o/\∀v,o.data≠.cell v):Inv X (pins++Bi fp s.heap) f H s:=
 I.pins_of λp g=>(WO.mp g).elim (λz=>I.pin p (Qi _ z)) λz=>by
  obtain⟨l,e⟩:=Znu z;obtain⟨f0,f1,r,_⟩:=h p.1 l
  grind
def Inv.unpinned {f:St}{H}{s} (I:Inv X (pins++h) f H s):Inv X pins f H s:=I.pins_of λp g=>I.pin p (Qi _<|Q4 _ g)
def Zpf{wi g tb pos}(Q:PassesOwn (model X.prog X.w) X.A X.env X.xe)(hc:X.calm=true)(hi:PI X tg iter wi)(hg:PG X tg g)(z:PSs X body tb)(hs:autoParam (∀x,foldedSetIterable iter X.env x=pure x) au_3):PS X (.For tg iter body [] pos) (OY wi g tb):=by
 intro pins s σ H D I h;refine wpAny_For (thn (hi pins s σ H _ I h) λv s1 h1=>thn h1 λitv s2 h2=>?_) hs;obtain⟨it,Y,tn,J,H2,e,I2,T,st2,f2,W,⟨m0,w0⟩,turn⟩:=h2;subst e;have stat:∀{C:Hp},(∀b∈Y,C b=none)->∀b∈Y,TY X pins C b:=λhn b z=>⟨hn b z,(f2 b z).2⟩;refine codeAny_forLoop_any (λn s'=>∃i y C,Inv X pins y C s'/\tn i s'.heap/\(∀b∈Y,C b=none)/\W i n y C) ?_ m0 ⟨0,σ,H2,I2,st2,λb z=>(f2 b z).1,w0⟩;rintro n s3 ⟨i,p,H3,I3,M,U,w3⟩;rcases turn i n p H3 w3 with⟨stop,qn⟩|⟨go,N,hN,step⟩
 ·refine Vn Q (thn (T.done X rfl rfl rfl hc i pins s3 p H3 X.xe I3 (stat U) M stop) ?_);rintro r s4 ⟨hr,I4⟩;subst hr;exact J0 ⟨p,H3,I4,qn⟩
 ·refine Vn Q (thn (T.item X rfl rfl rfl hc i pins s3 p H3 X.xe I3 (stat U) M go) ?_);rintro r s4 ⟨u,hr,h4⟩;subst hr;refine Vn Q (thn h4 ?_);rintro _ s5 ⟨x,H5,I5,r5,y5,G,fr5⟩;refine Vn Q (thn (hg _ s5 p H5 x u _ (I5.pinned (stat fr5)<|T.obj _ _ G) r5<|step x H5 y5) ?_);rintro _ s6 ⟨σ6,H6,I6,q6⟩;refine Vn Q (thn (z _ s6 σ6 H6 _ I6 q6) λf s7 L=>?_)
  have again:∀{l:St} {B:Hp},Inv X (pins++Bi Y s5.heap) l B s7->N l B->∃m,m<n/\∃i y C,Inv X pins y C s7/\tn i s7.heap/\(∀b∈Y,C b=none)/\W i m y C:=λ{l B} E n7=>by
   obtain⟨m',hm,w7⟩:=hN l B n7;refine⟨m',hm,i+1,l,B,E.unpinned,T.keep _ _ _ G λb z o e=>(E.pin (b,o)<|Qi _<|Qi _<|F2 z e).1,λb z=>?_,w7⟩;obtain⟨o,e,d⟩:=T.obj _ _ G b z;exact(E.pin (b,o)<|Qi _<|Qi _<|F2 z e).2.1
  cases f with
  |brk=>obtain⟨l,B,E,L⟩:=L;exact⟨l,B,E.unpinned,L⟩
  |ret v=>obtain⟨x7,l,B,E,r7,L⟩:=L;exact⟨x7,l,B,E.unpinned,r7,L⟩
  |_=>obtain⟨l,B,E,n7⟩:=L;exact again E n7
end
abbrev R2:=V->V->Hp->VK->Prop
def OpR(X:Cx)(f:Value->Value->Sem Value)(r:R2):Prop:=
 ∀(pins:ZX) (s:Shared) (g:St) (H:Hp) (x y:V) (v u:Value) (Q:VK),Inv X pins g H s->RelV x v->RelV y u->r x y H Q->
  wpAny (model X.prog X.w) X.A (f v u) (EP X pins g Q) X.xe s
def UnR(X:Cx)(f:Value->Sem Value)(r:V->Hp->VK->Prop):Prop:=
 ∀(pins:ZX) (s:Shared) (g:St) (H:Hp) (x:V) (v:Value) (Q:VK),Inv X pins g H s->RelV x v->r x H Q->
  wpAny (model X.prog X.w) X.A (f v) (EP X pins g Q) X.xe s
def Kn(X:Cx)(f:Value)(r:List V->Hp->VK->Prop):Prop:=
 ∀(pins:ZX) (s:Shared) (g:St) (H:Hp) (xs:List V) (h:Yc) (Q:VK),Inv X pins g H s->Vals xs h->r xs H Q->
  wpAny (model X.prog X.w) X.A (call f h) (EP X pins g Q) X.xe s
def Zek(X:Cx)(r:V->Hp->(Bool->Hp->Prop)->Prop):Prop:=
 ∀(pins:ZX) (s:Shared) (f:St) (H:Hp) (x:V) (v:Value) (Q:Bool->Hp->Prop),Inv X pins f H s->RelV x v->r x H Q->
  wpAny (model X.prog X.w) X.A (truthy v) (TP X pins f Q) X.xe s
noncomputable def tOp(r:R2)(h g:TE):TE:=λf H Q=>h f H λx n=>g f n λy l=>r x y l Q
noncomputable def tUn(r:V->Hp->VK->Prop)(g:TE):TE:=λf H Q=>g f H λx h=>r x h Q
noncomputable def rI(C:Int->Int->Prop)(g:Int->Int->V):R2:=λx y H Q=>∃i j,x=.int i/\y=.int j/\C i j/\Q (g i j) H
noncomputable def rI0(g:Int->Int->V):R2:=λx y H Q=>∃i j,x=.int i/\y=.int j/\Q (g i j) H
def rU(g:Int->V):V->Hp->VK->Prop:=λx H Q=>∃i,x=.int i/\Q (g i) H
section
variable {X:Cx}{a b c:Expr}{ta tb tc:TE}{pos:Pos}
def EG(E:PE X a ta)(C:PE X b tb){pins}{s}{g:St}{H}{R:V->V->Hp->Prop}(I:Inv X pins g H s)(h:ta g H λx r=>tb g r λy o=>R x y o){Q}{f:Value->Value->Sem Value}(N:∀v u p x y o,Inv X pins g o p->RelV x v->RelV y u->R x y o->wpAny (model X.prog X.w) X.A (f v u) Q X.xe p) :
  wpAny (model X.prog X.w) X.A (eval a X.env) (λv n=>wpAny (model X.prog X.w) X.A (eval b X.env) (λu l=>wpAny (model X.prog X.w) X.A (f v u) Q X.xe l) X.xe n) X.xe s:=by
 refine thn (E pins s g H _ I h) λv z ⟨x,r,G,L,B⟩=>?_;refine thn (C pins z g r _ G B) λu p ⟨y,o,T,J,M⟩=>?_
 grind
def P4(p:OpR X (binaryOp o) r)(z:PE X a ta)(w:PE X b tb):PE X (.BinOp a o b pos) (tOp r ta tb):=by
 intro pins s f H Q I h;exact wpAny_BinOp (EG z w I h λv u g x y B A n l q=>p pins g f B x y v u Q A n l q)
def Pi(p:UnR X (unaryOp o) r)(u:PE X a ta):PE X (.UnaryOp o a pos) (tUn r ta):=by
 intro pins s f H Q I h;exact UnaryOp_ (thn (u pins s f H _ I h) λv g ⟨x,y,w,l,n⟩=>p pins g f y x v Q w l n)
def opI{C}{g:Int->Int->Int}(rule:∀i j t u s Q E,C i j->Q (.int (g i j) s.toks) {s with toks:=s.toks+1}->wpAny (model X.prog X.w) X.A (f (.int i t)<|.int j u) Q E s) :
  OpR X f (rI C λi j=>.int (g i j)):=by
 intro pins s r H x y v u Q I o n h;obtain⟨i,j,rfl,rfl,p,q⟩:=h;obtain⟨t,rfl⟩:=o;obtain⟨l,rfl⟩:=n;exact rule i j t l s _ _ p ⟨.int (g i j),H,I.tok _,⟨_,rfl⟩,q⟩
def Oy{g:Int->Int->Int}(rule:∀i j t u s Q E,Q (.int (g i j) s.toks) {s with toks:=s.toks+1}->wpAny (model X.prog X.w) X.A (f (.int i t)<|.int j u) Q E s) :
  OpR X f (rI0 λi j=>.int (g i j)):=by
 intro pins s p H x y v u Q I o n h;obtain⟨i,j,rfl,rfl,q⟩:=h;obtain⟨t,rfl⟩:=o;obtain⟨l,rfl⟩:=n;exact rule i j t l s _ _ ⟨.int (g i j),H,I.tok _,⟨_,rfl⟩,q⟩
def Cp{g:Int->Int->Bool}(rule:∀i j t u s Q E,Q (.bool<|g i j) s->wpAny (model X.prog X.w) X.A (f (.int i t)<|.int j u) Q E s) :
  OpR X f (rI0 λi j=>.bl (g i j)):=by
 intro pins s p H x y v u Q I o n h;obtain⟨i,j,rfl,rfl,q⟩:=h;obtain⟨t,rfl⟩:=o;obtain⟨l,rfl⟩:=n;exact rule i j t l s _ _ ⟨.bl (g i j),H,I,rfl,q⟩
def Gk(i j:Int):Prop:=0<j/\j<1073741824
def AE(i j:Int):Prop:=0<=j/\j<=1000000/\i.natAbs<2 ^ 64
def CMul(i j:Int):Prop:=(-(2 ^ 64)<i/\i<2 ^ 64)\/(-(2 ^ 64)<j/\j<2 ^ 64)
def CMul.ok (h:CMul i j):IntMulOk i j:=by
 rcases h with⟨g,f⟩|⟨g,f⟩
 ·exact .of_left (intBits_le_64 g f)
 ·exact .of_right (intBits_le_64 g f)
def X3:OpR X (binaryOp .Add) (rI0 λi j=>.int (i+j)):=Oy λ_ _ _ _ _ _ _ q=>add_int q
def XD:OpR X (binaryOp .Sub) (rI0 λi j=>.int (i-j)):=Oy λ_ _ _ _ _ _ _ q=>sub_int q
def T7:OpR X (binaryOp .Mult) (rI CMul λi j=>.int (i*j)):=opI λ_ _ _ _ _ _ _ f q=>mul_int q f.ok
def Ki:OpR X (binaryOp .FloorDiv) (rI Gk λi j=>.int (i / j)):=opI λi j _ _ _ _ _ f q=>by
 have h:=f.1;have g:=f.2;exact floordiv_int (by lia) (by rw[Int.fdiv_eq_ediv_of_nonneg i (by lia)];exact q) (.inl<|PyProof.noPylong_small<|by lia)
def X7:OpR X (binaryOp .Mod) (rI (λ_ j=>0<j) λi j=>.int (i % j)):=opI λi j _ _ _ _ _ f q=>by
 exact mod_int' (by lia) (by grind)
def EO:OpR X (binaryOp .Pow) (rI AE λi j=>.int (i ^ j.toNat)):=opI λ_ _ _ _ _ _ _ f q=>pow_int_small f.1 f.2.1 f.2.2 q
def unI{g:Int->Int}(rule:∀i t s Q E,Q (.int (g i) s.toks) {s with toks:=s.toks+1}->wpAny (model X.prog X.w) X.A (f<|.int i t) Q E s) :
  UnR X f (rU λi=>.int (g i)):=by
 intro pins s n H x v Q I l h;obtain⟨i,rfl,q⟩:=h;obtain⟨t,rfl⟩:=l;exact rule i t s _ _ ⟨.int (g i),H,I.tok _,⟨_,rfl⟩,q⟩
def Pe:UnR X (unaryOp .USub) (rU λi=>.int (-i)):=unI λ_ _ _ _ _ q=>neg_int q
end
noncomputable def HY:V->V->Bool
 | .non,.non=>true | .non,.int _=>true | .int _,.non=>true | .non,.bl _=>true | .bl _,.non=>true | .non,.str _=>true | .str _,.non=>true
 | .int _,.int _=>true | .bl _,.bl _=>true | .str _,.str _=>true | .byt _,.byt _=>true
 | .int _,.str _=>true | .str _,.int _=>true | .bl _,.str _=>true | .str _,.bl _=>true
 |_,_=>false
noncomputable def rEq:R2:=λx y H Q=>HY x y=true/\Q (.bl<|decide (x=y)) H
noncomputable def rNe:R2:=λx y H Q=>HY x y=true/\Q (.bl (!decide (x=y))) H
def R7{i j:Int}:decide (V.int i=V.int j)=(i==j):=by
 rw[J1];simp
def GW{i j:Bool}:decide (V.bl i=V.bl j)=(i==j):=by
 rw[J1];simp
def GL{i j:Str}:decide (V.str i=V.str j)=(i==j):=by
 rw[J1];simp
def LU{i j:Array UInt8}:decide (V.byt i=V.byt j)=(i.toList==j.toList):=by
 rw[J1];cases i
 cases j
 simp
section
variable {X:Cx}{a b c:Expr}{ta tb tc:TE}{pos:Pos}
def XS{f:St}{H}{s}{Q}{k g}(I:Inv X pins f H s)(q:Q (.bl k) H)(e:k=g):EP X pins f Q (.bool g) s:=by
 subst e;exact⟨.bl k,H,I,rfl,q⟩
def op_eq:OpR X (compareOp .Eq) rEq:=by
 intro pins s o H x y v u Q I n f h;obtain⟨l,q⟩:=h;cases x with
 |non=>
  cases n
  cases y with
  |non=>cases f;exact PySem.EqNone.eq_none_none (XS I q<|by simp)
  |bl j=>cases f;exact PySem.EqNone.eq_none_bool (XS I q<|by simp)
  |int j=>obtain⟨g,rfl⟩:=f;exact PySem.EqNone.eq_none_int (XS I q<|by simp)
  |str j=>obtain⟨g,rfl⟩:=f;exact PySem.EqNone.eq_none_str (XS I q<|by simp)
  |_=>exact absurd l WY
 |bl i=>
  cases n
  cases y with
  |non=>cases f;exact PySem.EqNone.eq_bool_none (XS I q<|by simp)
  |bl j=>cases f;exact eq_bool (XS I q GW)
  |str j=>obtain⟨g,rfl⟩:=f;exact PySem.EqMixed.eq_bool_str (XS I q<|by simp)
  |_=>exact absurd l WY
 |int i=>
  obtain⟨t,rfl⟩:=n;cases y with
  |non=>cases f;exact PySem.EqNone.eq_int_none (XS I q<|by simp)
  |int j=>obtain⟨g,rfl⟩:=f;exact eq_int (XS I q R7)
  |str j=>obtain⟨g,rfl⟩:=f;exact PySem.EqMixed.eq_int_str (XS I q<|by simp)
  |_=>exact absurd l WY
 |str i=>
  obtain⟨t,rfl⟩:=n;cases y with
  |non=>cases f;exact PySem.EqNone.eq_str_none (XS I q<|by simp)
  |bl j=>cases f;exact PySem.EqMixed.eq_str_bool (XS I q<|by simp)
  |int j=>obtain⟨g,rfl⟩:=f;exact PySem.EqMixed.eq_str_int (XS I q<|by simp)
  |str j=>obtain⟨g,rfl⟩:=f;exact eq_str (XS I q GL)
  |_=>exact absurd l WY
 |byt i=>
  obtain⟨t,rfl⟩:=n;cases y with
  |byt j=>obtain⟨g,rfl⟩:=f;exact PySem.W.eq_bytes (XS I q LU)
  |_=>exact absurd l WY
 |_=>cases y<;>exact absurd (show false=true from l) WY
def op_ne:OpR X (compareOp .NotEq) rNe:=by
 intro pins s o H x y v u Q I n f h;obtain⟨l,q⟩:=h;cases x with
 |non=>
  cases n
  cases y with
  |non=>cases f;exact PySem.EqNone.ne_none_none (XS I q<|by simp)
  |bl j=>cases f;exact PySem.EqNone.ne_none_bool (XS I q<|by simp)
  |int j=>obtain⟨g,rfl⟩:=f;exact PySem.EqNone.ne_none_int (XS I q<|by simp)
  |str j=>obtain⟨g,rfl⟩:=f;exact PySem.EqNone.ne_none_str (XS I q<|by simp)
  |_=>exact absurd l WY
 |bl i=>
  cases n
  cases y with
  |non=>cases f;exact PySem.EqNone.ne_bool_none (XS I q<|by simp)
  |bl j=>cases f;exact ne_bool (XS I q<|Q2 not GW)
  |str j=>obtain⟨g,rfl⟩:=f;exact PySem.EqMixed.ne_bool_str (XS I q<|by simp)
  |_=>exact absurd l WY
 |int i=>
  obtain⟨t,rfl⟩:=n;cases y with
  |non=>cases f;exact PySem.EqNone.ne_int_none (XS I q<|by simp)
  |int j=>obtain⟨g,rfl⟩:=f;exact ne_int (XS I q<|Q2 not R7)
  |str j=>obtain⟨g,rfl⟩:=f;exact PySem.EqMixed.ne_int_str (XS I q<|by simp)
  |_=>exact absurd l WY
 |str i=>
  obtain⟨t,rfl⟩:=n;cases y with
  |non=>cases f;exact PySem.EqNone.ne_str_none (XS I q<|by simp)
  |bl j=>cases f;exact PySem.EqMixed.ne_str_bool (XS I q<|by simp)
  |int j=>obtain⟨g,rfl⟩:=f;exact PySem.EqMixed.ne_str_int (XS I q<|by simp)
  |str j=>obtain⟨g,rfl⟩:=f;exact ne_str (XS I q<|Q2 not GL)
  |_=>exact absurd l WY
 |byt i=>
  obtain⟨t,rfl⟩:=n;cases y with
  |byt j=>obtain⟨g,rfl⟩:=f;exact PySem.W.ne_bytes (XS I q<|Q2 not LU)
  |_=>exact absurd l WY
 |_=>cases y<;>exact absurd (show false=true from l) WY
def KO:OpR X (compareOp .Lt) (rI0 λi j=>.bl (decide (i<j))):=Cp λ_ _ _ _ _ _ _ q=>lt_int q
def K6:OpR X (compareOp .Gt) (rI0 λi j=>.bl (decide (j<i))):=Cp λ_ _ _ _ _ _ _ q=>gt_int q
def Su:OpR X (compareOp .GtE) (rI0 λi j=>.bl (decide (j<=i))):=Cp λ_ _ _ _ _ _ _ q=>ge_int q
def OpR.or (h:OpR X f r) (p:OpR X f o):OpR X f (λx y H Q=>r x y H Q\/o x y H Q):=by
 intro pins s g H x y v u Q I n l q;rcases q with q|q
 ·exact h pins s g H x y v u Q I n l q
 ·exact p pins s g H x y v u Q I n l q
def KY(b:Expr){op}(h:autoParam (op≠.In) au_1)(l:autoParam (op≠.NotIn) au_1):behindInMarks op b=false:=by
 have g:(op==CmpOp.In)=false:=by grind
 have f:(op==CmpOp.NotIn)=false:=by grind
 cases b<;>simp[behindInMarks,g,f]
def Ny(p:OpR X (compareOp f) r)(A:PE X a ta)(z:PE X b tb)(w:behindInMarks f b=false):PE X (.Compare a [f] [b] pos) (tOp r ta tb):=by
 intro pins s g H Q I h;exact wpAny_Compare1 (EG A z I h λv u l x y C B o n q=>p pins l g C x y v u Q B o n q) w
noncomputable def FD(t:TE):TT:=λf H Q=>t f H λx g=>∃k,x=.bl k/\Q k g
def Pv(E:OpR X (compareOp g) r)(L:PE X a ta)(J:PE X b tb)(G:behindInMarks g b=false):PT X (.Compare a [g] [b] pos) (FD<|tOp r ta tb):=by
 intro pins s f H Q I h
 refine wpAny_isTrue_Compare1 (thn (L pins s f H _ I h) λv n ⟨x,H1,T,w,C⟩=>thn (J pins n f H1 _ T C) λu l ⟨y,Y,N,p,B⟩=>
  thn (E pins l f Y x y v u _ N w p B) λc s3 ⟨z,U,M,o,k,e,A⟩=>?_) G
 subst e;cases o
 exact Vs ⟨U,M,A⟩
def Ds(K:ZU)(x:V)(H:Hp)(k:Bool):Prop:=
 match x with
 | .non=>k=false
 | .bl b=>k=b
 | .int i=>k=(i != 0)
 | .str y=>y.length<=sizeLine/\k=((y.length:Int) != 0)
 | .byt y=>y.size<=sizeLine/\k=((y.size:Int) != 0)
 | .ref p=>(∃xs,SqL K H p xs/\k=!xs.isEmpty)\/(∃xs,SqT K H p xs/\k=!xs.isEmpty)\/∃f,H p=some (.dK f)/\k=!f.isEmpty
 |_=>False
def Zpu(r:KV f vs):(!vs.isEmpty)=!f.isEmpty:=by
 cases r<;>rfl
def RH(r:Vals xs f):(!f.toArray.isEmpty)=!xs.isEmpty:=by
 cases r<;>simp
def FO:(sizeLine:Nat)<2 ^ 63:=by trivial
def Zbo:Zek X (λx H Q=>∃k,Ds X.K x H k/\Q k H):=by
 intro pins s B H x v Q I l h;obtain⟨k,e,q⟩:=h;have G:=FO;have E:=JL;cases x with
 |non=>
  cases l
  have f:=e;subst f;exact truthy_none ⟨H,I,q⟩
 |bl b=>
  cases l
  have f:=e;subst f;exact Vs ⟨H,I,q⟩
 |int i=>
  obtain⟨t,rfl⟩:=l;have f:=e;subst f;exact PySem.P.truthy_int ⟨H,I,q⟩
 |str y=>
  obtain⟨t,rfl⟩:=l;obtain⟨z,f⟩:=e;subst f;exact PySem.P.truthy_str (by lia) ⟨H,I.tok _,q⟩
 |byt y=>
  obtain⟨t,rfl⟩:=l;obtain⟨z,f⟩:=e;subst f;exact PySem.W.truthy_bytes (by lia) ⟨H,I.tok _,q⟩
 |ref p=>
  cases l
  have f:=e;rcases f with⟨xs,hx,f⟩|⟨xs,hx,f⟩|⟨w,hx,f⟩
  ·subst f;obtain⟨o,r,n,u⟩:=I.list hx;have g:=r.length;exact wpAny_truthy_list n.isList (by simp only[Ql];lia) ⟨H,I.tok _,by rw[RH r];exact q⟩
  ·subst f;obtain⟨o,r,n,u⟩:=I.tuple hx;have g:=r.length;exact truthy_tuple n (by simp only[Ql];lia) ⟨H,I.tok _,by rw[RH r];exact q⟩
  ·subst f;obtain⟨u,A,C,r,m⟩:=I.hok p _ hx;have g:=Paired.length r;exact wpAny_truthy_dict A m (by lia) ⟨H,I.tok _,by rw[Zpu r];exact q⟩
 |_=>exact e.elim
def Zbj(p:PE X a ta)(o:∀whole,isTrue a X.env whole=(do let v ←whole;standAt a.pos;holding [v] (truthy v))) :
  PT X a (λf H Q=>ta f H λx H'=>∃k,Ds X.K x H' k/\Q k H'):=by
 intro pins s f H Q I h;exact isTrue_plain (thn (p pins s f H _ I h) λv g ⟨x,u,r,l,n⟩=>Zbo pins g f u x v Q r l n) (o _)
def vals1(r:Vals [x] us):∃u,us=[u]/\RelV x u:=by
 cases r with
 |cons g f=>cases f;exact⟨_,rfl,g⟩
def vals2(r:Vals [x,y] us):∃u f,us=[u,f]/\RelV x u/\RelV y f:=by
 cases r with
 |cons n l=>
  cases l with
  |cons h g=>cases g;exact⟨_,_,rfl,n,h⟩
def Ey(g:X.calm=true):Kn X (.builtin "max") (λxs H Q=>∃i j,xs=[.int i,.int j]/\Q (.int (if j>i then j else i)) H):=by
 intro pins s l H xs o Q I r h;obtain⟨i,j,rfl,q⟩:=h;obtain⟨u,n,rfl,⟨t,rfl⟩,⟨v,rfl⟩⟩:=vals2 r;refine max_two_ints (I.ok.hd g) λw p k=>⟨_,H,I.kept k,?_,q⟩;by_cases f:j>i
 ·rw[WH f,WH f];exact⟨_,rfl⟩
 ·rw[WG f,WG f];exact⟨_,rfl⟩
def Ze9:Kn X (.type "int") (λxs H Q=>(∃i,xs=[.int i]/\Q (.int i) H)\/∃k,xs=[.bl k]/\Q (.int (if k then 1 else 0)) H):=by
 intro pins s g H xs l Q I r h;rcases h with⟨i,rfl,q⟩|⟨k,rfl,q⟩
 ·obtain⟨u,rfl,t,rfl⟩:=vals1 r;exact call_int_int ⟨.int i,H,I,⟨_,rfl⟩,q⟩
 ·obtain⟨u,rfl,f⟩:=vals1 r;cases f
  exact call_int_bool ⟨.int (if k then 1 else 0),H,I.tok _,⟨_,rfl⟩,q⟩
def FZ(K:ZU)(x:V)(H:Hp)(n:Nat):Prop:=
 match x with
 | .str y=>y.length<=sizeLine/\n=y.length
 | .byt y=>y.size<=sizeLine/\n=y.size
 | .ref p=>(∃xs,SqL K H p xs/\n=xs.length)\/∃xs,SqT K H p xs/\n=xs.length
 |_=>False
def Zrp:Kn X (.builtin "len") (λxs H Q=>∃x n,xs=[x]/\FZ X.K x H n/\Q (.int n) H):=by
 intro pins s B H xs C Q I r h;obtain⟨x,n,rfl,e,q⟩:=h;obtain⟨u,rfl,l⟩:=vals1 r;have E:=JL;cases x with
 |str y=>
  obtain⟨t,rfl⟩:=l;obtain⟨A,g⟩:=e;subst g;exact len_str (by lia) ⟨.int _,H,I.tok _,⟨_,rfl⟩,q⟩
 |byt y=>
  obtain⟨t,rfl⟩:=l;obtain⟨A,g⟩:=e;subst g;exact PySem.W.len_bytes (by lia) ⟨.int _,H,I.tok _,⟨_,rfl⟩,q⟩
 |ref p=>
  cases l
  have g:=e;rcases g with⟨xs,hx,g⟩|⟨xs,hx,g⟩
  ·subst g;obtain⟨w,o,v,z⟩:=I.list hx;have f:=o.length;exact Calls.call_len_list v.isList (by simp only[Ql];lia) ⟨.int xs.length,H,I.tok _,⟨_,by simp only[Ql];rw[f]⟩,q⟩
  ·subst g;obtain⟨w,o,v,z⟩:=I.tuple hx;have f:=o.length;exact len_tuple v (by simp only[Ql];lia) ⟨.int xs.length,H,I.tok _,⟨_,by simp only[Ql];rw[f]⟩,q⟩
 |_=>exact e.elim
end
structure NS (h:Heap) (x dx C:Addr) (mA:ZY):Prop where
 obj:h.get? x=some (PySem.W.instObj C dx)
 ns:h.Ns1 dx mA
 ne:dx≠x
def G3{h:Heap}{dx}{mA}(n:h.Ns1 dx mA):∃od,h.get? dx=some od/\∀name,PySem.W.lookIn name od=some (mA name):=by
 obtain⟨o,s,u,l,hd,r,_,p⟩:=n;refine⟨o,l,λname=>?_⟩;have e:=p name;unfold nsFind findBy at e;unfold PySem.W.lookIn;rw[hd]
 dsimp only
 split
 ·grind
 ·rename_i q
  have a:s.toList.any (·.refKey)=false:=by
   rw[List.any_eq_false];intro y g;obtain⟨z,t,f⟩:=r y (Array.mem_toList_iff.mp g);simp[DictEntry.refKey,f]
  grind
def NS.look (I:NS h x n C f):∃od,PySem.W.InstAt h x (PySem.W.instObj C n) C (some od)/\∀name,PySem.W.lookIn name od=some (f name):=
 let ⟨od,g,l⟩:=G3 I.ns
 ⟨od,⟨I.obj,rfl,rfl,g⟩,l⟩
section
variable {prog:Program}{w:World}{A:Around}{E:ZZ}{s:Shared}{K:ZU}{x dx C f:Addr}{mA:ZY}{name:Str}{v:Value}
def Zir{Q}(X:K.In s.heap)(I:NS s.heap x dx C mA)(n:PySem.W.plainGet K C name=true)(l:PySem.W.hasDictIn K C=true)(o:PySem.W.findIn K (.ref C) name=some none)(r:mA name=some v)(g:PySem.W.handedIn v=true)(h:Q v {s with toks:=s.toks+1}) :
  wpAny (model prog w) A (getAttr (.ref x) name expr) Q E s:=by
 obtain⟨p,J,u⟩:=I.look;exact PySem.W.get_value X J (JD n).1 (PySem.W.findObj_own l o rfl<|by grind) g h
def Zaw{Q}(X:K.In s.heap)(I:NS s.heap x dx C mA)(g:PySem.W.plainGet K C name=true)(r:PySem.W.findIn K (.ref C) name=some (some<|.ref f))(o:PySem.W.isFn K (.ref f)=true)(n:mA name=none)(h:Q (.ref f,[.ref x]) s) :
  wpAny (model prog w) A (getMethod (.ref x) name u) Q E s:=by
 obtain⟨l,J,p⟩:=I.look;exact PySem.W.method_fn X J (JD g).1 (JD g).2 r (beq_iff_eq.mp o) (by show(PySem.W.lookIn name l).map (·.isSome)=some false;rw[p,n];rfl) h
def Zkz(X:K.In s.heap)(I:NS s.heap x dx C mA)(hs:PySem.W.findIn K (.ref C) "__setattr__"=some (some<|.builtin "object.__setattr__"))(B:PySem.W.plainOver K C=true)(z:PySem.W.takerIn K C name=some none)(G:PySem.W.hasDictIn K C=true)(hw:PySem.Within mA ns)(hsz:ns.length<=sizeLine)(h:∀n,NS n x dx C (λy=>if y=name then some v else mA y)->Heap.SameBut dx s.heap n->Q () {s with heap:=n,toks:=s.toks+2}) :
  wpAny (model prog w) A (setAttr (.ref x) name v) Q E s:=by
 obtain⟨N,J,U⟩:=I.look;refine PySem.W.set_plain X J hs (PySem.W.osa_open X J B z λb=>?_);obtain⟨Y,H,r⟩:=Ju G;refine W7 (WE<|W7<|W7<|wpAny_loadPart I.obj<|W7<|JO (JE X H) ?_);rw[r];refine WE (W7<|WE<|W7 ?_);refine wpAny_nsSet1 I.ns λn l g=>?_;obtain⟨T,L,M,o,p,u⟩:=l.count (PySem.Within.cons name v hw);refine W7 (wpAny_lookBehind o (by rw[p];exact pastItsLine_dict (WK u<|by grind)) ?_);exact WE (h _ ⟨(g.2 _<|Ne.symm I.ne).trans I.obj,l,I.ne⟩ g)
def Zij{vs g}(X:K.In s.heap)(l:PySem.W.makesIn K C=true)(n:PySem.W.findIn K (.ref C) "__init__"=some (some<|.ref f))(o:PySem.W.typeIn K (.ref f)=some (.type "function"))
  (h:codeAny (model prog w) (A.under<|.builtin "type.__call__" ⟨.ref C::vs,g⟩) (.call (.ref f) ⟨.ref (s.heap.objs.size+1)::vs,g⟩) (PySem.W.InitBack (s.heap.objs.size+1) R)
   {s with heap:=(s.heap.push PySem.W.emptyDict).push (PySem.W.instObj C s.heap.objs.size)}) :
  codeAny (model prog w) A (.call (.ref C) ⟨vs,g⟩) R s:=PySem.W.make_core (PySem.W.makes_of X l) (Vw X n) (λself=>PySem.W.bind_fn X self o) (.inl rfl) h
end
noncomputable def KF(f:Str)(v:V):List (Str×V)->List (Str×V)
 |[]=>[(f,v)]
 |(g,x)::r=>if g=f then(g,v)::r else(g,x)::KF f v r
theorem MD(f g:Str)(v:V):∀fs,(KF f v fs).lookup g=if g=f then some v else fs.lookup g
 |[]=>by
  show List.lookup g [(f,v)]=_;by_cases h:g=f
  ·have l:=beq_iff_eq.mpr h;simp only[List.lookup,l,WH h]
  ·have l:=Vh.mpr h;simp only[List.lookup,l,WG h]
 |(k,x)::r=>by
  rw[show KF f v ((k,x)::r)=(if k=f then(k,v)::r else(k,x)::KF f v r)from rfl]
  by_cases n:k=f
  ·rw[WH n];by_cases h:g=k
   ·simp_all
   ·have l:=Vh.mpr h;simp only[List.lookup,l,WG (λe:g=f=>h (e.trans n.symm))]
  ·rw[WG n];by_cases h:g=k
   ·simp_all
   ·have l:=Vh.mpr h;simp only[List.lookup,l];exact(MD f g v r)
theorem Gf(f:Str)(v:V):∀fs,f∈(KF f v fs).map (·.1)/\∀g,g∈fs.map (·.1)->g∈(KF f v fs).map (·.1)
 |[]=>⟨by simp[KF],λg h=>by simp at h⟩
 |(k,x)::r=>by
  obtain⟨n,l⟩:=Gf f v r;rw[show KF f v ((k,x)::r)=(if k=f then(k,v)::r else(k,x)::KF f v r)from rfl]
  by_cases o:k=f
  ·grind
  ·grind
theorem RN(f:Str)(v:V):∀fs,(KF f v fs).length<=fs.length+1
 |[]=>by simp[KF]
 |(k,x)::r=>by
  have g:=RN f v r;rw[show KF f v ((k,x)::r)=(if k=f then(k,v)::r else(k,x)::KF f v r)from rfl]
  by_cases h:k=f
  ·grind
  ·grind
def RelO.some_of (r:RelO (some v) o):∃u,o=some u/\RelV v u:=by
 cases o with
 |none=>trivial
 |some u=>exact⟨u,rfl,r⟩
def RelO.none_of (r:RelO none o):o=none:=by
 cases o with
 |none=>rfl
 |some u=>trivial
def OU(r:RelV v u):PySem.W.handedIn u=true:=by
 cases v with
 |non|bl b|ref a|ty n=>cases r;rfl
 |_=>obtain⟨t,e⟩:=r;cases e;rfl
section
variable {P:Program}{w:World}{H H':Hp}{h h':Heap}{a C dx:Addr}{fs fs':List (Str×V)}
def BY(l:HOk P w H h)(e:H a=some (.ins C dx fs)):∃g,NS h a dx C g/\(∀f,RelO (fs.lookup f) (g f))/\PySem.Within g (fs.map (·.1))/\fs.length<=1000/\H dx=some (.own a):=by
 obtain⟨d,z,p,o,g,n,r,q⟩:=(l a _ e);exact⟨g,⟨o,n,p⟩,r,q,z,d⟩
end
structure Cls (K:ZU) (C:Addr):Prop where
 pg:PySem.W.plainGet K C Str.empty=true
 hd:PySem.W.hasDictIn K C=true
 po:PySem.W.plainOver K C=true
 sa:PySem.W.findIn K (.ref C) "__setattr__"=some (some<|.builtin "object.__setattr__")
def Cls.get {K C} (c:Cls K C) (f:Str):PySem.W.plainGet K C f=true:=c.pg
def NoAttr(K:ZU)(C:Addr)(f:Str):Prop:=PySem.W.findIn K (.ref C) f=some none
def NoAttr.taker {K C f} (n:NoAttr K C f):PySem.W.takerIn K C f=some none:=by
 unfold PySem.W.takerIn;rw[show PySem.W.findIn K (.ref C) f=some none from n]
 rfl
structure X9 (K:ZU) (C:Addr) (m:Str) (f:Addr):Prop where
 at_:PySem.W.findIn K (.ref C) m=some (some<|.ref f)
 fn:PySem.W.isFn K (.ref f)=true
 kp:PySem.W.keepIn K (.ref f)=true
section
variable {X:Cx}{pins:ZX}{σ:St}{H:Hp}{s:Shared}{a C dx:Addr}{fs:List (Str×V)}{f:Str}{v:V}{A:Around}{E:ZZ}
def Zlk{Q}(I:Inv X pins σ H s)(e:H a=some (.ins C dx fs))(c:Cls X.K C)(n:NoAttr X.K C f)(l:fs.lookup f=some v)(h:∀u g,Inv X pins σ H g->RelV v u->Q u g):wpAny (model X.prog X.w) A (getAttr (.ref a) f b) Q E s:=by
 obtain⟨x,O,r,_,_,_⟩:=BY I.hok e;obtain⟨u,p,o⟩:=RelO.some_of (by rw[←l];exact r f);exact Zir I.kIn O (c.get f) c.hd n p (OU o) (h u _ (I.tok _) o)
def Ad{Q}(I:Inv X pins σ H s)(e:H a=some (.ins C dx fs))(c:Cls X.K C)(k:X9 X.K C m g)(l:fs.lookup m=none)(h:Q (.ref g,[.ref a]) s):wpAny (model X.prog X.w) A (getMethod (.ref a) m n) Q E s:=by
 obtain⟨o,O,r,_,_,_⟩:=BY I.hok e;exact Zaw I.kIn O (c.get m) k.at_ k.fn (RelO.none_of<|by rw[←l];exact r m) h
def Zgz(I:Inv X pins σ H s)(e:H a=some (.ins C dx fs))(c:Cls X.K C)(n:NoAttr X.K C f)(hl:fs.length<1000)(J:RelV y u)(h:∀x,Inv X pins σ (upd H a<|.ins C dx<|KF f y fs) x->Q () x):wpAny (model X.prog X.w) A (setAttr (.ref a) f u) Q E s:=by
 obtain⟨L,O,r,p,_,B⟩:=BY I.hok e;have M:(fs.map (·.1)).length<=sizeLine:=by rw[W6,JL];lia
 refine Zkz I.kIn O c.sa c.po n.taker c.hd p M λU l G=>h _ ?_;have hd:∃o,U.get? dx=some o:=let ⟨o,_,_,Y,_⟩:=l.ns;⟨o,Y⟩;refine I.write (by rw[e];exact True.intro) (.inr B) (λb q T z=>(G.2 b T).trans z) hd ?_;refine⟨by rw[Xs O.ne];exact B,?_,O.ne,l.obj,_,l.ns,λg=>?_,λg N=>?_⟩
 ·have:=RN f y fs;lia
 ·show RelO ((KF f y fs).lookup g) (if g=f then some u else L g);rw[MD];by_cases q:g=f
  ·rw[WH q,WH q];exact J
  ·grind
 ·by_cases q:g=f
  ·rw[q];exact(Gf f y fs).1
  ·refine(Gf f y fs).2 g (p g λz=>N ?_)
   grind
def Inv.made (I:Inv X pins σ H s):Inv X pins σ (upd (upd H s.heap.objs.size<|.own (s.heap.objs.size+1)) (s.heap.objs.size+1)<|.ins C s.heap.objs.size [])
  {s with heap:=(s.heap.push PySem.W.emptyDict).push (PySem.W.instObj C s.heap.objs.size)}:=by
 have h:(s.heap.push PySem.W.emptyDict).get? s.heap.objs.size=some PySem.W.emptyDict:=WQ s.heap rfl
 have r:((s.heap.push PySem.W.emptyDict).push (PySem.W.instObj C s.heap.objs.size)).get? (s.heap.objs.size+1)=some (PySem.W.instObj C s.heap.objs.size):=by
  have:=WQ (s.heap.push PySem.W.emptyDict) (o:=PySem.W.instObj C s.heap.objs.size) rfl
  rwa[Vj]at this
 have p:(s.heap.push PySem.W.emptyDict).Ns s.heap.objs.size (λ_=>none):=⟨PySem.W.emptyDict,#[],_,h,rfl,(λe n=>absurd n (by simp)),λ_=>rfl⟩;refine(I.laid (o:=.own (s.heap.objs.size+1)) (t':=s.toks) (λb u q=>WD _ q) (WI _) ⟨_,h⟩).laid (λb u q=>WD _ q) (Vc<|Vj _ _) ?_;have g:s.heap.objs.size≠s.heap.objs.size+1:=Qf (V0 _);refine⟨by rw[Xs g,X5],QU _,g,r,λ_=>none,(Heap.Ns1.of_empty p).at λo q=>WD _ q,λ_=>True.intro,λy l=>absurd rfl l⟩
def L8{env e f pos s Q}(l:attributeBase e f env (eval e env)=eval e env)(h:wpAny (model prog w) A (eval e env) (λo g=>wpAny (model prog w) A (getAttr o f true) Q E g) E s):wpAny (model prog w) A (eval (.Attribute e f pos) env) Q E s:=
 Attribute_any_ h (by rw[arm_eval_Attribute,l])
end
noncomputable def Ar(K:ZU)(l:TE)(f:Str):TE:=λh H Q=>l h H λx g=>∃a C n fs v,x=.ref a/\g a=some (.ins C n fs)/\Cls K C/\NoAttr K C f/\fs.lookup f=some v/\Q v g
noncomputable def Oq(K:ZU)(o n:TE)(f:Str):TS:=λD g H=>n g H λy p=>o g p λx l=>∃a C h fs,x=.ref a/\l a=some (.ins C h fs)/\Cls K C/\NoAttr K C f/\fs.length<1000/\
 D.nx g (upd l a<|.ins C h<|KF f y fs)
section
variable {X:Cx}{o e value:Expr}{f:Str}{pos pos' tpos:Pos}{ta tv:TE}
def Tn(w:PE X e ta)(y:attributeBase e f X.env (eval e X.env)=eval e X.env):PE X (.Attribute e f pos) (Ar X.K ta f):=by
 intro pins s g H Q I h;refine L8 y (thn (w pins s g H _ I h) ?_);rintro u L ⟨x,E,B,p,a,C,M,fs,v,ex,z,c,n,l,q⟩;subst ex;obtain rfl:=p;exact Zlk B z c n l λG J A r=>⟨v,E,A,r,q⟩
def Dt(A:PE X o ta)(z:PE X value tv)(hs:swapsWith value (some<|.Attribute o f pos') pos.line X.env=pure false):PS X (.Assign [.Attribute o f pos'] value pos) (Oq X.K ta tv f):=by
 intro pins s g H D I h;refine plainObj_wpAny_Assign_Attribute (thn (z pins s g H _ I h) ?_) hs;rintro u p ⟨y,L,J,r,q⟩;refine thn (A pins p g L _ J q) ?_;rintro Q N ⟨x,U,G,v,a,C,T,fs,ex,B,c,n,l,w⟩;subst ex;obtain rfl:=v;exact Zgz G B c n l r λM E=>⟨g,_,E,w⟩
def Zr0{m}{apos}{args}{pins}{s}{n:St}{H}{Q}{te}(G:PE X e te)(I:Inv X pins n H s)
  (h:te n H λx r=>∃a C y fs g,x=.ref a/\r a=some (.ins C y fs)/\Cls X.K C/\X9 X.K C m g/\fs.lookup m=none/\
   ∀p,Inv X pins n r p->wpAny (model X.prog X.w) X.A (callWith pos (.ref g) [.ref a] (backTo pos<|starEach args X.env)<|backToKw pos<|keywordEach [] X.env) Q X.xe p)
  (E:eval (.Call (.Attribute e m apos) args [] pos) X.env=(do
   let v ←eval e X.env
   standAt apos.atName
   let (f,first) ←holding [v] (getMethod v m L)
   callWith pos f first (backTo pos<|starEach args X.env) (backToKw pos<|keywordEach [] X.env))) :
  wpAny (model X.prog X.w) X.A (eval (.Call (.Attribute e m apos) args [] pos) X.env) Q X.xe s:=by
 refine VF (thn (G pins s n H _ I h) ?_) E;rintro u p ⟨x,r,z,B,a,C,y,fs,g,ex,J,c,k,l,q⟩;subst ex;obtain rfl:=B;exact Ad z J c k l (q p z)
end
section
variable {X:Cx}{pins:ZX}{σ:St}{H:Hp}{s:Shared}{A:Around}{E:ZZ}{Q:ZZ}{c:Value}{b:Bool}
inductive KQ (K:ZU) (H:Hp):V->Value->Prop where
 |non:KQ K H .non (.type "NoneType")
 |bl (x:Bool):KQ K H (.bl x) (.type "bool")
 |int (i:Int):KQ K H (.int i) (.type "int")
 |str (x:Str):KQ K H (.str x) (.type "str")
 |flt (x:UInt64):KQ K H (.flt x) (.type "float")
 |lst {a:Addr} {xs:List V} (e:H a=some (.lst xs)):KQ K H (.ref a) (.type "list")
 |frz {a:Addr} {o:Obj} {xs:List V} (e:H a=some (.frz o<|.lst xs)):KQ K H (.ref a) (.type "list")
 |tup {a:Addr} {xs:List V} (e:H a=some (.tup xs)):KQ K H (.ref a) (.type "tuple")
 |dK {a:Addr} {kvs:List (Key×V)} (e:H a=some (.dK kvs)):KQ K H (.ref a) (.type "dict")
 |dT {a:Addr} {kvs:List (List Key×V)} (e:H a=some (.dT kvs)):KQ K H (.ref a) (.type "dict")
 |ins {a C dx:Addr} {fs:List (Str×V)} (e:H a=some (.ins C dx fs)) (cl:Cls K C) (ha:PySem.W.findIn K (.ref C) "__class__"=some (some<|.builtin "object.__class__"))
   (hn:PySem.W.specialIn K (.builtin "object.__class__") "__get__"=some (some<|.builtin "getset_descriptor.__get__")) (htk:PySem.W.takesIn K (.builtin "object.__class__")=some true)
   (hm:PySem.W.mroIn K C (.type "object")=some true):KQ K H (.ref a) (.ref C)
def Znb(I:Inv X pins σ H s)(f:RelV x u)(L:KQ X.K H x t)(e:PySem.W.kitOne X.K t c=some b)(h:∀M,Q (.bool b) {s with toks:=M}) :
  wpAny (model X.prog X.w) A (call (.builtin "isinstance") [u,c]) Q E s:=by
 cases L with
 |non=>cases f;exact QE PySem.W.kitx_none I.kIn True.intro e (λz=>nomatch z) h
 |bl y=>cases f;exact QE PySem.W.kitx_bool I.kIn True.intro e (λz=>nomatch z) h
 |int i=>obtain⟨t,q⟩:=f;cases q;exact QE PySem.W.kitx_int I.kIn True.intro e (λz=>nomatch z) h
 |str y=>obtain⟨t,q⟩:=f;cases q;exact QE PySem.W.kitx_str I.kIn True.intro e (λz=>nomatch z) h
 |flt y=>obtain⟨t,q⟩:=f;cases q;exact QE PySem.W.kitx_float I.kIn True.intro e (λz=>nomatch z) h
 | @lst a xs g=>
  cases f
  obtain⟨_,_,n,_,l⟩:=(I.hok a _ g);exact QE PySem.W.kitx_list I.kIn ⟨_,l,rfl⟩ e (λz=>nomatch z) h
 | @frz a ob xs g=>
  cases f
  obtain⟨_,_,_,n,_,l⟩:=(I.hok a _ g);exact QE PySem.W.kitx_list I.kIn ⟨_,l,rfl⟩ e (λz=>nomatch z) h
 | @tup a xs g=>
  cases f
  obtain⟨_,_,_,p⟩:=(I.hok a _ g);obtain⟨o,l,r,_⟩:=p;exact QE PySem.W.kitx_tuple I.kIn ⟨o,l,r⟩ e (λz=>nomatch z) h
 | @dK a v g=>
  cases f
  obtain⟨_,_,vs,_,p⟩:=(I.hok a _ g);obtain⟨o,Y,ep,l,r,_⟩:=p;exact QE PySem.W.kitx_dict I.kIn ⟨o,l,r.1⟩ e (λz=>nomatch z) h
 | @dT a v g=>
  cases f
  obtain⟨_,_,xs,_,o,Y,ep,l,r,_⟩:=(I.hok a _ g);exact QE PySem.W.kitx_dict I.kIn ⟨o,l,r.1⟩ e (λz=>nomatch z) h
 | @ins a C dx fs g G U N B T=>
  cases f
  obtain⟨mA,O,_⟩:=BY I.hok g;obtain⟨od,J,_⟩:=O.look;exact QE (PySem.W.kitx_own (G.get _) G.hd U N B T) I.kIn J e (λz=>nomatch z) h
end
structure Xv (k:Nat) (A:Around):Prop where
 hd:A.handled=none
 dp:A.depth+3*k+5<recursionLimit
 un:A.units+16*k+200<cLine
 gd:A.guards=some []
def Xv.mono {j k A} (r:Xv k A) (h:j<=k):Xv j A:=⟨r.hd,by have:=r.dp;lia,by have:=r.un;lia,r.gd⟩
def Xv.deeper (r:Xv (k+1) A) (env:Env):Xv k (A.deeper env):=
 ⟨r.hd,by have:=r.dp;show A.depth+1+3*k+5<_;lia,by have:=r.un;show A.units+3+16*k+200<_;lia,r.gd⟩
def Zhz{A:Around}{C}{us}{kw}:(A.under<|.builtin "type.__call__" ⟨.ref C::us,kw⟩).depth=A.depth+1:=by
 rfl
def Zbk{A:Around}{C}{us}{kw}:(A.under<|.builtin "type.__call__" ⟨.ref C::us,kw⟩).units=A.units+1:=rfl
def Zh2{A:Around}{C:Addr}{us:Yc}{f:List (Str×Value)}(h:A.guards=some []):(A.under<|.builtin "type.__call__" ⟨.ref C::us,f⟩).guards=some []:=by
 simpa [Around.under,Code.guards,Code.isGuard,guardIds,pushGuards]using h
def Xv.make (r:Xv (k+1) A) (C:Addr) (us:Yc) (f:List (Str×Value)):Xv k (A.under<|.builtin "type.__call__" ⟨.ref C::us,f⟩):=
 ⟨r.hd,by have:=r.dp;rw[Zhz];lia,by have:=r.un;rw[Zbk];lia,Zh2 r.gd⟩
def Xv.depth (r:Xv k A):A.depth<recursionLimit:=by have:=r.dp;lia
def Xv.units (r:Xv k A):A.units+64<cLine:=by have:=r.un;lia
def Xv.units0 (r:Xv k A):A.units<cLine:=by have:=r.un;lia
noncomputable def KE:TA:=λ_ H Q=>Q [] H
noncomputable def Kg(h:TE)(g:TA):TA:=λf H Q=>h f H λx n=>g f n λxs l=>Q (x::xs) l
section
variable {X:Cx}{e:Expr}{es:Ye}{te:TE}{t:TA}{pos:Pos}
def Ky:PA X [] KE:=λ_ _ _ _ H Q I h=>Calls.spliced_nil ⟨[],H,I,.nil,h⟩
def XY(v:PE X e te)(r:PA X es t)(hs:autoParam (starEach (e::es) X.env=(false,eval e X.env)::starEach es X.env) au_0):PA X (e::es) (Kg te t):=by
 intro pos pins s f H Q I h;rw[hs];refine Calls.spliced_cons (thn (v pins s f H _ I h) ?_);rintro u g ⟨x,A,y,n,p⟩;exact thn (r pos pins g f A _ y p) λB C ⟨xs,z,w,l,o⟩=>⟨x::xs,z,w,.cons n l,o⟩
noncomputable def IK(t:TA):TE:=λg H Q=>t g H λxs f=>xs.length<=sizeLine/\∀p,f p=none->Q (.ref p) (upd f p<|.tup xs)
noncomputable def G1(t:TA):TE:=λg H Q=>t g H λxs f=>xs.length<=sizeLine/\∀p,f p=none->Q (.ref p) (upd f p<|.lst xs)
def PB(h:PA X es t):PE X (.Tuple es p pos) (IK t):=by
 intro pins s l H Q I hq;refine wpAny_Tuple_spliced (thn (h pos pins s l H _ I hq) ?_);rintro n f ⟨xs,o,g,r,z,q⟩;refine⟨by rw[←r.length];exact z,?_⟩;refine⟨.ref f.heap.objs.size,upd o f.heap.objs.size (.tup xs),g.laid (λb u e=>WD _ e) (WI _) ?_,rfl,q _ (g.hok.fresh<|WI _)⟩;exact⟨z,n,r,⟨_,WQ _ rfl,rfl,_,rfl⟩⟩
def P6(h:PA X es t):PE X (.List es pos) (G1 t):=by
 intro pins s l H Q I hq;refine wpAny_List_spliced (thn (h pos pins s l H _ I hq) ?_);rintro n f ⟨xs,o,g,r,z,q⟩;refine⟨by rw[←r.length];exact z,?_⟩;refine⟨.ref f.heap.objs.size,upd o f.heap.objs.size (.lst xs),g.laid (λb u e=>WD _ e) (WI _) ?_,rfl,q _ (g.hok.fresh<|WI _)⟩;exact⟨z,n,0,r,WQ _ rfl⟩
end
abbrev Sp:=List V->Hp->VK->XK->Prop
abbrev CXT:=List Env->Hp->Shared->XK->ZZ
structure NJ (P:Program) (w:World) (K:ZU) (mg:ZY) (base:Heap) (A:Around) (outer:List Env) (s:Shared) (H:Hp):Prop where
 frames:A.frames=some outer
 mod:Mod K mg base
 bs:∀b o,base.get? b=some o->s.heap.get? b=some o/\H b=none
 bsz:base.objs.size<=s.heap.objs.size
 funs:s.heap.FunFrames base outer
 frf:∀b∈frs outer,H b=none
 hok:HOk P w H s.heap
 bare:AllBare s.gens
def CE(outer:List Env)(P:Program)(w:World)(H:Hp)(s:Shared)(Q:VK)(u:Value)(f:Shared):Prop:=
 ∃v g,f.os=s.os/\AllBare f.gens/\Un (frs outer) [] H g s.heap f.heap/\HOk P w g f.heap/\RelV v u/\Q v g
def CR(CX:CXT)(outer:List Env)(P:Program)(w:World)(H:Hp)(s:Shared)(Q:VK)(E:XK)(r:Result)(f:Shared):Prop:=
 match r with
 | .ok (.ret u)=>CE outer P w H s Q u f
 | .ok _=>False
 | .error e=>CX outer H s E e f
structure KC (P:Program) (w:World) (K:ZU) (mg:ZY) (base:Heap) (CX:CXT) (k:Nat) (f:Addr) (fd:FuncData) (ps:Yd) (sp:Sp):Prop where
 len:∀vs H Q E,sp vs H Q E->vs.length=ps.length
 run:∀(A:Around) (outer:List Env) (s:Shared) (H:Hp) (args:Args) (us:Yc) (vs:List V) (Q:VK) (E:XK),Xv k A->NJ P w K mg base A outer s H->BindsTo s fd args (ps.zip us)->Vals vs us->sp vs H Q E->
  codeAny (model P w) A (.call (.ref f) args) (CR CX outer P w H s Q E) s
def KC.imp {K l base CX k f n ps sp g} (F:KC P w K l base CX k f n ps sp)
  (h:∀vs H Q E,g vs H Q E->sp vs H Q E):KC P w K l base CX k f n ps g:=
 ⟨λvs H Q E q=>F.len vs H Q E (h _ _ _ _ q),λA outer s H args o vs Q E u v x p r=>F.run A outer s H args o vs Q E u v x p (h _ _ _ _ r)⟩
def NJ.make {K f base A outer s H} (e:NJ P w K f base A outer s H) (C:Addr) (us:Yc) (g:List (Str×Value)) :
  NJ P w K f base (A.under<|.builtin "type.__call__" ⟨.ref C::us,g⟩) outer s H:=⟨by first|exact e.frames|(simpa [Around.under,Code.envs,Code.isFrame,pushEnvs]using e.frames),e.mod,e.bs,e.bsz,e.funs,e.frf,e.hok,e.bare⟩
section
variable {X:Cx}{pins:ZX}{σ:St}{H:Hp}{s s':Shared}
def Inv.env0 (I:Inv X pins σ H s):NJ X.prog X.w X.K X.mg X.base X.A X.stack s H:=
 ⟨I.ok.frames,I.ok.mod,I.bs,WK I.ok.bsz I.sz,I.stack,I.stkFree,I.hok,I.bare⟩
def Inv.after (I:Inv X pins σ H s) (h:CE X.stack X.prog X.w H s Q u s'):EP X pins σ Q u s':=by
 obtain⟨v,n,os,bare,un,f,r,q⟩:=h;obtain⟨o,g,d,t,l⟩:=s';obtain rfl:=os;exact⟨v,n,I.call un f bare (λb z=>absurd z (by simp)),r,q⟩
end
noncomputable def Nm(sp:Sp)(f:List V)(E:XK)(t:TA):TE:=λg H Q=>t g H λh l=>sp (h++f) l Q E
noncomputable def Nr(C:Addr)(m:Str)(sp:Sp)(f:List V)(E:XK)(n:TE)(t:TA):TE:=λg H Q=>n g H λx h=>∃a o fs,x=.ref a/\h a=some (.ins C o fs)/\fs.lookup m=none/\
 t g h λl p=>sp (x::(l++f)) p Q E
noncomputable def DO(C:Addr)(sp:Sp)(g:List V)(E:XK)(t:TA):TE:=λl H Q=>t l H λn h=>∀x f,h x=none->h f=none->f≠x->
 sp (.ref x::(n++g)) (upd (upd h f<|.own x) x<|.ins C f []) (λv o=>v=.non/\Q (.ref x) o) E
def Binds(K:ZU)(g:FuncData)(ps:Yd)(ds:Yc):Prop:=
 ∀(s:Shared) (f:Yc),K.In s.heap->(f++ds).length=ps.length->BindsTo s g ⟨f,[]⟩ (ps.zip (f++ds))
def Binds.all {K g ps} (h:∀us,us.length=ps.length->bindArgs g ⟨us,[]⟩=pure (ps.zip us)):Binds K g ps []:=λs us _ f=>by
 rw[Qv]at f ⊢;exact .of_eq (h us f)
def Pz(CX:CXT)(X:Cx)(E:XK):Prop:=∀(pins:ZX) (g:St) (H:Hp) (s:Shared) (e:Value) (f:Shared),Inv X pins g H s->CX X.stack H s E e f->X.xe e f
section
variable {X:Cx}{CX:CXT}{k:Nat}{f C:Addr}{fd:FuncData}{ps:Yd}{sp:Sp}{dvs:List V}{ds:Yc}{E:XK}{x m:Str}{p pos apos:Pos}{e o:Expr}{es:Ye}{ta:TE}{t:TA}
def EN{g:St}{H}{s}{Q}{us}{vs}(F:KC X.prog X.w X.K X.mg X.base CX k f fd ps sp)(v:Xv k X.A)(z:Binds X.K fd ps ds)(hd:Vals dvs ds)(hx:Pz CX X E)(I:Inv X pins g H s)(r:Vals vs us)(h:sp (vs++dvs) H Q E):wpAny (model X.prog X.w) X.A (call (.ref f) us) (EP X pins g Q) X.xe s:=by
 have l:=r.append hd;have y:(us++ds).length=ps.length:=by rw[←l.length];exact F.len _ _ _ _ h
 refine J2 (Vm (F.run X.A X.stack s H ⟨us,[]⟩ (us++ds) (vs++dvs) Q E v I.env0 (z s us I.kIn y) l h) λr n hq=>?_);cases r with
 |error e=>exact hx pins g H s e n I hq
 |ok B=>
  cases B with
  |ret u=>exact I.after hq
  |cont=>exact False.elim hq
  |_=>trivial
def Zm3(F:KC X.prog X.w X.K X.mg X.base CX k f fd ps sp)(v:Xv k X.A)(B:Gl X x)(y:X.mg x=some (.ref f))(z:PySem.W.keepIn X.K (.ref f)=true)(J:Binds X.K fd ps ds)(hd:Vals dvs ds)(hx:Pz CX X E)(L:PA X (e::es) t)(l:autoParam ((x==("__debug__" : Str))=false) au_1)(G:autoParam (starEach (e::es) X.env=(false,eval e X.env)::starEach es X.env) au_0)(g:autoParam ((backTo pos<|starEach es X.env).any (·.1)=false) au_0) :
  PE X (.Call (.Name x p) (e::es) [] pos) (Nm sp dvs E t):=by
 intro pins s u H Q I h;refine VX (Ss I B y ?_ l);refine JP I.ok.mod.kin z (thn (L pos pins s u H _ I h) ?_) G g;rintro N T ⟨M,U,n,r,q⟩;refine⟨n.kIn,?_⟩;exact EN F v J hd hx n r q
def Zow{pl}(U:PE X o ta)(c:Cls X.K C)(z:X9 X.K C m f)(F:KC X.prog X.w X.K X.mg X.base CX k f fd ps sp)(T:Xv k X.A)(Y:Binds X.K fd ps ds)(hd:Vals dvs ds)(hx:Pz CX X E)(ha:PA X (e::es) t)(g:autoParam (starEach (e::es) X.env=(false,eval e X.env)::starEach es X.env) au_0)(n:autoParam ((backTo pos<|starEach es X.env).any (·.1)=false) au_0)
  (N:autoParam (eval (.Call (.Attribute o m apos) (e::es) [] pos) X.env=(do
   let y ←eval o X.env
   standAt apos.atName
   let (f,first) ←holding [y] (getMethod y m pl)
   callWith pos f first (backTo pos<|starEach (e::es) X.env) (backToKw pos<|keywordEach [] X.env))) au_0) :
  PE X (.Call (.Attribute o m apos) (e::es) [] pos) (Nr C m sp dvs E ta t):=by
 intro pins s v H Q I h;refine VF (thn (U pins s v H _ I h) ?_) N;rintro u J ⟨x,H1,G,L,a,dx,fs,ex,ea,l,q⟩;subst ex;obtain rfl:=L;refine Ad G ea c z l ?_;refine JP I.ok.mod.kin z.kp (thn (ha pos pins J v H1 _ G q) ?_) g n;rintro us s2 ⟨vs,H2,B,r,M⟩;refine⟨B.kIn,?_⟩;exact EN (vs:=.ref a::vs) F T Y hd hx B (.cons rfl r) M
def Zg6(G:PE X o ta)(c:Cls X.K C)(r:X9 X.K C m f)(F:KC X.prog X.w X.K X.mg X.base CX k f fd ps sp)(B:Xv k X.A)(J:Binds X.K fd ps ds)(hd:Vals dvs ds)(hx:Pz CX X E)
  (z:autoParam (eval (.Call (.Attribute o m apos) [] [] pos) X.env=(do
   let n ←eval o X.env
   standAt apos.atName
   let (f,first) ←holding [n] (getMethod n m N)
   callWith pos f first (backTo pos<|starEach [] X.env) (backToKw pos<|keywordEach [] X.env))) au_0) :
  PE X (.Call (.Attribute o m apos) [] [] pos) (Nr C m sp dvs E ta KE):=by
 intro pins s v H Q I h;refine VF (thn (G pins s v H _ I h) ?_) z;rintro u M ⟨x,U,g,y,a,T,fs,ex,L,l,q⟩;subst ex;obtain rfl:=y;refine Ad g L c r l ?_;exact PySem.W.callWith_K0 g.kIn r.kp (EN (vs:=[.ref a]) F B J hd hx g (.cons rfl .nil) q)
structure Mk (K:ZU) (C f:Addr):Prop where
 makes:PySem.W.makesIn K C=true
 init:PySem.W.findIn K (.ref C) "__init__"=some (some<|.ref f)
 fn:PySem.W.isFn K (.ref f)=true
 kp:PySem.W.keepIn K (.ref C)=true
def Zrv{y:St}{H}{s}{Q}{us}{vs}(M:Mk X.K C f)(F:KC X.prog X.w X.K X.mg X.base CX k f fd ps sp)(L:Xv (k+1) X.A)(T:Binds X.K fd ps ds)(hd:Vals dvs ds)(hx:Pz CX X E)(I:Inv X pins y H s)(r:Vals vs us)(h:∀x l,H x=none->H l=none->l≠x->sp (.ref x::(vs++dvs)) (upd (upd H l<|.own x) x<|.ins C l []) (λv H2=>v=.non/\Q (.ref x) H2) E) :
  wpAny (model X.prog X.w) X.A (call (.ref C) us) (EP X pins y Q) X.xe s:=by
 have hq:=h (s.heap.objs.size+1) s.heap.objs.size (I.hok.fresh<|VA _) (I.hok.fresh<|WI _) (Qf<|V0 _);have n:=Inv.made (C:=C) I;have z:Vals (V.ref (s.heap.objs.size+1)::(vs++dvs)) (Value.ref (s.heap.objs.size+1)::(us++ds)):=.cons rfl (r.append hd)
 have N:(Value.ref (s.heap.objs.size+1)::us++ds).length=ps.length:=by
  have e:=z.length;rw[F.len _ _ _ _ hq]at e
  grind
 refine J2 (Zij I.kIn M.makes M.init (beq_iff_eq.mp M.fn) (Vm (F.run _ X.stack _ _ ⟨Value.ref (s.heap.objs.size+1)::us,[]⟩ (Value.ref (s.heap.objs.size+1)::(us++ds)) _ _ E (L.make C us [])
  (n.env0.make C us []) (T _ (Value.ref (s.heap.objs.size+1)::us) n.kIn N) z hq) λr B g=>?_))
 cases r with
 |error e=>exact hx pins y _ _ e B n g
 |ok U=>
  cases U with
  |ret u=>
   obtain⟨v,H',I3,G,Y,J⟩:=n.after g;subst Y;exact⟨G,⟨V.ref (s.heap.objs.size+1),H',I3,rfl,J⟩⟩
  |_=>exact False.elim g
def Zhd(M:Mk X.K C f)(F:KC X.prog X.w X.K X.mg X.base CX k f fd ps sp)(v:Xv (k+1) X.A)(z:Gl X x)(y:X.mg x=some (.ref C))(G:Binds X.K fd ps ds)(hd:Vals dvs ds)(hx:Pz CX X E)(J:PA X (e::es) t)(l:autoParam ((x==("__debug__" : Str))=false) au_1)(B:autoParam (starEach (e::es) X.env=(false,eval e X.env)::starEach es X.env) au_0)(g:autoParam ((backTo pos<|starEach es X.env).any (·.1)=false) au_0) :
  PE X (.Call (.Name x p) (e::es) [] pos) (DO C sp dvs E t):=by
 intro pins s u H Q I h;refine VX (Ss I z y ?_ l);refine JP I.ok.mod.kin M.kp (thn (J pos pins s u H _ I h) ?_) B g;rintro N T ⟨L,U,n,r,q⟩;refine⟨n.kIn,?_⟩;exact Zrv M F v G hd hx n r q
end
structure Xl (N P:Yd) (sc:Scope):Prop where
 kind:sc.kind=.function
 co:sc.isCoroutine=false
 gen:sc.isGenerator=false
 nd:N.Nodup
 pre:N.take P.length=P
 par:∀x∈P,sc.names.lookup x=some .local\/sc.names.lookup x=some .cell
 nofree:∀y∈sc.names,y.2≠.free
theorem II{kindOf x}:∀{binds}{m:ZY},(∀v,(x,v)∉binds)->bindL kindOf binds m x=m x
 |[],_,_=>rfl
 |(n,v)::r,m,h=>by
  unfold bindL;rw[II λw hw=>h w (Qb _ hw)];split
  ·grind
  ·rfl
theorem Rk{kindOf x}:∀{binds}{m:ZY},(∀v,(x,v)∉binds)->bindC kindOf binds m x=m x
 |[],_,_=>rfl
 |(n,v)::r,m,h=>by
  unfold bindC;rw[Rk λw hw=>h w (Qb _ hw)];split
  ·rfl
  ·grind
theorem Oa{kindOf}{x}{v}:∀{P:Yd}{vs}{i:Nat}{m:ZY},P.Nodup->P[i]?=some x->vs[i]?=some v->kindOf x=some .local->
  bindL kindOf (P.zip vs) m x=some v
 |[],_,_,_,_,h,_,_|_::_,[],_,_,_,_,h,_=>by simp at h
 |p::P,w::vs,0,m,f,n,l,g=>by
  simp at n l;subst n;subst l;show bindL kindOf ((p,w)::P.zip vs) m p=_;unfold bindL;rw[II λv o=>(Qw.mp f).1 (List.of_mem_zip o).1,WH g];simp
 |p::P,w::vs,i+1,m,f,n,l,g=>by
  unfold bindL;exact Oa (Qw.mp f).2 (by trivial) (by grind) g
theorem Gu{kindOf}{x}{v}:∀{P:Yd}{vs}{i:Nat}{m:ZY},P.Nodup->P[i]?=some x->vs[i]?=some v->kindOf x≠some .local->
  bindC kindOf (P.zip vs) m x=some v
 |[],_,_,_,_,h,_,_|_::_,[],_,_,_,_,h,_=>by simp at h
 |p::P,w::vs,0,m,f,n,l,g=>by
  simp at n l;subst n;subst l;show bindC kindOf ((p,w)::P.zip vs) m p=_;unfold bindC;rw[Rk λv o=>(Qw.mp f).1 (List.of_mem_zip o).1,WG g];simp
 |p::P,w::vs,i+1,m,f,n,l,g=>by
  unfold bindC;exact Gu (Qw.mp f).2 (by trivial) (by grind) g
noncomputable def start(N:Yd)(vs:List V):St:=vs.map some++List.replicate (N.length-vs.length) none
noncomputable def XT(CX:CXT)(P:Program)(w:World)(K:ZU)(mg:ZY)(base:Heap)(N:Yd)(qual:Str)(scope:Scope)(f:Addr)(cd:Value)(A:Around)(outer:List Env)(s:Shared)(H:Hp)(E:XK):Cx where
 prog:=P
 w:=w
 K:=K
 mg:=mg
 base:=base
 A:=A.deeper (envOfC qual scope s.heap.objs.size f cd)
 N:=N
 s₀:=s
 H₀:=H
 env:=envOfC qual scope s.heap.objs.size f cd
 outer:=outer
 stack:=envOfC qual scope s.heap.objs.size f cd::outer
 ex:=[]
 calm:=true
 fn:=λ_=>true
 pn:=[]
 xe:=λe s'=>wpAny (model P w) (A.deeper<|envOfC qual scope s.heap.objs.size f cd) (leaving (envOfC qual scope s.heap.objs.size f cd) e) (λ_ s''=>CX outer H s E e s'') (λe' s''=>CX outer H s E e' s'') s'
def Mg{f:Scope}{n}{x}(h:f.names.lookup x=some .cell):∃c,(cellsFrom n f.names []).lookup x=some c:=by
 exact Option.isSome_iff_exists.mp (PySem.W.cellsFrom_some f.names n []<|.inl h)
def Zqx{P}{w}{K}{mg}{base}{N ps}{qual}{scope}{f}{cd}{A}{outer}{s L}{H}{E}{us}{vs}(S:Xl N ps scope)(hd:A.handled=none)(l:NJ P w K mg base A outer s H)(hl:vs.length=ps.length)(r:Vals vs us)(x:InCallC s s.heap.objs.size (bindL (envOfC qual scope s.heap.objs.size f cd).kindOf (ps.zip us) λ_=>none) (cellsFrom (s.heap.objs.size+1) scope.names []) (bindC (envOfC qual scope s.heap.objs.size f cd).kindOf (ps.zip us) λ_=>none) L) :
  Inv (XT CX P w K mg base N qual scope f cd A outer s H E) [] (start N vs) H L:=by
 have U:ps.length<=N.length:=by have:=Q2 List.length S.pre;rw[Qa]at this;lia
 obtain⟨J,tk,rfl,Q⟩:=x.done;have n:∀b,b∉(XT CX P w K mg base N qual scope f cd A outer s H E).ex:=λb z=>absurd (show b∈([]:List Addr)from z) (by simp)
 refine⟨⟨l.mod,S.kind,rfl,rfl,WI _,λy z c J g=>?_,λy o=>?_,λy c _ h=>?_,λ_=>hd,Around.frames_deeper l.frames,.inr ⟨rfl,rfl⟩,λb z=>absurd z (n b),l.bs,l.bsz,λb _ _=>n b,λb z=>absurd z (n b),l.funs,l.frf⟩,
  rfl,l.bare,Un.kept Q,⟨_,x.toInCall.ns,λi y v J g h3=>?_⟩,λy c h=>⟨_,x.cell y c h⟩,l.hok.fresh (WI _),λy c h=>?_,λp C=>absurd (show p∈([]:ZX)from C) (by simp),l.hok.kept Q,?_⟩
 ·exact name_of_addr x.apart (Vi J) (Vi g)
 ·have o:=o;rcases o with o|o
  ·exact Mg o
  ·exact absurd rfl (S.nofree _<|Vi o)
 ·exact VW (x.above y c<|Vi h)
 ·have G:i<vs.length:=by
   unfold start at g;by_cases G:i<vs.length
   ·exact G
   ·rw[Qu (by simpa using G)]at g;rw[V6]at g;split at g<;>cases g
  have Y:vs[i]?=some v:=by
   unfold start at g;rw[Qj (by simpa using G),WL]at g;cases e:vs[i]? with
   |none=>rw[e]at g;cases g
   |some a=>rw[e]at g;cases g;rfl
  obtain⟨u,M,T⟩:=r.get Y
  have C:ps[i]?=some y:=by
   rw[←S.pre,QR (by lia)];exact J
  have B:ps.Nodup:=by rw[←S.pre];exact S.nd.sublist (Vt _ _)
  refine⟨u,T,?_⟩;rcases S.par y (WZ C)with k|k
  ·exact .inl ⟨k,Oa B C M k⟩
  ·obtain⟨c,e⟩:=Mg k;refine .inr ⟨.inl k,c,e,?_⟩;have q:=x.cell y c e;rw[Gu B C M (by show scope.names.lookup y≠_;rw[k];decide)]at q;exact q
 ·exact l.hok.fresh (VW<|x.above y c<|Vi h)
 ·unfold start;show _=N.length;rw[WJ,W6,List.length_replicate];lia
def Cr{K M base k f name qual params body scope dV kV L pm g ct oc an od Y N ps sp}(lk:K.lookup f=some ⟨oc,od,.func (PySem.W.fnOf name qual params body scope dV kV L pm an g ct),Y⟩)(hcd:PySem.W.codeIn K g qual=true)(S:Xl N ps scope)(len:∀vs H Q E,sp vs H Q E->vs.length=ps.length)
  (p:∀A outer s H vs Q E,Xv k (A.deeper<|envOfC qual scope s.heap.objs.size f g)->sp vs H Q E->
   ∃t,PSs (XT CX P w K M base N qual scope f g A outer s H E) body t/\t {nx:=λ_ H'=>Q .non H',rt:=Q} (start N vs) H) :
  KC P w K M base CX (k+1) f (PySem.W.fnOf name qual params body scope dV kV L pm an g ct) ps sp:=by
 refine⟨len,λA outer s H args us vs Q E hr G hb r z=>?_⟩;have KX:=G.mod.kin.keeps λb o e=>(G.bs b o e).1
 have l:∀y∈ps.zip us,scope.names.lookup y.1=some .local\/(scope.names.lookup y.1=some .cell/\((cellsFrom (s.heap.objs.size+1) scope.names []).lookup y.1).isSome=true):=λ⟨n,v⟩ hy=>by
  rcases S.par n (List.of_mem_zip hy).1 with q|q
  ·exact .inl q
  ·exact .inr ⟨q,PySem.W.cellsFrom_some _ _ _ (.inl q)⟩
 refine codeAny_call_function hr.depth (KX _ _ lk) rfl S.co S.gen rfl (PySem.W.codeRec_of KX hcd) (hb _ _ _ _ ?_);refine wpAny_newFunctionEnv_cells S.kind l λenv he s1 x=>?_;subst he;refine⟨(G.mod.nolimit.keeps λb o e=>(G.bs b o e).1).keeps x.toInCall.keep,codeAny_func ?_⟩;obtain⟨t,ht,hq⟩:=p A outer s H vs Q E (hr.deeper _) z;have I:Inv (XT CX P w K M base N qual scope f g A outer s H E) [] (start N vs) H s1:=Zqx S hr.hd G (len _ _ _ _ z) r x;refine Qt (ht [] s1 (start N vs) H _ I hq) (λfl T B=>?_) λe T B=>B
 have C:∀{h:St} {H':Hp} {v:V} {u:Value},Inv (XT CX P w K M base N qual scope f g A outer s H E) [] h H' T->RelV v u->Q v H'->CE outer P w H s Q u T:=
  λ{h H' v u} J U q=>⟨v,H',J.os,J.bare,J.base,J.hok,U,q⟩
 cases fl with
 |ret u=>
  obtain⟨v,h,H',J,U,q⟩:=B;exact C J U q
 |next=>
  obtain⟨h,H',J,q⟩:=B;exact C (v:=V.non) J rfl q
 |_=>
  obtain⟨_,_,_,q⟩:=B;exact False.elim q
section
variable {X:Cx}{x:Str}{p pos:Pos}{e:Expr}{es:Ye}{t:TA}{id T:String}{r:List V->Hp->VK->Prop}
noncomputable def tCB(r:List V->Hp->VK->Prop)(t:TA):TE:=λf H Q=>t f H λg h=>r g h Q
def Ks(E:Kn X (.builtin id) r)(B:Gl X x)(A:X.mg x=none)(y:bootBuiltins x=some (.builtin id))(G:PA X (e::es) t)(z:autoParam (x≠"__name__") au_1)(g:autoParam ((x==("__debug__" : Str))=false) au_1)(C:autoParam (starEach (e::es) X.env=(false,eval e X.env)::starEach es X.env) au_0)(f:autoParam ((backTo pos<|starEach es X.env).any (·.1)=false) au_0):PE X (.Call (.Name x p) (e::es) [] pos) (tCB r t):=by
 intro pins s l H Q I h;refine VX (SN I B A y ?_ z g);exact PyProof.Rows.callWith_builtin1 (thn (G pos pins s l H _ I h) λo u ⟨n,L,J,v,w⟩=>E pins u l L n o Q J v w) C f
def PR(E:Kn X (.type T) r)(B:Gl X x)(A:X.mg x=none)(y:bootBuiltins x=some (.type T))(G:PA X (e::es) t)(z:autoParam (x≠"__name__") au_1)(g:autoParam ((x==("__debug__" : Str))=false) au_1)(C:autoParam (starEach (e::es) X.env=(false,eval e X.env)::starEach es X.env) au_0)(f:autoParam ((backTo pos<|starEach es X.env).any (·.1)=false) au_0):PE X (.Call (.Name x p) (e::es) [] pos) (tCB r t):=by
 intro pins s l H Q I h;refine VX (SN I B A y ?_ z g);exact VN (thn (G pos pins s l H _ I h) λo u ⟨n,L,J,v,w⟩=>E pins u l L n o Q J v w) C f
end
end L2
namespace HT
open PySem PyProof.Rows
section
variable {prog:Program}{w:World}{A:Around}{E:ZZ}{s:Shared}
def Zoc(B:IsTup s.heap t vs.toArray)(C:IsTup s.heap b g.toArray)(v:vs≠[])(G:g=[]->Q (.ref t) s)(H:g≠[]->Q (.ref s.heap.objs.size) {s with heap:=s.heap.push {cls:=.type "tuple",data:=.seq (vs++g).toArray}})(hsz:vs.length+g.length<=sizeLine):wpAny (model prog w) A (binaryOp .Add (.ref t)<|.ref b) Q E s:=by
 obtain⟨⟨cls,y,data,sl⟩,r,x,n,hd⟩:=id B;obtain⟨⟨z,p,data2,h⟩,f,o,u,l⟩:=id C;simp only at x hd o l;subst x hd o l;by_cases hw:g=[]
 ·exact concat_meets ⟨_,r,rfl⟩ ⟨_,f,rfl⟩ noFill_tuple_add seq_tuple_add Jp Jg (VY _ _)
   (tuple_addW1 t b vs.toArray g.toArray n u y p sl h (by simpa using v)<|by simp[hw]) ⟨r,f,G hw⟩
 ·refine concat_meets ⟨_,r,rfl⟩ ⟨_,f,rfl⟩ noFill_tuple_add seq_tuple_add Jp Jg (VY _ _)
   (tuple_addW2 t b vs.toArray g.toArray n u y p sl h (by simpa using v) (by simpa using hw)<|by omega) ⟨r,f,?_⟩
  grind
noncomputable def sIx(n d:Nat):Option Int->Nat
 |none=>d
 |some v=>if v<0 then(v+(n:Int)).toNat else min v.toNat n
def OZ(n d:Nat):sIx n d none=d:=rfl
def FC(n d k:Nat):sIx n d (some (k:Int))=min k n:=rfl
end
end HT
namespace L2
open PySem PySem.Spec PyProof.Rows
abbrev TO:=St->Hp->(Option Int->Hp->Prop)->Prop
def PO(X:Cx)(e:Option Expr)(t:TO):Prop:=
 ∀(pins:ZX) (s:Shared) (f:St) (H:Hp) (Q:Option Int->Hp->Prop),Inv X pins f H s->t f H Q->
  wpAny (model X.prog X.w) X.A (evalPart e X.env) (λu h=>∃o g,Inv X pins f g h/\IsPart u o/\Q o g) X.xe s
noncomputable def LQ:TO:=λ_ H Q=>Q none H
noncomputable def Oe(t:TE):TO:=λf H Q=>t f H λx g=>∃i,x=.int i/\Q (some i) g
def Ac:∀{us:Yc},Vals (ns.map V.int) us->IntsAre us ns:=by
 induction ns with
 |nil=>intro us r;rw[List.map_nil]at r;cases r;exact .nil
 |cons n ns h=>
  intro us r;cases r with
  |cons g f=>
   obtain⟨t,e⟩:=g;subst e;exact .cons n t (h f)
section
variable {X:Cx}{e:Expr}{te:TE}{lo hi:Option Expr}{tl th:TO}{pos p2:Pos}
def Zpe:PO X none LQ:=by
 intro pins s f H Q I h;exact WE ⟨none,H,I,.none,h⟩
def Ge(h:PE X e te):PO X (some e) (Oe te):=by
 intro pins s f H Q I hw;refine thn (h pins s f H _ I hw) ?_;rintro u p ⟨x,o,n,g,l⟩;obtain⟨i,rfl,q⟩:=l;obtain⟨t,rfl⟩:=g;exact⟨some i,o,n,.int i t,q⟩
def SlR(X:Cx)(r:V->Option Int->Option Int->Hp->VK->Prop):Prop:=
 ∀(pins:ZX) (s:Shared) (f:St) (H:Hp) (x:V) (v h g:Value) (lo hi:Option Int) (sl:Addr) (Q:VK),Inv X pins f H s->RelV x v->s.heap.IsSliceOf sl h g .none->IsPart h lo->IsPart g hi->r x lo hi H Q->
  ∃T id,typeLookup (.type T) "__getitem__"=pure (some<|.builtin id)/\s.TypeIs v T/\wpAny (model X.prog X.w) X.A (getItem v<|.ref sl) (EP X pins f Q) X.xe s
noncomputable def tSl(r:V->Option Int->Option Int->Hp->VK->Prop)(te:TE)(tl th:TO):TE:=λf H Q=>te f H λx n=>tl f n λl h=>th f h λu g=>r x l u g Q
def Ih(M:SlR X r)(Y:PE X e te)(N:PO X lo tl)(J:PO X hi th):PE X (.Subscript e (.Slice lo hi none p2) pos) (tSl r te tl th):=by
 intro pins s f H Q I h;refine Subscript_ (thn (Y pins s f H _ I h) ?_);rintro v y ⟨x,H1,I1,z,C⟩;refine wpAny_Slice (thn (N pins y f H1 _ I1 C) ?_);rintro o w ⟨l,H2,I2,G,B⟩;refine thn (J pins w f H2 _ I2 B) ?_;rintro n g ⟨u,p,I3,E,A⟩;refine WE ?_;have I4:Inv X pins f p {g with heap:=g.heap.push {cls:=.type "slice",data:=.fields #[o,n,.none]}}:=I3.kept λb ob q=>WD _ q
 obtain⟨T,id,hT,L,U⟩:=M pins {g with heap:=g.heap.push {cls:=.type "slice",data:=.fields #[o,n,.none]}} f p x v o n l u g.heap.objs.size Q I4 z (Heap.IsSliceOf.new ..) G E A
 exact tail_any L hT U rfl
noncomputable def NP(xs:List V)(lo hi:Option Int):List V:=(xs.drop<|HT.sIx xs.length 0 lo).take (HT.sIx xs.length xs.length hi-HT.sIx xs.length 0 lo)
def Zky(xs:List V)(lo hi:Option Int):(NP xs lo hi).length<=xs.length:=by
 unfold NP
 grind
noncomputable def Zp9(K:ZU):R2:=λx y H Q=>∃a b xs f,x=.ref a/\y=.ref b/\SqT K H a xs/\SqT K H b f/\xs≠[]/\xs.length+f.length<=sizeLine/\
 (f=[]->Q (.ref a) H)/\(f≠[]->∀p,H p=none->Q (.ref p) (upd H p<|.tup (xs++f)))
def Vals.nil_iff (r:Vals xs us):us=[]↔xs=[]:=by
 cases r with
 |_=>simp
def Zog:OpR X (binaryOp .Add) (Zp9 X.K):=by
 intro pins s J H x y v u Q I p o h;obtain⟨a,b,xs,L,rfl,rfl,G,E,hx,n,A,r⟩:=h;cases p
 cases o
 obtain⟨C,g,B,_⟩:=I.tuple G;obtain⟨l,f,p2,_⟩:=I.tuple E;refine HT.Zoc B p2 (λz=>hx (g.nil_iff.mp z)) (λz=>⟨.ref a,H,I,rfl,A (f.nil_iff.mp z)⟩) (λz=>?_) (by rw[←g.length,←f.length];exact n);refine⟨.ref s.heap.objs.size,_,I.laid (λb M q=>WD _ q) (WI _) ?_,rfl,r (λw=>z (f.nil_iff.mpr w)) _ (I.hok.fresh<|WI _)⟩;exact⟨by rw[WJ];exact n,_,g.append f,IsTup.new _ _⟩
end
noncomputable def ixN(n:Nat)(i:Int):Option Nat:=if 0<=i then(if i<n then some i.toNat else none)else if -(n:Int)<=i then some (i+n).toNat else none
noncomputable def atI{f:Type}(xs:List f)(i:Int):Option f:=(ixN xs.length i).bind λj=>xs[j]?
def MB(h:ixN n i=some j):seqIndex? i n=some j/\j<n/\-(n:Int)<=i/\i<n:=by
 unfold ixN at h;by_cases g:0<=i
 ·rw[WH g]at h;by_cases f:i<n
  ·rw[WH f]at h;have e:=WR h;exact⟨by rw[seqIndex_of g f,e],by lia,by lia,f⟩
  ·grind
 ·rw[WG g]at h;by_cases f:-(n:Int)<=i
  ·rw[WH f]at h;have e:=WR h;exact⟨by rw[seqIndex_neg (by lia) f,e],by lia,f,by lia⟩
  ·grind
def Hr(h:atI xs i=some v):∃j,seqIndex? i xs.length=some j/\xs[j]?=some v/\j<xs.length/\-(xs.length:Int)<=i/\i<xs.length:=by
 unfold atI at h;cases e:ixN xs.length i with
 |none=>grind
 |some j=>
  obtain⟨n,l,g,f⟩:=MB e
  grind
def Tu{j:Nat}{v}(h:xs[j]?=some v):atI xs (j:Int)=some v:=by
 have e:ixN xs.length (j:Int)=some j:=by
  unfold ixN
  grind
 unfold atI;rw[e];exact h
def AB(b:Expr):Prop:=∀o i,subscripted b false o i=operate [o,i] (getItem o i)
def IxR(X:Cx)(r:R2):Prop:=
 ∀(value slice:Expr) (pins:ZX) (s:Shared) (f:St) (H:Hp) (x y:V) (v u:Value) (Q:VK),Inv X pins f H s->RelV x v->RelV y u->r x y H Q->
  subscripted slice false v u=operate [v,u] (getItem v u)->wpAny (model X.prog X.w) X.A (subscriptTail value slice v u) (EP X pins f Q) X.xe s
def MtR(X:Cx)(id:String)(r:V->List V->Hp->VK->Prop):Prop:=
 ∀(pins:ZX) (s:Shared) (f:St) (H:Hp) (x:V) (xs:List V) (v:Value) (g:Yc) (Q:VK),Inv X pins f H s->RelV x v->Vals xs g->r x xs H Q->
  wpAny (model X.prog X.w) X.A (call (.builtin id) (v::g)) (EP X pins f Q) X.xe s
section
variable {X:Cx}{a b:Expr}{ta tb:TE}{pos:Pos}
def IxR.or (h:IxR X r) (p:IxR X o):IxR X (λx y H Q=>r x y H Q\/o x y H Q):=by
 intro value slice pins s f H x y v u Q I l g q n;rcases q with q|q
 ·exact h value slice pins s f H x y v u Q I l g q n
 ·exact p value slice pins s f H x y v u Q I l g q n
def Lq(o:IxR X r)(w:PE X a ta)(p:PE X b tb)(hs:AB b):PE X (.Subscript a b pos) (tOp r ta tb):=by
 intro pins s f H Q I h;exact Subscript_ (EG w p I h λv u g x y A z n l q=>o a b pins g f A x y v u Q z n l q (hs _ _))
noncomputable def Bs(K:ZU):R2:=λx y H Q=>∃p xs i v,x=.ref p/\y=.int i/\SqL K H p xs/\atI xs i=some v/\Q v H
noncomputable def SX(K:ZU):R2:=λx y H Q=>∃p xs i v,x=.ref p/\y=.int i/\SqT K H p xs/\atI xs i=some v/\Q v H
def ix_list:IxR X (Bs X.K):=by
 intro value slice pins s G H x y v u Q I L J h B;obtain⟨p,xs,i,z,rfl,rfl,hq,N,q⟩:=h;cases L
 obtain⟨t,rfl⟩:=J;obtain⟨o,r,n,hz⟩:=I.list hq;obtain⟨j,g,Y,h3,U,T⟩:=Hr N;obtain⟨w,E,l⟩:=r.get Y;have M:=r.length;have hn:=FO;have f:EP X pins G Q w s:=⟨z,H,I,l,q⟩;by_cases C:0<=i
 ·have A:i.toNat=j:=by
   rw[seqIndex_of C T]at g;exact WR g
  exact item_listR n.isList C (by lia) (by rw[A];simpa using E) f B
 ·have A:(i+(o.toArray.size:Int)).toNat=j:=by
   rw[seqIndex_neg (by lia) U]at g;rw[Ql,←M];exact WR g
  exact subscriptTail_builtinR n.isList.typeIs slot_list_getitem.lookup
   (wpAny_getItem_list_neg n.isList (by lia) (by rw[Ql]<;>lia) (by lia) (by rw[A];simpa using E) ⟨rfl,f⟩) B
def Zou:IxR X (SX X.K):=by
 intro value slice pins s n H x y v u Q I A o h C;obtain⟨p,xs,i,z,rfl,rfl,hq,E,q⟩:=h;cases A
 obtain⟨t,rfl⟩:=o;obtain⟨B,r,l,L⟩:=I.tuple hq;obtain⟨j,J,G,U,T,N⟩:=Hr E;obtain⟨w,Y,f⟩:=r.get G;have M:=FO;have g:EP X pins n Q w s:=⟨z,H,I,f,q⟩
 exact subscriptTail_builtinR l.typeIs slot_tuple_getitem.lookup
  (getItem_tuple l (by lia) (by lia) (by rw[Ql,←r.length];exact J) (by grind) ⟨rfl,g⟩) C
def Za8(f:Yc)(n j:Nat)(u:Value):Obj.mapSeq (·.setIfInBounds j u) {cls:=.type "list",data:=.seq f.toArray n}={cls:=.type "list",data:=.seq (f.set j u).toArray n}:=by
 simp[Obj.mapSeq]
def Inv.lst {g:St}{H}{s}{p}{xs} (I:Inv X pins g H s) (h:H p=some (.lst xs)) :
  ∃f n,Vals xs f/\s.heap.get? p=some {cls:=.type "list",data:=.seq f.toArray n}/\xs.length<=sizeLine:=by
 obtain⟨z,f,n,r,e⟩:=I.hok p _ h
 grind
def Inv.lstUpd {v:St}{H}{s}{p}{xs ys}{l g:Yc}{n o}{f} (I:Inv X pins v H s) (h:H p=some (.lst xs))
  (y:s.heap.get? p=some {cls:=.type "list",data:=.seq l.toArray n}) (w:f {cls:=.type "list",data:=.seq l.toArray n}={cls:=.type "list",data:=.seq g.toArray o}) (r:Vals ys g) (x:ys.length<=sizeLine) (t:Nat) :
  Inv X pins v (upd H p<|.lst ys) {s with heap:=s.heap.update p f,toks:=t}:=by
 have e:(s.heap.update p f).get? p=some {cls:=.type "list",data:=.seq g.toArray o}:=by
  rw[Q0 f y (by rw[w]<;>rfl),w]
 refine I.write (by rw[h];trivial) (.inl rfl) (λb u z q=>(Q8 _ _<|Ne.symm z).trans q) ⟨_,e⟩ ?_;exact⟨x,g,o,r,e⟩
def M7:V->V->V->Hp->(Hp->Prop)->Prop:=λo i v H Q=>∃p xs k j,o=.ref p/\i=.int k/\H p=some (.lst xs)/\ixN xs.length k=some j/\Q (upd H p<|.lst<|xs.set j v)
def Zn6:LK X M7:=by
 intro pins s M H o i v N T u Q I G ri E h;obtain⟨p,xs,k,j,rfl,rfl,y,L,q⟩:=h;cases G
 obtain⟨t,rfl⟩:=ri;obtain⟨f,n,r,l,J⟩:=I.lst y;obtain⟨g,Y,A,z⟩:=MB L;have w:=r.length;have U:=FO
 have C:=
  I.lstUpd y l (Za8 f n j u) (r.set E j) (by rw[Q9];exact J) s.toks
 by_cases B:0<=k
 ·have x:k.toNat=j:=by
   rw[seqIndex_of B z]at g;exact WR g
  exact PySem.W.ki_setAt l B (by lia) (by rw[Ql,←w];exact z) (by rw[x];exact⟨_,C,q⟩)
 ·have x:(k+(f.toArray.size:Int)).toNat=j:=by
   rw[seqIndex_neg (by lia) A]at g;rw[Ql,←w];exact WR g
  exact PySem.W.ki_setBack l (by lia) (by rw[Ql,←w];exact A) (by lia) (by rw[x];exact⟨_,C,q⟩)
def Zbv(lo f:Option Int)(n:Nat):(sliceBounds lo f none n).1=((HT.sIx n 0 lo:Nat):Int)/\(sliceBounds lo f none n).2.1=((HT.sIx n n f:Nat):Int)/\(sliceBounds lo f none n).2.2=1:=by
 refine⟨?_,?_,rfl⟩
 ·cases lo with
  |none=>simp[sliceBounds,HT.sIx]
  |some i=>
   simp only[sliceBounds,HT.sIx,Option.getD_none,show(1:Int)>0 by decide,if_true];by_cases h:i<0
   ·grind
   ·simp only[h,Jv]<;>lia
 ·cases f with
  |none=>simp[sliceBounds,HT.sIx]
  |some i=>
   simp only[sliceBounds,HT.sIx,Option.getD_none,show(1:Int)>0 by decide,if_true];by_cases h:i<0
   ·simp only[h,if_true]<;>lia
   ·simp only[h,Jv]<;>lia
def Zc4(f:Yc)(lo g:Option Int):slicePick f.toArray lo g none=((f.drop<|HT.sIx f.length 0 lo).take (HT.sIx f.length f.length g-HT.sIx f.length 0 lo)).toArray:=by
 obtain⟨n,l,h⟩:=Zbv lo g f.toArray.size;unfold slicePick;rw[n,l,h];simp only[sliceRange_one,pick_run,Ql]<;>rfl
def F8(K:ZU):V->Option Int->Option Int->Hp->VK->Prop:=λx lo f H Q=>∃a xs,x=.ref a/\SqL K H a xs/\∀p,H p=none->Q (.ref p) (upd H p<|.lst<|NP xs lo f)
def Zmi:SlR X (F8 X.K):=by
 intro pins s z H x v B A lo l sl Q I n y p o h;obtain⟨a,xs,rfl,hx,q⟩:=h;cases n
 obtain⟨u,r,g,w⟩:=I.list hx;have f:=r.length;refine⟨"list",_,slot_list_getitem.lookup,g.isList.typeIs,?_⟩;refine wpAny_getItem_list_slice g.isList y p o .none (by simp) ?_ (by grind);rw[Zc4,←f];refine⟨.ref s.heap.objs.size,_,I.laid (λb C q=>WD _ q) (WI _) ?_,rfl,q _ (I.hok.fresh<|WI _)⟩;exact⟨WK (Zky xs lo l) w,_,0,(r.drop<|HT.sIx xs.length 0 lo).take (HT.sIx xs.length xs.length l-HT.sIx xs.length 0 lo),WQ _ rfl⟩
noncomputable def KJ:V->Bool
 | .non=>true
 | .bl _=>true
 | .int _=>true
 | .str _=>true
 |_=>false
noncomputable def eqV:V->V->Bool
 | .non,.non=>true
 | .bl a,.bl b=>a==b
 | .bl a,.int b=>(if a then 1 else 0)==b
 | .int a,.bl b=>a==(if b then 1 else 0)
 | .int a,.int b=>a==b
 | .str a,.str b=>a==b
 |_,_=>false
def RD{y x u v}(h:RelV y u)(f:RelV x v)(fy:KJ y=true)(l:KJ x=true):SeqAt.EqAt A s u v (eqV y x):=by
 cases y with
 |non=>
  cases h
  cases x with
  |non=>cases f;exact SeqAt.EqAt.same _
  |bl b=>cases f;exact SeqAt.EqAt.none_bool b
  |int b=>obtain⟨t,rfl⟩:=f;exact SeqAt.EqAt.none_int b t
  |str b=>obtain⟨t,rfl⟩:=f;exact SeqAt.EqAt.none_str b t
  |_=>exact absurd l WY
 |bl a=>
  cases h
  cases x with
  |non=>cases f;exact SeqAt.EqAt.bool_none a
  |bl b=>cases f;exact SeqAt.EqAt.bool_bool a b
  |int b=>obtain⟨t,rfl⟩:=f;exact SeqAt.EqAt.bool_int a b t
  |str b=>obtain⟨t,rfl⟩:=f;exact SeqAt.EqAt.bool_str a b t
  |_=>exact absurd l WY
 |int a=>
  obtain⟨g,rfl⟩:=h;cases x with
  |non=>cases f;exact SeqAt.EqAt.int_none a g
  |bl b=>cases f;exact SeqAt.EqAt.int_bool a g b
  |int b=>obtain⟨t,rfl⟩:=f;exact SeqAt.EqAt.int_int a g b t
  |str b=>obtain⟨t,rfl⟩:=f;exact SeqAt.EqAt.int_str a g b t
  |_=>exact absurd l WY
 |str a=>
  obtain⟨g,rfl⟩:=h;cases x with
  |non=>cases f;exact SeqAt.EqAt.str_none a g
  |bl b=>cases f;exact SeqAt.EqAt.str_bool a g b
  |int b=>obtain⟨t,rfl⟩:=f;exact SeqAt.EqAt.str_int a g b t
  |str b=>obtain⟨t,rfl⟩:=f;exact SeqAt.EqAt.str_str a g b t
  |_=>exact absurd l WY
 |_=>exact absurd fy WY
noncomputable def eqU(x:V)(u:Value):Bool:=match u with
 | .none=>eqV .non x
 | .bool b=>eqV (.bl b) x
 | .int i _=>eqV (.int i) x
 | .str z _=>eqV (.str z) x
 |_=>false
def G4{x y u}(r:RelV y u)(f:KJ y=true):eqU x u=eqV y x:=by
 cases y with
 |non|bl b=>cases r;rfl
 |int i|str z=>obtain⟨t,rfl⟩:=r;rfl
 |_=>trivial
theorem BK:∀{xs}{us:Yc},Vals xs us->xs.all KJ=true->us.any (eqU x)=xs.any λy=>eqV y x
 |_,_,.nil,_=>rfl
 |y::xs,u::us,.cons r t,f=>by
  rw[Jt,Qx]at f;rw[VQ,VQ,G4 r f.1,BK t f.2]
theorem BD{x v}(h:RelV x v)(l:KJ x=true):∀{xs}{us:Yc},Vals xs us->xs.all KJ=true->∀u∈us,SeqAt.EqAt A s u v (eqU x u)
 |_,_,.nil,_=>λu g=>by cases g
 |y::xs,u::us,.cons r t,f=>λn g=>by
  rw[Jt,Qx]at f;rcases WU.mp g with rfl|g
  ·rw[G4 r f.1];exact RD r h f.1 l
  ·exact BD h l t f.2 n g
noncomputable def inV(x:V)(xs:List V):Bool:=xs.any λy=>eqV y x
noncomputable def rIn(K:ZU)(neg:Bool):R2:=λx y H Q=>∃p xs,y=.ref p/\(SqL K H p xs\/SqT K H p xs)/\KJ x=true/\xs.all KJ=true/\Q (.bl (if neg then !inV x xs else inV x xs)) H
def Zaj:OpR X (compareOp .In) (rIn X.K false):=by
 intro pins s A H x y v u Q I l o h;obtain⟨p,xs,rfl,hq,n,fs,q⟩:=h;cases o
 rcases hq with hq|hq
 ·obtain⟨f,r,g,z⟩:=I.list hq;refine SeqAt.in_listAt (eqU x) g.isList (λw hw=>BD l n r fs w (by grind)) ⟨.bl _,H,I,rfl,?_⟩;rwa[show f.toArray.any (eqU x)=f.any (eqU x) by simp,BK r fs]
 ·obtain⟨f,r,g,z⟩:=I.tuple hq;refine SeqAt.in_tupleAt (eqU x) g (λw hw=>BD l n r fs w (by simpa using hw)) ⟨.bl _,H,I,rfl,?_⟩;rwa[show f.toArray.any (eqU x)=f.any (eqU x) by simp,BK r fs]
def Zcl:OpR X (compareOp .NotIn) (rIn X.K true):=by
 intro pins s A H x y v u Q I l o h;obtain⟨p,xs,rfl,hq,n,fs,q⟩:=h;cases o
 rcases hq with hq|hq
 ·obtain⟨f,r,g,z⟩:=I.list hq;refine SeqAt.notIn_listAt (eqU x) g.isList (λw hw=>BD l n r fs w (by grind)) ⟨.bl _,H,I,rfl,?_⟩;rwa[show f.toArray.any (eqU x)=f.any (eqU x) by simp,BK r fs]
 ·obtain⟨f,r,g,z⟩:=I.tuple hq;refine SeqAt.notIn_tupleAt (eqU x) g (λw hw=>BD l n r fs w (by grind)) ⟨.bl _,H,I,rfl,?_⟩;rwa[show f.toArray.any (eqU x)=f.any (eqU x) by simp,BK r fs]
def LJ:Kn X (.type "list") (λxs H Q=>∃p ys,xs=[.ref p]/\(SqL X.K H p ys\/SqT X.K H p ys)/\∀l,H l=none->Q (.ref l) (upd H l<|.lst ys)):=by
 intro pins s L H xs N Q I r h;obtain⟨p,ys,rfl,hq,q⟩:=h;obtain⟨u,rfl,M⟩:=vals1 r;cases M
 have B:∀f,Vals ys f->ys.length<=sizeLine->∀g x,(∀b J,s.heap.get? b=some J->g.get? b=some J)->
   g.get? s.heap.objs.size=some {cls:=.type "list",dict:=none,data:=.seq f.toArray x,slots:=#[]}->EP X pins L Q (.ref s.heap.objs.size) {s with heap:=g}:=λf v z g x y e=>
  ⟨.ref s.heap.objs.size,_,I.laid y (WI _) (show ObjOk X.prog X.w _ g _ (.lst ys)from⟨z,f,x,v,e⟩),rfl,q _ (I.hok.fresh<|WI _)⟩
 rcases hq with hq|hq
 ·obtain⟨f,v,C,z⟩:=I.list hq;have A:=v.length;obtain⟨o,E,G,n,hd⟩:=C.isList;exact call_list_seq p (.inl rfl) E G hd (λg x y e=>B f v z g x y e) (by grind)
 ·obtain⟨f,v,C,z⟩:=I.tuple hq;have A:=v.length;obtain⟨o,E,G,n,hd⟩:=C;exact call_list_seq p (.inr rfl) E G hd (λg x y e=>B f v z g x y e) (by simp only[Ql]<;>lia)
def Ziw:Kn X (.type "tuple") (λxs H Q=>∃p ys,xs=[.ref p]/\((SqL X.K H p ys/\∀l,H l=none->Q (.ref l) (upd H l<|.tup ys))\/(SqT X.K H p ys/\Q (.ref p) H))):=by
 intro pins s w H xs E Q I r h;obtain⟨p,ys,rfl,h⟩:=h;obtain⟨u,rfl,A⟩:=vals1 r;cases A
 rcases h with⟨hq,q⟩|⟨hq,q⟩
 ·obtain⟨f,n,v,x⟩:=I.list hq;have y:=n.length;refine call_tuple_list v.isList (λg B=>?_) (by grind);have z:Inv X pins w H {s with heap:=g}:=I.kept B
  have C:Inv X pins w (upd H g.objs.size<|.tup ys) {s with heap:=g.push {cls:=.type "tuple",data:=.seq f.toArray}}:=
   z.laid (λb o e=>WD _ e) (WI _) (⟨x,f,n,IsTup.new _ _⟩)
  exact⟨.ref g.objs.size,_,C,rfl,q _ (z.hok.fresh<|WI _)⟩
 ·obtain⟨f,n,v,x⟩:=I.tuple hq;exact call_tuple_same v ⟨.ref p,H,I,rfl,q⟩
def tyV(K:ZU)(T:String)(x:V)(H:Hp):Prop:=match x with
 | .str _=>T = "str"
 | .int _=>T = "int"
 | .ref p=>(T = "list"/\∃xs,SqL K H p xs)\/(T = "tuple"/\∃o,K.lookup p=some o/\o.cls=.type "tuple"/\o.dict=none)\/
   (T = "dict"/\((∃f,H p=some (.dK f))\/∃f,H p=some (.dT f)))\/(T = "set"/\∃S n,H p=some (.set S n))
 |_=>False
def Ip{w:St}{H}{s}{T}{x}{v}(I:Inv X pins w H s)(r:RelV x v)(g:tyV X.K T x H) :
  s.TypeIs v T/\∀a,v=.ref a->∃ob,s.heap.get? a=some ob/\ob.dict=none:=by
 cases x with
 |str z=>
  obtain⟨t,rfl⟩:=r;cases g
  exact⟨typeIs_str s z t,λ_ e=>nomatch e⟩
 |int i=>
  obtain⟨t,rfl⟩:=r;cases g
  exact⟨typeIs_int s i t,λ_ e=>nomatch e⟩
 |ref p=>
  cases r
  rcases g with⟨rfl,xs,hq⟩|⟨rfl,o,f,A,hd⟩|⟨rfl,f⟩|⟨rfl,S,n,f⟩
  ·obtain⟨y,_,u,_⟩:=I.list hq;refine⟨u.isList.typeIs,λa e=>?_⟩;cases e
   obtain⟨o,n,e,c,hd,_⟩:=u;exact⟨o,e,hd⟩
  ·refine⟨⟨o,I.kIn p o f,A⟩,λa e=>?_⟩;cases e
   exact⟨o,I.kIn _ o f,hd⟩
  ·have z:∃o,s.heap.get? p=some o/\o.ExactDict:=by
    rcases f with⟨h,f⟩|⟨h,f⟩
    ·obtain⟨_,_,_,_,o,_,_,e,ex,_⟩:=I.hok p _ f;exact⟨o,e,ex⟩
    ·obtain⟨_,_,_,_,o,_,_,e,ex,_⟩:=I.hok p _ f;exact⟨o,e,ex⟩
   obtain⟨o,e,ex⟩:=z;refine⟨⟨o,e,ex.1⟩,λa l=>?_⟩;cases l
   exact⟨o,e,ex.2.1⟩
  ·obtain⟨o,_,_,_,e,ex,_⟩:=I.hok p _ f;refine⟨⟨o,e,ex.1⟩,λa l=>?_⟩;cases l
   exact⟨o,e,ex.2.1⟩
 |_=>exact False.elim g
noncomputable def Bz(K:ZU)(T:String)(r:V->List V->Hp->VK->Prop)(h:TE):TE:=λg H Q=>h g H λx f=>tyV K T x f/\r x [] f Q
noncomputable def tBM(K:ZU)(T:String)(r:V->List V->Hp->VK->Prop)(h:TE)(t:TA):TE:=λf H Q=>h f H λx g=>tyV K T x g/\t f g λxs l=>r x xs l Q
variable {o e:Expr}{es:Ye}{to:TE}{t:TA}{name:Str}{apos cpos:Pos}{T id:String}{r:V->List V->Hp->VK->Prop}
def SL(A:PlainAttrs T)(slot:Slot T name id)(l:typeOf (.builtin id)=pure (.type "method_descriptor"))(C:MtR X id r)(B:PE X o to)(g:autoParam (attributeBase o name X.env (eval o X.env)=eval o X.env) au_0)(f:autoParam ((apos.endLine==cpos.line)=true) au_0):PE X (.Call (.Attribute o name apos) [] [] cpos) (Bz X.K T r to):=by
 intro pins s n H Q I h;refine wpAny_Call_method0_late g f (thn (B pins s n H _ I h) ?_);rintro v y ⟨x,J,u,p,w,z⟩;obtain⟨G,E⟩:=Ip u p w;exact⟨T,id,A,slot,l,G,E,Calls.callWith_builtin rfl (PySem.evalArgs_none<|C pins y n J x [] v [] Q u p .nil z)⟩
def NQ(N:PlainAttrs T)(slot:Slot T name id)(u:typeOf (.builtin id)=pure (.type "method_descriptor"))(Y:MtR X id r)(U:PE X o to)(ha:PA X (e::es) t)(g:autoParam (attributeBase o name X.env (eval o X.env)=eval o X.env) au_0)
  (l:autoParam (((backTo cpos<|starEach (e::es) X.env).all (λx=>!x.1)&&(backToKw cpos<|keywordEach [] X.env).all (λx=>x.1.isSome)
   && decide ((e::es).length+([]:List Keyword).length+(if ([]:List Keyword).isEmpty then 0 else 1)<30))=true) au_0)
  (f:autoParam ((apos.endLine==cpos.line)=true) au_0) (hs:autoParam (starEach (e::es) X.env=(false,eval e X.env)::starEach es X.env) au_0) (n:autoParam ((backTo cpos<|starEach es X.env).any (·.1)=false) au_0) :
  PE X (.Call (.Attribute o name apos) (e::es) [] cpos) (tBM X.K T r to t):=by
 intro pins s p H Q I h;refine wpAny_Call_method_late g l f rfl (thn (U pins s p H _ I h) λv G ⟨x,H1,z,w,C,M⟩=>?_);obtain⟨h1,h2⟩:=Ip z w C;refine⟨T,id,N,slot,u,h1,h2,?_⟩;have y:=ha cpos pins G p H1 _ z M;rw[hs]at y ⊢;refine Calls.callWith_builtin (by grind) (J4 ?_);exact thn y λB E ⟨A,H2,I2,J,L⟩=>Y pins E p H2 x A v B Q I2 w J L
end
def MtM(X:Cx)(id:String)(r:V->List V->Hp->VK->Prop):Prop:=
 ∀(pins:ZX) (s:Shared) (f:St) (H:Hp) (x:V) (xs:List V) (v:Value) (g:Yc) (Q:VK),Inv X pins f H s->RelV x v->Vals xs g->r x xs H Q->
  wpAny (model X.prog X.w) X.A (call (.builtin id) (v::g)) (EP X pins f Q) X.xe s
def Vals.one:∀{x}{us:Yc},Vals [x] us->∃u,us=[u]/\RelV x u:=by
 intro _ _ h;cases h with
 |cons r t=>
  cases t
  exact⟨_,rfl,r⟩
def Vals.zero:∀{us:Yc},Vals [] us->us=[]
 |_,.nil=>rfl
def Vals.dropLast (h:Vals xs us):Vals xs.dropLast us.dropLast:=by
 induction h with
 |nil=>exact .nil
 |cons r t f=>
  cases t with
  |nil=>grind
  |cons q g=>exact .cons r f
theorem Vals.rep (h:Vals xs us):∀k,Vals (List.replicate k xs).flatten (List.replicate k us).flatten
 | 0=>.nil
 |k+1=>by
  exact Vals.append h (Vals.rep h k)
def Zr1{f:Type}(l:List f):l.eraseIdx (l.length-1)=l.dropLast:=by simp
theorem RY(f:Yc):∀k g,
  List.foldl (λl h=>l++h) g.toArray (List.replicate k f.toArray)=(g++(List.replicate k f).flatten).toArray
 | 0,g=>by simp
 |k+1,g=>by
  have e:g.toArray++f.toArray=(g++f).toArray:=by simp
  have n:(g++f)++(List.replicate k f).flatten=g++(List.replicate (k+1) f).flatten:=by grind
  rw[←n,←RY f k (g++f),←e,List.replicate_succ,List.foldl_cons]
section
variable {X:Cx}{pins:ZX}{σ:St}{H:Hp}{s:Shared}{l b:Addr}{xs ys zs:List V}
def Inv.lset {h g:Yc}{n}{f}{t'} (I:Inv X pins σ H s) (x:H l=some (.lst xs))
  (e:s.heap.get? l=some {cls:=.type "list",data:=.seq h.toArray n}) (v:f h.toArray=g.toArray) (p:Vals ys g) (o:ys.length<=sizeLine) :
  Inv X pins σ (upd H l<|.lst ys) {s with heap:=s.heap.update l (Obj.mapSeq f),toks:=t'}:=by
 have q:=PySem.IsL.update e f;rw[v]at q;refine I.write (by rw[x];exact trivial) (.inl rfl) (λy u w r=>(Q8 s.heap (Obj.mapSeq f)<|Ne.symm w).trans r) ⟨_,q⟩ ?_;exact⟨o,g,_,p,q⟩
def Inv.lnew (I:Inv X pins σ H s) (h:Vals ys f) (g:ys.length<=sizeLine) :
  Inv X pins σ (upd H s.heap.objs.size<|.lst ys) {s with heap:=s.heap.push {cls:=.type "list",data:=.seq f.toArray},toks:=t'}:=
 I.laid (λ_ _ q=>WD _ q) (WI _) ⟨g,f,0,h,WQ _ rfl⟩
def Inv.fresh (I:Inv X pins σ H s):H s.heap.objs.size=none:=I.hok.fresh (WI _)
def Inv.lstM (I:Inv X pins σ H s) (g:H l=some (.lst xs)):xs.length<=sizeLine/\∃f n,Vals xs f/\xs.length=f.length/\s.heap.get? l=some {cls:=.type "list",data:=.seq f.toArray n}:=by
 obtain⟨z,f,n,r,e⟩:=I.hok l _ g;exact⟨z,f,n,r,r.length,e⟩
def Me(h:n<=sizeLine):Builtin.List.listTooLong n=false:=by
 unfold Builtin.List.listTooLong
 grind
end
section
variable {X:Cx}
def Ef:V->List V->Hp->VK->Prop:=λx f H Q=>∃l xs y,x=.ref l/\f=[y]/\H l=some (.lst xs)/\xs.length<sizeLine/\Q .non (upd H l<|.lst (xs++[y]))
def Bu:MtM X "list.append" Ef:=by
 intro pins s A H x B v C Q I o p h;obtain⟨l,xs,y,rfl,rfl,g,E,q⟩:=h;cases o
 obtain⟨u,rfl,w⟩:=p.one;obtain⟨z,f,n,r,G,e⟩:=I.lstM g;refine J6 F.slot_list_append ⟨_,e,rfl⟩ F.entry_list_append (F.args_list_append_2 _ _) (PySem.list_append l f.toArray n u<|by grind) ⟨e,?_⟩;refine⟨.non,_,I.lset g e (by simp) (r.append<|.cons w .nil) ?_,rfl,q⟩
 grind
def Rf:V->List V->Hp->VK->Prop:=λx g H Q=>∃l b xs f,x=.ref l/\g=[.ref b]/\H l=some (.lst xs)/\H b=some (.lst f)/\xs.length+f.length<=sizeLine/\Q .non (upd H l<|.lst (xs++f))
def DP:MtM X "list.extend" Rf:=by
 intro pins s M H x U v Y Q I y A h;obtain⟨l,b,xs,N,rfl,rfl,w,J,hz,q⟩:=h;cases y
 obtain⟨u,rfl,B⟩:=A.one;cases B
 obtain⟨z,g,n,r,hl,e⟩:=I.lstM w;obtain⟨T,f,E,C,G,L⟩:=I.lstM J;have p:g.toArray.size+f.toArray.size<=sizeLine:=by grind
 have o:¬(!g.toArray.isEmpty&&Builtin.List.listTooLong (g.toArray.size+f.toArray.size))=true:=by
  rw[Me p,Bool.and_false];exact WY
 refine J6 F.slot_list_extend ⟨_,e,rfl⟩ F.entry_list_extend (F.args_list_extend_2 _ _)
  (AutoSeq1.list_extend_list_list_0 l g.toArray n b f.toArray E o (by lia)<|by lia) ⟨e,L,?_⟩
 refine⟨.non,_,I.lset w e (by simp) (r.append C) ?_,rfl,q⟩
 grind
def EV:V->List V->Hp->VK->Prop:=λx f H Q=>∃l xs y,x=.ref l/\f=[]/\H l=some (.lst xs)/\xs[xs.length-1]?=some y/\Q y (upd H l<|.lst xs.dropLast)
def FP:MtM X "list.pop" EV:=by
 intro pins s E H x G v J Q I w A h;obtain⟨l,xs,y,rfl,rfl,p,C,q⟩:=h;cases w
 have o:=A.zero;subst o;obtain⟨z,f,n,r,M,e⟩:=I.lstM p;obtain⟨u,L,B⟩:=r.get C;have g:f.toArray[f.toArray.size-1]?=some u:=by grind
 refine J6 F.slot_list_pop ⟨_,e,rfl⟩ F.entry_list_pop (F.args_list_pop_1 _) (MeetsSeq.list_pop_last l f.toArray n u g<|by rw[Ql];lia) ⟨e,?_⟩;refine⟨y,_,I.lset p e ?_ r.dropLast ?_,B,q⟩
 ·simp
 ·grind
noncomputable def ML:R2:=λx y H Q=>∃l b xs f,x=.ref l/\y=.ref b/\H l=some (.lst xs)/\H b=some (.lst f)/\xs.length+f.length<=sizeLine/\∀p,H p=none->Q (.ref p) (upd H p<|.lst (xs++f))
def Kz:OpR X (binaryOp .Add) ML:=by
 intro pins s J H x y v u Q I p o h;obtain⟨l,b,xs,L,rfl,rfl,B,C,T,q⟩:=h;cases p
 cases o
 obtain⟨z,g,n,r,U,e⟩:=I.lstM B;obtain⟨M,f,N,w,A,G⟩:=I.lstM C;refine PySem.P.add_list e G ?_ (by grind);have E:g.toArray++f.toArray=(g++f).toArray:=by simp
 rw[E];exact⟨.ref _,_,I.lnew (r.append w) (by grind),rfl,q _ I.fresh⟩
noncomputable def OM:R2:=λx y H Q=>∃l k xs,x=.ref l/\y=.int k/\H l=some (.lst xs)/\-(2 ^ 63)<=k/\k<2 ^ 63/\xs.length*k.toNat<=sizeLine/\
 ∀p,H p=none->Q (.ref p) (upd H p (.lst (List.replicate k.toNat xs).flatten))
def Zjb{f:Type}(xs:List f)(k:Nat):(List.replicate k xs).flatten.length=k*xs.length:=by simp
def Zjw:OpR X (binaryOp .Mult) OM:=by
 intro pins s Y H x y v u Q I L J h;obtain⟨l,k,xs,rfl,rfl,N,U,T,B,q⟩:=h;cases L
 obtain⟨t,rfl⟩:=J;obtain⟨z,f,n,r,M,e⟩:=I.lstM N;have p:f.toArray.size*k.toNat<=sizeLine:=by rw[Ql,←M];exact B
 have A:¬f.toArray.size*k.toNat>(2 ^ 63-1) / 8:=by
  have:(sizeLine:Nat)<=(2 ^ 63-1) / 8:=by decide
  lia
 have w:¬(!Builtin.List.listFitsIndex k)=true:=by
  rw[fitsIndex_both U T];exact WY
 have g:¬Builtin.List.listTooLong (f.toArray.size*k.toNat)=true:=by
  rw[Me p];exact WY
 have o:List.foldl (λE C=>E++C) #[] (List.replicate (if f.toArray.isEmpty=true then 0 else k.toNat) f.toArray)=(List.replicate k.toNat f).flatten.toArray:=by
  have f0:=λm=>by
   have:=RY f m []
   rw[List.nil_append]at this;exact this
  rw[f0];cases f with
  |nil=>simp
  |cons a r'=>rw[WG (by simp)]
 refine wpAny_binaryOp_repeat_ref (by decide) ⟨_,e,rfl⟩ (λG=>typeIs_int G k t) noFill_list_mul F.fills_int_mul F.slot_int_rmul repeat_list F.slot_int_index.lookup
  (J6 F.slot_int_rmul (typeIs_int s k t) F.entry_int_rmul (F.args_int_rmul_2 _ _) (int___rmul___int_list k t l f.toArray n)
   ⟨e,rfl,⟨_,e,rfl⟩,J6 F.slot_list_mul ⟨_,e,rfl⟩ F.entry_list_mul (F.args_list_mul_2 _ _) (AutoListH.list___mul___list_int_3 l f.toArray n k t w A g) ⟨e,?_⟩⟩)
 rw[o];exact⟨.ref _,_,I.lnew (r.rep k.toNat) (by rw[Zjb,Nat.mul_comm];exact B),rfl,q _ I.fresh⟩
end
end L2
namespace Att
open PySem PySem.W PySem.Calls PyProof.Rows
def Zpr:∀ns vs,WellAll P h vs (ns.map WData.int)->IntsAre vs ns:=by
 intro ns
 induction ns with
 |nil=>
  intro vs w;cases w
  exact .nil
 |cons n ns f=>
  intro vs w;cases w with
  |cons a b=>
   cases a
   exact .cons _ _ (f _ b)
def Zdi{l:OpenLaw}{n}(y:l.most=some n){P}{h}{args}{vals}(f:l.row.toRowW.claim.pre args=true)(p:WellAll P h vals args) :
  ∃a vs ns,vals=[Value.ref a]/\args=[WData.list (ns.map WData.int)]/\h.get? a=some {cls:=.type "list",data:=.seq vs.toArray}/\IntsAre vs ns/\ns.length<=n:=by
 have s:WShape.hasAll [] args [.list .int]=true:=(pre_splitW f).1;have z:l.pre.holds [] {args:=args}=true:=(pre_splitW f).2;obtain⟨d,r,rfl,C,B⟩:=hasAllW_cons s;obtain rfl:=hasAllW_nil B;obtain⟨xs,rfl,A⟩:=hasW_list C;obtain⟨ns,rfl⟩:=items_int A
 have g:ns.length<=n:=by
  have u:(WTm.not<|.lt (.lit<|.int (n:Int))<|.len<|.arg 0).holds [] {args:=[.list (ns.map .int)]}=true:=by
   have u:=(holds_andW z).1;rw[y]at u;lia
  have E:=condW_of u (w_not<|w_lt w_lit<|w_len_list<|w_arg rfl);simp_all
 cases p with
 |cons w v=>
  cases v
  cases w with
  |list x o=>exact⟨_,_,ns,rfl,rfl,x,Zpr ns _ o,g⟩
def Zmw(l:OpenLaw)(args:List WData):l.row.toRowW.claim.post args (.bool true) args=true:=
 postW_of
  rfl
  (w_eq_bool (w_res rfl) w_lit) rfl
def Zgg{l:OpenLaw}{n}{q}{loose}{XP}{YP}{d}(T:l.most=some n)(H:d.params.defaults=[])
  (call:∀w s₀ g z B x o A cd p a vs ns,
   Ground q loose [] XP w s₀ z B g.heap->YP w g.heap->
   g.heap.get? x=some o->o.data=.func (docDef d.name d.params d.body d.scope A cd p)->g.heap.CodeRec cd d.name->z d.name=some (.ref x)->
   g.heap.get? a=some {cls:=.type "list",data:=.seq vs.toArray}->IntsAre vs ns->ns.length<=n->g.gens=#[]->
   codeAny (model l.prog w) callerA (.call (.ref x) ⟨[.ref a],[]⟩) (λr y=>r=.ok (.ret<|.bool true)/\OldK g.heap y.heap/\y.os=g.os/\AllBare y.gens) g) :
  WalkO q loose XP YP l.row.toRowW d [] (λf vs=>PySem.call f vs):=by
 intro w s₀ g z B G Y x o A cd p dV kV Q hd J M E hg args vals as s L N C hlo;obtain rfl:=Dflts.none M H;obtain rfl:=Dflts.noKw M;obtain⟨a,vs,ns,rfl,rfl,u,h,v⟩:=Zdi T s C;refine enter_call (Vm (call w s₀ g z B x o A cd p a vs ns G Y Q (fd_plain hd) J E u h v hg) λr y hq=>?_);obtain⟨rfl,h2,h3,h4⟩:=hq;exact⟨.inl ⟨.bool true,.bool true,[],rfl,λ_=>rfl,.bool true,Zmw l _,λ_=>⟨List.Pairwise.nil,λ_ U=>(nomatch U)⟩⟩,h2,h3,h4⟩
end Att
namespace L2
open PySem PySem.Spec PyProof.Rows
theorem Aj:∀{vs}{ns:ZW},IntsAre vs ns->Vals (ns.map V.int) vs
 |_,_,.nil=>.nil
 |_,_,.cons n t h=>.cons ⟨t,rfl⟩ (Aj h)
def FH(H:Hp):Prop:=∀b,H b=none\/∃o xs,H b=some (.frz o<|.lst xs)
def Zny{K B U CX k fa a fd x sp f vs ns}(KX:K.In f.heap)(G:f.heap.Ns mainGlobals B)(g:f.heap.Ns builtinsNs U)(hbb:∀x:Str,x≠"__name__"->U x=bootBuiltins x)(J:f.heap.NoLimit)(hg:f.gens=#[])(M:f.heap.get? a=some {cls:=.type "list",data:=.seq vs.toArray})(hi:IntsAre vs ns)(hl:ns.length<=sizeLine)(hr:Xv k callerA)(F:∀base,K.In base->base.Ns mainGlobals B->KC P w K B base CX k fa fd [x] sp)(y:∀s u,BindsTo s fd ⟨[u],[]⟩ [(x,u)])(Y:∀H,FH H->SqL K H a (ns.map V.int)->sp [.ref a] H (λv _=>v=.bl true) λ_ _ _=>False)(hCX:∀H e l,CX [] H f (λ_ _ _=>False) e l->False) :
  codeAny (model P w) callerA (.call (.ref fa) ⟨[.ref a],[]⟩) (λr l=>r=.ok (.ret<|.bool true)/\OldK f.heap l.heap/\l.os=f.os/\AllBare l.gens) f:=by
 have rv:=Aj hi
 have core:∀H,FH H->SqL K H a (ns.map V.int)->HOk P w H f.heap->(∀b,H b≠none->b=a)->(H a≠none->K.lookup a=none)->
   codeAny (model P w) callerA (.call (.ref fa) ⟨[.ref a],[]⟩) (λr l=>r=.ok (.ret<|.bool true)/\OldK f.heap l.heap/\l.os=f.os/\AllBare l.gens) f:=by
  intro H hO hS E hA hK;have base_of:∀{b:Addr} {o:Obj},f.heap.get? b=some o->H b=none->(Ni f.heap H).get? b=some o:=λe n=>Zf1 e n
  have T:∀{b:Addr} {o:Obj} {N:Array DictEntry} {Q:Nat},f.heap.get? b=some o->o.data=.dict N Q->H b=none:=λ{b o N Q} e d=>by
   cases q:H b with
   |none=>rfl
   |some u=>
    have e':=hA b (by rw[q];simp);subst e';rw[M]at e;cases e;cases d
  have p:∀{b:Addr} {m:ZY},f.heap.Ns b m->(Ni f.heap H).Ns b m:=λ{b m} ⟨o,N,Q,e,d,r⟩=>⟨o,N,Q,base_of e (T e d),d,r⟩
  have L:=λb o e=>base_of (KX b o e) (by
   cases q:H b with
   |none=>rfl
   |some u=>
    have e':=hA b (by rw[q];simp);subst e';rw[hK (by rw[q];simp)]at e;cases e)
  have hM:Mod K B (Ni f.heap H):=⟨L,p G,⟨U,p g,hbb⟩,let ⟨mc,h1,h2⟩:=J;⟨mc,p h1,h2⟩⟩;have e0:NJ P w K B (Ni f.heap H) callerA [] f H:=⟨rfl,hM,λb o e=>Zoi e,Vc (Zgf _ _),trivial,λb g=>absurd (show b∈([]:List Addr)from g) (by simp),E,.of_eq hg⟩
  refine Vm ((F _ L<|p G).run callerA [] f H ⟨[.ref a],[]⟩ [.ref a] [.ref a] _ _ hr e0 (y f<|.ref a) (.cons rfl .nil) (Y H hO hS)) λr l h=>?_;cases r with
  |error e=>exact(hCX H e l h).elim
  |ok fl=>
   cases fl with
   |ret u=>
    obtain⟨v,H',os,bare,un,C,r',q⟩:=h;subst q;obtain rfl:=r';refine⟨rfl,OldK.of_keep λb o e=>?_,os,bare⟩;cases q:H b with
    |none=>exact un.keep b o e q (by intro z;exact absurd (show b∈([]:List Addr)from z) (by simp)) (by simp)
    |some u=>
     rcases hO b with z|⟨ob,xs,z⟩
     ·rw[q]at z;cases z
     ·have z2:=un.frzs b ob _ z;obtain⟨e1,_⟩:=E b _ z;obtain⟨e2,_⟩:=C b _ z2;rw[e]at e1;cases e1;exact e2
   |_=>exact False.elim h
 cases hk:K.lookup a with
 |some o=>
  have e:=KX a o hk;rw[M]at e;cases e
  refine core (λ_=>none) (λ_=>.inl rfl) (.inr ⟨_,vs.toArray,_,hk,rfl,rfl,rfl,by rw[Ql,hi.length];exact hl,by simpa using rv⟩) (λb u z=>by have A:=z;cases A) (λb z=>absurd rfl z) λz=>absurd rfl z
 |none=>
  refine core (λb=>if b=a then some (.frz {cls:=.type "list",data:=.seq vs.toArray} (.lst<|ns.map V.int))else none) (λb=>?_) (.inl<|.inr ⟨{cls:=.type "list",data:=.seq vs.toArray},WH rfl⟩) (λb u z=>?_) (λb z=>?_) λ_=>hk
  ·by_cases g:b=a
   ·exact .inr ⟨_,_,WH g⟩
   ·exact .inl (WG g)
  ·by_cases g:b=a
   ·have A:=(WH g).symm.trans z;cases A
    subst g;exact⟨M,by rw[W6];exact hl,vs,_,rv,M⟩
   ·have A:=(WG g).symm.trans z;cases A
  ·by_cases g:b=a
   ·exact g
   ·exact absurd (WG g) z
def Zm7{l:PySem.W.OpenLaw}{n k}{q}{loose}{XP}{YP}{d}{K:Params->ZU}{CX:World->CXT}{sp:World->Sp}{x}(hn:l.most=some n)(J:n<=sizeLine)(M:d.params.defaults=[])(hr:Xv k callerA)(hY:∀w h,YP w h->(K w.params).In h)
  (F:∀w y B h,(K w.params).In h->h.Ns mainGlobals y->y d.name=some (.ref B)->
   ∃Q,(∀s u,BindsTo s Q ⟨[u],[]⟩ [(x,u)])/\
    ∀base,(K w.params).In base->base.Ns mainGlobals y->KC l.prog w (K w.params) y base (CX w) k B Q [x] (sp w))
  (E:∀w H a (ns:ZW),ns.length<=n->FH H->SqL (K w.params) H a (ns.map V.int)->sp w [.ref a] H (λv _=>v=.bl true) λ_ _ _=>False)
  (N:∀w H s e C,CX w [] H s (λ_ _ _=>False) e C->False) :
  PySem.W.WalkO q loose XP YP l.row.toRowW d [] (λf vs=>PySem.call f vs):=by
 refine Att.Zgg hn M λw U z y mb B o pm cd doc a vs ns G Y ho hd hcd L A r p hg=>?_;have KX:=hY w _ Y;obtain⟨Q,hb,hF⟩:=F w y B _ KX G.T.g L;exact Zny KX G.T.g G.T.b G.T.builtins G.T.nolimit hg A r (WK p J) hr hF hb (λH hO hS=>E w H a ns p hO hS) λH e C=>N w H z e C
def Zkp{l:PySem.W.OpenLaw}{n k}{q}{loose}{XP}{YP}{d}{K:Params->ZU}{CX}{sp:ZU->Sp}{x}(E:l.most=some n)(r:n<=sizeLine)(y:d.params.defaults=[])(C:Xv k callerA)(G:∀w h,YP w h->(K w.params).In h)
  (F:∀w g B h,(K w.params).In h->h.Ns mainGlobals g->g d.name=some (.ref B)->
   ∃A,(∀s u,BindsTo s A ⟨[u],[]⟩ [(x,u)])/\
    ∀base,(K w.params).In base->base.Ns mainGlobals g->KC l.prog w (K w.params) g base CX k B A [x] (sp<|K w.params))
  (p:∀K H a (ns:ZW),ns.length<=n->FH H->SqL K H a (ns.map V.int)->sp K [.ref a] H (λv _=>v=.bl true) λ_ _ _=>False)
  (z:∀H s e o,CX [] H s (λ_ _ _=>False) e o->False) :
  PySem.W.WalkO q loose XP YP l.row.toRowW d [] (λf vs=>PySem.call f vs):=
 Zm7 E r y C G F (λw H a ns M L J=>p (K w.params) H a ns M L J) λ_ H s e o=>z H s e o
noncomputable def inClass(s:Stmt)(j:Nat):Stmt:=match s with
 | .ClassDef _ _ _ body _ _ _ _ _ _ _=>body.getD j (.Pass ⟨0,0,0,0⟩)
 |_=>.Pass ⟨0,0,0,0⟩
noncomputable def P0(s:Stmt):Arguments:=match s with
 | .FunctionDef _ a _ _ _ _ _ _ _ _=>a
 |_=>{posonlyargs:=[],args:=[],vararg:=none,kwonlyargs:=[],kw_defaults:=[],kwarg:=none,defaults:=[]}
noncomputable def XJ(s:Stmt):Yf:=match s with
 | .FunctionDef _ _ b _ _ _ _ _ _ _=>b
 |_=>[]
noncomputable def Xk(s:Stmt):Scope:=match s with
 | .FunctionDef _ _ _ _ _ _ f _ _ _=>f
 |_=>{kind:=.function,names:=[],isGenerator:=false,isCoroutine:=false}
noncomputable abbrev CX0:CXT:=λ_ _ _ _ _ _=>False
noncomputable abbrev E0:XK:=λ_ _ _=>False
def XW:Pz CX0 X E0:=λ_ _ _ _ _ _ _ h=>h.elim
structure Fun (K:ZU) (x qual:Str) (st:Stmt) (f:Addr) (fd:FuncData):Prop where
 ex:∃(oc:Value) (od:Yh) (kV doc pm:Value) (an:Yh) (cdv ct:Value) (osl:Array (Yg)),
  fd=PySem.W.fnOf x qual (P0 st) (XJ st) (Xk st) .none kV doc pm an cdv ct/\K.lookup f=some ⟨oc,od,.func fd,osl⟩/\PySem.W.codeIn K cdv qual=true
 kp:PySem.W.keepIn K (.ref f)=true
section
variable {P:Program}{w:World}{K:ZU}{mg:ZY}{base:Heap}
def Fun.ok {st f p N ps k sp} (F:Fun K x qual st f p) (S:Xl N ps (Xk st)) (len:∀vs H Q E,sp vs H Q E->vs.length=ps.length)
  (l:∀g A outer s H vs Q E,Xv k (A.deeper<|envOfC qual (Xk st) s.heap.objs.size f g)->sp vs H Q E->
   ∃t,PSs (XT CX0 P w K mg base N qual (Xk st) f g A outer s H E).nox (XJ st) t/\t {nx:=λ_ H'=>Q .non H',rt:=Q} (start N vs) H):KC P w K mg base CX0 (k+1) f p ps sp:=by
 obtain⟨oc,B,kV,y,z,G,g,C,r,rfl,u,o⟩:=F.ex;refine Cr u o S len λA outer s H vs Q E v n=>?_;obtain⟨t,h,q⟩:=l g A outer s H vs Q E v n;exact⟨t,h.nox,q⟩
def Fun.binds {st f p ps} (F:Fun K x qual st f p)
  (h:∀kV g n o l ct us,us.length=ps.length->bindArgs (PySem.W.fnOf x qual (P0 st) (XJ st) (Xk st) .none kV g n o l ct) ⟨us,[]⟩=pure (ps.zip us)):Binds K p ps []:=by
 obtain⟨oc,u,kV,g,n,o,l,ct,r,rfl,v,s⟩:=F.ex;exact .all (h kV g n o l ct)
def Fp{st f oc od p n kV h o g ct}(l:K.lookup f=some ⟨oc,od,.func (PySem.W.fnOf x qual (P0 st) (XJ st) (Xk st) .none kV h o p g ct),n⟩)(c:PySem.W.codeIn K g qual=true)(k:PySem.W.keepIn K (.ref f)=true):Fun K x qual st f (PySem.W.fnOf x qual (P0 st) (XJ st) (Xk st) .none kV h o p g ct):=⟨⟨oc,od,kV,h,o,p,g,ct,n,rfl,l,c⟩,k⟩
end
def Pb{k}(f:Xv k A):A.units+1<cLine:=JQ (Nat.add_le_add_left (by simp) _) f.units
def Zoa(h:n<=1000):n<sizeLine:=JQ h (by decide)
section
variable {X:Cx}
def pv(i:Nat){x pos}(h:autoParam (X.N[i]?=some x) au_0)(g:autoParam (Vis X.env.scope x) au_4)(hd:autoParam ((x==("__debug__" : Str))=false) au_1)(f:autoParam ((x==("__classdict__" : Str))=false) au_1):PE X (.Name x pos) (K7 i):=Zay h g hd f
end
def XI{A B:Prop}(h:B):if false=true then A else B:=by grind
def Ka{A B:Prop}(h:A):if true=true then A else B:=by grind
def Xm{c A B:Prop}[Decidable c](g:c->A)(f:¬c->B):if c then A else B:=by grind
def Np{c A B:Prop}[Decidable c](f:c)(h:B):if (!decide c)=true then A else B:=by grind
def Same(H H':Hp):Prop:=∀b o,H b=some o->H' b=some o
def Same.refl (H:Hp):Same H H:=λ_ _ h=>h
def Same.trans (a:Same H g) (b:Same g f):Same H f:=λc o h=>b c o (a c o h)
def Same.free (e:Same H H') {l} (h:H' l=Option.none):H l=Option.none:=by
 cases q:H l with
 |none=>rfl
 |some o=>
  rw[e l o q]at h;lia
def Same.seq {K H H'}{a xs} (e:Same H H') (h:SqL K H a xs):SqL K H' a xs:=by
 rcases h with(h|⟨o,h⟩)|h
 ·exact .inl (.inl<|e _ _ h)
 ·exact .inl (.inr ⟨o,e _ _ h⟩)
 ·exact .inr h
end L2
set_option maxHeartbeats 4000000
namespace L2
open PySem PySem.Spec PyProof.Rows
section
variable {κ:Type} [DecidableEq κ]
noncomputable def X0(f:List (κ×V))(k:κ):Option V:=(f.find? λg=>decide (g.1=k)).map (·.2)
noncomputable def putK(f:List (κ×V))(k:κ)(v:V):List (κ×V):=
 if (f.any λg=>decide (g.1=k))=true then f.map (λg=>if g.1=k then(g.1,v)else g)else f++[(k,v)]
def PM{p:κ×V}{r:List (κ×V)}{k:κ}(e:p.1=k):X0 (p::r) k=some p.2:=by simp[X0,V7,e]
def P9{p:κ×V}{r:List (κ×V)}{k:κ}(e:¬p.1=k):X0 (p::r) k=X0 r k:=by simp[X0,V7,e]
theorem BP(k:κ):∀f:List (κ×V),(f.any λg=>decide (g.1=k))=(X0 f k).isSome
 |[]=>rfl
 |p::r=>by
  rw[VQ];by_cases e:p.1=k
  ·simp only[PM e,W9 e,Bool.true_or,Option.isSome_some]
  ·rw[P9 e,Qq e,Bool.false_or];exact BP k r
theorem OS(k j:κ)(y:V):∀f:List (κ×V),X0 (f.map λg=>if g.1=k then(g.1,y)else g) j=(X0 f j).map λx=>if j=k then y else x
 |[]=>rfl
 |p::r=>by
  have l:=OS k j y r;rw[Qe];by_cases h:p.1=k
  ·rw[WH h];by_cases e:p.1=j
   ·rw[PM (p:=(p.1,y)) e,PM e,J7,WH (e.symm.trans h)]
   ·rw[P9 (p:=(p.1,y)) e,P9 e,l]
  ·rw[WG h];by_cases e:p.1=j
   ·rw[PM (p:=p) e,PM e,J7,WG (λz=>h (e.trans z))]
   ·rw[P9 (p:=p) e,P9 e,l]
theorem Lj(k j:κ)(y:V):∀f:List (κ×V),X0 f k=none->X0 (f++[(k,y)]) j=if j=k then some y else X0 f j
 |[],_=>by
  by_cases e:k=j
  ·rw[WH e.symm];exact PM (p:=(k,y)) e
  ·rw[WG (λz=>e z.symm)];exact P9 (p:=(k,y)) e
 |p::r,g=>by
  rw[QS];have h:¬p.1=k:=λz=>by rw[PM z]at g;cases g
  rw[P9 h]at g;have l:=Lj k j y r g;by_cases e:p.1=j
  ·rw[PM e,PM e,WG (λz=>h (e.trans z))]
  ·rw[P9 e,P9 e,l]
def BW(f:List (κ×V))(k j:κ)(y:V):X0 (putK f k y) j=if j=k then some y else X0 f j:=by
 unfold putK;by_cases a:(f.any λg=>decide (g.1=k))=true
 ·rw[WH a,OS];rw[BP]at a;by_cases e:j=k
  ·obtain⟨x,hx⟩:=Option.isSome_iff_exists.mp a;rw[WH e,e,hx,J7,WH rfl]
  ·rw[WG e];cases X0 f j with
   |none=>rfl
   |some x=>rw[J7,WG e]
 ·rw[WG a];refine Lj k j y f ?_;rw[BP]at a;cases q:X0 f k with
  |none=>rfl
  |some x=>rw[q]at a;exact(a rfl).elim
def Aa(f:List (κ×V))(k:κ)(v:V):(putK f k v).length<=f.length+1:=by
 unfold putK;split
 ·rw[W6];omega
 ·rw[WJ,WV,List.length_nil];omega
def Zlq{f:List (κ×V)}{k:κ}(v:V)(h:X0 f k=none):putK f k v=f++[(k,v)]:=by
 unfold putK;rw[BP,h];exact WG (by decide)
def RelO.isSome_eq {o:Option V}{u:Yg} (r:RelO o u):o.isSome=u.isSome:=by
 cases o with
 |none=>cases u with
  |none=>rfl
  |some _=>exact(show False from r).elim
 |some _=>cases u with
  |none=>exact(show False from r).elim
  |some _=>rfl
def KV.val {f:List (κ×V)}{vs:List (κ×Value)} (r:KV f vs) (k:κ):RelO (X0 f k) (valueAt vs k):=by
 unfold KV at r
 induction r with
 |nil=>exact True.intro
 | @cons p q u g h t o=>
  obtain⟨n,s⟩:=h;by_cases e:p.1=k
  ·have l:q.1=k:=n.symm.trans e;have b:valueAt (q::g) k=some q.2:=by simp[valueAt,V7,l]
   rw[PM e,b];exact s
  ·have l:¬q.1=k:=λz=>e (n.trans z);have b:valueAt (q::g) k=valueAt g k:=by simp[valueAt,V7,l]
   rw[P9 e,b];exact o
def KV.any {f:List (κ×V)}{vs:List (κ×Value)} (r:KV f vs) (k:κ):(f.any λg=>decide (g.1=k))=vs.any λg=>decide (g.1=k):=by
 unfold KV at r
 induction r with
 |nil=>rfl
 |cons h t l=>rw[VQ,VQ,l,h.1]
def KV.repl {g:List (κ×V)}{vs:List (κ×Value)} (r:KV g vs) (k:κ) {y:V}{u:Value} (n:RelV y u) :
  KV (g.map λf=>if f.1=k then(f.1,y)else f) (vs.map λf=>if f.1=k then(f.1,u)else f):=by
 unfold KV at r ⊢
 induction r with
 |nil=>exact .nil
 | @cons p q w v h t o=>
  rw[Qe,Qe];refine .cons ?_ o;obtain⟨l,s⟩:=h;by_cases e:p.1=k
  ·rw[WH e,WH (l.symm.trans e)];exact⟨l,n⟩
  ·rw[WG e,WG (λz=>e (l.trans z))];exact⟨l,s⟩
def KV.put {f:List (κ×V)}{vs:List (κ×Value)} (r:KV f vs) (k:κ) {y:V}{u:Value} (g:RelV y u):KV (putK f k y) (stored vs k u):=by
 unfold putK stored;rw[r.any k];by_cases e:(vs.any λh=>decide (h.1=k))=true
 ·rw[WH e,WH e];exact r.repl k g
 ·rw[WG e,WG e];exact Paired.snoc r ⟨rfl,g⟩
def KV.length {f:List (κ×V)}{vs:List (κ×Value)} (r:KV f vs):f.length=vs.length:=Paired.length r
end
def Fb{P:Program}{w:World}{k:Key}{u:Value}(r:RelV (kV k) u):(P1 P w).is k u=true:=by
 cases k with
 |inl i=>obtain⟨t,e⟩:=(show ∃t,u=Value.int i t from r);subst e;exact Zid P w i t
 |inr x=>obtain⟨t,e⟩:=(show ∃t,u=Value.str x t from r);subst e;exact Zdc P w x t
theorem M5{P:Program}{w:World}:∀{f:List Key}{us:Yc},Vals (f.map kV) us->ItemsAre (P1 P w) f us
 |[],_,r=>by rw[List.map_nil]at r;cases r;exact .nil
 |k::f,_,r=>by
  rw[Qe]at r;cases r with
  |cons h t=>exact .cons (Fb h) (M5 t)
abbrev KT(H:Hp):List (List Key×V)->List (List Key×Addr×Value)->Prop:=Paired λp q=>p.1=q.1/\H q.2.1=some (.tup<|p.1.map kV)/\RelV p.2 q.2.2
def KT.val {H:Hp}{f:List (List Key×V)}{xs:List (List Key×Addr×Value)} (r:KT H f xs) (k:List Key):RelO (X0 f k) ((atKey xs k).map (·.2)):=by
 induction r with
 |nil=>exact True.intro
 | @cons p q u g h t o=>
  obtain⟨n,_,s⟩:=h;by_cases e:p.1=k
  ·have l:q.1=k:=n.symm.trans e;have b:atKey (q::g) k=some q.2:=by simp[atKey,V7,l]
   rw[PM e,b];exact s
  ·have l:¬q.1=k:=λz=>e (n.trans z);have b:atKey (q::g) k=atKey g k:=by simp[atKey,V7,l]
   rw[P9 e,b];exact o
def KT.repl {H:Hp}{f:List (List Key×V)}{xs:List (List Key×Addr×Value)} (r:KT H f xs) (k:List Key) {y:V}{u:Value} (o:RelV y u) :
  KT H (f.map λl=>if l.1=k then(l.1,y)else l) (xs.map<|putAt k u):=by
 induction r with
 |nil=>exact .nil
 | @cons p q x w h t s=>
  rw[Qe,Qe];refine .cons ?_ s;obtain⟨g,n,v⟩:=h;unfold putAt;by_cases e:p.1=k
  ·rw[WH e,WH (g.symm.trans e)];exact⟨g,n,o⟩
  ·rw[WG e,WG (λz=>e (g.trans z))];exact⟨g,n,v⟩
def KT.put {H:Hp}{f:List (List Key×V)}{xs:List (List Key×Addr×Value)} (r:KT H f xs) (k:List Key) {b:Addr}{y:V}{u:Value} (l:H b=some (.tup<|k.map kV)) (g:RelV y u) :
  KT H (putK f k y) (storedH xs k b u):=by
 have e:(f.any λh=>decide (h.1=k))=(atKey xs k).isSome:=by
  rw[BP,(r.val k).isSome_eq,Option.isSome_map]
 unfold putK storedH;rw[e];by_cases q:(atKey xs k).isSome=true
 ·rw[WH q,WH q];exact r.repl k g
 ·rw[WG q,WG q];exact Paired.snoc r ⟨rfl,l,g⟩
def KT.keeps {H H':Hp}{f:List (List Key×V)}{xs:List (List Key×Addr×Value)} (r:KT H f xs) (g:∀b ys,H b=some (.tup ys)->H' b=some (.tup ys)):KT H' f xs:=
 Paired.mapP r λ_ _ z=>⟨z.1,g _ _ z.2.1,z.2.2⟩
section
variable {P:Program}{w:World}{H:Hp}{h:Heap}{a:Addr}
def MG{u:HO}(ok:HOk P w H h)(e:Rd H a u):ObjOk P w H h a u:=e.ok ok
def Am{f:List (Key×V)}(ok:HOk P w H h)(e:Rd H a (.dK f)):f.length<=sizeLine/\(a==sysModules)=false/\∃vs,KV f vs/\h.DictOf (P1 P w) a vs:=
 show ObjOk P w H h a (.dK f)from MG ok e
def Zpv{f:List (Key×V)}(ok:HOk P w H h)(e:H a=some (.dK f)):f.length<=sizeLine/\(a==sysModules)=false/\∃vs,KV f vs/\h.DictOf (P1 P w) a vs:=Am ok (.inl e)
def SZ{f:List Key}(ok:HOk P w H h)(e:H a=some (.tup<|f.map kV)):(tupleKind<|P1 P w).is h f a:=by
 obtain⟨_,g,r,o,s,p,n,l⟩:=(show ObjOk P w H h a (.tup<|f.map kV)from ok a _ e)
 exact⟨o,g.toArray,n,s,p,l,by simpa using M5 r⟩
def Aq{f:List (List Key×V)}(ok:HOk P w H h)(e:Rd H a (.dT f)):f.length<=sizeLine/\(a==sysModules)=false/\
  ∃xs,KT H f xs/\h.DictOfH (tupleKind<|P1 P w) a xs:=by
 obtain⟨z,y,xs,r,o,B,C,A,v,u,s,n⟩:=(show ObjOk P w H h a (.dT f)from MG ok e)
 refine⟨z,y,xs,r,o,B,C,A,v,u,s,λx hx=>?_,n⟩
 have all:∀{l:List (List Key×V)} {m:List (List Key×Addr×Value)},KT H l m->∀x∈m,(tupleKind<|P1 P w).is h x.1 x.2.1:=by
  intro l m q
  induction q with
  |nil=>intro x hx;exact nomatch hx
  | @cons p q G E hq t g=>
   intro x hx;rcases WU.mp hx with e|hx
   ·subst e;exact SZ ok (by rw[←hq.1];exact hq.2.1)
   ·exact g x hx
 exact all r x hx
def FM{f:List (List Key×V)}(ok:HOk P w H h)(e:H a=some (.dT f)):f.length<=sizeLine/\(a==sysModules)=false/\
  ∃xs,KT H f xs/\h.DictOfH (tupleKind<|P1 P w) a xs:=Aq ok (.inl e)
end
def DGet(H:Hp)(a:Addr)(y:V)(r:Option V):Prop:=
 (∃f k,Rd H a (.dK f)/\y=kV k/\r=X0 f k)\/∃f k b,Rd H a (.dT f)/\y=.ref b/\H b=some (.tup<|k.map kV)/\r=X0 f k
def DPut(H:Hp)(a:Addr)(y v:V)(H':Hp):Prop:=
 (∃f k,H a=some (.dK f)/\y=kV k/\f.length<sizeLine/\H'=upd H a (.dK<|putK f k v))\/
 ∃f k b,H a=some (.dT f)/\y=.ref b/\H b=some (.tup<|k.map kV)/\f.length<sizeLine/\H'=upd H a (.dT<|putK f k v)
def DGet.k {H:Hp}{a:Addr}{f:List (Key×V)}{k:Key} (e:H a=some (.dK f)):DGet H a (kV k) (X0 f k):=.inl ⟨f,k,.inl e,rfl,rfl⟩
def DGet.t {H:Hp}{a b:Addr}{f:List (List Key×V)}{k:List Key} (e:H a=some (.dT f)) (g:H b=some (.tup<|k.map kV)):DGet H a (.ref b) (X0 f k):=.inr ⟨f,k,b,.inl e,rfl,g,rfl⟩
def DPut.k {H:Hp}{a:Addr}{f:List (Key×V)}{k:Key}{v:V} (e:H a=some (.dK f)) (g:f.length<sizeLine):DPut H a (kV k) v (upd H a<|.dK<|putK f k v):=.inl ⟨f,k,e,rfl,g,rfl⟩
def DPut.t {H:Hp}{a b:Addr}{f:List (List Key×V)}{k:List Key}{v:V} (e:H a=some (.dT f)) (h:H b=some (.tup<|k.map kV)) (g:f.length<sizeLine) :
  DPut H a (.ref b) v (upd H a<|.dT<|putK f k v):=.inr ⟨f,k,b,e,rfl,h,g,rfl⟩
section
variable {X:Cx}{pins:ZX}{σ:St}{H:Hp}{s:Shared}{a:Addr}{y v:V}{u r:Value}{o:Option V}{A:Around}{E:ZZ}
def Inv.big (I:Inv X pins σ H s):sysModules<s.heap.objs.size:=by
 have h:mainGlobals<s.heap.objs.size:=(I.mod.glob.keeps I.bk).lt;exact VG (by decide) h
def Zmq{Q:ZZ}(M:A.units+1<cLine)(I:Inv X pins σ H s)(g:DGet H a y (some v))(J:RelV y u)(h:∀n G,Inv X pins σ H G->RelV v n->Q n G) :
  wpAny (model X.prog X.w) A (getItem (.ref a) u) Q E s:=by
 rcases g with⟨x,k,e,ey,l⟩|⟨x,k,b,e,ey,T,l⟩
 ·subst ey;obtain⟨z,hd,L,rel,C⟩:=Am I.hok e;obtain⟨n,hw,f⟩:=RelO.some_of (v:=v) (o:=valueAt L k) (by rw[l];exact rel.val k);exact wpAny_getItem_of (Fb J) C.mapOf hw (h n _ (I.tok _) f)
 ·subst ey;cases (show u=Value.ref b from J)
  obtain⟨z,hd,xs,rel,C⟩:=Aq I.hok e;obtain⟨n,hw,f⟩:=RelO.some_of (v:=v) (o:=(atKey xs k).map (·.2)) (by rw[l];exact rel.val k);obtain⟨p,N,B⟩:=Option.map_eq_some_iff.mp hw;refine wpAny_getItem_heap (tupleKind_room_in1 M) (SZ I.hok T) C N ?_;rw[B];exact h n _ (I.tok _) f
def Zhh{Q:ZZ}(B:A.units+1<cLine)(I:Inv X pins σ H s)(g:DGet H a y o)(x:RelV y u)(h:∀p,Inv X pins σ H p->Q (.bool (!o.isSome)) p) :
  wpAny (model X.prog X.w) A (compareOp .NotIn u<|.ref a) Q E s:=by
 rcases g with⟨f,k,e,ey,l⟩|⟨f,k,b,e,ey,C,l⟩
 ·subst ey;obtain⟨z,hd,G,rel,n⟩:=Am I.hok e;refine wpAny_notIn_of (Fb x) hd n.mapOf ?_;rw[←(rel.val k).isSome_eq,←l];exact h _ (I.tok _)
 ·subst ey;cases (show u=Value.ref b from x)
  obtain⟨z,hd,xs,rel,n⟩:=Aq I.hok e;refine wpAny_notIn_heap (tupleKind_room_in1 B) (SZ I.hok C) hd n ?_;have q:=(rel.val k).isSome_eq;rw[Option.isSome_map]at q;rw[←q,←l];exact h _ (I.tok _)
def FI{f:Heap}{t':Nat}{ob:HO}(I:Inv X pins σ H s)(g:Mut (H a))(hs:Heap.SameBut a s.heap f)(h:∃q,f.get? a=some q)(new:ObjOk X.prog X.w (upd H a ob) f a ob) :
  Inv X pins σ (upd H a ob) {s with heap:=f,toks:=t'}:=
 I.write (x:=a) (e:=a) g (.inl rfl) (λb q l z=>(hs.2 b l).trans z) h new
def Zdo{P:Program}{w:World}{H':Hp}{g:Heap}{f:List (Key×V)}{vs:List (Key×Value)}(z:f.length<=sizeLine)(hd:(a==sysModules)=false)(rel:KV f vs)(dd:g.DictOf (P1 P w) a vs) :
  ObjOk P w H' g a (.dK f):=⟨z,hd,vs,rel,dd⟩
def Zi8{H':Hp}{Q:Unit->Shared->Prop}(Y:A.units+1<cLine)(I:Inv X pins σ H s)(g:DPut H a y v H')(L:RelV y u)(rv:RelV v r)(h:∀J,Inv X pins σ H' J->Q () J) :
  wpAny (model X.prog X.w) A (setItem (.ref a) u r) Q E s:=by
 rcases g with⟨f,k,e,ey,l,C⟩|⟨f,k,b,e,ey,T,l,C⟩
 ·subst ey C;obtain⟨z,hd,U,rel,G⟩:=Zpv I.hok e;have p:U.length<=sizeLine:=by rw[←rel.length];exact z
  have B:(putK f k v).length<=sizeLine:=by have:=Aa f k v;omega
  refine wpAny_setItem_pairs (hsz:=p) (Fb L) G λM n x=>h _ ?_;have he:∃q,M.get? a=some q:=let ⟨q,_,_,hq,_⟩:=n;⟨q,hq⟩;exact FI I (by rw[e];exact True.intro) x he (Zdo B hd (rel.put k rv) n)
 ·subst ey C;cases (show u=Value.ref b from L)
  obtain⟨z,hd,xs,rel,G⟩:=FM I.hok e;have p:xs.length<=sizeLine:=by rw[←Paired.length rel];exact z
  have B:(putK f k v).length<=sizeLine:=by have:=Aa f k v;omega
  refine wpAny_setItem_heap (hsz:=p) (tupleKind_room_in1 Y) (SZ I.hok T) G λM n x=>h _ ?_;obtain⟨q,es,ep,hq,h2,h3,h4,_,h5⟩:=n;refine FI I (by rw[e];exact True.intro) x ⟨q,hq⟩ ⟨B,hd,_,(rel.put k T rv).keeps λc ys N=>?_,q,es,ep,hq,h2,h3,h4,h5⟩;rw[Xs (DL N e (λz=>nomatch z))];exact N
end
def MF(i:Expr):Prop:=∀f g,subscripted i false f g=operate [f,g] (getItem f g)
def Zb0{prog:Program}{w:World}{A:Around}{E:ZZ}{s:Shared}{env:Env}{value slice:Expr}{pos:Pos}{T id:String}{Q:ZZ}(z:typeLookup (.type T) "__getitem__"=pure (some<|.builtin id))(hs:MF slice)(h:wpAny (model prog w) A (eval value env) (λo n=>wpAny (model prog w) A (eval slice env) (λi f=>f.TypeIs o T/\wpAny (model prog w) A (getItem o i) Q E f) E n) E s) :
  wpAny (model prog w) A (eval (.Subscript value slice pos) env) Q E s:=by
 refine Subscript_ (Qt h (λo n v=>Qt v (λi f g=>?_) λ_ _ x=>x) λ_ _ x=>x);obtain⟨y,g⟩:=g;unfold subscriptTail;refine W7 ?_;rw[getitemInPython_of_ne y.not_modules];refine W7 (wpAny_specialOf y z ?_)
 have p:wpAny (model prog w) A (subscripted slice false o i) (λr l=>wpAny (model prog w) A (letTemporaryGo value o r >>= λ_=>pure r) Q E l) E f:=by
  rw[hs o i];exact wpAny_operating (Qt g (λr l u=>W7 (wpAny_letTemporaryGo<|WE u)) λ_ _ x=>x)
 first
  |exact WE (W7 p)
  |exact W7 (WE<|W7 p)
  |exact W7 p
def Zqj{X:Cx}{pins:ZX}{l:St}{H:Hp}{s:Shared}{a:Addr}{y:V}{o:Option V}(I:Inv X pins l H s)(g:DGet H a y o):s.TypeIs (.ref a) "dict":=by
 rcases g with⟨f,k,e,_,_⟩|⟨f,k,b,e,_,_,_⟩
 ·obtain⟨_,_,n,_,h⟩:=Am I.hok e;exact h.typeIs
 ·obtain⟨_,_,xs,_,h⟩:=Aq I.hok e;exact h.typeIs
noncomputable def RA(l h:TE):TE:=λf H Q=>l f H λx n=>h f n λy g=>∃a v,x=.ref a/\DGet g a y (some v)/\Q v g
noncomputable def GA(h l:TE):TE:=λf H Q=>h f H λy n=>l f n λx g=>∃a o,x=.ref a/\DGet g a y o/\Q (.bl (!o.isSome)) g
noncomputable def LM(n h l:TE):TS:=λD f H=>l f H λv r=>n f r λx p=>h f p λy o=>∃a g,x=.ref a/\DPut o a y v g/\D.nx f g
section
variable {X:Cx}{o i e value:Expr}{pos pos' tpos:Pos}{td ty tv:TE}
def BM(C:X.A.units+1<cLine)(E:PE X o td)(G:PE X i ty)(hs:MF i):PE X (.Subscript o i pos) (RA td ty):=by
 intro pins s l H Q I h;refine Zb0 PySem.F.slot_dict_getitem.lookup hs (thn (E pins s l H _ I h) ?_);rintro u p ⟨x,N,L,w,B⟩;refine thn (G pins p l N _ L B) ?_;rintro iv Y ⟨y,M,n,r,a,v,ex,g,z⟩;subst ex;obtain rfl:u=Value.ref a:=w;exact⟨Zqj n g,Zmq C n g r λT U J f=>⟨v,M,J,f,z⟩⟩
def Zdv(z:X.A.units+1<cLine)(C:PE X i ty)(B:PE X o td):PC X .NotIn i o (GA ty td):=by
 intro pins s f H Q I h;refine thn (C pins s f H _ I h) ?_;rintro U l ⟨y,M,J,n,v⟩;refine thn (B pins l f M _ J v) ?_;rintro u T ⟨x,L,G,p,a,w,ex,g,r⟩;subst ex;obtain rfl:u=Value.ref a:=p;exact Zhh z G g n λN E=>⟨.bl (!w.isSome),L,E,rfl,r⟩
def AW(J:X.A.units+1<cLine)(L:PE X o td)(M:PE X i ty)(G:PE X value tv)(hs:swapsWith value (some<|.Subscript o i pos') pos.line X.env=pure false) :
  PS X (.Assign [.Subscript o i pos'] value pos) (LM td ty tv):=by
 intro pins s f H D I h;refine wpAny_Assign_Subscript (thn (G pins s f H _ I h) ?_) hs;rintro r n ⟨v,H1,U,z,E⟩;refine thn (L pins n f H1 _ U E) ?_;rintro u l ⟨x,H2,T,w,C⟩;refine thn (M pins l f H2 _ T C) ?_;rintro iv s3 ⟨y,H3,Q,p,a,Y,ex,g,B⟩;subst ex;obtain rfl:u=Value.ref a:=w;exact Zi8 J Q g p z λs4 N=>⟨f,Y,N,B⟩
end
def Zb9{P:Program}{w:World}{H:Hp}(h:Heap)(f:sysModules<h.objs.size):ObjOk P w H (h.push {cls:=.type "dict",data:=.dict #[]}) h.objs.size (.dK []):=
 ⟨QU _,Vh.mpr (Ne.symm<|Qf f),[],.nil,Heap.DictOf.new h⟩
def R1{P:Program}{w:World}{H:Hp}(h:Heap)(f:sysModules<h.objs.size):ObjOk P w H (h.push {cls:=.type "dict",data:=.dict #[]}) h.objs.size (.dT []):=
 ⟨QU _,Vh.mpr (Ne.symm<|Qf f),[],.nil,_,#[],0,WQ _ rfl,⟨rfl,rfl,rfl⟩,rfl,rfl,Vz⟩
noncomputable def Rm:TE:=λ_ H Q=>∀p,H p=none->Q (.ref p) (upd H p<|.dK [])
noncomputable def HI:TE:=λ_ H Q=>∀p,H p=none->Q (.ref p) (upd H p<|.dT [])
section
variable {X:Cx}{pos:Pos}
def Zmv:PE X (.Dict [] [] pos) Rm:=λpins s f H Q I h=>
 wpAny_Dict_empty ⟨.ref s.heap.objs.size,_,I.laid (a:=s.heap.objs.size) (o:=.dK []) (t':=s.toks) (λ_ _ q=>WD _ q) (WI _) (Zb9 s.heap I.big),rfl,h _ (I.hok.fresh<|WI _)⟩
def Zka:PE X (.Dict [] [] pos) HI:=λpins s f H Q I h=>
 wpAny_Dict_empty ⟨.ref s.heap.objs.size,_,I.laid (a:=s.heap.objs.size) (o:=.dT []) (t':=s.toks) (λ_ _ q=>WD _ q) (WI _) (R1 s.heap I.big),rfl,h _ (I.hok.fresh<|WI _)⟩
end
def LF:List (TE×TE)->St->Hp->(List (V×V)->Hp->Prop)->Prop
 |[],_,H,Q=>Q [] H
 |(h,g)::r,f,H,Q=>h f H λx p=>g f p λy o=>LF r f o λl n=>Q ((x,y)::l) n
abbrev VV:List (V×V)->List (Value×Value)->Prop:=Paired λp q=>RelV p.1 q.1/\RelV p.2 q.2
def PPs(X:Cx)(pos:Pos)(keys:List (Option Expr))(values:Ye)(g:List (TE×TE)):Prop:=
 ∀(pins:ZX) (s:Shared) (f:St) (H:Hp) (Q:List (V×V)->Hp->Prop),Inv X pins f H s->LF g f H Q->
  wpAny (model X.prog X.w) X.A (evalPairs<|pairTrees keys values X.env pos) (λn o=>∃h l,Inv X pins f l o/\VV h n/\Q h l) X.xe s
def Znp{X:Cx}{pos:Pos}:PPs X pos [] [] []:=λpins s f H Q I h=>pairTrees_nil_walk ⟨[],H,I,.nil,h⟩
def Zie{X:Cx}{pos:Pos}{k v:Expr}{o:List (Option Expr)}{vs:Ye}{n l:TE}{f:List (TE×TE)}(L:PE X k n)(G:PE X v l)(J:PPs X pos o vs f) :
  PPs X pos (some k::o) (v::vs) ((n,l)::f):=λpins s g H Q I h=>
 pairTrees_cons_walk (thn (L pins s g H _ I h) λu r ⟨x,H1,T,z,C⟩=>thn (G pins r g H1 _ T C) λw2 p ⟨y,Y,N,w,B⟩=>
  thn (J pins p g Y _ N B) λws s3 ⟨E,U,M,rel,A⟩=>⟨(x,y)::E,U,M,.cons ⟨z,w⟩ rel,A⟩)
end L2
set_option genInjectivity false
set_option genSizeOfSpec false
namespace Own
open PySem PySem.Spec PyProof.Rows L2
structure Def (K:ZU) (mg:ZY) (x:Str) (st:Stmt) (ps:Yd):Prop where
 ex:∃f fd,Fun K x x st f fd/\mg x=some (.ref f)/\Binds K fd ps []
structure Callee (P:Program) (w:World) (K:ZU) (mg:ZY) (base:Heap) (CX:CXT) (k:Nat) (x:Str) (ps:Yd) (sp:Sp):Prop where
 ex:∃f fd,KC P w K mg base CX k f fd ps sp/\mg x=some (.ref f)/\PySem.W.keepIn K (.ref f)=true/\(∃o:Obj,K.lookup f=some o/\o.data=.func fd)/\Binds K fd ps []
section
variable {P:Program}{w:World}{K:ZU}{mg:ZY}{base:Heap}
def Callee.at {st f g k ps sp} (C:Callee P w K mg base CX k x ps sp) (v:mg x=some (.ref f)) (F:Fun K x x st f g) (_:Def K mg x st ps):KC P w K mg base CX k f g ps sp:=by
 obtain⟨z,n,E,l,_,y,_⟩:=C.ex;obtain⟨oc,s,kV,o,r,B,p,A,h,_,u,_⟩:=F.ex
 grind
def Def.ok {st N ps k sp} (D:Def K mg x st ps) (S:Xl N ps (Xk st)) (len:∀vs H Q E,sp vs H Q E->vs.length=ps.length)
  (l:∀f g A outer s H vs Q E,Xv k (A.deeper<|envOfC x (Xk st) s.heap.objs.size f g)->sp vs H Q E->
   ∃t,PSs (XT CX0 P w K mg base N x (Xk st) f g A outer s H E).nox (XJ st) t/\t {nx:=λ_ H'=>Q .non H',rt:=Q} (start N vs) H):Callee P w K mg base CX0 (k+1) x ps sp:=by
 obtain⟨f,u,F,p,r⟩:=D.ex;refine⟨f,u,F.ok S len λg A outer s H vs Q E o h=>l f g A outer s H vs Q E o h,p,F.kp,?_,r⟩;obtain⟨oc,z,kV,v,y,G,g,C,n,_,B,_⟩:=F.ex
 grind
end
section
variable {X:Cx}{CX:CXT}{k:Nat}{ps:Yd}{sp:Sp}{E:XK}{x:Str}{p pos:Pos}{e:Expr}{es:Ye}{t:TA}
def Ak(C:Callee X.prog X.w X.K X.mg X.base CX k x ps sp)(l:Xv k X.A)(hx:Pz CX X E)(v:PA X (e::es) t)(r:autoParam (Gl X x) au_0)(h:autoParam ((x==("__debug__" : Str))=false) au_1)(s:autoParam (starEach (e::es) X.env=(false,eval e X.env)::starEach es X.env) au_0)(g:autoParam ((backTo pos<|starEach es X.env).any (·.1)=false) au_0) :
  PE X (.Call (.Name x p) (e::es) [] pos) (Nm sp [] E t):=by
 obtain⟨f,y,F,n,o,_,u⟩:=C.ex;exact Zm3 F l r n o u .nil hx v h s g
def Zp1:Kn X (.builtin "isinstance") (λxs H Q=>∃x n t b,xs=[x,.ty n]/\KQ X.K H x t/\PySem.W.kitOne X.K t (.type n)=some b/\Q (.bl b) H):=by
 intro pins s w H xs y Q I o h;obtain⟨x,n,t,b,rfl,g,e,q⟩:=h;cases o with
 |cons r u=>
  cases u with
  |cons v f=>
   cases f
   obtain rfl:=v;exact Znb I r g e λl=>⟨.bl b,H,I.tok l,rfl,q⟩
def Zgb:IxR X (λx y H Q=>Bs X.K x y H Q\/SX X.K x y H Q):=ix_list.or Zou
end
noncomputable def GE(t u:TS):TS:=λD h H=>∃J:L2.St->Hp->Prop,t {D with nx:=J} h H/\∀f g,J f g->u D f g
def Fh{st rest t u}(r:PS X st t)(p:PSs X rest u):PSs X (st::rest) (GE t u):=by
 intro pins s n H D I h;obtain⟨J,h,k⟩:=h;refine wpAny_execs_cons (thn (r pins s n H {D with nx:=J} I h) λf o q=>?_)
 cases f with
 |next=>
  obtain⟨g,l,v,q⟩:=q;exact p pins o g l D v (k g l q)
 |_=>exact q
def Zj2(K:ZU)(n:String):PySem.W.kitOne K (.type n) (.type n)=some true:=by
 unfold PySem.W.kitOne;simp
def P7{xs i v}(h:atI xs i=some v):atI (xs.map f) i=some (f v):=by
 unfold atI at h ⊢;cases e:ixN xs.length i with
 |_=>grind
def BU{i v}(f:0<=i)(h:xs[i.toNat]?=some v):atI xs i=some v:=by
 have:=Tu h
 grind
def XU(h:H a=none):Same H (upd H a o):=λb u e=>by rw[Xs (K8 e h)];exact e
def Same.upd (S:Same H H') (h:H a=none):Same H (upd H' a o):=λb u e=>by rw[Xs (K8 e h)];exact S b u e
def Same.new (S:Same H H') (h:H' a=none):Same H (L2.upd H' a o):=Own.Same.upd S (S.free h)
def Zlj(names:List (Str×NameKind))(g:∀x∈names,x.2=.free->∃c,env.cells.lookup x.1=some c):∀f,(∀x c,f.lookup x=some c->env.cells.lookup x=some c)->
  ∃l,(forIn names f (λx A=>if (x.2 == .free)=true then(do let c ←cellOf env x.1;pure (ForInStep.yield ((x.1,c)::A)))else pure (ForInStep.yield A)):Sem (List (Str×Addr)))=pure l/\
   (∀x c,l.lookup x=some c->env.cells.lookup x=some c)/\(∀x,(∃c,f.lookup x=some c)->∃c,l.lookup x=some c)/\∀x∈names,x.2=.free->∃c,l.lookup x.1=some c:=by
 induction names with
 |nil=>
  intro f s;exact⟨f,rfl,s,λ_ h=>h,λx hx=>by cases hx⟩
 |cons y r B=>
  intro f s;have o:=B λx hx=>g x (Qb _ hx);obtain⟨n,k⟩:=y;by_cases w:k=.free
  ·subst w;obtain⟨c,z⟩:=g (n,.free) Qs rfl
   have C:∀x d,List.lookup x ((n,c)::f)=some d->env.cells.lookup x=some d:=λx d e=>by
    rw[QY]at e;by_cases hx:x=n
    ·subst hx;simp at e;subst e;exact z
    ·have:(x==n)=false:=by simpa using hx
     rw[this]at e;exact s x d e
   obtain⟨l,e,v,p2,u⟩:=o ((n,c)::f) C;refine⟨l,?_,v,λx hx=>p2 x ?_,λx hx p=>?_⟩
   ·rw[List.forIn_cons];have E:cellOf env n=pure c:=by unfold cellOf;rw[z]
    rwa[E]
   ·rw[QY];cases (x==n)
    ·exact hx
    ·exact⟨c,rfl⟩
   ·rcases WU.mp hx with rfl|hx
    ·exact p2 n ⟨c,by simp[QY]⟩
    ·exact u x hx p
  ·obtain⟨l,e,v,p2,u⟩:=o f s;refine⟨l,?_,v,p2,λx hx p=>?_⟩
   ·grind
   ·rcases WU.mp hx with rfl|hx
    ·exact absurd p w
    ·exact u x hx p
def Znh{sc}(f:∀x∈sc.names,x.2=.free->∃c,env.cells.lookup x.1=some c) :
  ∃g,closureFor sc env=pure g/\(∀x c,g.lookup x=some c->env.cells.lookup x=some c)/\∀x∈sc.names,x.2=.free->∃c,g.lookup x.1=some c:=by
 obtain⟨g,e,n,_,l⟩:=Zlj sc.names f [] (λx c h=>by cases h);unfold closureFor
 grind
noncomputable def Km(X:Cx)(N':Yd)(h:Scope)(l:List (Str×Addr))(C:Addr)(f:Shared)(g:Hp)(ex:List Addr):Cx:=
 {X with N:=N',s₀:=f,H₀:=g,env:=compEnvC h l C X.env,outer:=X.stack,ex:=ex,fn:=λ_=>false,pn:=[],xe:=λ_ _=>False}
structure Sk (X:Cx) (N':Yd) (φ:Ya) (sc:Scope):Prop where
 kind:sc.kind=.function
 okind:X.env.scope.kind=.function
 nocell:∀y∈sc.names,y.2≠.cell
 names:∀y∈sc.names,y.2=.local->sc.names.lookup y.1=some .local
 frees:∀y∈sc.names,y.2=.free->X.env.scope.names.lookup y.1=some .cell
 len:φ.length=N'.length
 pick:∀(i:Nat) (x:Str) (j:Nat),N'[i]?=some x->φ[i]?=some (some j)->X.N[j]?=some x/\sc.names.lookup x=some .free
noncomputable def atStart(φ:Ya)(f:L2.St):L2.St:=φ.map λo=>o.bind λj=>(f[j]?).join
def Sub(g f:L2.St):Prop:=f.length=g.length/\∀(i:Nat) (v:V),g[i]?=some (some v)->f[i]?=some (some v)
def Sub.refl:Sub f f:=⟨rfl,λ_ _ h=>h⟩
def Sub.skip (h:Sub g f):Sub (none::g) (x::f):=by
 refine⟨by simp[h.1],λi v e=>?_⟩;cases i with
 |zero=>grind
 |succ i=>simp at e ⊢;exact h.2 i v e
theorem IJ{env:Env}(p:env.scope.kind=.function):∀{names:List (Str×NameKind)}{x:Str},names.lookup x=some .free->env.scope.names.lookup x=some .cell->
  (names.map λ(n,k)=>if (k==NameKind.free&&env.scope.kind == .function&&env.kindOf n==some .cell)then(n,NameKind.cell)else(n,k)).lookup x=some .cell
 |[],_,h,_=>by simp at h
 |(n,k)::r,x,h,g=>by
  have l:=@IJ env p r x;show List.lookup x ((if (k==NameKind.free&&env.scope.kind == .function&&env.kindOf n==some .cell)=true then(n,NameKind.cell)else(n,k))::_)=_;cases hx:x==n with
  |true=>
   have o:env.kindOf x=some .cell:=g;simp_all
  |false=>
   simp only[QY,hx]at h;by_cases f:(k==NameKind.free&&env.scope.kind == .function&&env.kindOf n==some .cell)=true
   ·rw[WH f];simp only[QY,hx];exact l h g
   ·rw[WG f];simp only[QY,hx];exact l h g
theorem E7{env:Env}:∀{names:List (Str×NameKind)}{x}{q:NameKind},
  (names.map λ(n,k)=>if (k==NameKind.free&&env.scope.kind == .function&&env.kindOf n==some .cell)then(n,NameKind.cell)else(n,k)).lookup x=some q->∃k,(x,k)∈names/\(q=k\/k=.free)
 |[],_,_,h=>by simp at h
 |(n,k)::r,x,q,h=>by
  have g:List.lookup x ((if (k==NameKind.free&&env.scope.kind == .function&&env.kindOf n==some .cell)=true then(n,NameKind.cell)else(n,k))::(r.map λ(n,k)=>if (k==NameKind.free&&env.scope.kind == .function&&env.kindOf n==some .cell)then(n,NameKind.cell)else(n,k)))=some q:=h;cases hx:x==n with
  |true=>
   have e:x=n:=by simpa using hx
   subst e;by_cases f:(k==NameKind.free&&env.scope.kind == .function&&env.kindOf x==some .cell)=true
   ·simp_all
   ·simp_all
  |false=>
   have p:List.lookup x (r.map λ(n,k)=>if (k==NameKind.free&&env.scope.kind == .function&&env.kindOf n==some .cell)then(n,NameKind.cell)else(n,k))=some q:=by
    by_cases f:(k==NameKind.free&&env.scope.kind == .function&&env.kindOf n==some .cell)=true
    ·rw[WH f]at g;simp only[QY,hx]at g;exact g
    ·rw[WG f]at g;simp only[QY,hx]at g;exact g
   obtain⟨l,o,hq⟩:=(@E7 env r x q) p;exact⟨l,Qb _ o,hq⟩
def Zk6{L target iter E scope pos N M env}(I:Nat->Shared->Prop)
  (turn:∀n s,I n s->wpAny (model prog w) A (pyNext N) (λr l=>match r with
   |none=>R (.ok .next) l
   |some v=>wpAny (model prog w) A (letOwnedTupleGo target N v) (λ_ g=>wpAny (model prog w) A (assign target env v) (λ_ y=>
     wpAny (model prog w) A (forIn E true λc r=>if r=true then do let ok ←isTrue c env (eval c env);pure (ForInStep.yield ok)else pure (ForInStep.yield r)) (λok f=>
      if ok=true then wpAny (model prog w) A (eval L env) (λx u=>
       wpAny (model prog w) A (call (.builtin "list.append") [M,x]) (λ_ p=>∃m,m<n/\I m p) (λ_ _=>False) u) (λ_ _=>False) f
      else ∃m,m<n/\I m f) (λ_ _=>False) y) (λ_ _=>False) g) (λ_ _=>False) l) (λ_ _=>False) s)
  (n:Nat) (h:I n s) :
  codeAny (model prog w) A (.compLoop (.ListComp L [⟨target,iter,E,0⟩] scope pos) 0 N M env) R s:=by
 refine codeAny_loop rfl I (λn s Q=>?_) n h;refine wpAny_noted ?_;rw[compTurn_list];refine W7 (VP<|W7 (Qt (turn n s Q) (λr l B=>?_) λ_ _ o=>o.elim));cases r with
 |none=>exact WE B
 |some v=>
  refine W7 (Qt B (λ_ g C=>?_) λ_ _ o=>o.elim);refine W7 (Qt C (λ_ y J=>W7 (Qt J (λok f z=>?_) λ_ _ o=>o.elim)) λ_ _ o=>o.elim);cases ok with
  |false=>exact WE ⟨rfl,z⟩
  |true=>
   exact W7 (W7 (Qt z (λx u H=>W7 (Qt H (λ_ p G=>WE (WE ⟨rfl,G⟩)) λ_ _ o=>o.elim)) λ_ _ o=>o.elim))
def N0(X:Cx)(g:Ye)(t:TT):Prop:=
 ∀(pins:ZX) (s:Shared) (f:L2.St) (H:Hp) (Q:Bool->Hp->Prop),Inv X pins f H s->t f H Q->
  wpAny (model X.prog X.w) X.A (forIn g true λc r=>if r=true then do let ok ←isTrue c X.env (eval c X.env);pure (ForInStep.yield ok)else pure (ForInStep.yield r)) (TP X pins f Q) X.xe s
noncomputable def RV:TT:=λ_ H Q=>Q true H
def Nh:N0 X [] RV:=λ_ _ _ H _ I h=>WE ⟨H,I,h⟩
def Sy(g:PT X c t):N0 X [c] t:=by
 intro pins s f H Q I h;rw[List.forIn_cons];refine W7 ?_;exact W7 (thn (g pins s f H Q I h) λb l q=>WE (WE q))
noncomputable def SO(φ:Ya)(v:TI)(g:TG)(tc:TT)(te:TE):TE:=λo H Q=>v o H λJ u=>∀D,u D=none->∃W:Nat->Nat->List V->Hp->Prop,(∃m,W 0 m [] (upd u D<|.lst []))/\
 ∀i m h n,W i m h n->(J.stop i n/\Q (.ref D) n)\/(J.go i n/\∀x s,J.yld i n x s->g x (atStart φ o) s λf w=>Sub (atStart φ o) f/\tc f w λb r=>
  if b=true then te f r λy p=>p D=some (.lst h)/\h.length<sizeLine/\∃l,l<m/\W (i+1) l (h++[y]) (upd p D<|.lst (h++[y]))else ∃l,l<m/\W (i+1) l h r)
def Inv.weak {g f:L2.St}{H}{s} (I:Inv X pins f H s) (S:Sub g f):Inv X pins g H s:=
 ⟨I.ok,I.os,I.bare,I.base,let ⟨m,h,l⟩:=I.loc;⟨m,h,λi x v p o n=>l i x v p (S.2 i v o) n⟩,I.cell,I.free,I.freeC,I.pin,I.hok,by rw[←S.1];exact I.len⟩
def Gv{i:Nat}{v}(h:(atStart φ f)[i]?=some (some v)):∃j,φ[i]?=some (some j)/\f[j]?=some (some v):=by
 unfold atStart at h;cases e:φ[i]? with
 |none=>grind
 |some o=>
  cases o with
  |_=>grind
def CompEnd(X:Cx)(pins:ZX)(h:L2.St)(Q:VK)(use:Option (Value->Sem Unit))(l:ZZ):Prop:=
 ∀(D C:Addr) (g:Hp) (f:Shared),Q (.ref D) g->Inv X pins h g f->(∃m,f.heap.Ns C m)->g C=none->C≠X.env.locals->X.s₀.heap.objs.size<=C->(∀x c,X.env.cells.lookup x=some c->c≠C)->(∀p∈X.pn++pins,p.1≠C)->C∉X.fs->
  compPost (model X.prog X.w) X.A X.xe use l (.ref D) C (.ok .next) f
def GG{elt iter tg}{ifs}{pos pos'}{wi}{g}{tc}{te}{use}{QQ}(hcalm:X.calm=true)(S:Sk X N' φ G)(hi:PI X tg iter wi)(hin:∀U C s₃ H₃ ex,PG (Km X N' G U C s₃ H₃ ex) tg g/\N0 (Km X N' G U C s₃ H₃ ex) ifs tc/\PE (Km X N' G U C s₃ H₃ ex) elt te)(hs:∀x,foldedSetIterable iter X.env x=pure x){pins}{s}{σ:L2.St}{H}{Q}(I:Inv X pins σ H s)(h:SO φ wi g tc te σ H Q)(fin:CompEnd X pins σ Q use QQ) :
  wpAny (model X.prog X.w) X.A (comprehension (.ListComp elt [⟨tg,iter,ifs,0⟩] G pos) G X.env pos' (newList []) false (eval iter X.env) use) QQ X.xe s:=by
 obtain⟨U,hcl,p1,p3⟩:=Znh λx hx hf=>I.ok.has x.1 (.inl<|S.frees x hx hf);refine wpAny_comprehension_free rfl hs hcl S.kind S.names ?_;refine thn (hi pins s σ H _ I h) λv s1 h1=>thn h1 λitv s2 h2=>?_;obtain⟨it,L,tn,J,H2,e,I2,T,st2,f2,hR⟩:=h2;subst e;refine Q7 ?_;have hf:=I2.hok.fresh (WI _);obtain⟨W,⟨m0,w0⟩,turn⟩:=hR s2.heap.objs.size hf;generalize eD:s2.heap.objs.size=D at *
 have I3:Inv X pins σ (upd H2 D<|.lst []) {s2 with heap:=s2.heap.push {cls:=.type "list",dict:=none,data:=.seq ([]:Yc).toArray}}:=
  I2.laid (λb u e=>WD _ e) (Vc eD) ⟨QU _,[],0,.nil,by rw[←eD];exact WQ _ rfl⟩
 have st3:tn 0 (s2.heap.push {cls:=.type "list",dict:=none,data:=.seq ([]:Yc).toArray}):=T.keep _ _ _ st2 λb _ o e=>WD _ e
 have hfpD:∀b∈L,b≠D:=λb f z=>by
  obtain⟨o,ho,_⟩:=T.obj _ _ st2 b f
  have:=WM ho
  rw[z,←eD]at this;exact QI _ this
 have f3:∀b∈L,TY X pins (upd H2 D<|.lst []) b:=λb f=>⟨by rw[Xs (hfpD b f)];exact(f2 b f).1,(f2 b f).2⟩;generalize es3:({s2 with heap:=s2.heap.push {cls:=.type "list",dict:=none,data:=.seq ([]:Yc).toArray}}:Shared)=l at *
 have st3':tn 0 l.heap:=by rw[←es3];exact st3
 generalize eH3:upd H2 D (.lst [])=H3 at *;refine wpAny_newFunctionEnv S.nocell (by intro y hy;simp at hy) (λh₁ E B=>?_) S.kind;have hh3:l.heap=s2.heap.push {cls:=.type "list",dict:=none,data:=.seq ([]:Yc).toArray}:=by rw[←es3]
 rw[hh3]at E B;rw[←hh3]at E B;have old:=λb o e=>B.extBut b o (Qf<|WM e) (WD _ e)
 have hC0:l.heap.get? l.heap.objs.size=none:=by
  cases e:l.heap.get? l.heap.objs.size with
  |none=>rfl
  |some o=>exact absurd (WM e) (QI _)
 generalize eC:l.heap.objs.size=C at *;have hH3C:=I3.hok.fresh (Vc eC)
 have OK:(Km X N' G U C l H3 L).Ok:=by
  refine⟨I.ok.mod,?_,I.ok.glob,I.ok.blt,Vc eC,λx y c h1 h2=>I.ok.inj x y c (p1 x c h1) (p1 y c h2),?_,(λx c hx=>by cases hx),I.ok.hd,I.ok.frames,.inl rfl,?_,I3.bs,WK I.ok.bsz I3.sz,?_,?_,I3.stack,I3.stkFree⟩
  ·exact S.kind
  ·intro x hx;have hx':=hx.imp E7 E7
   have hfr:(x,NameKind.free)∈G.names:=by
    rcases hx' with⟨k,hm,rfl|rfl⟩|⟨k,hm,rfl|rfl⟩
    ·exact absurd rfl (S.nocell _ hm)
    ·exact hm
    ·exact hm
    ·exact hm
   exact p3 _ hfr rfl
  ·intro b f;refine⟨λz=>?_,λx c hx=>(f3 b f).2.2.2.2.1 x c (p1 x c hx)⟩;obtain⟨o,ho,_⟩:=T.obj _ _ st3' b f;have z':b=C:=z;rw[z',hC0]at ho;cases ho
  ·intro b o f hx;obtain⟨_,_,_,q,_,_⟩:=f3 b hx;rcases q with q|q
   ·exact I.ok.noex b o f q
   ·have:=Qo (WM f) (WK I.ok.bsz q)
    exact QI _ this
  ·intro b f hz;rcases WU.mp (I.stkSub b hz)with q|q
   ·exact(f3 b f).2.1 q
   ·exact(f3 b f).2.2.1 q
 have hlen0:(atStart φ σ).length=N'.length:=by unfold atStart;rw[W6];exact S.len
 have I4:Inv (Km X N' G U C l H3 L) [] (atStart φ σ) H3 {l with heap:=h₁,toks:=l.toks+([]:List (Str×Value)).length}:=by
  refine⟨OK,rfl,I3.bare,Un.kept old,⟨_,E,λi x v h1 h2 h3=>?_⟩,λx c hx=>?_,hH3C,λx c hx=>I3.freeC x c (p1 x c hx),λp hp=>?_,I3.hok.kept old,hlen0⟩
  ·obtain⟨j,hj,hv⟩:=Gv h2;obtain⟨hN,hfr⟩:=S.pick i x j h1 hj;obtain⟨m,_,hl⟩:=I3.loc;have hm:=Vi hfr;have M:=S.frees _ hm rfl;obtain⟨u,ru,lk⟩:=hl j x v hN hv (.inr<|.inl M);refine⟨u,ru,.inr ⟨.inl (IJ S.okind hfr M),?_⟩⟩;obtain⟨c,hc⟩:=p3 _ hm rfl;rcases lk with⟨hk,_⟩|⟨_,c',hc',hcl'⟩
   ·have hk':X.env.scope.names.lookup x=some .local:=hk;rw[M]at hk';cases hk'
   ·have e:=p1 _ _ hc;rw[hc']at e;cases e
    obtain⟨o,ho,hd⟩:=hcl';exact⟨_,hc,o,old _ o ho,hd⟩
  ·obtain⟨v,hv⟩:=I3.cell x c (p1 x c hx);obtain⟨o,ho,hd⟩:=hv;exact⟨v,o,old _ o ho,hd⟩
  ·exact absurd hp (by simp[Km])
 have st4:=T.keep _ _ _ st3' λb _ o e=>old b o e
 have stat:∀{H':Hp},(∀b∈L,H' b=none)->∀b∈L,TY (Km X N' G U C l H3 L) [] H' b:=λhn b f=>
  ⟨hn b f,(OK.exf b f).1,OK.exfs b f,.inl f,(OK.exf b f).2,λp hp=>absurd hp (by simp[Km])⟩
 obtain⟨hPG,hPI,hPE⟩:=hin U C l H3 L
 have loop:codeAny (model X.prog X.w) X.A (.compLoop (.ListComp elt [⟨tg,iter,ifs,0⟩] G pos) 0 (.ref it) (.ref D)<|compEnvC G U C X.env) (compPost (model X.prog X.w) X.A X.xe use QQ (.ref D) C) {l with heap:=h₁,toks:=l.toks+([]:List (Str×Value)).length}:=by
  refine Zk6 (λn s'=>∃i ys σ' H',Inv (Km X N' G U C l H3 L) [] σ' H' s'/\Sub (atStart φ σ) σ'/\tn i s'.heap/\(∀b∈L,H' b=none)/\W i n ys H') ?_ m0 ⟨0,[],_,_,I4,Sub.refl,st4,λb f=>(f3 b f).1,w0⟩;rintro n s5 ⟨i,ys,σ5,H5,I5,sub5,st5,fr5,w5⟩;have I5':=Own.Inv.weak I5 sub5;rcases turn i n ys H5 w5 with⟨stop,qn⟩|⟨go,step⟩
  ·refine thn (T.done (Km X N' G U C l H3 L) rfl rfl rfl hcalm i [] s5 _ H5 _ I5' (stat fr5) st5 stop) ?_;rintro r s6 ⟨hr,I6⟩;subst hr;obtain⟨m,hn,_⟩:=I6.loc;obtain⟨hh,gg,dd,tt,oo⟩:=s6;obtain rfl:=I6.os;have R:Inv X pins σ H5 {l with heap:=hh,gens:=gg,drawn:=dd,toks:=tt}:=I3.call I6.base I6.hok I6.bare λb f=>⟨(f3 b f).2.2.2.1,(f3 b f).2.1,(f3 b f).2.2.2.2.1,(f3 b f).2.2.2.2.2⟩
   have hC3:=Vc eC;obtain⟨q0,q1,q2,q3,q4,q5⟩:=I3.fpOk hC3 hH3C;refine fin D C H5 _ qn R ⟨m,hn⟩ I6.free q1 (WK I3.sz hC3) q4 q5 q2
  ·refine thn (T.item (Km X N' G U C l H3 L) rfl rfl rfl hcalm i [] s5 _ H5 _ I5' (stat fr5) st5 go) ?_;rintro r s6 ⟨u,hr,h6⟩;subst hr;refine thn h6 ?_;rintro _ s7 ⟨x,H7,I7,r7,y7,st7,fr7⟩;have I7':=I7.pinned (stat fr7) (T.obj _ _ st7);refine thn (hPG _ s7 _ H7 x u _ I7' r7<|step x H7 y7) ?_;rintro _ s8 ⟨σ8,H8,I8,sub8,q8⟩;refine thn (hPI _ s8 σ8 H8 _ I8 q8) ?_;rintro ok s9 ⟨H9,I9,q9⟩
   have again:∀{Y:Shared} {N:Hp} {ys':List V} {m':Nat},Inv (Km X N' G U C l H3 L) ([]++Bi L s7.heap) σ8 N Y->W (i+1) m' ys' N->∃i ys σ' H',Inv (Km X N' G U C l H3 L) [] σ' H' Y/\Sub (atStart φ σ) σ'/\tn i Y.heap/\(∀b∈L,H' b=none)/\W i m' ys H':=λ{Y N ys' m'} J10 w10=>by
    refine⟨i+1,ys',σ8,N,J10.unpinned,sub8,T.keep _ _ _ st7 λb f o e=>(J10.pin (b,o)<|Qi _<|Qi _<|F2 f e).1,λb f=>?_,w10⟩;obtain⟨o,e,d⟩:=T.obj _ _ st7 b f;exact(J10.pin (b,o)<|Qi _<|Qi _<|F2 f e).2.1
   cases ok with
   |false=>
    obtain⟨m',hm,w'⟩:=q9;exact⟨m',hm,again I9 w'⟩
   |true=>
    refine thn (hPE _ s9 σ8 H9 _ I9 q9) ?_;rintro xv Y ⟨y,N,I10,r10,hD,hl,m',hm,w'⟩;refine thn (Bu _ Y σ8 N (.ref D) [y] (.ref D) [xv] (λ_ H11=>H11=upd N D (.lst (ys++[y]))) I10 rfl (.cons r10 .nil) ⟨D,ys,y,rfl,rfl,hD,hl,rfl⟩) ?_;rintro _ s11 ⟨_,H11,I11,_,e11⟩;subst e11;exact⟨m',hm,again I11 w'⟩
 refine codeAny_compStart_list loop (T.self _ 0 _ _ _ st4 loop)
def Dn{r iter v p pos z g tc te}(n:X.calm=true)(S:Sk X N' φ u)(G:PI X v iter z)(w:∀y C f l ex,PG (Km X N' u y C f l ex) v g/\N0 (Km X N' u y C f l ex) p tc/\PE (Km X N' u y C f l ex) r te)(hs:autoParam (∀x,foldedSetIterable iter X.env x=pure x) au_3):PE X (.ListComp r [⟨v,iter,p,0⟩] u pos) (SO φ z g tc te):=by
 intro pins s σ H Q I h;refine GG n S G w hs I h λD C Y s6 q R E U T N M L c5=>?_;obtain⟨m,B⟩:=E;exact⟨m,B,λh' A=>⟨.ref D,Y,R.turned (λb o J e=>A.extBut b o J e) U T (.inr N) M L,rfl,q⟩⟩
def Zm2{u iter A n pos spos py M g tc te i y}(hN:X.N.Nodup)(hy:X.N[i]?=some y)(Q:X.env.scope.names.lookup y=some .local)(r:X.calm=true)(S:Sk X N' φ w)(hi:PI X A iter M)(G:∀L C f l ex,PG (Km X N' w L C f l ex) A g/\N0 (Km X N' w L C f l ex) n tc/\PE (Km X N' w L C f l ex) u te)(hs:autoParam (∀x,foldedSetIterable iter X.env x=pure x) au_3)(E:autoParam (swapsWith (.ListComp u [⟨A,iter,n,0⟩] w pos) (some<|.Name y py) spos.line X.env=pure true) au_0) :
  PS X (.Assign [.Name y py] (.ListComp u [⟨A,iter,n,0⟩] w pos) spos) (NT (SO φ M g tc te)<|S9 i):=by
 intro pins s Y H D0 I h;rw[exec_Assign_Name_used _ _ _ _ E];refine W7 (VP<|W7 ?_);refine W7 (Qt (GG r S hi G hs I h λD C U s6 q R hm c0 c1 c2 c3 c4 c5=>?_) (λ_ s' z=>WE (WE z)) λ_ _ e=>e);obtain⟨m,B,es,ep,hoC,J,rC⟩:=hm
 have R2:Inv X (pins++[(C,B)]) Y U s6:=R.pins_of λp hp=>(WO.mp hp).elim (λz=>R.pin p (Qi _ z)) λz=>by
  grind
 refine wpAny_assign_Name (B3 R2 hN hy (.inl Q) (v:=.ref D) rfl (λs7 T=>?_)<|.inr Q);refine⟨m,⟨B,es,ep,((T.pin (C,B)<|Qi _<|Qi _<|WB.mpr rfl).1),J,rC⟩,λh' sb=>?_⟩;exact⟨_,U,T.unpinned.turned (λb o hb e=>sb.extBut b o hb e) c0 c1 (.inr c2) c3 c4,q⟩
noncomputable def BF(sc f:Scope)(N N':Yd)(φ:Ya):Bool:=
 sc.kind == .function&&f.kind == .function&&(sc.names.all λy=>y.2 != .cell&&(y.2 != .local || sc.names.lookup y.1==some .local)&&(y.2 != .free || f.names.lookup y.1==some .cell)) &&
  φ.length==N'.length&&((N'.zip φ).all λp=>match p.2 with|none=>true|some j=>N[j]? == some p.1&&sc.names.lookup p.1==some .free)
def Sk.of {N'}{φ g} (h:BF g X.env.scope X.N N' φ=true):Sk X N' φ g:=by
 unfold BF at h;simp only[Qx,beq_iff_eq,V1,Bool.or_eq_true,bne_iff_ne,ne_eq]at h;obtain⟨⟨⟨⟨v,u⟩,s⟩,r⟩,p⟩:=h;refine⟨v,u,λy f=>(s y f).1.1,λy f w=>?_,λy f z=>?_,r,λi x j o n=>?_⟩
 ·grind
 ·grind
 ·have l:(N'.zip φ)[i]?=some (x,some j):=by rw[List.getElem?_zip_eq_some];exact⟨o,n⟩
  have:=p _ (WZ l)
  grind
end Own
namespace SetR
open PySem PySem.Spec PyProof.Rows L2
def Ris(xs:Array Nat):Prop:=∀i j,i<j->j<xs.size->xs.getD i 0<xs.getD j 0
def GQ{xs:Array Nat}{i a b}(h:i<xs.size):xs.getD i a=xs.getD i b:=by grind
def Zk9(R:Ris xs)(j:Nat):∀fuel lo f,f-lo<=fuel->lo<=f->f<=xs.size->(∀k,k<lo->xs.getD k 0<j)->(∀k,f<=k->k<xs.size->j<=xs.getD k 0)->
  let r:=SetTable.below.go xs j fuel lo f
  r<=xs.size/\(∀k,k<r->xs.getD k 0<j)/\∀k,r<=k->k<xs.size->j<=xs.getD k 0:=by
 intro fuel
 induction fuel with
 |zero=>
  intro lo f x w n l h;have e:lo=f:=by lia
  subst e;exact⟨n,l,h⟩
 |succ fuel s=>
  intro lo f x w n l h;show(let r:=(if lo<f then(if xs.getD ((lo+f) / 2) j<j then SetTable.below.go xs j fuel ((lo+f) / 2+1) f else SetTable.below.go xs j fuel lo ((lo+f) / 2))else lo);r<=xs.size/\(∀k,k<r->xs.getD k 0<j)/\∀k,r<=k->k<xs.size->j<=xs.getD k 0);by_cases u:lo<f
  ·rw[WH u];have o:(lo+f) / 2<xs.size:=by lia
   by_cases g:xs.getD ((lo+f) / 2) j<j
   ·rw[WH g];refine s _ _ (by lia) (by lia) n (λk v=>?_) h;rw[GQ o]at g;by_cases e:k=(lo+f) / 2
    ·rw[e];exact g
    ·exact VG (R k _ (by lia) o) g
   ·rw[WG g];refine s _ _ (by lia) (by lia) (by lia) l (λk v p=>?_);rw[GQ (b:=0) o]at g;by_cases e:k=(lo+f) / 2
    ·rw[e];lia
    ·have:=R _ k (show(lo+f) / 2<k by lia) p
     lia
  ·rw[WG u];have e:lo=f:=by lia
   subst e;exact⟨n,l,h⟩
def O3(R:Ris xs)(j:Nat):SetTable.below xs j<=xs.size/\(∀k,k<SetTable.below xs j->xs.getD k 0<j)/\∀k,SetTable.below xs j<=k->k<xs.size->j<=xs.getD k 0:=
 Zk9 R j xs.size 0 xs.size (by simp) (by simp) (by simp) (λk f=>by lia) (λk h g=>by lia)
def Zc1(R:Ris xs){i}(f:i<=xs.size){slot}(l:∀k,k<i->xs.getD k 0<slot)(g:∀k,i<=k->k<xs.size->slot<=xs.getD k 0):SetTable.below xs slot=i:=by
 obtain⟨a,b,c⟩:=O3 R slot;rcases Nat.lt_trichotomy (SetTable.below xs slot) i with h|h|h
 ·grind
 ·lia
 ·grind
def Rise(xs:Array Nat):Prop:=xs.toList.Pairwise (· < ·)
def Rise.ris (h:Rise xs):Ris xs:=by
 intro i j f g;have l:i<xs.size:=by lia
 have:=(Qg.mp h) i j (by omega) (by omega) f
 simp_all
def Zq9(h:Rise xs)(v:xs[SetTable.below xs j]?≠some j):Rise (SetTable.insertAt xs (SetTable.below xs j) j):=by
 obtain⟨a,b,c⟩:=O3 h.ris j;generalize SetTable.below xs j=p at *;unfold Rise;rw[SetTable.toList_insertAt];refine Vx.mpr ⟨h.sublist (Vt _ _),QT.mpr ⟨λy g=>?_,h.sublist (List.drop_sublist _ _)⟩,λx hx y g=>?_⟩
 ·obtain⟨k,l,e⟩:=List.mem_drop_iff_getElem.mp g
  have f:p+k<xs.size:=by
   simp only[Q6]at l;lia
  have z:=c (p+k) (by lia) f;have u:xs.getD (p+k) 0=y:=by simpa [Array.getD,f]using e
  rcases Nat.lt_or_ge j y with s|s
  ·exact s
  ·have ey:y=j:=by lia
   exfalso;rcases Nat.eq_zero_or_pos k with rfl|w
   ·apply v;rw[QN (by lia)]
    have:xs[p]=y:=by simpa using e
    rw[this,ey]
   ·have B:=h.ris p (p+k) (by lia) f;have A:=c p (WI _) (by lia);lia
 ·have n:x<j:=by
   obtain⟨k,l,e⟩:=List.mem_take_iff_getElem.mp hx;have r:k<p:=by lia
   have o:k<xs.size:=by lia
   have:=b k r
   have u:xs.getD k 0=x:=by simpa [Array.getD,o]using e
   lia
  rcases WU.mp g with rfl|g
  ·exact n
  ·obtain⟨k,l,e⟩:=List.mem_drop_iff_getElem.mp g
   have f:p+k<xs.size:=by
    simp only[Q6]at l;lia
   have z:=c (p+k) (by lia) f;have u:xs.getD (p+k) 0=y:=by simpa [Array.getD,f]using e
   lia
structure Tb (b:Bool) (t:SetTable):Prop where
 led:t.led=b
 dum:t.dummies=#[]
 ris:Rise t.place
def GU(j:Nat):SetTable.has #[] j=false:=rfl
def Tb.fresh (b:Bool):Tb b (.fresh 0 0 b):=⟨rfl,rfl,List.Pairwise.nil⟩
def Zha(n:Nat):Rise (Array.range n):=by
 unfold Rise;rw[Array.toList_range];exact List.pairwise_lt_range
def Tb.stand (h:Tb b t) (n:Nat):Tb b (t.standIn n):=⟨h.led,rfl,Zha n⟩
def Tb.orStand (h:Tb b t) (n:Nat):Tb b (t.orStandIn n):=by
 unfold SetTable.orStandIn;split
 ·lia
 ·exact h.stand n
def Tb.plainOff (h:Tb b t):Tb b {t with plain:=false}:=⟨h.led,h.dum,h.ris⟩
def Tb.put (h:Tb b t) {j} (f:t.place[SetTable.below t.place j]?≠some j):Tb b (t.put j).1:=by
 refine⟨h.led,?_,Zq9 h.ris f⟩;show(if SetTable.has t.dummies j=true then _ else t.dummies)=#[];rw[h.dum,GU];rfl
def Ziz(h:Tb b t)(f:Nat->Int)(z:Int):∀fuel p j d,p.dummy=none->SetTable.probe.go t f z fuel p=some (.empty j d)->d=none/\t.place[SetTable.below t.place j]?≠some j:=by
 intro fuel
 induction fuel with
 |zero=>intro p j d _ e;cases e
 |succ fuel n=>
  intro p j d o e;unfold SetTable.probe.go at e
  have l:∀q,q.dummy=none->(t.advance q).dummy=none:=λq hq=>by
   unfold SetTable.advance;split
   ·exact hq
   ·exact hq
  cases g:t.slot p.j with
  |empty=>
   rw[g]at e;unfold SetTable.slot at g
   grind
  |dummy=>
   unfold SetTable.slot at g
   dsimp only at g
   split at g
   ·cases g
   ·rw[h.dum,GU]at g;simp at g
  |live i=>
   rw[g]at e
   dsimp only at e
   split at e
   ·cases e
   ·exact n _ j d (l p o) e
def Tb.layNew (h:Tb b t) (es:Yi) (z:Int) (x:Value):Tb b (PySem.layNew t es z x).2.1:=by
 unfold PySem.layNew;split
 ·rename_i slot wasDummy e
  have f:t.place[SetTable.below t.place slot]?≠some slot:=by
   unfold SetTable.freeSlot SetTable.probe at e;split at e
   ·rename_i j dummy g;obtain⟨n,l⟩:=Ziz h _ _ _ _ _ _ rfl g
    grind
   ·grind
  exact(h.put f).orStand _
 ·exact h.stand _
def Zhe(n:Nat)(f:Nat->Option Nat):((List.range n).filterMap λj=>(f j).map (j,·)).Pairwise (λa b=>a.1<b.1):=by
 refine List.Pairwise.filterMap _ ?_ List.pairwise_lt_range;intro a l h b o r g;cases e:f a with
 |none=>grind
 |some v=>
  cases p:f l with
  |_=>grind
def Tb.relayAll (h:Tb b t) (es:Yi) (n:Nat):Tb b (PySem.relayAll t es n).2.1:=by
 unfold PySem.relayAll;split
 ·rename_i l order e
  dsimp only
  split
  ·unfold SetTable.relaid SetTable.laid at e;cases f:SetTable.layClean (SetTable.sizeAbove n-1) (es.map (·.1))with
   |none=>grind
   |some owner=>
    rw[f]at e;have g:=Q2 Prod.fst (WR e);subst g;refine⟨h.led,rfl,?_⟩;show(List.map (λx=>x.fst) ((List.range (SetTable.sizeAbove n-1+1)).filterMap λj=>(owner.getD j none).map (j,·))).toArray.toList.Pairwise (· < ·);rw[List.toList_toArray,Jj];exact Zhe _ _
  ·exact h.stand _
 ·exact h.stand _
noncomputable def keyOf(e:Int×Value):Int:=match e.2 with
 | .int k _=>k
 |_=>0
def Ent(e:Int×Value):Prop:=∃(k:Int) (t:Tok),e=(hashInt k,.int k t)
section
variable (prog:Program) (w:World)
noncomputable def P8(w:World):Bool:=w.params.followText "set-order"
structure Kv (h:Heap) (a:Addr) (js:ZW) (es:Yi) (ep:Nat) (t:SetTable):Prop where
 obj:∃o,h.get? a=some o/\o.ExactSet/\o.data=.set es ep t
 ent:∀e∈es.toList,Ent e
 per:(es.toList.map keyOf).Perm js
 nod:js.Nodup
 few:es.size<scanBound
 fit:t.fits es.size=true
 tab:Tb (!P8 w) t
def SetB(h:Heap)(a:Addr)(f:ZW):Prop:=∃g l t,Kv w h a f g l t
end
section
variable {prog:Program}{w:World}{A:Around}{E:ZZ}{s:Shared}
def Ent.elems (h:∀e∈l,Ent e):ElemsOf (intKind prog w) l:=λe f=>by
 obtain⟨k,t,rfl⟩:=h e f;exact⟨⟨k,intKind_is _ _ _ _,rfl⟩,rfl⟩
def GT(h:Ent e)(k:Int):(intKind prog w).is k e.2=decide (k=keyOf e):=by
 obtain⟨f,t,rfl⟩:=h;show Value.isInt k (.int f t)=decide (k=f);by_cases e:k=f
 ·subst e;simp[Value.isInt]
 ·rw[Qq e];simp[Value.isInt];lia
def SetB.len (S:Kv w h a f es g t):es.size=f.length:=by
 have:=S.per.length_eq
 grind
def SetB.at {a l} (S:SetB w h a l) (k:∀o,h.get? a=some o->p.get? a=some o):SetB w p a l:=by
 obtain⟨u,v,t,⟨o,n,r⟩,b,c,d,e,f,g⟩:=S;exact⟨u,v,t,⟨o,k o n,r⟩,b,c,d,e,f,g⟩
def Kv.store {es f}{l t t'} (S:Kv w h a z es l t) (y:∀e∈f.toList,Ent e) (x:(f.toList.map keyOf).Perm g) (v:g.Nodup) (u:f.size<scanBound)
  (r:t'.fits f.size=true) (p:Tb (!P8 w) t'):Kv w (h.update a<|Obj.putSet f t') a g f (l+1) t':=by
 obtain⟨o,n,hx,hd⟩:=S.obj;refine⟨⟨{o with data:=.set f (l+1) t'},?_,hx,rfl⟩,y,x,v,u,r,p⟩
 have q:=Q0 (Obj.putSet f t') n (by rw[putSet_of f t' hd];rfl);rwa[putSet_of f t' hd]at q
def HF{g:Bool->Sem Unit}(hg:∀b G N,N () G->wpAny (model prog w) A (g b) N E G){a T h}{es f}{ep t t'}(S:Kv w s.heap a T es ep t)(M:∀e∈f.toList,Ent e)(L:(f.toList.map keyOf).Perm h)(J:h.Nodup)(u:f.size<scanBound)(h5:t'.fits f.size=true)(H:Tb (!P8 w) t'){d R}(n:∀v,Heap.SameBut a s.heap v->SetB w v a h->R (some true) {s with heap:=v}) :
  wpAny (model prog w) A (do
    storeSet a f t'
    if (!d&&t'.tooFull)=true then do
      g (relayAll t' f<|SetTable.grown f.size).2.2
      storeSet a (relayAll t' f<|SetTable.grown f.size).1 (relayAll t' f<|SetTable.grown f.size).2.1
      pure (some true)
     else pure (some true)) R E s:=by
 obtain⟨o,Y,hx,hd⟩:=S.obj;have C:=S.store M L J u h5 H;obtain⟨o1,p,U,r⟩:=C.obj;have Q:=QD s.heap a (Obj.putSet f t');refine W7 (wpAny_storeSet_of Y hd ?_<|Jk u);split
 ·have l:=relayAll_perm t' f (SetTable.grown f.size);have x:=relayAll_fits t' f (SetTable.grown f.size);have tt:=H.relayAll f (SetTable.grown f.size);generalize relayAll t' f (SetTable.grown f.size)=y at l x tt ⊢;obtain⟨B,t2,g2⟩:=y
  dsimp only at l x tt ⊢
  have z:B.size=f.size:=by rw[←Q6,l.length_eq,Q6]
  refine W7 (hg _ _ _<|W7<|wpAny_storeSet_of p r ?_<|Jk<|by lia);exact WE (n _ (Q.trans<|QD _ a _) ⟨_,_,_,C.store (λe he=>M e (l.mem_iff.mp he)) ((l.map keyOf).trans L) J (by rw[z];exact u) x tt⟩)
 ·exact WE (n _ Q ⟨_,_,_,C⟩)
noncomputable def Kw(f:ZW)(k:Int):ZW:=if k∈f then f else f++[k]
def Zax{R}(S:SetB w s.heap a n)(room:n.length+1<scanBound)(H:∀r g,Heap.SameBut a s.heap g->SetB w g a (Kw n k)->R r {s with heap:=g}) :
  wpAny (model prog w) A (setAddHashed a (.int k u)<|hashInt k) R E s:=by
 obtain⟨l,ep,t,S⟩:=S;obtain⟨o,Y,hx,hd⟩:=S.obj;have el:=Ent.elems (prog:=prog) (w:=w) S.ent;have M:=SetB.len S;refine QJ (W7<|Vu Y hd S.fit ?_)
 dsimp only
 rw[byScan_of rfl S.few el];simp only[↓reduceIte];unfold setAddByScan;refine W7 (W7<|wpAny_rule<|W7<|wpAny_setScan_of (intKind_is _ _ _ _) Y hd S.fit el ?_);have mem:∀z,z∈n↔∃e∈l.toList,keyOf e=z:=λz=>by rw[←S.per.mem_iff,Qk]
 cases q:List.findIdx? (λe=>(intKind prog w).is k e.2) l.toList with
 |some j=>
  dsimp only
  obtain⟨hj,U,_⟩:=List.findIdx?_eq_some_iff_getElem.mp q
  have L:k∈n:=by
   rw[GT (S.ent _<|WW hj)]at U;exact(mem k).mpr ⟨_,WW hj,(WA U).symm⟩
  refine WE (WE ?_);have f:=H false s.heap (Heap.SameBut.refl a s.heap);unfold Kw at f;rw[WH L]at f;exact f ⟨_,_,_,S⟩
 |none=>
  dsimp only
  have L:¬k∈n:=λM=>by
   obtain⟨e,he,N⟩:=(mem k).mp M
   have:=List.findIdx?_eq_none_iff.mp q e he
   rw[GT (S.ent e he),W9 N.symm]at this;cases this
  have P:=layNew_perm t l (hashInt k) (.int k u);have F:=layNew_fits t l (hashInt k) (.int k u);have T:=S.tab.layNew l (hashInt k) (.int k u);change wpAny (model prog w) A (match layNew t l (hashInt k) (.int k u)with|(l,t,wasDummy,gave)=>_) _ _ _
  generalize layNew t l (hashInt k) (.int k u)=y at P F T ⊢;obtain⟨p,t1,d1,g1⟩:=y
  dsimp only at P F T ⊢
  rw[Array.toList_push]at P
  have e1:∀e∈p.toList,Ent e:=λe he=>by
   rcases WO.mp (P.mem_iff.mp he)with he|he
   ·exact S.ent e he
   ·rw[WB.mp he];exact⟨k,u,rfl⟩
  have e2:(p.toList.map keyOf).Perm (n++[k]):=by
   refine(P.map keyOf).trans ?_;rw[WS];exact S.per.append_right _
  have e3:(n++[k]).Nodup:=Q3.mpr ⟨S.nod,by simp,λx hx y hy=>by rw[WB.mp hy];rintro rfl;exact L hx⟩
  have e4:p.size<scanBound:=by
   rwa[←Q6,P.length_eq,WJ,Q6,M]
  have h:=λg B G=>by
   have f:=H true g B;unfold Kw at f;rw[WG L]at f;exact f G
  have Q:∀b {C:Shared} {J:Unit->Shared->Prop},J () C->wpAny (model prog w) A (match b with|true=>rule "set.scan.the-table-gave-way" |false=>pure ()) J E C:=λb C J v=>by cases b<;>first|exact WE v|exact wpAny_rule v
  refine W7 (Q _ ?_);split
  ·refine W7 ?_;rw[hashByValue_scannable 8 rfl];refine WE (HF (λb C J v=>Q b v) S e1 e2 e3 e4 ?_ ?_ λg B G=>WE (h g B G))
   ·split
    ·exact F
    ·exact SetTable.fits_plain_off F
   ·split
    ·exact T
    ·exact T.plainOff
  ·refine W7 (WE ?_);simp only[↓reduceIte];exact HF (λb C J v=>Q b v) S e1 e2 e3 e4 F T λg B G=>WE (h g B G)
def Zbe{I H y P St}{ns:ZW}(W:Walks prog w A.in1 I H y ns.length P St)(S:Addr)(G:S∉H)(M:∀i v,P i v->∃t,v=.int (ns.getD i 0) t)(room:ns.length+1<scanBound):∀k i s n,ns.length-i=k->i<=ns.length->St i s.heap->SetB w s.heap S n->n.length<=i->
   (∀h p,(∀b o,b∉S::y->s.heap.get? b=some o->h.get? b=some o)->SetB w h S ((ns.drop i).foldl Kw n)->R (.ok<|.ret .none) {s with heap:=h,toks:=p})->
   codeAny (model prog w) A (.builtin "set.update.loop" ⟨[.ref S,.ref I],[]⟩) R s:=by
 have u:=λz=>G (W.sub _ z);intro k
 induction k with
 |zero=>
  intro i s n N T st B Q l;have ei:i=ns.length:=by lia
  refine V8 VZ ?_;show wpAny _ A.in1 (pyNext (.ref I) >>= _) _ _ s;refine W7 (W.done s _ _ (ei▸st) λh p keep=>?_);show wpAny _ A.in1 (ret Value.none) _ _ _;refine WE (l h p (λb o g e=>keep b o (λz=>g (Qb _ z)) e) ?_);rw[ei,List.drop_length];exact B.at λo e=>keep S o u e
 |succ k L=>
  intro i s n N T st B Q l;have f:i<ns.length:=by lia
  refine V8 VZ ?_;rw[VO Ja _];show wpAny _ A.in1 (pyNext (.ref I) >>= _) _ _ s;refine W7 (W.item i s _ _ f st λv U J pv x keep1=>?_);obtain⟨t,rfl⟩:=M i v pv;have B1:=B.at λo e=>keep1 S o u e;unfold setAdd;refine W7 (QJ<|QJ<|W7 ((intKind prog w).pyHash (intKind_is _ _ _ _) ?_));refine Zax B1 (by lia) λr h2 C B2=>?_
  have Y:(Kw n<|ns.getD i 0).length<=i+1:=by
   unfold Kw;split
   ·lia
   ·simp;lia
  refine WE ⟨plainId_quiet Ja _,L (i+1) _ _ (by lia) f (W.frame _ U _ x λb g o e=>?_) B2 Y λh p keep B'=>?_⟩
  ·rw[C.2 b (λz=>G (by rw[←z];exact g))];exact e
  ·refine l h p (λb o g e=>keep b o g ?_) ?_
   ·rw[C.2 b (λz=>g (by rw[z];exact Qs))];exact keep1 b o (λz=>g (Qb _ z)) e
   ·have e1:ns.drop i=ns.getD i 0::ns.drop (i+1):=by
     rw[Q1 f,WC,W8 f];rfl
    rwa[e1]
def Zh1(a:Value){Q}(f:Q (.ref s.heap.objs.size) {s with heap:=s.heap.push {cls:=.type "set",dict:=none,data:=.set #[] 0 (.fresh 0 0 (!P8 w))}}) :
  codeAny (model prog w) A (.call (.builtin "set.__new__") ⟨[.type "set",a],[]⟩) (wants Q E) s:=by
 refine codeAny_of_tree (?_);refine W7 (wpAny_of_eq (F.newCall_set_1 a)<|WE ⟨plainId_quiet F.plain_set_new _,V8 F.entry_set_new ?_⟩);rw[(VO (A:=A) F.plain_set_new ⟨[.type "set",a],[]⟩)];unfold Builtin.«set.__new__» Builtin.Frozenset.newClass;have g:=sub_set_self
 dsimp only
 wp_walk
 refine wpAny_askSetting (WE<|?_)
 dsimp only
 simp only[newObj];exact W7 (wpAny_alloc<|WE<|WE f)
set_option maxHeartbeats 4000000 in
def Zk7{l:Addr}{f:Array Value}{ns:ZW}{Q:ZZ}(hh:A.handled=none)(hl:s.heap.IsList l f)(hi:IntsAre f.toList ns)(room:ns.length+1<scanBound)(U:∀(h:Heap) (u:Nat),SetB w h s.heap.objs.size (ns.foldl Kw [])->(∀b o,b<s.heap.objs.size->s.heap.get? b=some o->h.get? b=some o)->Q (.ref s.heap.objs.size) {s with heap:=h,toks:=u}) :
  wpAny (model prog w) A (call (.type "set") [.ref l]) Q E s:=by
 have hn:f.size=ns.length:=by have:=IntsAre.length hi;simpa using this
 obtain⟨mroC,mroT,mro⟩:=F.called_set.mro;have made:=F.called_set.made;have subs:=F.called_set.sub;refine J2 (codeAny_of_tree<|show wpAny _ _ (callAny (.type "set") _) _ _ _ from ?_)
 refine WE ⟨Code.quiet_builtin _ (by decide +kernel),V8 F.entry_type_call ?_⟩;have wt:=Around.under_plain (A:=A) (weight_type_call_type "set" [.ref l] []) rfl;rw[wt];have nt:=F.called_set.notType;have cc:=F.called_set.canCreate;have tc:=F.typeCall_set_1 (.ref l)
 repeat (any_goals (first|assumption|wp_step))
 refine Vm (Zh1 (.ref l) (E:=E) (Q:=λobj s1=>obj=.ref s.heap.objs.size/\s1={s with heap:=s.heap.push {cls:=.type "set",dict:=none,data:=.set #[] 0 (.fresh 0 0 (!P8 w))}}) ⟨rfl,rfl⟩) λr s1 y=>?_
 cases r with
 |error e=>exact y
 |ok fl=>
  cases fl with
  |next=>exact y.elim
  |brk=>exact y.elim
  |cont=>exact y.elim
  |ret obj=>
   obtain⟨rfl,rfl⟩:=y;generalize J:s.heap.push {cls:=.type "set",dict:=none,data:=.set #[] 0 (.fresh 0 0 (!P8 w))}=n;have g1:n.get? s.heap.objs.size=some {cls:=.type "set",dict:=none,data:=.set #[] 0 (.fresh 0 0 (!P8 w))}:=by rw[←J];exact WQ _ rfl
   have hT:Shared.TypeIs {s with heap:=n} (.ref s.heap.objs.size) "set":=⟨_,g1,rfl⟩
   have ini:=F.called_set.init.lookup;have inb:=F.called_set.init.bind (.ref s.heap.objs.size)
   repeat (any_goals (first|assumption|wp_step))
   refine Vm (J8 (R:=wants (λr Y=>r=.none/\∃h u,Y={s with heap:=h,toks:=u}/\SetB w h s.heap.objs.size (ns.foldl Kw [])/\(∀b o,b<s.heap.objs.size->s.heap.get? b=some o->h.get? b=some o)) E)
    F.called_set.init.plain F.entry_set_init (check_set_init_1 hT ?_)) λr2 Y g=>?_
   ·obtain⟨ob,C,H,nl,G⟩:=hl;obtain⟨c1,d1,dt1,L⟩:=ob;simp only at H G;subst H;subst G;have z:n.get? l=some {cls:=.type "list",dict:=d1,data:=.seq f nl,slots:=L}:=by rw[←J];exact WD _ C
    have p:n.objs.size=s.heap.objs.size+1:=by rw[←J,Vj]
    have no1:=F.sub_list_set;have no2:=F.sub_list_frozenset;have no3:(Value.type "list" == Value.type "dict")=false:=by decide
    have L1:n.IsList l f:=⟨_,z,rfl,nl,rfl⟩;unfold Builtin.«set.__init__» noKeywords Builtin.Frozenset.updateFrom;generalize eP:pyIter=PI
    wp_walk
    subst eP;refine wpAny_pyIter_list L1 (W7<|wpAny_runValue ?_);have x:l<s.heap.objs.size:=WM C;have T:A.in1.in1.in1.handled=none:=by simp[hh]
    have N:l≠n.objs.size:=by rw[p];exact Qf (Jl x)
    have M:s.heap.objs.size∉[n.objs.size,l]:=by
     rw[p];simp only[WU,Jw,or_false,not_or];exact⟨Qf (V0 _),JY x⟩
    have W0:=Walks.list (prog:=prog) (w:=w) T n.objs.size l N f;rw[hn]at W0;refine Zbe (ns:=ns) W0 s.heap.objs.size M (λi v hv=>IntsAre.int_at hi i v (by rw[QO];exact hv)) room (ns.length-0) 0 _ [] rfl (QU _) ⟨⟨_,WQ _ rfl,rfl,rfl⟩,L1.push _⟩ ?_ (QU _) λh u keep B=>?_
    ·exact⟨#[],0,_,⟨_,WD _ g1,⟨rfl,rfl,rfl⟩,rfl⟩,λe he=>by simp at he,by simp,Vz,by show(0:Nat)<4096;decide,rfl,Tb.fresh _⟩
    ·show wpAny _ _ _ _ _ _;refine WE (show wpAny _ _ (ret Value.none) _ _ _ from WE ⟨rfl,h,u,rfl,B,λb o hb e=>?_⟩)
     refine keep b o ?_ (WD _<|by rw[←J];exact WD _ e);rw[p];simp only[WU,Jw,or_false,not_or];exact⟨Qf hb,Qf (Jl hb)⟩
   ·cases r2 with
    |error e=>exact g
    |ok f2=>
     cases f2 with
     |next=>exact g.elim
     |brk=>exact g.elim
     |cont=>exact g.elim
     |ret r=>
      obtain⟨rfl,h,u,rfl,B,keep⟩:=g
      repeat (any_goals (first|assumption|wp_step))
      exact U _ _ B keep
end
def si_slot:Slot "set_iterator" "__next__" "set_iterator.__next__":=
 Slot.of (owner:="set_iterator") (n:="__next__") (by rw[typeLookup_type,builtinLookup_eq_fast];kernel_rfl) (by decide +kernel) (by decide +kernel) (by decide +kernel)
  (by first|exact Or.inl (by decide +kernel)|exact Or.inr (by decide +kernel)) (by rw[isSubtype_type];kernel_rfl)
def Zf3:entryFor table "set_iterator.__next__"=some Builtin.«set_iterator.__next__»:=entryFor_of_tree rfl
def Zk1(a:Value):argsOk "set_iterator.__next__" ⟨[a],[]⟩:=by trivial
def Zop:entryFor table "set.__iter__"=some Builtin.«frozenset.__iter__»:=entryFor_alias (id':="frozenset.__iter__") (by kernel_rfl) rfl (by decide +kernel) (by kernel_rfl)
def Ml:Slot "set_iterator" "__iter__" "set_iterator.__iter__":=
 Slot.of (owner:="set_iterator") (n:="__iter__") (by rw[typeLookup_type,builtinLookup_eq_fast];kernel_rfl) (by decide +kernel) (by decide +kernel) (by decide +kernel)
  (by first|exact Or.inl (by decide +kernel)|exact Or.inr (by decide +kernel)) (by rw[isSubtype_type];kernel_rfl)
def Zoq:entryFor table "set_iterator.__iter__"=some Builtin.«dict_keyiterator.__iter__»:=entryFor_alias (id':="dict_keyiterator.__iter__") (by kernel_rfl) rfl (by decide +kernel) (by kernel_rfl)
def Zff(a:Value):argsOk "set_iterator.__iter__" ⟨[a],[]⟩:=by unfold argsOk;kernel_rfl
def SI(h:Heap)(I a:Addr)(first:Value)(i n f:Nat):Prop:=∃o,h.get? I=some o/\o.cls=.type "set_iterator"/\o.data=.fields #[first,.int i 0,.ref a,.int n 0,.int f 0]
section
variable {prog:Program}{w:World}{A:Around}{E:ZZ}{s:Shared}{I a:Addr}{first:Value}{i n ep:Nat}{js:ZW}{es:Yi}{t:SetTable}
def SI.typ (h:SI s.heap I a first i n ep):s.TypeIs (.ref I) "set_iterator":=let ⟨o,f,g,_⟩:=h;⟨o,f,g⟩
def SI.at (x:SI h I a first i n ep) (k:∀o,h.get? I=some o->g.get? I=some o):SI g I a first i n ep:=let ⟨o,f,r⟩:=x;⟨o,k o f,r⟩
noncomputable def Bk(first:Value)(a I:Addr)(i ep:Int):Sem PySem.Fin:=
 match first with
 |Value.int slot _=>do
  match ←setNext a slot.toNat i.toNat ep.toNat with
  |some (x,next)=>
   setField (.ref I) 0 (rawInt next)
   setField (.ref I) 1 (rawInt (i+1))
   ret x
  |none=>
   setField (.ref I) 2 .none
   raiseNew (←newExc (.type "StopIteration") [])
 |_=>do
  let some places ←seqItems? first|unsupported "internal:set_iterator"
  match places[i.toNat]? with
  |some (.int place _)=>
   let x ←setNextDrawn a place.toNat ep.toNat
   setField (.ref I) 1 (rawInt (i+1))
   ret x
  |some _=>unsupported "internal:set_iterator"
  |none=>
   setField (.ref I) 0 (rawInt 0)
   setField (.ref I) 2 .none
   raiseNew (←newExc (.type "StopIteration") [])
def Au(f:SI s.heap I a first i es.size ep)(S:Kv w s.heap a js es ep t)
  (body:wpAny (model prog w) A.in1 (Bk first a I i ep) (λp l=>∃v,p=.done (.ret v)/\Q (some v) l)
   (λe l=>wpAny (model prog w) A (isInstance e<|.type "StopIteration") (λb g=>b=true/\Q none g) E l) s) :
  wpAny (model prog w) A (pyNext<|.ref I) Q E s:=by
 obtain⟨o,x,C,hd⟩:=id f;obtain⟨B,r,hx,u⟩:=S.obj;refine W7 (wpAny_attempt<|Jh f.typ si_slot<|Vk si_slot f.typ Zf3 ?_<|Zk1 _);refine W7 (WE<|W7<|wpAny_fieldsOf x hd ?_);refine W7 (wpAny_setEntries_of r u S.fit ?_);rw[WG (by simp)];refine Qt body (λp l h=>?_) λe l h=>?_
 ·obtain⟨v,e,q⟩:=h;exact⟨v,e,WE q⟩
 ·refine W7 (Qt h (λb g y=>?_) λ_ _ z=>z);obtain⟨rfl,q⟩:=y;exact WE q
def RU{Q:Yg->Shared->Prop}{o}{vs}(r:A.handled=none)(p:s.heap.get? I=some o)(hd:o.data=.fields vs)(u:2<vs.size)(g:∀h,Heap.ExtBut I s.heap h->Q none {s with heap:=h}){R:PySem.Fin->Shared->Prop} :
  wpAny (model prog w) A.in1 (do setField (.ref I) 2 .none;raiseNew (←newExc (.type "StopIteration") [])) R (λe l=>wpAny (model prog w) A (isInstance e<|.type "StopIteration") (λb f=>b=true/\Q none f) E l) s:=by
 refine W7 (QZ p hd u<|W7 ?_);refine W7 (Q7 ?_<|by size_fits);refine W7 (wpAny_of_eq (by first|rfl|(simp only[firstArgMember];rfl))<|Q7 ?_<|by size_fits)
 simp only[raiseNew];refine W7 (wpAny_handled ?_);rw[r];refine W7 (WE<|wpAny_throw ?_);refine wpAny_isInstance ⟨_,WQ _ rfl,rfl⟩ isSubtype_stop ?_;exact⟨rfl,g _ (((QD ..).extBut.push _).push _)⟩
def SI.step1 {x:Value} (f:s.heap.get? I=some o) (g:o.cls=.type "set_iterator") (hd:o.data=.fields #[first,.int i 0,.ref a,.int n 0,.int ep 0]) :
  SI (s.heap.update I<|Obj.mapFields (·.setIfInBounds 1 (rawInt ((i:Int)+1)))) I a first (i+1) n ep:=
 ⟨_,Q0 _ f (Va<|QC hd _),(Jm ..).trans g,by rw[QC hd];simp[rawInt]⟩
def An(h:Q (P8 w) s):wpAny (model prog w) A setsByText Q E s:=W7 (wpAny_askSetting<|WE h)
def Zlx(S:Kv w s.heap a js es ep t)(l:P8 w=true)(h:Q (((pickOrder (w.params.setOrder a ep) es)[i]?).map λe=>(e.2,slot)) s) :
  wpAny (model prog w) A (setNext a slot i ep) Q E s:=by
 obtain⟨o,f,hx,g⟩:=S.obj;refine W7 (Vu f g S.fit<|W7<|An ?_);rw[l,WH rfl,WG (by simp)];refine W7 ?_;refine W7 (Vu f g S.fit<|W7<|An ?_);rw[l,WH rfl];exact W7 (wpAny_askSetting<|WE<|WE h)
def Zjx(S:Kv w s.heap a js es ep t)(l:P8 w=false)(o:(!t.plain&&decide (es.size>1))=false)(h:Q (match es[SetTable.below t.place slot]?,t.place[SetTable.below t.place slot]? with|some (_,x),some j=>some (x,j+1)|_,_=>none) s):wpAny (model prog w) A (setNext a slot i ep) Q E s:=by
 obtain⟨r,f,hx,g⟩:=S.obj;refine W7 (Vu f g S.fit<|W7<|An ?_);rw[l,WG (by decide)];show wpAny _ _ (if (!t.plain&&decide (es.size>1))=true then _ else _) _ _ _;rw[o,WG (by decide)];refine W7 (?_:wpAny _ _ (if (!t.led && !es.isEmpty)=true then unsupported "set:maker-not-led" else pure ()) _ _ _);have p:t.led=true:=by rw[S.tab.led,l];rfl
 rw[p,WG (by simp)];exact WE (WE h)
def Zba{p e}(S:Kv w s.heap a js es ep t)(l:es[p]?=some e)(h:Q e.2 s):wpAny (model prog w) A (setNextDrawn a p ep) Q E s:=by
 obtain⟨o,f,hx,g⟩:=S.obj;refine W7 (Vu f g S.fit ?_)
 dsimp only
 rw[WG (by simp),l];exact WE h
def Zl9{m}(f:m≠0)(h:∀k d,k<m->Q k {s with drawn:=d}):wpAny (model prog w) A (choose g m) Q E s:=by
 intro Γ p l;exact⟨f,h _ _ (Nat.mod_lt _<|Nat.pos_of_ne_zero f)⟩
theorem DB{f:Type}:∀(xs:List f) k h,(xs[k]::xs.eraseIdx k).Perm xs
 |x::r,0,_=>List.Perm.refl _
 |x::r,k+1,h=>by
  have g:k<r.length:=by grind
  exact(List.Perm.swap _ _ _).trans (List.Perm.cons _<|DB r k g)
def Zmd:∀m xs s {Q:List u->Shared->Prop},xs.length=m->(∀ys d,ys.Perm xs->Q ys {s with drawn:=d})->wpAny (model prog w) A (drawOrder m xs) Q E s:=by
 intro m
 induction m with
 |zero=>
  intro xs s Q f h;have e:=QG.mp f;subst e;exact WE (h [] s.drawn<|List.Perm.refl _)
 |succ m l=>
  intro xs s Q f h;cases xs with
  |nil=>grind
  |cons x r=>
   unfold drawOrder;refine W7 (Zl9 (by simp) λk d g=>?_);rw[W8 g];refine W7 (l _ _ (by grind) λys p o=>WE ?_);exact h _ p ((List.Perm.cons _ o).trans (DB _ _ g))
def Kv.keep (S:Kv w h a js es ep t) (k:∀o,h.get? a=some o->p.get? a=some o):Kv w p a js es ep t:=by
 obtain⟨⟨o,l,r⟩,b,c,d,e,f,g⟩:=S;exact⟨⟨o,k o l,r⟩,b,c,d,e,f,g⟩
def O5(f:SI s.heap I a first i n ep)(h:Q (.ref I) s):wpAny (model prog w) A (pyIter<|.ref I) Q E s:=by
 refine wpAny_pyIter_slot f.typ Ml (Vk Ml f.typ Zoq ?_<|Zff _);exact WE ⟨_,rfl, "set_iterator",_,f.typ,si_slot.lookup,h⟩
def LO(hh:A.handled=none)(I a:Addr)(hne:a≠I)(vs:Yc)(hl:vs.length=es.size)(sl:Nat->Nat)(nx:∀A E s i Q,i<=es.size->Kv w s.heap a js es ep t->Q ((vs[i]?).map λv=>(v,sl (i+1))) s->wpAny (model prog w) A (setNext a (sl i) i ep) Q E s) :
  Walks prog w A I [I,a] [I] es.size (λi v=>vs[i]?=some v) (λi h=>SI h I a (.int (sl i) 0) i es.size ep/\Kv w h a js es ep t) where
 sub:=λb hb=>by simp at hb;simp[hb]
 frame:=λ_ _ _ st k=>⟨st.1.at λo e=>k I (by simp) o e,st.2.keep λo e=>k a (by simp) o e⟩
 item:=λi s Q E hi st fin=>by
  obtain⟨o,ho,hc,hd⟩:=id st.1;refine Au st.1 st.2 ?_;unfold Bk
  dsimp only
  rw[Qy,Qy,Qy];refine W7 (nx _ _ s i _ (VW hi) st.2 ?_);have hi2:i<vs.length:=by lia
  rw[W8 hi2];refine W7 (QZ ho hd (by simp) ?_);have g1:=Q0 (Obj.mapFields (·.setIfInBounds 0 (rawInt (sl (i+1):Int)))) ho (Va<|QC hd _);have d1:(Obj.mapFields (·.setIfInBounds 0 (rawInt (sl (i+1):Int))) o).data=.fields #[.int (sl (i+1)) 0,.int i 0,.ref a,.int es.size 0,.int ep 0]:=by rw[QC hd];simp[rawInt]
  refine W7 (QZ g1 d1 (by simp) ?_);have sb:=(QD s.heap I<|Obj.mapFields (·.setIfInBounds 0 (rawInt (sl (i+1):Int)))).trans (QD _ I<|Obj.mapFields (·.setIfInBounds 1 (rawInt ((i:Int)+1))));refine WE ⟨_,rfl,fin vs[i] _ s.toks (W8 hi2) ⟨?_,st.2.keep λo e=>sb.extBut a o hne e⟩ λb o hb e=>sb.extBut b o (λz=>hb (by simp[z])) e⟩;exact SI.step1 (x:=.none) g1 ((Jm ..).trans hc) d1
 done:=λs Q E st fin=>by
  obtain⟨o,ho,hc,hd⟩:=id st.1;refine Au st.1 st.2 ?_;unfold Bk
  dsimp only
  rw[Qy,Qy,Qy];refine W7 (nx _ _ s es.size _ (WI _) st.2 ?_);rw[Vo (by lia)];exact RU hh ho hd (by simp) λh' eb=>fin h' s.toks λb o hb e=>eb b o (λz=>hb (by simp[z])) e
 self:=λ_ _ _ _ st fin=>O5 st.1 fin
def Zjs(hh:A.handled=none)(I a T:Addr)(hne:a≠I)(hT:T≠I)(ps:Yb)(hl:ps.length=es.size)(hps:∀p∈ps,p<es.size)(vs:Yc)(hvs:vs=ps.map λp=>((es[p]?).map (·.2)).getD .none) :
  Walks prog w A I [I,a,T] [I] es.size (λi v=>vs[i]?=some v) (λi h=>SI h I a (.ref T) i es.size ep/\Kv w h a js es ep t/\∃o,h.get? T=some o/\∃c,o.data=.seq (ps.map λ(p:Nat)=>rawInt p).toArray c) where
 sub:=λb hb=>by simp at hb;simp[hb]
 frame:=λ_ _ _ st k=>⟨st.1.at λo e=>k I (by simp) o e,st.2.1.keep λo e=>k a (by simp) o e,let ⟨o,ho,c⟩:=st.2.2;⟨o,k T (by simp) o ho,c⟩⟩
 item:=λi s Q E hi st fin=>by
  obtain⟨o,ho,hc,hd⟩:=id st.1;obtain⟨oT,hoT,c,hdT⟩:=st.2.2;refine Au st.1 st.2.1 ?_;unfold Bk
  dsimp only
  refine W7 (wpAny_seqItems hoT hdT ?_);have hi2:i<ps.length:=by lia
  have e1:(ps.map λ(p:Nat)=>rawInt p).toArray[(i:Int).toNat]?=some (.int ps[i] 0):=by
   rw[Qy,List.getElem?_toArray,WL,W8 hi2];rfl
  have hp:=hps _ (WW hi2)
  dsimp only
  rw[e1]
  dsimp only
  have e3:vs[i]?=some (es[ps[i]]).2:=by rw[hvs,WL,W8 hi2];simp[hp]
  refine W7 (Zba st.2.1 (QN hp)<|W7<|QZ ho hd (by simp) ?_);have sb:=QD s.heap I (Obj.mapFields (·.setIfInBounds 1 (rawInt ((i:Int)+1))));exact WE ⟨_,rfl,fin _ _ s.toks e3 ⟨SI.step1 (x:=.none) ho hc hd,st.2.1.keep λo e=>sb.extBut a o hne e,oT,sb.extBut T oT hT hoT,c,hdT⟩ λb o hb e=>sb.extBut b o (λz=>hb (by simp[z])) e⟩
 done:=λs Q E st fin=>by
  obtain⟨o,ho,hc,hd⟩:=id st.1;obtain⟨oT,hoT,c,hdT⟩:=st.2.2;refine Au st.1 st.2.1 ?_;unfold Bk
  dsimp only
  refine W7 (wpAny_seqItems hoT hdT ?_)
  have e1:(ps.map λ(p:Nat)=>rawInt p).toArray[(es.size:Int).toNat]?=none:=by
   rw[Qy,List.getElem?_toArray,WL,Vo (by lia)];rfl
  dsimp only
  rw[e1]
  dsimp only
  refine W7 (QZ ho hd (by simp) ?_);refine RU (s:={s with heap:=_}) hh (Q0 (Obj.mapFields (·.setIfInBounds 0 (rawInt 0))) ho<|Va<|QC hd _) (QC hd _) (by simp) λh' eb=>fin h' s.toks λb o hb e=>eb b o (λz=>hb (by simp[z])) ((QD s.heap I<|Obj.mapFields (·.setIfInBounds 0 (rawInt 0))).extBut b o (λz=>hb (by simp[z])) e)
 self:=λ_ _ _ _ st fin=>O5 st.1 fin
def Zef(nx:Nat->Nat):∀m k left (f:Array o),left.length=m->(pickOrder.go nx m k left f).toList.Perm (f.toList++left):=by
 intro m
 induction m with
 |zero=>
  intro k left f h;have e:=QG.mp h;subst e;show f.toList.Perm (f.toList++[]);simp
 |succ m l=>
  intro k left f h;have g:nx k % left.length<left.length:=Nat.mod_lt _ (by lia);unfold pickOrder.go;rw[W8 g];refine(l _ _ _<|by grind).trans ?_;rw[Array.toList_push,VB];exact(DB left _ g).append_left _
def Li(nx:Nat->Nat)(xs:Array f):(pickOrder nx xs).toList.Perm xs.toList:=by
 have:=Zef nx xs.size 0 xs.toList #[] rfl
 simpa [pickOrder]using this
noncomputable def slotAt(t:SetTable)(i:Nat):Nat:=if i=0 then 0 else t.place.getD (i-1) 0+1
def HQ(h:t.fits m=true):t.place.size=m:=by
 simp only[SetTable.fits,Qx,beq_iff_eq]at h
 grind
def Zeq(S:Kv w s.heap a js es ep t){i}(o:i<=es.size):SetTable.below t.place (slotAt t i)=i:=by
 have h:=HQ S.fit;have R:=S.tab.ris.ris;refine Zc1 R (by lia) (λk l=>?_) λk p f=>?_
 ·unfold slotAt;rw[WG (by lia)];by_cases e:k=i-1
  ·rw[e];lia
  ·have:=R k (i-1) (by lia) (by lia)
   lia
 ·unfold slotAt;by_cases g:i=0
  ·grind
  ·rw[WG g]
   have:=R (i-1) k (by lia) f
   lia
def Zrc{A'}(M:A'.handled=none)(S:Kv w s.heap a js es ep t)
  (l:∀I fp (vs:Yc) St N d1,Walks prog w A' I fp [I] es.size (λi v=>vs[i]?=some v) St->St 0 N->(∀b∈fp,b=a\/s.heap.get? b=none)->vs.length=es.size->vs.Perm (es.toList.map (·.2))->
   s.heap.get? I=none->(∀b o,s.heap.get? b=some o->N.get? b=some o)->Q (.ref I) {s with heap:=N,drawn:=d1}) :
  wpAny (model prog w) A (pyIter<|.ref a) Q E s:=by
 obtain⟨ob,g,hx,h⟩:=S.obj;have hT:s.TypeIs (.ref a) "set":=⟨ob,g,hx.1⟩;have ha:=WM g
 have new:∀b,s.heap.objs.size<=b->s.heap.get? b=none:=λb f=>by
  cases e:s.heap.get? b with
  |none=>rfl
  |some o=>exact absurd (WM e) (J9.mpr f)
 refine wpAny_pyIter_slot hT F.slot_set_iter (Vk F.slot_set_iter hT Zop ?_<|F.args_set_iter_1 _);unfold Builtin.«frozenset.__iter__»;show wpAny _ _ (Builtin.Frozenset.sizeOf a >>= _) _ _ s;unfold Builtin.Frozenset.sizeOf;refine W7 (W7<|wpAny_setEntries_of g h S.fit<|WE ?_);refine W7 ?_;unfold setDrawn;refine W7 (Vu g h S.fit<|W7<|An<|WE ?_)
 dsimp only
 change wpAny _ _ (if (!P8 w&&(!t.plain&&decide (es.size>1)))=true then _ else _) _ _ _;cases hd:(!P8 w&&(!t.plain&&decide (es.size>1)))with
 |false=>
  rw[WG (by decide)];refine W7 (WE<|W7<|wpAny_setEpoch_of g h S.fit<|W7<|Q7<|WE ⟨_,rfl, "set_iterator",_,⟨_,WQ _ rfl,rfl⟩,si_slot.lookup,?_⟩);have B:=Qf ha;have S1:Kv w (s.heap.push {cls:=.type "set_iterator",data:=.fields [rawInt 0,rawInt 0,.ref a,rawInt es.size,rawInt ep].toArray}) a js es ep t:=S.keep λo e=>WD _ e
  have lt:∀b∈[s.heap.objs.size,a],b=a\/s.heap.get? b=none:=λb f=>by
   rcases WU.mp f with rfl|f
   ·exact .inr (new _<|WI _)
   ·exact .inl (WB.mp f)
  cases f:P8 w with
  |true=>
   have u:((pickOrder (w.params.setOrder a ep) es).toList.map (·.2)).length=es.size:=by
    rw[W6,(Li _ _).length_eq];simp
   refine l _ _ _ _ _ s.drawn (LO M s.heap.objs.size a B ((pickOrder (w.params.setOrder a ep) es).toList.map (·.2)) u (λ_=>0) λA E s i Q hi G q=>Zlx G f ?_) ⟨⟨_,WQ _ rfl,rfl,rfl⟩,S1⟩ lt u ((Li _ _).map _) (new _<|WI _) λb o e=>WD _ e;rw[WL]at q;rw[←QO];cases e:(pickOrder (w.params.setOrder a ep) es).toList[i]? with
   |none=>rw[e]at q;exact q
   |some x=>rw[e]at q;exact q
  |false=>
   have y:(!t.plain&&decide (es.size>1))=false:=by rw[f]at hd;simpa using hd
   refine l _ _ _ _ _ s.drawn (LO M s.heap.objs.size a B (es.toList.map (·.2)) (by simp) (slotAt t) λA E s i Q hi G q=>Zjx G f y ?_) ⟨⟨_,WQ _ rfl,rfl,rfl⟩,S1⟩ lt (by simp) (List.Perm.refl _) (new _<|WI _) λb o e=>WD _ e;rw[Zeq G hi];have hz:=HQ G.fit;rw[WL]at q;by_cases L:i<es.size
   ·have C:=QN L;have e2:t.place[i]?=some t.place[i]:=QN (by lia);have U:es.toList[i]?=some es[i]:=by rw[QO];exact C
    rw[U]at q;rw[C,e2]
    have e4:slotAt t (i+1)=t.place[i]+1:=by
     unfold slotAt;rw[WG (by lia)]
     have:i<t.place.size:=by lia
     simp[Array.getD,this]
    have Y:=q;rw[e4]at Y;exact Y
   ·have C:es[i]?=none:=Jq (by lia);have U:es.toList[i]?=none:=by rw[QO];exact C
    rw[U]at q;rwa[C]
 |true=>
  rw[WH rfl];refine W7 (Zmd _ _ s (by simp) λr d y=>?_);have u:r.length=es.size:=by rw[y.length_eq];simp
  have J:∀p∈r,p<es.size:=λp hm=>JJ.mp (y.mem_iff.mp hm);refine W7 (Q7 ?_<|by show(r.map λ(i:Nat)=>rawInt i).toArray.size<=sizeLine;rw[Ql,W6,u];exact Jk S.few);have z:=WD {cls:=.type "tuple",data:=.seq (r.map λ(i:Nat)=>rawInt i).toArray} g;refine W7 (wpAny_setEpoch_of z h S.fit<|W7<|Q7<|WE ⟨_,rfl, "set_iterator",_,⟨_,WQ _ rfl,rfl⟩,si_slot.lookup,?_⟩);have H:(s.heap.push {cls:=.type "tuple",data:=.seq (r.map λ(i:Nat)=>rawInt i).toArray}).objs.size=s.heap.objs.size+1:=Vj ..
  have T:(List.range es.size).map (λp=>((es[p]?).map (·.2)).getD Value.none)=es.toList.map (·.2):=by
   apply JX;intro k;by_cases hk:k<es.size
   ·simp[hk]
   ·have:es.size<=k:=by lia
    simp[this]
  refine l _ _ _ _ _ d (Zjs M _ a s.heap.objs.size ?_ ?_ r u J _ rfl) ⟨⟨_,WQ _ rfl,rfl,rfl⟩,S.keep λo e=>WD _ (WD _ e),_,WD _ (WQ _ rfl),0,rfl⟩ (λb f=>?_) (by rw[W6];exact u) ?_ (new _ ?_) λb o e=>WD _ (WD _ e)
  ·show a≠_;rw[H];exact Qf (Jl ha)
  ·show s.heap.objs.size≠_;rw[H];exact Qf (V0 _)
  ·rcases WU.mp f with rfl|f
   ·refine .inr (new _ ?_);show s.heap.objs.size<=_;rw[H];exact VA _
   ·rcases WU.mp f with rfl|f
    ·exact .inl rfl
    ·rw[WB.mp f];exact .inr (new _<|WI _)
  ·rw[←T];exact y.map _
  ·show s.heap.objs.size<=_;rw[H];exact VA _
def Zcp(g:s.TypeIs (.ref a) "set")(h:Q false s):wpAny (model prog w) A (Builtin.List.listLengthHint<|.ref a) Q E s:=by
 refine W7 (wpAny_specialOf g F.slot_set_len.lookup ?_);generalize f:("set.__len__" : String)=z
 wp_delta
 have l:splitId z=some ("set","__len__"):=by subst f;decide +kernel
 rw[l];subst f;refine W7 (wpAny_isInstance (b:=true) g (by rw[isSubtype_type];kernel_rfl) (wpAny_ite_split (λz=>absurd z (by decide)) λ_=>?_));exact wpAny_ite_split (λ_=>W7 (wpAny_typeOf g<|WE h)) λz=>absurd (by decide +kernel) z
def Zhr(hh:A.handled=none)(S:Kv w s.heap a js es ep t)(D:Addr)(c:Nat)(g:Value)(hD:s.heap.get? D=some {cls:=.type "list",data:=.seq #[] c})(G:D≠a)(fin:∀h' M d (vs:Yc) y,vs.Perm (es.toList.map (·.2))->h'.get? D=some {cls:=.type "list",dict:=none,data:=.seq vs.toArray y,slots:=#[]}->(∀b o,b≠D->s.heap.get? b=some o->h'.get? b=some o)->R (.ok<|.ret g) {s with heap:=h',toks:=M,drawn:=d}) :
  wpAny (model prog w) A.in1 (Builtin.List.listExtendWith (.ref D) (.ref a) g) (λf v=>match f with | .done f=>R (.ok f) v | .again y=>y.quiet=true/\codeAny (model prog w) A y R v) (λe v=>R (.error e) v) s:=by
 obtain⟨ob,C,hx,hdd⟩:=S.obj;have hT:s.TypeIs (.ref a) "set":=⟨ob,C,hx.1⟩;unfold Builtin.List.listExtendWith;refine W7 (wpAny_typeOf hT ?_);have n1:Builtin.List.listSameRef (.ref D) (.ref a)=false:=by simp[Builtin.List.listSameRef,G]
 have n2:(Value.type "set" == Value.type "list")=false:=by decide
 have n3:(Value.type "set" == Value.type "tuple")=false:=by decide
 simp only[n1,n2,n3,Bool.or_false,Jb,Jv];refine W7 (Zrc (A':=A.in1) hh S λI fp vs St h1 d1 W Q flt hl hp Y keep=>?_);have hDI:D≠I:=λz=>by rw[←z,hD]at Y;cases Y
 have loop:∀h M c1,St 0 h->(∀b o,b≠D->s.heap.get? b=some o->h.get? b=some o)->h.get? D=some {cls:=.type "list",data:=.seq #[] c1}->D∉fp->
   codeAny (model prog w) A (.builtin "list.extend.loop" ⟨[.ref D,.ref I,g],[]⟩) R {s with heap:=h,toks:=M,drawn:=d1}:=λh M c1 st hk r p=>by
  refine codeAny_extend_loopS W.toS (Jk S.few) D p g es.size 0 _ #[] c1 rfl (QU _) st r (ItemsOf.nil _) λv x y N L u=>?_
  have ev:x.toList=vs:=by
   apply JX;intro k;by_cases T:k<x.size
   ·have e1:=QN T;rw[QO,e1];exact(u.2 k _ e1).symm
   ·rw[QO,Jq (by lia),Vo (by have:=u.1;lia)]
  have e2:x=vs.toArray:=by rw[←ev]
  rw[e2]at L;rw[Moved.eq_with N];refine fin v.heap v.toks d1 vs y hp L λb o l e=>N.heap b o (λH=>?_) (hk b o l e);rcases WU.mp H with z|z
  ·exact l z
  ·rw[WB.mp z,Y]at e;cases e
 have p:D∉fp:=λN=>by
  rcases flt D N with z|z
  ·exact G z
  ·rw[hD]at z;cases z
 have U:Shared.TypeIs {s with heap:=h1,drawn:=d1} (.ref a) "set":=⟨ob,keep _ _ C,hx.1⟩
 refine W7 (QJ<|Zcp U ?_);have r:=keep _ _ hD;refine W7 (wpAny_rule<|W7 (?_:wpAny _ _ (updateSeq D (·.push .none) >>= λ_=>updateSeq D (·.pop)) _ _ _));refine W7 (wpAny_updateSeq r rfl ?_);have J:=Q0 (Obj.mapSeq (·.push Value.none)) r rfl;refine wpAny_updateSeq J rfl ?_
 have B:∀b o,b≠D->h1.get? b=some o->((h1.update D<|Obj.mapSeq (·.push Value.none)).update D (Obj.mapSeq (·.pop))).get? b=some o:=λb o l e=>
  (Q8 _ _<|Ne.symm l).trans ((Q8 _ _<|Ne.symm l).trans e)
 exact WE ⟨plainId_quiet F.plain_extend_loop _,loop _ _ _ (W.frame 0 _ _ Q λb l o e=>B b o (λz=>p (z▸l)) e) (λb o l e=>B b o l (keep b o e)) (Q0 (Obj.mapSeq (·.pop)) J rfl) p⟩
def Zcf(G:A.handled=none)(S:Kv w s.heap a js es ep t)(u:∀g h d vs,vs.Perm (es.toList.map (·.2))->(∀b o,s.heap.get? b=some o->g.get? b=some o)->s.heap.objs.size<g.objs.size->R vs {s with heap:=g,toks:=h,drawn:=d}) :
  wpAny (model prog w) A (collect<|.ref a) R E s:=by
 obtain⟨Q,C,hx,H⟩:=S.obj;refine W7 (wpAny_runValue<|V8 entry_proto_collect' ?_);have M:=VO (A:=A) PySem.F.plain_proto_collect ⟨[.ref a],[]⟩;refine(W7<|Q7<|WE ⟨plainId_quiet PySem.F.plain_list_iadd _,V8 entry_list_iadd' ?_⟩);rw[(VO (A:=A) PySem.F.plain_list_iadd ⟨[.ref s.heap.objs.size,.ref a],[]⟩)];have J:(s.heap.push {cls:=.type "list",data:=.seq ([]:Yc).toArray}).get? s.heap.objs.size=some {cls:=.type "list",data:=.seq #[]}:=WQ _ rfl
 have B:=Zhr (prog:=prog) (s:={s with heap:=s.heap.push {cls:=.type "list",data:=.seq ([]:Yc).toArray}})
  (R:=λq z=>∃g h d vs v,q=.ok (.ret<|.ref s.heap.objs.size)/\z={s with heap:=g,toks:=h,drawn:=d}/\vs.Perm (es.toList.map (·.2))/\(∀b o,s.heap.get? b=some o->g.get? b=some o)/\
   g.get? s.heap.objs.size=some {cls:=.type "list",dict:=none,data:=.seq vs.toArray v,slots:=#[]}) G (S.keep λo e=>WD _ e) s.heap.objs.size 0 (.ref s.heap.objs.size) J (JY<|WM C)
  λg h d vs v p l r=>⟨g,h,d,vs,v,rfl,rfl,p,λb o e=>r b o (Qf<|WM e) (WD _ e),l⟩
 refine Qt B (λf z x=>?_) λe z x=>?_
 ·cases f with
  |done f=>
   obtain⟨g,h,d,vs,v,e,rfl,p,r,l⟩:=x;cases e
   refine(W7<|wpAny_load l<|WE ?_);exact u g h d vs p r (WM l)
  |again T=>
   refine⟨x.1,Vm x.2 λq N y=>?_⟩;obtain⟨g,h,d,vs,v,rfl,rfl,p,r,l⟩:=y;refine(W7<|wpAny_load l<|WE ?_);exact u g h d vs p r (WM l)
 ·obtain⟨_,_,_,_,_,L,_⟩:=x;cases L
theorem Ib:∀{l:List (Int×Value)},(∀e∈l,Ent e)->IntsAre (l.map (·.2)) (l.map keyOf)
 |[],_=>.nil
 |e::r,h=>by
  obtain⟨k,t,rfl⟩:=h e Qs;exact .cons k t (Ib λx hx=>h x (Qb _ hx))
def Zo6{vs us}(p:vs.Perm us):∀{ns:ZW},IntsAre us ns->∃f,IntsAre vs f/\f.Perm ns:=by
 induction p with
 |cons x _ v=>
  intro ns h;cases h with
  |cons n t r=>
   obtain⟨f,B,z⟩:=v r;exact⟨n::f,.cons n t B,List.Perm.cons _ z⟩
 |swap x y l=>
  intro ns h;cases h with
  |cons n t r=>
   cases r with
   |cons g o u=>exact⟨g::n::_,.cons g o (.cons n t u),List.Perm.swap _ _ _⟩
 |_=>grind
def Zgi(L:A.handled=none)(B:SetB w s.heap a js)(x:js.length<64)
  (C:∀l y u d f ns e,IntsAre f ns->ns.Perm js->ns.Pairwise (·<=·)->s.heap.get? l=none->s.heap.objs.size<=l->y.get? l=some {cls:=.type "list",data:=.seq f.toArray e}->
   (∀b o,s.heap.get? b=some o->y.get? b=some o)->Q (.ref l) {s with heap:=y,toks:=u,drawn:=d}) :
  wpAny (model prog w) A (call (.builtin "sorted") [.ref a]) Q E s:=by
 obtain⟨es,ep,t,S⟩:=B;refine Calls.call_function_entry kind_sorted plain_sorted entry_sorted (args_sorted1 _) ?_;refine W7 (WE<|W7 (Zcf L S λp u d r H keep big=>?_));obtain⟨N,G,v⟩:=Zo6 H (Ib S.ent);have g:=v.trans S.per;have J:r.length<64:=by rw[IntsAre.length G,g.length_eq];exact x
 refine W7 (wpAny_newList ?_<|by have:(64:Nat)<=sizeLine:=(by decide);lia);have z:(p.push<|seqObj "list" r.toArray 0).get? p.objs.size=some (seqObj "list" r.toArray 0):=WQ _ rfl;refine W7 (QJ<|Vk slot_list_sort ⟨_,z,rfl⟩ entry_list_sort (list_sort_tree z G J λf ns a1 a2 a3=>⟨_,rfl,?_⟩)<|args_list_sort _);obtain⟨e,M⟩:=sortedHeap_at z;refine WE ⟨_,rfl,C p.objs.size _ u d f.toList ns e a1 (a2.trans g) a3 ?_ (VW big) (by simpa [seqObj]using M) λb o q=>?_⟩
 ·cases q:s.heap.get? p.objs.size with
  |none=>rfl
  |some o=>exact absurd (WM<|keep _ _ q) (QI _)
 ·have h:=WM (keep b o q);rw[sortedHeap_old (Qf h) (by rw[size_push'];exact Jl h)];exact WD _ (keep b o q)
end
end SetR
namespace Own
open PySem PySem.Spec PyProof.Rows L2
noncomputable def N7(w:World)(l:Addr)(f:ZW):HO:=.ext λh=>SetR.SetB w h l f
section
variable {X:Cx}
def Zj0{w H h l f}(B:SetR.SetB w h l f):ObjOk P w H h l (N7 w l f):=by
 refine⟨B,?_,λr p g k=>g.at k⟩;obtain⟨s,u,t,S⟩:=B;obtain⟨o,n,_⟩:=S.obj
 grind
def Zhf(y:X.calm=true):Kn X (.type "set") (λxs H Q=>∃(p:Addr) (ns:ZW),xs=[.ref p]/\SqL X.K H p (ns.map V.int)/\ns.length+1<4096/\∀l,H l=none->Q (.ref l) (upd H l<|N7 X.w l<|ns.foldl SetR.Kw [])):=by
 intro pins s A H xs C Q I f h;obtain⟨p,ns,rfl,z,x,q⟩:=h;obtain⟨u,rfl,g⟩:=f.one;obtain rfl:=g;obtain⟨v,r,n,_⟩:=I.list z;refine SetR.Zk7 (I.ok.hd y) n.isList (by simpa using Ac r) x λG E B keep=>?_;exact⟨.ref s.heap.objs.size,upd H s.heap.objs.size (N7 X.w s.heap.objs.size _),I.laid (λb o e=>keep b o (WM e) e) (WI _) (Zj0 B),rfl,q _ (I.hok.fresh<|WI _)⟩
def HA(N:X.calm=true):Kn X (.builtin "sorted") (λxs H Q=>∃p g,xs=[.ref p]/\g.length<64/\(SqL X.K H p (g.map V.int)\/H p=some (N7 X.w p g))/\
  ∀l (ns:ZW),H l=none->ns.Perm g->ns.Pairwise (·<=·)->Q (.ref l) (upd H l<|.lst<|ns.map V.int)):=by
 intro pins s U H xs Y Q I G h;obtain⟨p,g,rfl,A,v,q⟩:=h;obtain⟨u,rfl,J⟩:=G.one;obtain rfl:=J
 have big:∀{ns:ZW},ns.Perm g->(ns.map V.int).length<=sizeLine:=λM=>by
  rw[W6,M.length_eq]
  have:(64:Nat)<=sizeLine:=by decide
  lia
 rcases v with v|v
 ·obtain⟨n,r,L,_⟩:=I.list v;have E:IntsAre n g:=by simpa using Ac r
  refine sorted_ints L.isList E (by rw[IntsAre.length E];exact A) λf ns a1 a2 a3=>?_;obtain⟨e,C⟩:=sortedAll_at s.heap n f;have x:=I.hok.fresh (VA _);refine⟨.ref (s.heap.objs.size+1),upd H (s.heap.objs.size+1) (.lst<|ns.map V.int),I.laid (λb o e=>sortedAll_old e) (VA _) ⟨big a2,f.toList,e,Aj a1,?_⟩,rfl,q _ ns x a2 a3⟩;omega
 ·have B:=(I.hok p _ v).1;refine SetR.Zgi (I.ok.hd N) B A λl T tk d f ns e a1 a2 a3 nl y C keep=>?_;have x:=I.hok.fresh y;refine⟨.ref l,upd H l (.lst<|ns.map V.int),?_,rfl,q l ns x a2 a3⟩;have ok:HOk X.prog X.w (upd H l<|.lst<|ns.map V.int) T:=I.hok.laid keep y ⟨big a2,f,e,Aj a1,C⟩;exact I.call (ch:=[]) (Un.laid keep y x) ok I.bare (λb z=>absurd z (by simp))
end
section
variable {X:Cx}{K:ZU}
def O1(f:autoParam (X.K=K) au_0):IxR X (λx y H Q=>Bs K x y H Q\/SX K x y H Q):=by subst f;exact Zgb
def Ze2(f:autoParam (X.K=K) au_0):Kn X (.builtin "len") (λxs H Q=>∃x n,xs=[x]/\FZ K x H n/\Q (.int n) H):=by subst f;exact Zrp
def Zex(f:autoParam (X.K=K) au_0):OpR X (compareOp .In) (rIn K false):=by subst f;exact Zaj
def Zjc(f:autoParam (X.K=K) au_0):OpR X (compareOp .NotIn) (rIn K true):=by subst f;exact Zcl
def Ai{pos es k t n}(l:X.calm=true)(h:PGs X es t)(o:autoParam (X.K=K) au_0)(g:autoParam ((assignEach es X.env).length=n) au_0)(f:autoParam ((assignEach es X.env).findIdx? (·.1)=none) au_0):PG X (.Tuple es k pos) (D2 K n t):=by subst o;exact Zch l h g f
end
section
variable {α:Type}{R:Hp->V->α->Prop}{φ:Ya}{g:TG}{tc:TT}{te:TE}{σ:L2.St}{H1:Hp}{F:Hp->Prop}{D:Addr}
def Zb4{K a xs}{ds:List α}(f:α->Option V)(v:SqL K H1 a xs)(hd:xs.length=ds.length)(E:H1 D=none)(H:ds.length<=sizeLine)(turn:∀(i:Nat) x d l,xs[i]?=some x->ds[i]?=some d->Same H1 l->∀k:Option V->Hp->Prop,k (f d) l->g x (atStart φ σ) l λh w=>Sub (atStart φ σ) h/\tc h w λb r=>if b=true then te h r λy u=>k (some y) u else k none r)(done:F (upd H1 D<|.lst<|ds.filterMap f)) :
  ∃W:Nat->Nat->List V->Hp->Prop,(∃m,W 0 m [] (upd H1 D<|.lst []))/\
   ∀i m ys l,W i m ys l->((Itl K a).stop i l/\F l)\/((Itl K a).go i l/\∀x z,(Itl K a).yld i l x z->g x (atStart φ σ) z λh w=>Sub (atStart φ σ) h/\tc h w λb r=>
    if b=true then te h r λy u=>u D=some (.lst ys)/\ys.length<sizeLine/\∃n,n<m/\W (i+1) n (ys++[y]) (upd u D<|.lst (ys++[y]))else ∃n,n<m/\W (i+1) n ys r):=by
 refine⟨λi m ys l=>m=ds.length-i/\i<=ds.length/\ys=(ds.take i).filterMap f/\l=upd H1 D (.lst ys),⟨ds.length,by simp,QU _,by simp,rfl⟩,?_⟩;rintro i m ys l ⟨rfl,J,rfl,rfl⟩;have s:Same H1 (upd H1 D<|.lst ((ds.take i).filterMap f)):=XU E;by_cases p:i<ds.length
 ·refine .inr ⟨⟨xs,xs[i]'(by lia),s.seq v,by simp[hd,p]⟩,λx z y=>?_⟩;obtain⟨e,y⟩:=y;subst e
  refine turn i x ds[i] _ (y xs<|s.seq v) (W8 p) s (λo A=>match o with
   |some y=>A D=some (.lst ((ds.take i).filterMap f))/\((ds.take i).filterMap f).length<sizeLine/\∃n,n<ds.length-i/\(n=ds.length-(i+1)/\i+1<=ds.length/\(ds.take i).filterMap f++[y]=(ds.take (i+1)).filterMap f/\upd A D (.lst ((ds.take i).filterMap f++[y]))=upd H1 D (.lst ((ds.take i).filterMap f++[y])))
   |none=>∃n,n<ds.length-i/\(n=ds.length-(i+1)/\i+1<=ds.length/\(ds.take i).filterMap f=(ds.take (i+1)).filterMap f/\A=upd H1 D (.lst ((ds.take i).filterMap f)))) ?_
  have B:=WN p;cases C:f ds[i]with
  |some y=>
   refine⟨X5,?_,ds.length-(i+1),by lia,rfl,p,?_,HV⟩
   ·have G:=List.length_filterMap_le f (ds.take i);rw[Qa]at G;lia
   ·rw[B,VH];simp[C]
  |none=>
   refine⟨ds.length-(i+1),by lia,rfl,p,?_,rfl⟩;rw[B,VH];simp[C]
 ·have e:i=ds.length:=by lia
  subst e;refine .inl ⟨⟨xs,s.seq v,by lia⟩,?_⟩;rwa[Qp]
end
noncomputable def eqL(xs ys:List V):Bool:=decide (xs.length=ys.length)&&(List.range xs.length).all λj=>eqV (xs.getD j .non) (ys.getD j .non)
noncomputable def Tw(K:ZU)(neg:Bool):R2:=λx y H Q=>∃(p q:Addr) (xs f:List V),x=.ref p/\y=.ref q/\SqL K H p xs/\SqL K H q f/\xs.all KJ=true/\f.all KJ=true/\Q (.bl (if neg then !eqL xs f else eqL xs f)) H
section
variable {X:Cx}
def Eu{xs ys us f}(l:Vals xs us)(h:Vals ys f)(f1:xs.all KJ=true)(x:ys.all KJ=true)(j:Nat)(v:j<us.toArray.size)(r:j<f.toArray.size) :
  SeqAt.EqAt A s us.toArray[j] f.toArray[j] (eqV (xs.getD j .non)<|ys.getD j .non):=by
 have G:=l.length;have E:=h.length;have J:j<us.length:=by simpa using v
 have H:j<f.length:=by simpa using r
 have o:xs[j]?=some (xs[j]'(by lia)):=W8 _;have n:ys[j]?=some (ys[j]'(by lia)):=W8 _;obtain⟨u,M,p⟩:=l.get o;obtain⟨w,L,g⟩:=h.get n;have z:us.toArray[j]=u:=by grind
 have y:f.toArray[j]=w:=by grind
 have C:xs.getD j .non=xs[j]'(by lia):=by rw[WC,o];rfl
 have B:ys.getD j .non=ys[j]'(by lia):=by rw[WC,n];rfl
 rw[z,y,C,B];exact RD p g (V1.mp f1 _<|WW _) (V1.mp x _<|WW _)
def R6(r:X.A.units<cLine):OpR X (compareOp .Eq) (Tw X.K false):=by
 intro pins s J H x y v u Q I z w h;obtain⟨p,q,xs,f,rfl,rfl,B,hq,f1,G,k⟩:=h;obtain rfl:=z;obtain rfl:=w;obtain⟨M,l,n,_⟩:=I.list B;obtain⟨L,g,p2,_⟩:=I.list hq;have T:=l.length;have N:=g.length;have o:=k;by_cases e:xs.length=f.length
 ·refine SeqAt.eq_listAt n.isList p2.isList (by simp;lia) r (λj E C=>Eu l g f1 G j E C) ⟨.bl (eqL xs f),H,I,?_,o⟩;show _=Value.bool (eqL xs f);unfold eqL
  grind
 ·refine SeqAt.eq_list_lengthsAt n.isList p2.isList (by simp;lia) r ⟨.bl (eqL xs f),H,I,?_,o⟩;unfold eqL;rw[Qq e];rfl
def Zb7(r:X.A.units<cLine):OpR X (compareOp .NotEq) (Tw X.K true):=by
 intro pins s J H x y v u Q I z w h;obtain⟨p,q,xs,f,rfl,rfl,B,hq,f1,G,k⟩:=h;obtain rfl:=z;obtain rfl:=w;obtain⟨M,l,n,_⟩:=I.list B;obtain⟨L,g,p2,_⟩:=I.list hq;have T:=l.length;have N:=g.length;have o:=k;by_cases e:xs.length=f.length
 ·refine SeqAt.RcNeAt.lists n.isList p2.isList (by simp;lia) r (λj E C=>Eu l g f1 G j E C) _ _ _ _ ⟨.bl (!eqL xs f),H,I,?_,o⟩;show _=Value.bool (!eqL xs f);unfold eqL
  grind
 ·refine SeqAt.RcNeAt.lists_lengths n.isList p2.isList (by simp;lia) r _ _ _ _ ⟨.bl (!eqL xs f),H,I,?_,o⟩;unfold eqL;rw[Qq e];rfl
def MV{xs:ZW}{us}(r:Vals (xs.map V.int) us)(z:Int):∀j g (f:j<xs.length),Value.isInt z us[j]=(xs[j]==z):=by
 intro j g f;obtain⟨u,h,t,rfl⟩:=r.get (by rw[WL,W8 f];rfl);rw[W8 g]at h;rw[WR h];rfl
def Zks{xs:ZW}{us}(r:Vals (xs.map V.int) us)(z:Int)(t:Tok):∀y,y∈us.toArray->MeetsSeq.EqGives y (.int z t) (Value.isInt z y):=by
 intro y h;obtain⟨j,l,rfl⟩:=Qn.mp (by simpa using h:y∈us);have g:=r.length;rw[W6]at g;obtain⟨u,f,n,rfl⟩:=r.get (by rw[WL,W8 (show j<xs.length by lia)];rfl);rw[W8 l]at f;rw[WR f];exact MeetsSeq.EqGives.int _ _ _ _
def A1(K:ZU):V->List V->Hp->VK->Prop:=λx f H Q=>∃(l:Addr) (xs:ZW) (z:Int),x=.ref l/\f=[.int z]/\SqL K H l (xs.map V.int)/\z∈xs/\Q (.int (xs.idxOf z:Nat)) H
def Zhu:MtM X "list.index" (A1 X.K):=by
 intro pins s σ H x vs v us Q I L M h;obtain⟨l,xs,z,rfl,rfl,hS,T,q⟩:=h;cases L
 obtain⟨u,rfl,t,rfl⟩:=M.one;obtain⟨f,r,N,g⟩:=I.list hS;obtain⟨o,n,G,J,p,hd⟩:=N;obtain⟨c1,d1,dt1,w⟩:=o;simp only at J p hd;subst J p hd;have E:=r.length;rw[W6]at E;have C:=Jc.mpr T;have hb:xs.length<=2 ^ 24:=by rw[W6]at g;exact g
 refine J6 QH ⟨_,G,rfl⟩ PySem.F.entry_list_index (PySem.F.args_list_index_2 _ _)
  (SeqAt.list_indexAt l f.toArray n none w (.int z t) (Value.isInt z) (xs.idxOf z) (by simpa [←E]using C) (by lia) ?_ ?_) ⟨G,λy U=>(Zks r z t y U).at _ _,⟨.int (xs.idxOf z:Nat),H,I.tok _,⟨_,rfl⟩,q⟩⟩
 ·have e:=MV r z (xs.idxOf z) (by lia) C;show Value.isInt z f[xs.idxOf z]=true;rw[e];simpa using JR C
 ·intro m Y B;have A:m<f.length:=by simpa using Y
  show Value.isInt z f[m]=false;rw[(MV r z m A<|by lia)]
  have:=List.not_of_lt_findIdx B
  simpa using this
end
section
variable {X:Cx}{K:ZU}
def Sn(f:autoParam (X.K=K) au_0):MtM X "list.index" (A1 K):=by subst f;exact Zhu
def N2{p t name apos cpos T id r}(s:PlainAttrs T)(slot:Slot T name id)(n:typeOf (.builtin id)=pure (.type "method_descriptor"))(v:MtM X id r)(u:PE X o p)(w:PA X (e::es) t)(y:autoParam (X.K=K) au_0)(h:autoParam (attributeBase o name X.env (eval o X.env)=eval o X.env) au_0)
  (l:autoParam (((backTo cpos<|starEach (e::es) X.env).all (λx=>!x.1)&&(backToKw cpos<|keywordEach [] X.env).all (λx=>x.1.isSome)
   && decide ((e::es).length+([]:List Keyword).length+(if ([]:List Keyword).isEmpty then 0 else 1)<30))=true) au_0)
  (g:autoParam ((apos.endLine==cpos.line)=true) au_0) (hs:autoParam (starEach (e::es) X.env=(false,eval e X.env)::starEach es X.env) au_0) (f:autoParam ((backTo cpos<|starEach es X.env).any (·.1)=false) au_0) :
  PE X (.Call (.Attribute o name apos) (e::es) [] cpos) (tBM K T r p t):=by
 subst y;exact NQ s slot n v u w h l g hs f
end
def DN(xs ys:ZW):eqL (xs.map V.int) (ys.map V.int)=decide (xs=ys):=by
 unfold eqL;rw[W6,W6];by_cases e:xs=ys
 ·subst e;rw[W9 rfl,W9 rfl,JW,V1];intro j n;have g:j<xs.length:=by simpa using n
  rw[WC,WL,W8 g];show(xs[j]==xs[j])=true;simp
 ·rw[Qq e];by_cases h:xs.length=ys.length
  ·rw[W9 h,JW,VC];intro f;apply e;apply List.ext_getElem h;intro j l p
   have:=V1.mp f j (by simpa using l)
   rw[WC,WL,W8 l,WC,WL,W8 p]at this;have o:(xs[j]==ys[j])=true:=this;simpa using o
  ·grind
def Nd(xs:ZW):(xs.map V.int).all KJ=true:=by
 rw[List.all_map];exact V1.mpr λ_ _=>rfl
end Own
namespace M
open PySem PySem.Spec PyProof.Rows L2 Own
def LV{f:Type}(R:Hp->V->f->Prop)(H:Hp)(vs:List V)(xs:List f):Prop:=
 vs.length=xs.length/\∀(i:Nat) (x:f),xs[i]?=some x->∃v,vs[i]?=some v/\R H v x
def LAt{f:Type}(R:Hp->V->f->Prop)(H:Hp)(l:Addr)(xs:List f):Prop:=∃g,H l=some (.lst g)/\LV R H g xs
def Pt(H:Hp)(v:V)(q:Int×Int):Prop:=∃a,v=.ref a/\H a=some (.tup [.int q.1,.int q.2])
section
variable {α:Type}{R:Hp->V->α->Prop}{H H':Hp}{vs:List V}{xs:List α}{l:Addr}
def LV.get {i:Nat}{v} (h:LV R H vs xs) (e:vs[i]?=some v):∃x,xs[i]?=some x/\R H v x:=by
 have g:i<xs.length:=by rw[←h.1];exact(WT.mp e).1
 obtain⟨f,n,r⟩:=h.2 i xs[i] (by simp)
 grind
end
def Nu(m:ZW):Prop:=∃a b c d e:Int,m=[a,b,c,d,e]/\(1<=a/\a<=10)/\(1<=b/\b<=9/\(b=1\/b=3\/b=7\/b=9))/\(0<=c/\c<=9)/\(1<=d/\d<=1000)/\(1<=e/\e+d<=1001)
def Field(ps:ZV):Prop:=∀q∈ps,1<=q.1/\q.1<=10/\1<=q.2/\q.2<=1000
def Zfk(f:ZW)(k z:Int):z∈SetR.Kw f k↔z∈f\/z=k:=by
 unfold SetR.Kw;split
 ·grind
 ·simp
theorem MA:∀(ns f:ZW) z,z∈ns.foldl SetR.Kw f↔z∈f\/z∈ns
 |[],f,z=>by simp
 |n::r,f,z=>by
  rw[List.foldl_cons,MA r,Zfk,WU];constructor
  ·grind
  ·grind
def Zau(k:Int)(h:f.Nodup):(SetR.Kw f k).Nodup:=by
 unfold SetR.Kw;split
 ·lia
 ·grind
theorem Rc:∀(ns:ZW) {f:ZW},f.Nodup->(ns.foldl SetR.Kw f).Nodup
 |[],_,h=>h
 |n::r,f,h=>Rc r (Zau n h)
theorem GM:∀(ns f:ZW),(ns.foldl SetR.Kw f).length<=f.length+ns.length
 |[],f=>by simp
 |n::r,f=>by
  have h:=GM r (SetR.Kw f n)
  have g:(SetR.Kw f n).length<=f.length+1:=by
   unfold SetR.Kw;split
   ·simp
   ·simp
  grind
def Sh{l:ZW}(h:l.Pairwise (·<=·))(n:l.Nodup):l.Pairwise (· < ·):=by
 have:=h.and n
 exact this.imp λ{a b} h=>by have:=h.1;have:=h.2;lia
def AZ{g f:ZW}(n:g.Pairwise (· < ·))(l:f.Pairwise (· < ·))(h:∀z,z∈g↔z∈f):g=f:=by
 have p:g.Nodup:=n.imp λ{a b} h=>by lia
 have o:f.Nodup:=l.imp λ{a b} h=>by lia
 exact((List.perm_ext_iff_of_nodup p o).mpr h).eq_of_pairwise (λa b _ _ x y=>by lia) n l
noncomputable def tenL:ZW:=[1,2,3,4,5,6,7,8,9,10]
def Zpy:z∈tenL↔1<=z/\z<=10:=by
 unfold tenL;constructor
 ·intro h;simp only[WU,Jw,or_false]at h;omega
 ·rintro⟨g,f⟩;simp only[WU,Jw,or_false];lia
noncomputable def Xo(ps:ZV):ZW:=tenL.filter λh=>decide (h∈ps.map (·.1))
def Tc(ps:ZV):(Xo ps).Pairwise (· < ·):=List.Pairwise.filter _ (by trivial)
def E4(f:Field ps){z}:z∈Xo ps↔z∈ps.map (·.1):=by
 unfold Xo;rw[Qh,Jn,Zpy];constructor
 ·grind
 ·intro h;obtain⟨q,hq,rfl⟩:=Qk.mp h
  have:=f q hq
  grind
def TH(ps:ZV):(Xo ps).length<=10:=by
 have:=Q5 (λh=>decide (h∈ps.map (·.1))) tenL
 trivial
def Zg8(f:Field ps)(p:ns.Perm ((ps.map (·.1)).foldl SetR.Kw []))(h:ns.Pairwise (·<=·)):ns=Xo ps:=by
 refine AZ (Sh h<|p.symm.nodup<|Rc _ Vz) (Tc ps) λz=>?_;rw[p.mem_iff,MA,E4 f];simp
def IL(z:Int)(xs:ZW):inV (.int z) (xs.map V.int)=decide (z∈xs):=by
 unfold inV
 induction xs with
 |nil=>rfl
 |cons x r f=>
  show((x==z) || _)=_;by_cases e:x=z
  ·grind
  ·grind
def Ze4:tenL=(List.range 10).map λ(i:Nat)=>(1:Int)+(i:Int):=rfl
def Zl4{os ns}(g:os.Perm (Xo ps))(n:ns.Perm os)(l:ns.Pairwise (·<=·)):ns=Xo ps:=by
 have f:(Xo ps).Nodup:=(Tc ps).imp λ{a b} h=>by lia
 have p:=n.trans g;exact AZ (Sh l<|p.symm.nodup f) (Tc ps) λz=>p.mem_iff
section
variable (ps:ZV)
noncomputable def tpM(y:Int):Nat->Int
 | 0=>0
 |j+1=>tpM y j+(if (ps.getD j (0,0)).1=y then(ps.getD j (0,0)).2 else 0)
noncomputable def pcM(x y:Int):Nat->Int
 | 0=>0
 |k+1=>pcM x y k+(if x≠y/\(ps.getD k (0,0)).1=x then tpM ps y k*(ps.getD k (0,0)).2 else 0)
noncomputable def PU(n:Nat):ZW->Int
 |[]=>0
 |a::r=>(r.map λb=>pcM ps a b n).sum+PU n r
noncomputable def PD(n:Nat)(h:Int):ZW->Int
 |[]=>0
 |a::r=>if a=h then(r.map λb=>tpM ps b n).sum else PD n h r
noncomputable def rsM(os:ZW)(h:Int):Nat->Int
 | 0=>0
 |j+1=>rsM os h j+(if os.idxOf h<os.idxOf (ps.getD j (0,0)).1 then(ps.getD j (0,0)).2 else 0)
noncomputable def PZ(os:ZW):Nat->Int
 | 0=>0
 |k+1=>PZ os k+rsM ps os (ps.getD k (0,0)).1 k*(ps.getD k (0,0)).2
end
def Gq{r:ZW}(h:a≠b):(a::r).idxOf b=r.idxOf b+1:=by grind
def Lh(f g:Int->Int)(l:ZW):(l.map λb=>f b+g b).sum=(l.map f).sum+(l.map g).sum:=by
 induction l with
 |nil=>rfl
 |cons b r h=>grind
def Br{f g:Int->Int}{l:ZW}(h:∀b∈l,f b=g b):(l.map f).sum=(l.map g).sum:=by
 rw[QM h]
def OC(l:ZW):(l.map λ_=>(0:Int)).sum=0:=by
 induction l with
 |nil=>rfl
 |cons b r f=>grind
def Zjl(f:Int->Int)(w:Int)(l:ZW):(l.map λb=>f b*w).sum=(l.map f).sum*w:=by
 induction l with
 |nil=>simp
 |cons b r g=>grind
def Zph{l:ZW}(h:Int)(w:Int)(f:l.Nodup):(l.map λb=>if h=b then w else 0).sum=if h∈l then w else 0:=by
 induction l with
 |nil=>rfl
 |cons b r g=>grind
section
variable {ps:ZV}
theorem R0:∀{os:ZW},(ps.getD n (0,0)).1∉os->PU ps (n+1) os=PU ps n os
 |[],_=>rfl
 |a::r,h=>by
  have f:(ps.getD n (0,0)).1≠a:=λz=>h (by grind);simp only[PU];rw[R0 (λz=>h (Qb _ z))];congr 1;apply Br;simp only[pcM];lia
theorem OV:∀{os:ZW},os.Nodup->(ps.getD n (0,0)).1∈os->PU ps (n+1) os=PU ps n os+PD ps n (ps.getD n (0,0)).1 os*(ps.getD n (0,0)).2
 |[],_,h=>by cases h
 |a::r,p,h=>by
  obtain⟨g,o⟩:=Qw.mp p;simp only[PU,PD];by_cases e:a=(ps.getD n (0,0)).1
  ·rw[WH e];have f:(ps.getD n (0,0)).1∉r:=by rw[←e];exact g
   rw[R0 f,←Zjl]
   have l:(r.map λb=>pcM ps a b (n+1)).sum=(r.map λb=>pcM ps a b n+tpM ps b n*(ps.getD n (0,0)).2).sum:=by
    apply Br;intro b s;simp only[pcM];rw[WH ⟨λz=>g (by rw[z];exact s),e.symm⟩]
   rw[l,Lh];lia
  ·rw[WG e];have f:(ps.getD n (0,0)).1∈r:=by grind
   rw[OV o f]
   have l:(r.map λb=>pcM ps a b (n+1)).sum=(r.map λb=>pcM ps a b n).sum:=by
    apply Br;simp only[pcM];lia
   lia
theorem Ra:∀{os:ZW},(ps.getD n (0,0)).1∉os->PD ps (n+1) h os=PD ps n h os
 |[],_=>rfl
 |a::r,f=>by
  simp only[PD];rw[Ra (λz=>f (Qb _ z))]
  have g:(r.map λb=>tpM ps b (n+1)).sum=(r.map λb=>tpM ps b n).sum:=by
   apply Br;simp only[tpM]
   grind
  lia
theorem Io{h}:∀{os:ZW},os.Nodup->h∈os->(ps.getD n (0,0)).1∈os->
  PD ps (n+1) h os=PD ps n h os+(if os.idxOf h<os.idxOf (ps.getD n (0,0)).1 then(ps.getD n (0,0)).2 else 0)
 |[],_,v,_=>by cases v
 |a::r,C,v,A=>by
  obtain⟨y,x⟩:=Qw.mp C;generalize o:(ps.getD n (0,0)).1=g at A ⊢;generalize B:(ps.getD n (0,0)).2=w at ⊢;simp only[PD];by_cases e:a=h
  ·subst e;rw[WH rfl,WH rfl]
   have H:(r.map λb=>tpM ps b (n+1)).sum=(r.map λb=>tpM ps b n+(if g=b then w else 0)).sum:=by
    apply Br;intro b _;simp only[tpM];rw[o,B]
   rw[H,Lh,Zph g w x];have u:(a::r).idxOf a=0:=by simp
   by_cases l:g=a
   ·subst l;rw[u,WG y,WG (by lia)]
   ·grind
  ·rw[WG e,WG e]
   have E:h∈r:=by
    rcases WU.mp v with z|z
    ·exact absurd z.symm e
    ·exact z
   have s:(a::r).idxOf h=r.idxOf h+1:=Gq e;by_cases l:g=a
   ·subst l;have u:(g::r).idxOf g=0:=by simp
    rw[Ra (by rw[o];exact y),u,WG (by lia)];lia
   ·have G:g∈r:=by
     rcases WU.mp A with z|z
     ·exact absurd z l
     ·exact z
    have p:(a::r).idxOf g=r.idxOf g+1:=Gq (Ne.symm l);rw[Io x E (by rw[o];exact G),o,B,s,p];by_cases f:r.idxOf h<r.idxOf g
    ·rw[WH f,WH (by lia)]
    ·rw[WG f,WG (by lia)]
theorem LR{os h}(f:os.Nodup)(o:h∈os):∀n,(∀j,j<n->(ps.getD j (0,0)).1∈os)->PD ps n h os=rsM ps os h n
 | 0,_=>by
  have:∀l,PD ps 0 h l=0:=by
   intro l
   induction l with
   |nil=>rfl
   |cons a r p=>
    simp only[PD,tpM];rw[OC,p];simp
  rw[this];rfl
 |n+1,g=>by
  rw[Io f o (g n<|by simp),LR f o n λj s=>g j (by lia)];rfl
theorem Il{os}(g:os.Nodup):∀n,(∀j,j<n->(ps.getD j (0,0)).1∈os)->PU ps n os=PZ ps os n
 | 0,_=>by
  have:∀l,PU ps 0 l=0:=by
   intro l
   induction l with
   |nil=>rfl
   |cons a r h=>
    simp only[PU,pcM];rw[OC,h];rfl
  rw[this];rfl
 |n+1,f=>by
  rw[OV g (f n<|by simp),Il g n (λj o=>f j (by lia)),LR g (f n<|by simp) n λj o=>f j (by lia)];rfl
end
end M
namespace ExcR
open PySem PySem.Spec PyProof.Rows L2
structure KI (fs ex:List Addr) (h h':Heap):Prop where
 keep:∀b o,h.get? b=some o->b∉fs->b∉ex->h'.get? b=some o
 slot:∀b o,h.get? b=some o->b∉ex->∃sl,h'.get? b=some {o with slots:=sl}
 size:h.objs.size<=h'.objs.size
def KI.trans (a:KI fs ex l h) (b:KI fs ex h g):KI fs ex l g:=
 ⟨λc o e n m=>b.keep c o (a.keep c o e n m) n m,λc o e m=>by
  obtain⟨s,r⟩:=a.slot c o e m;obtain⟨f,p⟩:=b.slot c _ r m;exact⟨f,p⟩,WK a.size b.size⟩
def KI.mono {fs f ex g}{l h} (a:KI fs ex l h) (p:∀b∈fs,b∈f) (hx:∀b∈ex,b∈g):KI f g l h:=
 ⟨λc o e n m=>a.keep c o e (λz=>n (p c z)) (λz=>m (hx c z)),λc o e m=>a.slot c o e λz=>m (hx c z),a.size⟩
def Zj8(o:Obj)(f):(o.mapFields f).dict=o.dict:=by
 obtain⟨c,d,g,sl⟩:=o;cases g<;>rfl
structure Trc (h:Heap) (e T:Addr) (cls:Value×Yh) (fl:Value):Prop where
 ne:T≠e
 exc:∃oe vs,h.get? e=some oe/\(oe.cls,oe.dict)=cls/\oe.data=.fields vs/\vs[1]?=some (.ref T)
 ent:∃oT ts,h.get? T=some oT/\oT.data=.fields ts/\ts[3]?=some fl
section
variable {M:Model}{A:Around}{E:ZZ}{s:Shared}{base:Heap}{env:Env}{outer:List Env}{L e:Addr}
def Rh{hadNext Q}(B:A.frames=some (env::outer))(N:s.heap.FunFrames base (env::outer))(hf:env.frame=some L)(U:s.heap.get? e=some v)(hd:v.data=.fields vs)(hsz:1<vs.size)(h:∀G T,s.heap.objs.size<=T->Trc G e T (v.cls,v.dict) (rawInt L)->KI (frs (env::outer)) [e] s.heap G->Q () {s with heap:=G}) :
  wpAny M A (do let a ←frameOf env;let u ←entryPlaceOf L hadNext;let b ←EntryCells.newEntry head a .none (rawInt L) .none u;setField (.ref e) 1 b) Q E s:=by
 have n:e∉frs (env::outer):=λhm=>by
  obtain⟨_,o,J,y⟩:=N.mem hm;rw[U]at J;cases J
  exact y vs hd
 refine W7 (wpAny_frameOf_fun B N hf λC g=>W7 (wpAny_entryPlaceOf λu x=>?_));refine W7 (Q7 ?_<|x.sizeOk5 _ _ _ _ _);have r:=(g.2.1 e n).trans U;generalize Y:({cls:=.type "traceback",dict:=none,data:=.fields ([head,.ref L,.none,rawInt L,.none]++(if u.isEmpty then List.replicate 6 Value.none else u)).toArray}:Obj)=H;have p:=WD H r;refine QZ p hd hsz (h _ C.objs.size (Vc g.1.symm) ?_ ?_)
 ·have l:=JY (WM r);have d3:=QC hd (·.setIfInBounds 1 (Value.ref C.objs.size));refine⟨l,⟨_,_,Q0 _ p (Va d3),by rw[Jm,Zj8],d3,by simp[hsz]⟩,H,_,?_,by rw[←Y],?_⟩
  ·exact(Q8 _ _<|Ne.symm l).trans (WQ C<|by rw[←Y];rfl)
  ·rfl
 ·refine⟨λb o q nb w=>?_,λb o q w=>?_,?_⟩
  ·have f:b≠e:=λz=>w (by simp[z]);rw[Q8 _ _ (Ne.symm f)];exact WD _ ((g.2.1 b nb).trans q)
  ·have f:b≠e:=λz=>w (by simp[z]);obtain⟨sl,q1⟩:=g.2.2 b o q;exact⟨sl,by rw[Q8 _ _ (Ne.symm f)];exact WD _ q1⟩
  ·rw[Heap.size_update,Vj,g.1];exact VA _
def Zoj(g:A.frames=some (env::outer))(r:s.heap.FunFrames base (env::outer))(n:env.frame=some L)(o:s.heap.get? e=some f)(hd:f.data=.fields vs)(p:vs[1]?=some .none)(h:∀l T,s.heap.objs.size<=T->Trc l e T (f.cls,f.dict) (rawInt L)->KI (frs (env::outer)) [e] s.heap l->Q () {s with heap:=l}):wpAny M A (noteFrame (.ref e) env) Q E s:=by
 unfold noteFrame;simp only[n];refine W7 (JM o hd p ?_);exact Rh g r n o hd (VR.mp p).1 h
def LY(x:Trc s.heap e T cls Y)(h:∀g,Trc g e T cls .none->KI [] [T] s.heap g->Q () {s with heap:=g}) :
  wpAny M A (setField (.ref T) 3 .none) Q E s:=by
 obtain⟨n,⟨w,v,J,H,G,C⟩,U,N,r,p,y⟩:=x;have u:=(VR.mp y).1;refine QZ r p u (h _ ?_ ?_)
 ·have d3:=QC p (·.setIfInBounds 3 Value.none);exact⟨n,⟨w,v,(Q8 _ _ n).trans J,H,G,C⟩,_,_,Q0 _ r (Va d3),d3,by simp[u]⟩
 ·have l:∀b,b≠T->(s.heap.update T<|Obj.mapFields (·.setIfInBounds 3 Value.none)).get? b=s.heap.get? b:=λb B=>Q8 _ _ (Ne.symm B);exact⟨λb o q _ f=>(l b λz=>f (by grind)).trans q,λb o q f=>⟨o.slots,(l b λz=>f (by grind)).trans q⟩,Vc (Heap.size_update ..).symm⟩
def L7(n:A.frames=some (env::outer))(hl:s.heap.FunFrames base (env::outer))(y:env.frame=some L)(x:Trc s.heap e T cls .none)(h:∀r f,s.heap.objs.size<=f->Trc r e f cls (rawInt L)->KI (frs (env::outer)) [e,T] s.heap r->Q () {s with heap:=r}):wpAny M A (noteFrame (.ref e) env) Q E s:=by
 obtain⟨ne,⟨oe,vs,g1,g2,g3,g4⟩,oT,G,w,v,Y⟩:=id x;unfold noteFrame;simp only[y];refine W7 (JM g1 g3 g4 ?_);refine W7 (JM w v Y ?_);refine W7 (LY x λh1 B u=>?_)
 have l:=hl.of_keeps λb o q g=>⟨o,u.keep b o q (by simp) (λz=>by
  rw[WB.mp z,w]at q;cases q
  exact g G v),rfl⟩
 obtain⟨_,⟨U,C,N,p2,J,H⟩,_⟩:=id B;refine Rh n l y N J (VR.mp H).1 λh2 f p x2 K2=>h h2 f (WK u.size p) (by grind) ?_;exact(u.mono (by simp)<|by simp).trans (K2.mono (λ_ z=>z)<|by simp)
def Ag(x:Trc s.heap e T cls v)(h:∀f,Trc f e T cls .none->KI [] [T] s.heap f->Q () {s with heap:=f}) :
  wpAny M A (setFlight (.ref e) none) Q E s:=by
 obtain⟨r,⟨p,o,n,u,l,g⟩,_⟩:=id x;refine W7 (JM n l g ?_);exact LY x h
def Znk(l:A.frames=some (env::outer))(y:s.heap.FunFrames base (env::outer))(B:env.frame=some L)(C:s.heap.get? e=some f)(hd:f.data=.fields vs)(H:vs[1]?=some .none)(h:∀p T,s.heap.objs.size<=T->Trc p e T (f.cls,f.dict) .none->KI (frs (env::outer)) [e] s.heap p->Q () {s with heap:=p}):wpAny M A (leaving env<|.ref e) Q E s:=by
 unfold leaving;refine W7 (Zoj l y B C hd H λJ T n x K=>Ag x λG u r=>h G T n u ?_);refine⟨λb o q w g=>r.keep b o (K.keep b o q w g) (by simp) (λz=>?_),λb o q g=>?_,WK K.size r.size⟩
 ·rw[WB.mp z]at q;exact absurd (WM q) (J9.mpr n)
 ·obtain⟨sl,v⟩:=K.slot b o q g;exact⟨sl,r.keep b _ v (by simp) (λz=>by rw[WB.mp z]at q;exact absurd (WM q) (J9.mpr n))⟩
def Zdw(l:A.frames=some (env::outer))(B:s.heap.FunFrames base (env::outer))(C:env.frame=some L)(x:Trc s.heap e T cls .none)(h:∀p f,s.heap.objs.size<=f->Trc p e f cls .none->KI (frs (env::outer)) [e,T] s.heap p->Q () {s with heap:=p}):wpAny M A (leaving env<|.ref e) Q E s:=by
 refine W7 (L7 l B C x λH f n v K=>Ag v λG u r=>h G f n u ?_);refine⟨λb o q y g=>r.keep b o (K.keep b o q y g) (by simp) (λz=>?_),λb o q g=>?_,WK K.size r.size⟩
 ·rw[WB.mp z]at q;exact absurd (WM q) (J9.mpr n)
 ·obtain⟨sl,w⟩:=K.slot b o q g;exact⟨sl,r.keep b _ w (by simp) (λz=>by rw[WB.mp z]at q;exact absurd (WM q) (J9.mpr n))⟩
end
section
variable {P:Program}{w:World}{H H':Hp}{h h':Heap}{a:Addr}{o:HO}{fs ex:List Addr}
def has(x:ObjOk P w H h a o):∃u,h.get? a=some u:=by
 cases o with
 |lst xs=>exact let ⟨_,_,_,_,e⟩:=x;⟨_,e⟩
 |tup xs=>exact let ⟨_,_,_,u,e,_⟩:=x;⟨u,e⟩
 |dK f|dT f=>exact let ⟨_,_,_,_,u,_,_,e,_⟩:=x;⟨u,e⟩
 |set S n=>exact let ⟨u,_,_,_,e,_⟩:=x;⟨u,e⟩
 |ins C r fs=>exact let ⟨_,_,_,e,_⟩:=x;⟨_,e⟩
 |own y=>exact x
 |xd fs=>exact let ⟨_,⟨u,_,_,e,_⟩,_⟩:=x;⟨u,e⟩
 |rng lo p=>exact let ⟨_,_,_,e⟩:=x;⟨_,e⟩
 |frz l u=>exact⟨_,x.1⟩
 |ext g=>exact x.2.1
 |_=>exact⟨_,x⟩
def CV(ok:HOk P w H h)(e:h.get? a=none):H a=none:=by
 cases q:H a with
 |none=>rfl
 |some o=>
  obtain⟨u,z⟩:=has (ok a o q)
  grind
def Bg(ok:HOk P w H h)(k:KI fs ex h h')(g:∀b∈fs,H b=none)(hx:∀b∈ex,H b=none):HOk P w H h':=λa o e=>by
 refine(ok a o e).stay (λb u l q=>?_) (λ_ q=>q) (λ_ _ q=>q);have f:H b≠none:=by grind
 exact k.keep b u q (λz=>f (g b z)) λz=>f (hx b z)
end
structure XAt (P:Program) (w:World) (outer:List Env) (H H':Hp) (s s':Shared) (a T C:Addr) (dx:Yh):Prop where
 os:s'.os=s.os
 bare:AllBare s'.gens
 un:Un (frs outer) [] H H' s.heap s'.heap
 hok:HOk P w H' s'.heap
 na:s.heap.get? a=none
 nT:s.heap.get? T=none
 fa:H' a=none
 fT:H' T=none
 tr:Trc s'.heap a T (.ref C,dx) .none
noncomputable def CXe(P:Program)(w:World):CXT:=λouter H s E e h=>∃a T C f g,e=.ref a/\XAt P w outer H g s h a T C f/\E (.ref C) f g
section
variable {X:Cx}{pins:ZX}{σ:L2.St}{H H':Hp}{s s':Shared}{a T C:Addr}{dx:Yh}
def Gn(I:Inv X pins σ H s)(hex:X.ex=[])(k:KI (frs X.stack) ex s.heap v)(hx:∀b∈ex,X.s₀.heap.get? b=none):Un X.fs [] X.H₀ H X.s₀.heap v:=by
 have B:=I.base;rw[hex]at B;have f:∀b o,X.s₀.heap.get? b=some o->b∉ex:=λb o q z=>by rw[hx b z]at q;cases q
 have r:∀b o,X.s₀.heap.get? b=some o->b∉X.fs->b∉frs X.stack:=λb o q nf z=>by
  rcases WU.mp (I.stkSub b z)with e|e
  ·have x:=WM q;have w:=I.ok.above
   grind
  ·exact nf e
 refine⟨λb o q n nf g=>k.keep b o (B.keep b o q n nf g) (r b o q nf) (f b o q),λb o q n u g=>?_,λb o q n g=>B.free b o q n g,λb o q g=>?_,B.tups,B.frzs,B.tbls⟩
 ·obtain⟨sl,l⟩:=B.slot b o q n u g;obtain⟨h,p⟩:=k.slot b _ l (f b o q)
  grind
 ·obtain⟨o1,l⟩:=B.there b o q g;obtain⟨h,p⟩:=k.slot b _ l (f b o q);exact⟨_,p⟩
def Bj(I:Inv X pins σ H s)(hex:X.ex=[])(e:s.heap.get? b=none):X.s₀.heap.get? b=none:=by
 cases q:X.s₀.heap.get? b with
 |none=>rfl
 |some o=>
  obtain⟨u,z⟩:=I.base.there b o q (by grind)
  grind
variable {E:ZZ}
def Zcx(I:Inv X pins σ H s)(hex:X.ex=[])(g:X.stack=X.env::X.outer)(l:X.env.frame=some X.env.locals)(x:XAt X.prog X.w X.stack H H' s s' a T C dx) :
  wpAny (model X.prog X.w) X.A (leaving X.env<|.ref a) (λ_ u=>∃n,XAt X.prog X.w X.outer X.H₀ H' X.s₀ u a n C dx) E s':=by
 have J:=I.call' x.os x.un x.hok x.bare λb z=>absurd z (by simp);have o:=J.stack;have p:=J.ok.frames;rw[g]at o p;refine Zdw p o l x.tr λv n h r k=>⟨n,J.os,J.bare,?_,?_,Bj I hex x.na,?_,x.fa,x.hok.fresh h,r⟩
 ·exact Gn J hex (by rw[g];exact k) λb f=>by
   rcases WU.mp f with rfl|f
   ·exact Bj I hex x.na
   ·rw[WB.mp f];exact Bj I hex x.nT
 ·refine Bg x.hok k (λb f=>J.stkFree b (by grind)) λb f=>?_;rcases WU.mp f with rfl|f
  ·exact x.fa
  ·rw[WB.mp f];exact x.fT
 ·exact Vv (WK J.sz h)
def Ir(J:Inv X pins σ H s)(hex:X.ex=[])(f:X.stack=X.env::X.outer)(n:X.env.frame=some X.env.locals)(r:X.s₀.heap.get? a=none)(x:H a=none)(B:s.heap.get? a=some l)(G:l.cls=.ref C)(o:l.dict=dx)(hd:l.data=.fields vs)(L:vs[1]?=some .none) :
  wpAny (model X.prog X.w) X.A (leaving X.env<|.ref a) (λ_ z=>∃p,XAt X.prog X.w X.outer X.H₀ H X.s₀ z a p C dx) E s:=by
 have u:=J.stack;have v:=J.ok.frames;rw[f]at u v;refine Znk v u n B hd L λM p g y k=>⟨p,J.os,J.bare,?_,?_,r,?_,x,J.hok.fresh g,by rw[←G,←o];exact y⟩
 ·exact Gn J hex (by rw[f];exact k) λb h=>by rw[WB.mp h];exact r
 ·exact Bg J.hok k (λb h=>J.stkFree b (by grind)) λb h=>by rw[WB.mp h];exact x
 ·exact Vv (WK J.sz g)
def Znl{f vs}(I:Inv X pins σ H s)(hex:X.ex=[])(g:X.stack=X.env::X.outer)(h:X.env.frame=some X.env.locals)(keeps:∀b o,s.heap.get? b=some o->n.get? b=some o)(new:s.heap.get? a=none)(r:n.get? a=some f)(u:f.cls=.ref C)(l:f.dict=dx)(hd:f.data=.fields vs)(v:vs[1]?=some .none) :
  wpAny (model X.prog X.w) X.A (leaving X.env<|.ref a) (λ_ p=>∃x,XAt X.prog X.w X.outer X.H₀ H X.s₀ p a x C dx) E {s with heap:=n}:=
 Ir (s:={s with heap:=n}) (I.call' (ch:=[]) rfl (Un.kept keeps) (I.hok.kept keeps) I.bare λb z=>absurd z (by simp)) hex g h (Bj I hex new) (CV I.hok new) r u l hd v
end
structure FL (K:ZU) (C:Addr):Prop where
 q:PySem.W.excIn K C [.type "ValueError",.type "Exception",.type "BaseException",.type "object"] "ValueError.__new__"=true
def FL.obj {K C h} (c:FL K C) (k:K.In h):∃f N nm q bs hdct sn sub ab col dd k0 k1 k2 k3 k5 p,h.get? C=some (excClassObj nm q C N bs f hdct sn sub ab col dd k0 k1 k2 k3 k5 "ValueError.__new__")/\h.Ns N p/\p "__init__"=none/\
  OwnTail h [.type "ValueError",.type "Exception",.type "BaseException",.type "object"] f:=by
 have e:=c.q;unfold PySem.W.excIn at e;split at e
 next dd J sl A=>
  split at e
  next L f k0 k1 k2 k3 n k5 s r=>
   simp only[Qx,beq_iff_eq,Bool.not_eq_true']at e;obtain⟨⟨⟨⟨⟨G,E⟩,w⟩,B⟩,o⟩,v⟩:=e;subst G E;have u:=k _ _ A;cases J with
   |mk nm bs z y x hd sn sub ab col H=>
    simp only at s w o v
    have g:sl=#[k0,k1,k2,k3,some (.builtin "ValueError.__new__"),k5]:=by
     cases sl with
     |mk l=>simp only at r;rw[r]
    rw[s,w,g]at u;exact⟨f,y,nm,x,bs,hd,sn,sub,ab,col,dd,k0,k1,k2,k3,k5,_,u,.of_isNs (JS k o),PySem.W.nsMap_none_of_in k o v,PySem.W.tail_of_in k B⟩
  next=>cases e
 next=>cases e
abbrev TF:=L2.St->Hp->Str->(Str->Hp->Prop)->Prop
def PF(X:Cx)(es:Ye)(t:TF):Prop:=
 ∀(pins:ZX) (s:Shared) (g:L2.St) (H:Hp) (f:Str) (Q:Str->Hp->Prop),Inv X pins g H s->t g H f Q->
  wpAny (model X.prog X.w) X.A (joinParts f<|evalEach es X.env) (λu l=>∃x h,Inv X pins g h l/\RelV (.str x) u/\Q x h) X.xe s
section
variable {X:Cx}{e e1 e2:Expr}{es:Ye}{t:TF}{tv:TE}{pos:Pos}
noncomputable def Ia:TF:=λ_ H f Q=>f.length<=sizeLine/\Q f H
noncomputable def O0(x:Str)(t:TF):TF:=λg H f Q=>(f++x).length<=sizeLine/\t g H (f++x) Q
noncomputable def LX(tv:TE)(t:TF):TF:=λg H f Q=>tv g H λv h=>(∃i:Int,v=.int i/\i.natAbs.log2<1920/\(f++(Str.ofString<|toString i)).length<=sizeLine/\t g h (f++Str.ofString (toString i)) Q)\/
 ∃x:Str,v=.str x/\x.length<=sizeLine/\(f++x).length<=sizeLine/\t g h (f++x) Q
def NF:PF X [] Ia:=λpins s g H f Q I h=>joinParts_nilE (joinParts_nil ⟨f,H,I.tok _,⟨_,rfl⟩,h.2⟩ h.1)
def PN(h:PF X es t):PF X (.Constant (.str x) j pos::es) (O0 x t):=λpins s f H g Q I q=>
 joinParts_consE (joinParts_cons<|Calls.Constant_str ⟨q.1,h pins _ f H _ Q (I.tok _) q.2⟩)
def Nw(A:PE X e tv)(h:PF X es t):PF X (.FormattedValue e (-1) none pos::es) (LX tv t):=λpins s f H z Q I q=>by
 refine joinParts_consE (joinParts_cons<|FormattedValue_plain<|thn (A pins s f H _ I q) ?_);rintro u E ⟨v,o,n,r,y⟩;rcases y with⟨i,rfl,B,l,g⟩|⟨x,rfl,hx,l,g⟩
 ·obtain⟨w,rfl⟩:=r;exact formatField_int_small B ⟨l,h pins _ f o _ Q (n.tok _) g⟩
 ·obtain⟨w,rfl⟩:=r;exact formatField_str (λC p=>⟨l,h pins _ f o _ Q (n.tok _) g⟩) hx
noncomputable def tF(t:TF):TE:=λf H Q=>t f H Str.empty λx g=>Q (.str x) g
def N5(h:PF X (e1::e2::es) t):PE X (.JoinedStr (e1::e2::es) pos) (tF t):=λpins s f H Q I q=>
 JoinedStr_many (thn (h pins s f H _ _ I q) λu o ⟨x,n,l,r,g⟩=>⟨.str x,n,l,r,g⟩)
end
def Da(X:Cx)(E:XK):Prop:=∀(pins:ZX) (g:L2.St) (H:Hp) (s:Shared) (C a:Addr) (f:Heap) (args:Yc),Inv X pins g H s->Heap.MadeExcOf s.heap f a (.ref C) args->E (.ref C) none H->X.xe (.ref a) {s with heap:=f}
noncomputable def GC(C:Addr)(E:XK)(t:TA):TS:=λ_ f H=>t f H λg h=>g.length<=sizeLine/\E (.ref C) none h
section
variable {X:Cx}{x:Str}{C:Addr}{E:XK}{e:Expr}{es:Ye}{t:TA}{p cpos pos:Pos}
def Zqi(c:FL X.K C)(L:X.mg x=some (.ref C))(U:Da X E)(Q:X.calm=true)(T:PA X (e::es) t)(M:autoParam (Gl X x) au_0)(r:autoParam ((x==("__debug__" : Str))=false) au_1)(v:autoParam (starEach (e::es) X.env=(false,eval e X.env)::starEach es X.env) au_0)(l:autoParam ((backTo cpos<|starEach es X.env).any (·.1)=false) au_0):PS X (.Raise (some<|.Call (.Name x p) (e::es) [] cpos) none pos) (GC C E t):=by
 intro pins s u H D I h;obtain⟨bm,N,nm,q,bs,hdct,sn,sub,ab,col,dd,k0,k1,k2,k3,k5,mN,hC,Y,n,w⟩:=c.obj I.ok.mod.kin
 have f:(backTo cpos<|starEach (e::es) X.env).any (·.1)=false:=by
  rw[v];show(false || (backTo cpos<|starEach es X.env).any (·.1))=false;rw[l];rfl
 refine wpAny_Raise_call_subU (nm:=nm) (q:=q) (N:=N) (bs:=bs) (hdct:=hdct) (sn:=sn) (sub:=sub) (ab:=ab) (col:=col) (dd:=dd) (k0:=k0) (k1:=k1) (k2:=k2) (k3:=k3) (k5:=k5)
  Vr (by decide +kernel) Vr (w.hasType<|by decide +kernel) (I.ok.hd Q) f n (Ss I M L ⟨rfl,?_⟩ r)
 have y:=T cpos pins s u H _ I h;rw[v]at y ⊢;refine J4 (thn y ?_);rintro z A ⟨vs,H2,g,B,J,G⟩;refine⟨rfl,by rw[←B.length];exact J,g.bk _ _ hC,Y.keeps g.bk,w.keeps g.bk,λh' a o=>?_⟩;exact U pins u H2 A C a h' z g o G
end
section
variable {P:Program}{w:World}{K:ZU}{mg:ZY}{base:Heap}{N ps:Yd}{qual x:Str}{scope:Scope}{f:Addr}{cd:Value}{A:Around}{outer:List Env}{s:Shared}{H:Hp}{E:XK}
def KH:Da (XT (CXe P w) P w K mg base N qual scope f cd A outer s H E) E:=by
 intro pins n l p C a r args I m q;obtain⟨t,g,_,_⟩:=m.there;exact Qt (Znl I rfl rfl rfl m.keeps m.new g rfl rfl rfl rfl) (λ_ o ⟨h,y⟩=>⟨a,h,C,none,l,rfl,y,q⟩) λ_ _ z=>z
def XG:Pz (CXe P w) (XT (CXe P w) P w K mg base N qual scope f cd A outer s H E) E:=by
 rintro pins n u r e p I ⟨a,T,C,g,l,rfl,y,q⟩;exact Qt (Zcx I rfl rfl rfl y) (λ_ o ⟨h,z⟩=>⟨a,h,C,g,l,rfl,z,q⟩) λ_ _ z=>z
def Ax:PassesOwn (model P w) (XT (CXe P w) P w K mg base N qual scope f cd A outer s H E).A (XT (CXe P w) P w K mg base N qual scope f cd A outer s H E).env (XT (CXe P w) P w K mg base N qual scope f cd A outer s H E).xe:=PassesOwn.leaving
def Def.okX {st k sp} (D:Own.Def K mg x st ps) (S:Xl N ps (Xk st)) (len:∀vs H Q E,sp vs H Q E->vs.length=ps.length)
  (h:∀f g A outer s H vs Q E,Xv k (A.deeper<|envOfC x (Xk st) s.heap.objs.size f g)->sp vs H Q E->
   ∃t,PSs (XT (CXe P w) P w K mg base N x (Xk st) f g A outer s H E) (XJ st) t/\t {nx:=λ_ H'=>Q .non H',rt:=Q} (start N vs) H):Own.Callee P w K mg base (CXe P w) (k+1) x ps sp:=by
 obtain⟨f,C,F,u,v⟩:=D.ex;obtain⟨oc,B,kV,y,z,J,g,G,p,rfl,o,n⟩:=F.ex;exact⟨f,_,Cr o n S len λA outer s H vs Q E r l=>h f g A outer s H vs Q E r l,u,F.kp,⟨_,o,rfl⟩,v⟩
end
end ExcR
namespace ExcR
open PySem PySem.Spec PyProof.Rows L2
open Sem (wp)
structure KG (K:ZU) (C:Addr):Prop where
 c:FL K C
 ga:PySem.W.findIn K (.ref C) "__getattribute__"=some (some<|.builtin "BaseException.__getattribute__")
 gt:PySem.W.findIn K (.ref C) "__getattr__"=some none
 cl:PySem.W.findIn K (.ref C) "__class__"=some (some<|.builtin "object.__class__")
 is:(PySem.W.clsIn K C).isSome=true
end ExcR
namespace ExcR
open PySem PySem.Spec PyProof.Rows L2
noncomputable def PV(a C:Addr)(g:Yh):HO:=.ext λh=>∃o,h.get? a=some o/\(o.cls,o.dict)=(.ref C,g)/\∃f,o.data=.fields f
noncomputable abbrev Zcn(a C:Addr):HO:=PV a C none
def Zla{h a T C g r}(x:Trc h a T (.ref C,g) r):ObjOk P w H h a (PV a C g):=by
 obtain⟨_,⟨o,l,f,u,s,_⟩,_⟩:=x;exact⟨⟨o,f,u,l,s⟩,⟨o,f⟩,λy v ⟨o1,p,n⟩ k=>⟨o1,k o1 p,n⟩⟩
def DR{H H'}{h s r}(u:Un fs [] H H' h s)(k:KI fs ex s r)(hx:∀b∈ex,h.get? b=none):Un fs [] H H' h r:=by
 have f:∀b o,h.get? b=some o->b∉ex:=λb o q z=>by rw[hx b z]at q;cases q
 refine⟨λb o q n nf g=>k.keep b o (u.keep b o q n nf g) nf (f b o q),λb o q n w g=>?_,u.free,λb o q g=>?_,u.tups,u.frzs,u.tbls⟩
 ·obtain⟨sl,p⟩:=u.slot b o q n w g;obtain⟨l,v⟩:=k.slot b _ p (f b o q)
  grind
 ·obtain⟨o1,p⟩:=u.there b o q g;obtain⟨l,v⟩:=k.slot b _ p (f b o q)
  grind
noncomputable def Ng(X:Cx)(a:Addr):Cx:={X with A:=X.A.mark (some<|.ref a),calm:=false,xe:=λ_ _=>False}
noncomputable def NA(X:Cx)(pins:ZX)(D:Ends)(l:ExceptHandler):Cx:=
 {X with pn:=X.pn++pins,xe:=λe h=>wpAny (model X.prog X.w) X.A (noteFrame e X.env) (λ_ g=>wpAny (model X.prog X.w) X.A (setFlight e none) (λ_ f=>wpAny (model X.prog X.w) X.A (handleBy e X.env [l]) (SP X pins D) X.xe f) X.xe g) X.xe h}
section
variable {X:Cx}{pins pins1:ZX}{σ:L2.St}{H H':Hp}{s s':Shared}{a T C:Addr}{D:Ends}{h0:ExceptHandler}
def Zm0(o:X.Ok):(Ng X a).Ok:=⟨o.mod,o.kind,o.glob,o.blt,o.above,o.inj,o.has,o.cab,(λz=>nomatch z),o.frames,o.stk,o.exf,o.bs,o.bsz,o.noex,o.exfs,o.funs,o.frf⟩
def HU(I:Inv X pins σ H s):Inv (Ng X a) pins σ H s:=⟨Zm0 I.ok,I.os,I.bare,I.base,I.loc,I.cell,I.free,I.freeC,I.pin,I.hok,I.len⟩
def Zlf(o:X.Ok)(I:Inv (Ng X a) pins σ H s):Inv X pins σ H s:=⟨o,I.os,I.bare,I.base,I.loc,I.cell,I.free,I.freeC,I.pin,I.hok,I.len⟩
def Zj1(o:X.Ok):(NA X pins D h0).Ok:=⟨o.mod,o.kind,o.glob,o.blt,o.above,o.inj,o.has,o.cab,o.hd,o.frames,o.stk,o.exf,o.bs,o.bsz,o.noex,o.exfs,o.funs,o.frf⟩
def Zdp(o:(NA X pins D h0).Ok):X.Ok:=⟨o.mod,o.kind,o.glob,o.blt,o.above,o.inj,o.has,o.cab,o.hd,o.frames,o.stk,o.exf,o.bs,o.bsz,o.noex,o.exfs,o.funs,o.frf⟩
def Zgk(I:Inv X pins σ H s):Inv (NA X pins D h0) [] σ H s:=⟨Zj1 I.ok,I.os,I.bare,I.base,I.loc,I.cell,I.free,I.freeC,λp f=>I.pin p (by simpa [NA]using f),I.hok,I.len⟩
def Ae(I:Inv (NA X pins D h0) pins1 σ H s):Inv X pins σ H s:=⟨Zdp I.ok,I.os,I.bare,I.base,I.loc,I.cell,I.free,I.freeC,λp f=>I.pin p (Q4 _ f),I.hok,I.len⟩
def Zcj{h'}{tk}(I:Inv X pins σ H s)(hN:X.N.Nodup)(hi:X.N[i]?=some n)(hk:X.env.scope.names.lookup n=some .local)(hm:∀(i:Nat) x v,X.N[i]?=some x->σ[i]?=some (some v)->Vis X.env.scope x->∃u,RelV v u/\Look X.env s.heap m x u)(hn:s.heap.Ns X.env.locals m)(h:h'.Ns X.env.locals (λx=>if x=n then v else m x))(hs:Heap.SameBut X.env.locals s.heap h'):Inv X pins (σ.set i none) H {s with heap:=h',toks:=tk}:=by
 have cne:=I.cne;have g:∀{b o},X.s₀.heap.get? b=some o->b≠X.env.locals:=λe=>Qf (Qo (WM e) I.ok.above);refine⟨I.ok,I.os,I.bare,⟨λb o e n l hx=>(hs.2 b<|g e).trans (I.base.keep b o e n l hx),λb o e n l hx=>?_,I.base.free,λb o e hx=>?_,I.base.tups,I.base.frzs,I.base.tbls⟩,⟨_,h,λj y G f B e3=>?_⟩,λy c e=>?_,I.free,I.freeC,λp Y=>?_,λb M e=>?_,by simpa using I.len⟩
 ·obtain⟨sl,f⟩:=I.base.slot b o e n l hx;exact⟨sl,(hs.2 b<|g e).trans f⟩
 ·obtain⟨Q,f⟩:=I.base.there b o e hx;exact⟨Q,(hs.2 b<|g e).trans f⟩
 ·by_cases w:j=i
  ·grind
  ·rw[Jz (Ne.symm w)]at B;obtain⟨J,L,q⟩:=hm j y G f B e3;refine⟨J,L,?_⟩;rcases q with⟨k,e⟩|⟨k,c,e,z⟩
   ·have U:y≠n:=λz=>w (Dj hN f (z▸hi));exact .inl ⟨k,by simp[U,e]⟩
   ·exact .inr ⟨k,c,e,z.sameBut hs (cne y c e)⟩
 ·obtain⟨E,z⟩:=I.cell y c e;exact⟨E,z.sameBut hs (cne y c e)⟩
 ·obtain⟨e,n,r,nf,d⟩:=I.pin p Y;exact⟨(hs.2 p.1 r).trans e,n,r,nf,d⟩
 ·refine(I.hok b M e).stay (λc u hc q=>(hs.2 c ?_).trans q) (λ_ q=>q) λ_ _ q=>q;rintro rfl;have A:=I.free;rcases hc with z|z
  ·rw[←z,A]at e;cases e
  ·rw[A]at z;cases z
end
noncomputable def Zn3(i:Nat)(D:Ends):Ends:={nx:=λf H=>D.nx (f.set i none) H,rt:=D.rt,bk:=λf H=>D.bk (f.set i none) H,ct:=λf H=>D.ct (f.set i none) H}
noncomputable def hx(K:ZU)(l:Addr)(i:Nat)(g:TS)(D:Ends):L2.St->XK:=λf c h H=>∃C,c=.ref C/\PySem.W.exmOne K (.ref C) (.ref l)=some true/\
 ∀a,H a=none->g (Zn3 i D) (f.set i<|some<|.ref a) (upd H a<|PV a C h)
def A8(CX:CXT)(X:Cx)(E:L2.St->XK):Prop:=∀(pins:ZX) (f:L2.St) (H:Hp) (s:Shared) (e:Value) (g:Shared),Inv X pins f H s->CX X.stack H s (E f) e g->X.xe e g
section
variable {X:Cx}{pins:ZX}{D:Ends}{x n:Str}{np hpos pos:Pos}{b0:Stmt}{suite body:Yf}{C0:Addr}{i:Nat}{ts:TS}
def Fw(B:X.stack=X.env::X.outer)(hfr:X.env.frame=some X.env.locals)(hN:X.N.Nodup)(hi:X.N[i]?=some n)(hk:X.env.scope.names.lookup n=some .local)(hg:Gl X x)(hm:X.mg x=some (.ref C0))(hdb:(x==("__debug__" : Str))=false)(hs:∀a,PSs (Ng X a) (b0::suite) ts):A8 (CXe X.prog X.w) (NA X pins D<|.ExceptHandler (some<|.Name x np) (some n) (b0::suite) hpos) (hx X.K C0 i ts D):=by
 rintro pins1 σ H s e s' I ⟨a,T,C,dx,p,rfl,y,C',ec,em,q⟩;obtain rfl:=Value.ref.inj ec;have I:=Ae I;have J:=I.call' y.os y.un y.hok y.bare λb z=>absurd z (by simp);have hF:=J.stack;have hA:=J.ok.frames;rw[B]at hF hA;refine L7 hA hF hfr y.tr λh2 T2 Q tr2 k2=>?_
 have M:s.heap.get? T2=none:=by
  cases z:s.heap.get? T2 with
  |none=>rfl
  |some o=>
   obtain⟨o1,z1⟩:=y.un.there T2 o z (by simp);exact absurd (WM z1) (J9.mpr Q)
 have U:=y.hok.fresh Q
 have u2:Un (frs X.stack) [] H p s.heap h2:=DR y.un (by rw[B];exact k2) λb g=>by
  rcases WU.mp g with rfl|g
  ·exact y.na
  ·rw[WB.mp g];exact y.nT
 have ok2:=Bg y.hok k2 (λb g=>J.stkFree b (by rw[B];exact g)) λb g=>by
  rcases WU.mp g with rfl|g
  ·exact y.fa
  ·rw[WB.mp g];exact y.fT
 refine Ag tr2 λh3 G k3=>?_;have u3:=DR u2 (k3.mono (by simp) λ_ z=>z) λb g=>by rw[WB.mp g];exact M
 have L:=Bg ok2 k3 (by simp) λb g=>by rw[WB.mp g];exact U
 have J3:Inv X pins σ p {s' with heap:=h3}:=I.call' y.os u3 L y.bare λb z=>absurd z (by simp)
 have S3:Inv (Ng X a) pins σ p {s' with heap:=h3}:=HU J3
 refine wpAny_handleBy_cons (codeAny_handlers_test<|Ss S3 hg hm ?_ hdb) (by intro z;cases z);obtain⟨_,⟨oe,vs,g1,g2,g3,g4⟩,_⟩:=id G;refine(PySem.W.exm_one J3.kIn ((show oe.cls=Value.ref C from Q2 Prod.fst g2)▸(PySem.W.Looks.ld g1).andThen .now) em).here ?_
 refine codeAny_handlers_suite_as (Ag G λh4 tr4 k4=>?_);have l:=DR u3 (k4.mono (by simp) λ_ z=>z) λb g=>by rw[WB.mp g];exact M
 have u5:Un (frs X.stack) [] H (upd p a<|PV a C dx) s.heap h4:=by
  have ne:∀b o,s.heap.get? b=some o->b≠a:=λb o z w=>by rw[w,y.na]at z;cases z
  have r:∀b o,p b=some o->b≠a:=λb o z w=>by rw[w,y.fa]at z;cases z
  refine⟨l.keep,l.slot,λb o z n m=>by rw[Xs (ne b o z)];exact l.free b o z n m,l.there,λb xs z=>?_,λb o u z=>?_,λb ps z=>?_⟩
  ·rw[Xs (r b _<|l.tups b xs z)];exact l.tups b xs z
  ·rw[Xs (r b _<|l.frzs b o u z)];exact l.frzs b o u z
  ·obtain⟨more,z1⟩:=l.tbls b ps z;exact⟨more,by rw[Xs (r b _ z1)];exact z1⟩
 have ok5:HOk X.prog X.w (upd p a<|PV a C dx) h4:=λb ob e=>by
  by_cases g:b=a
  ·subst g;rw[X5]at e;cases e
   exact Zla tr4
  ·rw[Xs g]at e;refine((Bg L k4 (by simp) λb g=>by rw[WB.mp g];exact U) b ob e).stay (λ_ _ _ z=>z) (λc z=>?_) λc xs z=>?_
   ·rw[Xs λw=>by rw[w,y.fa]at z;cases z];exact z
   ·rw[Xs λw=>by rw[w,y.fa]at z;cases z];exact z
 have J5:Inv X pins σ (upd p a<|PV a C dx) {s' with heap:=h4}:=I.call' y.os u5 ok5 y.bare λb z=>absurd z (by simp)
 have S5:Inv (Ng X a) pins σ (upd p a<|PV a C dx) {s' with heap:=h4}:=HU J5
 refine B3 (X:=Ng X a) S5 hN hi (.inl hk) (v:=.ref a) rfl (λs6 S6=>?_) (.inr hk);refine Qt (hs a pins s6 _ _ _ S6<|q a y.fa) (λf s7 h7=>?_) λ_ _ z=>z.elim
 have gone:∀{h:L2.St} {Y:Hp} {R:Unit->Shared->Prop},Inv (Ng X a) pins h Y s7->(∀s8,Inv X pins (h.set i none) Y s8->R () s8)->wpAny (model X.prog X.w) X.A (do bindName X.env n .none;unbindBehindTheSuite X.env n hpos) R X.xe s7:=λ{h Y R} E hR=>by
  obtain⟨m,hn,hl⟩:=id E.loc;exact wpAny_nameGoes_keeps hk hn (by rw[show X.env.scope.kind=.function from J5.ok.kind];rfl) λh8 v hn8 hs8=>hR _ (Zcj (Zlf J5.ok E) hN hi hk hl hn hn8 hs8)
 cases f with
 |ret u=>obtain⟨v,h,Y,E,rv,q7⟩:=h7;exact gone E λs8 I8=>⟨v,_,_,I8,rv,q7⟩
 |_=>obtain⟨h,Y,E,q7⟩:=h7;exact gone E λs8 I8=>⟨_,_,I8,q7⟩
def Zhg{w:Ends->TS}(y:∀pins D,PSs (NA X pins D<|.ExceptHandler (some<|.Name x np) (some n) (b0::suite) hpos) body (w D)) :
  PS X (.Try body [.ExceptHandler (some<|.Name x np) (some n) (b0::suite) hpos] [] [] pos) (λD o H=>w D D o H):=by
 intro pins s o H D I h;refine wpAny_Try_except (Qt (y pins D [] s o H D (Zgk I) h) (λf A p=>?_) λ_ _ z=>z);cases f with
 |next=>
  obtain⟨g,l,J,q⟩:=p;exact WE ⟨g,l,Ae J,q⟩
 |ret u=>obtain⟨v,g,l,J,r,q⟩:=p;exact⟨v,g,l,Ae J,r,q⟩
 |_=>obtain⟨g,l,J,q⟩:=p;exact⟨g,l,Ae J,q⟩
end
noncomputable def Xp(f:ZY)(x:Str):Addr:=match f x with
 |some (.ref C)=>C
 |_=>0
def Cf(h:f x=some (.ref C)):Xp f x=C:=by unfold Xp;rw[h]
def Pp{v pos}(h:∃u,X.mg x=some u/\RelV v u)(f:autoParam (Gl X x) au_0)(hd:autoParam ((x==("__debug__" : Str))=false) au_1):PE X (.Name x pos) (tC v):=by
 obtain⟨u,l,g⟩:=h;exact Zdg f l g hd
end ExcR
namespace Own
open PySem PySem.Spec PyProof.Rows L2 M
section
variable {X:Cx}{pins:ZX}{σ:L2.St}{H:Hp}{s:Shared}
def Ru{p:Int×Int}{its}(r:Vals [V.int p.1,V.int p.2] its):∃g f,its=[.int p.1 g,.int p.2 f]:=by
 cases r with
 |cons o h=>
  cases h with
  |cons n l=>
   cases l
   obtain⟨g,rfl⟩:=o;obtain⟨f,rfl⟩:=n
   grind
def Zfz{x y p q u v}(I:Inv X pins σ H s)(U:A.units<cLine)(L:RelV x u)(J:RelV y v)(Y:Pt H x p)(hq:Pt H y q):SeqAt.EqAt A s u v (decide (p=q)):=by
 obtain⟨a,rfl,C⟩:=Y;obtain⟨b,rfl,l⟩:=hq;obtain rfl:=L;obtain rfl:=J;by_cases n:a=b
 ·subst n;rw[C]at l
  have e:p=q:=by
   injection l with l;injection l with l;injection l with g f;injection f with f _;exact Prod.ext (V.int.inj g) (V.int.inj f)
  rw[W9 e];exact SeqAt.EqAt.same _
 ·obtain⟨_,T,N,G⟩:=(I.hok a _ C);obtain⟨_,Q,M,E⟩:=(I.hok b _ l);obtain⟨B,w,rfl⟩:=Ru N;obtain⟨r,o,rfl⟩:=Ru M
  have h:=SeqAt.RcAt.tuples (e:=λj=>if j=0 then p.1==q.1 else p.2==q.2) G E U (λj g f=>by
   have hj:j=0\/j=1:=by
    have h1':j<2:=g;lia
   rcases hj with rfl|rfl
   ·exact SeqAt.EqAt.int_int _ _ _ _
   ·exact SeqAt.EqAt.int_int _ _ _ _)
  have e:((List.range (min ([Value.int p.1 B,Value.int p.2 w].toArray).size ([Value.int q.1 r,Value.int q.2 o].toArray).size)).all (λj=>if j=0 then p.1==q.1 else p.2==q.2)&&([Value.int p.1 B,Value.int p.2 w].toArray).size==([Value.int q.1 r,Value.int q.2 o].toArray).size)=decide (p=q):=by
   show((List.range 2).all (λj=>if j=0 then p.1==q.1 else p.2==q.2)&&true)=decide (p=q);rw[Bool.and_true];have e2:(List.range 2).all (λj=>if j=0 then p.1==q.1 else p.2==q.2)=((p.1==q.1)&&(p.2==q.2)):=by simp[List.range,List.range.loop]
   rw[e2];by_cases g:p.1=q.1
   ·by_cases f:p.2=q.2
    ·rw[W9 (Prod.ext g f)];simp[g,f]
    ·rw[Qq (λz=>f (by rw[z]))];simp[f]
   ·rw[Qq (λz=>g (by rw[z]))];simp[g]
  rw[e]at h;exact SeqAt.EqAt.of_refs n h
noncomputable def eP(H:Hp)(q:Int×Int)(u:Value):Bool:=match u with
 | .ref a=>(match H a with
  |some (.tup [.int i,.int j])=>decide ((i,j)=q)
  |_=>false)
 |_=>false
def Lg{p q}(h:Pt H v p)(r:RelV v u):eP H q u=decide (p=q):=by
 obtain⟨a,rfl,f⟩:=h;obtain rfl:=r;unfold eP;simp_all
theorem AI:∀{vs us}{ps:ZV},Vals vs us->LV Pt H vs ps->us.any (eP H q)=decide (q∈ps)
 |_,_,[],.nil,_=>rfl
 |_,_,_::_,.nil,h|v::vs,u::us,[],.cons _ _,h=>absurd h.1 (by simp)
 |v::vs,u::us,p::ps,.cons r t,h=>by
  obtain⟨l,e,f⟩:=h.2 0 p rfl;cases e
  have g:LV Pt H vs ps:=⟨by simpa using h.1,λi x e=>h.2 (i+1) x e⟩;rw[VQ,Lg f r,AI t g];by_cases n:p=q
  ·grind
  ·grind
noncomputable def SQ(neg:Bool):R2:=λx y H Q=>∃(l:Addr) (f:ZV) (q:Int×Int),y=.ref l/\Pt H x q/\LAt Pt H l f/\Q (.bl (if neg then !decide (q∈f)else decide (q∈f))) H
theorem Dw{x v q}(I:Inv X pins σ H s)(l:A.units<cLine)(g:RelV x v)(hx:Pt H x q):∀{vs us}{ps:ZV},Vals vs us->LV Pt H vs ps->∀u∈us,SeqAt.EqAt A s u v (eP H q u)
 |_,_,_,.nil,_,u,f=>by cases f
 |w::vs,u::us,[],.cons _ _,h,_,_=>absurd h.1 (by simp)
 |w::vs,u::us,p::ps,.cons r t,h,n,f=>by
  obtain⟨y,e,hw⟩:=h.2 0 p rfl;cases e
  have o:LV Pt H vs ps:=⟨by simpa using h.1,λi x e=>h.2 (i+1) x e⟩;rcases WU.mp f with rfl|f
  ·rw[Lg hw r];exact Zfz I l r g hw hx
  ·exact Dw I l g hx t o n f
def Zib(z:X.A.in1.units<cLine):OpR X (compareOp .In) (SQ false):=by
 intro pins s σ H x y v u Q I o n h;obtain⟨l,E,q,rfl,hx,⟨C,B,g⟩,k⟩:=h;cases n
 obtain⟨f,r,p,G⟩:=I.list (SqL.of B);refine SeqAt.in_listAt (eP H q) p.isList (λw hw=>Dw I z o hx r g w (by grind)) ⟨.bl _,H,I,rfl,?_⟩;rwa[show f.toArray.any (eP H q)=f.any (eP H q) by simp,AI r g]
def Zdb(z:X.A.in1.units<cLine):OpR X (compareOp .NotIn) (SQ true):=by
 intro pins s σ H x y v u Q I o n h;obtain⟨l,E,q,rfl,hx,⟨C,B,g⟩,k⟩:=h;cases n
 obtain⟨f,r,p,G⟩:=I.list (SqL.of B);refine SeqAt.notIn_listAt (eP H q) p.isList (λw hw=>Dw I z o hx r g w (by grind)) ⟨.bl _,H,I,rfl,?_⟩;rwa[show f.toArray.any (eP H q)=f.any (eP H q) by simp,AI r g]
end
end Own
namespace M
open PySem PySem.Spec PyProof.Rows L2 Own
section
variable {α:Type}{R:Hp->V->α->Prop}{H:Hp}
noncomputable def pick(c:α->Bool)(d:V×α):Option V:=if c d.2=true then some d.1 else none
end
end M
namespace Own
open PySem PySem.Spec PyProof.Rows L2 M
section
variable {X:Cx}
def Zeo:Kn X (.type "range") (λxs H Q=>∃i j,xs=[.int i,.int j]/\∀r,H r=none->Q (.ref r) (upd H r<|.rng i j)):=by
 intro pins s p H xs u Q I l h;obtain⟨i,j,rfl,q⟩:=h;cases l with
 |cons r f=>
  cases f with
  |cons n f=>
   cases f
   obtain⟨t,rfl⟩:=r;obtain⟨g,rfl⟩:=n;refine call_range_2 ⟨.ref s.heap.objs.size,upd H s.heap.objs.size (.rng i j),?_,rfl,q _ (I.hok.fresh<|WI _)⟩;exact I.laid (λb o e=>WD _ e) (WI _) ⟨t,g,s.toks,WQ _ rfl⟩
noncomputable def XO(i:Int)(n:Nat):ZW:=(List.range n).map λ(k:Nat)=>i+(k:Int)
def Zbl:∀n us,us.length=n->(∀(j:Nat) v,us[j]?=some v->∃t,v=Value.int (i+(j:Int)*1) t)->Vals ((XO i n).map V.int) us:=by
 intro n us p h
 have f:∀us o,(∀j v,us[j]?=some v->∃t,v=Value.int (i+((o+j:Nat):Int)) t)->Vals (((List.range' o us.length).map λ(k:Nat)=>i+(k:Int)).map V.int) us:=by
  intro us
  induction us with
  |nil=>intro o _;exact .nil
  |cons u us l=>
   intro o h;obtain⟨t,e⟩:=h 0 u rfl;refine .cons ⟨t,by rw[e];simp⟩ (l (o+1) λj v g=>?_);obtain⟨r,s⟩:=h (j+1) v g
   grind
 have:=f us 0 (λj v g=>by obtain⟨t,e⟩:=h j v g;exact⟨t,by rw[e];congr 1<;>lia⟩)
 unfold XO;rw[List.range_eq_range',←p];lia
def Zpj(A:X.calm=true):Kn X (.type "list") (λxs H Q=>∃r i j,xs=[.ref r]/\H r=some (.rng i j)/\(-(2 ^ 62)<=i/\i<2 ^ 62/\-(2 ^ 62)<=j/\j<2 ^ 62)/\(j-i).toNat<=1000000/\
  ∀l,H l=none->Q (.ref l) (upd H l<|.lst ((XO i (j-i).toNat).map V.int))):=by
 intro pins s J H xs L Q I o h;obtain⟨r,i,j,rfl,y,⟨b1,G,E,C⟩,g,q⟩:=h;obtain⟨u,rfl,p⟩:=o.one;obtain rfl:=p;obtain⟨t,u,v,e⟩:=(I.hok r _ y);refine call_list_range (I.ok.hd A) e (small_one b1 G E C) (rangeSize_nat i j) (WK g<|by simp) λN M f c z B n=>?_;refine⟨.ref s.heap.objs.size,upd H s.heap.objs.size (.lst ((XO i (j-i).toNat).map V.int)),?_,rfl,q _ (I.hok.fresh<|WI _)⟩;have x:Vals ((XO i (j-i).toNat).map V.int) f.toList:=Zbl _ _ (by rw[Q6];exact n.1) λk w hw=>n.2 k w (by grind);refine I.laid z (WI _) ⟨?_,f.toList,c,x,by simpa using B⟩;rw[W6];unfold XO;rw[W6,Jo];exact WK g (by decide)
end
end Own
namespace Own
open PySem PySem.Spec PyProof.Rows L2
section
variable {X:Cx}{K:ZU}
def Hm(y:X.calm=true)(A:autoParam (X.K=K) au_0):Kn X (.builtin "sum") (λxs H Q=>∃(p:Addr) (ns:ZW),xs=[.ref p]/\SqL K H p (ns.map V.int)/\Q (.int ns.sum) H):=by
 subst A;intro pins s E H xs G Q I o h;obtain⟨p,ns,rfl,z,q⟩:=h;obtain⟨u,rfl,v⟩:=o.one;obtain rfl:=v;obtain⟨g,r,w,_⟩:=I.list z;have n:IntsAre g ns:=by simpa using Ac r
 obtain⟨f,hx⟩:=n.allInts.items;have l:=w.isList;rw[hx]at l;refine sum_intListG (I.ok.hd y) l λM J L x=>?_
 have C:ns=f.toList.map (·.1):=by
  rw[←nums_intItems,←hx];exact n.numsOf.symm
 have B:preSum (numAt f) f.size=ns.sum:=by
  rw[preSum_eq,List.take_of_length_le (by simp),C]
 rw[B];exact⟨.int ns.sum,H,I.kept x,⟨_,rfl⟩,q⟩
def Zqe(L:X.calm=true)(T:autoParam (X.K=K) au_0):Kn X (.builtin "min") (λxs H Q=>∃(p:Addr) (ns:ZW),xs=[.ref p]/\SqL K H p (ns.map V.int)/\0<ns.length/\∀M,M∈ns->(∀a∈ns,M<=a)->Q (.int M) H):=by
 subst T;intro pins s Y H xs us Q I A h;obtain⟨p,ns,rfl,N,o,q⟩:=h;obtain⟨u,rfl,B⟩:=A.one;obtain rfl:=B;obtain⟨l,r,C,_⟩:=I.list N;have x:IntsAre l ns:=by simpa using Ac r
 obtain⟨g,e⟩:=x.allInts.items;have w:=C.isList;rw[e]at w;have f:ns=g.toList.map (·.1):=by rw[←x.numsOf,←nums_intItems,←e]
 have n:0<g.size:=by
  have z:=o;rw[f,W6,Q6]at z;exact z
 refine min_intList (I.ok.hd L) w n λv h' tk E G=>?_;obtain⟨t,rfl⟩:=intItems_at E;obtain⟨h1,U⟩:=argBest_lt (numAt g) (g.size-1);refine⟨.int _,H,I.kept G,⟨_,rfl⟩,q _ ?_ λa y=>?_⟩
 ·rw[f,numAt_eq];exact getD_mem (by rw[W6,Q6];lia)
 ·rw[f]at y;obtain⟨j,J,rfl⟩:=Qn.mp y;rw[W6,Q6]at J
  have:=U j (by lia)
  rw[numAt_eq g j]at this
  grind
theorem RR:∀{bs}{us:Yc},Vals (bs.map V.bl) us->LSm.BoolsAre us bs
 |[],_,.nil=>.nil
 |b::r,_,.cons h t=>by
  cases h
  exact .cons b (RR t)
def MN(B:X.calm=true)(E:autoParam (X.K=K) au_0):Kn X (.builtin "any") (λxs H Q=>∃(p:Addr) (bs:List Bool),xs=[.ref p]/\SqL K H p (bs.map V.bl)/\Q (.bl<|bs.any id) H):=by
 subst E;intro pins s G H xs J Q I w h;obtain⟨p,bs,rfl,C,q⟩:=h;obtain⟨u,rfl,x⟩:=w.one;obtain rfl:=x;obtain⟨f,r,y,_⟩:=I.list C;have n:=RR r;have l:=y.isList;have g:p<s.heap.objs.size:=by obtain⟨_,e,_⟩:=l;exact WM e
 refine call_any_walk (wpAny_pyIter_list l ?_)
 refine⟨s.heap.objs.size,[s.heap.objs.size,p],[s.heap.objs.size],f.toArray.size,_,_,λi=>(bs[i]?).getD false,rfl,Walks.list (A:=X.A.in1) (I.ok.hd B) _ p (Qf g) f.toArray,
  ⟨⟨_,WQ _ rfl,rfl,rfl⟩,l.push _⟩,λi v M U Y N o=>?_,λT L z=>?_⟩
 ·obtain⟨b,e,rfl⟩:=n.get i v (by grind);simp only[e,Option.getD_some]at o;exact Vs o
 ·have e:((List.range f.toArray.size).any λi=>(bs[i]?).getD false)=bs.any id:=by
   rw[Ql,n.length];exact LSm.range_any bs
  rw[e];exact⟨.bl (bs.any id),H,I.kept (LSm.kept_iter z),rfl,q⟩
noncomputable def DU(K:ZU)(neg:Bool):R2:=λx y H Q=>∃(p q:Addr) (xs:List V),x=.ref p/\y=.ref q/\SqL K H p xs/\SqL K H q []/\Q (.bl (if neg then !xs.isEmpty else xs.isEmpty)) H
def MK(l:X.A.units<cLine)(E:autoParam (X.K=K) au_0):OpR X (compareOp .Eq) (DU K false):=by
 subst E;intro pins s J H x y v u Q I w o h;obtain⟨p,q,xs,rfl,rfl,C,hq,k⟩:=h;obtain rfl:=w;obtain rfl:=o;obtain⟨L,B,f,_⟩:=I.list C;obtain⟨n,z,p2,_⟩:=I.list hq;have N:=B.length;have M:0=n.length:=z.length;have g:=k;by_cases e:xs.length=0
 ·refine SeqAt.eq_listAt (e:=λ_=>true) f.isList p2.isList (by simp;lia) l (λj T G=>by simp at G;lia) ⟨.bl xs.isEmpty,H,I,?_,g⟩;show _=Value.bool xs.isEmpty
  grind
 ·refine SeqAt.eq_list_lengthsAt f.isList p2.isList (by simp;lia) l ⟨.bl xs.isEmpty,H,I,?_,g⟩;cases xs with
  |nil=>exact absurd rfl e
  |cons a r=>rfl
def Dg(l:X.A.units<cLine)(E:autoParam (X.K=K) au_0):OpR X (compareOp .NotEq) (DU K true):=by
 subst E;intro pins s J H x y v u Q I w o h;obtain⟨p,q,xs,rfl,rfl,C,hq,k⟩:=h;obtain rfl:=w;obtain rfl:=o;obtain⟨L,B,f,_⟩:=I.list C;obtain⟨n,z,p2,_⟩:=I.list hq;have N:=B.length;have M:0=n.length:=z.length;have g:=k;by_cases e:xs.length=0
 ·refine SeqAt.RcNeAt.lists (e:=λ_=>true) f.isList p2.isList (by simp;lia) l (λj T G=>by simp at G;lia) _ _ _ _ ⟨.bl (!xs.isEmpty),H,I,?_,g⟩;show _=Value.bool (!xs.isEmpty)
  grind
 ·refine SeqAt.RcNeAt.lists_lengths f.isList p2.isList (by simp;lia) l _ _ _ _ ⟨.bl (!xs.isEmpty),H,I,?_,g⟩;cases xs with
  |nil=>exact absurd rfl e
  |cons a r=>rfl
end
end Own
namespace M
open PySem PySem.Spec PyProof.Rows L2 Own
def By(f:ZV)(r:ZW):Prop:=∀(i:Nat) (x y:Int),r[i]?=some x->r[i+1]?=some y->(x,y)∈f
structure Ring (hs:ZW) (ws:ZV) (r:ZW):Prop where
 two:2<=r.length
 nodup:r.Nodup
 sub:∀x∈r,x∈hs
 chain:By ws r
 last:∀x y,r[0]?=some x->r[r.length-1]?=some y->(y,x)∈ws
theorem NV:∀{xs ys:ZW},xs.Nodup->(∀x∈xs,x∈ys)->xs.length<=ys.length
 |[],_,_,_=>QU _
 |x::xs,ys,g,h=>by
  obtain⟨n,l⟩:=Qw.mp g;have o:=NV l λz f=>(List.mem_erase_of_ne (λe:z=x=>n (e▸f))).mpr (h z<|Qb _ f)
  grind
def Lb(G:∀q∈s,q.1≠q.2)(w:g≠[])(h:∀x∈g,∃y∈g,(y,x)∈s):∃r,Ring g s r:=by
 have grow:∀n r,r≠[]->r.Nodup->(∀x∈r,x∈g)->By s r->g.length<r.length+n->∃r,Ring g s r:=by
  intro n
  induction n with
  |zero=>
   intro r B u sub A H
   have:=NV u sub
   lia
  |succ n E=>
   intro r B u sub A H;cases r with
   |nil=>exact absurd rfl B
   |cons x t=>
    obtain⟨y,v,hw⟩:=h x (sub x (Qs ..));by_cases C:y∈x::t
    ·obtain⟨i,M,e⟩:=Qn.mp C
     have L:i≠0:=λz=>by
      subst z;exact G _ hw e.symm
     have p:((x::t).take (i+1)).length=i+1:=by
      rw[Qa];lia
     refine⟨(x::t).take (i+1),by lia,u.sublist (Vt _ _),λz o=>sub z (Vy o),λk a b l f=>?_,λa b l f=>?_⟩
     ·have J:k+1<i+1:=by
       have:=(WT.mp f).1
       lia
      rw[QR (by lia)]at l;rw[QR J]at f;exact A k a b l f
     ·rw[p,QF,QR (by lia),W8 M,e]at f;cases l
      cases f
      exact hw
    ·refine E (y::x::t) (by simp) (Qw.mpr ⟨C,u⟩) (λz o=>?_) (λk a b l f=>?_) (by rw[WV];lia)
     ·rcases WU.mp o with rfl|o
      ·exact v
      ·exact sub z o
     ·cases k with
      |zero=>
       cases l
       cases f
       exact hw
      |succ k=>exact A k a b l f
 obtain⟨x,hx⟩:=VT g w;exact grow (g.length+1) [x] (by simp) (by simp) (λy v=>by rw[WB.mp v];exact hx) (λi a b l f=>by simp at f) (by show g.length<1+(g.length+1);lia)
end M
namespace M
def sl:ZW->ZW->Prop
 |x::xs,y::f=>x<y\/(x=y/\sl xs f)
 |_,_=>False
def sl_cons:sl (l::a) (l::b)↔sl a b:=by
 show(l<l\/(l=l/\sl a b))↔sl a b;constructor
 ·simp
 ·simp
theorem FF:∀{a b} x y,sl a b->sl (a++[x]) (b++[y])
 |[],[],_,_,h|[],_::_,_,_,h|_::_,[],_,_,h=>by unfold sl at h;exact h.elim
 |p::a,q::b,x,y,h=>by
  rw[QS,QS];unfold sl at h ⊢;rcases h with h|⟨g,f⟩
  ·lia
  ·exact .inr ⟨g,FF x y f⟩
theorem DJ:∀{a}{x y:Int},x<y->sl (a++[x]) (a++[y])
 |[],x,y,h=>.inl h
 |p::a,x,y,h=>by
  exact .inr ⟨rfl,DJ h⟩
theorem F5:∀{a b c:ZW},sl a b->sl b c->sl a c
 |[],b,c,h,_|_::_,[],_,h,_|_::_,_::_,[],_,h=>by unfold sl at h;exact h.elim
 |x::a,y::b,z::c,g,f=>by
  unfold sl at g f ⊢;rcases g with g|⟨g,n⟩
  ·lia
  ·rcases f with f|⟨f,l⟩
   ·lia
   ·exact .inr ⟨by lia,F5 n l⟩
theorem CL:∀{a:ZW},¬sl a a
 |[],h=>by unfold sl at h;exact h
 |x::a,h=>by
  rcases h with h|⟨_,h⟩
  ·lia
  ·exact CL h
noncomputable def Xt(g:Int):ZW->Int
 |[]=>g
 |x::t=>Xt x t
theorem Ph(g:Int):∀a b,Xt g (a++b)=Xt (Xt g a) b
 |[],b=>rfl
 |x::a,b=>Ph x a b
theorem Fg(g:Int):∀t,(g::t)[t.length]?=some (Xt g t)
 |[]=>rfl
 |x::t=>by
  exact Fg x t
def Path(C:Int->Prop)(f:ZV):Int->ZW->Prop
 |_,[]=>True
 |g,x::t=>C x/\(g,x)∈f/\Path C f x t
section
variable {C:Int->Prop}{ws:ZV}
theorem path_app:∀{g}{a b:ZW},Path C ws g (a++b)↔Path C ws g a/\Path C ws (Xt g a) b
 |g,[],b=>⟨λh=>⟨trivial,h⟩,λh=>h.2⟩
 |g,x::a,b=>by
  constructor
  ·rintro⟨n,l,f⟩
   have:=path_app.mp f
   exact⟨⟨n,l,this.1⟩,this.2⟩
  ·rintro⟨⟨n,l,f⟩,o⟩;exact⟨n,l,path_app.mpr ⟨f,o⟩⟩
theorem SW:∀{g}{t:ZW},Path C ws g t->∀x∈t,C x
 |g,[],_,x,h=>by cases h
 |g,y::t,⟨l,_,f⟩,x,h=>by
  rcases WU.mp h with rfl|h
  ·lia
  ·exact SW f x h
theorem HL:∀{g}{t:ZW},Path C ws g t->By ws (g::t)
 |g,[],_=>λi x y o f=>by simp at f
 |g,z::t,⟨o,f,n⟩=>λi x y l h=>by
  cases i with
  |zero=>grind
  |succ i=>exact HL n i x y l h
theorem OE:∀{g}{t:ZW},By ws (g::t)->(∀x∈t,C x)->Path C ws g t
 |g,[],_,_=>trivial
 |g,z::t,h,f=>⟨f z Qs,h 0 g z rfl rfl,OE (λi x y n l=>h (i+1) x y n l) λx hx=>f x (Qb _ hx)⟩
end
def Gr(hs:ZW)(l:Int):Int->Prop:=λx=>x∈hs/\l<x
def Kq(hs:ZW)(f:ZV)(l:Int)(t:ZW):Prop:=Path (Gr hs l) f l t/\(Xt l t,l)∈f
def RF(hs:ZW)(f:ZV)(l:Int)(r:ZW):Prop:=
 (r=[]/\∀t,¬Kq hs f l t)\/∃t,r=l::t/\Kq hs f l t/\∀u,Kq hs f l u->t.length<u.length\/(t.length=u.length/\(t=u\/sl t u))
structure Lev (hs:ZW) (ws:ZV) (l:Int) (k:Nat) (ps:List (ZW)) (ls:ZW):Prop where
 way:∀p∈ps,p.length=k/\Path (Gr hs l) ws l p
 srt:ps.Pairwise sl
 lin:∀h∈ls,Gr hs l h
 lsrt:ls.Pairwise (· < ·)
 cover:∀t,t.length<=k->Path (Gr hs l) ws l t->Xt l t∉ls
 first:∀t,t.length=k->Path (Gr hs l) ws l t->(∃p∈ps,Xt l p=Xt l t/\(p=t\/sl p t))\/∃u,u.length<k/\Path (Gr hs l) ws l u/\Xt l u=Xt l t
 none:∀t,t.length<k->¬Kq hs ws l t
 comp:∀h,Gr hs l h->h∉ls->∃t,t.length<=k/\Path (Gr hs l) ws l t/\Xt l t=h
section
variable {hs:ZW}{ws:ZV}{l:Int}{k:Nat}{ps:List (ZW)}{ls:ZW}
def Lev.start (s:ls.Pairwise (· < ·)) (g:∀h,h∈ls↔Gr hs l h):Lev hs ws l 0 [[]] ls:=by
 have nil:∀t:ZW,t.length=0->t=[]:=λt h=>QG.mp h;refine⟨λp o=>?_,by simp,λh n=>(g h).mp n,s,λt f _ h=>?_,λt f _=>.inl ⟨[],by simp,by rw[nil t f],.inl (nil t f).symm⟩,λt f=>by lia,λh n r=>absurd ((g h).mpr n) r⟩
 ·rw[WB.mp o];trivial
 ·rw[nil t (by lia)]at h
  have:=((g _).mp h).2
  exact absurd this (by show ¬l<l;lia)
def Lev.found (L:Lev hs ws l k ps ls) {p i} (r:i<ps.length) (s:ps[i]=p) (H:(Xt l p,l)∈ws) (G:∀j n,j<i->(Xt l ps[j],l)∉ws):RF hs ws l (l::p):=by
 have C:p∈ps:=by rw[←s];exact WW r
 obtain⟨Q,x⟩:=L.way p C;refine .inr ⟨p,rfl,⟨x,H⟩,λu g=>?_⟩;by_cases M:u.length<k
 ·exact absurd g (L.none u M)
 ·by_cases J:u.length=k
  ·rcases L.first u J g.1 with⟨q,hq,N,h⟩|⟨v,B,A,y⟩
   ·refine .inr ⟨by lia,?_⟩;obtain⟨j,n,w⟩:=Qn.mp hq;have o:(Xt l ps[j],l)∈ws:=by rw[w,N];exact g.2
    have E:=Nat.le_of_not_lt λz=>G j n z o
    have f:p=q\/sl p q:=by
     by_cases e:i=j
     ·grind
     ·have:=Qg.mp L.srt i j r n (by lia)
      rw[s,w]at this;exact .inr this
    rcases f with rfl|f
    ·exact h
    ·rcases h with rfl|h
     ·exact .inr f
     ·exact .inr (F5 f h)
   ·exact absurd ⟨A,by rw[y];exact g.2⟩ (L.none v B)
  ·exact .inl (by lia)
def Lev.none_here (L:Lev hs ws l k ps ls) (h:∀p∈ps,(Xt l p,l)∉ws):∀t,t.length<k+1->¬Kq hs ws l t:=λt u f=>by
 by_cases r:t.length<k
 ·exact L.none t r f
 ·rcases L.first t (by lia) f.1 with⟨q,hq,s,w⟩|⟨v,o,n,g⟩
  ·exact h q hq (by rw[s];exact f.2)
  ·exact L.none v o ⟨n,by rw[g];exact f.2⟩
def Lev.over (L:Lev hs ws l k [] ls):RF hs ws l []:=by
 refine .inl ⟨rfl,?_⟩
 have early:∀n t,t.length=n->Path (Gr hs l) ws l t->∃u,u.length<k/\Path (Gr hs l) ws l u/\Xt l u=Xt l t:=by
  intro n
  induction n with
  |zero=>
   intro t f g;by_cases N:0<k
   ·exact⟨t,by lia,g,rfl⟩
   ·rcases L.first t (by lia) g with⟨q,hq,_⟩|⟨v,r,_⟩
    ·cases hq
    ·lia
  |succ n J=>
   intro t f g;have A:t≠[]:=λz=>by rw[z]at f;cases f
   have p:=(QV A).symm;generalize t.getLast A=x at p;generalize t.dropLast=s at p;subst p;obtain⟨H,p2⟩:=path_app.mp g;obtain⟨u,w,o,h⟩:=J s (by simpa using f) H;have y:=path_app.mpr ⟨o,by rw[h];exact p2⟩;have B:Xt l (u++[x])=Xt l (s++[x]):=by rw[Ph,Ph];rfl
   by_cases M:(u++[x]).length<k
   ·exact⟨_,M,y,B⟩
   ·rcases L.first (u++[x]) (by grind) y with⟨q,hq,_⟩|⟨v,r,G,E⟩
    ·cases hq
    ·exact⟨v,r,G,E.trans B⟩
 intro t C;obtain⟨u,w,o,h⟩:=early t.length t rfl C.1;exact L.none u w ⟨o,by rw[h];exact C.2⟩
structure LG (ws:ZV) (l:Int) (P:ZW->Int->Prop) (lg:List (ZW)):Prop where
 mem:∀q∈lg,∃p h,P p h/\q=p++[h]/\(Xt l p,h)∈ws
 srt:lg.Pairwise sl
 has:∀p h,P p h->(Xt l p,h)∈ws->∃p',p'++[h]∈lg/\(p'=p\/sl p' p)
def Lev.next (L:Lev hs ws l k ps ls) (hn:∀p∈ps,(Xt l p,l)∉ws) (G:LG ws l (λp h=>p∈ps/\h∈ls) H)
  (e:A=ls.filter λh=>decide (¬h∈H.map (Xt l))):Lev hs ws l (k+1) H A:=by
 have f:∀h,h∈A↔h∈ls/\¬h∈H.map (Xt l):=λh=>by rw[e,Qh,Jn]
 have g:∀q∈H,q.length=k+1/\Path (Gr hs l) ws l q:=λq hq=>by
  obtain⟨p,h,⟨n,h2⟩,rfl,h3⟩:=G.mem q hq;obtain⟨w1,Q⟩:=L.way p n;exact⟨by simp[w1],path_app.mpr ⟨Q,L.lin h h2,h3,trivial⟩⟩
 have reach:∀s x,s.length=k->Path (Gr hs l) ws l s->Gr hs l x->(Xt l s,x)∈ws->x∈ls->∃p∈ps,Xt l p=Xt l s/\(p=s\/sl p s):=λs x n h2 h3 h4 h5=>by
  rcases L.first s n h2 with z|⟨v,v1,v2,v3⟩
  ·exact z
  ·have:=L.cover (v++[x]) (by simp;lia) (path_app.mpr ⟨v2,h3,by rw[v3];exact h4,trivial⟩)
   rw[Ph]at this;exact absurd h5 this
 refine⟨g,G.srt,λh hh=>L.lin h ((f h).mp hh).1,?_,λt B M hl=>?_,λt B M=>?_,L.none_here hn,λh hg hnl=>?_⟩
 ·rw[e];exact L.lsrt.filter _
 ·obtain⟨E,m2⟩:=(f _).mp hl;by_cases n:t.length<=k
  ·exact L.cover t n M E
  ·have y:t≠[]:=λz=>by rw[z]at n;simp at n
   have r:=(QV y).symm;generalize t.getLast y=x at r;generalize t.dropLast=s at r;subst r;obtain⟨Y,p2,w,_⟩:=path_app.mp M;rw[Ph]at E m2;obtain⟨p,o,C,_⟩:=reach s x (by simp at B n;lia) Y p2 w E;obtain⟨p',k1,_⟩:=G.has p x ⟨o,E⟩ (by rw[C];exact w);exact m2 (Qk.mpr ⟨_,k1,by rw[Ph];rfl⟩)
 ·have y:t≠[]:=λz=>by rw[z]at B;simp at B
  have r:=(QV y).symm;generalize t.getLast y=x at r;generalize t.dropLast=s at r;subst r;obtain⟨Y,p2,w,_⟩:=path_app.mp M;have hs':s.length=k:=by simpa using B
  by_cases hx:x∈ls
  ·obtain⟨p,o,C,N⟩:=reach s x hs' Y p2 w hx;obtain⟨p',k1,J⟩:=G.has p x ⟨o,hx⟩ (by rw[C];exact w);refine .inl ⟨_,k1,by rw[Ph,Ph];rfl,?_⟩
   have:p'=s\/sl p' s:=by
    rcases J with rfl|J
    ·exact N
    ·rcases N with rfl|N
     ·exact .inr J
     ·exact .inr (F5 J N)
   rcases this with rfl|h
   ·exact .inl rfl
   ·exact .inr (FF x x h)
  ·obtain⟨u,u1,U,T⟩:=L.comp x p2 hx;exact .inr ⟨u,by lia,U,by rw[T,Ph];rfl⟩
 ·by_cases hx:h∈ls
  ·have:=Qd λz=>hnl ((f h).mpr ⟨hx,z⟩)
   obtain⟨q,hq,C⟩:=Qk.mp this;obtain⟨w1,Q⟩:=g q hq;exact⟨q,by lia,Q,C⟩
  ·obtain⟨u,u1,U,T⟩:=L.comp h hg hx;exact⟨u,by lia,U,T⟩
end
def FR(hs:ZW)(f:ZV)(r:ZW):Prop:=
 (r=[]/\∀l∈hs,∀t,¬Kq hs f l t)\/∃l t,r=l::t/\l∈hs/\Kq hs f l t/\∀m∈hs,∀u,Kq hs f m u->t.length<u.length\/(t.length=u.length/\(l<m\/(l=m/\(t=u\/sl t u))))
theorem OH:∀(r:ZW),r≠[]->∃i,∃h:i<r.length,∀x∈r,r[i]<=x
 |[],h=>absurd rfl h
 |[a],_=>⟨0,by simp,λx hx=>by rw[WB.mp hx];exact VS _⟩
 |a::b::r,_=>by
  obtain⟨i,f,h⟩:=OH (b::r) (by simp);by_cases c:a<=(b::r)[i]
  ·refine⟨0,by simp,λx hx=>?_⟩;rcases WU.mp hx with rfl|hx
   ·exact VS _
   ·grind
  ·refine⟨i+1,by simpa using f,λx hx=>?_⟩;have e:(a::b::r)[i+1]'(by grind)=(b::r)[i]:=rfl;rcases WU.mp hx with rfl|hx
   ·lia
   ·exact h x hx
def Hc(r:ZW){i j}(f:i<=r.length):(r.drop i++r.take i)[j]?=if i+j<r.length then r[i+j]? else if j<r.length then r[i+j-r.length]? else none:=by grind
def Zl5(R:Ring hs v r):∃l∈hs,∃t,Kq hs v l t/\t.length+1=r.length:=by
 have two:=R.two;obtain⟨i,s,o⟩:=OH r (λz=>by rw[z]at two;simp at two);have erot:r.drop i++r.take i=r[i]::(r.drop (i+1)++r.take i):=by rw[Q1 s];rfl
 have p:(r.drop (i+1)++r.take i).length+1=r.length:=by rw[WJ,List.length_drop,Qa];lia
 have G:By v (r[i]::(r.drop (i+1)++r.take i)):=by
  rw[←erot];intro j x y h f;rw[Hc r (by lia)]at h f;by_cases C:i+(j+1)<r.length
  ·rw[WH C]at f;rw[WH (by lia)]at h;exact R.chain (i+j) x y h f
  ·rw[WG C]at f;by_cases B:j+1<r.length
   ·rw[WH B]at f;by_cases A:i+j<r.length
    ·rw[WH A]at h;have g:i+j=r.length-1:=by lia
     have u:i+(j+1)-r.length=0:=by lia
     rw[g]at h;rw[u]at f;exact R.last y x f h
    ·rw[WG A,WH (by lia)]at h;have e:i+(j+1)-r.length=(i+j-r.length)+1:=by lia
     rw[e]at f;exact R.chain _ x y h f
   ·rw[WG B]at f;cases f
 refine⟨r[i],R.sub _ (WW s),r.drop (i+1)++r.take i,⟨OE G λx hx=>?_,?_⟩,p⟩
 ·have n:=(WO.mp hx).elim JA Vy;refine⟨R.sub x n,Int.lt_iff_le_and_ne.mpr ⟨o x n,λz=>?_⟩⟩
  have w:(r.drop i++r.take i).Nodup:=by
   have:(r.take i++r.drop i).Perm (r.drop i++r.take i):=List.perm_append_comm
   rw[←this.nodup_iff,Vp];exact R.nodup
  rw[erot]at w;exact(Qw.mp w).1 (by rw[z];exact hx)
 ·have g:=Fg r[i] (r.drop (i+1)++r.take i);rw[←erot,Hc r (by lia)]at g;have u:(r.drop (i+1)++r.take i).length=r.length-1:=by lia
  rw[u]at g;by_cases c:i=0
  ·subst c;rw[WH (by lia)]at g;exact R.last _ _ (W8 s) (by simpa using g)
  ·rw[WG (by lia),WH (by lia)]at g;have E:i+(r.length-1)-r.length=i-1:=by lia
   rw[E]at g;exact R.chain (i-1) _ _ g (by rw[show i-1+1=i by lia];exact W8 s)
theorem HK:∀{t:ZW},¬t.Nodup->∃a x b c,t=a++x::(b++x::c)
 |[],h=>absurd Vz h
 |y::t,h=>by
  by_cases f:y∈t
  ·obtain⟨b,c,e⟩:=List.append_of_mem f;exact⟨[],y,b,c,by rw[e];rfl⟩
  ·obtain⟨a,x,b,c,e⟩:=HK λz=>h (Qw.mpr ⟨f,z⟩)
   grind
def DQ{h l t}(v:∀q∈h,q.1≠q.2)(w:l∈hs)(f:Kq hs h l t)(p:∀u,Kq hs h l u->t.length<=u.length):Ring hs h (l::t):=by
 have o:t≠[]:=λz=>by
  have g:=f.2;rw[z]at g;exact v _ g rfl
 have r:=SW f.1;refine⟨by have:=V5.mpr o;simp;lia,Qw.mpr ⟨λz=>absurd (r l z).2 (by lia),?_⟩,λx hx=>?_,HL f.1,λx y n g=>?_⟩
 ·refine Qd λz=>?_;obtain⟨a,x,b,c,e⟩:=HK z;have n:=f.1;rw[e]at n;obtain⟨s,p2⟩:=path_app.mp n
  have B:Kq hs h l (a++x::c):=by
   refine⟨path_app.mpr ⟨s,p2.1,p2.2.1,((path_app (a:=x::b)).mp p2).2.2.2⟩,?_⟩
   have A:Xt l (a++x::c)=Xt l t:=by
    rw[e,Ph,Ph];show Xt x c=Xt x (b++x::c);rw[Ph];rfl
   rw[A];exact f.2
  grind
 ·rcases WU.mp hx with rfl|hx
  ·exact w
  ·exact(r x hx).1
 ·cases n
  simp only[WV,QF]at g;rw[(Fg l t)]at g;cases g
  exact f.2
def FR.none_iff {f r} (p:∀q∈f,q.1≠q.2) (F:FR hs f r):r=[]↔¬ ∃r,Ring hs f r:=by
 constructor
 ·rintro rfl ⟨r,R⟩;obtain⟨l,g,t,n,_⟩:=Zl5 R;rcases F with⟨_,F⟩|⟨_,_,e,_⟩
  ·grind
  ·grind
 ·intro h;rcases F with⟨e,_⟩|⟨l,t,rfl,g,n,s⟩
  ·exact e
  ·refine absurd ⟨_,DQ p g n λu o=>?_⟩ h
   grind
def To(f:ZV):Prop:=f.length<=20/\f.Nodup/\∀q∈f,(1<=q.1/\q.1<=10/\1<=q.2/\q.2<=10)/\q.1≠q.2
open Own
noncomputable def exM(ps:ZV)(ns:ZW)(p:Nat):Int:=(ps.getD (ns.getD (p-1) 0-1).toNat (0,0)).2*(ps.getD (ns.getD p 0-1).toNat (0,0)).2
noncomputable def Kh(ns:ZW)(p:Nat):ZW:=ns.take (p-1)++[ns.getD p 0,ns.getD (p-1) 0]++ns.drop (p+1)
def ET{p}(o:1<=p)(h:p<ns.length):(Kh ns p).Perm ns:=by
 unfold Kh;have n:ns.getD p 0=ns[p]:=by grind
 have l:ns.getD (p-1) 0=ns[p-1]'(by lia):=by grind
 rw[n,l]
 have e:ns=ns.take (p-1)++[ns[p-1]'(by lia),ns[p]]++ns.drop (p+1):=by
  have f:ns.drop (p-1)=ns[p-1]'(by lia)::ns.drop (p-1+1):=Q1 (by lia);have g:p-1+1=p:=by lia
  rw[g,(Q1 h)]at f
  calc ns=ns.take (p-1)++ns.drop (p-1):=(Vp _ _).symm
   _=_:=by rw[f];simp
 refine List.Perm.trans ?_ (List.Perm.of_eq e.symm);exact List.Perm.append_right _ (List.Perm.append_left _<|List.Perm.swap _ _ _)
def runI_mem:x∈XO 1 n↔1<=x/\x<=n:=by
 unfold XO;rw[Qk];constructor
 ·grind
 ·intro h;exact⟨(x-1).toNat,JJ.mpr (by lia),by lia⟩
def NY(n:Nat):(XO 1 n).length=n:=by unfold XO;rw[W6,Jo]
def Zbn{f:Type}(a b:List f)(x y:f):((a++x::y::b).set a.length y).set (a.length+1) x=a++y::x::b:=by simp
def Zam{p:Nat}(r:1<=p)(l:p<ns.length):(ns.set (p-1) ns[p]).set p (ns[p-1]'(by lia))=Kh ns p:=by
 have h:ns.drop (p-1)=ns[p-1]'(by lia)::ns.drop (p-1+1):=Q1 (by lia);have g:p-1+1=p:=by lia
 rw[g,(Q1 l)]at h;have e:ns=ns.take (p-1)++ns[p-1]'(by lia)::ns[p]::ns.drop (p+1):=by rw[←h,Vp]
 have o:ns.getD p 0=ns[p]:=by rw[WC,W8 l];rfl
 have n:ns.getD (p-1) 0=ns[p-1]'(by lia):=by rw[WC,W8 (by lia)];rfl
 have f:(ns.take (p-1)).length=p-1:=by rw[Qa];lia
 unfold Kh;rw[o,n];generalize ns[p-1]'(by lia)=x at e;generalize ns[p]=y at e;generalize ns.take (p-1)=a at e f;generalize ns.drop (p+1)=b at e
 have:=Zbn a b x y
 rw[f,g,←e]at this;rw[this];simp
end M
namespace Pu
open PySem PySem.Spec PyProof.Rows L2 Own
inductive D where
 |int (i:Int)|bl (b:Bool)|non|str (x:Str)|ty (n:String)|tup (ds:List D)|lst (ds:List D)|scr (ns:ZW)|dK (kvs:List (Key×V))|dT (kvs:List (List Key×V))|loc (a:Addr) (d:D)|err (C:Addr)|ref (a:Addr)|ins (C:Addr) (xs:Yd) (ds:List D)|dF (kvs:List (List Key×V))|erM (C:Addr) (r:ZW)|fL (ns:ZW)
mutual
inductive Rp (K:ZU) (H:Hp):D->V->Prop
 |int (i:Int):Rp K H (.int i) (.int i)
 |bl (b:Bool):Rp K H (.bl b) (.bl b)
 |non:Rp K H .non .non
 |str (x:Str):Rp K H (.str x) (.str x)
 |ty (n:String):Rp K H (.ty n) (.ty n)
 |tup {ds:List D} {vs:List V} {a:Addr}:H a=some (.tup vs)->Rps K H ds vs->Rp K H (.tup ds) (.ref a)
 |lst {ds:List D} {vs:List V} {a:Addr}:H a=some (.lst vs)->Rps K H ds vs->Rp K H (.lst ds) (.ref a)
 |scr {ns:ZW} {a:Addr}:SqL K H a (ns.map V.int)->Rp K H (.scr ns) (.ref a)
 |dK {kvs:List (Key×V)} {a:Addr}:H a=some (.dK kvs)->Rp K H (.dK kvs) (.ref a)
 |dT {kvs:List (List Key×V)} {a:Addr}:H a=some (.dT kvs)->Rp K H (.dT kvs) (.ref a)
 |dF {kvs:List (List Key×V)} {o:Obj} {a:Addr}:H a=some (.frz o<|.dT kvs)->Rp K H (.dF kvs) (.ref a)
 |loc {d:D} {a:Addr}:Rp K H d (.ref a)->Rp K H (.loc a d) (.ref a)
 |err {C a:Addr}:H a=some (ExcR.Zcn a C)->Rp K H (.err C) (.ref a)
 |ref (a:Addr):Rp K H (.ref a) (.ref a)
 |erM {C a dx l:Addr} {o:Obj} {r:ZW}:H a=some (ExcR.PV a C<|some dx)->H dx=some (.xd [("members",.ref l)])->H l=some (.frz o<|.lst<|r.map V.int)->Rp K H (.erM C r) (.ref a)
 |fL {a:Addr} {o:Obj} {ns:ZW}:H a=some (.frz o<|.lst<|ns.map V.int)->Rp K H (.fL ns) (.ref a)
 |ins {C a dx:Addr} {xs:Yd} {ds:List D} {vs:List V}:H a=some (.ins C dx<|xs.zip vs)->xs.length=vs.length->Rps K H ds vs->Rp K H (.ins C xs ds) (.ref a)
inductive Rps (K:ZU) (H:Hp):List D->List V->Prop
 |nil:Rps K H [] []
 |cons {d:D} {v:V} {ds:List D} {vs:List V}:Rp K H d v->Rps K H ds vs->Rps K H (d::ds) (v::vs)
end
section
variable {K:ZU}{H H':Hp}
def Rp.mono (S:Same H H') {d:D}{v:V}:Rp K H d v->Rp K H' d v:=
 Rp.rec (motive_1:=λd v _=>Rp K H' d v) (motive_2:=λg f _=>Rps K H' g f) .int .bl .non .str .ty (λh _ r=>.tup (S _ _ h) r) (λh _ r=>.lst (S _ _ h) r) (λh=>.scr (S.seq h)) (λh=>.dK (S _ _ h)) (λh=>.dT (S _ _ h)) (λh=>.dF (S _ _ h)) (λ_ h=>.loc h) (λh=>.err (S _ _ h)) .ref (λa b c=>.erM (S _ _ a) (S _ _ b) (S _ _ c)) (λh=>.fL (S _ _ h)) (λh e _ r=>.ins (S _ _ h) e r) .nil λ_ _=>.cons
def Rps.mono (S:Same H H') {ds:List D}:∀{vs:List V},Rps K H ds vs->Rps K H' ds vs:=by
 induction ds with
 |nil=>intro _ h;cases h;exact .nil
 |cons _ _ f=>intro _ h;cases h with|cons a b=>exact .cons (Rp.mono S a) (f b)
def Rps.len:∀{ds}{vs:List V},Rps K H ds vs->vs.length=ds.length:=by
 intro ds
 induction ds with
 |nil=>
  intro _ h;cases h
  rfl
 |cons _ _ f=>
  intro _ h;cases h with
  |cons h r=>
   exact Q2 (· + 1) (f r)
def Rps.get:∀{ds vs}{i:Nat}{d:D},Rps K H ds vs->ds[i]?=some d->∃v,vs[i]?=some v/\Rp K H d v:=by
 intro ds
 induction ds with
 |nil=>
  intro _ i _ h e;simp at e
 |cons _ _ f=>
  intro _ i d h e;cases h with
  |cons h r=>
   cases i with
   |zero=>
    simp at e;subst e;exact⟨_,rfl,h⟩
   |succ i=>
    obtain⟨v,l,g⟩:=f r (by simpa using e);exact⟨v,by simpa using l,g⟩
def Rps.append:∀{ds es}{vs us:List V},Rps K H ds vs->Rps K H es us->Rps K H (ds++es) (vs++us):=by
 intro ds
 induction ds with
 |nil=>
  intro _ _ _ h s;cases h
  exact s
 |cons _ _ f=>
  intro _ _ _ h s;cases h with
  |cons h r=>
   exact .cons h (f r s)
theorem Rps.drop:∀{ds vs} n,Rps K H ds vs->Rps K H (ds.drop n) (vs.drop n)
 |_,_,0,r=>r
 |_,_,_+1,.nil=>.nil
 |_,_,n+1,.cons _ r=>Rps.drop n r
theorem Rps.take:∀{ds vs} n,Rps K H ds vs->Rps K H (ds.take n) (vs.take n)
 |_,_,0,_|_,_,_+1,.nil=>.nil
 |_,_,n+1,.cons h r=>.cons h (Rps.take n r)
end
mutual
noncomputable def imm:D->Bool
 | .tup f=>Py f
 | .lst _=>false
 | .scr _=>false
 | .dK _=>false
 | .dT _=>false
 | .loc _ _=>false
 | .err _=>false
 | .erM _ _=>false
 | .ins _ _ _=>false
 |_=>true
noncomputable def Py:List D->Bool
 |[]=>true
 |d::r=>imm d&&Py r
end
open Classical in
noncomputable def off(Z:Addr->Prop)(H:Hp):Hp:=λb=>if Z b then none else H b
section
variable {K:ZU}{H H':Hp}{Z Z':Addr->Prop}
def PX(h:off Z H b=some o):H b=some o/\¬Z b:=by
 unfold off at h;by_cases z:Z b
 ·grind
 ·grind
def XQ(h:H b=some o)(z:¬Z b):off Z H b=some o:=by
 unfold off
 grind
def Xx(S:Same H H')(g:∀b o,H b=some o->¬Z b->¬Z' b):Same (off Z H) (off Z' H'):=λb o h=>by
 obtain⟨f,l⟩:=PX h;exact XQ (S b o f) (g b o f l)
def off_sub:Same (off Z H) H:=λ_ _ h=>(PX h).1
def Rp.off (s:∀b,Z b->Mut (H b)) {d:D}{v:V}:Rp K H d v->imm d=true->Rp K (off Z H) d v:=by
 have g:∀{a o},H a=some o->¬Mut (some o)->Pu.off Z H a=some o:=λh n=>XQ h λz=>n (h▸s _ z);have f:∀{d} {P:Prop},imm d=false->imm d=true->P:=λh e=>by rw[h]at e;cases e
 exact Rp.rec (motive_1:=λd v _=>imm d=true->Rp K (Pu.off Z H) d v) (motive_2:=λl p _=>Py l=true->Rps K (Pu.off Z H) l p) (λi _=>.int i) (λb _=>.bl b) (λ_=>.non) (λx _=>.str x) (λn _=>.ty n) (λh _ r e=>.tup (g h id) (r<|by unfold imm at e;exact e)) (λ_ _ _=>f (by unfold imm;rfl)) (λ_=>f (by unfold imm;rfl)) (λ_=>f (by unfold imm;rfl)) (λ_=>f (by unfold imm;rfl)) (λh _=>.dF (g h id)) (λ_ _=>f (by unfold imm;rfl)) (λ_=>f (by unfold imm;rfl)) (λa _=>.ref a) (λ_ _ _=>f (by unfold imm;rfl)) (λh _=>.fL (g h id)) (λ_ _ _ _=>f (by unfold imm;rfl)) (λ_=>.nil) (λ_ _ a b e=>by
  unfold Py at e;rw[Qx]at e;exact .cons (a e.1) (b e.2))
def Rps.off (g:∀b,Z b->Mut (H b)) {ds:List D}:∀{vs:List V},Rps K H ds vs->Py ds=true->Rps K (off Z H) ds vs:=by
 induction ds with
 |nil=>intro _ h _;cases h;exact .nil
 |cons _ _ f=>
  intro _ h e;unfold Py at e;rw[Qx]at e;cases h with|cons a b=>exact .cons (Rp.off g a e.1) (f b e.2)
end
inductive O where
 |lst (ds:List D)|dK (kvs:List (Key×V))|dT (kvs:List (List Key×V))|ins (a C:Addr) (xs:Yd) (cs:List (Addr×List D))|lsA (a:Addr) (ds:List D)|nst (cs:List (Addr×List D))|nsl (a:Addr) (cs:List (Addr×List D))
instance:Coe (List D) O:=⟨O.lst⟩
noncomputable def O.d:O->D
 | .lst h=>.lst h | .dK f=>.dK f | .dT f=>.dT f | .ins _ C xs g=>.ins C xs (g.map λc=>.lst c.2) | .lsA _ h=>.lst h | .nst g=>.tup (g.map λc=>.lst c.2) | .nsl _ g=>.lst (g.map λc=>.lst c.2)
def O.adr (a:Addr):O->Addr->Prop
 | .lst _=>λb=>b=a
 | .dK _=>λb=>b=a
 | .dT _=>λb=>b=a
 | .ins x _ _ f=>λb=>b=x\/∃c∈f,b=c.1
 | .lsA x _=>λb=>b=x
 | .nst f=>λb=>∃c∈f,b=c.1
 | .nsl x f=>λb=>b=x\/∃c∈f,b=c.1
def OR(K:ZU)(F H:Hp)(a:Addr):O->Prop
 | .lst l=>∃f,H a=some (.lst f)/\Rps K F l f
 | .dK h=>H a=some (.dK h)
 | .dT h=>H a=some (.dT h)
 | .lsA x l=>a=x/\∃f,H a=some (.lst f)/\Rps K F l f
 | .ins x C xs g=>a=x/\xs.length=g.length/\(∃n,H a=some (.ins C n<|xs.zip (g.map λc=>V.ref c.1)))/\(∀c∈g,∃f,H c.1=some (.lst f)/\Rps K F c.2 f)/\(g.map (·.1)).Nodup
 | .nsl x g=>a=x/\H a=some (.lst (g.map λc=>V.ref c.1))/\(∀c∈g,∃f,H c.1=some (.lst f)/\Rps K F c.2 f)/\(x::g.map (·.1)).Nodup
 | .nst g=>F a=some (.tup (g.map λc=>V.ref c.1))/\(∀c∈g,∃f,H c.1=some (.lst f)/\Rps K F c.2 f)/\(g.map (·.1)).Nodup
def OR.mono {K F z H H'}{a o} (s:Same F z) (r:∀b,o.adr a b->∀x,H b=some x->H' b=some x) (h:OR K F H a o):OR K z H' a o:=by
 cases o with
 |lst B=>obtain⟨f,n,g⟩:=h;exact⟨f,r _ rfl _ n,Rps.mono s g⟩
 |lsA x B=>obtain⟨rfl,f,n,g⟩:=h;exact⟨rfl,f,r _ rfl _ n,Rps.mono s g⟩
 |nsl x y=>
  obtain⟨e,n,g,w⟩:=h;exact⟨e,r _ (.inl e) _ n,λc p=>let ⟨f,v,u⟩:=g c p;⟨f,r _ (.inr ⟨c,p,rfl⟩) _ v,Rps.mono s u⟩,w⟩
 |nst y=>
  obtain⟨n,g,w⟩:=h;exact⟨s _ _ n,λc p=>let ⟨f,v,u⟩:=g c p;⟨f,r _ ⟨c,p,rfl⟩ _ v,Rps.mono s u⟩,w⟩
 |ins x C xs y=>
  obtain⟨e,l,⟨A,n⟩,g,w⟩:=h;exact⟨e,l,⟨A,r _ (.inl e) _ n⟩,λc p=>let ⟨f,v,u⟩:=g c p;⟨f,r _ (.inr ⟨c,p,rfl⟩) _ v,Rps.mono s u⟩,w⟩
 |_=>exact r _ rfl _ h
theorem TX{K F}:∀{f:List (Addr×List D)},(∀c∈f,∃vs,F c.1=some (.lst vs)/\Rps K F c.2 vs)->Rps K F (f.map λc=>.lst c.2) (f.map λc=>V.ref c.1)
 |[],_=>.nil
 |c::f,h=>let ⟨_,l,g⟩:=h c Qs;.cons (.lst l g) (TX λo n=>h o (Qb _ n))
def OR.rpIn {K F y H a o} (s:Same F y) (n:∀b,o.adr a b->∀x,H b=some x->y b=some x) (h:OR K F H a o):Rp K y o.d (.ref a):=by
 cases o with
 |lst B=>obtain⟨r,g,f⟩:=h;exact .lst (n _ rfl _ g) (Rps.mono s f)
 |dK w=>exact .dK (n _ rfl _ h)
 |dT w=>exact .dT (n _ rfl _ h)
 |lsA x B=>obtain⟨rfl,r,g,f⟩:=h;exact .lst (n _ rfl _ g) (Rps.mono s f)
 |nsl x A=>
  obtain⟨e,g,f,z⟩:=h;exact .lst (n _ (.inl e) _ g) (TX λc p=>let ⟨r,v,u⟩:=f c p;⟨r,n _ (.inr ⟨c,p,rfl⟩) _ v,Rps.mono s u⟩)
 |nst A=>
  obtain⟨g,f,z⟩:=h;exact .tup (s _ _ g) (TX λc p=>let ⟨r,v,u⟩:=f c p;⟨r,n _ ⟨c,p,rfl⟩ _ v,Rps.mono s u⟩)
 |ins x C xs A=>
  obtain⟨e,l,⟨E,g⟩,f,z⟩:=h;exact .ins (n _ (.inl e) _ g) (by grind) (TX λc p=>let ⟨r,v,u⟩:=f c p;⟨r,n _ (.inr ⟨c,p,rfl⟩) _ v,Rps.mono s u⟩)
def OR.rp {K F H a o} (f:Same F H) (h:OR K F H a o):Rp K H o.d (.ref a):=h.rpIn f λ_ _ _ e=>e
def OR.mut {K F H a o} (h:OR K F H a o):∀b,o.adr a b->Mut (H b):=by
 cases o with
 |lst y=>obtain⟨u,g,p⟩:=h;intro b e;rw[show b=a from e,g];trivial
 |dK n=>intro b e;rw[show b=a from e,show H a=some (.dK n)from h];trivial
 |dT n=>intro b e;rw[show b=a from e,show H a=some (.dT n)from h];trivial
 |lsA x y=>obtain⟨rfl,u,g,p⟩:=h;intro b e;rw[show b=a from e,g];trivial
 |nsl x w=>
  obtain⟨e,g,p,v⟩:=h;intro b f;rcases f with f|⟨c,s,f⟩
  ·rw[show b=a from f.trans e.symm,g];trivial
  ·obtain⟨u,r,_⟩:=p c s;rw[f,r];trivial
 |nst w=>
  obtain⟨g,p,v⟩:=h;rintro b ⟨c,s,f⟩;obtain⟨u,r,_⟩:=p c s;rw[f,r];trivial
 |ins x C xs w=>
  obtain⟨e,l,⟨z,g⟩,p,v⟩:=h;intro b f;rcases f with f|⟨c,s,f⟩
  ·rw[show b=a from f.trans e.symm,g];trivial
  ·obtain⟨u,r,_⟩:=p c s;rw[f,r];trivial
inductive S where
 |bor (d:D)|sh (d:D)|own (o:O)|view (o:O)|tmp (d:D)
abbrev Γ:=List (Option S)
noncomputable def D.strip:D->D
 | .loc _ d=>d|d=>d
def Rp.strip {K H d v} (h:Rp K H d v):Rp K H d.strip v:=by
 cases h with
 |loc h=>exact h
 |int i=>exact .int i
 |bl b=>exact .bl b
 |non=>exact .non
 |str x=>exact .str x
 |ty n=>exact .ty n
 |tup h r=>exact .tup h r
 |lst h r=>exact .lst h r
 |scr h=>exact .scr h
 |dK h=>exact .dK h
 |dT h=>exact .dT h
 |dF h=>exact .dF h
 |err h=>exact .err h
 |ref a=>exact .ref a
 |erM l g f=>exact .erM l g f
 |fL h=>exact .fL h
 |ins h e r=>exact .ins h e r
noncomputable def S.d:S->D
 | .bor d=>d.strip | .sh d=>d | .own o=>o.d | .view o=>o.d | .tmp d=>d
noncomputable def arg(d:D):S:=match imm d with|true=>.sh d|false=>.bor d
noncomputable def Pj(d:D):S:=match imm d with|true=>.sh d|false=>.tmp d
noncomputable def S.sub:S->D->S
 | .bor _,e=>arg e | .tmp _,e=>Pj e | .own (.nst _),e=>Pj e | .view (.nst _),e=>Pj e | .own (.nsl _ _),e=>Pj e | .view (.nsl _ _),e=>Pj e|_,e=>.sh e
noncomputable def S.shd:S->Option D
 | .sh d=>some d | .own o=>some o.d
 | .bor d=>match imm d with|true=>some d|false=>none
 | .tmp d=>match imm d with|true=>some d|false=>none
 | .view _=>none
noncomputable def S.slot:S->Option S
 | .view _=>none | .bor d=>some (.bor d) | .sh d=>some (.sh d) | .own f=>some (.own f)
 | .tmp d=>match imm d with|true=>some (.sh d)|false=>none
def Zec(h:Γ)(g:L2.St)(b:Addr):Prop:=∃(i:Nat) (f:O) (a:Addr),h[i]?=some (some<|.own f)/\g[i]?=some (some<|.ref a)/\f.adr a b
def zof(B:Addr->Prop)(g:Γ)(f:L2.St):Addr->Prop:=λb=>B b\/Zec g f b
def SV(K:ZU)(Z:Addr->Prop)(f H:Hp):S->V->Prop
 | .bor d,v=>Rp K f d v
 | .sh d,v=>Rp K (off Z H) d v
 | .own o,v=>∃a,v=.ref a/\(∀b,o.adr a b->f b=none)/\OR K (off Z H) H a o
 |_,_=>False
def TV(K:ZU)(Z:Addr->Prop)(f H H':Hp):S->V->Prop
 | .bor d,v=>Rp K f d v
 | .sh d,v=>Rp K (off Z H') d v
 | .own o,v=>∃a,v=.ref a/\(∀b,o.adr a b->H b=none)/\OR K (off (λb=>Z b\/o.adr a b) H') H' a o
 | .view o,v=>∃a,v=.ref a/\OR K (off Z H') H' a o
 | .tmp d,v=>Rp K H' d v
structure Xn (K:ZU) (H0:Hp) (B:Addr->Prop) (H:Hp) (σ:L2.St) (γ:Γ):Prop where
 same:Same H0 H
 len:σ.length=γ.length
 bm:∀b,B b->Mut (H b)
 own:∀(i j:Nat) (a a':Addr) (ds es:O) (b:Addr),γ[i]?=some (some<|.own ds)->γ[j]?=some (some<|.own es)->σ[i]?=some (some<|.ref a)->σ[j]?=some (some<|.ref a')->ds.adr a b->es.adr a' b->i=j
 slot:∀(i:Nat) (s:S),γ[i]?=some (some s)->∃v,σ[i]?=some (some v)/\SV K (zof B γ σ) H0 H s v
section
variable {K:ZU}{H0 H H1 H':Hp}{B Z Z':Addr->Prop}{σ:L2.St}{γ:Γ}
def Te(S:Same H H'){b}(h:Mut (H b)):Mut (H' b):=by
 cases e:H b with
 |none=>rw[e]at h;exact h.elim
 |some o=>rw[S b o e,←e];exact h
def T6(h:Mut (H b)):∃o,H b=some o:=by
 cases e:H b with
 |none=>rw[e]at h;exact h.elim
 |some o=>grind
def Xn.grow (E:Xn K H0 B H σ γ) (S:Same H H'):Xn K H0 B H' σ γ where
 same:=E.same.trans S
 len:=E.len
 bm b h:=Te S (E.bm b h)
 own:=E.own
 slot i s h:=by
  obtain⟨v,h1,h2⟩:=E.slot i s h;refine⟨v,h1,?_⟩;cases s with
  |bor d=>trivial
  |sh d=>exact Rp.mono (Xx S λ_ _ _ z=>z) h2
  |own ds=>
   obtain⟨a,e1,e3,e4⟩:=h2;exact⟨a,e1,e3,e4.mono (Xx S λ_ _ _ z=>z) λb _ x=>S b x⟩
  |_=>exact h2
def Xn.zm (E:Xn K H0 B H σ γ):∀b,zof B γ σ b->Mut (H b):=λb h=>by
 rcases h with h|⟨i,s,x,n,l,g⟩
 ·exact E.bm b h
 ·obtain⟨v,f,a,p,r,o⟩:=E.slot i _ n;rw[l]at f;cases f
  cases p
  exact o.mut b g
def TV.rp (f:Same H0 H') (h:TV K Z H0 H H' s v):Rp K H' s.d v:=by
 cases s with
 |bor d=>exact(Rp.mono f h).strip
 |sh d=>exact Rp.mono off_sub h
 |own g=>
  obtain⟨a,rfl,_,r⟩:=h;exact r.rp off_sub
 |view g=>
  obtain⟨a,rfl,r⟩:=h;exact r.rp off_sub
 |tmp d=>exact h
def TV.grow (f:Same H' H1) (h:TV K Z H0 H H' s v):TV K Z H0 H H1 s v:=by
 cases s with
 |bor d=>exact h
 |sh d=>exact Rp.mono (Xx f λ_ _ _ z=>z) h
 |own l=>
  obtain⟨a,rfl,g,r⟩:=h;exact⟨a,rfl,g,r.mono (Xx f λ_ _ _ z=>z) λb _ x=>f b x⟩
 |view l=>
  obtain⟨a,rfl,r⟩:=h;exact⟨a,rfl,r.mono (Xx f λ_ _ _ z=>z) λb _ x=>f b x⟩
 |tmp d=>exact Rp.mono f h
def TV.weak (o:Same H H1) (f:∀b,Z b->Z' b) (h:TV K Z' H0 H1 H' s v):TV K Z H0 H H' s v:=by
 cases s with
 |sh d=>exact Rp.mono (Xx (Same.refl _) λb _ _ z y=>z (f b y)) h
 |own n=>
  obtain⟨a,rfl,l,r⟩:=h;exact⟨a,rfl,λb g=>o.free (l b g),r.mono (Xx (Same.refl _) λb _ _ z y=>z (y.imp (f b) id)) λ_ _ _ q=>q⟩
 |view n=>
  obtain⟨a,rfl,r⟩:=h;exact⟨a,rfl,r.mono (Xx (Same.refl _) λb _ _ z y=>z (f b y)) λ_ _ _ q=>q⟩
 |_=>exact h
def TV.shd (o:Same H0 H') (l:∀b,Z b->Mut (H b)) (w:Same H H') (h:TV K Z H0 H H' s v) (e:s.shd=some d):Rp K (off Z H') d v:=by
 have f:=λb z=>Te w (l b z);cases s with
 |bor g=>
  unfold S.shd at e;cases q:imm g with
  |false=>simp_all
  |true=>
   simp[q]at e;subst e;exact Rp.off f (Rp.mono o h) q
 |sh g=>cases e;exact h
 |own u=>
  cases e
  obtain⟨a,rfl,p,r⟩:=h;exact r.rpIn (Xx (Same.refl _) λb _ _ z y=>z (.inl y)) λb n x e=>XQ e λz=>by have:=l _ z;rw[p b n]at this;exact this
 |view u=>cases e
 |tmp g=>
  unfold S.shd at e;cases q:imm g with
  |false=>simp[q]at e
  |true=>
   simp[q]at e;subst e;exact Rp.off f h q
def Sx(f:∀b,Z b->Mut (H' b))(g:Same H0 H')(h:Rp K H0 d v):TV K Z H0 H H' (arg d) v:=by
 unfold arg;cases q:imm d with
 |true=>exact Rp.off f (Rp.mono g h) q
 |false=>exact h
def Td(f:∀b,Z b->Mut (H' b))(h:Rp K H' d v):TV K Z H0 H H' (Pj d) v:=by
 unfold Pj;cases q:imm d with
 |true=>exact Rp.off f h q
 |false=>exact h
def Rp.lst_inv (h:Rp K H (.lst ds) v):∃a vs,v=.ref a/\H a=some (.lst vs)/\Rps K H ds vs:=by
 cases h with
 |lst h r=>grind
def Rp.tup_inv (h:Rp K H (.tup ds) v):∃a vs,v=.ref a/\H a=some (.tup vs)/\Rps K H ds vs:=by
 cases h with
 |tup h r=>grind
def TV.part (E:Same H0 H') (N:∀b,Z b->Mut (H b)) (Q:Same H H') (h:TV K Z H0 H H' s v) :
  (∀ds,s.d=.lst ds->∃a vs,v=.ref a/\H' a=some (.lst vs)/\vs.length=ds.length/\∀(i:Nat) d,ds[i]?=some d->∃u,vs[i]?=some u/\TV K Z H0 H H' (s.sub d) u)/\
  (∀ds,s.d=.tup ds->∃a vs,v=.ref a/\H' a=some (.tup vs)/\vs.length=ds.length/\∀(i:Nat) d,ds[i]?=some d->∃u,vs[i]?=some u/\TV K Z H0 H H' (s.sub d) u):=by
 have l:=λb z=>Te Q (N b z);cases s with
 |bor d=>
  have h:=Rp.strip h;refine⟨λds e=>?_,λds e=>?_⟩<;>rw[show d.strip=_ from e]at h
  ·obtain⟨a,vs,rfl,h,r⟩:=Rp.lst_inv h;exact⟨_,_,rfl,E _ _ h,r.len,λi d e=>let ⟨u,g,f⟩:=r.get e;⟨u,g,Sx l E f⟩⟩
  ·obtain⟨a,vs,rfl,h,r⟩:=Rp.tup_inv h;exact⟨_,_,rfl,E _ _ h,r.len,λi d e=>let ⟨u,g,f⟩:=r.get e;⟨u,g,Sx l E f⟩⟩
 |sh d=>
  refine⟨λds e=>?_,λds e=>?_⟩<;>(have L:=e;subst L)
  ·obtain⟨a,vs,rfl,h,r⟩:=Rp.lst_inv h;exact⟨_,_,rfl,off_sub _ _ h,r.len,λi d e=>r.get e⟩
  ·obtain⟨a,vs,rfl,h,r⟩:=Rp.tup_inv h;exact⟨_,_,rfl,off_sub _ _ h,r.len,λi d e=>r.get e⟩
 |own w=>
  cases w with
  |lst w=>
   refine⟨λds e=>?_,λds e=>by cases e⟩;cases e
   obtain⟨a,rfl,J,vs,e,r⟩:=h;exact⟨a,vs,rfl,e,r.len,λi d e=>let ⟨u,g,f⟩:=r.get e;⟨u,g,Rp.mono (Xx (Same.refl _) λb _ _ z y=>z (.inl y)) f⟩⟩
  |lsA x w=>
   refine⟨λds e=>?_,λds e=>by cases e⟩;cases e
   obtain⟨a,rfl,J,_,vs,e,r⟩:=h;exact⟨a,vs,rfl,e,r.len,λi d e=>let ⟨u,g,f⟩:=r.get e;⟨u,g,Rp.mono (Xx (Same.refl _) λb _ _ z y=>z (.inl y)) f⟩⟩
  |nsl x M=>
   refine⟨λds e=>?_,λds e=>by cases e⟩;cases e
   obtain⟨a,rfl,J,_,C,A,G⟩:=h;have r:=TX λc p=>let ⟨vs,o,n⟩:=A c p;⟨vs,o,Rps.mono off_sub n⟩;exact⟨a,_,rfl,C,r.len,λi d e=>let ⟨u,g,f⟩:=r.get e;⟨u,g,Td l f⟩⟩
  |nst M=>
   refine⟨(λds e=>by cases e),λds e=>?_⟩;cases e
   obtain⟨a,rfl,J,C,A,G⟩:=h;have r:=TX λc p=>let ⟨vs,o,n⟩:=A c p;⟨vs,o,Rps.mono off_sub n⟩;exact⟨a,_,rfl,off_sub _ _ C,r.len,λi d e=>let ⟨u,g,f⟩:=r.get e;⟨u,g,Td l f⟩⟩
  |_=>exact⟨(λds e=>by cases e),(λds e=>by cases e)⟩
 |view w=>
  cases w with
  |lst w=>
   refine⟨λds e=>?_,λds e=>by cases e⟩;cases e
   obtain⟨a,rfl,vs,e,r⟩:=h;exact⟨a,vs,rfl,e,r.len,λi d e=>r.get e⟩
  |lsA x w=>
   refine⟨λds e=>?_,λds e=>by cases e⟩;cases e
   obtain⟨a,rfl,_,vs,e,r⟩:=h;exact⟨a,vs,rfl,e,r.len,λi d e=>r.get e⟩
  |nsl x M=>
   refine⟨λds e=>?_,λds e=>by cases e⟩;cases e
   obtain⟨a,rfl,_,C,A,G⟩:=h;have r:=TX λc p=>let ⟨vs,o,n⟩:=A c p;⟨vs,o,Rps.mono off_sub n⟩;exact⟨a,_,rfl,C,r.len,λi d e=>let ⟨u,g,f⟩:=r.get e;⟨u,g,Td l f⟩⟩
  |nst M=>
   refine⟨(λds e=>by cases e),λds e=>?_⟩;cases e
   obtain⟨a,rfl,C,A,G⟩:=h;have r:=TX λc p=>let ⟨vs,o,n⟩:=A c p;⟨vs,o,Rps.mono off_sub n⟩;exact⟨a,_,rfl,off_sub _ _ C,r.len,λi d e=>let ⟨u,g,f⟩:=r.get e;⟨u,g,Td l f⟩⟩
  |_=>exact⟨(λds e=>by cases e),(λds e=>by cases e)⟩
 |tmp d=>
  refine⟨λds e=>?_,λds e=>?_⟩<;>(have L:=e;subst L)
  ·obtain⟨a,vs,rfl,h,r⟩:=Rp.lst_inv h;exact⟨_,_,rfl,h,r.len,λi d e=>let ⟨u,g,f⟩:=r.get e;⟨u,g,Td l f⟩⟩
  ·obtain⟨a,vs,rfl,h,r⟩:=Rp.tup_inv h;exact⟨_,_,rfl,h,r.len,λi d e=>let ⟨u,g,f⟩:=r.get e;⟨u,g,Td l f⟩⟩
def Fr(B:Addr->Prop)(H:Hp)(σ:L2.St)(γ:Γ)(H':Hp)(f:L2.St)(g:Γ):Prop:=∀b o,H b=some o->¬zof B γ σ b->H' b=some o/\¬zof B g f b
def Fr.refl:Fr B H σ γ H σ γ:=λ_ _ h z=>⟨h,z⟩
def Fr.trans {H1 p g f n l} (a:Fr B H σ γ H1 g n) (b:Fr B H1 g n p f l):Fr B H σ γ p f l:=λx o h z=>let ⟨s,r⟩:=a x o h z;b x o s r
def Fr.grow (f:Same H H'):Fr B H σ γ H' σ γ:=λ_ _ h z=>⟨f _ _ h,z⟩
def Fr.off {H'}{σ'}{γ'} (f:Fr B H σ γ H' σ' γ'):Same (off (zof B γ σ) H) (Pu.off (zof B γ' σ') H'):=λb o h=>by
 obtain⟨p,n⟩:=PX h;obtain⟨l,g⟩:=f b o p n;exact XQ l g
def XN{f:Type}{l:List f}{i j}{x y}(h:(l.set i x)[j]?=some y):(j=i/\x=y/\i<l.length)\/(j≠i/\l[j]?=some y):=by grind
def FK{f:Type}{l:List f}{i}{x}(h:i<l.length):(l.set i x)[i]?=some x:=by grind
def Th{f:Type}{l:List f}{i j}{x}(h:j≠i):(l.set i x)[j]?=l[j]?:=by grind
def Xn.drop (E:Xn K H0 B H σ γ) (i:Nat):Xn K H0 B H σ (γ.set i none)/\Fr B H σ γ H σ (γ.set i none):=by
 have p:∀b,zof B (γ.set i none) σ b->zof B γ σ b:=λb z=>z.imp id λ⟨j,l,a,g,f,u⟩=>by
  rcases XN g with⟨_,e,_⟩|⟨_,e⟩
  ·grind
  ·exact⟨j,l,a,e,f,u⟩
 refine⟨⟨E.same,by rw[Q9];exact E.len,E.bm,λk j a G l w b g f=>?_,λk s h=>?_⟩,λb o h z=>⟨h,λy=>z (p b y)⟩⟩
 ·rcases XN g with⟨_,e,_⟩|⟨_,n⟩
  ·cases e
  ·rcases XN f with⟨_,e,_⟩|⟨_,C⟩
   ·cases e
   ·exact E.own k j a G l w b n C
 ·rcases XN h with⟨_,e,_⟩|⟨_,e⟩
  ·cases e
  ·obtain⟨v,g,f⟩:=E.slot k s e;refine⟨v,g,?_⟩;have r:Same (Pu.off (zof B γ σ) H) (Pu.off (zof B (γ.set i none) σ) H):=Xx (Same.refl _) λb _ _ z y=>z (p b y);cases s with
   |sh d=>exact Rp.mono r f
   |own l=>
    obtain⟨a,n,A,x⟩:=f;exact⟨a,n,A,x.mono r λ_ _ _ q=>q⟩
   |_=>exact f
def Xn.put {s L}{v} (E:Xn K H0 B H σ γ) (S1:Same H H') (h:TV K (zof B γ σ) H0 H H' s v) (e:s.slot=some L) (hi:i<γ.length) :
  Xn K H0 B H' (σ.set i<|some v) (γ.set i<|some L)/\Fr B H σ γ H' (σ.set i<|some v) (γ.set i<|some L):=by
 have n:i<σ.length:=by rw[E.len];exact hi
 have E':=E.grow S1
 have isown:∀f,L=.own f->s=.own f:=λf q=>by
  subst q;cases s with
  |own J=>cases e;rfl
  |tmp d=>unfold S.slot at e;cases q:imm d<;>simp[q]at e
  |_=>cases e
 have l:∀b,zof B (γ.set i<|some L) (σ.set i<|some v) b->zof B γ σ b\/∃f a,s=.own f/\v=.ref a/\f.adr a b:=λb z=>by
  rcases z with z|⟨j,f,a,h1,G,A⟩
  ·exact .inl (.inl z)
  ·rcases XN h1 with⟨Y,g,_⟩|⟨T,g⟩
   ·subst Y;rw[FK n]at G
    have:=WR g
    exact .inr ⟨f,a,isown f this,WR (WR G),A⟩
   ·rw[Th T]at G;exact .inl (.inr ⟨j,f,a,g,G,A⟩)
 have fresh:∀f a b,s=.own f->v=.ref a->f.adr a b->H b=none:=λf a b J ev p=>by
  subst J;obtain⟨a',g,e0,_⟩:=h;rw[ev]at g;cases g
  exact e0 b p
 have hz:∀b o,H b=some o->¬zof B γ σ b->¬zof B (γ.set i<|some L) (σ.set i<|some v) b:=λb o p z y=>by
  rcases l b y with y|⟨f,a,y1,y2,y3⟩
  ·exact z y
  ·rw[fresh f a b y1 y2 y3]at p;cases p
 have So:=Xx S1 hz;refine⟨⟨E'.same,by rw[Q9,Q9];exact E.len,E'.bm,λk j a a' f J b h1 G A M h5 h6=>?_,λk u hk=>?_⟩,λb o p z=>⟨S1 b o p,hz b o p z⟩⟩
 ·have Q:∀(k:Nat) f a b,γ[k]?=some (some<|.own f)->σ[k]?=some (some<|.ref a)->f.adr a b->∃o,H b=some o:=λk f a b g C e3=>by
   obtain⟨u,q1,a',N,_,q3⟩:=E.slot k _ g;rw[C]at q1;cases q1
   cases N
   exact T6 (q3.mut b e3)
  rcases XN h1 with⟨ek,g,_⟩|⟨nk,g⟩
  ·rcases XN G with⟨Y,C,_⟩|⟨T,C⟩
   ·rw[ek,Y]
   ·subst ek;rw[FK n]at A;rw[Th T]at M;obtain⟨o,U⟩:=Q j J a' b C M h6;rw[fresh f a b (isown f<|WR g) (WR<|WR A) h5]at U;cases U
  ·rcases XN G with⟨Y,C,_⟩|⟨T,C⟩
   ·subst Y;rw[FK n]at M;rw[Th nk]at A;obtain⟨o,U⟩:=Q k f a b g A h5;rw[fresh J a' b (isown J<|WR C) (WR<|WR M) h6]at U;cases U
   ·rw[Th nk]at A;rw[Th T]at M;exact E.own k j a a' f J b g C A M h5 h6
 ·rcases XN hk with⟨ek,g,_⟩|⟨nk,g⟩
  ·subst ek
   have:=(WR g).symm
   subst this;refine⟨v,FK n,?_⟩;cases s with
   |own f=>
    cases e
    obtain⟨a,rfl,e0,r⟩:=h;refine⟨a,rfl,λb p=>E.same.free (e0 b p),r.mono (Xx (Same.refl _) λb o _ z y=>?_) λ_ _ _ q=>q⟩;rcases l b y with y|⟨_,_,y1,y,y2⟩
    ·exact z (.inl y)
    ·cases y;cases y1;exact z (.inr y2)
   |sh d=>
    cases e
    refine Rp.mono (Xx (Same.refl _) λb o _ z y=>?_) h;rcases l b y with y|⟨_,_,y,_⟩
    ·exact z y
    ·cases y
   |bor d=>cases e;exact h
   |view d=>cases e
   |tmp d=>
    unfold S.slot at e;cases q:imm d with
    |false=>simp[q]at e
    |true=>
     simp[q]at e;subst e;refine Rp.off (λb y=>?_) h q;rcases l b y with y|⟨_,_,y,_⟩
     ·exact Te S1 (E.zm b y)
     ·cases y
  ·obtain⟨w,q1,N⟩:=E.slot k u g;refine⟨w,by rw[Th nk];exact q1,?_⟩;cases u with
   |sh d=>exact Rp.mono So N
   |own f=>
    obtain⟨a,g,e3,e4⟩:=N;exact⟨a,g,e3,e4.mono So λb _ x=>S1 b x⟩
   |_=>exact N
noncomputable def frz(i:Nat)(γ:Γ):Γ:=match γ[i]? with
 |some (some<|.own o)=>γ.set i (some<|.sh o.d)
 |_=>γ
def Xn.frz (E:Xn K H0 B H σ γ) (hB:∀b,B b->∃o,H0 b=some o) (i:Nat):Xn K H0 B H σ (frz i γ)/\Fr B H σ γ H σ (Pu.frz i γ):=by
 unfold Pu.frz;split
 ·rename_i p J
  have G:∀b,zof B (γ.set i<|some<|.sh p.d) σ b->zof B γ σ b:=λb z=>z.imp id λ⟨j,l,a,g,f,L⟩=>by
   rcases XN g with⟨_,e,_⟩|⟨_,e⟩
   ·cases e
   ·exact⟨j,l,a,e,f,L⟩
  have C:Same (Pu.off (zof B γ σ) H) (Pu.off (zof B (γ.set i<|some<|.sh p.d) σ) H):=Xx (Same.refl _) λb _ _ z y=>z (G b y);refine⟨⟨E.same,by rw[Q9];exact E.len,E.bm,λk j a A l r b g f=>?_,λk s h=>?_⟩,λb o h z=>⟨h,λy=>z (G b y)⟩⟩
  ·rcases XN g with⟨_,e,_⟩|⟨_,n⟩
   ·cases e
   ·rcases XN f with⟨_,e,_⟩|⟨_,w⟩
    ·cases e
    ·exact E.own k j a A l r b n w
  ·rcases XN h with⟨T,e,_⟩|⟨Y,e⟩
   ·subst T
    have:=WR e
    subst this;obtain⟨v,g,a,rfl,L,Q⟩:=E.slot k _ J;refine⟨_,g,Q.rpIn C λb N x f=>XQ f λz=>?_⟩;rcases z with z|⟨j,l,A,n,w,u⟩
    ·grind
    ·rcases XN n with⟨_,q,_⟩|⟨M,q⟩
     ·cases q
     ·exact M (E.own j k A a l p b q J w g u N)
   ·obtain⟨v,g,f⟩:=E.slot k s e;refine⟨v,g,?_⟩;cases s with
    |sh d=>exact Rp.mono C f
    |own p=>
     obtain⟨a,n,u,U⟩:=f;exact⟨a,n,u,U.mono C λ_ _ _ q=>q⟩
    |_=>exact f
 ·exact⟨E,Fr.refl⟩
def Xn.change {o o'} (E:Xn K H0 B H σ γ) (M:γ[i]?=some (some<|.own o)) (A:σ[i]?=some (some<|.ref a))
  (N:∀b x,H b=some x->¬o.adr a b->H' b=some x) (hm:∀b,o.adr a b->Mut (H' b)) (l:∀b,o'.adr a b->o.adr a b\/H b=none) (r:OR K (Pu.off (zof B (γ.set i<|some<|.own o') σ) H') H' a o') :
  Xn K H0 B H' σ (γ.set i<|some<|.own o')/\Fr B H σ γ H' σ (γ.set i<|some<|.own o'):=by
 obtain⟨v,h1,a',rfl,h3,h4⟩:=E.slot i _ M;rw[A]at h1;cases h1
 have za:∀b,o.adr a b->zof B γ σ b:=λb C=>.inr ⟨i,o,a,M,A,C⟩
 have hz:∀b x,H b=some x->zof B (γ.set i<|some<|.own o') σ b->zof B γ σ b:=λb x hx z=>by
  rcases z with z|⟨j,fs,a',U,p,n⟩
  ·exact .inl z
  ·rcases XN U with⟨T,q,_⟩|⟨_,e⟩
   ·subst T;cases q
    rw[A]at p;cases p
    rcases l b n with k|k
    ·exact za b k
    ·rw[k]at hx;cases hx
   ·exact .inr ⟨j,fs,a',e,p,n⟩
 have S1:=λb x h=>by
  obtain⟨g,f⟩:=PX h;exact XQ (N b x g λk=>f (za b k)) λz=>f (hz b x g z)
 have J:∀(k:Nat) ds a b,γ[k]?=some (some<|.own ds)->σ[k]?=some (some<|.ref a)->ds.adr a b->∃o,H b=some o:=λk ds a b U p n=>by
  obtain⟨u,g,a',f,_,q3⟩:=E.slot k _ U;rw[p]at g;cases g
  cases f
  exact T6 (q3.mut b n)
 refine⟨⟨λb x h=>?_,by rw[Q9];exact E.len,λb C=>?_,λk j x x' fs Q b U p n G e5 e6=>?_,λk s h=>?_⟩,λb x h z=>⟨?_,λy=>z (hz b x h y)⟩⟩
 ·exact N b x (E.same b x h) λk=>by rw[h3 b k]at h;cases h
 ·by_cases k:o.adr a b
  ·exact hm b k
  ·have:=E.bm b C
   obtain⟨x,hx⟩:=T6 this;rwa[N b x hx k,←hx]
 ·rcases XN U with⟨Y,g,_⟩|⟨nk,g⟩
  ·rcases XN p with⟨T,_,_⟩|⟨nj,f⟩
   ·rw[Y,T]
   ·subst Y;cases g
    rw[A]at n;cases n
    rcases l b e5 with w|w
    ·exact E.own k j _ _ _ _ b M f A G w e6
    ·obtain⟨u,L⟩:=J j Q x' b f G e6;rw[w]at L;cases L
  ·rcases XN p with⟨T,f,_⟩|⟨nj,f⟩
   ·subst T;cases f
    rw[A]at G;cases G
    rcases l b e6 with w|w
    ·exact E.own k j _ _ _ _ b g M n A e5 w
    ·obtain⟨u,L⟩:=J k fs x b g n e5;rw[w]at L;cases L
   ·exact E.own k j x x' fs Q b g f n G e5 e6
 ·rcases XN h with⟨Y,e,_⟩|⟨nk,e⟩
  ·subst Y
   have:=WR e
   subst this;exact⟨_,A,a,rfl,λb C=>(l b C).elim (h3 b) λw=>E.same.free w,r⟩
  ·obtain⟨v,g,f⟩:=E.slot k s e;refine⟨v,g,?_⟩;cases s with
   |sh d=>exact Rp.mono S1 f
   |own fs=>
    obtain⟨x,rfl,n,G⟩:=f;exact⟨x,rfl,n,G.mono S1 λb C y p=>N b y p λw=>nk (E.own k i x a fs o b e M g A C w)⟩
   |_=>exact f
 ·exact N b x h λk=>z (za b k)
def Xn.mutate {i:Nat}{a:Addr}{ds es:O}{us:HO} (E:Xn K H0 B H σ γ) (u:γ[i]?=some (some<|.own ds)) (f:σ[i]?=some (some<|.ref a)) (w:Mut (some us)) (r:∀F H':Hp,Same (Pu.off (zof B γ σ) H) F->H' a=some us->OR K F H' a es)
  (k1:autoParam (ds.adr a=λb=>b=a) au_0) (k2:autoParam (es.adr a=λb=>b=a) au_0) :
  Xn K H0 B (upd H a us) σ (γ.set i<|some<|.own es)/\Fr B H σ γ (upd H a us) σ (γ.set i<|some<|.own es):=by
 refine E.change (o:=ds) (o':=es) u f (λb x h n=>by rw[Xs (λz=>n (by rw[k1];exact z))];exact h) (λb h=>by rw[k1]at h;rw[show b=a from h,X5];exact w) (λb h=>.inl (by rw[k1];rw[k2]at h;exact h)) (r _ _ ?_ X5)
 intro b x h;obtain⟨v,p⟩:=PX h;have s:b≠a:=λz=>p (.inr ⟨i,ds,a,u,f,by rw[k1];exact z⟩);refine XQ (by rw[Xs s];exact v) λz=>p ?_;rcases z with z|⟨j,fs,C,A,l,g⟩
 ·exact .inl z
 ·rcases XN A with⟨y,q,_⟩|⟨_,e⟩
  ·subst y;cases q
   rw[f]at l;cases l
   rw[k2]at g;exact absurd g s
  ·exact .inr ⟨j,fs,C,e,l,g⟩
end
end Pu
namespace Pu
open PySem PySem.Spec PyProof.Rows L2 Own
abbrev XR:=Str->Prop
noncomputable def eI:Int->Nat
 | .ofNat n=>2*n
 | .negSucc n=>2*n+1
noncomputable def dI(n:Nat):Int:=if n % 2=0 then .ofNat (n / 2)else .negSucc (n / 2)
def Zqs:∀i,dI (eI i)=i
 | .ofNat n=>by
  show dI (2*n)=_;unfold dI;simp
 | .negSucc n=>by
  show dI (2*n+1)=_;unfold dI;lia
noncomputable def Nt(r:ZW):Str:=⟨(0::r.map eI).toArray⟩
noncomputable def Zqg:Yb->Option (ZW)
 | 0::t=>some (t.map dI)
 |_=>none
noncomputable def SC(x:Str):Option (ZW):=Zqg x.cps.toList
def He(r:ZW):SC (Nt r)=some r:=by
 show some ((r.map eI).map dI)=some r;rw[Qr];congr 1
 conv=>rhs;rw[←List.map_id r]
 exact QM λi _=>Zqs i
def XE(f:ZY)(E:XK)(c:Str)(H':Hp):Prop:=match SC c with
 |none=>E (.ref<|ExcR.Xp f c) none H'
 |some r=>∀(g l:Addr) (o:Obj),H' g=some (.xd [("members",.ref l)])->H' l=some (.frz o<|.lst<|r.map V.int)->E (.ref<|ExcR.Xp f "Ringed") (some g) H'
def XE.plain {c H'} (g:SC c=none) (h:XE f E c H'):E (.ref<|ExcR.Xp f c) none H':=by
 unfold XE at h;simp_all
def XE.mem (h:XE g E (Nt r) H') {f l o} (p:H' f=some (.xd [("members",.ref l)])) (n:H' l=some (.frz o<|.lst<|r.map V.int)) :
  E (.ref<|ExcR.Xp g "Ringed") (some f) H':=by
 unfold XE at h;rw[He]at h
 grind
def XE.ofM {E r H'} (h:∀f l o,H' f=some (.xd [("members",.ref l)])->H' l=some (.frz o<|.lst<|r.map V.int)->E (.ref<|ExcR.Xp g "Ringed") (some f) H'):XE g E (Nt r) H':=by
 unfold XE;rw[He];lia
abbrev PTE:=Γ->(S->Prop)->XR->Prop
abbrev PTT:=Γ->(Bool->Prop)->XR->Prop
abbrev PTA:=Γ->(List S->Prop)->XR->Prop
abbrev PTO:=Γ->(Option Int->Prop)->XR->Prop
structure Nn where
 nx:Γ->Prop
 rt:S->Prop
 ex:Γ->Str->Prop
 bk:Γ->Prop:=λ_=>False
 ct:Γ->Prop:=λ_=>False
 rv:Γ->D->Prop:=λ_ _=>False
abbrev PTS:=Nn->Γ->Prop
abbrev PTG:=S->Γ->(Γ->Prop)->Prop
abbrev Sw:=List S->Γ->(Γ->Prop)->Prop
inductive TVs (K:ZU) (Z:Addr->Prop) (H0 H H':Hp):List S->List V->Prop
 |nil:TVs K Z H0 H H' [] []
 |cons {s:S} {v:V} {ss:List S} {vs:List V}:TV K Z H0 H H' s v->TVs K Z H0 H H' ss vs->TVs K Z H0 H H' (s::ss) (v::vs)
section
variable (K:ZU) (mg:ZY) (E:L2.St->XK)
def Xj(t:TE)(p:PTE):Prop:=∀(l:Hp) (B:Addr->Prop) (H:Hp) (g:L2.St) (h:Γ) (R:S->Prop) (X:XR) (Q:VK),Xn K l B H g h->p h R X->
 (∀s v f,R s->Same H f->TV K (zof B h g) l H f s v->Q v f)->(∀c f,X c->Same H f->XE mg (E g) c f)->t g H Q
def KA(t:TT)(p:PTT):Prop:=∀(l:Hp) (B:Addr->Prop) (H:Hp) (g:L2.St) (h:Γ) (R:Bool->Prop) (X:XR) (Q:Bool->Hp->Prop),Xn K l B H g h->p h R X->
 (∀b f,R b->Same H f->Q b f)->(∀c f,X c->Same H f->XE mg (E g) c f)->t g H Q
def X6(t:TA)(p:PTA):Prop:=∀(o:Hp) (B:Addr->Prop) (H:Hp) (g:L2.St) (h:Γ) (R:List S->Prop) (X:XR) (Q:List V->Hp->Prop),Xn K o B H g h->p h R X->
 (∀n l f,R n->Same H f->TVs K (zof B h g) o H f n l->Q l f)->(∀c f,X c->Same H f->XE mg (E g) c f)->t g H Q
def N8(t:TO)(p:PTO):Prop:=∀(l:Hp) (B:Addr->Prop) (H:Hp) (g:L2.St) (h:Γ) (R:Option Int->Prop) (X:XR) (Q:Option Int->Hp->Prop),Xn K l B H g h->p h R X->
 (∀o f,R o->Same H f->Q o f)->(∀c f,X c->Same H f->XE mg (E g) c f)->t g H Q
structure BX (H0:Hp) (B:Addr->Prop) (H:Hp) (σ:L2.St) (γ:Γ) (R:Nn) (D:Ends):Prop where
 nx:∀σ' γ' H',R.nx γ'->Xn K H0 B H' σ' γ'->Fr B H σ γ H' σ' γ'->D.nx σ' H'
 rt:∀s v H',R.rt s->Same H0 H'->TV K B H0 H0 H' s v->D.rt v H'
 ex:∀σ' γ' c H',R.ex γ' c->Xn K H0 B H' σ' γ'->Fr B H σ γ H' σ' γ'->XE mg (E σ') c H'
 bk:∀σ' γ' H',R.bk γ'->Xn K H0 B H' σ' γ'->Fr B H σ γ H' σ' γ'->D.bk σ' H'
 ct:∀σ' γ' H',R.ct γ'->Xn K H0 B H' σ' γ'->Fr B H σ γ H' σ' γ'->D.ct σ' H'
 rv:∀σ' γ' d v H',R.rv γ' d->Xn K H0 B H' σ' γ'->Fr B H σ γ H' σ' γ'->Rp K (off (zof B γ' σ') H') d v->D.rt v H'
def Xy(t:TS)(p:PTS):Prop:=∀(h:Hp) (B:Addr->Prop) (H:Hp) (f:L2.St) (g:Γ) (R:Nn) (D:Ends),(∀b,B b->∃o,h b=some o)->Xn K h B H f g->p R g->BX K mg E h B H f g R D->t D f H
end
section
variable {K:ZU}{mg:ZY}{E:L2.St->XK}{H0 H H1 H':Hp}{B Z Z':Addr->Prop}{σ:L2.St}{γ:Γ}
def TVs.weakG {H1 g}:∀{ss}{vs:List V},Same H H1->TVs K Z H0 H1 g ss vs->TVs K Z H0 H g ss vs:=by
 intro ss
 induction ss with
 |nil=>
  intro _ _ h;cases h
  exact .nil
 |cons _ _ l=>
  intro _ f h;cases h with
  |cons h r=>
   exact .cons (TV.weak f (λ_ z=>z) h) (l f r)
def TVs.rps (g:Same H0 H'):∀{ss}{vs:List V},TVs K Z H0 H H' ss vs->Rps K H' (ss.map S.d) vs:=by
 intro ss
 induction ss with
 |nil=>
  intro _ h;cases h
  exact .nil
 |cons _ _ f=>
  intro _ h;cases h with
  |cons h r=>
   exact .cons (h.rp g) (f r)
theorem TVs.shd {ds:List D} (l:Same H0 H') (g:∀b,Z b->Mut (H b)) (n:Same H H'):∀{f vs}{ds:List D},TVs K Z H0 H H' f vs->f.map S.shd=ds.map some->Rps K (off Z H') ds vs
 |_,_,[],.nil,_=>.nil
 |_,_,_::_,.nil,e|_,_,[],.cons _ _,e=>by cases e
 |_,_,d::ds,.cons h r,e=>by
  rw[Qe,Qe,JB]at e;exact .cons (h.shd l g n e.1) (TVs.shd (ds:=ds) l g n r e.2)
def Rp.int_inv (h:Rp K H (.int i) v):v=.int i:=by cases h;rfl
def Rp.bl_inv (h:Rp K H (.bl b) v):v=.bl b:=by cases h;rfl
def Rp.str_inv (h:Rp K H (.str x) v):v=.str x:=by cases h;rfl
def Rp.non_inv (h:Rp K H .non v):v=.non:=by cases h;rfl
def Rp.ty_inv (h:Rp K H (.ty n) v):v=.ty n:=by cases h;rfl
noncomputable def E5(i:Nat):PTE:=λγ R _=>match γ[i]? with
 |some (some<|.own f)=>R (.view f)
 |some (some s)=>R s
 |_=>False
def Xi(i:Nat):Xj K mg E (K7 i) (E5 i):=by
 intro H0 B H σ γ R X Q f h q _;unfold E5 at h;split at h
 ·rename_i o e;obtain⟨v,g,a,rfl,r,n⟩:=f.slot i _ e;exact⟨_,g,q _ _ H h (Same.refl _) ⟨a,rfl,n⟩⟩
 ·rename_i s p e;obtain⟨v,g,l⟩:=f.slot i _ e;refine⟨v,g,q _ _ H h (Same.refl _) ?_⟩;cases s with
  |bor d|sh d=>exact l
  |own o=>grind
  |_=>exact l.elim
 ·grind
noncomputable def pC(d:D):PTE:=λ_ R _=>R (.sh d)
def FY(h:∀H,Rp K H d v):Xj K mg E (tC v) (pC d):=by
 intro H0 B H σ γ R X Q f p q _;exact q _ _ H p (Same.refl _) (h _)
def Xr:Xj K mg E (tC<|.int i) (pC<|.int i):=FY λ_=>.int i
def NC:Xj K mg E (tC<|.bl b) (pC<|.bl b):=FY λ_=>.bl b
def N4:Xj K mg E (tC<|.str x) (pC<|.str x):=FY λ_=>.str x
def Bp:Xj K mg E (tC<|.ty n) (pC<|.ty n):=FY λ_=>.ty n
noncomputable def p2(a b:PTE)(f:S->S->(S->Prop)->Prop):PTE:=λγ R X=>a γ (λx=>b γ (λy=>f x y R) X) X
def Pn{A w a b f}(Y:Xj K mg E A a)(U:Xj K mg E w b)(N:∀H0 H h Z x y v u R Q,Same H0 h->Same H h->(∀b,Z b->Mut (H b))->TV K Z H0 H h x v->TV K Z H0 H h y u->f x y R->(∀s z H',R s->Same h H'->TV K Z H0 H H' s z->Q z H')->r v u h Q) :
  Xj K mg E (tOp r A w) (p2 a b f):=by
 intro H0 B H σ γ R X Q l p q C;refine Y H0 B H σ γ _ X _ l p (λx v H1 h1 n L=>?_) C;have g:=l.grow n;refine U H0 B H1 σ γ _ X _ g h1 (λy u h h2 o J=>?_) λc H' T S'=>C c H' T (n.trans S');exact N H0 H h _ x y v u R Q (g.same.trans o) (n.trans o) l.zm (L.grow o) (TV.weak n (λ_ z=>z) J) h2 λs z H' M S3 G=>q s z H' M ((n.trans o).trans S3) G
def fI0(g:Int->Int->D):S->S->(S->Prop)->Prop:=λx y R=>match x.d,y.d with
 | .int i,.int j=>R (.sh<|g i j)
 |_,_=>False
def fI(C:Int->Int->Prop)(g:Int->Int->D):S->S->(S->Prop)->Prop:=λx y R=>match x.d,y.d with
 | .int i,.int j=>C i j/\R (.sh<|g i j)
 |_,_=>False
def BI{g'}{l f a b}(w:∀H i j,Rp K H (g' i j) (g i j))(A:Xj K mg E l a)(z:Xj K mg E f b):Xj K mg E (tOp (rI0 g) l f) (p2 a b<|fI0 g'):=by
 refine Pn A z λH0 H J Z x y v u R Q n L M s r h q=>?_;unfold fI0 at h;have p:=s.rp n;have o:=r.rp n;split at h
 ·rename_i i j G C;rw[G]at p;rw[C]at o;exact⟨i,j,p.int_inv,o.int_inv,q _ _ J h (Same.refl _) (w _ i j)⟩
 ·grind
def Fk{g r}{l f a b}(z:∀H i j,Rp K H (r i j) (g i j))(G:Xj K mg E l a)(A:Xj K mg E f b):Xj K mg E (tOp (rI C g) l f) (p2 a b<|fI C r):=by
 refine Pn G A λH0 H M Z x y v u R Q n N T w s h q=>?_;unfold fI at h;have p:=w.rp n;have o:=s.rp n;split at h
 ·rename_i i j L J;rw[L]at p;rw[J]at o;exact⟨i,j,p.int_inv,o.int_inv,h.1,q _ _ M h.2 (Same.refl _) (z _ i j)⟩
 ·grind
section
variable {ta tb tc:TE}{a b c:PTE}
def X4(g:Xj K mg E ta a)(f:Xj K mg E tb b):Xj K mg E (tOp (rI0 λi j=>.int (i+j)) ta tb) (p2 a b (fI0 λi j=>.int (i+j))):=BI (λ_ _ _=>.int _) g f
def XF(g:Xj K mg E ta a)(f:Xj K mg E tb b):Xj K mg E (tOp (rI0 λi j=>.int (i-j)) ta tb) (p2 a b (fI0 λi j=>.int (i-j))):=BI (λ_ _ _=>.int _) g f
def TC(g:Xj K mg E ta a)(f:Xj K mg E tb b):Xj K mg E (tOp (rI CMul λi j=>.int (i*j)) ta tb) (p2 a b (fI CMul λi j=>.int (i*j))):=Fk (λ_ _ _=>.int _) g f
def Kf(g:Xj K mg E ta a)(f:Xj K mg E tb b):Xj K mg E (tOp (rI Gk λi j=>.int (i / j)) ta tb) (p2 a b (fI Gk λi j=>.int (i / j))):=Fk (λ_ _ _=>.int _) g f
def XA(g:Xj K mg E ta a)(f:Xj K mg E tb b):Xj K mg E (tOp (rI (λ_ j=>0<j) λi j=>.int (i % j)) ta tb) (p2 a b (fI (λ_ j=>0<j) λi j=>.int (i % j))):=Fk (λ_ _ _=>.int _) g f
def CZ(g:Xj K mg E ta a)(f:Xj K mg E tb b):Xj K mg E (tOp (rI AE λi j=>.int (i ^ j.toNat)) ta tb) (p2 a b (fI AE λi j=>.int (i ^ j.toNat))):=Fk (λ_ _ _=>.int _) g f
def KL(g:Xj K mg E ta a)(f:Xj K mg E tb b):Xj K mg E (tOp (rI0 λi j=>.bl (decide (i<j))) ta tb) (p2 a b (fI0 λi j=>.bl (decide (i<j)))):=BI (λ_ _ _=>.bl _) g f
def K0(g:Xj K mg E ta a)(f:Xj K mg E tb b):Xj K mg E (tOp (rI0 λi j=>.bl (decide (j<i))) ta tb) (p2 a b (fI0 λi j=>.bl (decide (j<i)))):=BI (λ_ _ _=>.bl _) g f
def SB(g:Xj K mg E ta a)(f:Xj K mg E tb b):Xj K mg E (tOp (rI0 λi j=>.bl (decide (j<=i))) ta tb) (p2 a b (fI0 λi j=>.bl (decide (j<=i)))):=BI (λ_ _ _=>.bl _) g f
def fEq(neg:Bool):S->S->(S->Prop)->Prop:=λx y R=>match x.d,y.d with
 | .int i,.int j=>R (.sh<|.bl (if neg then !decide (i=j)else decide (i=j)))
 | .str i,.str j=>R (.sh<|.bl (if neg then !decide (i=j)else decide (i=j)))
 | .bl i,.bl j=>R (.sh<|.bl (if neg then !decide (i=j)else decide (i=j)))
 |_,_=>False
def NX{g h:Type}[DecidableEq g][DecidableEq h]{f:g->h}(l:∀a b,f a=f b->a=b)(a b:g):decide (f a=f b)=decide (a=b):=by grind
def fIx:S->S->(S->Prop)->Prop:=λx y R=>match x.d,y.d with
 | .lst g,.int k=>∃d,atI g k=some d/\R (x.sub d)
 | .tup g,.int k=>∃d,atI g k=some d/\R (x.sub d)
 | .scr f,.int k=>∃i,atI f k=some i/\R (.sh<|.int i)
 | .fL f,.int k=>∃i,atI f k=some i/\R (.sh<|.int i)
 |_,_=>False
def GV{P:D->V->Prop}(f:vs.length=ds.length)(h:∀(i:Nat) d,ds[i]?=some d->∃u,vs[i]?=some u/\P d u)(e:atI ds k=some d):∃u,atI vs k=some u/\P d u:=by
 unfold atI at e ⊢;cases q:ixN ds.length k with
 |_=>grind
def XM(ha:Xj K mg E ta a)(hb:Xj K mg E tb b):Xj K mg E (tOp (λx y H Q=>Bs K x y H Q\/SX K x y H Q) ta tb) (p2 a b fIx):=by
 refine Pn ha hb λH0 H s Z x y v u R Q r Y hm A U h q=>?_;unfold fIx at h;have f:=U.rp r;obtain⟨pl,pt⟩:=A.part r hm Y;split at h
 ·rename_i T k o n;rw[n]at f;obtain⟨d,hd,g⟩:=h;obtain⟨l,w,rfl,M,L,J⟩:=pl T o;obtain⟨z,C,tz⟩:=GV L J hd;exact .inl ⟨l,w,k,z,rfl,f.int_inv,SqL.of M,C,q _ _ s g (Same.refl _) tz⟩
 ·rename_i T k o n;rw[n]at f;obtain⟨d,hd,g⟩:=h;obtain⟨l,w,rfl,M,L,J⟩:=pt T o;obtain⟨z,C,tz⟩:=GV L J hd;exact .inr ⟨l,w,k,z,rfl,f.int_inv,SqT.of M,C,q _ _ s g (Same.refl _) tz⟩
 ·rename_i ns k o n;rw[n]at f;obtain⟨i,N,g⟩:=h;have p:=A.rp r;rw[o]at p;cases p with
  |scr G=>exact .inl ⟨_,_,k,.int i,rfl,f.int_inv,G,P7 N,q _ _ s g (Same.refl _) (.int i)⟩
 ·rename_i ns k o n;rw[n]at f;obtain⟨i,N,g⟩:=h;have p:=A.rp r;rw[o]at p;cases p with
  |fL G=>exact .inl ⟨_,_,k,.int i,rfl,f.int_inv,.inl (.inr ⟨_,G⟩),P7 N,q _ _ s g (Same.refl _) (.int i)⟩
 ·exact h.elim
noncomputable def Zho(a b:PTE):PTE:=λγ R X=>a γ (λx=>match x.d with | .bl c=>if c=true then b γ R X else R (.sh<|.bl false)|_=>False) X
noncomputable def Ld(a:PTE):PTE:=λγ R X=>a γ (λx=>match x.d with | .bl c=>R (.sh<|.bl (!c))|_=>False) X
def B4(C:Xj K mg E ta a)(A:Xj K mg E tb b):Xj K mg E (Hg ta tb) (Zho a b):=by
 intro H0 B H σ γ R X Q h p q r;refine C H0 B H σ γ _ X _ h p (λx v H1 n l w=>?_) r;have f:=h.grow l;have o:=w.rp f.same;split at n
 ·rename_i c J;rw[J]at o;refine⟨c,o.bl_inv,?_⟩;split at n
  ·rename_i g;rw[WH g];exact A H0 B H1 σ γ _ X _ f n (λy u N G L s=>q y u N G (l.trans L) (TV.weak l (λ_ z=>z) s)) λc H' g M=>r c H' g (l.trans M)
  ·rename_i g;rw[WG g];exact q _ _ H1 n l (.bl _)
 ·grind
def MU(r:Xj K mg E ta a):Xj K mg E (Ii ta) (Ld a):=by
 intro H0 B H σ γ R X Q f p q o;refine r H0 B H σ γ _ X _ f p (λx v H1 h l n=>?_) o;have g:=n.rp (f.grow l).same;split at h
 ·rename_i c s;rw[s]at g;exact⟨c,g.bl_inv,q _ _ H1 h l (.bl _)⟩
 ·grind
noncomputable def Zn1(a:PTE):PTE:=λγ R X=>a γ (λx=>match x.d with | .int i=>R (.sh<|.int (-i))|_=>False) X
def Pf(r:Xj K mg E ta a):Xj K mg E (tUn (rU λi=>.int (-i)) ta) (Zn1 a):=by
 intro H0 B H σ γ R X Q f p q o;refine r H0 B H σ γ _ X _ f p (λx v H1 h l n=>?_) o;have g:=n.rp (f.grow l).same;split at h
 ·rename_i c s;rw[s]at g;exact⟨c,g.int_inv,q _ _ H1 h l (.int _)⟩
 ·grind
noncomputable def NM(a:PTE):PTT:=λγ R X=>a γ (λx=>match x.d with | .bl c=>R c|_=>False) X
def Kr(r:Xj K mg E ta a):KA K mg E (FD ta) (NM a):=by
 intro H0 B H σ γ R X Q f p q o;refine r H0 B H σ γ _ X _ f p (λx v H1 h l n=>?_) o;have g:=n.rp (f.grow l).same;split at h
 ·rename_i c s;rw[s]at g;exact⟨c,g.bl_inv,q _ H1 h l⟩
 ·grind
def Zoy(f:Xj K mg E ta a):KA K mg E (tB ta) (NM a):=Kr f
variable {sa sb:TT}{pa pb:PTT}
noncomputable def M6(a b:PTT):PTT:=λγ R X=>a γ (λc=>if c=true then b γ R X else R false) X
noncomputable def pOr(a b:PTT):PTT:=λγ R X=>a γ (λc=>if c=true then R true else b γ R X) X
noncomputable def Iq(a:PTT):PTT:=λγ R X=>a γ (λc=>R (!c)) X
def Za1(r:KA K mg E sa pa)(o:KA K mg E sb pb):KA K mg E (Ie sa sb) (M6 pa pb):=by
 intro H0 B H σ γ R X Q f p q l;refine r H0 B H σ γ _ X _ f p (λc H1 n h=>?_) l;split at n
 ·rename_i g;rw[WH g];exact o H0 B H1 σ γ _ X _ (f.grow h) n (λy w s u=>q y w s (h.trans u)) λc H' g v=>l c H' g (h.trans v)
 ·grind
def Zfx(r:KA K mg E sa pa)(o:KA K mg E sb pb):KA K mg E (tOr sa sb) (pOr pa pb):=by
 intro H0 B H σ γ R X Q f p q l;refine r H0 B H σ γ _ X _ f p (λc H1 n h=>?_) l;split at n
 ·grind
 ·rename_i g;rw[WG g];exact o H0 B H1 σ γ _ X _ (f.grow h) n (λy w s u=>q y w s (h.trans u)) λc H' g v=>l c H' g (h.trans v)
def Zlv(h:KA K mg E sa pa):KA K mg E (Ex sa) (Iq pa):=by
 intro H0 B H σ γ R X Q f p q g;exact h H0 B H σ γ _ X _ f p (λc H1 l n=>q _ H1 l n) g
end
noncomputable def TJ:PTA:=λ_ R _=>R []
noncomputable def Pm(a:PTE)(r:PTA):PTA:=λγ R X=>a γ (λs=>r γ (λf=>R (s::f)) X) X
def X2:X6 K mg E KE TJ:=by
 intro H0 B H σ γ R X Q f p q _;exact q _ _ H p (Same.refl _) .nil
def KM{a r}(y:Xj K mg E te a)(w:X6 K mg E n r):X6 K mg E (Kg te n) (Pm a r):=by
 intro H0 B H σ γ R X Q f p q h;refine y H0 B H σ γ _ X _ f p (λs v H1 A g u=>?_) h;refine w H0 B H1 σ γ _ X _ (f.grow g) A (λL J G z l o=>?_) λc H' x C=>h c H' x (g.trans C);exact q _ _ G z (g.trans l) (.cons (u.grow l)<|TVs.weakG g o)
noncomputable def BQ:List S->Option (List D)
 |[]=>some []
 |s::r=>match s.shd,BQ r with
  |some d,some f=>some (d::f)
  |_,_=>none
theorem EM:∀{ss}{ds:List D},BQ ss=some ds->ss.map S.shd=ds.map some
 |[],ds,h=>by cases h;rfl
 |s::r,ds,h=>by
  unfold BQ at h;split at h
  ·rename_i d l g f;cases h
   rw[Qe,Qe,g,EM f]
  ·grind
noncomputable def Od(r:PTA):PTE:=λγ R X=>r γ (λg=>match BQ g with|some f=>f.length<=1000/\R (.sh<|.tup f)|none=>False) X
noncomputable def MQ(r:PTA):PTE:=λγ R X=>r γ (λg=>match BQ g with|some f=>f.length<=1000/\R (.own f)|none=>False) X
def AL(h:n<=1000):n<=sizeLine:=VW (Zoa h)
def PY(A:X6 K mg E w r):Xj K mg E (IK w) (Od r):=by
 intro H0 B H σ γ R X Q g p q y;refine A H0 B H σ γ _ X _ g p (λC v H1 h n x=>?_) y;split at h
 ·rename_i ds e;have f:=g.grow n;have rp:=x.shd (ds:=ds) f.same g.zm n (EM e);refine⟨by rw[rp.len];exact AL h.1,λl s=>?_⟩;have u:=XU (o:=.tup v) s;refine q _ _ _ h.2 (n.trans u) (.tup (XQ X5 λz=>?_)<|Rps.mono (Xx u λ_ _ _ z=>z) rp)
  have:=f.zm l z
  rw[s]at this;exact this
 ·grind
def TM{H H1 l vs ds}(h:Same H H1)(f:H1 l=none)(rp:Rps K (off Z H1) ds vs):TV K Z H0 H (upd H1 l<|.lst vs) (.own ds) (.ref l):=
 ⟨l,rfl,(λ_ e=>e▸h.free f),vs,X5,Rps.mono (Xx (XU f) λb o g z y=>y.elim z λe=>by rw[e,f]at g;cases g) rp⟩
def P3(v:X6 K mg E o r):Xj K mg E (G1 o) (MQ r):=by
 intro H0 B H σ γ R X Q f p q u;refine v H0 B H σ γ _ X _ f p (λx w H1 h g s=>?_) u;split at h
 ·rename_i ds e;have rp:=s.shd (ds:=ds) (f.grow g).same f.zm g (EM e);refine⟨by rw[rp.len];exact AL h.1,λl n=>?_⟩;exact q _ _ _ h.2 (g.trans<|XU n) (TM g n rp)
 ·grind
abbrev Pc:=List D->(S->Prop)->XR->Prop
noncomputable def Xq(mg:ZY)(c:Pc)(K:ZU):Sp:=λg H Q E=>∃f R X,Rps K H f g/\c f R X/\(∀s v H',R s->Same H H'->TV K (λb=>Mut (H b)) H H H' s v->Q v H')/\∀e H',X e->Same H H'->XE mg E e H'
noncomputable def S.back:S->S
 | .bor d=>Pj d | .view o=>.tmp o.d|s=>s
def TV.back (env:Xn K H0 B H1 σ γ) (o:Same H H1) (f:Same H1 H') (h:TV K (λb=>Mut (H1 b)) H1 H1 H' s v):TV K (zof B γ σ) H0 H H' s.back v:=by
 cases s with
 |bor d=>exact Td (λb z=>Te f (env.zm b z)) (Rp.mono f h)
 |sh d=>exact Rp.mono (Xx (Same.refl _) λb _ _ z y=>z (env.zm b y)) h
 |own n=>
  obtain⟨a,rfl,l,r⟩:=h;exact⟨a,rfl,(λb g=>o.free (l b g)),r.mono (Xx (Same.refl _) λb _ _ z y=>z (y.imp (env.zm b) id)) λ_ _ _ q=>q⟩
 |view n=>
  obtain⟨a,rfl,r⟩:=h;exact r.rp off_sub
 |tmp d=>exact h
noncomputable def RS(c:Pc)(r:PTA):PTE:=λγ R X=>r γ (λf=>c (f.map S.d) (λs=>R s.back) λ_=>False) X
noncomputable def Mx(c:Pc)(r:PTA):PTE:=λγ R X=>r γ (λf=>c (f.map S.d) (λs=>R s.back) X) X
def T4{l r}(y:X6 K mg E l r):Xj K mg E (Nm (Xq mg c K) [] E0 l) (RS c r):=by
 intro H0 B H σ γ R X Q g p q w;refine y H0 B H σ γ _ X _ g p (λG C H1 A h u=>?_) w;rw[Qv];have f:=g.grow h;exact⟨_,_,_,u.rps f.same,A,λs v H' x n o=>q _ _ H' x (h.trans n) (o.back f h n),λ_ _ z=>z.elim⟩
def Zl1{o r n}(z:X6 K mg (λ_=>n) o r):Xj K mg (λ_=>n) (Nm (Xq mg c K) [] n o) (Mx c r):=by
 intro H0 B H σ γ R X Q g p q u;refine z H0 B H σ γ _ X _ g p (λJ G H1 C l x=>?_) u;rw[Qv];have f:=g.grow l;exact⟨_,_,X,x.rps f.same,C,λs v H' y h w=>q _ _ H' y (l.trans h) (w.back f l h),λe H' A h=>u e H' A (l.trans h)⟩
def Xn.set {s f}{v} (l:Xn K H0 B H σ γ) (g:Same H H') (h:TV K (zof B γ σ) H0 H H' s v) (e:s.slot=some f) :
  Xn K H0 B H' (σ.set i<|some v) (γ.set i<|some f)/\Fr B H σ γ H' (σ.set i<|some v) (γ.set i<|some f):=by
 by_cases n:i<γ.length
 ·exact l.put g h e n
 ·rw[List.set_eq_of_length_le (by rw[l.len];lia),List.set_eq_of_length_le (by lia)];exact⟨l.grow g,Fr.grow g⟩
def Upd(g:Yb)(σ f:L2.St):Prop:=(∀j,j∉g->f[j]?=σ[j]?)/\f.length=σ.length
def Nl(K:ZU)(h:Yb)(t:TG)(p:PTG):Prop:=∀(H0:Hp) (B:Addr->Prop) (H H':Hp) (σ:L2.St) (γ:Γ) (s:S) (v:V) (R:Γ->Prop) (Q:L2.St->Hp->Prop),Xn K H0 B H σ γ->Same H H'->TV K (zof B γ σ) H0 H H' s v->p s γ R->
 (∀f g,R g->Xn K H0 B H' f g->Fr B H σ γ H' f g->Upd h σ f->Q f H')->t v σ H' Q
noncomputable def BN(i:Nat):PTG:=λs γ R=>match s.slot with|some f=>R (γ.set i<|some f)|none=>False
def Kl(i:Nat):Nl K [i] (S9 i) (BN i):=by
 intro H0 B H H' σ γ s v R Q f n g p q;unfold BN at p;split at p
 ·rename_i o e;obtain⟨l,f1⟩:=f.set n g e;exact q _ _ p l f1 ⟨λj h=>Th λz=>h (by grind),Q9⟩
 ·grind
noncomputable def IA:Sw:=λf γ R=>match f with|[]=>R γ|_=>False
noncomputable def Oj(g:PTG)(r:Sw):Sw:=λh γ R=>match h with|s::t=>g s γ λf=>r t f R|[]=>False
def TV.notown {σ'}{γ'}{Hb} (f:Fr B H σ γ H' σ' γ') (g:Same H H') (n:∀ds,s≠.own ds) (l:∀ds,s≠.view ds) (h:TV K (zof B γ σ) H0 Hb H s v):TV K (zof B γ' σ') H0 H' H' s v:=by
 cases s with
 |bor d=>exact h
 |sh d=>exact Rp.mono f.off h
 |tmp d=>exact Rp.mono g h
 |_=>grind
def TVs.notown (f:Fr B H σ γ H g l):∀{ss}{vs:List V},(∀s∈ss,∀ds,s≠.own ds/\s≠.view ds)->TVs K (zof B γ σ) H0 u H ss vs->TVs K (zof B l g) H0 H H ss vs:=by
 intro ss
 induction ss with
 |nil=>
  intro _ _ h;cases h
  exact .nil
 |cons _ _ o=>
  intro _ n h;cases h with
  |cons h r=>
   exact .cons (h.notown f (Same.refl _) (λds=>(n _ Qs ds).1) λds=>(n _ Qs ds).2) (o (λs p=>n s (Qb _ p)) r)
def Cu(d:D):arg d=.sh d\/arg d=.bor d:=by unfold arg;cases imm d<;>simp
def Mf(d:D):Pj d=.sh d\/Pj d=.tmp d:=by unfold Pj;cases imm d<;>simp
def HD(s:S)(d:D):∀ds,s.sub d≠.own ds/\s.sub d≠.view ds:=λds=>by
 cases s with
 |bor b=>rcases Cu d with e|e<;>(show arg d≠_/\arg d≠_;rw[e];exact⟨(λz=>by cases z),(λz=>by cases z)⟩)
 |tmp b=>rcases Mf d with e|e<;>(show Pj d≠_/\Pj d≠_;rw[e];exact⟨(λz=>by cases z),(λz=>by cases z)⟩)
 |sh b=>exact⟨(λz=>by cases z),(λz=>by cases z)⟩
 |own b|view b=>
  cases b with
  |nst f|nsl a f=>rcases Mf d with e|e<;>(show Pj d≠_/\Pj d≠_;rw[e];exact⟨(λz=>by cases z),(λz=>by cases z)⟩)
  |_=>exact⟨(λz=>by cases z),(λz=>by cases z)⟩
def B0(K:ZU)(o:Yb)(t:TGs)(p:Sw):Prop:=∀(H0:Hp) (B:Addr->Prop) (H:Hp) (σ:L2.St) (γ:Γ) (h:List S) (l:List V) (R:Γ->Prop) (Q:L2.St->Hp->Prop),Xn K H0 B H σ γ->TVs K (zof B γ σ) H0 H H h l->(∀s∈h,∀n,s≠.own n/\s≠.view n)->p h γ R->
 (∀f g,R g->Xn K H0 B H f g->Fr B H σ γ H f g->Upd o σ f->Q f H)->t l σ H Q
def A7:B0 K [] Mh IA:=by
 intro H0 B H σ γ l h R Q f g no p q;cases g with
 |nil=>exact⟨rfl,q _ _ p f Fr.refl ⟨λ_ _=>rfl,rfl⟩⟩
 |cons _ _=>exact p.elim
def SY{g r x w}(T:Nl K M g x)(N:B0 K L r w):B0 K (M++L) (IS g r) (Oj x w):=by
 intro H0 B H σ γ ss vs R Q v G no p q;cases G with
 |nil=>exact p.elim
 |cons h t=>
  refine⟨_,_,rfl,T H0 B H H σ γ _ _ _ _ v (Same.refl _) h p λl o J e1 f1 A=>?_⟩;refine N H0 B H l o _ _ _ _ e1 (TVs.notown f1 (λs u=>no s (Qb _ u)) t) (λs u=>no s (Qb _ u)) J λf n p2 Y U y=>?_;exact q f n p2 Y (f1.trans U) ⟨λj C=>(y.1 j λz=>C (Qi _ z)).trans (A.1 j λz=>C (Q4 _ z)),y.2.trans A.2⟩
noncomputable def Dv(n:Nat)(r:Sw):PTG:=λs γ R=>match s.d with | .tup f=>f.length=n/\r (f.map s.sub) γ R|_=>False
theorem TVs.of_part {ds:List D}{s:S}:∀{vs}{ds:List D},vs.length=ds.length->(∀(i:Nat) d,ds[i]?=some d->∃u,vs[i]?=some u/\TV K Z H0 H H' (s.sub d) u)->TVs K Z H0 H H' (ds.map s.sub) vs
 |[],[],_,_=>.nil
 |[],_::_,e,_|_::_,[],e,_=>by cases e
 |v::vs,d::ds,e,h=>by
  obtain⟨u,g,f⟩:=h 0 d rfl;cases g
  exact .cons f (TVs.of_part (ds:=ds) (by grind) λi l hd=>by simpa using h (i+1) l (by grind))
def Gj{y r x}(J:B0 K y r x):Nl K y (D2 K n r) (Dv n x):=by
 intro H0 B H H' σ γ s v R Q g u A p q;unfold Dv at p;have f:=g.grow u;obtain⟨_,pt⟩:=A.part f.same g.zm u;split at p
 ·rename_i ds e;obtain⟨a,w,rfl,M,z,L⟩:=pt ds e;refine⟨a,w,rfl,SqT.of M,z.trans p.1,?_⟩;refine J H0 B H' σ γ _ w R Q f (TVs.notown (Fr.refl) (λC o ds=>?_)<|TVs.of_part (ds:=ds) z L) (λC o ds=>?_) p.2 λh l N T f1 G=>q h l N T (Fr.trans (Fr.grow u) f1) G
  ·obtain⟨d,_,rfl⟩:=Qk.mp o;exact HD s d ds
  ·obtain⟨d,_,rfl⟩:=Qk.mp o;exact HD s d ds
 ·grind
def BX.from {D p r} (e:BX K mg E H0 B H σ γ R D) (f:Fr B H σ γ H1 p r):BX K mg E H0 B H1 p r R D:=
 ⟨λg h H' o n l=>e.nx g h H' o n (f.trans l),e.rt,λg h c H' o n l=>e.ex g h c H' o n (f.trans l),λg h H' o n l=>e.bk g h H' o n (f.trans l),λg h H' o n l=>e.ct g h H' o n (f.trans l),λg h d v H' o n l=>e.rv g h d v H' o n (f.trans l)⟩
variable {te:TE}{a:PTE}{tt:TT}{c:PTT}{t u:TS}{p q:PTS}
noncomputable def MC:PTS:=λR γ=>R.nx γ
def ND:Xy K mg E RM MC:=λ_ _ _ _ _ _ _ _ f h e=>e.nx _ _ _ h f Fr.refl
noncomputable def Mi(p q:PTS):PTS:=λR γ=>p {R with nx:=q R} γ
def Zeu(o:Xy K mg E t p)(hq:Xy K mg E u q):Xy K mg E (Ig t u) (Mi p q):=by
 intro H0 B H σ γ R D n l h e;refine o H0 B H σ γ _ _ n l h ⟨λf g H' r s f1=>?_,e.rt,e.ex,e.bk,e.ct,e.rv⟩;exact hq H0 B H' f g R D n s r (e.from f1)
structure IH (p q:PTS) (R:Nn) (γ:Γ):Prop where
 w:∃J:Γ->Prop,p {R with nx:=J} γ/\∀γ',J γ'->q R γ'
noncomputable def Rt(p q:PTS):PTS:=λR γ=>IH p q R γ
def Fi(s:Xy K mg E t p)(hq:Xy K mg E u q):Xy K mg E (GE t u) (Rt p q):=by
 intro H0 B H σ γ R D r n h e;obtain⟨J,h,k⟩:=h.w;refine⟨λg H'=>∃f,J f/\Xn K H0 B H' g f/\Fr B H σ γ H' g f,s H0 B H σ γ _ _ r n h ⟨λg f H' l o f1=>⟨f,l,o,f1⟩,e.rt,e.ex,e.bk,e.ct,e.rv⟩,?_⟩;rintro g H' ⟨f,l,o,f1⟩;exact hq H0 B H' g f R D r o (k f l) (e.from f1)
noncomputable def On(i:Nat)(p:PTS):PTS:=λR γ=>p R (frz i γ)
def Zpm(i:Nat)(l:Xy K mg E t p):Xy K mg E t (On i p):=by
 intro H0 B H σ γ R D g f h e;obtain⟨n,f1⟩:=f.frz g i;exact l H0 B H σ _ R D g n h (e.from f1)
noncomputable def Ct(a:PTE)(g:PTG):PTS:=λR γ=>a γ (λs=>g s γ R.nx) (R.ex γ)
def Nq(z:Xj K mg E te a)(x:Nl K M g w):Xy K mg E (NT te g) (Ct a w):=by
 intro H0 B H σ γ R D N f h e;refine z H0 B H σ γ _ _ _ f h (λs v H1 C L r=>?_) λc H' y o=>e.ex σ γ c H' y (f.grow o) (Fr.grow o);exact x H0 B H H1 σ γ s v _ _ f L r C λl n A J G _=>e.nx l n H1 A J G
noncomputable def ER(i:Nat)(f:Int->Int->Int)(a:PTE):PTS:=λR γ=>match γ[i]? with
 |some (some<|.sh<|.int x)=>a γ (λy=>match y.d with | .int j=>R.nx (γ.set i<|some<|.sh<|.int<|f x j)|_=>False) (R.ex γ)
 |_=>False
def Zrb(A:Xj K mg E te a):Xy K mg E (O6 i te<|ipI f) (ER i f a):=by
 intro H0 B H σ γ R D M g h e;unfold ER at h;split at h
 ·rename_i x hx;obtain⟨v,G,C⟩:=g.slot i _ hx;refine⟨v,G,A H0 B H σ γ _ _ _ g h (λy u H1 n o w=>?_) λc H' z r=>e.ex σ γ c H' z (g.grow r) (Fr.grow r)⟩;have l:=w.rp (g.grow o).same;split at n
  ·rename_i j J;rw[J]at l;refine⟨x,j,Rp.int_inv C,l.int_inv,?_⟩;obtain⟨L,f1⟩:=g.set (s:=.sh (.int<|f x j)) o (.int _) rfl;exact e.nx _ _ H1 n L f1
  ·grind
 ·grind
noncomputable def Ri(a:PTE):PTS:=λR γ=>a γ R.rt (R.ex γ)
def Di(o:Xj K mg E te a):Xy K mg E (Si te) (Ri a):=by
 intro H0 B H σ γ R D x f h e;refine o H0 B H σ γ _ _ _ f h (λs v H1 r w l=>?_) λc H' n g=>e.ex σ γ c H' n (f.grow g) (Fr.grow g);exact e.rt s v H1 r (f.same.trans w) (TV.weak f.same (λb z=>.inl z) l)
noncomputable def Dy(i:Nat):PTS:=λR γ=>match γ[i]? with|some (some s)=>R.rt s|_=>False
def Zea(i:Nat):Xy K mg E (Si<|K7 i) (Dy i):=by
 intro H0 B H σ γ R D C f h e;unfold Dy at h;split at h
 ·rename_i s n;obtain⟨v,o,g⟩:=f.slot i _ n;refine⟨v,o,e.rt s v H h f.same ?_⟩;cases s with
  |bor d=>exact g
  |sh d=>exact Rp.mono (Xx (Same.refl _) λb _ _ z y=>z (.inl y)) g
  |own r=>
   obtain⟨l,rfl,A,x⟩:=g;exact⟨l,rfl,A,x.mono (Xx (Same.refl _) λb _ _ z y=>z (y.elim .inl λw=>.inr ⟨i,r,l,n,o,w⟩)) λ_ _ _ q=>q⟩
  |view r=>exact g.elim
  |tmp d=>trivial
 ·grind
noncomputable def Ox(c:PTT)(p q:PTS):PTS:=λR γ=>c γ (λb=>if b=true then p R γ else q R γ) (R.ex γ)
def BB(l:KA K mg E tt c)(v:Xy K mg E t p)(hq:Xy K mg E u q):Xy K mg E (AA tt t u) (Ox c p q):=by
 intro H0 B H σ γ R D r f h e;refine l H0 B H σ γ _ _ _ f h (λb H1 o g=>?_) λc H' l s=>e.ex σ γ c H' l (f.grow s) (Fr.grow s);split at o
 ·rename_i n;rw[WH n];exact v H0 B H1 σ γ R D r (f.grow g) o (e.from<|Fr.grow g)
 ·rename_i n;rw[WG n];exact hq H0 B H1 σ γ R D r (f.grow g) o (e.from<|Fr.grow g)
noncomputable def LZ(a:PTE):PTS:=λR γ=>a γ (λ_=>R.nx γ) (R.ex γ)
def Tx(o:Xj K mg E te a):Xy K mg E (SM te) (LZ a):=by
 intro H0 B H σ γ R D x f h e;exact o H0 B H σ γ _ _ _ f h (λs v H1 r g w=>e.nx σ γ H1 r (f.grow g) (Fr.grow g)) λc H' n l=>e.ex σ γ c H' n (f.grow l) (Fr.grow l)
noncomputable def Ov(x:Str)(r:PTA):PTS:=λR γ=>r γ (λf=>f.length<=1000/\R.ex γ x) (R.ex γ)
def TVs.len:∀{ss}{vs:List V},TVs K Z H0 H H' ss vs->vs.length=ss.length:=by
 intro ss
 induction ss with
 |nil=>
  intro _ h;cases h
  rfl
 |cons _ _ f=>
  intro _ h;cases h with
  |cons h r=>
   exact Q2 (· + 1) (f r)
def Zis{l r g}(w:X6 K mg (λ_=>g) l r)(hx:autoParam (SC x=none) au_0):Xy K mg (λ_=>g) (ExcR.GC (ExcR.Xp mg x) g l) (Ov x r):=by
 intro H0 B H σ γ R D C f h e;refine w H0 B H σ γ _ _ _ f h (λA z H1 n o v=>⟨?_,?_⟩) λc H' y s=>e.ex σ γ c H' y (f.grow s) (Fr.grow s)
 ·rw[v.len];exact AL n.1
 ·exact(e.ex σ γ x H1 n.2 (f.grow o)<|Fr.grow o).plain hx
def Zrw(i j:Nat)(γ:Γ)(R:Γ->Prop):List S->Prop
 |[.sh d,.sh e]=>R ((γ.set i<|some<|.sh d).set j (some<|.sh e))
 |_=>False
noncomputable def clr:Yb->Γ->Γ
 |[],γ=>γ
 |i::r,γ=>clr r (γ.set i none)
theorem Xn.clr:∀f {γ:Γ},Xn K H0 B H σ γ->Xn K H0 B H σ (clr f γ)/\Fr B H σ γ H σ (Pu.clr f γ)
 |[],_,e=>⟨e,Fr.refl⟩
 |i::r,γ,e=>by
  obtain⟨l,f1⟩:=e.drop i;obtain⟨h,g⟩:=Xn.clr r l;exact⟨h,f1.trans g⟩
def Later(H0:Hp)(Z:Addr->Prop)(H1:Hp)(Z':Addr->Prop)(H':Hp):Prop:=Same H0 H'/\(∀b,Z' b->Mut (H' b))/\∀b o,H1 b=some o->¬Z b->H' b=some o/\¬Z' b
def Later.of (e:Xn K H0 B H' g h) (f:Fr B H1 σ γ H' g h):Later H0 (zof B γ σ) H1 (zof B h g) H':=⟨e.same,e.zm,f⟩
def Later.off (l:Later H0 Z H1 Z' H'):Same (off Z H1) (Pu.off Z' H'):=λb o h=>by
 obtain⟨r,n⟩:=PX h;obtain⟨g,f⟩:=l.2.2 b o r n;exact XQ g f
structure Iw (K:ZU) (H0:Hp) (B:Addr->Prop) (H1:Hp) (σ:L2.St) (γ:Γ) (J:It) (n:Nat) (item:Nat->S):Prop where
 go:∀(i:Nat) (H':Hp) (Z':Addr->Prop),i<n->Later H0 (zof B γ σ) H1 Z' H'->J.go i H'/\∀x H'',J.yld i H' x H''->Same H' H''/\TV K Z' H0 H' H'' (item i) x
 stop:∀(H':Hp) (Z':Addr->Prop),Later H0 (zof B γ σ) H1 Z' H'->J.stop n H'
abbrev PTI:=Γ->(Nat->(Nat->S)->Prop)->XR->Prop
def SndI(K:ZU)(mg:ZY)(E:L2.St->XK)(f:TI)(g:PTI):Prop:=∀(H0:Hp) (B:Addr->Prop) (H:Hp) (σ:L2.St) (γ:Γ) (R:Nat->(Nat->S)->Prop) (X:XR) (Q:It->Hp->Prop),Xn K H0 B H σ γ->g γ R X->
 (∀n item J H1,R n item->Same H H1->Iw K H0 B H1 σ γ J n item->Q J H1)->(∀c H',X c->Same H H'->XE mg (E σ) c H')->f σ H Q
structure E1 (js:Yb) (γ:Γ) (g:PTG) (body:PTS) (R:Nn) (n:Nat) (item:Nat->S):Prop where
 w:∃inv:Nat->Γ->Prop,inv 0 (clr js γ)/\
 (∀i γ',i<n->inv i γ'->g (item i) γ' λγ2=>body {R with nx:=λγ3=>inv (i+1) (clr js γ3),ct:=λγ3=>inv (i+1) (clr js γ3),bk:=R.nx} γ2)/\∀γ',inv n γ'->R.nx γ'
noncomputable def G6(f:Yb)(h:PTI)(g:PTG)(body:PTS):PTS:=λR γ=>h γ (λn item=>E1 f γ g body R n item) (R.ex γ)
def Zo5{wi g it pg}(M:Yb)(hi:SndI K mg E wi it)(hg:Nl K is g pg)(hb:Xy K mg E t p):Xy K mg E (OY wi g t) (G6 M it pg p):=by
 intro H0 B H σ γ R D hB Q h e;refine hi H0 B H σ γ _ _ _ Q h (λn item J H1 h1 S1 ok=>?_) λc H' hc S'=>e.ex σ γ c H' hc (Q.grow S') (Fr.grow S');obtain⟨Y,h0,hs,hd⟩:=h1.w;have L:=Q.grow S1;refine⟨λi m z H'=>m=n-i/\i<=n/\∃f,Y i f/\Xn K H0 B H' z f/\Fr B H1 σ γ H' z f,⟨n,by simp,QU _,_,h0,(L.clr M).1,(L.clr M).2⟩,?_⟩;rintro i m z H' ⟨rfl,hin,f,hi',e',f'⟩;by_cases N:i<n
 ·obtain⟨go,yl⟩:=ok.go i H' _ N (Later.of e' f');refine .inr ⟨go,λs H2=>∃r,Y (i+1) r/\Xn K H0 B H2 s r/\Fr B H1 σ γ H2 s r,λs H2 ⟨r,a1,a2,a3⟩=>⟨n-(i+1),by lia,rfl,N,r,a1,a2,a3⟩,λx U y=>?_⟩;obtain⟨S2,tv⟩:=yl x U y;refine hg H0 B H' U z f _ _ _ _ e' S2 tv (hs i f N hi') λs r q2 e2 f2 _=>?_;have fall:=f'.trans f2;refine hb H0 B U s r _ _ hB e2 q2 ⟨λl o T C A G=>?_,e.rt,λl o c T C A G=>e.ex l o c T C A ((Fr.grow S1).trans (fall.trans G)),λl o T C A G=>e.nx l o T C A ((Fr.grow S1).trans (fall.trans G)),λl o T C A G=>?_,λl o d v T C A G=>e.rv l o d v T C A ((Fr.grow S1).trans (fall.trans G))⟩
  ·exact⟨_,C,(A.clr M).1,(fall.trans G).trans (A.clr M).2⟩
  ·exact⟨_,C,(A.clr M).1,(fall.trans G).trans (A.clr M).2⟩
 ·have:i=n:=by lia
  subst this;exact .inl ⟨ok.stop H' _ (Later.of e' f'),e.nx z f H' (hd f hi') e' ((Fr.grow S1).trans f')⟩
noncomputable def S.fix:S->Bool
 | .bor _=>true | .sh _=>true | .own (.nsl _ _)=>false | .own _=>true|_=>false
noncomputable def pIL(a:PTE):PTI:=λγ R X=>a γ (λs=>match s.d with
 | .lst g=>s.fix=true/\R g.length λi=>s.sub (g.getD i .non)
 | .scr f=>s.fix=true/\R f.length λi=>.sh (.int<|f.getD i 0)
 |_=>False) X
def TV.last (env:Xn K H0 B H σ γ) (J:Same H H1) (f:TV K (zof B γ σ) H0 H H1 s v) (A:s.fix=true) (hd:s.d=.lst ds):∃l vs,v=.ref l/\vs.length=ds.length/\
  ∀H' Z',Later H0 (zof B γ σ) H1 Z' H'->H' l=some (.lst vs)/\∀(i:Nat) d,ds[i]?=some d->∃u,vs[i]?=some u/\TV K Z' H0 H' H' (s.sub d) u:=by
 have g:∀{s:S},(∀d,s.sub d=.sh d)->Rp K (Pu.off (zof B γ σ) H1) (.lst ds) v->∃l vs,v=.ref l/\vs.length=ds.length/\
   ∀H' Z',Later H0 (zof B γ σ) H1 Z' H'->H' l=some (.lst vs)/\∀i d,ds[i]?=some d->∃u,vs[i]?=some u/\TV K Z' H0 H' H' (s.sub d) u:=λL h=>by
  obtain⟨l,vs,rfl,y,n⟩:=Rp.lst_inv h;refine⟨l,vs,rfl,n.len,λH' Z' lt=>⟨off_sub _ _ (lt.off _ _ y),λi d o=>?_⟩⟩;obtain⟨u,w,r⟩:=n.get o;refine⟨u,w,?_⟩;rw[L];exact Rp.mono lt.off r
 cases s with
 |bor d=>
  have f:=Rp.strip f;rw[show d.strip=.lst ds from hd]at f
  obtain⟨l,vs,rfl,y,n⟩:=Rp.lst_inv f;refine⟨l,vs,rfl,n.len,λH' Z' lt=>⟨lt.1 _ _ y,λi d o=>?_⟩⟩;obtain⟨u,w,r⟩:=n.get o;exact⟨u,w,Sx lt.2.1 lt.1 r⟩
 |sh d=>
  have:=hd
  subst this;exact g (λ_=>rfl) f
 |own z=>
  cases z with
  |dK z|dT z|ins x C xs G|nst G=>cases hd
  |nsl a G=>cases A
  |_=>
   cases hd
   exact g (λ_=>rfl) (f.shd (env.grow J).same env.zm J rfl)
 |_=>cases A
def Zqf(ha:Xj K mg E te a):SndI K mg E (Ab K te) (pIL a):=by
 intro H0 B H σ γ R X Q n h q qx;refine ha H0 B H σ γ _ X _ n h (λs v H1 r M o=>?_) qx;have f:=n.grow M;split at r
 ·rename_i Y C;obtain⟨l,G,rfl,hn,g⟩:=o.last n M r.1 C;obtain⟨N,_⟩:=g H1 _ (Later.of f Fr.refl);refine⟨l,rfl,⟨G,SqL.of N⟩,q _ _ _ H1 r.2 M ⟨λi H' Z' L lt=>?_,λH' Z' lt=>?_⟩⟩
  ·obtain⟨w,k2⟩:=g H' Z' lt;have hd:Y[i]?=some (Y.getD i .non):=by rw[WC,W8 L];rfl
   obtain⟨u,z,tu⟩:=k2 i _ hd;refine⟨⟨G,u,SqL.of w,z⟩,λx T y=>?_⟩;obtain⟨rfl,y⟩:=y
   have:=y G (SqL.of w)
   rw[z]at this;cases this
   exact⟨Same.refl _,tu⟩
  ·exact⟨G,SqL.of (g H' Z' lt).1,by lia⟩
 ·rename_i J C
  have A:∃l,v=.ref l/\∀H' Z',Later H0 (zof B γ σ) H1 Z' H'->SqL K H' l (J.map V.int):=by
   cases s with
   |bor d=>
    have o:=Rp.strip o;rw[show d.strip=.scr J from C]at o
    cases o with
    |scr A=>exact⟨_,rfl,λH' Z' lt=>lt.1.seq A⟩
   |sh d=>
    have:=C
    subst this;cases o with
    |scr A=>exact⟨_,rfl,λH' Z' lt=>off_sub.seq (lt.off.seq A)⟩
   |own U|view U=>cases U<;>cases C
   |tmp d=>cases r.1
  obtain⟨l,rfl,g⟩:=A;refine⟨l,rfl,⟨_,g H1 _ (Later.of f Fr.refl)⟩,q _ _ _ H1 r.2 M ⟨λi H' Z' L lt=>?_,λH' Z' lt=>?_⟩⟩
  ·have w:=g H' Z' lt
   have z:(J.map V.int)[i]?=some (.int<|J.getD i 0):=by
    rw[WL,W8 L,WC,W8 L];rfl
   refine⟨⟨_,_,w,z⟩,λx T y=>?_⟩;obtain⟨rfl,y⟩:=y
   have:=y _ w
   rw[z]at this;cases this
   exact⟨Same.refl _,.int _⟩
  ·exact⟨_,g H' Z' lt,by rw[W6];exact WI _⟩
 ·exact r.elim
def fR1(R:Nat->(Nat->S)->Prop):List D->Prop
 |[.int j]=>(-(2 ^ 62)<=j/\j<2 ^ 62)/\R j.toNat λi=>.sh (.int (0+(i:Int)))
 |_=>False
def fR2(R:Nat->(Nat->S)->Prop):List D->Prop
 |[.int i,.int j]=>(-(2 ^ 62)<=i/\i<2 ^ 62/\-(2 ^ 62)<=j/\j<2 ^ 62)/\R (j-i).toNat λk=>.sh (.int (i+(k:Int)))
 |_=>False
noncomputable def ME(r:PTA):PTI:=λγ R X=>r γ (λf=>fR1 R (f.map S.d)) X
noncomputable def M8(r:PTA):PTI:=λγ R X=>r γ (λf=>fR2 R (f.map S.d)) X
def Rps.one_inv (h:Rps K H [d] vs):∃v,vs=[v]/\Rp K H d v:=by
 cases h with
 |cons h r=>cases r;exact⟨_,rfl,h⟩
def Rps.two_inv (h:Rps K H [d,e] vs):∃v u,vs=[v,u]/\Rp K H d v/\Rp K H e u:=by
 cases h with
 |cons h r=>cases r with|cons f r=>cases r;exact⟨_,_,rfl,h,f⟩
def IT{lo n}:Iw K H0 B H1 σ γ (Itr lo n) n λi=>.sh (.int (lo+(i:Int))):=by
 refine⟨λi H' Z' f lt=>⟨f,λx g y=>?_⟩,λH' Z' lt=>WI _⟩;obtain⟨e,y⟩:=y;subst e y;exact⟨Same.refl _,.int _⟩
def AY(y:X6 K mg E o r):SndI K mg E (Ly o) (ME r):=by
 intro H0 B H σ γ R X Q g h q x;refine y H0 B H σ γ _ X _ g h (λC A H1 f n s=>?_) x;have l:=s.rps (g.grow n).same;unfold fR1 at f;split at f
 ·rename_i j z;rw[z]at l;obtain⟨v,rfl,w⟩:=l.one_inv;rw[w.int_inv];exact⟨j,rfl,f.1.1,f.1.2,q _ _ _ H1 f.2 n IT⟩
 ·grind
def Zqw(z:X6 K mg E o r):SndI K mg E (RE o) (M8 r):=by
 intro H0 B H σ γ R X Q f h q y;refine z H0 B H σ γ _ X _ f h (λG C H1 g n s=>?_) y;have l:=s.rps (f.grow n).same;unfold fR2 at g;split at g
 ·rename_i i j A;rw[A]at l;obtain⟨v,u,rfl,x,w⟩:=l.two_inv;rw[x.int_inv,w.int_inv];exact⟨i,j,rfl,g.1,q _ _ _ H1 g.2 n IT⟩
 ·grind
structure Lz (js:Yb) (γ:Γ) (c:PTT) (body:PTS) (R:Nn):Prop where
 w:∃(inv:Γ->Prop) (μ:Γ->Nat),inv (clr js γ)/\∀γ',inv γ'->c γ' (λb=>if b=true then
  body {R with nx:=λγ3=>inv (clr js γ3)/\μ (clr js γ3)<μ γ',ct:=λγ3=>inv (clr js γ3)/\μ (clr js γ3)<μ γ',bk:=R.nx} γ' else R.nx γ') (R.ex γ')
noncomputable def GY(f:Yb)(c:PTT)(body:PTS):PTS:=λR γ=>Lz f γ c body R
def Zm6(z:Yb)(L:KA K mg E tt c)(hb:Xy K mg E t p):Xy K mg E (MX tt t) (GY z c p):=by
 intro H0 B H σ γ R D hB G h e;obtain⟨C,J,h0,hs⟩:=h.w;refine⟨λm l H'=>∃f,m=J f/\C f/\Xn K H0 B H' l f/\Fr B H σ γ H' l f,⟨_,_,rfl,h0,(G.clr z).1,(G.clr z).2⟩,?_⟩;rintro m l H' ⟨f,rfl,hi,M,U⟩;refine L H0 B H' l f _ _ _ M (hs f hi) (λb H1 T S1=>?_) λc Q L S'=>e.ex l f c Q L (M.grow S') (U.trans<|Fr.grow S');have Y:=M.grow S1;have f1:=U.trans (Fr.grow S1);cases b with
 |false=>
  exact e.nx l f H1 T Y f1
 |true=>
  refine⟨λy N=>∃o,J o<J f/\C o/\Xn K H0 B N y o/\Fr B H σ γ N y o,λy N ⟨o,k,a1,a2,a3⟩=>⟨_,k,o,rfl,a1,a2,a3⟩,?_⟩;refine hb H0 B H1 l f _ _ hB Y T ⟨λg n A r s x=>?_,e.rt,λg n c A r s x=>e.ex g n c A r s (f1.trans x),λg n A r s x=>e.nx g n A r s (f1.trans x),λg n A r s x=>?_,λg n d v A r s x=>e.rv g n d v A r s (f1.trans x)⟩
  ·exact⟨_,r.2,r.1,(s.clr z).1,(f1.trans x).trans (s.clr z).2⟩
  ·exact⟨_,r.2,r.1,(s.clr z).1,(f1.trans x).trans (s.clr z).2⟩
end
section
variable {K:ZU}{mg:ZY}{E:L2.St->XK}{H0 H H1 H':Hp}{B Z Z':Addr->Prop}{σ:L2.St}{γ:Γ}
noncomputable def Tv(N:Yd)(ds:List D):Γ:=ds.map (λd=>some (arg d))++List.replicate (N.length-ds.length) none
def Zje{ds vs}(r:Rps K H ds vs)(w:ds.length<=N.length):Xn K H (λb=>Mut (H b)) H (start N vs) (Tv N ds):=by
 have get:∀i s,(Tv N ds)[i]?=some (some s)->∃d,ds[i]?=some d/\s=arg d:=λi s h=>by
  unfold Tv at h;by_cases g:i<ds.length
  ·rw[Qj (by rw[W6];exact g),WL,W8 g]at h;exact⟨_,W8 g,(WR<|WR h).symm⟩
  ·rw[Qu (by rw[W6];lia),V6]at h;split at h<;>cases h
 have noown:∀(i:Nat) f,(Tv N ds)[i]?≠some (some<|.own f):=λi f h=>by
  obtain⟨d,_,e⟩:=get i _ h;rcases Cu d with q|q<;>rw[q]at e<;>cases e
 refine⟨Same.refl _,?_,λb h=>h,λi j a x f u b h=>absurd h (noown i f),λi s h=>?_⟩
 ·unfold L2.start Tv;simp[r.len]
 ·obtain⟨d,hd,rfl⟩:=get i s h;obtain⟨v,n,o⟩:=r.get hd;refine⟨v,?_,?_⟩
  ·unfold L2.start;rw[Qj (by rw[W6];exact(WT.mp n).1),WL,n];rfl
  ·have l:=Sx (Z:=zof (λb=>Mut (H b)) (Tv N ds) (start N vs)) (H:=H) (λb z=>z.elim id λ⟨k,f,_,p,_⟩=>absurd p (noown k f)) (Same.refl _) o;rcases Cu d with q|q<;>rw[q]at l ⊢<;>exact l
def Zaq{t p vs Q y n}(h:Xq mg c K vs H Q y)(o:Xy K mg (λ_=>y) t p)(L:n<=N.length)(u:∀ds R X,c ds R X->ds.length=n/\p {nx:=λ_=>R (.sh .non),rt:=R,ex:=λ_ e=>X e} (Tv N ds)):t {nx:=λ_ H'=>Q .non H',rt:=Q} (start N vs) H:=by
 obtain⟨ds,R,X,r,C,x,G⟩:=h;obtain⟨e,u⟩:=u ds R X C;refine o H (λb=>Mut (H b)) H _ _ _ _ (λb z=>T6 z) (Zje r<|by lia) u ⟨λg l H' f w f1=>x _ _ H' f w.same .non,λs v H' f J A=>x s v H' f J A,λg l c H' f w f1=>G c H' f w.same,λ_ _ _ z=>z.elim,λ_ _ _ z=>z.elim,λ_ _ _ _ _ z=>z.elim⟩
def Zb2(h:Xq mg c K vs H Q l)(f:∀ds R X,c ds R X->ds.length=n):vs.length=n:=by
 obtain⟨ds,R,X,r,g,_⟩:=h;rw[r.len]
 grind
noncomputable def atP(φ:Ya)(γ:Γ):Γ:=φ.map λo=>o.bind λj=>(γ[j]?).join
structure Ei (φ:Ya) (γ:Γ) (g:PTG) (c:PTT) (e:PTE) (n:Nat) (item:Nat->S) (R:S->Prop):Prop where
 w:n<=100000/\∃f:Nat->Option D,(∀i,i<n->g (item i) (atP φ γ) λγ2=>c γ2 (λb=>if b=true then e γ2 (λs=>∃d,s.shd=some d/\f i=some d) (λ_=>False)else f i=none) (λ_=>False))/\R (.own ((List.range n).filterMap f))
noncomputable def CP(φ:Ya)(f:PTI)(g:PTG)(c:PTT)(e:PTE):PTE:=λγ R X=>f γ (λn item=>Ei φ γ g c e n item R) X
def FV{i:Nat}{s}(h:(atP φ γ)[i]?=some (some s)):∃j,φ[i]?=some (some j)/\γ[j]?=some (some s):=by
 unfold atP at h;cases e:φ[i]? with
 |none=>grind
 |some o=>
  cases o with
  |_=>grind
theorem Ck:∀{φ:Ya},(φ.filterMap id).Nodup->∀(i j k:Nat),φ[i]?=some (some k)->φ[j]?=some (some k)->i=j
 |[],_,i,_,_,h,_=>by simp at h
 |none::r,n,i,j,k,g,f=>by
  cases i with
  |zero=>simp at g
  |succ i=>
   cases j with
   |zero=>simp at f
   |succ j=>exact Q2 (· + 1) (Ck (by simpa using n) i j k (by simpa using g)<|by simpa using f)
 |some m::r,n,i,j,k,g,f=>by
  have l:m∉r.filterMap id/\(r.filterMap id).Nodup:=by simpa using n
  have mem:∀{j:Nat},r[j]?=some (some k)->k∈r.filterMap id:=λh=>JN.mpr ⟨some k,WZ h,rfl⟩;cases i with
  |zero=>
   cases j with
   |zero=>rfl
   |succ j=>simp_all
  |succ i=>
   cases j with
   |zero=>simp_all
   |succ j=>exact Q2 (· + 1) (Ck l.2 i j k (by simpa using g)<|by simpa using f)
def FU{i j:Nat}(g:φ[i]?=some (some j)){v}(f:σ[j]?=some (some v)):(atStart φ σ)[i]?=some (some v):=by
 unfold atStart
 grind
def Zaf{L}(env:Xn K H0 B H σ γ)(s:H L=none):∀b o,H b=some o->¬zof B γ σ b->¬zof (λb=>zof B γ σ b\/b=L) (atP φ γ) (atStart φ σ) b:=λb o v z y=>by
 rcases y with(y|y)|⟨u,r,x,n,f,l⟩
 ·grind
 ·grind
 ·obtain⟨m,p,h⟩:=FV n;obtain⟨w,g,_⟩:=env.slot m _ h;rw[FU p g]at f;exact z (.inr ⟨m,r,x,h,by rw[g];exact Q2 some (WR f),l⟩)
def Zcw{L}(env:Xn K H0 B H σ γ)(n:Same H H')(M:H L=none)(N:∃ys,H' L=some (.lst ys))(r:(φ.filterMap id).Nodup) :
  Xn K H0 (λb=>zof B γ σ b\/b=L) H' (atStart φ σ) (atP φ γ):=by
 refine⟨env.same.trans n,by unfold atStart atP;simp,λb z=>?_,λi j a a' G es b h1 Y U C T Q=>?_,λi s h=>?_⟩
 ·rcases z with z|rfl
  ·exact Te n (env.zm b z)
  ·obtain⟨ys,e⟩:=N;rw[e];trivial
 ·obtain⟨k,g,f⟩:=FV h1;obtain⟨l,A,y⟩:=FV Y;obtain⟨v,p,_⟩:=env.slot k _ f;obtain⟨u,w,_⟩:=env.slot l _ y;rw[FU g p]at U;rw[FU A w]at C
  have:=env.own k l a a' G es b f y (by grind) (by rw[w];exact Q2 some (WR C)) T Q
  subst this;exact Ck r i j k g A
 ·obtain⟨k,g,f⟩:=FV h;obtain⟨v,p,o⟩:=env.slot k _ f;have J:Same (off (zof B γ σ) H) (off (zof (λb=>zof B γ σ b\/b=L) (atP φ γ)<|atStart φ σ) H'):=Xx n (Zaf env M);refine⟨v,FU g p,?_⟩;cases s with
  |sh d=>exact Rp.mono J o
  |own G=>
   obtain⟨a,e1,e3,e4⟩:=o;exact⟨a,e1,e3,e4.mono J λb _ x=>n b x⟩
  |_=>exact o
def Sub.of {g:Yb} (h:f.length=σ.length) (n:∀j,j∉g->f[j]?=σ[j]?) (o:∀j∈g,∀v,σ[j]?≠some (some v)):Sub σ f:=⟨h,λi v e=>by
 by_cases l:i∈g
 ·grind
 ·rw[n i l];exact e⟩
structure Zap (K:ZU) (H0:Hp) (B:Addr->Prop) (H1:Hp) (σ:L2.St) (γ:Γ) (J:It) (n:Nat) (item:Nat->S):Prop where
 go:∀(i:Nat) (H':Hp) (Z':Addr->Prop),i<n->Same H1 H'->Later H0 (zof B γ σ) H1 Z' H'->J.go i H'/\∀x H'',J.yld i H' x H''->Same H' H''/\TV K Z' H0 H' H'' (item i) x
 stop:∀(H':Hp) (Z':Addr->Prop),Same H1 H'->Later H0 (zof B γ σ) H1 Z' H'->J.stop n H'
def SD(K:ZU)(mg:ZY)(E:L2.St->XK)(f:TI)(g:PTI):Prop:=∀(H0:Hp) (B:Addr->Prop) (H:Hp) (σ:L2.St) (γ:Γ) (R:Nat->(Nat->S)->Prop) (X:XR) (Q:It->Hp->Prop),Xn K H0 B H σ γ->g γ R X->
 (∀n item J H1,R n item->Same H H1->Zap K H0 B H1 σ γ J n item->Q J H1)->(∀c H',X c->Same H H'->XE mg (E σ) c H')->f σ H Q
def SndI.c (h:SndI K mg E g o):SD K mg E g o:=λH0 B H σ γ R X Q f p q l=>
 h H0 B H σ γ R X Q f p (λn item J H1 s u ok=>q n item J H1 s u ⟨λi H' Z' r _ lt=>ok.go i H' Z' r lt,λH' Z' _ lt=>ok.stop H' Z' lt⟩) l
noncomputable def Lr(a:PTE):PTI:=λγ R X=>a γ (λs=>match s.d with
 | .lst f=>R f.length λi=>s.sub (f.getD i .non)
 | .tup f=>False
 | .scr g=>R g.length λi=>.sh (.int<|g.getD i 0)
 |_=>False) X
def Nx(ha:Xj K mg E te a):SD K mg E (Ab K te) (Lr a):=by
 intro H0 B H σ γ R X Q env h q qx;refine ha H0 B H σ γ _ X _ env h (λs v H1 h1 S1 A=>?_) qx;have M:=env.grow S1;split at h1
 ·rename_i ds G;have U:=A.rp M.same;rw[G]at U;obtain⟨l,T,rfl,f,r1⟩:=U.lst_inv;refine⟨l,rfl,⟨T,SqL.of f⟩,q _ _ _ H1 h1 S1 ⟨λi H' Z' hi J lt=>?_,λH' Z' J lt=>⟨T,SqL.of (J _ _ f),by rw[r1.len];exact WI _⟩⟩⟩;have hd:ds[i]?=some (ds.getD i .non):=by rw[WC,W8 hi];rfl
  have hi':∃u,T[i]?=some u/\TV K Z' H0 H' H' (s.sub<|ds.getD i .non) u:=by
   cases s with
   |bor d=>
    have A:=Rp.strip A;rw[show d.strip=.lst ds from G]at A
    obtain⟨N,o,w,r,p⟩:=Rp.lst_inv A;cases w
    rw[M.same _ _ r]at f;cases f
    obtain⟨u,n,g⟩:=p.get hd;exact⟨u,n,Sx lt.2.1 lt.1 g⟩
   |sh d=>
    have:=G
    subst this;obtain⟨N,o,w,r,p⟩:=Rp.lst_inv A;cases w
    rw[off_sub _ _ r]at f;cases f
    obtain⟨u,n,g⟩:=p.get hd;exact⟨u,n,Rp.mono lt.off g⟩
   |own L=>
    cases L with
    |dK L|dT L|ins x C xs cs|nst cs=>cases G
    |nsl x cs=>
     obtain⟨u,n,g⟩:=r1.get hd;exact⟨u,n,Td lt.2.1 (Rp.mono J g)⟩
    |lsA x L=>
     cases G
     obtain⟨N,w,h0,_,o,r,p⟩:=A;cases w
     rw[r]at f;cases f
     obtain⟨u,n,g⟩:=p.get hd;exact⟨u,n,Rp.mono lt.off (Rp.mono (Xx (Same.refl _) λb _ _ z y=>z (.inl y)) g)⟩
    |lst L=>
    cases G
    obtain⟨N,w,h0,o,r,p⟩:=A;cases w
    rw[r]at f;cases f
    obtain⟨u,n,g⟩:=p.get hd;exact⟨u,n,Rp.mono lt.off (Rp.mono (Xx (Same.refl _) λb _ _ z y=>z (.inl y)) g)⟩
   |view L=>
    cases L with
    |dK L|dT L|ins x C xs cs|nst cs=>cases G
    |nsl x cs=>
     obtain⟨u,n,g⟩:=r1.get hd;exact⟨u,n,Td lt.2.1 (Rp.mono J g)⟩
    |lsA x L=>
     cases G
     obtain⟨N,w,_,o,r,p⟩:=A;cases w
     rw[r]at f;cases f
     obtain⟨u,n,g⟩:=p.get hd;exact⟨u,n,Rp.mono lt.off g⟩
    |lst L=>
    cases G
    obtain⟨N,w,o,r,p⟩:=A;cases w
    rw[r]at f;cases f
    obtain⟨u,n,g⟩:=p.get hd;exact⟨u,n,Rp.mono lt.off g⟩
   |tmp d=>
    have:=G
    subst this;obtain⟨N,o,w,r,p⟩:=Rp.lst_inv A;cases w
    rw[r]at f;cases f
    obtain⟨u,n,g⟩:=p.get hd;exact⟨u,n,Td lt.2.1 (Rp.mono J g)⟩
  obtain⟨u,Y,tu⟩:=hi';refine⟨⟨T,u,SqL.of (J _ _ f),Y⟩,λx H'' y=>?_⟩;obtain⟨rfl,y⟩:=y
  have:=y T (SqL.of<|J _ _ f)
  rw[Y]at this;cases this
  exact⟨Same.refl _,tu⟩
 ·exact h1.elim
 ·rename_i ns G;have U:=A.rp M.same;rw[G]at U;cases U with
  |scr hs=>
   refine⟨_,rfl,⟨_,hs⟩,q _ _ _ H1 h1 S1 ⟨λi H' Z' hi J lt=>?_,λH' Z' J lt=>⟨_,J.seq hs,by rw[W6];exact WI _⟩⟩⟩
   have Y:(ns.map V.int)[i]?=some (.int<|ns.getD i 0):=by
    rw[WL,W8 hi,WC,W8 hi];rfl
   refine⟨⟨_,_,J.seq hs,Y⟩,λx H'' y=>?_⟩;obtain⟨rfl,y⟩:=y
   have:=y _ (J.seq hs)
   rw[Y]at this;cases this
   exact⟨Same.refl _,.int _⟩
 ·exact h1.elim
def P5{φ is wi g tc te it pg c a}(hi:SD K mg E wi it)(hg:Nl K is g pg)(hc:KA K mg E tc c)(he:Xj K mg E te a)(h1:autoParam ((φ.filterMap id).Nodup) au_1)(h2:autoParam (∀j∈is,φ[j]?=some none) au_1):Xj K mg E (SO φ wi g tc te) (CP φ it pg c a):=by
 intro H0 B H σ γ R X Q env h q qx;refine hi H0 B H σ γ _ X _ env h (λn item J H1 h1' S1 ok=>?_) qx;obtain⟨hn,f,hf,hR⟩:=h1'.w;have l:=env.grow S1;have hbig:n<=sizeLine:=WK hn (by decide);intro L U;refine⟨λi m G C=>m=n-i/\i<=n/\Same H1 C/\C L=some (.lst G)/\Rps K (off (λb=>zof B γ σ b\/b=L) C) ((List.range i).filterMap f) G,⟨n,by simp,QU _,XU U,X5,.nil⟩,?_⟩;rintro i m G C ⟨rfl,hin,u,hL,p⟩;have A:=l.grow u;by_cases r:i<n
 ·have envI2:=Zcw l u U ⟨G,hL⟩ h1;obtain⟨go,yl⟩:=ok.go i C _ r u ⟨A.same,envI2.zm,λb o Y z=>⟨u _ _ Y,Zaf l U b o Y z⟩⟩;refine .inr ⟨go,λx H3 y=>?_⟩;obtain⟨S3,tv⟩:=yl x H3 y;refine hg H0 _ C H3 _ _ _ _ _ _ envI2 S3 tv (hf i r) λN T p2 e2 f2 k2=>⟨?_,?_⟩
  ·refine Sub.of k2.2 k2.1 λj hj v z=>?_;obtain⟨k,k1,_⟩:=Gv z;rw[h2 j hj]at k1;cases k1
  ·refine hc H0 _ H3 N T _ _ _ e2 p2 (λb H5 q5 S5=>?_) λ_ _ z=>z.elim;have e5:=e2.grow S5;cases b with
   |false=>
    rw[WG WY]at q5 ⊢;refine⟨n-(i+1),by lia,rfl,r,(u.trans S3).trans S5,(S3.trans S5) _ _ hL,?_⟩;rw[List.range_succ,VH];simp only[Vg,q5,List.filterMap_nil,Qv];exact Rps.mono (Xx (S3.trans S5) λ_ _ _ z=>z) p
   |true=>
    refine he H0 _ H5 N T _ _ _ e5 q5 (λs v H6 q6 S6 t6=>?_) λ_ _ z=>z.elim;obtain⟨d,hd,hfd⟩:=q6;have M:=(S3.trans S5).trans S6
    have hlen:G.length<=i:=by
     rw[p.len];exact WK (List.length_filterMap_le _ _) (by rw[Jo];exact WI _)
    refine⟨M _ _ hL,by lia,n-(i+1),by lia,rfl,r,λb o Y=>?_,X5,?_⟩
    ·rw[Xs (K8 Y U)];exact M _ _ (u _ _ Y)
    ·rw[List.range_succ,VH];have ef:[i].filterMap f=[d]:=by simp[hfd]
     rw[ef]
     have So:Same (off (λb=>zof B γ σ b\/b=L) H6) (off (λb=>zof B γ σ b\/b=L)<|upd H6 L<|.lst (G++[v])):=λb o h=>by
      obtain⟨a1,a2⟩:=PX h;refine XQ ?_ a2;rwa[Xs λz=>a2 (.inr z)]
     refine Rps.append (Rps.mono So<|Rps.mono (Xx M λ_ _ _ z=>z) p) (.cons (Rp.mono So<|Rp.mono (Xx (Same.refl _) λb _ _ z y=>z (.inl y)) (t6.shd (e5.grow S6).same e5.zm S6 hd)) .nil)
 ·have:i=n:=by lia
  subst this;exact .inl ⟨ok.stop C _ u (Later.of A<|Fr.grow u),q _ _ C hR (S1.trans u) ⟨L,rfl,(λ_ e=>e▸S1.free U),G,hL,p⟩⟩
noncomputable def RJ:PTT:=λ_ R _=>R true
def NR:KA K mg E RV RJ:=λ_ _ H _ _ _ _ _ _ p q _=>q _ H p (Same.refl _)
def Zol{g h:Type}(xs:List g)(f:g->Option h):(List.range xs.length).filterMap (λi=>(xs[i]?).bind f)=xs.filterMap f:=by
 induction xs with
 |nil=>rfl
 |cons x r l=>
  rw[WV,List.range_succ_eq_map,Vg,List.filterMap_map,Vg];have e:(λi=>((x::r)[i]?).bind f)∘Nat.succ=λi=>(r[i]?).bind f:=rfl;rw[e,l];rfl
end
open M
section
variable {K:ZU}{mg:ZY}{E:L2.St->XK}{H0 H H1 H':Hp}{B Z Z':Addr->Prop}{σ:L2.St}{γ:Γ}
noncomputable def pCB(f:List S->(S->Prop)->Prop)(r:PTA):PTE:=λγ R X=>r γ (λg=>f g R) X
def PL{f o r}(A:X6 K mg E o r)(h:∀H0 H H1 Z l vs R Q,Same H0 H1->Same H H1->(∀b,Z b->Mut (H b))->TVs K Z H0 H H1 l vs->f l R->(∀s z H',R s->Same H1 H'->TV K Z H0 H H' s z->Q z H')->w vs H1 Q) :
  Xj K mg E (tCB w o) (pCB f r):=by
 intro H0 B H σ γ R X Q g p q x;refine A H0 B H σ γ _ X _ g p (λl vs H1 C n v=>?_) x;exact h H0 H H1 _ l vs R Q (g.grow n).same n g.zm v C λs z H' y G u=>q s z H' y (n.trans G) u
noncomputable def S.free:S->List D->Bool
 | .bor _,f=>Py f | .tmp _,f=>Py f | .view (.nst _),f=>Py f | .view (.nsl _ _),f=>Py f|_,_=>true
def TVs.one_inv (h:TVs K Z H0 H H' [s] vs):∃v,vs=[v]/\TV K Z H0 H H' s v:=by
 cases h with
 |cons h r=>cases r;exact⟨_,rfl,h⟩
def TVs.two_inv (h:TVs K Z H0 H H' [s,t] vs):∃v u,vs=[v,u]/\TV K Z H0 H H' s v/\TV K Z H0 H H' t u:=by
 cases h with
 |cons h r=>cases r with|cons f r=>cases r;exact⟨_,_,rfl,h,f⟩
def TV.items (n:Same H0 H') (u:∀b,Z b->Mut (H b)) (C:Same H H') (h:TV K Z H0 H H' s v) (p:s.free ds=true) :
  (s.d=.lst ds->∃a vs,v=.ref a/\H' a=some (.lst vs)/\Rps K (off Z H') ds vs)/\(s.d=.tup ds->∃a vs,v=.ref a/\H' a=some (.tup vs)/\Rps K (off Z H') ds vs):=by
 have g:=λb z=>Te C (u b z);cases s with
 |bor d=>
  have h:=Rp.strip h;refine⟨λe=>?_,λe=>?_⟩<;>rw[show d.strip=_ from e]at h
  ·obtain⟨a,vs,rfl,f,r⟩:=Rp.lst_inv h;exact⟨a,vs,rfl,n _ _ f,Rps.off g (Rps.mono n r) p⟩
  ·obtain⟨a,vs,rfl,f,r⟩:=Rp.tup_inv h;exact⟨a,vs,rfl,n _ _ f,Rps.off g (Rps.mono n r) p⟩
 |sh d=>
  refine⟨λe=>?_,λe=>?_⟩<;>(have w:=e;subst w)
  ·obtain⟨a,vs,rfl,f,r⟩:=Rp.lst_inv h;exact⟨a,vs,rfl,off_sub _ _ f,r⟩
  ·obtain⟨a,vs,rfl,f,r⟩:=Rp.tup_inv h;exact⟨a,vs,rfl,off_sub _ _ f,r⟩
 |own o=>
  cases o with
  |nsl x A=>
   refine⟨λe=>?_,λe=>by cases e⟩;have l:=h.shd n u C rfl;cases e
   obtain⟨a,vs,rfl,f,r⟩:=Rp.lst_inv l;exact⟨a,vs,rfl,off_sub _ _ f,r⟩
  |nst A=>
   refine⟨(λe=>by cases e),λe=>?_⟩;have l:=h.shd n u C rfl;cases e
   obtain⟨a,vs,rfl,f,r⟩:=Rp.tup_inv l;exact⟨a,vs,rfl,off_sub _ _ f,r⟩
  |lst o=>
   refine⟨λe=>?_,λe=>by cases e⟩;cases e
   obtain⟨a,rfl,G,vs,e,r⟩:=h;exact⟨a,vs,rfl,e,Rps.mono (Xx (Same.refl _) λb _ _ z y=>z (.inl y)) r⟩
  |lsA x o=>
   refine⟨λe=>?_,λe=>by cases e⟩;cases e
   obtain⟨a,rfl,G,_,vs,e,r⟩:=h;exact⟨a,vs,rfl,e,Rps.mono (Xx (Same.refl _) λb _ _ z y=>z (.inl y)) r⟩
  |_=>exact⟨(λe=>by cases e),(λe=>by cases e)⟩
 |view o=>
  cases o with
  |nsl x A=>
   refine⟨λe=>?_,λe=>by cases e⟩;have l:=h.rp n;rw[e]at l;obtain⟨a,vs,rfl,f,r⟩:=Rp.lst_inv l;exact⟨a,vs,rfl,f,Rps.off g r p⟩
  |nst A=>
   refine⟨(λe=>by cases e),λe=>?_⟩;have l:=h.rp n;rw[e]at l;obtain⟨a,vs,rfl,f,r⟩:=Rp.tup_inv l;exact⟨a,vs,rfl,f,Rps.off g r p⟩
  |lst o=>
   refine⟨λe=>?_,λe=>by cases e⟩;cases e
   obtain⟨a,rfl,vs,e,r⟩:=h;exact⟨a,vs,rfl,e,r⟩
  |lsA x o=>
   refine⟨λe=>?_,λe=>by cases e⟩;cases e
   obtain⟨a,rfl,_,vs,e,r⟩:=h;exact⟨a,vs,rfl,e,r⟩
  |_=>exact⟨(λe=>by cases e),(λe=>by cases e)⟩
 |tmp d=>
  refine⟨λe=>?_,λe=>?_⟩<;>(have w:=e;subst w)
  ·obtain⟨a,vs,rfl,f,r⟩:=Rp.lst_inv h;exact⟨a,vs,rfl,f,Rps.off g r p⟩
  ·obtain⟨a,vs,rfl,f,r⟩:=Rp.tup_inv h;exact⟨a,vs,rfl,f,Rps.off g r p⟩
def EX:List S->(S->Prop)->Prop
 |[s],R=>(match s.d with
  | .lst g=>R (.sh<|.int g.length) | .tup g=>R (.sh<|.int g.length) | .scr f=>R (.sh<|.int f.length) | .fL f=>R (.sh<|.int f.length) | .str x=>x.length<=sizeLine/\R (.sh<|.int x.length)|_=>False)
 |_,_=>False
def Sm(C:X6 K mg E w r):Xj K mg E (tCB (λxs H Q=>∃x n,xs=[x]/\FZ K x H n/\Q (.int n) H) w) (pCB EX r):=by
 refine PL C λH0 H H1 Z L J R Q z M N u h q=>?_;unfold EX at h;split at h
 ·rename_i s;obtain⟨v,rfl,y⟩:=u.one_inv;have f:=y.rp z;split at h
  ·rename_i G e;rw[e]at f;obtain⟨a,g,rfl,p,l⟩:=f.lst_inv;exact⟨_,_,rfl,.inl ⟨g,SqL.of p,rfl⟩,by rw[l.len];exact q _ _ H1 h (Same.refl _) (.int _)⟩
  ·rename_i G e;rw[e]at f;obtain⟨a,g,rfl,p,l⟩:=f.tup_inv;exact⟨_,_,rfl,.inr ⟨g,SqT.of p,rfl⟩,by rw[l.len];exact q _ _ H1 h (Same.refl _) (.int _)⟩
  ·rename_i A e;rw[e]at f;cases f with
   |scr o=>exact⟨_,_,rfl,.inl ⟨_,o,rfl⟩,by rw[W6];exact q _ _ H1 h (Same.refl _) (.int _)⟩
  ·rename_i A e;rw[e]at f;cases f with
   |fL o=>exact⟨_,_,rfl,.inl ⟨_,.inl (.inr ⟨_,o⟩),rfl⟩,by rw[W6];exact q _ _ H1 h (Same.refl _) (.int _)⟩
  ·rename_i x e;rw[e]at f;rw[f.str_inv];exact⟨_,_,rfl,⟨h.1,rfl⟩,q _ _ H1 h.2 (Same.refl _) (.int _)⟩
  ·exact h.elim
 ·exact h.elim
def Iv:List S->(S->Prop)->Prop
 |[s],R=>(match s.d with
  | .lst f=>s.free f=true/\R (.own f) | .tup f=>s.free f=true/\R (.own f)|_=>False)
 |_,_=>False
def F0(C:X6 K mg E A r):Xj K mg E (tCB (λxs H Q=>∃p ys,xs=[.ref p]/\(SqL K H p ys\/SqT K H p ys)/\∀l,H l=none->Q (.ref l) (upd H l<|.lst ys)) A) (pCB Iv r):=by
 refine PL C λH0 H H1 Z L J R Q x g y z h q=>?_;unfold Iv at h;split at h
 ·rename_i s;obtain⟨v,rfl,w⟩:=z.one_inv;split at h
  ·rename_i G e;obtain⟨a,n,rfl,u,o⟩:=(w.items x y g h.1).1 e;exact⟨a,n,rfl,.inl (SqL.of u),λl f=>q _ _ _ h.2 (XU f) (TM g f o)⟩
  ·rename_i G e;obtain⟨a,n,rfl,u,o⟩:=(w.items x y g h.1).2 e;exact⟨a,n,rfl,.inr (SqT.of u),λl f=>q _ _ _ h.2 (XU f) (TM g f o)⟩
  ·grind
 ·grind
def Oz:List S->(S->Prop)->Prop
 |[s],R=>(match s.d with
  | .lst f=>s.free f=true/\R (.sh<|.tup f) | .tup f=>s.free f=true/\R (.sh<|.tup f)|_=>False)
 |_,_=>False
def HJ(J:X6 K mg E G r):Xj K mg E (tCB (λxs H Q=>∃p ys,xs=[.ref p]/\((SqL K H p ys/\∀l,H l=none->Q (.ref l) (upd H l<|.tup ys))\/(SqT K H p ys/\Q (.ref p) H))) G) (pCB Oz r):=by
 refine PL J λH0 H H1 Z N M R Q A o x C h q=>?_;have f:=λb z=>Te o (x b z);unfold Oz at h;split at h
 ·rename_i s;obtain⟨v,rfl,y⟩:=C.one_inv;split at h
  ·rename_i L e;obtain⟨a,n,rfl,g,u⟩:=(y.items A x o h.1).1 e;refine⟨a,n,rfl,.inl ⟨SqL.of g,λl w=>q _ _ _ h.2 (XU w) (.tup (XQ X5 λz=>?_)<|Rps.mono (Xx (XU w) λ_ _ _ z=>z) u)⟩⟩
   have:=f l z
   rw[w]at this;exact this
  ·rename_i L e;obtain⟨a,n,rfl,g,u⟩:=(y.items A x o h.1).2 e;refine⟨a,n,rfl,.inr ⟨SqT.of g,q _ _ _ h.2 (Same.refl _) (.tup (XQ g λz=>?_) u)⟩⟩
   have:=f a z
   rw[g]at this;exact this
  ·grind
 ·exact h.elim
theorem Rps.ints:∀{f:ZW}{vs:List V},Rps K H (f.map D.int) vs->vs=f.map V.int
 |[],_,.nil=>rfl
 |j::r,_,.cons h t=>by rw[Rp.int_inv h,Rps.ints t];rfl
theorem Rps.of_ints:∀(f:ZW),Rps K H (f.map D.int) (f.map V.int)
 |[]=>.nil
 |j::r=>.cons (.int j) (Rps.of_ints r)
def Gs:List S->(S->Prop)->Prop
 |[s],R=>∃g:ZW,s.d=.lst (g.map D.int)/\g.length<64/\∀f:ZW,f.Perm g->f.Pairwise (·<=·)->R (.own<|f.map D.int)
 |_,_=>False
def Bq{g r}(L:X6 K mg E g r):Xj K mg E (tCB (λxs H Q=>∃p f,xs=[.ref p]/\f.length<64/\(SqL K H p (f.map V.int)\/H p=some (N7 w p f))/\
  ∀l (ns:ZW),H l=none->ns.Perm f->ns.Pairwise (·<=·)->Q (.ref l) (upd H l<|.lst<|ns.map V.int)) g) (pCB Gs r):=by
 refine PL L λH0 H H1 Z U N R Q A z Y x h q=>?_;unfold Gs at h;split at h
 ·rename_i s;obtain⟨v,rfl,y⟩:=x.one_inv;obtain⟨f,e,G,k⟩:=h;have n:=y.rp A;rw[e]at n;obtain⟨a,T,rfl,u,C⟩:=n.lst_inv;rw[C.ints]at u;exact⟨a,f,rfl,G,.inl (SqL.of u),λl ns o M J=>q _ _ _ (k ns M J) (XU o) (TM z o<|Rps.of_ints ns)⟩
 ·grind
def Oc:List S->(S->Prop)->Prop
 |[s,t],R=>(match s.d,t.d with | .int i,.int j=>R (.sh<|.int (if j>i then j else i))|_,_=>False)
 |_,_=>False
def Eh(w:X6 K mg E o r):Xj K mg E (tCB (λxs H Q=>∃i j,xs=[.int i,.int j]/\Q (.int (if j>i then j else i)) H) o) (pCB Oc r):=by
 refine PL w λH0 H H1 Z A z R Q f C G n h q=>?_;unfold Oc at h;split at h
 ·obtain⟨v,u,rfl,s,p⟩:=n.two_inv;have l:=s.rp f;have g:=p.rp f;split at h
  ·rename_i i j y x;rw[y]at l;rw[x]at g;rw[l.int_inv,g.int_inv];exact⟨i,j,rfl,q _ _ H1 h (Same.refl _) (.int _)⟩
  ·grind
 ·grind
def Zry:List S->(S->Prop)->Prop
 |[s],R=>(match s.d with | .int i=>R (.sh<|.int (if i<0 then -i else i))|_=>False)
 |_,_=>False
noncomputable def tyD:D->Option String
 | .int _=>some "int" | .bl _=>some "bool" | .non=>some "NoneType" | .str _=>some "str" | .tup _=>some "tuple" | .lst _=>some "list" | .fL _=>some "list" | .dK _=>some "dict" | .dT _=>some "dict" |_=>none
inductive KB:String->String->Bool->Prop
 |same (n:String):KB n n true
 |ib:KB "int" "bool" false
 |bi:KB "bool" "int" true
 |tl:KB "tuple" "list" false
 |lt:KB "list" "tuple" false
 |it:KB "int" "tuple" false
 |il:KB "int" "list" false
 |bt:KB "bool" "tuple" false
 |bL:KB "bool" "list" false
 |ti:KB "tuple" "int" false
 |li:KB "list" "int" false
 |si:KB "str" "int" false
 |is:KB "int" "str" false
 |ni:KB "NoneType" "int" false
 |nl:KB "NoneType" "list" false
 |nt:KB "NoneType" "tuple" false
def KB.kit (h:KB m n b):PySem.W.kitOne K (.type m) (.type n)=some b:=by
 cases h with
 |same=>exact Zj2 K _
 |_=>rfl
def Hk:List S->(S->Prop)->Prop
 |[s,t],R=>(match tyD s.d,t.d with|some m,.ty n=>∃b,KB m n b/\R (.sh<|.bl b)|_,_=>False)
 |_,_=>False
def Znt(h:Rp K H d v)(e:tyD d=some m):KQ K H v (.type m):=by
 cases h with
 |int i=>cases e;exact .int i
 |bl b=>cases e;exact .bl b
 |non=>cases e;exact .non
 |str x=>cases e;exact .str x
 |tup h r=>cases e;exact .tup h
 |lst h r=>cases e;exact .lst h
 |dK h=>cases e;exact .dK h
 |dT h=>cases e;exact .dT h
 |fL h=>cases e;exact .frz h
 |_=>cases e
def BH(w:X6 K mg E o r):Xj K mg E (tCB (λxs H Q=>∃x n t b,xs=[x,.ty n]/\KQ K H x t/\PySem.W.kitOne K t (.type n)=some b/\Q (.bl b) H) o) (pCB Hk r):=by
 refine PL w λH0 H H1 Z G C R Q f J L l h q=>?_;unfold Hk at h;split at h
 ·obtain⟨v,u,rfl,s,p⟩:=l.two_inv;have g:=p.rp f;split at h
  ·rename_i m n A z;rw[z]at g;rw[g.ty_inv];obtain⟨b,k,y⟩:=h;exact⟨v,n,_,b,rfl,Znt (s.rp f) A,k.kit,q _ _ H1 y (Same.refl _) (.bl _)⟩
  ·grind
 ·grind
def Rb:List S->(S->Prop)->Prop
 |[s,t],R=>(match s.d,t.d with | .int i,.int j=>(-(2 ^ 62)<=i/\i<2 ^ 62/\-(2 ^ 62)<=j/\j<2 ^ 62)/\(j-i).toNat<=1000000/\R (.own ((XO i (j-i).toNat).map D.int))|_,_=>False)
 |_,_=>False
abbrev Zmb:List V->Hp->VK->Prop:=λxs H Q=>∃(r:Addr) (i j:Int),xs=[.ref r]/\H r=some (.rng i j)/\(-(2 ^ 62)<=i/\i<2 ^ 62/\-(2 ^ 62)<=j/\j<2 ^ 62)/\(j-i).toNat<=1000000/\∀l,H l=none->Q (.ref l) (upd H l<|.lst ((XO i (j-i).toNat).map V.int))
def Zkq(M:X6 K mg E C r):Xj K mg E (tCB Zmb<|Kg (tCB (λxs H Q=>∃i j,xs=[.int i,.int j]/\∀r,H r=none->Q (.ref r) (upd H r<|.rng i j)) C) KE) (pCB Rb r):=by
 intro H0 B H σ γ R X Q g p q J;refine M H0 B H σ γ _ X _ g p (λY U H1 f s G=>?_) J;have w:=(g.grow s).same;unfold Rb at f;split at f
 ·obtain⟨v,u,rfl,n,h⟩:=G.two_inv;have y:=n.rp w;have x:=h.rp w;split at f
  ·rename_i i j T N;rw[T]at y;rw[N]at x;rw[y.int_inv,x.int_inv];refine⟨i,j,rfl,λa L=>⟨a,i,j,rfl,X5,f.1,f.2.1,λl z=>?_⟩⟩;have A:=XU (o:=.rng i j) L;exact q _ _ _ f.2.2 ((s.trans A).trans (XU z)) (TM (s.trans A) z<|Rps.of_ints _)
  ·grind
 ·exact f.elim
noncomputable def pBM(f:S->List S->(S->Prop)->Prop)(a:PTE)(r:PTA):PTE:=λγ R X=>a γ (λs=>(∃h,s.d=.lst h)/\r γ (λg=>f s g R) X) X
def Zqn{f te y a r}(ha:Xj K mg E te a)(U:X6 K mg E y r)(h:∀H0 H H1 Z s v u vs R Q,Same H0 H1->Same H H1->(∀b,Z b->Mut (H b))->TV K Z H0 H H1 s v->TVs K Z H0 H H1 u vs->f s u R->(∀s z H',R s->Same H1 H'->TV K Z H0 H H' s z->Q z H')->N v vs H1 Q) :
  Xj K mg E (tBM K "list" N te y) (pBM f a r):=by
 intro H0 B H σ γ R X Q n p q G;refine ha H0 B H σ γ _ X _ n p (λs v H1 x o A=>?_) G;have g:=n.grow o;obtain⟨⟨ds,ed⟩,x⟩:=x;have C:=A.rp g.same;rw[ed]at C;obtain⟨l,J,rfl,Y,_⟩:=C.lst_inv;refine⟨.inl ⟨rfl,J,SqL.of Y⟩,U H0 B H1 σ γ _ X _ g x (λu vs H2 h2 w M=>?_) λc H' hc S'=>G c H' hc (o.trans S')⟩;exact h H0 H H2 _ s _ u vs R Q (g.grow w).same (o.trans w) n.zm (A.grow w) (TVs.weakG o M) h2 λs z H' T S3 L=>q s z H' T ((o.trans w).trans S3) L
def Hf:S->List S->(S->Prop)->Prop:=λs f R=>match f with
 |[t]=>(match t.d with | .int z=>∃xs:ZW,s.d=.lst (xs.map D.int)/\z∈xs/\R (.sh<|.int (xs.idxOf z:Nat))|_=>False)
 |_=>False
def Sj{a r}(G:Xj K mg E te a)(C:X6 K mg E w r):Xj K mg E (tBM K "list" (A1 K) te w) (pBM Hf a r):=by
 refine Zqn G C λH0 H H1 Z s v N L R Q n T U y x h q=>?_;unfold Hf at h;split at h
 ·obtain⟨u,rfl,g⟩:=x.one_inv;have o:=g.rp n;split at h
  ·rename_i z e;rw[e]at o;obtain⟨xs,ex,A,J⟩:=h;have f:=y.rp n;rw[ex]at f;obtain⟨l,M,rfl,p,f⟩:=f.lst_inv;rw[f.ints]at p;exact⟨l,xs,z,rfl,by rw[o.int_inv],SqL.of p,A,q _ _ H1 J (Same.refl _) (.int _)⟩
  ·grind
 ·exact h.elim
noncomputable def prD(p:Int×Int):D:=.tup [.int p.1,.int p.2]
inductive InR:D->D->Bool->Prop
 |li (i:Int) (hs:ZW):InR (.int i) (.lst<|hs.map D.int) (decide (i∈hs))
 |ti (i:Int) (hs:ZW):InR (.int i) (.tup<|hs.map D.int) (decide (i∈hs))
 |lp (q:Int×Int) (ps:ZV):InR (prD q) (.lst<|ps.map prD) (decide (q∈ps))
def fIn(neg:Bool):S->S->(S->Prop)->Prop:=λx y R=>∃b,InR x.d y.d b/\R (.sh<|.bl (if neg then !b else b))
def Rp.pair (h:Rp K H (prD q) v):Pt H v q:=by
 obtain⟨a,n,rfl,f,r⟩:=Rp.tup_inv h;obtain⟨x,y,rfl,l,g⟩:=r.two_inv;rw[l.int_inv,g.int_inv]at f;exact⟨a,rfl,f⟩
def Rps.lv {vs} (h:Rps K H (ps.map prD) vs):LV Pt H vs ps:=by
 refine⟨by rw[h.len,W6],λi p f=>?_⟩;obtain⟨v,l,g⟩:=h.get (by rw[WL,f];rfl);exact⟨v,l,g.pair⟩
def Bv{C A a b}(U:Xj K mg E C a)(T:Xj K mg E A b):Xj K mg E (tOp (λx y H Q=>rIn K neg x y H Q\/SQ neg x y H Q) C A) (p2 a b<|fIn neg):=by
 refine Pn U T λH0 H z Z x y v u R Q G Y hm L J h q=>?_;obtain⟨k,s,w⟩:=h;have n:=L.rp G;have g:=J.rp G;generalize ex:x.d=dx at s n;generalize ey:y.d=dy at s g;cases s with
 |li i N=>
  obtain⟨l,o,rfl,f,r⟩:=g.lst_inv;rw[r.ints]at f;rw[n.int_inv];refine .inl ⟨l,_,rfl,.inl (SqL.of f),rfl,Nd _,?_⟩;rw[IL];exact q _ _ z w (Same.refl _) (.bl _)
 |ti i N=>
  obtain⟨l,o,rfl,f,r⟩:=g.tup_inv;rw[r.ints]at f;rw[n.int_inv];refine .inl ⟨l,_,rfl,.inr (SqT.of f),rfl,Nd _,?_⟩;rw[IL];exact q _ _ z w (Same.refl _) (.bl _)
 |lp p M=>
  obtain⟨l,o,rfl,f,r⟩:=g.lst_inv;exact .inr ⟨l,M,p,rfl,n.pair,⟨o,f,r.lv⟩,q _ _ z w (Same.refl _) (.bl _)⟩
def Sz(neg:Bool):S->S->(S->Prop)->Prop:=λx y R=>match x.d,y.d with
 | .lst h,.lst g=>∃xs f:ZW,h=xs.map D.int/\g=f.map D.int/\R (.sh<|.bl (if neg then !decide (xs=f)else decide (xs=f)))
 |_,_=>fEq neg x y R
def Tf{a b}(T:Xj K mg E L a)(N:Xj K mg E J b):Xj K mg E (tOp (λx y H Q=>rEq x y H Q\/Tw K false x y H Q) L J) (p2 a b<|Sz false):=by
 refine Pn T N λH0 H p Z x y v u R Q w s1 s G C h q=>?_;have g:=G.rp w;have f:=C.rp w;unfold Sz at h;split at h
 ·rename_i ds es o n;obtain⟨xs,Y,rfl,rfl,U⟩:=h;rw[o]at g;rw[n]at f;obtain⟨l,us,rfl,A,r⟩:=g.lst_inv;obtain⟨m,ws,rfl,s,M⟩:=f.lst_inv;rw[r.ints]at A;rw[M.ints]at s;refine .inr ⟨l,m,_,_,rfl,rfl,SqL.of A,SqL.of s,Nd _,Nd _,?_⟩;rw[DN];exact q _ _ p U (Same.refl _) (.bl _)
 ·refine .inl ?_;unfold fEq at h;split at h
  ·rename_i i j o n;rw[o]at g;rw[n]at f;rw[g.int_inv,f.int_inv];refine⟨rfl,?_⟩;rw[NX λ_ _ z=>V.int.inj z];exact q _ _ p h (Same.refl _) (.bl _)
  ·rename_i i j o n;rw[o]at g;rw[n]at f;rw[g.str_inv,f.str_inv];refine⟨rfl,?_⟩;rw[NX λ_ _ z=>V.str.inj z];exact q _ _ p h (Same.refl _) (.bl _)
  ·rename_i i j o n;rw[o]at g;rw[n]at f;rw[g.bl_inv,f.bl_inv];refine⟨rfl,?_⟩;rw[NX λ_ _ z=>V.bl.inj z];exact q _ _ p h (Same.refl _) (.bl _)
  ·exact h.elim
def OA{a b}(T:Xj K mg E L a)(N:Xj K mg E J b):Xj K mg E (tOp (λx y H Q=>rNe x y H Q\/Tw K true x y H Q) L J) (p2 a b<|Sz true):=by
 refine Pn T N λH0 H p Z x y v u R Q w s1 s G C h q=>?_;have g:=G.rp w;have f:=C.rp w;unfold Sz at h;split at h
 ·rename_i ds es o n;obtain⟨xs,Y,rfl,rfl,U⟩:=h;rw[o]at g;rw[n]at f;obtain⟨l,us,rfl,A,r⟩:=g.lst_inv;obtain⟨m,ws,rfl,s,M⟩:=f.lst_inv;rw[r.ints]at A;rw[M.ints]at s;refine .inr ⟨l,m,_,_,rfl,rfl,SqL.of A,SqL.of s,Nd _,Nd _,?_⟩;rw[DN];exact q _ _ p U (Same.refl _) (.bl _)
 ·refine .inl ?_;unfold fEq at h;split at h
  ·rename_i i j o n;rw[o]at g;rw[n]at f;rw[g.int_inv,f.int_inv];refine⟨rfl,?_⟩;rw[NX λ_ _ z=>V.int.inj z];exact q _ _ p h (Same.refl _) (.bl _)
  ·rename_i i j o n;rw[o]at g;rw[n]at f;rw[g.str_inv,f.str_inv];refine⟨rfl,?_⟩;rw[NX λ_ _ z=>V.str.inj z];exact q _ _ p h (Same.refl _) (.bl _)
  ·rename_i i j o n;rw[o]at g;rw[n]at f;rw[g.bl_inv,f.bl_inv];refine⟨rfl,?_⟩;rw[NX λ_ _ z=>V.bl.inj z];exact q _ _ p h (Same.refl _) (.bl _)
  ·exact h.elim
noncomputable abbrev Do(K:ZU)(f:TE):TT:=λσ H Q=>f σ H λx H'=>∃k,Ds K x H' k/\Q k H'
noncomputable def Hn(a:PTE):PTT:=λγ R X=>a γ (λx=>match x.d with
 | .bl b=>R b | .lst f=>R (!f.isEmpty) | .tup f=>R (!f.isEmpty) | .int i=>R (i != 0) | .non=>R false|_=>False) X
def EK{g f:Type}{l:List g}{m:List f}(h:l.length=m.length):l.isEmpty=m.isEmpty:=by
 cases l<;>cases m<;>simp at h ⊢
def Zki(y:Xj K mg E te a):KA K mg E (Do K te) (Hn a):=by
 intro H0 B H σ γ R X Q o p q w;refine y H0 B H σ γ _ X _ o p (λx v H1 g h u=>?_) w;have f:=u.rp (o.grow h).same;split at g
 ·rename_i b e;rw[e]at f;rw[f.bl_inv];exact⟨b,rfl,q _ H1 g h⟩
 ·rename_i z e;rw[e]at f;obtain⟨l,n,rfl,s,r⟩:=f.lst_inv;exact⟨!n.isEmpty,.inl ⟨n,SqL.of s,rfl⟩,by rw[EK r.len];exact q _ H1 g h⟩
 ·rename_i z e;rw[e]at f;obtain⟨l,n,rfl,s,r⟩:=f.tup_inv;exact⟨!n.isEmpty,.inr (.inl ⟨n,SqT.of s,rfl⟩),by rw[EK r.len];exact q _ H1 g h⟩
 ·rename_i i e;rw[e]at f;rw[f.int_inv];exact⟨_,rfl,q _ H1 g h⟩
 ·rename_i e;rw[e]at f;rw[f.non_inv];exact⟨_,rfl,q _ H1 g h⟩
 ·exact g.elim
noncomputable def cutD{f:Type}(xs:List f)(lo g:Option Int):List f:=(xs.drop<|HT.sIx xs.length 0 lo).take (HT.sIx xs.length xs.length g-HT.sIx xs.length 0 lo)
noncomputable def Ls:PTO:=λ_ R _=>R none
noncomputable def O4(a:PTE):PTO:=λγ R X=>a γ (λs=>match s.d with | .int i=>R (some i)|_=>False) X
def Zh7:N8 K mg E LQ Ls:=λ_ _ H _ _ _ _ _ _ p q _=>q _ H p (Same.refl _)
def D5(r:Xj K mg E te a):N8 K mg E (Oe te) (O4 a):=by
 intro H0 B H σ γ R X Q f p q o;refine r H0 B H σ γ _ X _ f p (λx v H1 h l n=>?_) o;have g:=n.rp (f.grow l).same;split at h
 ·rename_i i e;rw[e]at g;exact⟨i,g.int_inv,q _ H1 h l⟩
 ·grind
noncomputable def pSl(a:PTE)(l u:PTO):PTE:=λγ R X=>a γ (λs=>l γ (λlo=>u γ (λg=>match s.d with | .lst f=>s.free f=true/\R (.own<|cutD f lo g)|_=>False) X) X) X
def Rps.cut {lo f} (r:Rps K H ds vs):Rps K H (cutD ds lo f) (NP vs lo f):=by
 unfold cutD NP;rw[r.len];exact Rps.take _ (Rps.drop _ r)
def Zdn{a l u}(U:Xj K mg E te a)(N:N8 K mg E G l)(M:N8 K mg E J u):Xj K mg E (tSl (F8 K) te G J) (pSl a l u):=by
 intro H0 B H σ γ R X Q f p q o;refine U H0 B H σ γ _ X _ f p (λx v H1 h1 h L=>?_) o;refine N H0 B H1 σ γ _ X _ (f.grow h) h1 (λlo H2 Y n=>?_) λc H' s y=>o c H' s (h.trans y);refine M H0 B H2 σ γ _ X _ ((f.grow h).grow n) Y (λhi H3 w A=>?_) λc H' s y=>o c H' s ((h.trans n).trans y);have g:=(h.trans n).trans A;split at w
 ·rename_i ds e;obtain⟨b,C,rfl,T,r⟩:=((L.grow<|n.trans A).items (f.grow g).same f.zm g w.1).1 e;exact⟨b,C,rfl,SqL.of T,λm z=>q _ _ _ w.2 (g.trans<|XU z) (TM g z r.cut)⟩
 ·grind
def Mu:S->S->(S->Prop)->Prop:=λx y R=>match x.d,y.d with
 | .lst g,.lst f=>x.free g=true/\y.free f=true/\g.length+f.length<=100000/\R (.own (g++f))
 |_,_=>False
def K4{a b}(U:Xj K mg E L a)(T:Xj K mg E J b):Xj K mg E (tOp ML L J) (p2 a b Mu):=by
 refine Pn U T λH0 H H2 Z x y v u R Q s f A G C h q=>?_;unfold Mu at h;split at h
 ·rename_i ds es e1 Y;obtain⟨l,o,rfl,N,r⟩:=(G.items s A f h.1).1 e1;obtain⟨m,n,rfl,g,w⟩:=(C.items s A f h.2.1).1 Y;have M:o.length+n.length<=sizeLine:=by rw[r.len,w.len];exact WK h.2.2.1 (by decide)
  exact⟨l,m,o,n,rfl,rfl,N,g,M,λp z=>q _ _ _ h.2.2.2 (XU z) (TM f z<|r.append w)⟩
 ·grind
noncomputable def DF(i:Nat)(a:PTE):PTS:=λR γ=>match γ[i]? with
 |some (some<|.own<|.lst f)=>a γ (λs=>match s.shd with
  |some d=>f.length<10000000/\R.nx (γ.set i<|some<|.own (f++[d]))
  |none=>False) (R.ex γ)
 |some (some<|.own<|.lsA x f)=>a γ (λs=>match s.shd with
  |some d=>f.length<10000000/\R.nx (γ.set i<|some<|.own<|.lsA x (f++[d]))
  |none=>False) (R.ex γ)
 |_=>False
def Zbr(i:Nat){te a}(T:Xj K mg E te a):Xy K mg E (SM<|tBM K "list" Ef (K7 i)<|Kg te KE) (DF i a):=by
 intro H0 B H σ γ R D U f h e;unfold DF at h;split at h
 ·rename_i N w;obtain⟨v,r,b,rfl,J,us,y,p⟩:=f.slot i _ w;refine⟨_,r,.inl ⟨rfl,us,SqL.of y⟩,T H0 B H σ γ _ _ _ f h (λs u H1 n l C=>?_) λc H' G A=>e.ex σ γ c H' G (f.grow A) (Fr.grow A)⟩;have g:=f.grow l;split at n
  ·rename_i d o;refine⟨b,us,u,rfl,rfl,l _ _ y,by rw[p.len];exact VG n.1 (by decide),?_⟩;obtain⟨o,M⟩:=g.mutate (es:=.lst (N++[d])) (us:=.lst (us++[u])) w r trivial λF H' Q L=>⟨_,L,Rps.mono Q (Rps.append (Rps.mono (Xx l λ_ _ _ z=>z) p)<|.cons (C.shd g.same f.zm l o) .nil)⟩;exact e.nx _ _ _ n.2 o ((Fr.grow l).trans M)
  ·exact n.elim
 ·rename_i x N w;obtain⟨v,r,b,rfl,J,rfl,us,y,p⟩:=f.slot i _ w;refine⟨_,r,.inl ⟨rfl,us,SqL.of y⟩,T H0 B H σ γ _ _ _ f h (λs u H1 n l C=>?_) λc H' G A=>e.ex σ γ c H' G (f.grow A) (Fr.grow A)⟩;have g:=f.grow l;split at n
  ·rename_i d o;refine⟨b,us,u,rfl,rfl,l _ _ y,by rw[p.len];exact VG n.1 (by decide),?_⟩;obtain⟨o,M⟩:=g.mutate (es:=.lsA b (N++[d])) (us:=.lst (us++[u])) w r trivial λF H' Q L=>⟨rfl,_,L,Rps.mono Q (Rps.append (Rps.mono (Xx l λ_ _ _ z=>z) p)<|.cons (C.shd g.same f.zm l o) .nil)⟩;exact e.nx _ _ _ n.2 o ((Fr.grow l).trans M)
  ·exact n.elim
 ·exact h.elim
end
section
variable {X:Cx}{K:ZU}
def Gd(f:X.A.in1.units<cLine)(g:autoParam (X.K=K) au_0):OpR X (compareOp .In) (λx y H Q=>rIn K false x y H Q\/SQ false x y H Q):=(Zex g).or (Zib f)
def LP(f:X.A.in1.units<cLine)(g:autoParam (X.K=K) au_0):OpR X (compareOp .NotIn) (λx y H Q=>rIn K true x y H Q\/SQ true x y H Q):=(Zjc g).or (Zdb f)
def Bh(f:X.A.units<cLine)(g:autoParam (X.K=K) au_0):OpR X (compareOp .Eq) (λx y H Q=>rEq x y H Q\/Tw K false x y H Q):=by subst g;exact op_eq.or (R6 f)
def Zq2(f:X.A.units<cLine)(g:autoParam (X.K=K) au_0):OpR X (compareOp .NotEq) (λx y H Q=>rNe x y H Q\/Tw K true x y H Q):=by subst g;exact op_ne.or (Zb7 f)
def CQ(g:PE X e te)(h:autoParam (X.K=K) au_0)(f:autoParam (∀whole,isTrue e X.env whole=(do let v ←whole;standAt e.pos;holding [v] (truthy v))) au_3):PT X e (Do K te):=by
 subst h;exact Zbj g f
def F9(f:autoParam (X.K=K) au_0):Kn X (.type "list") (λxs H Q=>∃p ys,xs=[.ref p]/\(SqL K H p ys\/SqT K H p ys)/\∀l,H l=none->Q (.ref l) (upd H l<|.lst ys)):=by subst f;exact LJ
def Zac(f:autoParam (X.K=K) au_0):Kn X (.type "tuple") (λxs H Q=>∃p ys,xs=[.ref p]/\((SqL K H p ys/\∀l,H l=none->Q (.ref l) (upd H l<|.tup ys))\/(SqT K H p ys/\Q (.ref p) H))):=by subst f;exact Ziw
def B7(f:autoParam (X.K=K) au_0):Kn X (.builtin "isinstance") (λxs H Q=>∃x n t b,xs=[x,.ty n]/\KQ K H x t/\PySem.W.kitOne K t (.type n)=some b/\Q (.bl b) H):=by subst f;exact Zp1
def R9(f:autoParam (X.K=K) au_0):SlR X (F8 K):=by subst f;exact Zmi
def Bf(g:X.calm=true){w}(h:autoParam (X.K=K) au_0)(hw:autoParam (X.w=w) au_0):Kn X (.builtin "sorted") (λxs H Q=>∃p f,xs=[.ref p]/\f.length<64/\(SqL K H p (f.map V.int)\/H p=some (N7 w p f))/\
  ∀l (ns:ZW),H l=none->ns.Perm f->ns.Pairwise (·<=·)->Q (.ref l) (upd H l<|.lst<|ns.map V.int)):=by subst h;subst hw;exact HA g
def Nk{g l f}(h:PE X l f)(n:autoParam (X.K=K) au_0):PI X g l (Ab K f):=by subst n;exact LW h
end
section
variable {P:Program}{w:World}{K:ZU}{mg:ZY}{base:Heap}{H H':Hp}
def Zma(C:Callee P w K mg base CX k x ps sp)(h:∀ds R X vs H Q E,Rps K H ds vs->c ds R X->(∀s v H',R s->Same H H'->TV K (λb=>Mut (H b)) H H H' s v->Q v H')->(∀e H',X e->Same H H'->XE mg E e H')->sp vs H Q E) :
  Callee P w K mg base CX k x ps (Xq mg c K):=by
 obtain⟨f,o,F,rest⟩:=C.ex;exact⟨f,o,F.imp λvs H Q E ⟨ds,R,X,r,g,n,l⟩=>h ds R X vs H Q E r g n l,rest⟩
def Rp.scr_inv (h:Rp K H (.scr ns) v):∃a,v=.ref a/\SqL K H a (ns.map V.int):=by
 cases h with
 |scr h=>grind
def Rp.ints_inv {ns:ZW}{v} (h:Rp K H (.lst<|ns.map D.int) v):∃a,v=.ref a/\H a=some (.lst<|ns.map V.int):=by
 obtain⟨a,g,rfl,f,r⟩:=h.lst_inv;rw[r.ints]at f
 grind
def Rp.pairs_inv {v} (h:Rp K H (.lst<|ps.map prD) v):∃a,v=.ref a/\LAt Pt H a ps:=by
 obtain⟨a,f,rfl,g,r⟩:=h.lst_inv;exact⟨a,rfl,f,g,r.lv⟩
def Zn9{ns:ZW}(n:H a=none)(h:H' a=some (.lst<|ns.map V.int)):TV K (λb=>Mut (H b)) H H H' (.own<|ns.map D.int) (.ref a):=⟨a,rfl,(λ_ e=>e▸n),_,h,Rps.of_ints ns⟩
theorem SS:∀(ns:ZW),Py (ns.map D.int)=true
 |[]=>rfl
 |n::r=>by rw[Qe];unfold Py;rw[SS r];unfold imm;rfl
def Zlb(p:Int×Int):imm (prD p)=true:=rfl
theorem Ts:∀(ps:ZV),Py (ps.map prD)=true
 |[]=>rfl
 |p::r=>by rw[Qe];unfold Py;rw[Ts r,Zlb];rfl
def Zr2{g:Type}{f:g->D}{xs:List g}{i}(h:i<xs.length):(xs.map f).getD i .non=f xs[i]:=by grind
def KP{g:Type}{f:g->D}{xs:List g}{i}(l:0<=i)(h:i<(xs.length:Int)):atI (xs.map f) i=some (f (xs[i.toNat]'(by lia))):=by
 have n:i.toNat<xs.length:=by lia
 exact P7 (BU l<|W8 n)
def Lx{g:Type}{f:g->D}{xs:List g}{i}(h:i<xs.length):atI (xs.map f) (i:Int)=some (f xs[i]):=P7 (Tu<|W8 h)
def Kk{l:Type}{φ}{γ}{g}{c}{e}{s:S}{R}{xs:List l}{emb}(f:l->Option D)(n:xs.length<=100000)(turn:∀x∈xs,g (s.sub<|emb x) (atP φ γ) λh=>c h (λb=>if b=true then e h (λs=>∃d,s.shd=some d/\f x=some d) (λ_=>False)else f x=none) λ_=>False)(done:R (.own<|xs.filterMap f)) :
  Ei φ γ g c e (xs.map emb).length (λi=>s.sub ((xs.map emb).getD i .non)) R:=by
 rw[W6];refine⟨⟨n,λi=>(xs[i]?).bind f,λi o=>?_,by rw[Zol];exact done⟩⟩;simp_all
def Bb{g c e item R n}(f:Nat->Option D)(o:n<=100000)(turn:∀i,i<n->g (item i) (atP φ l) λh=>c h (λb=>if b=true then e h (λs=>∃d,s.shd=some d/\f i=some d) (λ_=>False)else f i=none) λ_=>False)(done:R (.own ((List.range n).filterMap f))) :
  Ei φ l g c e n item R:=⟨⟨o,f,turn,done⟩⟩
def K5{p:Type}{js}{γ}{g}{body}{s:S}{R}{xs:List p}{emb}(l:Nat->Γ->Prop)(u:l 0 (clr js γ))(turn:∀i r f,l i f->g (s.sub (emb xs[i])) f λo=>body {R with nx:=λn=>l (i+1) (clr js n),ct:=λn=>l (i+1) (clr js n),bk:=R.nx} o)(done:∀f,l xs.length f->R.nx f) :
  E1 js γ g body R (xs.map emb).length (λi=>s.sub ((xs.map emb).getD i .non)):=by
 refine⟨⟨l,u,λi f r h=>?_,λf h=>?_⟩⟩
 ·grind
 ·grind
def Tg{n item}(f:Nat->Γ->Prop)(s:f 0 (clr p r))(turn:∀i h,i<n->f i h->g (item i) h λo=>body {R with nx:=λl=>f (i+1) (clr p l),ct:=λl=>f (i+1) (clr p l),bk:=R.nx} o)(done:∀h,f n h->R.nx h):E1 p r g body R n item:=⟨⟨f,s,turn,done⟩⟩
def SJ(h:Γ->Prop)(l:Γ->Nat)(p:h (clr n o))(turn:∀f,h f->c f (λb=>if b=true then body {R with nx:=λg=>h (clr n g)/\l (clr n g)<l f,ct:=λg=>h (clr n g)/\l (clr n g)<l f,bk:=R.nx} f else R.nx f) (R.ex f)):Lz n o c body R:=⟨⟨h,l,p,turn⟩⟩
def Pk(J:Γ->Prop)(l:p {R with nx:=J} g)(h:∀f,J f->q R f):IH p q R g:=⟨⟨J,l,h⟩⟩
theorem Px{f:Type}(c:f->Bool)(emb:f->D):∀g:List f,g.filterMap (λq=>if c q=true then some (emb q)else none)=(g.filter c).map emb
 |[]=>rfl
 |q::r=>by
  by_cases h:c q=true
  ·rw[List.filterMap_cons_some (by rw[WH h]),Ji h,Qe,Px c emb r]
  ·rw[List.filterMap_cons_none (by grind),List.filter_cons_of_neg h,Px c emb r]
def T1{f:Type}(emb:f->D)(g:List f):g.filterMap (λq=>some (emb q))=g.map emb:=by simp
def TL(f:h->D)(xs:List h)(lo g:Option Int):cutD (xs.map f) lo g=(cutD xs lo g).map f:=by
 unfold cutD;simp
def Fu(xs:List f){n}(h:0<=n):cutD xs none (some n)=xs.take n.toNat:=by
 unfold cutD;have e:n=(n.toNat:Int):=by lia
 rw[HT.OZ,e,HT.FC,List.drop_zero,Nat.sub_zero,Qy];by_cases c:n.toNat<=xs.length
 ·simp
 ·simp
def SG(xs:List f){n}(h:0<=n):cutD xs (some n) none=xs.drop n.toNat:=by
 unfold cutD;have e:n=(n.toNat:Int):=by lia
 rw[HT.OZ,e,HT.FC,Qy];by_cases c:n.toNat<=xs.length
 ·grind
 ·rw[Nat.min_eq_right (by lia),List.drop_of_length_le (WI _),List.drop_of_length_le (by lia)];simp
noncomputable def D7(K:ZU):Sp:=λf H Q _=>∃(a:Addr) (g:ZW),f=[.ref a]/\SqL K H a (g.map V.int)/\∀H',Q (.bl true) H'
noncomputable def L5:Pc:=λg R _=>∃f:ZW,g=[.scr f]/\R (.sh<|.bl true)
def Zey(h:D7 K vs H Q n):Xq mg L5 K vs H Q n:=by
 obtain⟨a,f,rfl,l,q⟩:=h;refine⟨[.scr f],λs=>s=.sh (.bl true),λ_=>False,.cons (.scr l) .nil,⟨f,rfl,rfl⟩,λs v H' e o g=>?_,λ_ _ z=>z.elim⟩;subst e;cases g
 grind
end
section
variable {K:ZU}{mg:ZY}{E:L2.St->XK}{H0 H H1 H':Hp}{B Z Z':Addr->Prop}{σ:L2.St}{γ:Γ}
noncomputable def Bx:D->Option V
 | .int i=>some (.int i) | .bl b=>some (.bl b) | .non=>some .non | .str x=>some (.str x)|_=>none
noncomputable def vD:V->D
 | .int i=>.int i | .bl b=>.bl b | .str x=>.str x|_=>.non
noncomputable def F6:V->Bool
 | .int _=>true | .bl _=>true | .str _=>true | .non=>true|_=>false
def Ea(h:F6 v=true):Rp K H (vD v) v:=by
 cases v with
 |int i=>exact .int i
 |bl b=>exact .bl b
 |str x=>exact .str x
 |non=>exact .non
 |_=>cases h
def FB(h:Rp K H d v)(e:Bx d=some u):v=u:=by
 cases h with
 |int i|bl b|non|str x=>cases e;rfl
 |_=>cases e
noncomputable def SU:D->Option Key
 | .int i=>some (.inl i) | .str x=>some (.inr x)|_=>none
noncomputable def NW:List D->Option (List Key)
 |[]=>some []
 |d::r=>match SU d,NW r with
  |some k,some f=>some (k::f)
  |_,_=>none
noncomputable def NU:D->Option (List Key)
 | .tup f=>NW f
 |_=>none
def Fc(h:Rp K H d v)(e:SU d=some k):v=kV k:=by
 cases h with
 |int i|str x=>cases e;rfl
 |_=>cases e
def Zn8:∀{ds vs}{f:List Key},Rps K H ds vs->NW ds=some f->vs=f.map kV:=by
 intro ds
 induction ds with
 |nil=>
  intro _ _ h e;cases h
  cases e
  rfl
 |cons _ _ g=>
  intro _ f h e;cases h with
  |cons h r=>
   unfold NW at e;split at e
   ·rename_i k o n l;cases e
    rw[Fc h n,g r l];rfl
   ·grind
def FT(h:Rp K H d v)(e:NU d=some f):∃b,v=.ref b/\H b=some (.tup<|f.map kV):=by
 cases h with
 |tup h r=>
  rw[Zn8 r e]at h
  grind
 |_=>cases e
def Rp.dK_inv (h:Rp K H (.dK f) v):∃a,v=.ref a/\H a=some (.dK f):=by
 cases h with
 |dK h=>grind
def Rp.dT_inv (h:Rp K H (.dT f) v):∃a,v=.ref a/\H a=some (.dT f):=by
 cases h with
 |dT h=>grind
noncomputable def Zmx:PTE:=λ_ R _=>R (.own<|.dK [])
noncomputable def Zre:PTE:=λ_ R _=>R (.own<|.dT [])
def Zn4:Xj K mg E Rm Zmx:=by
 intro H0 B H σ γ R X Q g p q _ l f;exact q _ _ _ p (XU f) ⟨l,rfl,(λ_ e=>e▸f),X5⟩
def Zot:Xj K mg E HI Zre:=by
 intro H0 B H σ γ R X Q g p q _ l f;exact q _ _ _ p (XU f) ⟨l,rfl,(λ_ e=>e▸f),X5⟩
def Ij:S->S->(S->Prop)->Prop:=λx y R=>match x.d with
 | .dK f=>∃k v,SU y.d=some k/\X0 f k=some v/\F6 v=true/\R (.sh<|vD v)
 | .dT f=>∃k v,NU y.d=some k/\X0 f k=some v/\F6 v=true/\R (.sh<|vD v)
 |_=>False
def BO{a b}(N:Xj K mg E M a)(p:Xj K mg E g b):Xj K mg E (RA M g) (p2 a b Ij):=by
 refine Pn N p λH0 H J Z x y v u R Q C T U L g h q=>?_;have f:=L.rp C;have G:=g.rp C;unfold Ij at h;split at h
 ·rename_i n e;rw[e]at f;obtain⟨l,rfl,o⟩:=f.dK_inv;obtain⟨k,w,A,z,s,r⟩:=h;refine⟨l,w,rfl,?_,q _ _ J r (Same.refl _) (Ea s)⟩;rw[Fc G A,←z];exact DGet.k o
 ·rename_i n e;rw[e]at f;obtain⟨l,rfl,o⟩:=f.dT_inv;obtain⟨k,w,A,z,s,r⟩:=h;obtain⟨b,rfl,p⟩:=FT G A;refine⟨l,w,rfl,?_,q _ _ J r (Same.refl _) (Ea s)⟩;rw[←z];exact DGet.t o p
 ·grind
def Iz(neg:Bool):S->S->(S->Prop)->Prop:=λy x R=>match x.d with
 | .dK f=>∃k,SU y.d=some k/\R (.sh<|.bl (if neg then !(X0 f k).isSome else(X0 f k).isSome))
 | .dT f=>∃k,NU y.d=some k/\R (.sh<|.bl (if neg then !(X0 f k).isSome else(X0 f k).isSome))
 |_=>False
def Zqz{w f a b}(J:Xj K mg E f a)(p:Xj K mg E w b):Xj K mg E (GA f w) (p2 a b<|Iz true):=by
 refine Pn J p λH0 H C Z y x u v R Q z L M f G h q=>?_;have g:=G.rp z;have A:=f.rp z;unfold Iz at h;split at h
 ·rename_i n e;rw[e]at g;obtain⟨l,rfl,o⟩:=g.dK_inv;obtain⟨k,s,r⟩:=h;refine⟨l,_,rfl,?_,q _ _ C r (Same.refl _) (.bl _)⟩;rw[Fc A s];exact DGet.k o
 ·rename_i n e;rw[e]at g;obtain⟨l,rfl,o⟩:=g.dT_inv;obtain⟨k,s,r⟩:=h;obtain⟨b,rfl,p⟩:=FT A s;exact⟨l,_,rfl,DGet.t o p,q _ _ C r (Same.refl _) (.bl _)⟩
 ·grind
noncomputable def IY(i:Nat)(b a:PTE):PTS:=λR γ=>match γ[i]? with
 |some (some<|.own<|.dK f)=>a γ (λs=>b γ (λy=>∃k u,SU y.d=some k/\Bx s.d=some u/\f.length<100000/\R.nx (γ.set i<|some<|.own<|.dK<|putK f k u)) (R.ex γ)) (R.ex γ)
 |some (some<|.own<|.dT f)=>a γ (λs=>b γ (λy=>∃k u,NU y.d=some k/\Bx s.d=some u/\f.length<100000/\R.nx (γ.set i<|some<|.own<|.dT<|putK f k u)) (R.ex γ)) (R.ex γ)
 |_=>False
def EJ(i:Nat){ty tv a b}(hb:Xj K mg E ty b)(ha:Xj K mg E tv a):Xy K mg E (LM (K7 i) ty tv) (IY i b a):=by
 intro H0 B H σ γ R D hB n h e;have hx:=λc H' G x=>e.ex σ γ c H' G (n.grow x) (Fr.grow x);unfold IY at h;split at h
 ·rename_i o C;obtain⟨v,A,l,rfl,Y,U⟩:=n.slot i _ C;refine ha H0 B H σ γ _ _ _ n h (λs u H1 h1 p L=>⟨_,A,?_⟩) hx;have f:=n.grow p;refine hb H0 B H1 σ γ _ _ _ f h1 (λy w H2 h2 r J=>?_) λc H' G x=>hx c H' G (p.trans x);obtain⟨k,z,T,Q,N,M⟩:=h2;have g:=f.grow r;have eu:=FB (L.rp f.same) Q;have ew:=Fc (J.rp g.same) T;subst eu ew;refine⟨l,_,rfl,DPut.k (r _ _<|p _ _ U) (VG N<|by decide),?_⟩;obtain⟨e2,f2⟩:=g.mutate (es:=.dK (putK o k u)) (us:=.dK (putK o k u)) C A trivial λF H' SF hF=>hF;exact e.nx _ _ _ M e2 ((Fr.grow<|p.trans r).trans f2)
 ·rename_i o C;obtain⟨v,A,l,rfl,Y,U⟩:=n.slot i _ C;refine ha H0 B H σ γ _ _ _ n h (λs u H1 h1 p L=>⟨_,A,?_⟩) hx;have f:=n.grow p;refine hb H0 B H1 σ γ _ _ _ f h1 (λy w H2 h2 r J=>?_) λc H' G x=>hx c H' G (p.trans x);obtain⟨k,z,T,Q,N,M⟩:=h2;have g:=f.grow r;have eu:=FB (L.rp f.same) Q;obtain⟨b',rfl,hb'⟩:=FT (J.rp g.same) T;subst eu;refine⟨l,_,rfl,DPut.t (r _ _<|p _ _ U) hb' (VG N<|by decide),?_⟩;obtain⟨e2,f2⟩:=g.mutate (es:=.dT (putK o k u)) (us:=.dT (putK o k u)) C A trivial λF H' SF hF=>hF;exact e.nx _ _ _ M e2 ((Fr.grow<|p.trans r).trans f2)
 ·exact h.elim
noncomputable def GR(a:PTE):PTS:=λR γ=>a γ (λs=>match s.shd with|some d=>R.rt (.sh d)|none=>False) (R.ex γ)
def Zgs(r:Xj K mg E te a):Xy K mg E (Si te) (GR a):=by
 intro H0 B H σ γ R D u f h e;refine r H0 B H σ γ _ _ _ f h (λs v H1 l g o=>?_) λc H' p n=>e.ex σ γ c H' p (f.grow n) (Fr.grow n);split at l
 ·rename_i d hd;exact e.rt (.sh d) v H1 l (f.same.trans g) (Rp.mono (Xx (Same.refl _) λb _ _ z y=>z (.inl y)) (o.shd (f.grow g).same f.zm g hd))
 ·grind
noncomputable def Ik(i:Nat)(γ:Γ):Nat:=match γ[i]? with
 |some (some<|.own<|.lst f)=>f.length
 |_=>0
def KD(d:f)(ds:List f):atI (d::ds) 0=some d:=BU (by simp) rfl
noncomputable def em(l:Int)(p:ZW):D:=.lst ((l::p).map D.int)
def Ft(l:Int)(p:ZW):atI ((l::p).map D.int) (-1)=some (.int<|Xt l p):=by
 refine P7 ?_;unfold atI ixN;rw[WG (by lia),WH (by grind)];have e:(-1+((l::p).length:Int)).toNat=p.length:=by grind
 rw[e];exact Fg l p
def G7:List S->(S->Prop)->Prop
 |[s],R=>∃f:ZW,s.d=.lst (f.map D.int)/\R (.sh<|.int f.sum)
 |_,_=>False
def Oh(s:X6 K mg E l r):Xj K mg E (tCB (λxs H Q=>∃(p:Addr) (ns:ZW),xs=[.ref p]/\SqL K H p (ns.map V.int)/\Q (.int ns.sum) H) l) (pCB G7 r):=by
 refine PL s λH0 H H1 Z y x R Q o z A g h q=>?_;unfold G7 at h;split at h
 ·obtain⟨v,rfl,n⟩:=g.one_inv;obtain⟨ns,e,w⟩:=h;have f:=n.rp o;rw[e]at f;obtain⟨a,rfl,u⟩:=f.ints_inv;exact⟨a,ns,rfl,SqL.of u,q _ _ H1 w (Same.refl _) (.int _)⟩
 ·grind
def IR:List S->(S->Prop)->Prop
 |[s],R=>∃f:ZW,s.d=.lst (f.map D.int)/\0<f.length/\∀m,m∈f->(∀a∈f,m<=a)->R (.sh<|.int m)
 |_,_=>False
def Zi7(u:X6 K mg E n r):Xj K mg E (tCB (λxs H Q=>∃(p:Addr) (ns:ZW),xs=[.ref p]/\SqL K H p (ns.map V.int)/\0<ns.length/\∀M,M∈ns->(∀a∈ns,M<=a)->Q (.int M) H) n) (pCB IR r):=by
 refine PL u λH0 H H1 Z C A R Q s G J l h q=>?_;unfold IR at h;split at h
 ·obtain⟨v,rfl,o⟩:=l.one_inv;obtain⟨ns,e,f,x⟩:=h;have g:=o.rp s;rw[e]at g;obtain⟨a,rfl,w⟩:=g.ints_inv;exact⟨a,ns,rfl,SqL.of w,f,λm z y=>q _ _ H1 (x m z y) (Same.refl _) (.int _)⟩
 ·grind
def Zad:List S->(S->Prop)->Prop
 |[s],R=>∃bs:List Bool,s.d=.lst (bs.map D.bl)/\R (.sh<|.bl<|bs.any id)
 |_,_=>False
theorem Rps.bls:∀{f:List Bool}{vs:List V},Rps K H (f.map D.bl) vs->vs=f.map V.bl
 |[],_,.nil=>rfl
 |j::r,_,.cons h t=>by rw[Rp.bl_inv h,Rps.bls t];rfl
def IW(w:X6 K mg E n r):Xj K mg E (tCB (λxs H Q=>∃(p:Addr) (bs:List Bool),xs=[.ref p]/\SqL K H p (bs.map V.bl)/\Q (.bl<|bs.any id) H) n) (pCB Zad r):=by
 refine PL w λH0 H H1 Z A y R Q s C G l h q=>?_;unfold Zad at h;split at h
 ·obtain⟨v,rfl,o⟩:=l.one_inv;obtain⟨bs,e,x⟩:=h;have f:=o.rp s;rw[e]at f;obtain⟨a,z,rfl,g,u⟩:=f.lst_inv;rw[u.bls]at g;exact⟨a,bs,rfl,SqL.of g,q _ _ H1 x (Same.refl _) (.bl _)⟩
 ·grind
def Mr(neg:Bool):S->S->(S->Prop)->Prop:=λx y R=>match x.d,y.d with
 | .lst f,.lst []=>R (.sh<|.bl (if neg then !f.isEmpty else f.isEmpty))
 |_,_=>False
def BV{n g a b}(L:Xj K mg E n a)(J:Xj K mg E g b):Xj K mg E (tOp (DU K neg) n g) (p2 a b<|Mr neg):=by
 refine Pn L J λH0 H T Z x y v u R Q o Y hm A z h q=>?_;have s:=A.rp o;have p:=z.rp o;unfold Mr at h;split at h
 ·rename_i ds N M;rw[N]at s;rw[M]at p;obtain⟨l,w,rfl,G,r⟩:=s.lst_inv;obtain⟨m,U,rfl,f,C⟩:=p.lst_inv;cases C
  refine⟨l,m,w,rfl,rfl,SqL.of G,SqL.of f,?_⟩;rw[EK r.len];exact q _ _ T h (Same.refl _) (.bl _)
 ·grind
def Al(x y:Int){k}(h:k=0\/k=1):atI [D.int x,D.int y] k=some (.int (if k=0 then x else y)):=by
 rcases h with rfl|rfl
 ·rfl
 ·rfl
def Tt(xs:List g)(lo f:Option Int):(cutD xs lo f).Sublist xs:=(Vt _ _).trans (List.drop_sublist _ _)
def Xn.gone (Q:Xn K H0 B H σ γ) (i:Nat):Xn K H0 B H (σ.set i none) (γ.set i none)/\Fr B H σ γ H (σ.set i none) (γ.set i none):=by
 obtain⟨l,f1⟩:=Q.drop i
 have f:∀j s,(γ.set i none)[j]?=some (some s)->j≠i:=λj s h=>by
  rcases XN h with⟨_,e,_⟩|⟨n,_⟩
  ·cases e
  ·exact n
 have G:∀b,zof B (γ.set i none) (σ.set i none) b↔zof B (γ.set i none) σ b:=λb=>by
  constructor
  ·rintro(z|⟨j,p,x,g,r,u⟩)
   ·exact .inl z
   ·rw[Th (f j _ g)]at r;exact .inr ⟨j,p,x,g,r,u⟩
  ·rintro(z|⟨j,p,x,g,r,u⟩)
   ·exact .inl z
   ·exact .inr ⟨j,p,x,g,by rw[Th (f j _ g)];exact r,u⟩
 have ez:=funext λb=>propext (G b);refine⟨⟨l.same,by rw[Q9];exact l.len,l.bm,λk j a N p M b y w C A L J=>?_,λj s h=>?_⟩,λb o h z=>?_⟩
 ·rw[Th (f k _ y)]at C;rw[Th (f j _ w)]at A;exact l.own k j a N p M b y w C A L J
 ·obtain⟨v,y,w⟩:=l.slot j s h
  grind
 ·rw[ez];exact f1 b o h z
def Rp.erM_inv (h:Rp K H (.erM C r) v):∃a f l o,v=.ref a/\H a=some (ExcR.PV a C<|some f)/\H f=some (.xd [("members",.ref l)])/\H l=some (.frz o<|.lst<|r.map V.int):=by
 cases h with
 |erM p n g=>grind
noncomputable def DM(i:Nat)(b a:PTE):PTS:=λR γ=>match γ[i]? with
 |some (some<|.own<|.lst f)=>a γ (λs=>b γ (λy=>match y.d with
   | .int k=>∃j d,ixN f.length k=some j/\s.shd=some d/\R.nx (γ.set i<|some<|.own<|.lst<|f.set j d)
   |_=>False) (R.ex γ)) (R.ex γ)
 |some (some<|.own<|.lsA x f)=>a γ (λs=>b γ (λy=>match y.d with
   | .int k=>∃j d,ixN f.length k=some j/\s.shd=some d/\R.nx (γ.set i<|some<|.own<|.lsA x<|f.set j d)
   |_=>False) (R.ex γ)) (R.ex γ)
 |_=>False
theorem Rps.set (h:Rp K H d v):∀{ds vs} j,Rps K H ds vs->Rps K H (ds.set j d) (vs.set j v)
 |_,_,_,.nil=>.nil
 |_,_,0,.cons _ r=>.cons h r
 |_,_,j+1,.cons k r=>.cons k (Rps.set h j r)
def Zld(i:Nat){tb te a b}(hb:Xj K mg E tb b)(ha:Xj K mg E te a):Xy K mg E (NT te<|RT (K7 i) tb M7) (DM i b a):=by
 intro H0 B H σ γ R D hB g h e;have hx:=λc H' M A=>e.ex σ γ c H' M (g.grow A) (Fr.grow A);unfold DM at h;split at h
 ·rename_i ds L;obtain⟨v,J,l,rfl,Y,us,U,G⟩:=g.slot i _ L;refine ha H0 B H σ γ _ _ _ g h (λs u H1 h1 o Q=>⟨_,J,?_⟩) hx;have f:=g.grow o;refine hb H0 B H1 σ γ _ _ _ f h1 (λy w H2 r p N=>?_) λc H' M A=>hx c H' M (o.trans A);have n:=f.grow p;have C:=N.rp n.same;split at r
  ·rename_i k ek;rw[ek]at C;obtain⟨j,d,h3,h4,h5⟩:=r;have T:=Rp.mono (Xx p λ_ _ _ z=>z) (Q.shd f.same g.zm o h4);refine⟨l,us,k,j,rfl,C.int_inv,(o.trans p) _ _ U,by rw[G.len];exact h3,?_⟩;obtain⟨e2,f2⟩:=n.mutate (es:=.lst (ds.set j d)) (us:=.lst (us.set j u)) L J trivial λF H' SF hF=>⟨_,hF,Rps.mono SF (Rps.set T j<|Rps.mono (Xx (o.trans p) λ_ _ _ z=>z) G)⟩;exact e.nx _ _ _ h5 e2 ((Fr.grow<|o.trans p).trans f2)
  ·exact r.elim
 ·rename_i x ds L;obtain⟨v,J,l,rfl,Y,rfl,us,U,G⟩:=g.slot i _ L;refine ha H0 B H σ γ _ _ _ g h (λs u H1 h1 o Q=>⟨_,J,?_⟩) hx;have f:=g.grow o;refine hb H0 B H1 σ γ _ _ _ f h1 (λy w H2 r p N=>?_) λc H' M A=>hx c H' M (o.trans A);have n:=f.grow p;have C:=N.rp n.same;split at r
  ·rename_i k ek;rw[ek]at C;obtain⟨j,d,h3,h4,h5⟩:=r;have T:=Rp.mono (Xx p λ_ _ _ z=>z) (Q.shd f.same g.zm o h4);refine⟨l,us,k,j,rfl,C.int_inv,(o.trans p) _ _ U,by rw[G.len];exact h3,?_⟩;obtain⟨e2,f2⟩:=n.mutate (es:=.lsA l (ds.set j d)) (us:=.lst (us.set j u)) L J trivial λF H' SF hF=>⟨rfl,_,hF,Rps.mono SF (Rps.set T j<|Rps.mono (Xx (o.trans p) λ_ _ _ z=>z) G)⟩;exact e.nx _ _ _ h5 e2 ((Fr.grow<|o.trans p).trans f2)
  ·exact r.elim
 ·exact h.elim
def Mn:S->S->(S->Prop)->Prop:=λx y R=>match x.d,y.d with
 | .lst f,.int k=>x.free f=true/\(-(2 ^ 63)<=k/\k<2 ^ 63)/\f.length*k.toNat<=10000000/\R (.own (.lst (List.replicate k.toNat f).flatten))
 |_,_=>False
theorem Rps.rep (h:Rps K H ds vs):∀k,Rps K H (List.replicate k ds).flatten (List.replicate k vs).flatten
 | 0=>.nil
 |k+1=>by
  exact Rps.append h (Rps.rep h k)
def Zpz{a b}(M:Xj K mg E C a)(L:Xj K mg E A b):Xj K mg E (tOp OM C A) (p2 a b Mn):=by
 refine Pn M L λH0 H Y Z x y v u R Q g f G z w h q=>?_;unfold Mn at h;have n:=w.rp g;split at h
 ·rename_i U k T N;rw[N]at n;obtain⟨l,s,rfl,J,r⟩:=(z.items g G f h.1).1 T;refine⟨l,k,s,rfl,n.int_inv,J,h.2.1.1,h.2.1.2,by rw[r.len];exact WK h.2.2.1 (by decide),λp o=>?_⟩;exact q _ _ _ h.2.2.2 (XU o) (TM f o<|r.rep _)
 ·grind
noncomputable def SH:List D->Option (List V)
 |[]=>some []
 |d::r=>match Bx d,SH r with
  |some v,some f=>some (v::f)
  |_,_=>none
theorem A6:∀{ds}{vs us:List V},Rps K H ds vs->SH ds=some us->vs=us
 |[],_,_,.nil,e=>by cases e;rfl
 |d::r,_,us,.cons h t,e=>by
  unfold SH at e;split at e
  ·rename_i v vs g f;cases e
   rw[FB h g,A6 t f]
  ·grind
def MO(neg:Bool):S->S->(S->Prop)->Prop:=λx y R=>match x.d,y.d with
 | .lst l,.lst h=>∃g f,SH l=some g/\SH h=some f/\g.all KJ=true/\f.all KJ=true/\R (.sh<|.bl (if neg then !eqL g f else eqL g f))
 |_,_=>False
def Zqo{n g a b}(N:Xj K mg E n a)(M:Xj K mg E g b):Xj K mg E (tOp (Tw K neg) n g) (p2 a b<|MO neg):=by
 refine Pn N M λH0 H H2 Z x y v u R Q o s1 hm J G h q=>?_;unfold MO at h;have s:=J.rp o;have p:=G.rp o;split at h
 ·rename_i ds es e1 e2;rw[e1]at s;rw[e2]at p;obtain⟨C,z,h1,h2,Y,U,T⟩:=h;obtain⟨l,vs,rfl,w,r⟩:=s.lst_inv;obtain⟨m,A,rfl,f,L⟩:=p.lst_inv;rw[A6 r h1]at w;rw[A6 L h2]at f;exact⟨l,m,C,z,rfl,rfl,SqL.of w,SqL.of f,Y,U,q _ _ H2 T (Same.refl _) (.bl _)⟩
 ·grind
def Ze3(f:X.A.units<cLine)(g:autoParam (X.K=K) au_0):OpR X (compareOp .Eq) (Tw K false):=by subst g;exact R6 f
end
end Pu
namespace PySem
open Sem (wp)
structure Zdu {K:Type} (es:List DictEntry) (kvs:List (K×Value)):Prop where
 length:es.length=kvs.length
 get?:∀{i:Nat} {e:DictEntry} {k:K} {v:Value},es[i]?=some e->kvs[i]?=some (k,v)->True/\e.val=v
def VDict{K:Type}(h:Heap)(a:Addr)(f:List (K×Value))(l:Nat):Prop:=
 ∃o g,h.get? a=some o/\o.ExactDict/\o.data=.dict g l/\True/\Zdu g.toList f/\True
section
variable {prog:Program}{w:World}{K:Type}{A:Around}{E:ZZ}{s:Shared}
def Zf2(d:Addr)(hd:(d==sysModules)=false) :
  MeetsIn prog w (Builtin.«dict.values» ⟨[.ref d],[]⟩) (λ_ R s=>s.TypeIs (.ref d) "dict"/\
   R (.ok<|.ret<|.ref s.heap.objs.size) {s with heap:=s.heap.push {cls:=.type "dict_values",data:=.fields #[.ref d]}}):=
 .of_wp λA R s ⟨f,h⟩=>by
  refine W7 ?_;unfold Builtin.Dict.noArgs;refine W7 (wpAny_notOrdered_dict f ?_);show wpAny _ _ (pure d) _ _ s;refine WE ?_;show wpAny _ _ (Builtin.Dict.showsAll d >>= _) _ _ s;unfold Builtin.Dict.showsAll;rw[WG (by rw[hd];exact WY)];refine W7 (WE ?_);exact W7 (Q7<|WE ⟨_,rfl,h⟩)
def Zpp{v d:Addr}{g:List (K×Value)}{y:Nat}{Q:ZZ}(l:s.heap.IsValuesView v d)(B:VDict s.heap d g y)(G:Q (.ref s.heap.objs.size) {s with heap:=s.heap.push {cls:=.type "dict_valueiterator",data:=.fields #[.ref d,.int 0 0,.int g.length 0,.int y 0]}}) :
  wpAny (model prog w) A (pyIter<|.ref v) Q E s:=by
 obtain⟨J,p,C,r⟩:=id l;obtain⟨o,H,u,N,f,M,z,L⟩:=id B;refine wpAny_pyIter_slot l.typeIs F.slot_dict_values_iter (Vk F.slot_dict_values_iter l.typeIs F.entry_dict_values_iter ?_<|F.args_dict_values_iter_1 _);unfold Builtin.«dict_values.__iter__»;refine W7 (WE ?_);refine W7 ?_;unfold Builtin.Dict_items.dictOf;refine W7 (JM p r (x:=.ref d) rfl<|WE ?_);refine W7 ?_;unfold Builtin.Dict_items.newIterator;refine W7 (wpAny_dictEntries u f ?_);refine W7 (wpAny_dictEpoch u f ?_);have n:H.size=g.length:=by rw[←z.length];simp
 have h:Builtin.Dict_items.ownsTuple "dict_valueiterator"=false:=by decide
 simp only[h,Jb,Jv];refine Q7 (WE ⟨_,rfl, "dict_valueiterator",_,⟨_,WQ _ rfl,rfl⟩,F.slot_dict_valueiterator_next.lookup,?_⟩);simpa [rawInt,n]using G
def Zos{n d:Addr}{i C:Nat}{f:List (K×Value)}{k:K}{v:Value}{Q:Yg->Shared->Prop}(g:s.heap.IsValIter n d i f.length C)(M:VDict s.heap d f C)(hx:f[i]?=some (k,v))(U:∀J,J.IsValIter n d (i+1) f.length C->Heap.SameBut n s.heap J->Q (some v) {s with heap:=J}) :
  wpAny (model prog w) A (pyNext<|.ref n) Q E s:=by
 obtain⟨o,G,T,hd⟩:=id g;obtain⟨Y,B,y,N,z,hk,L,hn⟩:=id M;unfold pyNext
 refine W7 (wpAny_attempt (Jh (name:=Str.ofString "__next__") g.typeIs Vd
  (Vk Vd g.typeIs F.entry_dict_valueiterator_next ?_<|F.args_dict_valueiterator_next_1 _)))
 refine W7 (WE ?_);refine W7 ?_;refine W7 ?_
 first|refine W7 (Vf g.typeIs<|WE ?_)|refine W7 (V2 g.typeIs<|WE ?_)
 refine W7 (wpAny_fieldsOf G hd ?_);have x:Builtin.Dict_items.ownsTuple "dict_valueiterator"=false:=by decide
 simp only[x,Jb,Jv];show wpAny _ _ (if (Value.ref d==Value.none)=true then _ else _) _ _ s;rw[WG (show ¬((Value.ref d==Value.none)=true)from WY)]
 refine W7 (WE ?_);refine W7 (wpAny_dictEntries y z ?_);have u:B.size=f.length:=by rw[←L.length];simp
 rw[WG (by rw[u];simp)];refine W7 (WE ?_);refine W7 (wpAny_dictEpoch y z ?_);rw[WG (by simp)];refine WE ?_
 have H:i<f.length:=by
  rcases Nat.lt_or_ge i f.length with h|h
  ·exact h
  ·simp[Vo h]at hx
 have p:i<B.size:=by rw[u];exact H
 have r:B[i].val=v:=(L.get? (e:=B[i]) (by simp[p]) hx).2;simp only[show ¬((i:Int)<0)from by omega,Jv,Qy,QN p]
 refine W7 ?_
 first|refine W7 (Vf g.typeIs<|WE ?_)|refine W7 (V2 g.typeIs<|WE ?_)
 refine W7 (Jx g.typeIs ?_);show wpAny _ _ (setField (.ref n) 1 (rawInt ((i:Int)+1)) >>= _) _ _ s;refine W7 (QZ G hd (by simp) ?_)
 have l:(s.heap.update n<|Obj.mapFields (·.setIfInBounds 1 (rawInt ((i:Int)+1)))).IsValIter n d (i+1) f.length C:=
  ⟨_,Q0 _ G (Va<|QC hd _),(Jm ..).trans T,by rw[QC hd];simp[rawInt]⟩
 refine W7 (QJ ?_);refine W7 (Jx (s:={s with heap:=s.heap.update n (Obj.mapFields (·.setIfInBounds 1 (rawInt ((i:Int)+1))))}) l.typeIs ?_)
 refine W7 (Jx (s:={s with heap:=s.heap.update n (Obj.mapFields (·.setIfInBounds 1 (rawInt ((i:Int)+1))))}) l.typeIs ?_)
 show wpAny _ _ (pure B[i].val) _ _ _;exact WE (WE ⟨_,rfl,WE (r▸U _ l (QD ..))⟩)
def Zmn{r d:Addr}{i z:Nat}{g:List (K×Value)}{Q:Yg->Shared->Prop}(G:A.handled=none)(f:s.heap.IsValIter r d i g.length z)(C:VDict s.heap d g z)(hx:g[i]?=none)(J:∀x,Heap.ExtBut r s.heap x->Q none {s with heap:=x}):wpAny (model prog w) A (pyNext<|.ref r) Q E s:=by
 obtain⟨o,v,U,hd⟩:=id f;obtain⟨L,y,n,H,p,N,B,M⟩:=id C;unfold pyNext
 refine W7 (wpAny_attempt (Jh (name:=Str.ofString "__next__") f.typeIs Vd
  (Vk Vd f.typeIs F.entry_dict_valueiterator_next ?_<|F.args_dict_valueiterator_next_1 _)))
 refine W7 (WE ?_);refine W7 ?_;refine W7 ?_
 first|refine W7 (Vf f.typeIs<|WE ?_)|refine W7 (V2 f.typeIs<|WE ?_)
 refine W7 (wpAny_fieldsOf v hd ?_);have l:Builtin.Dict_items.ownsTuple "dict_valueiterator"=false:=by decide
 simp only[l,Jb,Jv];show wpAny _ _ (if (Value.ref d==Value.none)=true then _ else _) _ _ s;rw[WG (show ¬((Value.ref d==Value.none)=true)from WY)]
 refine W7 (WE ?_);refine W7 (wpAny_dictEntries n p ?_);have h:y.size=g.length:=by rw[←B.length];simp
 rw[WG (by rw[h];simp)];refine W7 (WE ?_);refine W7 (wpAny_dictEpoch n p ?_);rw[WG (by simp)];refine WE ?_;have u:y.size<=i:=by rw[h];simpa using hx
 simp only[show ¬((i:Int)<0)from by omega,Jv,Qy,Jq u]
 refine W7 ?_
 first|refine W7 (Vf f.typeIs<|WE ?_)|refine W7 (V2 f.typeIs<|WE ?_)
 show wpAny _ _ (setField (.ref r) 0 .none >>= _) _ _ s;refine W7 (QZ v hd (by simp) ?_);show wpAny _ _ (newExc (.type "StopIteration") [] >>= _) _ _ _;refine W7 ?_;simp only[newExc,newTuple];refine W7 (Q7 ?_<|by size_fits);refine W7 (m:=firstArgMember _ _) (wpAny_of_eq (a:=Value.none) (by first|rfl|(simp only[firstArgMember];rfl)) ?_)
 refine Q7 ?_ (by size_fits);simp only[raiseNew];refine W7 (wpAny_handled ?_);rw[show A.in1.handled=none from G]
 refine W7 (WE<|wpAny_throw ?_);refine W7 (wpAny_isInstance (T:="StopIteration") (b:=true) ⟨_,WQ _ rfl,rfl⟩ isSubtype_stop ?_);exact WE (J _ (((QD ..).extBut.push _).push _))
end
end PySem
open PySem PySem.Spec PyProof.Rows
namespace Own
open L2
noncomputable def HN(K:ZU):R2:=λx y H Q=>∃a b xs f,x=.ref a/\y=.ref b/\SqT K H a xs/\SqT K H b f/\xs.length+f.length<=sizeLine/\
 (xs=[]->Q (.ref b) H)/\(xs≠[]->f=[]->Q (.ref a) H)/\(xs≠[]->f≠[]->∀p,H p=none->Q (.ref p) (upd H p<|.tup (xs++f)))
section
variable {X:Cx}{K:ZU}
def Zen(hK:autoParam (X.K=K) au_0):OpR X (binaryOp .Add) (HN K):=by
 subst hK;intro pins s G H x y v u Q I M L h;obtain⟨a,b,xs,J,rfl,rfl,C,B,hz,Y,U,T⟩:=h;cases M
 cases L
 by_cases hx:xs=[]
 ·obtain⟨r,N,p1,_⟩:=I.tuple C;obtain⟨f,r2,p2,_⟩:=I.tuple B;have e:=N.nil_iff.mpr hx;obtain⟨⟨cls,dd,data,sl⟩,z,A,n,hd⟩:=id p1;obtain⟨⟨E,w,data2,p⟩,g,o,n2,l⟩:=id p2;simp only at A hd o l;subst A hd o l
  exact concat_meets ⟨_,z,rfl⟩ ⟨_,g,rfl⟩ noFill_tuple_add seq_tuple_add Jp Jg (VY _ _)
   (tuple_addW0 a b r.toArray f.toArray n n2 dd w sl p<|by grind) ⟨z,g,⟨.ref b,H,I,rfl,Y hx⟩⟩
 ·exact Zog pins s G H (.ref a) (.ref b) _ _ Q I rfl rfl ⟨a,b,xs,J,rfl,rfl,C,B,hx,hz,U hx,T hx⟩
def Zjr(h:VV [(.ref b,x)] f):∃r,f=[(.ref b,r)]/\RelV x r:=by
 cases h with
 |cons h t=>
  cases t
  rename_i y;obtain⟨u,r⟩:=y;obtain⟨g,l⟩:=h;cases g
  grind
noncomputable def OO(n l:TE):TE:=λg H Q=>∀p,H p=none->n g (upd H p<|.dT []) λy o=>l g o λx f=>f p=some (.dT [])/\∃b h,y=.ref b/\f b=some (.tup<|h.map kV)/\Q (.ref p) (upd f p<|.dT [(h,x)])
def Zig{r p pos}(M:X.A.units+1<cLine)(T:PE X k r)(L:PE X v p):PE X (.Dict [some k] [v] pos) (OO r p):=by
 intro pins s C H Q I q
 refine wpAny_Dict_any rfl rfl (by simp) (by simp) (thn ((Zie T L Znp) pins _ C _ (λw l=>match w with
  |[(y,x)]=>l s.heap.objs.size=some (.dT [])/\∃b g,y=.ref b/\l b=some (.tup<|g.map kV)/\Q (.ref s.heap.objs.size) (upd l s.heap.objs.size<|.dT [(g,x)])
  |_=>False) (I.laid (t':=s.toks) (λ_ _ q=>WD _ q) (WI _)<|R1 s.heap I.big)<|q _<|I.hok.fresh<|WI s.heap.objs.size) λws s2 ⟨w,l,o,rel,h⟩=>?_)
 split at h
 ·rename_i y x;obtain⟨e,b,g,ey,B,J⟩:=h;subst ey;obtain⟨E,ew,G⟩:=Zjr rel;subst ew;obtain⟨z,hd,xs,f,dd⟩:=FM o.hok e;cases f
  unfold storeAll;rw[List.forIn_cons];refine W7 (W7 (wpAny_dictSet_heap (Nat.lt_of_succ_lt M) (SZ o.hok B) dd λh' n N=>WE ?_))
  dsimp only
  refine WE ?_;obtain⟨u,es,ep,hq,h,h3,Y,_,U⟩:=n;refine⟨.ref s.heap.objs.size,_,FI (ob:=.dT [(g,x)]) o (by rw[e];exact True.intro) N ⟨u,hq⟩ ⟨(by show 1<=sizeLine;decide),hd,[(g,b,E)],?_,u,es,ep,hq,h,h3,Y,U⟩,rfl,J⟩;refine .cons ⟨rfl,?_,G⟩ .nil;rwa[Xs (DL B e (λz=>nomatch z))]
 ·exact h.elim
end
section
variable {prog:Program}{w:World}{A:Around}{K:Type}{d r:Addr}{kvs:List (K×Value)}{ep:Nat}{h h':Heap}
def VDict.at (x:VDict h d kvs ep) (e:∀o,h.get? d=some o->h'.get? d=some o):VDict h' d kvs ep:=let ⟨o,g,f,r⟩:=x;⟨o,g,e _ f,r⟩
def VDict.lt (x:VDict h d kvs ep):d<h.objs.size:=let ⟨_,_,f,_⟩:=x;WM f
def Zdr(hh:A.handled=none)(I d:Addr)(hne:d≠I)(kvs:List (K×Value))(ep:Nat) :
  Walks prog w A I [I,d] [I] kvs.length (λi v=>∃k,kvs[i]?=some (k,v)) (λi h=>h.IsValIter I d i kvs.length ep/\VDict h d kvs ep) where
 sub:=λb hb=>by simp at hb;simp[hb]
 frame:=λ_ _ _ st hk=>⟨st.1.at λo e=>hk I (by simp) o e,VDict.at st.2 λo e=>hk d (by simp) o e⟩
 item:=λi s Q E hi st hQ=>by
  refine Zos (k:=(kvs[i]).1) (v:=(kvs[i]).2) st.1 st.2 (by grind) λh' hit' hs'=>?_;exact hQ _ h' s.toks ⟨(kvs[i]).1,by simp[hi]⟩ ⟨hit',VDict.at st.2 λo e=>hs'.extBut d o hne e⟩ λb o hb e=>hs'.extBut b o (λh=>hb (by grind)) e
 done:=λs Q E st hQ=>Zmn hh st.1 st.2 (by simp) λh' he'=>hQ h' s.toks λb o hb e=>he' b o (λh=>hb (by grind)) e
 self:=λ_ _ _ _ st hQ=>wpAny_pyIter_valiter st.1 hQ
def Zgv:PySem.W.KdlSrc prog w "dict_values" r d kvs.length (λi v=>∃k,kvs[i]?=some (k,v)) (λh=>h.IsValuesView r d/\VDict h d kvs ep) where
 type:=λ_ hm=>hm.1.typeIs
 there:=λ_ hm=>⟨let ⟨_,ho,_⟩:=hm.1;WM ho,VDict.lt hm.2⟩
 keep:=λ_ _ hm hk=>⟨let ⟨o,ho,x⟩:=hm.1;⟨o,hk r (.inl rfl) o ho,x⟩,VDict.at hm.2 λo e=>hk d (.inr rfl) o e⟩
 notList:=by decide
 notTuple:=by decide
 hint:=λ_ _ _ _ hm hq=>PySem.W.kdl_hint_values hm.1.typeIs hq
 iter:=λ_ _ hh hm=>⟨_,_,(λ_ _ hq=>Zpp hm.1 hm.2 hq),Zdr hh _ d (Qf<|VDict.lt hm.2) kvs ep,⟨⟨_,WQ _ rfl,rfl,rfl⟩,VDict.at hm.2 λo e=>WD _ e⟩⟩
end
noncomputable def B8(v d:Addr):HO:=.ext λh=>h.IsValuesView v d
def DA:V->List V->Hp->VK->Prop:=λx g H Q=>∃d f,x=.ref d/\g=[]/\H d=some (.dT f)/\∀v,H v=none->Q (.ref v) (upd H v<|B8 v d)
section
variable {X:Cx}
def Zk8:MtR X "dict.values" DA:=by
 intro pins s w H x xs v y Q I l n h;obtain⟨d,p,rfl,rfl,hd,q⟩:=h;cases l
 have g:=n.zero;subst g;obtain⟨z,lo,xs,rel,u⟩:=FM I.hok hd;obtain⟨o,C,E,f,hx,_⟩:=id u;refine call_meetsIn PySem.F.slot_dict_values ⟨o,f,hx.1⟩ PySem.F.entry_dict_values (PySem.F.args_dict_values_1 _) (Zf2 d lo) ⟨⟨o,f,hx.1⟩,?_⟩;refine⟨.ref s.heap.objs.size,_,I.laid (o:=B8 s.heap.objs.size d) (λ_ _ q=>WD _ q) (WI _) ⟨⟨_,WQ _ rfl,rfl,rfl⟩,⟨_,WQ _ rfl⟩,λB A ⟨o,f,r⟩ e=>⟨o,e o f,r⟩⟩,rfl,q _ (I.hok.fresh<|WI _)⟩
def Zrm{K}{o}{to}{name:Str}{apos cpos}(h:PE X o to)(n:autoParam (X.K=K) au_0)(l:autoParam (name = "values") au_0)(g:autoParam (attributeBase o name X.env (eval o X.env)=eval o X.env) au_0)(f:autoParam ((apos.endLine==cpos.line)=true) au_0):PE X (.Call (.Attribute o name apos) [] [] cpos) (Bz K "dict" DA to):=by
 subst n l;exact SL PySem.F.plainAttrs_dict PySem.F.slot_dict_values PySem.F.type_dict_values Zk8 h g f
def Of:∀{kvs}{xs:List (List Key×Addr×Value)},KT H kvs xs->Vals (kvs.map (·.2)) (xs.map (·.2.2)):=by
 intro g
 induction g with
 |nil=>
  intro _ h;cases h
  exact .nil
 |cons _ _ f=>
  intro _ h;cases h with
  |cons h r=>
   exact .cons h.2.2 (f r)
def Zmk(N:X.calm=true):Kn X (.type "list") (λxs H Q=>∃v d f,xs=[.ref v]/\H v=some (B8 v d)/\H d=some (.dT f)/\∀l,H l=none->Q (.ref l) (upd H l<|.lst<|f.map (·.2))):=by
 intro pins s σ H xs us Q I C h;obtain⟨v,d,f,rfl,G,hd,q⟩:=h;obtain⟨u,rfl,E⟩:=C.one;obtain rfl:=E;obtain⟨z,lo,xs,rel,dd⟩:=FM I.hok hd;obtain⟨o,U,Y,L,hx,p,A,y,hn⟩:=id dd;have hl:xs.length=f.length:=by simpa using(Of rel).length.symm
 have B:VDict s.heap d (xs.map λx=>((),x.2.2)) Y:=by
  refine⟨o,U,L,hx,p,trivial,⟨by rw[A,W6,W6],λ{i e k v} w r=>⟨trivial,?_⟩⟩,trivial⟩;rw[A,WL]at w;rw[WL]at r;cases M:xs[i]? with
  |none=>grind
  |some x=>
   rw[M]at w r;cases w
   cases r
   rfl
 refine PySem.W.kdl_call Zgv (I.ok.hd N) ⟨((I.hok v _ G).1),B⟩ (by rw[W6];lia) λh' tk n c' y T g=>?_;refine⟨.ref s.heap.objs.size,upd H s.heap.objs.size (.lst<|f.map (·.2)),?_,rfl,q _ (I.hok.fresh<|WI _)⟩;refine I.laid y (WI _) ⟨by rw[W6];exact z,n.toList,c',?_,by simpa using T⟩;rw[(PySem.W.kdl_vals_eq n.toList (by rw[Q6];exact g.1) λj u J=>g.2 j u (by rw[←J,QO])),Qr];exact Of rel
end
end Own
namespace Pu
open L2 Own M
section
variable {K:ZU}{mg:ZY}{E:L2.St->XK}{H0 H H1 H':Hp}{B Z Z':Addr->Prop}{σ:L2.St}{γ:Γ}
noncomputable def Sa:Option D->Option (List D)
 |some (.tup f)=>some f|_=>none
def Ej(h:Sa o=some ds):o=some (.tup ds):=by
 unfold Sa at h;split at h
 ·grind
 ·grind
def Zdx:S->S->(S->Prop)->Prop:=λx y R=>∃g f,Sa x.shd=some g/\Sa y.shd=some f/\g.length+f.length<=100000/\R (.sh<|.tup (g++f))
def Zql{a b}(Y:Xj K mg E M a)(U:Xj K mg E L b):Xj K mg E (tOp (HN K) M L) (p2 a b Zdx):=by
 refine Pn Y U λH0 H H2 Z x y v u R Q s f r J G h q=>?_;obtain⟨ds,es,e1,e2,T,h⟩:=h;have N:=J.shd s r f (Ej e1);have w:=G.shd s r f (Ej e2);obtain⟨l,C,rfl,h1,o⟩:=Rp.tup_inv N;obtain⟨m,A,rfl,h2,n⟩:=Rp.tup_inv w;refine⟨l,m,C,A,rfl,rfl,SqT.of (off_sub _ _ h1),SqT.of (off_sub _ _ h2),by rw[o.len,n.len];exact WK T (by decide),λe=>?_,λ_ e=>?_,λ_ _ p g=>?_⟩
 ·subst e;cases o
  exact q _ _ _ h (Same.refl _) w
 ·subst e;cases n
  refine q _ _ _ h (Same.refl _) ?_;rw[Qv];trivial
 ·refine q _ _ _ h (XU g) (.tup (XQ X5 λz=>?_)<|Rps.mono (Xx (XU g) λ_ _ _ z=>z)<|o.append n)
  have:=(λb z=>Te f (r b z)) p z
  rw[g]at this;exact this
noncomputable def pIT(a:PTE):PTI:=λγ R X=>a γ (λs=>∃f,Sa s.shd=some f/\R f.length λi=>.sh (f.getD i .non)) X
def Bw(L:Xj K mg E te a):SndI K mg E (AK K te) (pIT a):=by
 intro H0 B H σ γ R X Q f h q G;refine L H0 B H σ γ _ X _ f h (λs v H1 o p C=>?_) G;obtain⟨z,M,o⟩:=o;obtain⟨l,g,rfl,n,r⟩:=Rp.tup_inv (C.shd (f.grow p).same f.zm p (Ej M));refine⟨l,rfl,⟨g,SqT.of (off_sub _ _ n)⟩,q _ _ _ H1 o p ⟨λi H' Z' J lt=>?_,λH' Z' lt=>?_⟩⟩
 ·have hd:z[i]?=some (z.getD i .non):=by rw[WC,W8 J];rfl
  obtain⟨u,w,A⟩:=r.get hd;have k:=off_sub _ _ (lt.off _ _ n);refine⟨⟨g,u,SqT.of k,w⟩,λx N y=>?_⟩;obtain⟨rfl,y⟩:=y
  have:=y g (SqT.of k)
  rw[w]at this;cases this
  exact⟨Same.refl _,Rp.mono lt.off A⟩
 ·exact⟨g,SqT.of (off_sub _ _<|lt.off _ _ n),by rw[r.len];exact WI _⟩
noncomputable def Sr:List (List Key×V)->Bool
 |[]=>true
 |p::r=>F6 p.2&&Sr r
theorem Ll:∀{f:List (List Key×V)},Sr f=true->Rps K H (f.map λp=>vD p.2) (f.map (·.2))
 |[],_=>.nil
 |p::r,h=>by
  unfold Sr at h;rw[Qx]at h;exact .cons (Ea h.1) (Ll h.2)
def Znw:List V->Hp->VK->Prop:=λxs H Q=>∃(v d:Addr) (f:List (List Key×V)),xs=[.ref v]/\H v=some (B8 v d)/\H d=some (.dT f)/\∀l,H l=none->Q (.ref l) (upd H l<|.lst<|f.map (·.2))
noncomputable def Zkt(a:PTE):PTE:=λγ R X=>a γ (λs=>∃f,s.d=.dT f/\Sr f=true/\R (.own<|.lst (f.map λp=>vD p.2))) X
def Znm(C:Xj K mg E te a):Xj K mg E (tCB Znw<|Kg (Bz K "dict" DA te) KE) (Zkt a):=by
 intro H0 B H σ γ R X Q g h q z;refine C H0 B H σ γ _ X _ g h (λs v H1 J o y=>?_) z;obtain⟨f,e,A,G⟩:=J;have r:=y.rp (g.grow o).same;rw[e]at r;obtain⟨l,rfl,n⟩:=r.dT_inv;refine⟨.inr (.inr<|.inl ⟨rfl,.inr ⟨f,n⟩⟩),l,f,rfl,rfl,n,λp u=>?_⟩;refine⟨p,l,f,rfl,X5,by rw[Xs (K8 n u)];exact n,λm w=>?_⟩;have x:Same H1 (upd H1 p<|B8 p l):=XU u;exact q _ _ _ G ((o.trans x).trans (XU w)) ⟨m,rfl,(λ_ e=>e▸(o.trans x).free w),_,X5,Ll A⟩
noncomputable def Zk0(a b:PTE):PTE:=λγ R X=>a γ (λy=>b γ (λx=>∃f u,NU y.d=some f/\Bx x.d=some u/\R (.own<|.dT [(f,u)])) X) X
def Zk5{a b}(ha:Xj K mg E L a)(hb:Xj K mg E J b):Xj K mg E (OO L J) (Zk0 a b):=by
 intro H0 B H σ γ R X Q A h q G p s;have r:Same H (upd H p<|.dT []):=XU s;have env0:=A.grow r;refine ha H0 B _ σ γ _ X _ env0 h (λy v H1 h1 n N=>?_) λc H' g C=>G c H' g (r.trans C);have f:=env0.grow n;refine hb H0 B H1 σ γ _ X _ f h1 (λx w H2 h2 l M=>?_) λc H' g C=>G c H' g ((r.trans n).trans C);obtain⟨T,u,k1,Y,U⟩:=h2;have eu:=FB (M.rp (f.grow l).same) Y;obtain⟨b',rfl,z⟩:=FT (Rp.mono l<|N.rp f.same) k1;subst eu;refine⟨l _ _ (n _ _ X5),b',T,rfl,z,q _ _ _ U (λc o g=>?_) ⟨p,rfl,(λ_ e=>e▸s),X5⟩⟩
 have:c≠p:=λe=>by subst e;rw[s]at g;cases g
 rw[Xs this];exact l _ _ (n _ _<|r _ _ g)
end
section
variable {X:Cx}{K:ZU}
def B6{g l f}(h:PE X l f)(n:autoParam (X.K=K) au_0):PI X g l (AK K f):=by subst n;exact Zda h
end
end Pu
namespace M
open L2 Own Pu
noncomputable def tD(f:ZW):D:=.tup (f.map D.int)
noncomputable def kT(f:ZW):List Key:=f.map Sum.inl
def Zdf(f:ZW):arg (tD f)=.sh (tD f):=by
 unfold arg tD imm;rw[SS]
def B5:Tv N (tD f::ds)=some (.sh<|tD f)::(ds.map (λd=>some (arg d))++List.replicate (N.length-(ds.length+1)) none):=by
 unfold Tv;rw[Qe,Zdf];rfl
def Fl(f:ZW):NU (tD f)=some (kT f):=by
 show NW (f.map D.int)=some (f.map Sum.inl)
 induction f with
 |nil=>rfl
 |cons m r g=>
  rw[Qe,Qe];unfold NW;rw[g];rfl
def Zrf(f:ZW):Sa (some<|tD f)=some (f.map D.int):=rfl
noncomputable def X1(f:ZW)(h:Int):ZW:=f.filter λm=>decide (m≠h)
noncomputable def TQ(f:ZV)(g:ZW)(h:Int):Bool:=!(f.any λq=>decide (q.1=h)&&decide (q.2∈g))
noncomputable def firstM(f:ZV)(g:ZW)(h:Int):Bool:=!(f.any λq=>decide (q.2=h)&&decide (q.1∈g))
noncomputable def XB(hs:ZW):List (ZW):=hs.foldl (λS h=>S++S.map (·++[h])) [[]]
def NL(hs:ZW)(h:Int):XB (hs++[h])=XB hs++(XB hs).map (·++[h]):=by
 unfold XB;simp
def S4{P:ZW->Prop}(n:P [])(g:∀r h,P r->P (r++[h]))(l:ZW):P l:=by
 have f:∀r:ZW,P r.reverse:=λr=>by
  induction r with
  |_=>grind
 rw[←List.reverse_reverse l]
 grind
def LN(hs:ZW):(XB hs).length=2 ^ hs.length:=by
 refine S4 (P:=λhs=>(XB hs).length=2 ^ hs.length) rfl (λr h f=>?_) hs;rw[NL,WJ,W6,f,WJ,Vb,Nat.pow_succ];lia
def Be(hs:ZW):∀f∈XB hs,f.Sublist hs:=by
 refine S4 (P:=λhs=>∀f∈XB hs,f.Sublist hs) (λf h=>?_) (λr h g f hm=>?_) hs
 ·have:f=[]:=by simpa [XB]using h
  grind
 ·rw[NL,WO]at hm;rcases hm with hm|hm
  ·grind
  ·grind
noncomputable def oc(c:Int->Int->Int):ZW->Int
 |[]=>0
 |a::r=>(r.map<|c a).sum+oc c r
def Keeps(f:ZV)(o:ZW):Prop:=o.Pairwise λa b=>(b,a)∉f
structure KS (ws:ZV) (c:Int->Int->Int) (ms:ZW) (v:Int):Prop where
 is:∃o:ZW,o.Perm ms/\Keeps ws o/\oc c o=v
 le:∀o:ZW,o.Perm ms->Keeps ws o->v<=oc c o
def KS.uniq (h:KS f c n v) (k:KS f c n u):v=u:=by
 obtain⟨o,o1,l,s⟩:=h.is;obtain⟨p,g,p2,r⟩:=k.is
 have:=h.le p g p2
 have:=k.le o o1 l
 lia
theorem A0(c:Int->Int->Int)(l:Int):∀o,oc c (o++[l])=oc c o+(o.map (c · l)).sum
 |[]=>by simp[oc]
 |a::r=>by
  rw[QS];unfold oc;rw[A0 c l r]
  grind
def BS{f:Int->Int}{xs ys:ZW}(h:xs.Perm ys):(xs.map f).sum=(ys.map f).sum:=by
 induction h with
 |nil=>rfl
 |trans _ _ l g=>lia
 |_=>grind
def TU{f:ZW}{h}(g:f.Nodup)(l:h∈f):f.Perm (h::X1 f h):=by
 have e:X1 f h=f.erase h:=by
  unfold X1;rw[g.erase_eq_filter]
  grind
 grind
def less_sub:(X1 f h).Sublist f:=List.filter_sublist
def lastM_iff:TQ f g h=true↔∀b∈g,(h,b)∉f:=by
 unfold TQ;constructor
 ·grind
 ·grind
def firstM_iff:firstM f g h=true↔∀b∈g,(b,h)∉f:=by
 unfold firstM;constructor
 ·grind
 ·grind
def Zin{ms}{vs:Int->Int}{M}(s:ms.Nodup)(hw:∀q∈h,q.1≠q.2)(w:∀l∈ms,KS h c (X1 ms l) (vs l))(E:∃l∈ms,TQ h ms l=true/\M=vs l+((X1 ms l).map (c · l)).sum)(C:∀l∈ms,TQ h ms l=true->M<=vs l+((X1 ms l).map (c · l)).sum):KS h c ms M:=by
 constructor
 ·obtain⟨l,g,f,e⟩:=E;obtain⟨o,o1,n,x⟩:=(w l g).is;refine⟨o++[l],?_,?_,?_⟩
  ·exact(List.perm_append_singleton l o).trans (((List.Perm.cons l o1)).trans (TU s g).symm)
  ·refine Vx.mpr ⟨n,List.pairwise_singleton _ _,λa B b v=>?_⟩;rw[WB.mp v];exact lastM_iff.mp f a (less_sub.subset<|o1.mem_iff.mp B)
  ·rw[A0,x,e,BS o1]
 ·intro o o1 n;rcases QP o with rfl|⟨p,l,rfl⟩
  ·grind
  ·rw[Vq]at o1 n ⊢;have g:l∈ms:=o1.mem_iff.mp (by simp);obtain⟨A,_,y⟩:=Vx.mp n
   have r:p.Perm (X1 ms l):=by
    have:=((List.perm_append_singleton l p).symm.trans o1).trans (TU s g)
    exact this.cons_inv
   have f:=lastM_iff.mpr λb v=>by
    rcases WU.mp ((TU s g).mem_iff.mp v)with e|u
    ·subst e;exact λz=>hw _ z rfl
    ·exact y b (r.mem_iff.mpr u) l (WB.mpr rfl)
   have a1:=C l g f;have a2:=(w l g).le p r A;rw[A0,BS r];lia
def Lk(a b:ZW)(l:Int):X1 (a++b) l=X1 a l++X1 b l:=JT ..
def Mj(h:l∉a):X1 a l=a:=List.filter_eq_self.mpr λm f=>W9 λe=>h (e▸f)
def Zq5(hs:ZW):∃T,XB hs=[]::T:=by
 refine S4 (P:=λhs=>∃T,XB hs=[]::T) ⟨[],rfl⟩ (λr h ⟨T,e⟩=>?_) hs;rw[NL,e]
 grind
def IC(hs:ZW):(XB hs).getLast?=some hs:=by
 refine S4 (P:=λhs=>(XB hs).getLast?=some hs) rfl (λr h e=>?_) hs;rw[NL,List.getLast?_append,List.getLast?_map,e];rfl
def R4:hs.Nodup->(XB hs).Nodup:=by
 refine S4 (P:=λhs=>hs.Nodup->(XB hs).Nodup) (λ_=>by simp[XB]) (λr h l n=>?_) hs;obtain⟨g,_,o⟩:=Q3.mp n;rw[NL];refine Q3.mpr ⟨l g,?_,λa s b p e=>?_⟩
 ·exact List.Pairwise.map _ (λa b f e=>f (List.append_cancel_right e)) (l g)
 ·obtain⟨c,u,rfl⟩:=Qk.mp p;subst e;exact o h ((Be r _ s).subset (by simp)) h (by simp) rfl
def OW:hs.Nodup->∀k f,(XB hs)[k]?=some f->∀l∈f,∃j:Nat,j<k/\(XB hs)[j]?=some (X1 f l):=by
 refine S4 (P:=λhs=>hs.Nodup->∀k f,(XB hs)[k]?=some f->∀l∈f,∃j,j<k/\(XB hs)[j]?=some (X1 f l)) (λ_ k f e l p=>?_) (λr h x y k f e l p=>?_) hs
 ·have:f=[]:=by
   have:=WZ e
   simpa [XB]using this
  subst this;cases p
 ·obtain⟨w,_,A⟩:=Q3.mp y;rw[NL]at e ⊢;by_cases B:k<(XB r).length
  ·rw[Qj B]at e;obtain⟨j,g,o⟩:=x w k f e l p;exact⟨j,g,by rw[Qj (by lia)];exact o⟩
  ·rw[Qu (by lia),WL]at e;cases q:(XB r)[k-(XB r).length]? with
   |none=>rw[q]at e;cases e
   |some n=>
    rw[q]at e;cases e
    have C:=λz=>A h ((Be r n<|WZ q).subset z) h (by simp) rfl;by_cases u:l=h
    ·subst u
     have v:X1 (n++[l]) l=n:=by
      rw[Lk,Mj C];simp[X1]
     obtain⟨j,g,o⟩:=Qn.mp (WZ q);refine⟨j,by lia,?_⟩;rw[Qj g,v,W8 g,o]
    ·have s:l∈n:=by
      rcases WO.mp p with z|z
      ·exact z
      ·exact absurd (WB.mp z) u
     have v:X1 (n++[h]) l=X1 n l++[h]:=by
      rw[Lk];congr 1;exact Mj λz=>u (WB.mp z)
     obtain⟨j,g,o⟩:=x w _ n q l s;refine⟨(XB r).length+j,by lia,?_⟩;rw[Qu (by lia),WL,Nat.add_sub_cancel_left,o,v];rfl
def Fy(h:kT a=kT b):a=b:=List.map_inj_right (λ_ _=>Sum.inl.inj) |>.mp h
def Ol(hs:ZW)(g:ZV):Prop:=∀f:ZW,f.Sublist hs->f≠[]->∃l∈f,∀b∈f,(l,b)∉g
structure Tab (ws:ZV) (c:Int->Int->Int) (S:List (ZW)) (kvs:List (List Key×V)):Prop where
 keys:kvs.map (·.1)=S.map kT
 val:∀ms∈S,∃v,X0 kvs (kT ms)=some (.int v)/\KS ws c ms v
def Zo2(f:ZV)(c:Int->Int->Int):Tab f c [[]] [([],.int 0)]:=by
 refine⟨rfl,λl h=>?_⟩;rw[WB.mp h];refine⟨0,rfl,⟨[],.refl _,.nil,rfl⟩,λo g _=>?_⟩;rw[g.eq_nil];exact VS _
def Tab.put {S f h v} (T:Tab l c S f) (r:h∉S) (L:KS l c h v):Tab l c (S++[h]) (putK f (kT h)<|.int v):=by
 have no:X0 f (kT h)=none:=by
  cases e:X0 f (kT h)with
  |none=>rfl
  |some u=>
   unfold X0 at e;cases q:f.find? (λp=>decide (p.1=kT h))with
   |none=>rw[q]at e;cases e
   |some x=>
    have s:=List.find?_some q;have o:x.1∈f.map (·.1):=Qk.mpr ⟨x,(List.mem_of_find?_eq_some q),rfl⟩;rw[T.keys,WA s]at o;obtain⟨n,g,w⟩:=Qk.mp o;rw[Fy w]at g;exact absurd g r
 constructor
 ·rw[Zlq _ no,WS,WS,T.keys];rfl
 ·intro n g;rw[BW];by_cases e:n=h
  ·grind
  ·rw[WG λz=>e (Fy z)];rcases WO.mp g with z|z
   ·exact T.val n z
   ·exact absurd (WB.mp z) e
open Classical in
def IE{n:ZW}{P:Int->Int->Prop}(h:∀l∈n,∃v,P l v):∃f:Int->Int,∀l∈n,P l (f l):=
 ⟨λl=>if g:l∈n then Classical.choose (h l g)else 0,λl g=>by
  simp only[dif_pos g];exact Classical.choose_spec (h l g)⟩
def Zk4{r}(R:Ring o (l.map λq=>(q.2,q.1)) r):Ring o l r.reverse:=by
 have n:∀{x y:Int},(x,y)∈(l.map λq=>(q.2,q.1))->(y,x)∈l:=λh=>by
  obtain⟨q,hq,e⟩:=Qk.mp h;cases e
  exact hq
 refine⟨by rw[JF];exact R.two,List.pairwise_reverse.mpr (R.nodup.imp λh=>Ne.symm h),λx hx=>R.sub x (List.mem_reverse.mp hx),λi x y g f=>?_,λx y g f=>?_⟩
 ·have p:i+1<r.length:=by
   have:=(WT.mp f).1
   rw[JF]at this;exact this
  rw[Jy (by lia)]at g f;exact n (R.chain (r.length-1-(i+1)) y x f<|by rw[←g];congr 1;lia)
 ·have two:=R.two;rw[Jy (by lia)]at g;rw[JF,Jy (by lia)]at f;exact n (R.last y x (by rw[←f];congr 1;lia)<|by rw[←g];congr 1)
def Lp{ws}(l:∀q∈ws,q.1≠q.2)(h:¬ ∃r,Ring hs ws r):Ol hs ws:=λg o f=>by
 refine Qd λz=>h ?_
 have s:∀x∈g,∃y∈g,(y,x)∈(ws.map λq=>(q.2,q.1)):=λx hx=>by
  grind
 obtain⟨r,R⟩:=Lb (λq hq=>by
  obtain⟨p,n,e⟩:=Qk.mp hq;subst e;exact λe=>l p n e.symm) f s
 have F:=Zk4 R;exact⟨_,F.two,F.nodup,λx hx=>o.subset (F.sub x hx),F.chain,F.last⟩
theorem Lf:∀{f:List (List Key×V)},(f.map (·.1)).Nodup->∀p∈f,X0 f p.1=some p.2
 |[],_,p,h=>by cases h
 |q::r,g,p,h=>by
  rw[Qe,Qw]at g;rcases WU.mp h with e|h
  ·rw[e];exact PM rfl
  ·rw[P9 λe=>g.1 (Qk.mpr ⟨p,h,e.symm⟩)];exact Lf g.2 p h
def Ow(g:ZV)(c:Int->Int->Int)(S:List (ZW))(vs:ZW):Prop:=vs.length=S.length/\∀(i:Nat) (f:ZW) (v:Int),S[i]?=some f->vs[i]?=some v->KS g c f v
def Tab.vals {S f} (T:Tab s c S f) (z:S.Nodup):∃vs,f.map (·.2)=vs.map V.int/\Ow s c S vs:=by
 have y:(f.map (·.1)).Nodup:=by
  rw[T.keys];exact List.Pairwise.map _ (λa b r e=>r (Fy e)) z
 have x:∀p∈f,∃g∈S,p.1=kT g/\∃v,p.2=.int v/\KS s c g v:=λp l=>by
  have o:p.1∈f.map (·.1):=Qk.mpr ⟨p,l,rfl⟩;rw[T.keys]at o;obtain⟨g,w,e⟩:=Qk.mp o;obtain⟨v,h,n⟩:=T.val g w;rw[e,Lf y p l]at h;exact⟨g,w,e.symm,v,WR h,n⟩
 have C:f.length=S.length:=by
  have:=Q2 List.length T.keys
  rw[W6,W6]at this;exact this
 refine⟨f.map λp=>match p.2 with | .int v=>v|_=>0,?_,by rw[W6,C],λi g v o h=>?_⟩
 ·rw[Qr];refine QM λp l=>?_;obtain⟨g,_,_,v,e,_⟩:=x p l;show p.2=V.int (match p.2 with | .int v=>v|_=>0)
  rw[e]
 ·rw[WL]at h;cases q:f[i]? with
  |none=>rw[q]at h;cases h
  |some p=>
   obtain⟨A,B,E,u,H,L⟩:=x p (WZ q);have n:(f.map (·.1))[i]?=some p.1:=by rw[WL,q];rfl
   rw[T.keys,WL,o]at n;have G:=Fy ((WR n).trans E);simp_all
theorem IZ:∀{kvs}{vs:ZW},kvs.map (·.2)=vs.map V.int->Sr kvs=true/\kvs.map (λp=>vD p.2)=vs.map D.int
 |[],[],_=>⟨rfl,rfl⟩
 |p::r,v::vs,h=>by
  rw[Qe,Qe,JB]at h;obtain⟨g,f⟩:=IZ h.2;unfold Sr;rw[g,Qe,Qe,f,h.1];trivial
structure KR (ws:ZV) (c:Int->Int->Int) (ms o:ZW):Prop where
 perm:o.Perm ms
 keeps:Keeps ws o
 le:∀p:ZW,p.Perm ms->Keeps ws p->oc c o<=oc c p
 first:∀p:ZW,p.Perm ms->Keeps ws p->oc c p=oc c o->o=p\/sl o p
def Zgj(g:ZV)(c:Int->Int->Int):KR g c [] []:=by
 refine⟨.refl _,.nil,λp f _=>?_,λp f _ _=>.inl f.eq_nil.symm⟩;simp_all
def Hh{ms}{vs:Int->Int}{V g}{p}(r:ms.Nodup)(A:∀q∈n,q.1≠q.2)(v:∀l∈ms,KS n c (X1 ms l) (vs l))(G:KS n c ms V)(w:(g::p).Perm ms)(B:Keeps n (g::p))(e:oc c (g::p)=V):g∈ms/\firstM n ms g=true/\vs g+((X1 ms g).map (c g)).sum=V/\p.Perm (X1 ms g)/\oc c p=vs g:=by
 have h:=w.mem_iff.mp (Qs ..);have u:=(w.trans<|TU r h).cons_inv;obtain⟨M,y⟩:=QT.mp B
 have C:=firstM_iff.mpr λb s=>by
  rcases WU.mp ((TU r h).mem_iff.mp s)with e|E
  ·subst e;exact λz=>A _ z rfl
  ·grind
 have a1:=(v g h).le p u y;obtain⟨o,o1,x,L⟩:=(v g h).is;have a2:=G.le (g::o) ((List.Perm.cons g o1).trans (TU r h).symm) (QT.mpr ⟨λb s=>firstM_iff.mp C b (less_sub.subset<|o1.mem_iff.mp s),x⟩);have Q:oc c (g::p)=(p.map<|c g).sum+oc c p:=rfl;have N:oc c (g::o)=(o.map<|c g).sum+oc c o:=rfl;have J:=BS (f:=c g) u;have H:=BS (f:=c g) o1
 grind
def Zas{h o}{vs:Int->Int}{V f}(w:h.Nodup)(H:∀q∈n,q.1≠q.2)(s:∀l∈h,KS n c (X1 h l) (vs l))(x:KS n c h V)(u:f∈h)(N:firstM n h f=true)(U:vs f+((X1 h f).map (c f)).sum=V)(M:∀g∈h,firstM n h g=true->vs g+((X1 h g).map (c g)).sum=V->f<=g)(B:KR n c (X1 h f) o):KR n c h (f::o):=by
 have Q:oc c o=vs f:=by
  obtain⟨p,r,p2,v⟩:=(s f u).is
  have:=(s f u).le o B.perm B.keeps
  have:=B.le p r p2
  lia
 have Y:=BS (f:=c f) B.perm
 have e:oc c (f::o)=V:=by
  show(o.map<|c f).sum+oc c o=V;lia
 refine⟨(List.Perm.cons f B.perm).trans (TU w u).symm,QT.mpr ⟨λb L=>firstM_iff.mp N b (less_sub.subset<|B.perm.mem_iff.mp L),B.keeps⟩,λp r p2=>?_,λp r p2 v=>?_⟩
 ·rw[e];exact x.le p r p2
 ·cases p with
  |nil=>grind
  |cons g p=>
   obtain⟨G,E,C,A,y⟩:=Hh w H s x r p2 (v.trans e);have J:=M g G E C;by_cases T:f=g
   ·subst T;rcases B.first p A (QT.mp p2).2 (y.trans Q.symm)with z|z
    ·exact .inl (by rw[z])
    ·exact .inr (sl_cons.mpr z)
   ·exact .inr (.inl<|by lia)
end M
namespace Pu
open L2 Own
section
variable {K:ZU}{mg:ZY}{E:L2.St->XK}{H0 H H1 H':Hp}{B Z Z':Addr->Prop}{σ:L2.St}{γ:Γ}
def O.from:O->O->Prop
 | .ins x _ _ h,.ins f _ _ g=>f=x/\∀c∈h,∃l∈g,l.1=c.1
 | .lsA x _,.lsA f _=>f=x
 |_,_=>False
def O.from_adr {o o':O}{a} (h:o.from o'):∀b,o.adr a b->o'.adr a b:=by
 unfold O.from at h
 split at h
 ·intro b f;rcases f with f|⟨c,n,f⟩
  ·exact .inl (f.trans h.1.symm)
  ·obtain⟨p,l,g⟩:=h.2 c n;exact .inr ⟨p,l,f.trans g.symm⟩
 ·intro b f;exact f.trans h.symm
 ·grind
def O.from_at {a l}{F n H H'} (h:o.from o') (g:OR K F H a o) (f:OR K n H' l o'):l=a:=by
 unfold O.from at h
 split at h
 ·exact f.1.trans (h.1.trans g.1.symm)
 ·exact f.1.trans (h.trans g.1.symm)
 ·grind
abbrev Pw:=O->List S->(O->D->Prop)->(O->Str->Prop)->Prop
noncomputable def S.pass:S->Option S
 | .sh d=>some (.sh d) | .own o=>some (.sh o.d)
 | .bor d=>match imm d with|true=>some (.sh d)|false=>some (.bor d)
 | .tmp d=>match imm d with|true=>some (.sh d)|false=>none
 | .view _=>none
def S.flat:S->Prop
 | .sh _=>True | .bor _=>True|_=>False
noncomputable def passes:List S->Option (List S)
 |[]=>some []
 |s::r=>match s.pass,passes r with|some f,some g=>some (f::g)|_,_=>none
structure After (K:ZU) (B:Addr->Prop) (H:Hp) (a:Addr) (o o':O) (H':Hp):Prop where
 same:Same (off (o.adr a) H) H'
 old:∀b,o.adr a b->o'.adr a b
 new:∀b,o'.adr a b->o.adr a b\/H b=none
 at_:OR K (off (λb=>B b\/o'.adr a b) H') H' a o'
noncomputable def spW(mg:ZY)(c:Pw)(K:ZU):Sp:=λl H Q E=>∃(o:O) (a:Addr) (g:List S) (h:List V) (B:Addr->Prop) (R:O->D->Prop) (X:O->Str->Prop),
 l=.ref a::h/\(∀b,B b->Mut (H b)/\¬o.adr a b)/\OR K (off (λb=>B b\/o.adr a b) H) H a o/\TVs K (λb=>B b\/o.adr a b) (off (o.adr a) H) H H g h/\(∀s∈g,s.flat)/\c o g R X/\
 (∀f d v H',R f d->After K B H a o f H'->Rp K (off (λb=>B b\/f.adr a b) H') d v->Q v H')/\∀f e H',X f e->After K B H a o f H'->XE mg E e H'
def TVs.get:∀{f vs}{i:Nat}{s:S},TVs K Z H0 H H' f vs->f[i]?=some s->∃v,vs[i]?=some v/\TV K Z H0 H H' s v:=by
 intro o
 induction o with
 |nil=>
  intro _ i _ h e;simp at e
 |cons _ _ g=>
  intro _ i d h e;cases h with
  |cons h r=>
   cases i with
   |zero=>
    simp at e;subst e;exact⟨_,rfl,h⟩
   |succ i=>
    obtain⟨v,n,l⟩:=g r (by simpa using e);exact⟨v,by simpa using n,l⟩
noncomputable def Nc(N:Yd)(o:O)(f:List S):Γ:=some (.own o)::(f.map some++List.replicate (N.length-(f.length+1)) none)
def Zq4{o a f us}(T:∀b,B b->Mut (H b)/\¬o.adr a b)(M:OR K (off (λb=>B b\/o.adr a b) H) H a o)(r:TVs K (λb=>B b\/o.adr a b) (off (o.adr a) H) H H f us)(L:∀s∈f,s.flat)(hn:f.length+1<=N.length) :
  Xn K (off (o.adr a) H) B H (start N (.ref a::us)) (Nc N o f):=by
 have get:∀i s,(Nc N o f)[i+1]?=some (some s)->f[i]?=some s:=λi s h=>by
  unfold Nc at h;rw[QB]at h;by_cases p:i<f.length
  ·rw[Qj (by rw[W6];exact p),WL,W8 p]at h;rw[W8 p];exact Q2 some (WR<|WR h)
  ·rw[Qu (by rw[W6];lia),V6]at h;split at h<;>cases h
 have noown:∀i g,(Nc N o f)[i+1]?≠some (some<|.own g):=λi g h=>L _ (WZ<|get i _ h)
 have n:(start N (V.ref a::us))[0]?=some (some<|.ref a):=by
  unfold L2.start;rfl
 have C:∀b,zof B (Nc N o f) (start N (V.ref a::us)) b->B b\/o.adr a b:=λb z=>by
  rcases z with z|⟨i,g,a',l,u,U⟩
  ·exact .inl z
  ·cases i with
   |zero=>
    cases u
    have:o=g:=by
     cases l
     rfl
    subst this;exact .inr U
   |succ i=>exact absurd l (noown i g)
 refine⟨off_sub,?_,λb h=>(T b h).1,λi j x Y g w b l u _ _ _ _=>?_,λi s h=>?_⟩
 ·unfold L2.start Nc;simp[r.len]
 ·cases i with
  |succ i=>exact absurd l (noown i g)
  |zero=>
   cases j with
   |zero=>rfl
   |succ j=>exact absurd u (noown j w)
 ·cases i with
  |zero=>
   have h:=h;cases h
   refine⟨_,n,a,rfl,λb Q=>?_,M.mono (Xx (Same.refl _) λb _ _ z y=>z (C b y)) λ_ _ _ q=>q⟩;unfold off;rw[WH Q]
  |succ i=>
   have J:=get i s h;obtain⟨v,G,A⟩:=r.get J;refine⟨v,?_,?_⟩
   ·unfold L2.start;rw[Qj (by rw[W6,WV];have:=(WT.mp G).1;lia),WL,QB,G];rfl
   ·have:=L s (WZ J)
    cases s with
    |bor d=>exact A
    |sh d=>exact Rp.mono (Xx (Same.refl _) λb _ _ z y=>z (C b y)) A
    |_=>exact this.elim
def Mw(o:O)(R:O->D->Prop)(γ:Γ)(d:D):Prop:=∃f,γ[0]?=some (some<|.own f)/\o.from f/\R f d
def Zoe(o:O)(X:O->Str->Prop)(γ:Γ)(e:Str):Prop:=∃f,γ[0]?=some (some<|.own f)/\o.from f/\X f e
noncomputable def M1(o:O)(R:O->D->Prop)(X:O->Str->Prop):Nn:={nx:=λγ=>Mw o R γ .non,rt:=λ_=>False,ex:=Zoe o X,rv:=Mw o R}
def AS{σ'}{γ'}(n:OR K (off (λb=>B b\/o.adr a b) H) H a o)(e:Xn K (off (o.adr a) H) B H' σ' γ')(h:γ'[0]?=some (some<|.own o'))(k:o.from o'):After K B H a o o' H'/\∀b,B b\/o'.adr a b->zof B γ' σ' b:=by
 obtain⟨v,s,f,rfl,r,l⟩:=e.slot 0 _ h;have u:=O.from_at k n l;subst u;have g:∀b,B b\/o'.adr f b->zof B γ' σ' b:=λb z=>z.imp id λz=>⟨0,o',f,h,s,z⟩;refine⟨⟨e.same,O.from_adr k,λb p=>?_,l.mono (Xx (Same.refl _) λb _ _ z y=>z (g b y)) λ_ _ _ q=>q⟩,g⟩
 have:=r b p
 unfold off at this;by_cases q:o.adr f b
 ·exact .inl q
 ·grind
def Zmy{t p vs Q Y n}(h:spW mg c K vs H Q Y)(L:Xy K mg (λ_=>Y) t p)(hn:n+1<=N.length)(M:∀o u R X,c o u R X->u.length=n/\p (M1 o R X) (Nc N o u)):t {nx:=λ_ H'=>Q .non H',rt:=Q} (start N vs) H:=by
 obtain⟨o,a,u,us,B,R,X,rfl,U,J,r,hf,hc,T,hX⟩:=h;obtain⟨e,M⟩:=M o u R X hc;refine L _ B H _ _ _ _ (λb z=>?_) (Zq4 U J r hf<|by rw[e];exact hn) M ⟨λl s H' C G f1=>?_,λ_ _ _ z=>z.elim,λl s c H' C G f1=>?_,λ_ _ _ z=>z.elim,λ_ _ _ z=>z.elim,λl s d v H' C G f1 rd=>?_⟩
 ·obtain⟨g,f⟩:=U b z;obtain⟨x,hx⟩:=T6 g;exact⟨x,XQ hx f⟩
 ·obtain⟨A,g,f,w⟩:=C;exact T A .non .non H' w (AS J G g f).1 .non
 ·obtain⟨A,g,f,w⟩:=C;exact hX A c H' w (AS J G g f).1
 ·obtain⟨A,g,f,w⟩:=C;obtain⟨k1,k2⟩:=AS J G g f;exact T A d v H' w k1 (Rp.mono (Xx (Same.refl _) λb _ _ z y=>z (k2 b y)) rd)
def Zcd(h:spW mg c K vs H Q s)(g:∀o f R X,c o f R X->f.length=n):vs.length=n+1:=by
 obtain⟨o,a,f,p,B,R,X,rfl,_,_,r,_,l,_⟩:=h;rw[WV,r.len,g o f R X l]
abbrev PTW:=Γ->(Γ->D->Prop)->(Γ->Str->Prop)->Prop
def PH(K:ZU)(mg:ZY)(E:L2.St->XK)(t:TE)(p:PTW):Prop:=∀(H0:Hp) (B:Addr->Prop) (H:Hp) (σ:L2.St) (γ:Γ) (R:Γ->D->Prop) (X:Γ->Str->Prop) (Q:VK),(∀b,B b->∃o,H0 b=some o)->Xn K H0 B H σ γ->p γ R X->
 (∀f d v H',R f d->Xn K H0 B H' σ f->Fr B H σ γ H' σ f->Rp K (off (zof B f σ) H') d v->Q v H')->(∀f c H',X f c->Xn K H0 B H' σ f->Fr B H σ γ H' σ f->XE mg (E σ) c H')->t σ H Q
variable {te:TE}{w:PTW}
noncomputable def Zqm(w:PTW)(g:PTG):PTS:=λR γ=>w γ (λf d=>g (.sh d) f R.nx) R.ex
def Zii(hw:PH K mg E te w)(s:Nl K M g r):Xy K mg E (NT te g) (Zqm w r):=by
 intro H0 B H σ γ R D x o h e;refine hw H0 B H σ γ _ _ _ x o h (λf d v H1 z J f1 p=>?_) λf c H' u L C=>e.ex σ f c H' u L C;exact s H0 B H1 H1 σ f (.sh d) v _ _ J (Same.refl _) p z λl n y G A _=>e.nx l n H1 y G (f1.trans A)
noncomputable def Zbf(w:PTW):PTS:=λR γ=>w γ (λf _=>R.nx f) R.ex
def Nv(hw:PH K mg E te w):Xy K mg E (SM te) (Zbf w):=by
 intro H0 B H σ γ R D n g h e;exact hw H0 B H σ γ _ _ _ n g h (λf d v H1 o r f1 _=>e.nx σ f H1 o r f1) λf c H' l s p=>e.ex σ f c H' l s p
noncomputable def Zd2(w:PTW):PTS:=λR γ=>w γ R.rv R.ex
def Tp(hw:PH K mg E te w):Xy K mg E (Si te) (Zd2 w):=by
 intro H0 B H σ γ R D o g h e;exact hw H0 B H σ γ _ _ _ o g h (λf d v H1 p s f1 l=>e.rv σ f d v H1 p s f1 l) λf c H' n u r=>e.ex σ f c H' n u r
noncomputable def Zjy(a:PTE):PTS:=λR γ=>a γ (λs=>match s.shd with|some d=>R.rv γ d|none=>False) (R.ex γ)
def BZ(r:Xj K mg E te a):Xy K mg E (Si te) (Zjy a):=by
 intro H0 B H σ γ R D x f h e;refine r H0 B H σ γ _ _ _ f h (λs v H1 l g o=>?_) λc H' p n=>e.ex σ γ c H' p (f.grow n) (Fr.grow n);split at l
 ·rename_i d u;exact e.rv σ γ d v H1 l (f.grow g) (Fr.grow g) (o.shd (f.grow g).same f.zm g u)
 ·grind
def Zmu{s f:S}(h:s.pass=some f):f.flat:=by
 cases s with
 |bor d=>unfold S.pass at h;cases q:imm d<;>simp[q]at h<;>subst h<;>trivial
 |tmp d=>
  unfold S.pass at h;cases q:imm d<;>simp[q]at h
  subst h;trivial
 |view o=>cases h
 |_=>cases h;trivial
theorem Bm:∀{g f:List S},passes g=some f->∀s∈f,s.flat
 |[],_,h=>by cases h;simp
 |s::r,_,h=>by
  unfold passes at h;split at h
  ·rename_i o p n l;cases h
   intro x hx;rcases WU.mp hx with rfl|hx
   ·exact Zmu n
   ·exact Bm l x hx
  ·grind
def TV.pass {v P W f} (p:Same H0 H') (l:∀b,Z b->Mut (H b)) (u:Same H H') (n:Same H0 (off P f)) (hs:Same (off Z H') (off W f)) (h:TV K Z H0 H H' s v) (e:s.pass=some g):TV K W (off P f) f f g v:=by
 have shd:∀d,s.shd=some d->Rp K (off W f) d v:=λd r=>Rp.mono hs (h.shd p l u r);cases s with
 |view o=>cases e
 |tmp d=>
  unfold S.pass at e;cases q:imm d with
  |false=>simp_all
  |true=>simp[q]at e;subst e;exact shd d (by unfold S.shd;simp[q])
 |bor d=>
  unfold S.pass at e;cases q:imm d with
  |false=>simp[q]at e;subst e;exact Rp.mono n h
  |true=>simp[q]at e;subst e;exact shd d (by unfold S.shd;simp[q])
 |_=>cases e;exact shd _ rfl
theorem TVs.pass {HB} (o:Same H0 H') (l:∀b,Z b->Mut (H b)) (p:Same H H') (n:Same H0 (off P HB)) (hs:Same (off Z H') (off W HB)):∀{g f}{vs:List V},TVs K Z H0 H H' g vs->passes g=some f->TVs K W (off P HB) HB HB f vs
 |_,_,_,.nil,e=>by cases e;exact .nil
 |_,_,_,.cons h r,e=>by
  unfold passes at e;split at e
  ·rename_i v x u s;cases e
   exact .cons (h.pass o l p n hs u) (TVs.pass o l p n hs r s)
  ·grind
def Ew{c:Pw}{i:Nat}{o:O}{a:Addr}{ss l:List S}{us:List V}{R:Γ->D->Prop}{X:Γ->Str->Prop}{Q:VK}{Ec:XK}(env:Xn K H0 B H σ γ)(hB:∀b,B b->∃o,H0 b=some o)(U:Same H H1)(L:γ[i]?=some (some<|.own o))(G:σ[i]?=some (some<|.ref a))(t1:TVs K (zof B γ σ) H0 H H1 ss us)(hp:passes ss=some l)(hc:c o l (λo' d=>R (γ.set i<|some<|.own o') d) (λo' e=>X (γ.set i<|some<|.own o') e))(q:∀f d v H',R f d->Xn K H0 B H' σ f->Fr B H σ γ H' σ f->Rp K (off (zof B f σ) H') d v->Q v H')(qx:∀f c H',X f c->Xn K H0 B H' σ f->Fr B H σ γ H' σ f->XE mg Ec c H'):spW mg c K (.ref a::us) H1 Q Ec:=by
 have g:=env.grow U;obtain⟨v,h1,T,ev,h3,h4⟩:=g.slot i _ L;rw[G]at h1;cases h1
 cases ev
 have Y:∀b,o.adr a b->zof B γ σ b:=λb p=>.inr ⟨i,o,a,L,G,p⟩
 have J:∀o' H',After K (λb=>zof B γ σ b/\¬o.adr a b) H1 a o o' H'->Xn K H0 B H' σ (γ.set i<|some<|.own o')/\Fr B H σ γ H' σ (γ.set i<|some<|.own o')/\∀b x,H' b=some x->¬((zof B γ σ b/\¬o.adr a b)\/o'.adr a b)->¬zof B (γ.set i<|some<|.own o') σ b:=λo' H' A=>by
  have C:∀b x,H' b=some x->¬((zof B γ σ b/\¬o.adr a b)\/o'.adr a b)->¬zof B (γ.set i<|some<|.own o') σ b:=λb x _ n z=>by
   rcases z with z|⟨j,fs,T,e1,M,N⟩
   ·refine n (.inl ⟨.inl z,λw=>?_⟩);obtain⟨u,hu⟩:=hB b z;rw[h3 b w]at hu;cases hu
   ·rcases XN e1 with⟨ej,q,_⟩|⟨nj,q⟩
    ·subst ej;cases q
     rw[G]at M;cases M
     exact n (.inr N)
    ·exact n (.inl ⟨.inr ⟨j,fs,T,q,M,N⟩,λw=>nj (env.own j i T a fs o b q L M G N w)⟩)
  obtain⟨s,r⟩:=g.change (o':=o') (H':=H') L G (λb x hx n=>A.same b x (XQ hx n)) (λb p=>A.at_.mut b (A.old b p)) A.new (A.at_.mono (Xx (Same.refl _) λb x hx z=>C b x hx z) λ_ _ _ q=>q);exact⟨s,(Fr.grow U).trans r,C⟩
 refine⟨o,a,l,us,λb=>zof B γ σ b/\¬o.adr a b,_,_,rfl,λb p=>⟨g.zm b p.1,p.2⟩,h4.mono (Xx (Same.refl _) λb _ _ z y=>z (y.elim (λy=>y.1)<|Y b)) λ_ _ _ q=>q,?_,Bm hp,hc,λo' d v H' hR A rd=>?_,λo' e H' hX A=>?_⟩
 ·refine t1.pass g.same env.zm U (λb x hx=>XQ (g.same b x hx) λw=>?_) (Xx (Same.refl _) λb _ _ z y=>z (y.elim (λy=>y.1)<|Y b)) hp;rw[h3 b w]at hx;cases hx
 ·obtain⟨s,r,k3⟩:=J o' H' A;exact q _ d v H' hR s r (Rp.mono (λb x h=>let ⟨p1,p2⟩:=PX h;XQ p1 (k3 b x p1 p2)) rd)
 ·obtain⟨s,r,_⟩:=J o' H' A;exact qx _ e H' hX s r
noncomputable def Zrx(i:Nat)(c:Pw)(r:PTA):PTW:=λγ R X=>match γ[i]? with
 |some (some<|.own o)=>r γ (λh=>match passes h with|some f=>c o f (λg d=>R (γ.set i<|some<|.own g) d) (λg e=>X (γ.set i<|some<|.own g) e)|none=>False) (X γ)
 |_=>False
noncomputable def Mt(i:Nat)(c:Pw)(r:PTA):PTW:=λγ R X=>match γ[i]? with
 |some (some<|.own o)=>r γ (λg=>match passes g with|some f=>c o f (λh d=>R (γ.set i<|some<|.own h) d) (λ_ _=>False)|none=>False) (X γ)
 |_=>False
def Zf4(i:Nat){c g r}(C:X6 K mg E g r):PH K mg E (Nm (spW mg c K) [] E0<|Kg (K7 i) g) (Mt i c r):=by
 intro H0 B H σ γ R X Q J f h q A;unfold Mt at h;split at h
 ·rename_i o n;obtain⟨v,l,a,rfl,_,_⟩:=f.slot i _ n;refine⟨_,l,C H0 B H σ γ _ _ _ f h (λN u H1 p M x=>?_) λc H' G s=>A γ c H' G (f.grow s) (Fr.grow s)⟩;show spW mg c K ((V.ref a::u)++[]) H1 Q E0;rw[Qv];split at p
  ·rename_i y L;exact Ew (X:=λ_ _=>False) f J M n l x L p q λ_ _ _ z=>z.elim
  ·grind
 ·grind
def LA(C:Addr)(xs:Yd)(j:Nat):S->(S->Prop)->Prop
 | .view (.ins _ g f l),R=>g=C/\f=xs/\∃c,l[j]?=some c/\R (.view<|.lst c.2)
 | .bor (.ins g f h),R=>g=C/\f=xs/\∃d,h[j]?=some d/\R (arg d)
 |_,_=>False
noncomputable def Zfc(C:Addr)(xs:Yd)(j:Nat)(a:PTE):PTE:=λγ R X=>a γ (λs=>LA C xs j s R) X
def Rp.ins_inv (h:Rp K H (.ins C xs ds) v):∃a f vs,v=.ref a/\H a=some (.ins C f<|xs.zip vs)/\xs.length=vs.length/\Rps K H ds vs:=by
 cases h with
 |ins h e r=>grind
def FldAt(f:Str)(xs:Yd)(j:Nat):Prop:=∀g:List V,xs.length=g.length->(xs.zip g).lookup f=g[j]?
def BR(j:Nat){a}(L:Cls K C)(G:NoAttr K C f)(J:FldAt f xs j)(ha:Xj K mg E te a):Xj K mg E (Ar K te f) (Zfc C xs j a):=by
 intro H0 B H σ γ R X Q l p q qx;refine ha H0 B H σ γ _ X _ l p (λs v H1 h z A=>?_) qx;have g:=l.grow z;unfold LA at h;split at h
 ·rename_i x C' n cs;obtain⟨rfl,rfl,c,M,o⟩:=h;obtain⟨b,rfl,T,N,⟨y,r⟩,e4,e5⟩:=A;obtain⟨U,u1,Y⟩:=e4 c (WZ M);refine⟨b,_,y,_,_,rfl,r,L,G,?_,q _ _ H1 o z ⟨c.1,rfl,U,u1,Y⟩⟩;rw[J _ (by grind),WL,M];rfl
 ·rename_i C' n ds;obtain⟨rfl,rfl,d,ed,o⟩:=h;obtain⟨b,y,vs,rfl,T,N,r⟩:=Rp.ins_inv A;obtain⟨u,hu,ru⟩:=r.get ed;refine⟨b,_,y,_,u,rfl,g.same _ _ T,L,G,by rw[J _ N];exact hu,q _ _ H1 o z (Sx g.zm g.same ru)⟩
 ·exact h.elim
noncomputable def Hz(C:Addr)(xs:Yd)(c:Pc)(a:PTE)(r:PTA):PTE:=λγ R X=>a γ (λs=>match s.d with
 | .ins g f l=>g=C/\f=xs/\r γ (λh=>c (.ins g f l::h.map S.d) (λs=>R s.back) X) X
 |_=>False) X
def NoFld(m:Str)(xs:Yd):Prop:=∀f:List V,(xs.zip f).lookup m=none
noncomputable def AD(C:Addr)(m:Str)(sp:Sp)(E:L2.St->XK)(g:TE)(t:TA):TE:=λσ H Q=>g σ H λx H1=>∃a h fs,x=.ref a/\H1 a=some (.ins C h fs)/\fs.lookup m=none/\t σ H1 λf l=>sp (x::(f++[])) l Q (E σ)
def BL{m xs c z a r}(hx:NoFld m xs)(ha:Xj K mg E te a)(T:X6 K mg E z r):Xj K mg E (AD C m (Xq mg c K) E te z) (Hz C xs c a r):=by
 intro H0 B H σ γ R X Q h p q y;refine ha H0 B H σ γ _ X _ h p (λs v H1 o n M=>?_) y;have f:=h.grow n;split at o
 ·rename_i C' A ds ed;obtain⟨rfl,rfl,o⟩:=o;have x:=M.rp f.same;rw[ed]at x;obtain⟨b,dx,G,rfl,e1,e2,e3⟩:=Rp.ins_inv x;refine⟨b,dx,_,rfl,e1,hx G,T H0 B H1 σ γ _ X _ f o (λss us H2 h2 l L=>?_) λc H' Y S'=>y c H' Y (n.trans S')⟩;have g:=f.grow l;rw[Qv];refine⟨_,_,X,Rps.cons (Rp.mono l x) (L.rps g.same),h2,λs v H' N u J=>q _ _ H' N ((n.trans l).trans u) (J.back g (n.trans l) u),λe H' U u=>y e H' U ((n.trans l).trans u)⟩
 ·grind
def NB{m xs c g a r f}(hx:NoFld m xs)(l:Xj K mg (λ_=>f) te a)(h:X6 K mg (λ_=>f) g r):Xj K mg (λ_=>f) (Nr C m (Xq mg c K) [] f te g) (Hz C xs c a r):=BL hx l h
noncomputable def Zjj(C:Addr)(xs:Yd)(c:Pc)(a:PTE)(r:PTA):PTE:=λγ R X=>a γ (λs=>match s.d with
 | .ins g f l=>g=C/\f=xs/\r γ (λh=>c (.ins g f l::h.map S.d) (λs=>R s.back) λ_=>False) X
 |_=>False) X
def Kc{m xs c x a r}(hx:NoFld m xs)(ha:Xj K mg E te a)(U:X6 K mg E x r):Xj K mg E (Nr C m (Xq mg c K) [] E0 te x) (Zjj C xs c a r):=by
 intro H0 B H σ γ R X Q h p q y;refine ha H0 B H σ γ _ X _ h p (λs v H1 l o N=>?_) y;have f:=h.grow o;split at l
 ·rename_i C' G ds ed;obtain⟨rfl,rfl,l⟩:=l;have u:=N.rp f.same;rw[ed]at u;obtain⟨b,dx,J,rfl,e1,e2,e3⟩:=Rp.ins_inv u;refine⟨b,dx,_,rfl,e1,hx J,U H0 B H1 σ γ _ X _ f l (λss us H2 h2 n M=>?_) λc H' Y S'=>y c H' Y (o.trans S')⟩;have g:=f.grow n;rw[Qv];exact⟨_,_,_,Rps.cons (Rp.mono n u) (M.rps g.same),h2,λs v H' T A L=>q _ _ H' T ((o.trans n).trans A) (L.back g (o.trans n) A),λ_ _ z=>z.elim⟩
 ·grind
noncomputable def Dc(i:Nat)(C:Addr)(xs:Yd)(c:Pw)(r:PTA):PTW:=λγ R X=>match γ[i]? with
 |some (some<|.own<|.ins x l f o)=>l=C/\f=xs/\r γ (λn=>match passes n with|some g=>c (.ins x l f o) g (λh d=>R (γ.set i<|some<|.own h) d) (λh e=>X (γ.set i<|some<|.own h) e)|none=>False) (X γ)
 |_=>False
def Zlw(i:Nat){C m xs c g r}(hx:NoFld m xs)(A:X6 K mg E g r):PH K mg E (AD C m (spW mg c K) E (K7 i) g) (Dc i C xs c r):=by
 intro H0 B H σ γ R X Q J f h q l;unfold Dc at h;split at h
 ·rename_i x C' u cs o;obtain⟨rfl,rfl,h⟩:=h;obtain⟨v,n,a,rfl,_,e1,e2,⟨N,M⟩,e4⟩:=f.slot i _ o;refine⟨_,n,a,N,_,rfl,M,hx _,A H0 B H σ γ _ _ _ f h (λY U H1 p T y=>?_) λc H' G s=>l γ c H' G (f.grow s) (Fr.grow s)⟩;rw[Qv];split at p
  ·rename_i z L;exact Ew f J T o n y L p q l
  ·grind
 ·grind
def BJ(i:Nat){C m xs c g r f}(hx:NoFld m xs)(h:X6 K mg (λ_=>f) g r):PH K mg (λ_=>f) (Nr C m (spW mg c K) [] f (K7 i) g) (Dc i C xs c r):=Zlw i hx h
noncomputable def GF(i:Nat)(C:Addr)(xs:Yd)(c:Pw)(r:PTA):PTW:=λγ R X=>match γ[i]? with
 |some (some<|.own<|.ins x h f o)=>h=C/\f=xs/\r γ (λl=>match passes l with|some g=>c (.ins x h f o) g (λn d=>R (γ.set i<|some<|.own n) d) (λ_ _=>False)|none=>False) (X γ)
 |_=>False
def Sd(i:Nat){C m xs c g r}(hx:NoFld m xs)(G:X6 K mg E g r):PH K mg E (Nr C m (spW mg c K) [] E0 (K7 i) g) (GF i C xs c r):=by
 intro H0 B H σ γ R X Q L f h q A;unfold GF at h;split at h
 ·rename_i x C' s cs n;obtain⟨rfl,rfl,h⟩:=h;obtain⟨v,l,a,rfl,_,e1,e2,⟨T,N⟩,e4⟩:=f.slot i _ n;refine⟨_,l,a,T,_,rfl,N,hx _,G H0 B H σ γ _ _ _ f h (λss Y H1 o U u=>?_) λc H' J p=>A γ c H' J (f.grow p) (Fr.grow p)⟩;rw[Qv];split at o
  ·rename_i y M;exact Ew (X:=λ_ _=>False) f L U n l u M o q λ_ _ _ z=>z.elim
  ·grind
 ·grind
theorem GI{g:Type}:∀{l:List g}{i j:Nat}{x:g},l.Nodup->l[i]?=some x->l[j]?=some x->i=j
 |[],_,_,_,_,h,_=>by simp at h
 |y::r,0,0,_,_,_,_=>rfl
 |y::r,0,j+1,x,f,o,n|y::r,i+1,0,x,f,o,n=>by
  grind
 |y::r,i+1,j+1,x,f,o,n=>Q2 (· + 1) (GI (Qw.mp f).2 (by trivial)<|by grind)
def Xn.cell {f b ds es us} (env:Xn K H0 B H σ γ) (L:γ[i]?=some (some<|.own<|.ins x C xs f)) (s:f[j]?=some (b,ds)) (r:Rps K (off (zof B γ σ) H) es us) :
  Xn K H0 B (upd H b<|.lst us) σ (γ.set i<|some<|.own<|.ins x C xs<|f.set j (b,es))/\Fr B H σ γ (upd H b<|.lst us) σ (γ.set i<|some<|.own<|.ins x C xs<|f.set j (b,es)):=by
 obtain⟨v,Y,a,rfl,e0,e1,e2,⟨dx,e3⟩,e4,e5⟩:=env.slot i _ L;subst e1;have l:=WZ s
 have M:a≠b:=λz=>by
  obtain⟨T,o,_⟩:=e4 _ l;rw[←show a=b from z,e3]at o
  cases o
 have em:(f.set j (b,es)).map (·.1)=f.map (·.1):=by
  apply JX;intro k;rw[WL,WL,List.getElem?_set];by_cases e:j=k
  ·subst e;rw[WH rfl,WH ((WT.mp s).1),s];rfl
  ·rw[WG e]
 have N:(f.set j (b,es)).map (λc=>V.ref c.1)=f.map λc=>V.ref c.1:=by
  have:=Q2 (List.map V.ref) em
  rw[Qr,Qr]at this;exact this
 have adr:∀c,(O.ins a C xs<|f.set j (b,es)).adr a c->(O.ins a C xs f).adr a c:=λc g=>by
  rcases g with g|⟨d,hd,g⟩
  ·exact .inl g
  ·have:d.1∈(f.set j (b,es)).map (·.1):=JG hd
   rw[em]at this;obtain⟨d',A,p⟩:=Qk.mp this;exact .inr ⟨d',A,g.trans p.symm⟩
 have y:∀c,(O.ins a C xs f).adr a c->zof B γ σ c:=λc g=>.inr ⟨i,_,a,L,Y,g⟩
 have So:Same (off (zof B γ σ) H) (off (zof B (γ.set i<|some<|.own<|.ins a C xs<|f.set j (b,es)) σ)<|upd H b<|.lst us):=λc u h=>by
  obtain⟨A,p⟩:=PX h;have G:=λz=>p (y c<|.inr ⟨_,l,z⟩);refine XQ (by rw[Xs G];exact A) λz=>p ?_;rcases z with z|⟨k,fs,a',k1,k2,U⟩
  ·exact .inl z
  ·rcases XN k1 with⟨Q,q,_⟩|⟨_,q⟩
   ·subst Q;cases q
    exact y c (adr c U)
   ·exact .inr ⟨k,fs,a',q,k2,U⟩
 refine env.change L Y (λc u hu n=>?_) (λc g=>?_) (λc g=>.inl (adr c g)) ⟨rfl,by rw[Q9];exact e2,⟨dx,?_⟩,λc g=>?_,by rw[em];exact e5⟩
 ·rw[Xs λz=>n (.inr ⟨_,l,z⟩)];exact hu
 ·by_cases z:c=b
  ·rw[z,X5];trivial
  ·rw[Xs z];exact env.zm c (y c g)
 ·rw[Xs M,N];exact e3
 ·obtain⟨k,hk,Q⟩:=List.getElem_of_mem g;have J:(f.set j (b,es))[k]?=some c:=by rw[W8 hk,Q]
  rcases XN J with⟨_,q,_⟩|⟨nk,q⟩
  ·subst q;exact⟨us,X5,Rps.mono So r⟩
  ·obtain⟨T,o,w2⟩:=e4 c (WZ q)
   have G:=λz=>nk (by
    have h1:(f.map (·.1))[k]?=some b:=by rw[WL,q];exact Q2 some z
    have h2:(f.map (·.1))[j]?=some b:=by rw[WL,s];rfl
    exact GI e5 h1 h2)
   exact⟨T,by rw[Xs G];exact o,Rps.mono So w2⟩
noncomputable def Gw(i j:Nat)(C:Addr)(xs:Yd)(a:PTE):PTW:=λγ R X=>match γ[i]? with
 |some (some<|.own<|.ins x h f g)=>h=C/\f=xs/\∃c,g[j]?=some c/\a γ (λs=>match s.shd with
  |some d=>c.2.length<10000000/\R (γ.set i<|some<|.own<|.ins x h f<|g.set j (c.1,c.2++[d])) .non
  |none=>False) (X γ)
 |_=>False
def Df(i j:Nat){C f xs a}(p:Cls K C)(hn:NoAttr K C f)(hj:FldAt f xs j)(ha:Xj K mg E te a):PH K mg E (tBM K "list" Ef (Ar K (K7 i) f)<|Kg te KE) (Gw i j C xs a):=by
 intro H0 B H σ γ R X Q hB g h q T;unfold Gw at h;split at h
 ·rename_i x C' M cs J;obtain⟨rfl,rfl,c,r,h⟩:=h;obtain⟨v,hv,b,rfl,_,e1,e2,⟨dx,e3⟩,e4,e5⟩:=g.slot i _ J;obtain⟨y,G,A⟩:=e4 c (WZ r);refine⟨_,hv,b,_,dx,_,V.ref c.1,rfl,e3,p,hn,?_,.inl ⟨rfl,y,SqL.of G⟩,ha H0 B H σ γ _ _ _ g h (λs u H1 o n N=>?_) λc H' p L=>T γ c H' p (g.grow L) (Fr.grow L)⟩
  ·rw[hj _ (by grind),WL,r];rfl
  ·have l:=g.grow n;split at o
   ·rename_i d ed;refine⟨c.1,y,u,rfl,rfl,n _ _ G,by rw[A.len];exact VG o.1 (by decide),?_⟩;obtain⟨Y,U⟩:=l.cell J r (Rps.append (Rps.mono (Xx n λ_ _ _ z=>z) A)<|.cons (N.shd l.same g.zm n ed) .nil);exact q _ _ _ _ o.2 Y ((Fr.grow n).trans U) .non
   ·exact o.elim
 ·exact h.elim
noncomputable def OF(i j:Nat)(C:Addr)(xs:Yd):PTW:=λγ R _=>match γ[i]? with
 |some (some<|.own<|.ins x h f g)=>h=C/\f=xs/\∃c d,g[j]?=some c/\c.2[c.2.length-1]?=some d/\R (γ.set i<|some<|.own<|.ins x h f<|g.set j (c.1,c.2.dropLast)) d
 |_=>False
def Rps.dropLast:∀{ds}{vs:List V},Rps K H ds vs->Rps K H ds.dropLast vs.dropLast:=by
 intro ds
 induction ds with
 |nil=>
  intro _ h;cases h
  exact .nil
 |cons _ _ f=>
  intro _ h;cases h with
  |cons h r=>
   cases r with
   |nil=>exact .nil
   |cons c e=>exact .cons h (f<|.cons c e)
def En(i j:Nat){C f xs}(N:Cls K C)(L:NoAttr K C f)(M:FldAt f xs j):PH K mg E (Bz K "list" EV<|Ar K (K7 i) f) (OF i j C xs):=by
 intro H0 B H σ γ R X Q hB g h q qx;unfold OF at h;split at h
 ·rename_i x C' y cs s;obtain⟨rfl,rfl,c,d,n,T,h⟩:=h;obtain⟨v,G,b,rfl,_,e1,e2,⟨dx,Y⟩,U,e5⟩:=g.slot i _ s;obtain⟨o,p,l⟩:=U c (WZ n);obtain⟨u,J,z⟩:=l.get T;refine⟨_,G,b,_,dx,_,V.ref c.1,rfl,Y,N,L,?_,.inl ⟨rfl,o,SqL.of p⟩,c.1,o,u,rfl,rfl,p,by rw[l.len];exact J,?_⟩
  ·rw[M _ (by grind),WL,n];rfl
  ·obtain⟨A,r⟩:=g.cell s n (Rps.dropLast l);exact q _ _ _ _ h A r (Rp.mono r.off z)
 ·grind
def PutAt(f:Str)(xs:Yd):Prop:=∀(g:List V) (y:V),xs.length=g.length->KF f y (xs.zip g)=(xs++[f]).zip (g++[y])
noncomputable def Zoo(i:Nat)(C:Addr)(f:Str)(xs:Yd)(a:PTE):PTS:=λR γ=>a γ (λs=>match s with
 | .own (.lst l)=>(match γ[i]? with
  |some (some<|.own<|.ins x h g n)=>h=C/\g=xs/\xs.length<1000/\∀b,R.nx (γ.set i<|some<|.own<|.ins x h (xs++[f]) (n++[(b,l)]))
  |_=>False)
 |_=>False) (R.ex γ)
def Co(i:Nat){C f xs a}(g:Cls K C)(hn:NoAttr K C f)(hp:PutAt f xs)(ha:Xj K mg E te a):Xy K mg E (Oq K (K7 i) te f) (Zoo i C f xs a):=by
 intro H0 B H σ γ R D hB p h e;refine ha H0 B H σ γ _ _ _ p h (λs v H1 G Q t1=>?_) λc H' g S'=>e.ex σ γ c H' g (p.grow S') (Fr.grow S');split at G
 ·rename_i ds;split at G
  ·rename_i x M o r hi;obtain⟨rfl,rfl,hl,G⟩:=G;obtain⟨u,hv,b,rfl,e0,e1,e2,⟨dx,e3⟩,e4,e5⟩:=p.slot i _ hi;subst e1;obtain⟨l,rfl,L,vs,l1,l2⟩:=t1;have L:=L l rfl;refine⟨_,hv,b,_,dx,_,rfl,Q _ _ e3,g,hn,?_,?_⟩
   ·rw[List.length_zip,W6];lia
   ·rw[hp _ _ (by rw[W6];exact e2)]
    have nl:∀c∈r,c.1≠l:=λc g=>by
     obtain⟨ws,J,_⟩:=e4 c g;exact K8 J L
    have nb:∀c∈r,c.1≠b:=λc g z=>by
     obtain⟨ws,J,_⟩:=e4 c g;rw[z,e3]at J;cases J
    have T:∀c,(O.ins b M o r).adr b c->zof B γ σ c:=λc g=>.inr ⟨i,_,b,hi,hv,g⟩
    have key:∀c u,H1 c=some u->¬(zof B γ σ c\/c=l)->¬zof B (γ.set i<|some<|.own<|.ins b M (o++[f]) (r++[(l,ds)])) σ c:=λc u _ n z=>by
     rcases z with z|⟨k,fs,a',k1,N,A⟩
     ·exact n (.inl<|.inl z)
     ·rcases XN k1 with⟨ek,q,_⟩|⟨_,q⟩
      ·subst ek;cases q
       rw[hv]at N;cases N
       rcases A with A|⟨d,hd,A⟩
       ·exact n (.inl<|T c<|.inl A)
       ·rcases WO.mp hd with hd|hd
        ·exact n (.inl<|T c<|.inr ⟨d,hd,A⟩)
        ·rw[WB]at hd;subst hd;exact n (.inr A)
      ·exact n (.inl<|.inr ⟨k,fs,a',q,N,A⟩)
    have So:Same (off (λc=>zof B γ σ c\/c=l) H1) (off (zof B (γ.set i<|some<|.own<|.ins b M (o++[f]) (r++[(l,ds)])) σ)<|upd H1 b<|.ins M dx ((o++[f]).zip ((r.map λc=>V.ref c.1)++[.ref l]))):=λc u h=>by
     obtain⟨Y,U⟩:=PX h;exact XQ (by rw[Xs λz=>U (.inl<|T c<|.inl z)];exact Y) (key c u Y U)
    have S0:Same (off (zof B γ σ) H) (off (λc=>zof B γ σ c\/c=l) H1):=Xx Q λc u g z y=>y.elim z λy=>by rw[y,L]at g;cases g
    obtain⟨k1,N⟩:=p.change (o':=.ins b M (o++[f]) (r++[(l,ds)])) (H':=upd H1 b (.ins M dx ((o++[f]).zip ((r.map λc=>V.ref c.1)++[.ref l])))) hi hv
     (λc u hu n=>by rw[Xs λz=>n (.inl z)];exact Q _ _ hu)
     (λc g=>by
      by_cases z:c=b
      ·rw[z,X5];trivial
      ·rw[Xs z];exact(p.grow Q).zm c (T c g))
     (λc g=>by
      rcases g with g|⟨d,hd,g⟩
      ·exact .inl (.inl g)
      ·rcases WO.mp hd with hd|hd
       ·exact .inl (.inr ⟨d,hd,g⟩)
       ·rw[WB]at hd;subst hd;exact .inr (by rw[show c=l from g];exact L))
     ⟨rfl,by rw[WJ,WJ,e2];rfl,⟨dx,by rw[X5,WS];rfl⟩,λc g=>by
      rcases WO.mp g with g|g
      ·obtain⟨ws,J,w2⟩:=e4 c g;exact⟨ws,by rw[Xs (nb c g)];exact Q _ _ J,Rps.mono So (Rps.mono S0 w2)⟩
      ·rw[WB]at g;subst g;exact⟨vs,by rw[Xs (λz=>(K8 e3 L) z.symm)];exact l1,Rps.mono So l2⟩,by
      rw[WS,Q3]
      exact⟨e5,by simp,λc g d hd z=>by
       obtain⟨c',Y,U⟩:=Qk.mp g
       have:d=l:=by simpa using hd
       exact nl c' Y (U.trans<|z.trans this)⟩⟩
    exact e.nx _ _ _ (G l) k1 N
  ·exact G.elim
 ·exact G.elim
def Zfu{c}{M l}{us}{R:S->Prop}{X:XR}{Q:VK}{Ec}(env:Xn K H0 B H σ γ)(p:Same H H1)(T:TVs K (zof B γ σ) H0 H H1 M us)(N:passes M=some l)(h1:∀x,c (.ins x C [] []) l (λo' d=>d=.non/\R (.own o')) (λ_ e=>X e))(q:∀s v H',R s->Same H H'->TV K (zof B γ σ) H0 H H' s v->Q v H')(Y:∀c H',X c->Same H H'->XE mg Ec c H') :
  ∀x h,H1 x=none->H1 h=none->h≠x->spW mg c K (.ref x::us) (upd (upd H1 h<|.own x) x<|.ins C h []) (λv H2=>v=.non/\Q (.ref x) H2) Ec:=by
 have f:=env.grow p;intro x h n J nex
 have u:Same H1 (upd (upd H1 h<|.own x) x<|.ins C h []):=λb o e=>by
  rwa[Xs (K8 e n),Xs (K8 e J)]
 have r:∀o' H',After K (zof B γ σ) (upd (upd H1 h<|.own x) x<|.ins C h []) x (.ins x C [] []) o' H'->Same H1 H'/\∀b,o'.adr x b->H b=none:=λo' H' A=>by
  refine⟨λb o e=>A.same b o (XQ (u b o e) λz=>?_),λb G=>?_⟩
  ·rcases z with z|⟨c,g,_⟩
   ·rw[z,n]at e;cases e
   ·cases g
  ·rcases A.new b G with(z|⟨c,g,_⟩)|z
   ·rw[z];exact p.free n
   ·cases g
   ·exact p.free (u.free z)
 refine⟨.ins x C [] [],x,l,us,zof B γ σ,_,_,rfl,λb G=>⟨Te u (f.zm b G),λz=>?_⟩,⟨rfl,rfl,⟨h,X5⟩,(λc g=>by cases g),Vz⟩,?_,Bm N,h1 x,λo' d v H' L A U=>?_,λo' e H' hX A=>?_⟩
 ·rcases z with z|⟨c,g,_⟩
  ·have:=f.zm b G
   rw[z,n]at this;exact this
  ·cases g
 ·refine T.pass f.same env.zm p (λb o e=>XQ (u _ _<|f.same b o e) λz=>?_) (Xx u λb o e z y=>?_) N
  ·rcases z with z|⟨c,g,_⟩
   ·rw[z,(f.same).free n]at e;cases e
   ·cases g
  ·rcases y with y|y|⟨c,g,_⟩
   ·exact z y
   ·rw[y,n]at e;cases e
   ·cases g
 ·obtain⟨rfl,L⟩:=L;obtain⟨k1,k2⟩:=r o' H' A;exact⟨Rp.non_inv U,q _ _ H' L (p.trans k1) ⟨x,rfl,k2,A.at_⟩⟩
 ·exact Y e H' hX (p.trans (r o' H' A).1)
noncomputable def Zd0(C:Addr)(c:Pw)(r:PTA):PTE:=λγ R X=>r γ (λg=>match passes g with|some f=>∀x,c (.ins x C [] []) f (λh d=>d=.non/\R (.own h)) (λ_ _=>False)|none=>False) X
def Zb6{g r}(s:X6 K mg E g r):Xj K mg E (DO C (spW mg c K) [] E0 g) (Zd0 C c r):=by
 intro H0 B H σ γ R X Q f p q o;refine s H0 B H σ γ _ X _ f p (λy x H1 h v l=>?_) o;split at h
 ·rename_i n u;rw[Qv];exact Zfu f v l u h q λ_ _ z=>z.elim
 ·grind
end
def Ba{f:Type}{us:List f}(h:us.length=1):∃a,us=[a]:=List.length_eq_one_iff.mp h
def Bt{f:Type}{us:List f}(h:us.length=2):∃a b,us=[a,b]:=by
 cases us with
 |nil=>grind
 |cons a r=>obtain⟨b,rfl⟩:=Ba (by simpa using h);exact⟨a,b,rfl⟩
def F7{f:Type}{us:List f}(h:us.length=3):∃a b c,us=[a,b,c]:=by
 cases us with
 |nil=>grind
 |cons a r=>obtain⟨b,c,rfl⟩:=Bt (by simpa using h);exact⟨a,b,c,rfl⟩
def Ez{f:Type}{us:List f}(h:us.length=4):∃a b c d,us=[a,b,c,d]:=by
 cases us with
 |nil=>grind
 |cons a r=>obtain⟨b,c,d,rfl⟩:=F7 (by simpa using h);exact⟨a,b,c,d,rfl⟩
def Zrd{f:Type}{us:List f}(h:us.length=5):∃a b c d e,us=[a,b,c,d,e]:=by
 cases us with
 |nil=>grind
 |cons a r=>obtain⟨b,c,d,e,rfl⟩:=Ez (by simpa using h);exact⟨a,b,c,d,e,rfl⟩
structure X8 (K:ZU) (W:Addr->Prop) (x q:Str) (st:Stmt) (ps:Yd):Prop where
 ex:∃f fd,Fun K x q st f fd/\W f/\Binds K fd ps []
structure Pa (P:Program) (w:World) (K:ZU) (mg:ZY) (base:Heap) (CX:CXT) (k:Nat) (W:Addr->Prop) (ps:Yd) (sp:Sp):Prop where
 ex:∃f fd,KC P w K mg base CX k f fd ps sp/\W f/\Binds K fd ps []
section
variable {P:Program}{w:World}{K:ZU}{mg:ZY}{base:Heap}{W:Addr->Prop}
def X8.ok {st N ps k sp} (D:X8 K W x q st ps) (S:Xl N ps (Xk st)) (len:∀vs H Q E,sp vs H Q E->vs.length=ps.length)
  (l:∀f g A outer s H vs Q E,Xv k (A.deeper<|envOfC q (Xk st) s.heap.objs.size f g)->sp vs H Q E->
   ∃t,PSs (XT CX0 P w K mg base N q (Xk st) f g A outer s H E).nox (XJ st) t/\t {nx:=λ_ H'=>Q .non H',rt:=Q} (start N vs) H):Pa P w K mg base CX0 (k+1) W ps sp:=by
 obtain⟨f,r,F,o,p⟩:=D.ex;exact⟨f,r,F.ok S len λg A outer s H vs Q E n h=>l f g A outer s H vs Q E n h,o,p⟩
def X8.okX {st N ps k sp} (D:X8 K W x q st ps) (S:Xl N ps (Xk st)) (len:∀vs H Q E,sp vs H Q E->vs.length=ps.length)
  (h:∀f g A outer s H vs Q E,Xv k (A.deeper<|envOfC q (Xk st) s.heap.objs.size f g)->sp vs H Q E->
   ∃t,PSs (XT (ExcR.CXe P w) P w K mg base N q (Xk st) f g A outer s H E) (XJ st) t/\t {nx:=λ_ H'=>Q .non H',rt:=Q} (start N vs) H):Pa P w K mg base (ExcR.CXe P w) (k+1) W ps sp:=by
 obtain⟨f,C,F,u,v⟩:=D.ex;obtain⟨oc,B,kV,y,z,J,g,G,o,rfl,p,n⟩:=F.ex;exact⟨f,_,Cr p n S len λA outer s H vs Q E r l=>h f g A outer s H vs Q E r l,u,v⟩
def Nf:Pz (ExcR.CXe P w) X E0:=λ_ _ _ _ _ _ _ h=>by
 obtain⟨a,T,C,f,g,_,_,z⟩:=h
 grind
end
section
variable {X:Cx}{CX:CXT}{k:Nat}{Cc:Addr}{ps:Yd}{sp:Sp}{E:XK}{ES:L2.St->XK}{x m:Str}{p pos apos:Pos}{e o:Expr}{es:Ye}{ta:TE}{t:TA}
def T3{pl}(C:Pa X.prog X.w X.K X.mg X.base CX k (X9 X.K Cc m) ps sp)(c:Cls X.K Cc)(r:Xv k X.A)(hx:Pz CX X E)(u:PE X o ta)(y:PA X (e::es) t)(g:autoParam (starEach (e::es) X.env=(false,eval e X.env)::starEach es X.env) au_0)(h:autoParam ((backTo pos<|starEach es X.env).any (·.1)=false) au_0)
  (n:autoParam (eval (.Call (.Attribute o m apos) (e::es) [] pos) X.env=(do
   let l ←eval o X.env
   standAt apos.atName
   let (f,first) ←holding [l] (getMethod l m pl)
   callWith pos f first (backTo pos<|starEach (e::es) X.env) (backToKw pos<|keywordEach [] X.env))) au_0) :
  PE X (.Call (.Attribute o m apos) (e::es) [] pos) (Nr Cc m sp [] E ta t):=by
 obtain⟨f,z,F,s,v⟩:=C.ex;exact Zow u c s F r v .nil hx y g h n
def XC(C:Pa X.prog X.w X.K X.mg X.base CX k (X9 X.K Cc m) ps sp)(c:Cls X.K Cc)(l:Xv k X.A)(hx:Pz CX X E)(r:PE X o ta)
  (h:autoParam (eval (.Call (.Attribute o m apos) [] [] pos) X.env=(do
   let g ←eval o X.env
   standAt apos.atName
   let (f,first) ←holding [g] (getMethod g m u)
   callWith pos f first (backTo pos<|starEach [] X.env) (backToKw pos<|keywordEach [] X.env))) au_0) :
  PE X (.Call (.Attribute o m apos) [] [] pos) (Nr Cc m sp [] E ta KE):=by
 obtain⟨f,v,F,n,s⟩:=C.ex;exact Zg6 r c n F l s .nil hx h
def Zpw{g:L2.St}{H}{s}{Q}{us}{vs}(F:KC X.prog X.w X.K X.mg X.base CX k f B ps sp)(n:Xv k X.A)(y:Binds X.K B ps [])(hx:ExcR.A8 CX X ES)(I:Inv X pins g H s)(r:Vals vs us)(h:sp vs H Q (ES g)):wpAny (model X.prog X.w) X.A (call (.ref f) us) (EP X pins g Q) X.xe s:=by
 have v:(us++[]).length=ps.length:=by rw[Qv,←r.length];exact F.len _ _ _ _ h
 refine J2 (Vm (F.run X.A X.stack s H ⟨us,[]⟩ (us++[]) vs Q (ES g) n I.env0 (y s us I.kIn v) (by grind) h) λr l hq=>?_);cases r with
 |error e=>exact hx pins g H s e l I hq
 |ok z=>
  cases z with
  |ret u=>exact I.after hq
  |cont=>exact False.elim hq
  |_=>trivial
def F1(C:Pa X.prog X.w X.K X.mg X.base CX k (X9 X.K Cc m) ps sp)(c:Cls X.K Cc)(B:Xv k X.A)(hx:ExcR.A8 CX X ES)(G:PE X o ta)
  (z:autoParam (eval (.Call (.Attribute o m apos) [] [] pos) X.env=(do
   let n ←eval o X.env
   standAt apos.atName
   let (f,first) ←holding [n] (getMethod n m N)
   callWith pos f first (backTo pos<|starEach [] X.env) (backToKw pos<|keywordEach [] X.env))) au_0) :
  PE X (.Call (.Attribute o m apos) [] [] pos) (AD Cc m sp ES ta KE):=by
 obtain⟨f,T,F,r,J⟩:=C.ex;intro pins s v H Q I h;refine VF (thn (G pins s v H _ I h) ?_) z;rintro u M ⟨x,Y,g,y,a,U,fs,ex,L,l,q⟩;subst ex;obtain rfl:=y;refine Ad g L c r l ?_;exact PySem.W.callWith_K0 g.kIn r.kp (Zpw (vs:=[.ref a]) F B J hx g (.cons rfl .nil) q)
def Zhq(C:Pa X.prog X.w X.K X.mg X.base CX k (Mk X.K Cc) ps sp)(n:X.mg x=some (.ref Cc))(l:Xv (k+1) X.A)(hx:Pz CX X E)(v:PA X (e::es) t)(r:autoParam (Gl X x) au_0)(h:autoParam ((x==("__debug__" : Str))=false) au_1)(s:autoParam (starEach (e::es) X.env=(false,eval e X.env)::starEach es X.env) au_0)(g:autoParam ((backTo pos<|starEach es X.env).any (·.1)=false) au_0) :
  PE X (.Call (.Name x p) (e::es) [] pos) (DO Cc sp [] E t):=by
 obtain⟨f,y,F,M,u⟩:=C.ex;exact Zhd M F l r n u .nil hx v h s g
end
abbrev PTF:=Γ->Str->(Str->Prop)->XR->Prop
section
variable {K:ZU}{mg:ZY}{E:L2.St->XK}{t:ExcR.TF}{p:PTF}{te:TE}{a:PTE}
def Sb(K:ZU)(mg:ZY)(E:L2.St->XK)(t:ExcR.TF)(p:PTF):Prop:=∀(n:Hp) (B:Addr->Prop) (H:Hp) (h:L2.St) (l:Γ) (f:Str) (R:Str->Prop) (X:XR) (Q:Str->Hp->Prop),Xn K n B H h l->p l f R X->
 (∀x g,R x->Same H g->Q x g)->(∀c g,X c->Same H g->XE mg (E h) c g)->t h H f Q
noncomputable def Zkc:PTF:=λ_ f R _=>f.length<=sizeLine/\R f
def N6:Sb K mg E ExcR.Ia Zkc:=λo B H l n f R X Q g h q _=>⟨h.1,q _ H h.2 (Same.refl _)⟩
noncomputable def Zm1(x:Str)(p:PTF):PTF:=λg f R X=>(f++x).length<=sizeLine/\p g (f++x) R X
def PJ(h:Sb K mg E t p):Sb K mg E (ExcR.O0 x t) (Zm1 x p):=λs B H l n r R X Q f g q o=>⟨g.1,h s B H l n _ R X Q f g.2 q o⟩
noncomputable def Zoh(a:PTE)(p:PTF):PTF:=λg f R X=>a g (λs=>match s.d with
 | .int i=>i.natAbs.log2<1920/\(f++(Str.ofString<|toString i)).length<=sizeLine/\p g (f++Str.ofString (toString i)) R X
 | .str x=>x.length<=sizeLine/\(f++x).length<=sizeLine/\p g (f++x) R X
 |_=>False) X
def Nz(N:Xj K mg E te a)(h:Sb K mg E t p):Sb K mg E (ExcR.LX te t) (Zoh a p):=λC B H w y L R X Q o M q z=>by
 refine N C B H w y _ X _ o M (λs v G g r J=>?_) z;have f:=o.grow r;have u:=J.rp f.same;split at g
 ·rename_i i ei;rw[ei]at u;exact .inl ⟨i,u.int_inv,g.1,g.2.1,h C B G w y _ R X Q f g.2.2 (λx n hx l=>q x n hx (r.trans l)) λc n A l=>z c n A (r.trans l)⟩
 ·rename_i x ex;rw[ex]at u;exact .inr ⟨x,u.str_inv,g.1,g.2.1,h C B G w y _ R X Q f g.2.2 (λx n hx l=>q x n hx (r.trans l)) λc n A l=>z c n A (r.trans l)⟩
 ·grind
noncomputable def pF(p:PTF):PTE:=λf R X=>p f Str.empty (λx=>R (.sh<|.str x)) X
def NI(h:Sb K mg E t p):Xj K mg E (ExcR.tF t) (pF p):=λs B H g l R X Q f o q n=>
 h s B H g l _ _ X _ f o (λx u hx r=>q _ _ u hx r (.str x)) n
end
open M
noncomputable abbrev plD(f:ZV):D:=.lst (f.map prD)
noncomputable abbrev dD(q:Str×ZW):D:=.tup (.str q.1::q.2.map D.int)
noncomputable abbrev vF:Yd:=["book","fields","wished"]
noncomputable abbrev vO(C x b1 b2 g:Addr)(bk:List (Str×ZW))(fs f:List (ZV)):O:=.ins x C vF [(b1,bk.map dD),(b2,fs.map plD),(g,f.map plD)]
noncomputable abbrev Ta(C:Addr)(bk:List (Str×ZW))(fs f:List (ZV)):D:=.ins C vF [.lst (bk.map dD),.lst (fs.map plD),.lst (f.map plD)]
def F4{g:Type}(f:g->D)(xs:List g)(x:g):atI ((xs++[x]).map f) (-1)=some (f x):=by
 refine P7 ?_;unfold atI ixN;rw[WG (by lia),WH (by grind)];show(xs++[x])[_]?=some x;have e:((-1:Int)+((xs++[x]).length:Int)).toNat=xs.length:=by grind
 rw[e,Qu (WI _),Nat.sub_self];rfl
def Kj(e:Option Str)(X:Str->Prop)(R:Prop):Prop:=match e with|some c=>X c|none=>R
noncomputable def Sv(h:Int):Option Str:=if 1<=h/\h<=10 then none else some "BadHolder"
noncomputable def Nb:ZV->Option Str
 |[]=>none
 |q::r=>if ¬(1<=q.1/\q.1<=10)then some "BadHolder" else if ¬(1<=q.2/\q.2<=1000)then some "BadWidth" else Nb r
noncomputable def Sg(ps:ZV):Option Str:=if 40<ps.length then some "TooManyStrips" else Nb ps
theorem La:∀{ps:ZV},Field ps->Nb ps=none
 |[],_=>rfl
 |q::r,h=>by
  obtain⟨n,l,g,f⟩:=h q Qs;unfold Nb;rw[WG (λz=>z ⟨n,l⟩),WG (λz=>z ⟨g,f⟩)];exact La λx hx=>h x (Qb _ hx)
def Zi4(h:Field ps)(f:ps.length<=40):Sg ps=none:=by
 unfold Sg;rw[WG (by lia)];exact La h
noncomputable def Fq(ps:ZV)(p:Int):Option Str:=if p<1\/(ps.length:Int)<p then some "NoStrip" else none
noncomputable def Xw(ps:ZV)(p:Int):Int×Int:=ps.getD (p-1).toNat (0,0)
noncomputable def KU(ps:ZV)(p h:Int):Option Str:=if p<1\/(ps.length:Int)<p then some "NoStrip" else if ¬(1<=h/\h<=10)then some "BadHolder" else if (Xw ps p).1=h then some "OwnStrip" else none
noncomputable def TK(ps:ZV)(p h:Int):ZV:=ps.set (p-1).toNat (h,(Xw ps p).2)
def R8{ps:ZV}{p:Int}{x}(g:1<=p)(f:p<=ps.length):cutD (ps.map prD) none (some (p-1))++[prD x]++cutD (ps.map prD) (some p) none=(ps.set (p-1).toNat x).map prD:=by
 rw[TL,TL,Fu ps (by lia),SG ps (by lia)];have e:p.toNat=(p-1).toNat+1:=by lia
 rw[e,List.set_eq_take_append_cons_drop,WH (by lia),WS,Qe,VB];rfl
def T5{p}(g:1<=p)(f:p<=ps.length):atI (ps.map prD) (p-1)=some (prD<|Xw ps p):=by
 rw[KP (by lia) (by lia)];unfold Xw;rw[WC,W8 (by lia)];rfl
def Zh3(ps:ZV)(p h:Int):(TK ps p h).length=ps.length:=Q9 ..
def Zdm(f:Field ps)(e:KU ps p h=none):Field (TK ps p h):=by
 unfold KU at e;split at e
 ·cases e
 ·split at e
  ·cases e
  ·rename_i r o;have g:(p-1).toNat<ps.length:=by lia
   intro q hq;rcases List.mem_or_eq_of_mem_set hq with hq|rfl
   ·exact f q hq
   ·have:Xw ps p∈ps:=by
     unfold Xw;rw[WC,W8 g]
     grind
    obtain⟨_,_,n,l⟩:=f _ this;lia
def Zn5(q:Int×Int)(r:ZV):Nb (q::r)=if ¬(1<=q.1/\q.1<=10)then some ("BadHolder" : Str)else if ¬(1<=q.2/\q.2<=1000)then some ("BadWidth" : Str)else Nb r:=rfl
noncomputable def Kp(ps:ZV)(p w:Int):Option Str:=if p<1\/(ps.length:Int)<p then some "NoStrip" else if w<1\/(Xw ps p).2<=w then some "BadPart" else if 40<=ps.length then some "TooManyStrips" else none
noncomputable def PK(ps:ZV)(p w:Int):ZV:=ps.take (p-1).toNat++[((Xw ps p).1,w),((Xw ps p).1,(Xw ps p).2-w)]++ps.drop p.toNat
noncomputable def BC(ps:ZV)(p w:Int):List Bool:=if p<1\/(ps.length:Int)<p then[true,true,false,false]else if w<1\/(Xw ps p).2<=w then[true,false,true,false]else if 40<=ps.length then[true,false,false,true]else[]
def Zhm(ps:ZV)(p w:Int):(Kp ps p w=some ("NoStrip" : Str)/\BC ps p w=[true,true,false,false])\/(Kp ps p w=some ("BadPart" : Str)/\BC ps p w=[true,false,true,false])\/(Kp ps p w=some ("TooManyStrips" : Str)/\BC ps p w=[true,false,false,true])\/
  (Kp ps p w=none/\BC ps p w=[]/\1<=p/\p<=ps.length/\1<=w/\w<(Xw ps p).2/\ps.length<40):=by
 unfold Kp BC;by_cases c:p<1\/(ps.length:Int)<p
 ·grind
 ·grind
def FG{p}(h:1<=p)(g:p<=ps.length):Xw ps p∈ps:=by
 have f:(p-1).toNat<ps.length:=by lia
 unfold Xw;rw[WC,W8 f]
 grind
def Rx{p w}(f:1<=p):cutD (ps.map prD) none (some (p-1))++[prD ((Xw ps p).1,w),prD ((Xw ps p).1,(Xw ps p).2-w)]++cutD (ps.map prD) (some p) none=(PK ps p w).map prD:=by
 rw[TL,TL,Fu ps (by lia),SG ps (by lia)];unfold PK
 grind
def Zjt{p w}(g:1<=p)(f:p<=ps.length):(PK ps p w).length=ps.length+1:=by
 unfold PK
 grind
def Zil{p w:Int}(f:Field ps)(h:1<=p)(g:p<=ps.length)(n:1<=w)(l:w<(Xw ps p).2):Field (PK ps p w):=by
 obtain⟨a1,a2,a3,a4⟩:=f _ (FG h g);intro q hq;rcases WO.mp hq with hq|hq
 ·rcases WO.mp hq with hq|hq
  ·exact f q (Vy hq)
  ·grind
 ·exact f q (JA hq)
section
variable {K:ZU}{mg:ZY}{E:L2.St->XK}
noncomputable def IV(i:Nat)(a:PTE):PTS:=λR f=>match f[i]? with
 |some (some<|.own<|.lst h)=>a f (λs=>match s.shd with
  |some (.lst g)=>h.length+g.length<=10000000/\R.nx (f.set i<|some<|.own (h++g))
  |_=>False) (R.ex f)
 |_=>False
def E2(i:Nat){te a}(U:Xj K mg E te a):Xy K mg E (SM<|tBM K "list" Rf (K7 i)<|Kg te KE) (IV i a):=by
 intro H0 B H w x R D hB f h e;unfold IV at h;split at h
 ·rename_i ds G;obtain⟨v,C,b,rfl,T,us,J,A⟩:=f.slot i _ G;refine⟨_,C,.inl ⟨rfl,us,SqL.of J⟩,U H0 B H w x _ _ _ f h (λs u H1 p n N=>?_) λc M Q L=>e.ex w x c M Q (f.grow L) (Fr.grow L)⟩;have g:=f.grow n;split at p
  ·rename_i es r;obtain⟨a',y,rfl,o,l⟩:=Rp.lst_inv (N.shd g.same f.zm n r);refine⟨b,a',us,y,rfl,rfl,n _ _ J,off_sub _ _ o,by rw[A.len,l.len];exact WK p.1 (by decide),?_⟩;obtain⟨r,f2⟩:=g.mutate (es:=.lst (ds++es)) (us:=.lst (us++y)) G C trivial λF M SF Y=>⟨_,Y,Rps.mono SF (Rps.append (Rps.mono (Xx n λ_ _ _ z=>z) A) l)⟩;exact e.nx _ _ _ p.2 r ((Fr.grow n).trans f2)
  ·grind
 ·exact h.elim
end
noncomputable def nextM(hs r:ZW):List (ZW):=(hs.filter λh=>!decide (h∈r)).map λh=>r++[h]
noncomputable def XH(hs:ZW):Nat->List (ZW)
 | 0=>[[]]
 |k+1=>(XH hs k).flatMap (nextM hs)
def next_mem:o∈nextM hs r↔∃h,h∈hs/\h∉r/\o=r++[h]:=by
 unfold nextM;constructor
 ·grind
 ·grind
theorem rows_mem:∀{k}{r:ZW},r∈XH hs k↔r.length=k/\r.Nodup/\∀x∈r,x∈hs
 | 0,r=>by
  unfold XH;constructor
  ·intro h;rw[WB]at h;subst h;exact⟨rfl,Vz,by simp⟩
  ·rintro⟨h,_⟩;rw[QG.mp h];exact WB.mpr rfl
 |k+1,r=>by
  unfold XH;rw[List.mem_flatMap];constructor
  ·rintro⟨p,f,g⟩;obtain⟨h,o,n,rfl⟩:=next_mem.mp g;obtain⟨a,b,c⟩:=rows_mem.mp f
   ·rw[Q3]
    grind
  ·rintro⟨a,b,c⟩;rcases QP r with rfl|⟨p,h,rfl⟩
   ·cases a
   ·rw[Vq]at a b c ⊢;rw[Q3]at b;obtain⟨b1,_,l⟩:=b;refine⟨p,rows_mem.mpr ⟨by rw[WJ]at a;simpa using a,b1,λx hx=>c x (Q4 _ hx)⟩,next_mem.mpr ⟨h,c h (by simp),λz=>l h z h (by simp) rfl,rfl⟩⟩
theorem GB:∀{a b} x y,sl a b->sl (a++x) (b++y)
 |[],_,_,_,h|_::_,[],_,_,h=>by cases h
 |a::r,b::t,x,y,h=>by
  rcases h with h|⟨e,h⟩
  ·exact .inl h
  ·exact .inr ⟨e,GB x y h⟩
theorem Hi:∀r {a b:Int},a<b->sl (r++[a]) (r++[b])
 |[],_,_,h=>.inl h
 |c::r,_,_,h=>.inr ⟨rfl,Hi r h⟩
theorem Rr(f:hs.Pairwise (· < ·)):∀k,(XH hs k).Pairwise sl
 | 0=>by unfold XH;exact List.pairwise_singleton _ _
 |k+1=>by
  unfold XH;rw[List.pairwise_flatMap];refine⟨λr _=>?_,(Rr f k).imp λ{a b} h x hx y g=>?_⟩
  ·unfold nextM;rw[Jj];exact(f.filter _).imp λh=>Hi r h
  ·obtain⟨_,_,_,rfl⟩:=next_mem.mp hx;obtain⟨_,_,_,rfl⟩:=next_mem.mp g;exact GB _ _ h
def Znr(hs r:ZW):(nextM hs r).length<=hs.length:=by
 unfold nextM
 grind
def Bo(g:hs.Nodup):r∈XH hs hs.length↔r.Perm hs:=by
 rw[rows_mem];constructor
 ·rintro⟨o,n,l⟩;rw[List.perm_ext_iff_of_nodup n g];refine λx=>⟨l x,λhx=>?_⟩;by_cases c:x∈r
  ·lia
  ·have:=List.Nodup.length_le_of_subset (Qw.mpr ⟨c,n⟩) (by
    intro y f;rcases WU.mp f with rfl|f
    ·exact hx
    ·exact l y f)
   grind
 ·intro h;exact⟨h.length_eq,h.nodup_iff.mpr g,λx hx=>h.mem_iff.mp hx⟩
theorem Gb:∀{a b:ZW},sl a b->¬sl b a
 |[],_,h,_|_::_,[],h,_=>by cases h
 |a::r,b::t,h,k=>by
  rcases h with h|⟨e,h⟩
  ·rcases k with k|⟨e,_⟩<;>lia
  ·rcases k with k|⟨_,k⟩
   ·lia
   ·exact Gb h k
def KR.uniq (h:KR f c g o) (k:KR f c g p):o=p:=by
 have e:oc c p=oc c o:=by
  have n:=h.le p k.perm k.keeps;have l:=k.le o h.perm h.keeps;lia
 rcases h.first p k.perm k.keeps e with z|z
 ·lia
 ·rcases k.first o h.perm h.keeps e.symm with y|y
  ·grind
  ·exact absurd y (Gb z)
def Fnd(f:ZW->Int)(ok:ZW->Prop)(L:List (ZW)):Option (ZW)->Prop
 |none=>∀o∈L,¬ok o
 |some q=>q∈L/\ok q/\∀o∈L,ok o->f q<=f o/\(f o=f q->q=o\/sl q o)
def Fnd.no (h:Fnd f ok L b) (n:¬ok o):Fnd f ok (L++[o]) b:=by
 cases b with
 |none=>
  intro x hx;rcases WO.mp hx with hx|hx
  ·exact h x hx
  ·grind
 |some q=>
  refine⟨Q4 _ h.1,h.2.1,λx hx g=>?_⟩;rcases WO.mp hx with hx|hx
  ·exact h.2.2 x hx g
  ·grind
def Fnd.first (h:Fnd f ok L none) (k:ok o):Fnd f ok (L++[o]) (some o):=by
 refine⟨by simp,k,λx hx g=>?_⟩;rcases WO.mp hx with hx|hx
 ·exact absurd g (h x hx)
 ·grind
def Fnd.less {o q} (h:Fnd f ok L (some q)) (k:ok o) (l:f o<f q):Fnd f ok (L++[o]) (some o):=by
 refine⟨by simp,k,λx hx g=>?_⟩;rcases WO.mp hx with hx|hx
 ·have:=(h.2.2 x hx g).1
  lia
 ·grind
def Fnd.more {o q} (h:Fnd f ok L (some q)) (l:¬f o<f q) (s:∀x∈L,sl x o):Fnd f ok (L++[o]) (some q):=by
 refine⟨Q4 _ h.1,h.2.1,λx hx g=>?_⟩;rcases WO.mp hx with hx|hx
 ·exact h.2.2 x hx g
 ·rw[WB]at hx;rw[hx];exact⟨by lia,λ_=>.inr (s q h.1)⟩
noncomputable def Ke(f:ZV)(a b:Int):Option Str:=if ¬(1<=a/\a<=10)then some "BadHolder" else if ¬(1<=b/\b<=10)then some "BadHolder" else if a=b then some "LikeHolders" else if (a,b)∈f then some "WishStands" else if 20<=f.length then some "TooManyWishes" else none
noncomputable def Ko(f:ZV)(a b:Int):Option Str:=if (a,b)∈f then none else some "NoWish"
noncomputable def S8(f:ZV)(a b:Int):ZV:=f.filter λq=>!decide (q=(a,b))
noncomputable def XX(ps:ZV)(p:Int):Option Str:=if p<1\/(ps.length:Int)<=p then some "NoStrip" else if ¬(Xw ps p).1=(Xw ps (p+1)).1 then some "UnlikeHolders" else if 1000<(Xw ps p).2+(Xw ps (p+1)).2 then some "TooWide" else none
noncomputable def PP(ps:ZV)(p:Int):ZV:=ps.take (p-1).toNat++[((Xw ps p).1,(Xw ps p).2+(Xw ps (p+1)).2)]++ps.drop (p+1).toNat
def IF{p}(f:1<=p):cutD (ps.map prD) none (some (p-1))++[prD ((Xw ps p).1,(Xw ps p).2+(Xw ps (p+1)).2)]++cutD (ps.map prD) (some (p+1)) none=(PP ps p).map prD:=by
 rw[TL,TL,Fu ps (by lia),SG ps (by lia)];unfold PP
 grind
def Zbb{p}(g:1<=p)(f:p<ps.length):(PP ps p).length+1=ps.length:=by
 unfold PP
 grind
def Zju(f:Field ps)(e:XX ps p=none):Field (PP ps p):=by
 unfold XX at e;split at e
 ·grind
 split at e
 ·cases e
 split at e
 ·cases e
 obtain⟨a1,a2,a3,a4⟩:=f _ (FG (p:=p) (by lia)<|by lia);obtain⟨b1,l,h,g⟩:=f _ (FG (p:=p+1) (by lia)<|by lia);intro q hq;rcases WO.mp hq with hq|hq
 ·rcases WO.mp hq with hq|hq
  ·exact f q (Vy hq)
  ·grind
 ·exact f q (JA hq)
def Za6(h:To f)(e:Ke f a b=none):To (f++[(a,b)]):=by
 unfold Ke at e;split at e
 ·cases e
 split at e
 ·cases e
 split at e
 ·cases e
 split at e
 ·cases e
 split at e
 ·cases e
 rename_i v u s n r;obtain⟨p,l,o⟩:=h;refine⟨by rw[WJ,Vb];lia,?_,λq hq=>?_⟩
 ·rw[Q3];exact⟨l,by simp,λx hx y g z=>by rw[WB]at g;subst g;exact n (z▸hx)⟩
 ·grind
def Zc5(h:To f):To (S8 f a b):=
 ⟨WK (Q5 _ _) h.1,h.2.1.filter _,λq hq=>h.2.2 q (Qh.mp hq).1⟩
def Za5:To []:=by trivial
noncomputable def Zru(m:ZW)(k:Int):Int:=1+(k*m.getD 1 0+m.getD 2 0) % 10
noncomputable def SA(ps:ZV)(os:ZW):Option Str:=if os.isPerm (Xo ps)=true then none else some "BadOrder"
def RL{os}(h:os.Perm (Xo ps)):SA ps os=none:=by
 unfold SA;rw[WH (List.isPerm_iff.mpr h)]
def Zqa{os ns}(f:ns.Perm os)(g:ns.Pairwise (·<=·)):(ns=Xo ps)↔os.isPerm (Xo ps)=true:=by
 rw[List.isPerm_iff];exact⟨λz=>z▸f.symm,λz=>Zl4 z f g⟩
noncomputable def SK(ps:ZV)(p:Int):List Bool:=if p<1\/(ps.length:Int)<=p then[true,true,false,false]else if ¬(Xw ps p).1=(Xw ps (p+1)).1 then[true,false,true,false]else if 1000<(Xw ps p).2+(Xw ps (p+1)).2 then[true,false,false,true]else[]
def Zfs(ps:ZV)(p:Int):(XX ps p=some ("NoStrip" : Str)/\SK ps p=[true,true,false,false])\/(XX ps p=some ("UnlikeHolders" : Str)/\SK ps p=[true,false,true,false])\/(XX ps p=some ("TooWide" : Str)/\SK ps p=[true,false,false,true])\/
  (XX ps p=none/\SK ps p=[]/\1<=p/\p<ps.length):=by
 unfold XX SK;by_cases c:p<1\/(ps.length:Int)<=p
 ·grind
 ·grind
def Zb3{p}(g:1<=p)(f:p<ps.length):atI (ps.map prD) p=some (prD<|Xw ps (p+1)):=by
 have:=T5 (ps:=ps) (p:=p+1) (by lia) (by lia)
 grind
noncomputable abbrev d3(k:Str)(a b:Int):D:=.tup [.str k,.int a,.int b]
end Pu
namespace M
open L2 Own Pu
def Mp{o:ZW}(g:Field ps)(h:o.Perm (Xo ps)):∀p∈ps,p.1∈o:=λp f=>h.mem_iff.mpr ((E4 g).mpr (Qk.mpr ⟨p,f,rfl⟩))
end M
namespace Pu
open L2 Own
section
variable {K:ZU}{mg:ZY}{E:L2.St->XK}
noncomputable def MP(K:ZU):R2:=λx y H Q=>∃(p q:Addr) (xs f:List V),x=.ref p/\y=.ref q/\SqT K H p xs/\SqT K H q f/\xs.all KJ=true/\f.all KJ=true/\Q (.bl (!eqL xs f)) H
def Mc(w:X.A.units<cLine)(B:autoParam (X.K=K) au_0):OpR X (compareOp .NotEq) (MP K):=by
 subst B;intro pins s L H x y v u Q I o n h;obtain⟨p,q,xs,f,rfl,rfl,z,hq,f1,J,k⟩:=h;obtain rfl:=o;obtain rfl:=n;obtain⟨N,l,r,_⟩:=I.tuple z;obtain⟨M,g,p2,_⟩:=I.tuple hq;have U:=l.length;have T:=g.length;refine SeqAt.RcNeAt.tuples r p2 w (λj G C=>Eu l g f1 J j G C) _ _ _ _ ⟨.bl (!eqL xs f),H,I,?_,k⟩;show _=Value.bool (!eqL xs f);unfold eqL;by_cases e:xs.length=f.length
 ·grind
 ·grind
def Es:S->S->(S->Prop)->Prop:=λx y R=>∃xs f:ZW,x.d=.tup (xs.map D.int)/\y.d=.tup (f.map D.int)/\R (.sh<|.bl (!decide (xs=f)))
def Rv{a b}(J:Xj K mg E z a)(G:Xj K mg E w b):Xj K mg E (tOp (MP K) z w) (p2 a b Es):=by
 refine Pn J G λH0 H T Z x y v u R Q g s1 hm s r h q=>?_;obtain⟨xs,U,N,M,L⟩:=h;have n:=s.rp g;have l:=r.rp g;rw[N]at n;rw[M]at l;obtain⟨p,us,rfl,o,B⟩:=Rp.tup_inv n;obtain⟨C,Y,rfl,f,A⟩:=Rp.tup_inv l;rw[B.ints]at o;rw[A.ints]at f;refine⟨p,C,_,_,rfl,rfl,SqT.of o,SqT.of f,Nd _,Nd _,?_⟩;rw[DN];exact q _ _ T L (Same.refl _) (.bl _)
def Ic:List S->(S->Prop)->Prop
 |[s],R=>(match s.d with | .int i=>R (.sh<|.int i) | .bl k=>R (.sh<|.int (if k then 1 else 0))|_=>False)
 |_,_=>False
def Zk3(u:X6 K mg E n r):Xj K mg E (tCB (λxs H Q=>(∃i,xs=[.int i]/\Q (.int i) H)\/∃k,xs=[.bl k]/\Q (.int (if k then 1 else 0)) H) n) (pCB Ic r):=by
 refine PL u λA H g Z x w R Q p y z l h q=>?_;unfold Ic at h;split at h
 ·rename_i s;obtain⟨v,rfl,o⟩:=l.one_inv;have f:=o.rp p;split at h
  ·rename_i i e;rw[e]at f;exact .inl ⟨i,by rw[f.int_inv],q _ _ g h (Same.refl _) (.int _)⟩
  ·rename_i k e;rw[e]at f;exact .inr ⟨k,by rw[f.bl_inv],q _ _ g h (Same.refl _) (.int _)⟩
  ·grind
 ·exact h.elim
def Zja(p q:Int×Int):decide ([p.1,p.2]=[q.1,q.2])=decide (p=q):=by grind
def Zl3{R}(h:R (.sh<|.bl (!decide (p=q)))):Es (.sh<|prD p) (.sh<|prD q) R:=by
 refine⟨[p.1,p.2],[q.1,q.2],rfl,rfl,?_⟩;have e:decide ([p.1,p.2]=[q.1,q.2])=decide (p=q):=by grind
 rw[e];omega
end
structure DI (K:ZU) (x:Str) (st:Stmt):Prop where
 ex:∃f fd,PySem.W.nsIn K mainGlobals x=some (some<|.ref f)/\Fun K x x st f fd
structure MI (K:ZU) (C:Addr) (m q:Str) (st:Stmt):Prop where
 ex:∃f fd,PySem.W.findIn K (.ref C) m=some (some<|.ref f)/\PySem.W.isFn K (.ref f)=true/\Fun K m q st f fd
section
variable {K:ZU}{h:Heap}{mg:ZY}
def di{st f oc od r n kV o p g ct}(a:PySem.W.nsIn K mainGlobals x=some (some<|.ref f))(l:K.lookup f=some ⟨oc,od,.func (PySem.W.fnOf x x (P0 st) (XJ st) (Xk st) .none kV o p r g ct),n⟩)(c:PySem.W.codeIn K g x=true)(k:PySem.W.keepIn K (.ref f)=true):DI K x st:=⟨f,_,a,Fp l c k⟩
def mi{st f oc od r n kV o p g ct}(a:PySem.W.findIn K (.ref C) m=some (some<|.ref f))(i:PySem.W.isFn K (.ref f)=true)(l:K.lookup f=some ⟨oc,od,.func (PySem.W.fnOf m q (P0 st) (XJ st) (Xk st) .none kV o p r g ct),n⟩)(c:PySem.W.codeIn K g q=true)(k:PySem.W.keepIn K (.ref f)=true):MI K C m q st:=⟨f,_,a,i,Fp l c k⟩
def DI.d {st ps} (D:DI K x st) (X:K.In h) (o:h.Ns mainGlobals mg)
  (b:∀kV f l n g ct us,us.length=ps.length->bindArgs (PySem.W.fnOf x x (P0 st) (XJ st) (Xk st) .none kV f l n g ct) ⟨us,[]⟩=pure (ps.zip us)):Def K mg x st ps:=
 let ⟨_,_,a,F⟩:=D.ex
 ⟨_,_,F,QA X o a,F.binds b⟩
def MI.d {m q st ps} (D:MI K C m q st) (e:o=C)
  (b:∀kV f l n g ct us,us.length=ps.length->bindArgs (PySem.W.fnOf m q (P0 st) (XJ st) (Xk st) .none kV f l n g ct) ⟨us,[]⟩=pure (ps.zip us)):X8 K (X9 K o m) m q st ps:=
 let ⟨_,_,a,i,F⟩:=D.ex
 ⟨_,_,F,by rw[e];exact⟨a,i,F.kp⟩,F.binds b⟩
def MI.i {q st ps} (D:MI K C "__init__" q st) (e:p=C) (mk:PySem.W.makesIn K C=true) (n:PySem.W.keepIn K (.ref C)=true)
  (b:∀kV f l o g ct us,us.length=ps.length->bindArgs (PySem.W.fnOf "__init__" q (P0 st) (XJ st) (Xk st) .none kV f l o g ct) ⟨us,[]⟩=pure (ps.zip us)):X8 K (Mk K p) "__init__" q st ps:=
 let ⟨_,_,a,i,F⟩:=D.ex
 ⟨_,_,F,by rw[e];exact⟨mk,a,i,n⟩,F.binds b⟩
end
def fs{N P f}(r:autoParam (f.kind=.function) au_0)(p:autoParam (f.isCoroutine=false) au_0)(o:autoParam (f.isGenerator=false) au_0)(n:autoParam (N.Nodup) au_5)(l:autoParam (N.take P.length=P) au_0)(h:autoParam (∀x∈P,f.names.lookup x=some .local\/f.names.lookup x=some .cell) au_5)(g:autoParam (∀y∈f.names,y.2≠.free) au_5):Xl N P f:=⟨r,p,o,n,l,h,g⟩
def pz{pos x e te f}(i:Nat)(n:X.N.Nodup)(l:PE X e te)(g:autoParam (X.N[i]?=some x) au_0)(hx:autoParam (Loc X.env.scope x) au_6)(hs:autoParam (swapsWith e (some<|.Name x f) pos.line X.env=pure false) au_0)(h:autoParam (X.fn x=true\/X.env.scope.names.lookup x=some .local) au_2) :
  PS X (.Assign [.Name x f] e pos) (NT te<|S9 i):=Zk2 n g hx l hs h
section
variable {K:ZU}{mg:ZY}{E:L2.St->XK}{H0 H H1 H':Hp}{B Z Z':Addr->Prop}{σ:L2.St}{γ:Γ}
def Xn.named (env:Xn K H0 B H σ γ) (f:γ[i]?=some (some<|.own<|.lst ds)) (g:σ[i]?=some (some<|.ref a)):Xn K H0 B H σ (γ.set i<|some<|.own<|.lsA a ds)/\Fr B H σ γ H σ (γ.set i<|some<|.own<|.lsA a ds):=by
 obtain⟨v,l,b,rfl,u,p,n,r⟩:=env.slot i _ f;rw[g]at l;cases l
 have s:∀b,zof B (γ.set i<|some<|.own<|.lsA a ds) σ b->zof B γ σ b:=λb z=>by
  rcases z with z|⟨j,fs,C,A,x,o⟩
  ·exact .inl z
  ·rcases XN A with⟨w,q,_⟩|⟨_,e⟩
   ·subst w;cases q
    exact .inr ⟨j,_,a,f,g,o⟩
   ·exact .inr ⟨j,fs,C,e,x,o⟩
 exact env.change f g (λ_ _ h _=>h) (λb h=>by rw[show b=a from h,n];trivial) (λb h=>.inl h) ⟨rfl,p,n,Rps.mono (Xx (Same.refl _) λb _ _ z y=>z (s b y)) r⟩
noncomputable def pNm(i:Nat)(p:PTS):PTS:=λR γ=>match γ[i]? with
 |some (some<|.own<|.lst f)=>∀a,p R (γ.set i<|some<|.own<|.lsA a f)
 |_=>p R γ
def Zrg(i:Nat){t p}(g:Xy K mg E t p):Xy K mg E t (pNm i p):=by
 intro H0 B H σ γ R D n f h e;unfold pNm at h;split at h
 ·rename_i y l;obtain⟨v,o,b,rfl,r,u,x,w⟩:=f.slot i _ l;obtain⟨s,f1⟩:=f.named l o;exact g H0 B H σ _ R D n s (h b) (e.from f1)
 ·exact g H0 B H σ γ R D n f h e
def Xn.change2 {o1 p Y g} (E:Xn K H0 B H σ γ) (hij:i≠j) (hi:γ[i]?=some (some<|.own o1)) (hj:γ[j]?=some (some<|.own Y)) (A:σ[i]?=some (some<|.ref a1)) (r:σ[j]?=some (some<|.ref a2))
  (hH:∀b x,H b=some x->¬o1.adr a1 b->¬Y.adr a2 b->H' b=some x) (hm:∀b,o1.adr a1 b\/Y.adr a2 b->Mut (H' b)) (n1:∀b,p.adr a1 b->o1.adr a1 b\/H b=none) (n2:∀b,g.adr a2 b->Y.adr a2 b\/H b=none) (ap:∀b,p.adr a1 b->¬g.adr a2 b)
  (r1:OR K (Pu.off (zof B ((γ.set i<|some<|.own p).set j (some<|.own g)) σ) H') H' a1 p) (r2:OR K (Pu.off (zof B ((γ.set i<|some<|.own p).set j (some<|.own g)) σ) H') H' a2 g) :
  Xn K H0 B H' σ ((γ.set i<|some<|.own p).set j (some<|.own g))/\Fr B H σ γ H' σ ((γ.set i<|some<|.own p).set j (some<|.own g)):=by
 generalize eg:(γ.set i<|some<|S.own p).set j (some<|.own g)=γ2 at r1 r2 ⊢
 have get:∀k s,γ2[k]?=some (some s)->(k=j/\s=.own g)\/(k=i/\k≠j/\s=.own p)\/(k≠i/\k≠j/\γ[k]?=some (some s)):=λk s h=>by
  rw[←eg]at h;rcases XN h with⟨G,C,_⟩|⟨G,C⟩
  ·exact .inl ⟨G,(WR C).symm⟩
  ·rcases XN C with⟨f1,f2,_⟩|⟨f1,f2⟩
   ·exact .inr (.inl ⟨f1,G,(WR f2).symm⟩)
   ·exact .inr (.inr ⟨f1,G,f2⟩)
 obtain⟨v1,T,x1,rfl,h1,k1⟩:=E.slot i _ hi;rw[A]at T;cases T
 obtain⟨v2,U,x2,rfl,h2,k2⟩:=E.slot j _ hj;rw[r]at U;cases U
 have za:∀b,o1.adr a1 b\/Y.adr a2 b->zof B γ σ b:=λb M=>M.elim (λM=>.inr ⟨i,o1,a1,hi,A,M⟩) λM=>.inr ⟨j,Y,a2,hj,r,M⟩
 have hz:∀b x,H b=some x->zof B γ2 σ b->zof B γ σ b:=λb x hx z=>by
  rcases z with z|⟨k,fs,a',G,C,f⟩
  ·exact .inl z
  ·rcases get k _ G with⟨J,N⟩|⟨J,_,N⟩|⟨_,_,e⟩
   ·subst J;cases N;rw[r]at C;cases C;rcases n2 b f with w|w
    ·exact za b (.inr w)
    ·rw[w]at hx;cases hx
   ·subst J;cases N;rw[A]at C;cases C;rcases n1 b f with w|w
    ·exact za b (.inl w)
    ·rw[w]at hx;cases hx
   ·exact .inr ⟨k,fs,a',e,C,f⟩
 have hH':∀b x,H b=some x->¬(o1.adr a1 b\/Y.adr a2 b)->H' b=some x:=λb x hx n=>hH b x hx (λz=>n (.inl z)) λz=>n (.inr z)
 have S1:=λb x h=>by
  obtain⟨T,U⟩:=PX h;exact XQ (hH' b x T λk=>U (za b k)) λz=>U (hz b x T z)
 have old:∀(k:Nat) L a b,γ[k]?=some (some<|.own L)->σ[k]?=some (some<|.ref a)->L.adr a b->∃o,H b=some o:=λk L a b G C f=>by
  obtain⟨u,T,a',U,_,q3⟩:=E.slot k _ G;rw[C]at T;cases T
  cases U
  exact T6 (q3.mut b f)
 have apart1:∀k L a b,k≠i->γ[k]?=some (some<|.own L)->σ[k]?=some (some<|.ref a)->L.adr a b->¬p.adr a1 b:=λk L a b nk G C f w=>by
  rcases n1 b w with w|w
  ·exact nk (E.own k i a a1 L o1 b G hi C A f w)
  ·obtain⟨u,hu⟩:=old k L a b G C f;rw[w]at hu;cases hu
 have apart2:∀k L a b,k≠j->γ[k]?=some (some<|.own L)->σ[k]?=some (some<|.ref a)->L.adr a b->¬g.adr a2 b:=λk L a b nk G C f w=>by
  rcases n2 b w with w|w
  ·exact nk (E.own k j a a2 L Y b G hj C r f w)
  ·obtain⟨u,hu⟩:=old k L a b G C f;rw[w]at hu;cases hu
 refine⟨⟨λb x h=>?_,by rw[←eg,Q9,Q9];exact E.len,λb M=>?_,λk l x x' fs fs' b G C f Q e5 e6=>?_,λk s h=>?_⟩,λb x h z=>⟨?_,λy=>z (hz b x h y)⟩⟩
 ·exact hH' b x (E.same b x h) λk=>by
   rcases k with k|k
   ·rw[h1 b k]at h;cases h
   ·rw[h2 b k]at h;cases h
 ·by_cases k:o1.adr a1 b\/Y.adr a2 b
  ·exact hm b k
  ·have:=E.bm b M
   obtain⟨x,hx⟩:=T6 this;rwa[hH' b x hx k,←hx]
 ·rcases get k _ G with⟨J,N⟩|⟨J,nk,N⟩|⟨nk,nk',e⟩<;>rcases get l _ C with⟨el,et⟩|⟨el,nl,et⟩|⟨nl,nl',e'⟩
  ·rw[J,el]
  ·subst J el;cases N;cases et;rw[r]at f;cases f;rw[A]at Q;cases Q;exact absurd e5 (ap b e6)
  ·subst J;cases N;rw[r]at f;cases f;exact absurd e5 (apart2 l fs' x' b nl' e' Q e6)
  ·subst J el;cases N;cases et;rw[A]at f;cases f;rw[r]at Q;cases Q;exact absurd e6 (ap b e5)
  ·rw[J,el]
  ·subst J;cases N;rw[A]at f;cases f;exact absurd e5 (apart1 l fs' x' b nl e' Q e6)
  ·subst el;cases et;rw[r]at Q;cases Q;exact absurd e6 (apart2 k fs x b nk' e f e5)
  ·subst el;cases et;rw[A]at Q;cases Q;exact absurd e6 (apart1 k fs x b nk e f e5)
  ·exact E.own k l x x' fs fs' b e e' f Q e5 e6
 ·rcases get k s h with⟨J,N⟩|⟨J,_,N⟩|⟨nk,nk',e⟩
  ·subst J N;exact⟨_,r,a2,rfl,λb M=>(n2 b M).elim (h2 b) λw=>E.same.free w,r2⟩
  ·subst J N;exact⟨_,A,a1,rfl,λb M=>(n1 b M).elim (h1 b) λw=>E.same.free w,r1⟩
  ·obtain⟨v,T,U⟩:=E.slot k s e;refine⟨v,T,?_⟩;cases s with
   |sh d=>exact Rp.mono S1 U
   |own fs=>
    obtain⟨x,rfl,f,Q⟩:=U;exact⟨x,rfl,f,Q.mono S1 λb M y C=>hH b y C (λw=>nk (E.own k i x a1 fs o1 b e hi T A M w)) λw=>nk' (E.own k j x a2 fs Y b e hj T r M w)⟩
   |_=>exact U
 ·exact hH' b x h λk=>z (za b k)
abbrev Pw2:=O->O->List S->(O->O->D->Prop)->(O->O->Str->Prop)->Prop
def two(o1 f:O)(a1 a2:Addr):Addr->Prop:=λb=>o1.adr a1 b\/f.adr a2 b
structure Fd (K:ZU) (B:Addr->Prop) (H:Hp) (a1 a2:Addr) (o1 o2 o1' o2':O) (H':Hp):Prop where
 same:Same (off (two o1 o2 a1 a2) H) H'
 old1:∀b,o1.adr a1 b->o1'.adr a1 b
 old2:∀b,o2.adr a2 b->o2'.adr a2 b
 new1:∀b,o1'.adr a1 b->o1.adr a1 b\/H b=none
 new2:∀b,o2'.adr a2 b->o2.adr a2 b\/H b=none
 apart:∀b,o1'.adr a1 b->¬o2'.adr a2 b
 at1:OR K (off (λb=>B b\/two o1' o2' a1 a2 b) H') H' a1 o1'
 at2:OR K (off (λb=>B b\/two o1' o2' a1 a2 b) H') H' a2 o2'
noncomputable def NG(mg:ZY)(c:Pw2)(K:ZU):Sp:=λo H Q E=>∃(o1 h:O) (a1 a2:Addr) (l:List S) (n:List V) (B:Addr->Prop) (R:O->O->D->Prop) (X:O->O->Str->Prop),
 o=.ref a1 :: .ref a2::n/\(∀b,B b->Mut (H b)/\¬two o1 h a1 a2 b)/\(∀b,o1.adr a1 b->¬h.adr a2 b)/\OR K (off (λb=>B b\/two o1 h a1 a2 b) H) H a1 o1/\OR K (off (λb=>B b\/two o1 h a1 a2 b) H) H a2 h/\
 TVs K (λb=>B b\/two o1 h a1 a2 b) (off (two o1 h a1 a2) H) H H l n/\(∀s∈l,s.flat)/\c o1 h l R X/\
 (∀g f d v H',R g f d->Fd K B H a1 a2 o1 h g f H'->Rp K (off (λb=>B b\/two g f a1 a2 b) H') d v->Q v H')/\∀g f e H',X g f e->Fd K B H a1 a2 o1 h g f H'->XE mg E e H'
noncomputable def Ti(N:Yd)(o1 g:O)(f:List S):Γ:=some (.own o1)::some (.own g)::(f.map some++List.replicate (N.length-(f.length+2)) none)
def Zhv{o1 f a1 a2 n us}(hB:∀b,B b->Mut (H b)/\¬two o1 f a1 a2 b)(ap:∀b,o1.adr a1 b->¬f.adr a2 b)(Q:OR K (off (λb=>B b\/two o1 f a1 a2 b) H) H a1 o1)(M:OR K (off (λb=>B b\/two o1 f a1 a2 b) H) H a2 f)(r:TVs K (λb=>B b\/two o1 f a1 a2 b) (off (two o1 f a1 a2) H) H H n us)(hf:∀s∈n,s.flat)(hn:n.length+2<=N.length) :
  Xn K (off (two o1 f a1 a2) H) B H (start N (.ref a1 :: .ref a2::us)) (Ti N o1 f n):=by
 have get:∀i s,(Ti N o1 f n)[i+2]?=some (some s)->n[i]?=some s:=λi s h=>by
  unfold Ti at h;rw[QB,QB]at h;by_cases T:i<n.length
  ·rw[Qj (by rw[W6];exact T),WL,W8 T]at h;rw[W8 T];exact Q2 some (WR<|WR h)
  ·rw[Qu (by rw[W6];lia),V6]at h;split at h<;>cases h
 have noown:∀i C,(Ti N o1 f n)[i+2]?≠some (some<|.own C):=λi C h=>hf _ (WZ<|get i _ h)
 have w:(start N (V.ref a1::V.ref a2::us))[0]?=some (some<|.ref a1):=by
  unfold L2.start;rfl
 have u:(start N (V.ref a1::V.ref a2::us))[1]?=some (some<|.ref a2):=by
  unfold L2.start;rfl
 have g0:∀s,(Ti N o1 f n)[0]?=some (some s)->s=.own o1:=λs h=>by
  have h:some (some<|S.own o1)=some (some s):=h;cases h
  rfl
 have L:∀s,(Ti N o1 f n)[1]?=some (some s)->s=.own f:=λs h=>by
  have h:some (some<|S.own f)=some (some s):=h;cases h
  rfl
 have hz:∀b,zof B (Ti N o1 f n) (start N (V.ref a1::V.ref a2::us)) b->B b\/two o1 f a1 a2 b:=λb z=>by
  rcases z with z|⟨i,C,a',l,g,p⟩
  ·exact .inl z
  ·match i,l,g with
   | 0,l,g=>
    rw[w]at g;cases g
    cases g0 _ l
    exact .inr (.inl p)
   | 1,l,g=>
    rw[u]at g;cases g
    cases L _ l
    exact .inr (.inr p)
   |i+2,l,_=>exact absurd l (noown i C)
 have G:∀{o:O} {a:Addr},OR K (off (λb=>B b\/two o1 f a1 a2 b) H) H a o->OR K (off (zof B (Ti N o1 f n)<|start N (V.ref a1::V.ref a2::us)) H) H a o:=λh=>h.mono (Xx (Same.refl _) λb _ _ z y=>z (hz b y)) λ_ _ _ q=>q;refine⟨off_sub,?_,λb h=>(hB b h).1,λi j x x' C J b l g p A h5 h6=>?_,λi s h=>?_⟩
 ·unfold L2.start Ti;simp[r.len]
 ·match i,j,l,g,p,A with
  | 0,0,_,_,_,_=>rfl
  | 1,1,_,_,_,_=>rfl
  | 0,1,l,g,p,A=>
   cases g0 _ l
   cases L _ g
   rw[w]at p;cases p
   rw[u]at A;cases A
   exact absurd h6 (ap b h5)
  | 1,0,l,g,p,A=>
   cases L _ l
   cases g0 _ g
   rw[u]at p;cases p
   rw[w]at A;cases A
   exact absurd h5 (ap b h6)
  |i+2,_,l,_,_,_=>exact absurd l (noown i C)
  | 0,j+2,_,g,_,_=>exact absurd g (noown j J)
  | 1,j+2,_,g,_,_=>exact absurd g (noown j J)
 ·match i,h with
  | 0,h=>
   cases g0 _ h
   refine⟨_,w,a1,rfl,λb U=>?_,G Q⟩;unfold off;rw[WH (.inl U)]
  | 1,h=>
   cases L _ h
   refine⟨_,u,a2,rfl,λb U=>?_,G M⟩;unfold off;rw[WH (.inr U)]
  |i+2,h=>
   have hs:=get i s h;obtain⟨v,hv,Y⟩:=r.get hs;refine⟨v,?_,?_⟩
   ·unfold L2.start;rw[Qj (by rw[W6,WV,WV];have:=(WT.mp hv).1;lia),WL,QB,QB,hv];rfl
   ·have:=hf s (WZ hs)
    cases s with
    |bor d=>exact Y
    |sh d=>exact Rp.mono (Xx (Same.refl _) λb _ _ z y=>z (hz b y)) Y
    |own _=>exact this.elim
    |view _=>exact this.elim
    |tmp _=>exact this.elim
def LH(o1 h:O)(R:O->O->D->Prop)(γ:Γ)(d:D):Prop:=∃g f,γ[0]?=some (some<|.own g)/\γ[1]?=some (some<|.own f)/\o1.from g/\h.from f/\R g f d
def Zml(o1 h:O)(X:O->O->Str->Prop)(γ:Γ)(e:Str):Prop:=∃g f,γ[0]?=some (some<|.own g)/\γ[1]?=some (some<|.own f)/\o1.from g/\h.from f/\X g f e
noncomputable def Oo(o1 f:O)(R:O->O->D->Prop)(X:O->O->Str->Prop):Nn:={nx:=λγ=>LH o1 f R γ .non,rt:=λ_=>False,ex:=Zml o1 f X,rv:=LH o1 f R}
def Cj{o1 l g f}{σ'}{γ'}(u:OR K (off (λb=>B b\/two o1 l a1 a2 b) H) H a1 o1)(s:OR K (off (λb=>B b\/two o1 l a1 a2 b) H) H a2 l)(e:Xn K (off (two o1 l a1 a2) H) B H' σ' γ')(x:γ'[0]?=some (some<|.own g))(v:γ'[1]?=some (some<|.own f))(k1:o1.from g)(k2:l.from f) :
  Fd K B H a1 a2 o1 l g f H'/\∀b,B b\/two g f a1 a2 b->zof B γ' σ' b:=by
 obtain⟨T,G,p,rfl,N,L⟩:=e.slot 0 _ x;obtain rfl:=O.from_at k1 u L;obtain⟨Q,C,n,rfl,p2,J⟩:=e.slot 1 _ v;obtain rfl:=O.from_at k2 s J
 have M:∀b,B b\/two g f p n b->zof B γ' σ' b:=λb z=>by
  rcases z with z|z|z
  ·exact .inl z
  ·exact .inr ⟨0,g,p,x,G,z⟩
  ·exact .inr ⟨1,f,n,v,C,z⟩
 have A:∀b,g.adr p b->¬f.adr n b:=λb z y=>absurd (e.own 0 1 p n g f b x v G C z y) (by decide);have fromZ:∀{o:O} {a:Addr},OR K (off (zof B γ' σ') H') H' a o->OR K (off (λb=>B b\/two g f p n b) H') H' a o:=λh=>h.mono (Xx (Same.refl _) λb _ _ z y=>z (M b y)) λ_ _ _ q=>q
 have free:∀b,off (two o1 l p n) H b=none->two o1 l p n b\/H b=none:=λb w=>by
  unfold off at w;by_cases q:two o1 l p n b
  ·exact .inl q
  ·rw[WG q]at w;exact .inr w
 refine⟨⟨e.same,O.from_adr k1,O.from_adr k2,λb r=>?_,λb r=>?_,A,fromZ L,fromZ J⟩,M⟩
 ·rcases free b (N b r)with(w|w)|w
  ·exact .inl w
  ·exact absurd (O.from_adr k2 b w) (A b r)
  ·exact .inr w
 ·rcases free b (p2 b r)with(w|w)|w
  ·exact absurd r (A b<|O.from_adr k1 b w)
  ·exact .inl w
  ·exact .inr w
def Zag{t p vs Q Ec n}(h:NG mg c K vs H Q Ec)(Y:Xy K mg (λ_=>Ec) t p)(hn:n+2<=N.length)(hp:∀o1 M C R X,c o1 M C R X->C.length=n/\p (Oo o1 M R X) (Ti N o1 M C)):t {nx:=λ_ H'=>Q .non H',rt:=Q} (start N vs) H:=by
 obtain⟨o1,M,a1,a2,C,us,B,R,X,rfl,hB,ap,o,l,r,hf,hc,hQ,hX⟩:=h;obtain⟨e,hp⟩:=hp o1 M C R X hc;refine Y _ B H _ _ _ _ (λb z=>?_) (Zhv hB ap o l r hf<|by rw[e];exact hn) hp ⟨λw A H' T U f1=>?_,λ_ _ _ z=>z.elim,λw A c H' T U f1=>?_,λ_ _ _ z=>z.elim,λ_ _ _ z=>z.elim,λw A d v H' T U f1 rd=>?_⟩
 ·obtain⟨u,s⟩:=hB b z;obtain⟨x,hx⟩:=T6 u;exact⟨x,XQ hx s⟩
 ·obtain⟨g,f,u,s,L,J,G⟩:=T;exact hQ g f .non .non H' G (Cj o l U u s L J).1 .non
 ·obtain⟨g,f,u,s,L,J,G⟩:=T;exact hX g f c H' G (Cj o l U u s L J).1
 ·obtain⟨g,f,u,s,L,J,G⟩:=T;obtain⟨k1,k2⟩:=Cj o l U u s L J;exact hQ g f d v H' G k1 (Rp.mono (Xx (Same.refl _) λb _ _ z y=>z (k2 b y)) rd)
def Zb5(h:NG mg c K vs H Q s)(l:∀o1 g f R X,c o1 g f R X->f.length=n):vs.length=n+2:=by
 obtain⟨o1,g,a1,a2,f,p,B,R,X,rfl,_,_,_,_,r,_,o,_⟩:=h;rw[WV,WV,r.len,l o1 g f R X o]
def Zfr{i j}{o1 r}{a1 a2}{ss L}{us}{R:Γ->D->Prop}{X:Γ->Str->Prop}{Q}{Ec}(env:Xn K H0 B H σ γ)(hB:∀b,B b->∃o,H0 b=some o)(S1:Same H H1)(hij:i≠j)(hi:γ[i]?=some (some<|.own o1))(Y:γ[j]?=some (some<|.own r))(G:σ[i]?=some (some<|.ref a1))(C:σ[j]?=some (some<|.ref a2))(t1:TVs K (zof B γ σ) H0 H H1 ss us)(hp:passes ss=some L)(hc:c o1 r L (λg f d=>R ((γ.set i<|some<|.own g).set j (some<|.own f)) d) (λg f e=>X ((γ.set i<|some<|.own g).set j (some<|.own f)) e))(q:∀p d v H',R p d->Xn K H0 B H' σ p->Fr B H σ γ H' σ p->Rp K (off (zof B p σ) H') d v->Q v H')(qx:∀p c H',X p c->Xn K H0 B H' σ p->Fr B H σ γ H' σ p->XE mg Ec c H'):NG mg c K (.ref a1 :: .ref a2::us) H1 Q Ec:=by
 have l:=env.grow S1;obtain⟨v1,h1,x1,e1,h3,h4⟩:=l.slot i _ hi;rw[G]at h1;cases h1
 cases e1
 obtain⟨v2,h2,x2,J,h5,h6⟩:=l.slot j _ Y;rw[C]at h2;cases h2
 cases J
 have za:∀b,two o1 r a1 a2 b->zof B γ σ b:=λb s=>s.elim (λs=>.inr ⟨i,o1,a1,hi,G,s⟩) λs=>.inr ⟨j,r,a2,Y,C,s⟩;have h0:∀b,two o1 r a1 a2 b->H0 b=none:=λb s=>s.elim (h3 b) (h5 b);have down:∀{o:O} {a:Addr},OR K (off (zof B γ σ) H1) H1 a o->OR K (off (λb=>(zof B γ σ b/\¬two o1 r a1 a2 b)\/two o1 r a1 a2 b) H1) H1 a o:=λh=>h.mono (Xx (Same.refl _) λb _ _ z y=>z (y.elim (λy=>y.1)<|za b)) λ_ _ _ q=>q
 have aft:∀g f H',Fd K (λb=>zof B γ σ b/\¬two o1 r a1 a2 b) H1 a1 a2 o1 r g f H'->Xn K H0 B H' σ ((γ.set i<|some<|.own g).set j (some<|.own f))/\Fr B H σ γ H' σ ((γ.set i<|some<|.own g).set j (some<|.own f))/\∀b x,H' b=some x->¬((zof B γ σ b/\¬two o1 r a1 a2 b)\/two g f a1 a2 b)->¬zof B ((γ.set i<|some<|.own g).set j (some<|.own f)) σ b:=λg f H' A=>by
  have U:∀b x,H' b=some x->¬((zof B γ σ b/\¬two o1 r a1 a2 b)\/two g f a1 a2 b)->¬zof B ((γ.set i<|some<|.own g).set j (some<|.own f)) σ b:=λb x _ n z=>by
   rcases z with z|⟨k,fs,a',e1,J,e3⟩
   ·refine n (.inl ⟨.inl z,λw=>?_⟩);obtain⟨u,hu⟩:=hB b z;rw[h0 b w]at hu;cases hu
   ·rcases XN e1 with⟨ek,q,_⟩|⟨nk,q⟩
    ·subst ek;cases q
     rw[C]at J;cases J
     exact n (.inr<|.inr e3)
    ·rcases XN q with⟨ek,M,_⟩|⟨nk',M⟩
     ·subst ek;cases M
      rw[G]at J;cases J
      exact n (.inr<|.inl e3)
     ·refine n (.inl ⟨.inr ⟨k,fs,a',M,J,e3⟩,λw=>?_⟩);rcases w with w|w
      ·exact nk' (env.own k i a' a1 fs o1 b M hi J G e3 w)
      ·exact nk (env.own k j a' a2 fs r b M Y J C e3 w)
  have up:∀{o:O} {a:Addr},OR K (off (λb=>(zof B γ σ b/\¬two o1 r a1 a2 b)\/two g f a1 a2 b) H') H' a o->OR K (off (zof B ((γ.set i<|some<|.own g).set j (some<|.own f)) σ) H') H' a o:=λh=>h.mono (Xx (Same.refl _) λb x hx z=>U b x hx z) λ_ _ _ q=>q;obtain⟨T,N⟩:=l.change2 hij hi Y G C (λb x hx n1 n2=>A.same b x (XQ hx λw=>w.elim n1 n2)) (λb s=>s.elim (λs=>A.at1.mut b (A.old1 b s)) λs=>A.at2.mut b (A.old2 b s)) A.new1 A.new2 A.apart (up A.at1) (up A.at2);exact⟨T,(Fr.grow S1).trans N,U⟩
 refine⟨o1,r,a1,a2,L,us,λb=>zof B γ σ b/\¬two o1 r a1 a2 b,_,_,rfl,λb s=>⟨l.zm b s.1,s.2⟩,(λb z y=>hij (env.own i j a1 a2 o1 r b hi Y G C z y)),down h4,down h6,?_,Bm hp,hc,λg f d v H' hR A rd=>?_,λg f e H' hX A=>?_⟩
 ·refine t1.pass l.same env.zm S1 (λb x hx=>XQ (l.same b x hx) λw=>?_) (Xx (Same.refl _) λb _ _ z y=>z (y.elim (λy=>y.1)<|za b)) hp;rw[h0 b w]at hx;cases hx
 ·obtain⟨T,N,k3⟩:=aft g f H' A;exact q _ d v H' hR T N (Rp.mono (λb x h=>let ⟨p1,p2⟩:=PX h;XQ p1 (k3 b x p1 p2)) rd)
 ·obtain⟨T,N,_⟩:=aft g f H' A;exact qx _ e H' hX T N
noncomputable def Zrz(i j:Nat)(c:Pw2)(r:PTA):PTW:=λγ R X=>match γ[i]?,γ[j]? with
 |some (some<|.own o1),some (some<|.own n)=>r γ (λl=>match passes l with|some h=>c o1 n h (λg f d=>R ((γ.set i<|some<|.own g).set j (some<|.own f)) d) (λg f e=>X ((γ.set i<|some<|.own g).set j (some<|.own f)) e)|none=>False) (X γ)
 |_,_=>False
noncomputable def Gp(i j:Nat)(c:Pw2)(r:PTA):PTW:=λγ R X=>match γ[i]?,γ[j]? with
 |some (some<|.own o1),some (some<|.own n)=>r γ (λl=>match passes l with|some f=>c o1 n f (λh g d=>R ((γ.set i<|some<|.own h).set j (some<|.own g)) d) (λ_ _ _=>False)|none=>False) (X γ)
 |_,_=>False
def LL(i j:Nat)(n:i≠j){c o r}(C:X6 K mg E o r):PH K mg E (Nm (NG mg c K) [] E0<|Kg (K7 i)<|Kg (K7 j) o) (Gp i j c r):=by
 intro H0 B H σ γ R X Q J f h q A;unfold Gp at h;split at h
 ·rename_i o1 Y s p;obtain⟨T,l,a1,rfl,_,_⟩:=f.slot i _ s;obtain⟨N,g,a2,rfl,_,_⟩:=f.slot j _ p;refine⟨_,l,_,g,C H0 B H σ γ _ _ _ f h (λU w H1 u M x=>?_) λc H' G v=>A γ c H' G (f.grow v) (Fr.grow v)⟩;show NG mg c K ((V.ref a1::V.ref a2::w)++[]) H1 Q E0;rw[Qv];split at u
  ·rename_i y L;exact Zfr (X:=λ_ _=>False) f J M n s p l g x L u q λ_ _ _ z=>z.elim
  ·grind
 ·grind
abbrev PTV:=Γ->(Γ->Bool->Prop)->(Γ->Str->Prop)->Prop
def Ah(K:ZU)(mg:ZY)(E:L2.St->XK)(t:TT)(p:PTV):Prop:=∀(H0:Hp) (B:Addr->Prop) (H:Hp) (σ:L2.St) (γ:Γ) (R:Γ->Bool->Prop) (X:Γ->Str->Prop) (Q:Bool->Hp->Prop),(∀b,B b->∃o,H0 b=some o)->Xn K H0 B H σ γ->p γ R X->
 (∀f b H',R f b->Xn K H0 B H' σ f->Fr B H σ γ H' σ f->Q b H')->(∀f c H',X f c->Xn K H0 B H' σ f->Fr B H σ γ H' σ f->XE mg (E σ) c H')->t σ H Q
noncomputable def pVW(w:PTW):PTV:=λγ R X=>w γ (λf d=>match d with | .bl c=>R f c|_=>False) X
def Ms(hw:PH K mg E te w):Ah K mg E (Do K te) (pVW w):=by
 intro H0 B H σ γ R X Q p f h q o;refine hw H0 B H σ γ _ _ _ p f h (λl d v H' g r f1 n=>?_) o;split at g
 ·rw[n.bl_inv];exact⟨_,rfl,q _ _ _ g r f1⟩
 ·grind
noncomputable def Zl7(p:PTV):PTV:=λγ R X=>p γ (λf b=>R f (!b)) X
def Md(n:Ah K mg E t p):Ah K mg E (Ex t) (Zl7 p):=by
 intro H0 B H σ γ R X Q o g h q l;exact n H0 B H σ γ _ _ _ o g h (λf b H' r s f1=>q f (!b) H' r s f1) l
noncomputable def Zfq(c:PTV)(p q:PTS):PTS:=λR γ=>c γ (λf b=>if b=true then p R f else q R f) R.ex
def RG{p q}(s:Ah K mg E tt c)(r:Xy K mg E t p)(hq:Xy K mg E u q):Xy K mg E (AA tt t u) (Zfq c p q):=by
 intro H0 B H σ γ R D l n h e;refine s H0 B H σ γ _ _ _ l n h (λf b H' o g f1=>?_) λf c H' o g f1=>e.ex _ _ _ _ o g f1;cases b with
 |true=>
  exact r H0 B H' σ f R D l g (by grind) (e.from f1)
 |false=>
  exact hq H0 B H' σ f R D l g (by grind) (e.from f1)
noncomputable def O8(i:Nat):PTW:=λγ R _=>match γ[i]? with
 |some (some<|.own<|.lsA x f)=>∃d,f[f.length-1]?=some d/\R (γ.set i<|some<|.own<|.lsA x f.dropLast) d
 |some (some<|.own<|.lst f)=>∃d,f[f.length-1]?=some d/\R (γ.set i<|some<|.own<|.lst f.dropLast) d
 |_=>False
def Zi6(i:Nat):PH K mg E (Bz K "list" EV<|K7 i) (O8 i):=by
 intro H0 B H σ γ R X Q L f h q J;unfold O8 at h;split at h
 ·rename_i x C n;obtain⟨d,z,h⟩:=h;obtain⟨v,l,b,rfl,w,rfl,us,o,g⟩:=f.slot i _ n;obtain⟨u,s,r⟩:=g.get z;refine⟨_,l,.inl ⟨rfl,us,SqL.of o⟩,b,us,u,rfl,rfl,o,by rw[g.len];exact s,?_⟩;obtain⟨A,p⟩:=f.mutate (es:=.lsA b C.dropLast) (us:=.lst us.dropLast) n l trivial λF H' G y=>⟨rfl,_,y,Rps.mono G (Rps.dropLast g)⟩;exact q _ _ _ _ h A p (Rp.mono p.off r)
 ·rename_i C n;obtain⟨d,z,h⟩:=h;obtain⟨v,l,b,rfl,w,us,o,g⟩:=f.slot i _ n;obtain⟨u,s,r⟩:=g.get z;refine⟨_,l,.inl ⟨rfl,us,SqL.of o⟩,b,us,u,rfl,rfl,o,by rw[g.len];exact s,?_⟩;obtain⟨A,p⟩:=f.mutate (es:=.lst C.dropLast) (us:=.lst us.dropLast) n l trivial λF H' G y=>⟨_,y,Rps.mono G (Rps.dropLast g)⟩;exact q _ _ _ _ h A p (Rp.mono p.off r)
 ·grind
abbrev Pq:=List S->(S->Prop)->(Str->Prop)->Prop
noncomputable def spS(mg:ZY)(c:Pq)(K:ZU):Sp:=λg H Q E=>∃(f:List S) (B:Addr->Prop) (R:S->Prop) (X:Str->Prop),(∀b,B b->Mut (H b))/\TVs K B H H H f g/\(∀s∈f,s.flat)/\c f R X/\
 (∀s v H',R s->Same H H'->TV K B H H H' s v->Q v H')/\∀e H',X e->Same H H'->XE mg E e H'
noncomputable def TZ(N:Yd)(f:List S):Γ:=f.map some++List.replicate (N.length-f.length) none
def Zgd{f us}(C:∀b,B b->Mut (H b))(r:TVs K B H H H f us)(w:∀s∈f,s.flat)(L:f.length<=N.length):Xn K H B H (start N us) (TZ N f):=by
 have get:∀i s,(TZ N f)[i]?=some (some s)->f[i]?=some s:=λi s h=>by
  unfold TZ at h;by_cases l:i<f.length
  ·rw[Qj (by rw[W6];exact l),WL,W8 l]at h;rw[W8 l];exact Q2 some (WR<|WR h)
  ·grind
 have noown:∀(i:Nat) g,(TZ N f)[i]?≠some (some<|.own g):=λi g h=>w _ (WZ<|get i _ h)
 have A:∀b,zof B (TZ N f) (start N us) b->B b:=λb z=>by
  rcases z with z|⟨i,g,T,n,Q,M⟩
  ·exact z
  ·exact absurd n (noown i g)
 refine⟨Same.refl _,?_,C,λi j x J g G b n _ _ _ _ _=>absurd n (noown i g),λi s h=>?_⟩
 ·unfold L2.start TZ;simp[r.len]
 ·have u:=get i s h;obtain⟨v,p,o⟩:=r.get u;refine⟨v,?_,?_⟩
  ·unfold L2.start;rw[Qj (by rw[W6];exact(WT.mp p).1),WL,p];rfl
  ·have:=w s (WZ u)
   cases s with
   |bor d=>exact o
   |sh d=>exact Rp.mono (Xx (Same.refl _) λb _ _ z y=>z (A b y)) o
   |_=>exact this.elim
def Zps{t p vs Q C n}(h:spS mg c K vs H Q C)(u:Xy K mg (λ_=>C) t p)(U:n<=N.length)(w:∀f R X,c f R X->f.length=n/\p {nx:=λ_=>R (.sh .non),rt:=R,ex:=λ_ e=>X e} (TZ N f)):t {nx:=λ_ H'=>Q .non H',rt:=Q} (start N vs) H:=by
 obtain⟨f,B,R,X,A,r,J,L,y,M⟩:=h;obtain⟨e,w⟩:=w f R X L;exact u H B H _ _ _ _ (λb z=>T6 (A b z)) (Zgd A r J<|by lia) w ⟨λl o H' g x f1=>y _ _ H' g x.same .non,λs v H' g T G=>y s v H' g T G,λl o c H' g x f1=>M c H' g x.same,λ_ _ _ z=>z.elim,λ_ _ _ z=>z.elim,λ_ _ _ _ _ z=>z.elim⟩
def Zjg(h:spS mg c K vs H Q o)(g:∀f R X,c f R X->f.length=n):vs.length=n:=by
 obtain⟨f,B,R,X,_,r,_,l,_⟩:=h;rw[r.len]
 grind
def TV.backS (env:Xn K H0 B H1 σ γ) (o:Same H H1) (f:Same H1 H') (h:TV K (zof B γ σ) H1 H1 H' s v):TV K (zof B γ σ) H0 H H' s.back v:=by
 cases s with
 |bor d=>exact Td (λb z=>Te f (env.zm b z)) (Rp.mono f h)
 |own n=>
  obtain⟨a,rfl,l,r⟩:=h;exact⟨a,rfl,(λb g=>o.free (l b g)),r⟩
 |view n=>
  obtain⟨a,rfl,r⟩:=h;exact r.rp off_sub
 |_=>exact h
def TV.passS {v} (env:Xn K H0 B H1 σ γ) (g:∀b,zof B γ σ b->Mut (H b)) (n:Same H H1) (h:TV K (zof B γ σ) H0 H H1 s v) (e:s.pass=some f):TV K (zof B γ σ) H1 H1 H1 f v:=by
 have shd:∀d,s.shd=some d->Rp K (off (zof B γ σ) H1) d v:=λd l=>h.shd env.same g n l;cases s with
 |view o=>cases e
 |tmp d=>
  unfold S.pass at e;cases q:imm d with
  |false=>simp_all
  |true=>simp[q]at e;subst e;exact shd d (by unfold S.shd;simp[q])
 |bor d=>
  unfold S.pass at e;cases q:imm d with
  |false=>simp[q]at e;subst e;exact Rp.mono env.same h
  |true=>simp[q]at e;subst e;exact shd d (by unfold S.shd;simp[q])
 |_=>cases e;exact shd _ rfl
theorem TVs.passS (env:Xn K H0 B H1 σ γ) (l:∀b,zof B γ σ b->Mut (H b)) (n:Same H H1):∀{g f}{vs:List V},TVs K (zof B γ σ) H0 H H1 g vs->passes g=some f->TVs K (zof B γ σ) H1 H1 H1 f vs
 |_,_,_,.nil,e=>by cases e;exact .nil
 |_,_,_,.cons h r,e=>by
  unfold passes at e;split at e
  ·rename_i s u p o;cases e
   exact .cons (h.passS env l n p) (TVs.passS env l n r o)
  ·grind
noncomputable def Zjo(c:Pq)(r:PTA):PTE:=λγ R X=>r γ (λg=>match passes g with|some f=>c f (λs=>R s.back) (λ_=>False)|none=>False) X
def Dz{n r}(G:X6 K mg E n r):Xj K mg E (Nm (spS mg c K) [] E0 n) (Zjo c r):=by
 intro H0 B H σ γ R X Q g p q A;refine G H0 B H σ γ _ X _ g p (λL J H1 o h y=>?_) A;rw[Qv];have f:=g.grow h;split at o
 ·rename_i l u;exact⟨l,zof B γ σ,_,_,f.zm,y.passS f g.zm h u,Bm u,o,λs v H' C w x=>q _ _ H' C (h.trans w) (x.backS f h w),λ_ _ z=>z.elim⟩
 ·grind
noncomputable def Zbx(a:PTE)(l u:PTO):PTE:=λγ R X=>a γ (λs=>l γ (λlo=>u γ (λg=>match s.d with | .scr f=>R (.own ((cutD f lo g).map D.int))|_=>False) X) X) X
def Zl6(ns:ZW)(lo f:Option Int):NP (ns.map V.int) lo f=(cutD ns lo f).map V.int:=by
 unfold NP cutD;simp
def Zcm{a l u}(T:Xj K mg E te a)(M:N8 K mg E C l)(L:N8 K mg E G u):Xj K mg E (tSl (F8 K) te C G) (Zbx a l u):=by
 intro H0 B H σ γ R X Q f p q o;refine T H0 B H σ γ _ X _ f p (λx v H1 Y h J=>?_) o;refine M H0 B H1 σ γ _ X _ (f.grow h) Y (λlo H2 U n=>?_) λc H' r s=>o c H' r (h.trans s);refine L H0 B H2 σ γ _ X _ ((f.grow h).grow n) U (λhi H3 z A=>?_) λc H' r s=>o c H' r ((h.trans n).trans s);have g:=(h.trans n).trans A;split at z
 ·rename_i ns e;have w:=(J.grow<|n.trans A).rp (f.grow g).same;rw[e]at w;obtain⟨b,rfl,N⟩:=w.scr_inv;refine⟨b,_,rfl,N,λm y=>?_⟩;rw[Zl6];exact q _ _ _ z (g.trans<|XU y) (TM g y<|Rps.of_ints _)
 ·grind
end
open M
inductive Dd where
 |sell (p h:Int)|part (p w:Int)|unite (p:Int)|wish (a b:Int)|drop (a b:Int)
noncomputable def Dd.q:Dd->Str×ZW
 | .sell p h=>("sell",[p,h]) | .part p w=>("part",[p,w]) | .unite p=>("unite",[p]) | .wish a b=>("wish",[a,b]) | .drop a b=>("drop",[a,b])
noncomputable def Dd.land:Dd->Bool
 | .sell _ _=>true | .part _ _=>true | .unite _=>true|_=>false
noncomputable def Dd.err (f w:ZV):Dd->Option Str
 | .sell p h=>KU f p h | .part p v=>Kp f p v | .unite p=>XX f p | .wish a b=>Ke w a b | .drop a b=>Ko w a b
noncomputable def Dd.fld (f:ZV):Dd->ZV
 | .sell p h=>TK f p h | .part p v=>PK f p v | .unite p=>PP f p|_=>f
noncomputable def Dd.wsh (w:ZV):Dd->ZV
 | .wish a b=>w++[(a,b)] | .drop a b=>S8 w a b|_=>w
noncomputable def codeN:Option Str->Int
 |none=>0
 |some c=>if c=("NoStrip" : Str)then 1 else if c=("BadHolder" : Str)then 2 else if c=("OwnStrip" : Str)then 3 else if c=("BadPart" : Str)then 4 else if c=("TooManyStrips" : Str)then 5 else if c=("UnlikeHolders" : Str)then 6 else if c=("TooWide" : Str)then 7 else if c=("LikeHolders" : Str)then 8 else if c=("WishStands" : Str)then 9 else if c=("TooManyWishes" : Str)then 10 else 11
def Dl:codeN (some "NoStrip")=1:=rfl
def FE:codeN (some "BadHolder")=2:=rfl
def M0:codeN (some "OwnStrip")=3:=rfl
def E9:codeN (some "BadPart")=4:=rfl
def Hy:codeN (some "TooManyStrips")=5:=rfl
def RB:codeN (some "UnlikeHolders")=6:=rfl
def Ht:codeN (some "TooWide")=7:=rfl
def Lw:codeN (some "LikeHolders")=8:=rfl
def GS:codeN (some "WishStands")=9:=rfl
def MS:codeN (some "TooManyWishes")=10:=rfl
def Hl:codeN (some "NoWish")=11:=rfl
noncomputable def Dd.fld' (f:ZV) (x:Dd):ZV:=if x.err f []=none then x.fld f else f
noncomputable def Dd.wsh' (w:ZV) (x:Dd):ZV:=if x.err [] w=none then x.wsh w else w
noncomputable def Dd.nf (f w:ZV) (x:Dd):ZV:=if x.err f w=none then x.fld f else f
noncomputable def Dd.nw (f w:ZV) (x:Dd):ZV:=if x.err f w=none then x.wsh w else w
def Dd.err_land {x:Dd} (h:x.land=true) (f w u:ZV):x.err f w=x.err f u:=by
 cases x<;>first|rfl|cases h
def Dd.err_wish {x:Dd} (h:x.land=false) (f g w:ZV):x.err f w=x.err g w:=by
 cases x<;>first|rfl|cases h
def Dd.err_cases (f w : ZV) (x : Dd) : x.err f w = none ∨ x.err f w = some ("NoStrip" : Str) ∨ x.err f w = some ("BadHolder" : Str) ∨ x.err f w = some ("OwnStrip" : Str) ∨ x.err f w = some ("BadPart" : Str) ∨ x.err f w = some ("TooManyStrips" : Str) ∨ x.err f w = some ("UnlikeHolders" : Str) ∨ x.err f w = some ("TooWide" : Str) ∨ x.err f w = some ("LikeHolders" : Str) ∨ x.err f w = some ("WishStands" : Str) ∨ x.err f w = some ("TooManyWishes" : Str) ∨ x.err f w = some ("NoWish" : Str) := by
  cases x with
  | sell p h => show KU f p h = _ ∨ KU f p h = _ ∨ KU f p h = _ ∨ KU f p h = _ ∨ _; unfold KU; repeat' split
                all_goals simp
  | part p h => show Kp f p h = _ ∨ Kp f p h = _ ∨ Kp f p h = _ ∨ Kp f p h = _ ∨ Kp f p h = _ ∨ Kp f p h = _ ∨ _; unfold Kp; repeat' split
                all_goals simp
  | unite p => show XX f p = _ ∨ XX f p = _ ∨ XX f p = _ ∨ XX f p = _ ∨ XX f p = _ ∨ XX f p = _ ∨ XX f p = _ ∨ XX f p = _ ∨ _; unfold XX; repeat' split
               all_goals simp
  | wish a b => show Ke w a b = _ ∨ Ke w a b = _ ∨ Ke w a b = _ ∨ Ke w a b = _ ∨ Ke w a b = _ ∨ Ke w a b = _ ∨ Ke w a b = _ ∨ Ke w a b = _ ∨ Ke w a b = _ ∨ Ke w a b = _ ∨ Ke w a b = _ ∨ _; unfold Ke; repeat' split
                all_goals simp
  | drop a b => show Ko w a b = _ ∨ Ko w a b = _ ∨ Ko w a b = _ ∨ Ko w a b = _ ∨ Ko w a b = _ ∨ Ko w a b = _ ∨ Ko w a b = _ ∨ Ko w a b = _ ∨ Ko w a b = _ ∨ Ko w a b = _ ∨ Ko w a b = _ ∨ Ko w a b = _; unfold Ko; repeat' split
                all_goals simp
abbrev Kd:=List (Dd×ZV×ZV)
noncomputable def bkH(hs:Kd):List (Str×ZW):=hs.map λh=>h.1.q
noncomputable def fsH(f0:ZV)(hs:Kd):List (ZV):=f0::hs.map λh=>h.2.1
noncomputable def wsH(hs:Kd):List (ZV):=[]::hs.map λh=>h.2.2
noncomputable def Ga(h:Dd×ZV×ZV):D:=.tup [plD h.2.1,plD h.2.2,dD h.1.q]
noncomputable def Zov(f0:ZV):D:=.tup [plD f0,.lst [],.tup []]
noncomputable def Kt(f0:ZV)(hs:Kd):List D:=Zov f0::hs.map Ga
noncomputable def XZ(f0:ZV)(hs:Kd):ZV:=match hs.getLast? with|some h=>h.2.1|none=>f0
noncomputable def Kb(hs:Kd):ZV:=match hs.getLast? with|some h=>h.2.2|none=>[]
def AC(f0:ZV)(hs:Kd):∃fs,fsH f0 hs=fs++[XZ f0 hs]/\fs.length=hs.length:=by
 unfold fsH XZ;rcases QP hs with rfl|⟨h,x,rfl⟩
 ·exact⟨[],rfl,rfl⟩
 ·refine⟨f0::h.map λh=>h.2.1,?_,by simp⟩;simp
def DZ(hs:Kd):∃f,wsH hs=f++[Kb hs]/\f.length=hs.length:=by
 unfold wsH Kb;rcases QP hs with rfl|⟨h,x,rfl⟩
 ·exact⟨[],rfl,rfl⟩
 ·refine⟨[]::h.map λh=>h.2.2,?_,by simp⟩;simp
def D4(f0:ZV)(hs:Kd):∃d,atI (Kt f0 hs) (-1)=some (.tup [plD (XZ f0 hs),plD (Kb hs),d]):=by
 have f:∀l (x:D),l≠[]->l[l.length-1]?=some x->atI l (-1)=some x:=λl x g h=>by
  have n:=V5.mpr g;unfold atI ixN;rw[WG (by lia),WH (by lia)];show l[_]?=_;rw[show((-1:Int)+(l.length:Int)).toNat=l.length-1 by lia];lia
 unfold Kt XZ Kb;rcases QP hs with rfl|⟨h,x,rfl⟩
 ·exact⟨.tup [],f _ _ (by simp) rfl⟩
 ·refine⟨dD x.1.q,f _ _ (by simp) ?_⟩;rw[Vq,List.getLast?_concat,WV,W6,WJ,Vb,QF,QB,WS,Qu (by simp),W6,Nat.sub_self];rfl
def A9(hs:Kd)(h:Dd×ZV×ZV):bkH (hs++[h])=bkH hs++[h.1.q]:=by unfold bkH;rw[WS];rfl
def Fz(f0:ZV)(hs:Kd)(h:Dd×ZV×ZV):fsH f0 (hs++[h])=fsH f0 hs++[h.2.1]:=by unfold fsH;rw[WS];rfl
def FJ(hs:Kd)(h:Dd×ZV×ZV):wsH (hs++[h])=wsH hs++[h.2.2]:=by unfold wsH;rw[WS];rfl
def EB(f0:ZV)(hs:Kd)(h:Dd×ZV×ZV):Kt f0 (hs++[h])=Kt f0 hs++[Ga h]:=by unfold Kt;rw[WS];rfl
def A4(hs:Kd):(bkH hs).length=hs.length:=W6 ..
def Zbw(f0:ZV)(hs:Kd):(fsH f0 hs).length=hs.length+1:=by unfold fsH;rw[WV,W6]
def Zc9(hs:Kd):(wsH hs).length=hs.length+1:=by unfold wsH;rw[WV,W6]
def Fm(f0:ZV)(hs:Kd):(Kt f0 hs).length=hs.length+1:=by unfold Kt;rw[WV,W6]
end Pu
namespace Pu
@[irreducible] def mixP (c k:Int):Int:=((c % 2147483647+7919*k+1)*48271 % 2147483647+104729*k+11)*69621 % 2147483647
open L2 M Own PyProof.Rows PySem PySem.Spec
def Dd.fld_ok {d:Dd} (g:Field f) (o:f.length<=40) (e:d.err f w=none):Field (d.fld f)/\(d.fld f).length<=40:=by
 cases d with
 |sell p h=>exact⟨Zdm g e,by rw[show(Dd.sell p h).fld f=TK f p h from rfl,Zh3];exact o⟩
 |part p v=>
  have e:Kp f p v=none:=e;rcases Zhm f p v with⟨z,_⟩|⟨z,_⟩|⟨z,_⟩|⟨_,_,n,l,s,r,u⟩
  ·grind
  ·rw[e]at z;cases z
  ·rw[e]at z;cases z
  ·exact⟨Zil g n l s r,by rw[show(Dd.part p v).fld f=PK f p v from rfl,Zjt n l];lia⟩
 |unite p=>
  have e:XX f p=none:=e;rcases Zfs f p with⟨z,_⟩|⟨z,_⟩|⟨z,_⟩|⟨_,_,n,l⟩
  ·rw[e]at z;cases z
  ·rw[e]at z;cases z
  ·rw[e]at z;cases z
  ·exact⟨Zju g e,by rw[show(Dd.unite p).fld f=PP f p from rfl];have:=Zbb n l;lia⟩
 |_=>exact⟨g,o⟩
def Dd.wsh_ok {f w}{d:Dd} (g:To w) (e:d.err f w=none):To (d.wsh w):=by
 cases d with
 |wish a b=>exact Za6 g e
 |drop a b=>exact Zc5 g
 |_=>trivial
def FineH(f0:ZV)(hs:Kd):Prop:=(∀g∈fsH f0 hs,Field g/\g.length<=40)/\∀g∈wsH hs,To g
def FineH.cur (h:FineH f0 hs):(Field (XZ f0 hs)/\(XZ f0 hs).length<=40)/\To (Kb hs):=by
 obtain⟨fs,l,_⟩:=AC f0 hs;obtain⟨f,g,_⟩:=DZ hs;exact⟨h.1 _ (by grind),h.2 _ (by grind)⟩
def FineH.nil (l:Field f0) (h:f0.length<=40):FineH f0 []:=
 ⟨λg f=>by rw[show fsH f0 []=[f0]from rfl,WB]at f;subst f;exact⟨l,h⟩,λg f=>by rw[show wsH []=[[]]from rfl,WB]at f;subst f;exact Za5⟩
def FineH.snoc (h:FineH f0 hs) (n:Field x.2.1/\x.2.1.length<=40) (l:To x.2.2):FineH f0 (hs++[x]):=
 ⟨λg f=>by rw[Fz]at f;rcases WO.mp f with f|f;{exact h.1 g f};{rw[WB]at f;subst f;exact n},λg f=>by rw[FJ]at f;rcases WO.mp f with f|f;{exact h.2 g f};{rw[WB]at f;subst f;exact l}⟩
def FineH.init (h:FineH f0 (hs++[x])):FineH f0 hs:=
 ⟨λg f=>h.1 g (by rw[Fz];exact Q4 _ f),λg f=>h.2 g (by rw[FJ];exact Q4 _ f)⟩
def FineH.back (h:FineH f0 hs):FineH f0 hs.dropLast:=by
 rcases QP hs with rfl|⟨l,x,rfl⟩
 ·grind
 ·rw[Vq]at h ⊢;rw[Ve];exact h.init
noncomputable def Po(f0:ZV)(hs:Kd)(d:Dd):Kd:=if d.err (XZ f0 hs) (Kb hs)=none then hs++[(d,d.fld (XZ f0 hs),d.wsh (Kb hs))]else hs
def Iu(f0:ZV)(hs:Kd)(d:Dd):(Po f0 hs d).length<=hs.length+1:=by
 unfold Po;split
 ·simp
 ·simp
def FineH.add (h:FineH f0 hs) (d:Dd):FineH f0 (Po f0 hs d):=by
 unfold Po;split
 ·rename_i e;obtain⟨⟨l,g⟩,f⟩:=h.cur;exact h.snoc (Dd.fld_ok l g e) (Dd.wsh_ok f e)
 ·lia
def Dd.code_pos {x:Dd} (h:¬x.err f w=none):0<codeN (x.err f w):=by
 rcases x.err_cases f w with e|e|e|e|e|e|e|e|e|e|e|e<;>rw[e]at h ⊢
 ·grind
 ·trivial
 ·rw[FE];decide
 ·rw[M0];decide
 ·rw[E9];decide
 ·rw[Hy];decide
 ·rw[RB];decide
 ·rw[Ht];decide
 ·rw[Lw];decide
 ·rw[GS];decide
 ·rw[MS];decide
 ·rw[Hl];decide
def Dd.not_back (d:Dd):¬d.q.1=("back" : Str):=by
 cases d with
 |sell p h=>exact(by decide +kernel:¬("sell" : Str) = "back")
 |part p h=>exact(by decide +kernel:¬("part" : Str) = "back")
 |unite p=>exact(by decide +kernel:¬("unite" : Str) = "back")
 |wish p h=>exact(by decide +kernel:¬("wish" : Str) = "back")
 |drop p h=>exact(by decide +kernel:¬("drop" : Str) = "back")
def Zjv(n:Nu m){v}(h:1<=v/\v<=10):Nu (m.set 0 v):=by
 obtain⟨a,b,c,d,e,rfl,o,l,g,hd,f⟩:=n;exact⟨v,b,c,d,e,rfl,h,l,g,hd,f⟩
end Pu
namespace Own
open L2
section
variable {prog:Program}{w:World}{A:Around}{E:ZZ}{s:Shared}{l:Addr}{xs:Array (Int×Tok)}
def Zct(y:A.handled=none)(r:s.heap.IsTuple l (intItems xs))(n:0<xs.size)(h:∀v f g,(intItems xs)[argBest (λi j=>decide (numAt xs i<numAt xs j)) (xs.size-1)]?=some v->(∀b o,s.heap.get? b=some o->f.get? b=some o)->Q v {s with heap:=f,toks:=g}) :
  wpAny (model prog w) A (call (.builtin "min") [.ref l]) Q E s:=by
 have p:l<s.heap.objs.size:=by obtain⟨_,e,_⟩:=r;exact WM e
 refine call_min_walk (wpAny_pyIter_tuple r ?_);refine⟨_,[_,l],[_],_,_,_,_,rfl,Walks.tuple (A:=A.in1) y _ l (Qf p) (intItems xs),⟨⟨_,WQ _ rfl,rfl,rfl⟩,r.push _⟩,λc u=>?_,by simpa [intItems]using n,CmpOf.ints_lt (numAt xs) (λ_ _=>intItems_at),λv f g z x=>?_⟩
 ·show c<(s.heap.push _).objs.size;rw[Vj];rcases WU.mp u with rfl|u
  ·exact V0 _
  ·grind
 ·refine h v f g (by simpa [intItems]using z) λb o e=>x b o (λhm=>?_) (WD _ e);rcases WU.mp hm with B|hm
  ·exact absurd (B▸WM e) (QI _)
  ·cases hm
def Zdd(y:A.handled=none)(r:s.heap.IsTuple l (intItems xs))(n:0<xs.size)(h:∀v f g,(intItems xs)[argBest (λi j=>decide (numAt xs i>numAt xs j)) (xs.size-1)]?=some v->(∀b o,s.heap.get? b=some o->f.get? b=some o)->Q v {s with heap:=f,toks:=g}) :
  wpAny (model prog w) A (call (.builtin "max") [.ref l]) Q E s:=by
 have p:l<s.heap.objs.size:=by obtain⟨_,e,_⟩:=r;exact WM e
 refine call_max_walk (wpAny_pyIter_tuple r ?_);refine⟨_,[_,l],[_],_,_,_,_,rfl,Walks.tuple (A:=A.in1) y _ l (Qf p) (intItems xs),⟨⟨_,WQ _ rfl,rfl,rfl⟩,r.push _⟩,λc u=>?_,by simpa [intItems]using n,CmpOf.ints_gt (numAt xs) (λ_ _=>intItems_at),λv f g z x=>?_⟩
 ·show c<(s.heap.push _).objs.size;rw[Vj];rcases WU.mp u with rfl|u
  ·exact V0 _
  ·grind
 ·refine h v f g (by simpa [intItems]using z) λb o e=>x b o (λhm=>?_) (WD _ e);rcases WU.mp hm with B|hm
  ·exact absurd (B▸WM e) (QI _)
  ·cases hm
end
section
variable {X:Cx}{K:ZU}
def Zhp(E:X.calm=true)(L:autoParam (X.K=K) au_0):Kn X (.builtin "min") (λxs H Q=>∃p a b,xs=[.ref p]/\SqT K H p [.int a,.int b]/\Q (.int (if b<a then b else a)) H):=by
 subst L;intro pins s M H xs N Q I w h;obtain⟨p,a,b,rfl,G,q⟩:=h;obtain⟨u,rfl,x⟩:=w.one;obtain rfl:=x;obtain⟨B,r,A,_⟩:=I.tuple G;cases r with
 |cons z r=>
  cases r with
  |cons y r=>
   cases r
   obtain⟨g,rfl⟩:=z;obtain⟨f,rfl⟩:=y;have C:s.heap.IsTuple p (intItems #[(a,g),(b,f)]):=by have this:s.heap.IsTuple p _:=A;simpa [intItems]using this
   refine Zct (I.ok.hd E) C (by simp) λv U T J o=>?_;have n:(intItems #[(a,g),(b,f)])[argBest (λi j=>decide (numAt #[(a,g),(b,f)] i<numAt #[(a,g),(b,f)] j)) 1]?=some v:=J;by_cases l:b<a
   ·have e:argBest (λi j=>decide (numAt #[(a,g),(b,f)] i<numAt #[(a,g),(b,f)] j)) 1=1:=by simp[argBest,numAt,l]
    rw[e]at n;obtain rfl:Value.int b f=v:=by simpa [intItems]using n
    rw[WH l]at q;exact⟨.int b,H,I.kept o,⟨_,rfl⟩,q⟩
   ·have e:argBest (λi j=>decide (numAt #[(a,g),(b,f)] i<numAt #[(a,g),(b,f)] j)) 1=0:=by simp[argBest,numAt,l]
    rw[e]at n;obtain rfl:Value.int a g=v:=by simpa [intItems]using n
    rw[WG l]at q;exact⟨.int a,H,I.kept o,⟨_,rfl⟩,q⟩
def Zbd(E:X.calm=true)(L:autoParam (X.K=K) au_0):Kn X (.builtin "max") (λxs H Q=>∃p a b,xs=[.ref p]/\SqT K H p [.int a,.int b]/\Q (.int (if b>a then b else a)) H):=by
 subst L;intro pins s M H xs N Q I w h;obtain⟨p,a,b,rfl,G,q⟩:=h;obtain⟨u,rfl,x⟩:=w.one;obtain rfl:=x;obtain⟨B,r,A,_⟩:=I.tuple G;cases r with
 |cons z r=>
  cases r with
  |cons y r=>
   cases r
   obtain⟨g,rfl⟩:=z;obtain⟨f,rfl⟩:=y;have C:s.heap.IsTuple p (intItems #[(a,g),(b,f)]):=by have this:s.heap.IsTuple p _:=A;simpa [intItems]using this
   refine Zdd (I.ok.hd E) C (by simp) λv U T J o=>?_;have n:(intItems #[(a,g),(b,f)])[argBest (λi j=>decide (numAt #[(a,g),(b,f)] i>numAt #[(a,g),(b,f)] j)) 1]?=some v:=J;by_cases l:b>a
   ·have e:argBest (λi j=>decide (numAt #[(a,g),(b,f)] i>numAt #[(a,g),(b,f)] j)) 1=1:=by simp[argBest,numAt,l]
    rw[e]at n;obtain rfl:Value.int b f=v:=by simpa [intItems]using n
    rw[WH l]at q;exact⟨.int b,H,I.kept o,⟨_,rfl⟩,q⟩
   ·have e:argBest (λi j=>decide (numAt #[(a,g),(b,f)] i>numAt #[(a,g),(b,f)] j)) 1=0:=by simp[argBest,numAt,l]
    rw[e]at n;obtain rfl:Value.int a g=v:=by simpa [intItems]using n
    rw[WG l]at q;exact⟨.int a,H,I.kept o,⟨_,rfl⟩,q⟩
end
end Own
namespace Pu
open L2 Own
section
variable {K:ZU}{mg:ZY}{E:L2.St->XK}
def Ho:List S->(S->Prop)->Prop
 |[s],R=>(match s.d with | .tup [.int a,.int b]=>R (.sh<|.int (if b<a then b else a))|_=>False)
 |_,_=>False
def Mz:List S->(S->Prop)->Prop
 |[s],R=>(match s.d with | .tup [.int a,.int b]=>R (.sh<|.int (if b>a then b else a))|_=>False)
 |_,_=>False
def Zkk(B:X6 K mg E n r):Xj K mg E (tCB (λxs H Q=>∃p a b,xs=[.ref p]/\SqT K H p [.int a,.int b]/\Q (.int (if b<a then b else a)) H) n) (pCB Ho r):=by
 refine PL B λT H C Z L G R Q u M N l h q=>?_;unfold Ho at h;split at h
 ·rename_i s;obtain⟨v,rfl,o⟩:=l.one_inv;have f:=o.rp u;split at h
  ·rename_i a b e;rw[e]at f;obtain⟨p,J,rfl,g,w⟩:=Rp.tup_inv f;obtain⟨x,y,rfl,A,z⟩:=w.two_inv;rw[A.int_inv,z.int_inv]at g;exact⟨p,a,b,rfl,SqT.of g,q _ _ C h (Same.refl _) (.int _)⟩
  ·exact h.elim
 ·exact h.elim
def Zit(B:X6 K mg E n r):Xj K mg E (tCB (λxs H Q=>∃p a b,xs=[.ref p]/\SqT K H p [.int a,.int b]/\Q (.int (if b>a then b else a)) H) n) (pCB Mz r):=by
 refine PL B λT H C Z L G R Q u M N l h q=>?_;unfold Mz at h;split at h
 ·rename_i s;obtain⟨v,rfl,o⟩:=l.one_inv;have f:=o.rp u;split at h
  ·rename_i a b e;rw[e]at f;obtain⟨p,J,rfl,g,w⟩:=Rp.tup_inv f;obtain⟨x,y,rfl,A,z⟩:=w.two_inv;rw[A.int_inv,z.int_inv]at g;exact⟨p,a,b,rfl,SqT.of g,q _ _ C h (Same.refl _) (.int _)⟩
  ·grind
 ·grind
end
end Pu
namespace M
open L2 Own Pu
noncomputable def ltS(k:Int):ZV->Int
 |[]=>0
 |q::l=>(if q.1<k then q.2 else 0)+ltS k l
noncomputable def T8:ZV->Int
 |[]=>0
 |p::l=>ltS p.1 l*p.2+T8 l
theorem OG(k:Int)(a b:Int×Int)(B:ZV):∀A,ltS k (A++a::b::B)=ltS k (A++b::a::B)
 |[]=>by simp only[List.nil_append,ltS];lia
 |q::A=>by simp only[QS,ltS];rw[OG k a b B A]
theorem RW(a b:Int×Int)(B:ZV):∀A,T8 (A++a::b::B)+(if a.1<b.1 then a.2*b.2 else 0)=T8 (A++b::a::B)+(if b.1<a.1 then a.2*b.2 else 0)
 |[]=>by
  simp only[List.nil_append,T8,ltS];by_cases f:a.1<b.1
  ·grind
  ·grind
 |q::A=>by
  simp only[QS,T8];rw[OG q.1 a b B A]
  have:=RW a b B A
  lia
theorem Rn:∀{l:ZV},(∀q∈l,k<=q.1)->ltS k l=0
 |[],_=>rfl
 |q::l,h=>by
  unfold ltS;rw[WG (by grind),Rn λx hx=>h x (Qb _ hx)];rfl
theorem HP:∀{l:ZV},l.Pairwise (λx y=>x.1<=y.1)->T8 l=0
 |[],_=>rfl
 |p::l,h=>by
  obtain⟨g,f⟩:=QT.mp h;unfold T8;rw[Rn g,HP f,Int.zero_mul];rfl
noncomputable def hdN(ps:ZV)(m:Int):Int:=(ps.getD (m-1).toNat (0,0)).1
def Zge{p}(o:1<=p)(g:p<ns.length):∃A x y B,ns=A++x::y::B/\A.length+1=p/\Kh ns p=A++y::x::B/\ns.getD (p-1) 0=x/\ns.getD p 0=y:=by
 have f:ns.drop (p-1)=ns[p-1]'(by lia)::ns.drop (p-1+1):=Q1 (by lia);have n:p-1+1=p:=by lia
 rw[n,(Q1 g)]at f;have l:ns.getD p 0=ns[p]:=by rw[WC,W8 g];rfl
 have h:ns.getD (p-1) 0=ns[p-1]'(by lia):=by grind
 refine⟨ns.take (p-1),ns[p-1]'(by lia),ns[p],ns.drop (p+1),by rw[←f,Vp],by rw[Qa];lia,?_,h,l⟩;unfold Kh;rw[l,h];simp
def MJ{p}(g:1<=p)(f:p<ns.length):(Kh ns p).length=ns.length:=(ET g f).length_eq
noncomputable def rkN(ps:ZV)(o:ZW)(m:Int):Int:=(o.idxOf (hdN ps m):Nat)
noncomputable def KN(ps:ZV)(h:Int):ZW:=((List.range ps.length).filter λi=>decide ((ps.getD i (0,0)).1=h)).map λi:Nat=>0+(i:Int)+1
def mem_numN:x∈KN ps h↔(1<=x/\x<=ps.length)/\hdN ps x=h:=by
 unfold KN hdN;rw[Qk];constructor
 ·rintro⟨i,g,rfl⟩
  grind
 ·rintro⟨l,f⟩;exact⟨(x-1).toNat,Qh.mpr ⟨JJ.mpr (by lia),W9 f⟩,by lia⟩
def Gc(ps:ZV)(h:Int):(KN ps h).length<=ps.length:=by
 unfold KN
 grind
def FW(f:ZW)(p:Nat):Prop:=(∀q,1<=q->q<(if p=0 then f.length else p)->f.getD (q-1) 0<=f.getD q 0)/\(p=0\/(1<=p/\p<f.length/\f.getD p 0<f.getD (p-1) 0))
def FW.uniq (h:FW f p) (k:FW f g):p=g:=by
 have n:∀{a b:Nat},FW f a->FW f b->b≠0->(a=0\/b<a)->False:=λ{a b} s o l r=>by
  obtain⟨u,w,v⟩:=o.2.resolve_left l
  have:=s.1 b u (by grind)
  lia
 by_cases x:p=0
 ·grind
 ·grind
abbrev Mo:=Int×Int×Int×Int
inductive Mv (ps:ZV) (f:Int->Int):ZW->List Mo->Prop
 |done (ns:ZW):FW (ns.map f) 0->Mv ps f ns []
 |step (ns:ZW) (p:Nat) (ms:List Mo):FW (ns.map f) p->p≠0->Mv ps f (Kh ns p) ms->Mv ps f ns (((p:Int),ns.getD (p-1) 0,ns.getD p 0,exM ps ns p)::ms)
def KZ{f:Int->Int}{ns:ZW}{i}(h:i<ns.length):(ns.map f).getD i 0=f (ns.getD i 0):=by grind
noncomputable def Ff(ps:ZV)(ns:ZW):ZV:=ns.map λm=>ps.getD (m-1).toNat (0,0)
noncomputable def K9(f:Int->Int)(ns:ZW):Int:=T8 (ns.map λm=>(f m,1))
def GH(f:Int->Int){ns p}(l:1<=p)(g:p<ns.length)(h:f (ns.getD p 0)<f (ns.getD (p-1) 0)):K9 f ns=K9 f (Kh ns p)+1:=by
 obtain⟨A,x,y,B,e,_,n,ex,ey⟩:=Zge l g;rw[ex,ey]at h;rw[n,e];unfold K9;rw[WS,Qe,Qe,WS,Qe,Qe];have k:=RW (f x,1) (f y,1) (B.map λm=>(f m,1)) (A.map λm=>(f m,1));lia
theorem L6(f:Int->Int)(k:Int):∀l:ZW,0<=ltS k (l.map λm=>(f m,1))/\ltS k (l.map λm=>(f m,1))<=l.length
 |[]=>⟨VS 0,VS 0⟩
 |m::l=>by
  have:=L6 f k l
  rw[Qe,WV];unfold ltS;lia
theorem Se(f:Int->Int):∀l,0<=K9 f l/\K9 f l<=(l.length:Int)*l.length
 |[]=>⟨VS 0,VS 0⟩
 |m::l=>by
  have g:=Se f l;have h:=L6 f (f m) l;unfold K9 at g ⊢;rw[Qe,WV];unfold T8
  grind
noncomputable def toI:D->Int
 | .int i=>i
 |_=>0
noncomputable def mvN(f:List (Option Pu.S)):Nat:=match f[2]?,f[3]? with
 |some (some<|Pu.S.own<|Pu.O.lst g),some (some<|Pu.S.own<|Pu.O.lst h)=>(K9 (λm=>(g.map toI).getD (m-1).toNat 0)<|h.map toI).toNat
 |_,_=>0
def Sq(xs:ZW):(xs.map D.int).map toI=xs:=by
 rw[Qr];exact List.map_id _
end M
namespace Pu
open L2 Own M
noncomputable abbrev mvD(m:Mo):D:=.tup [.int m.1,.int m.2.1,.int m.2.2.1,.int m.2.2.2]
end Pu
namespace Pu
open L2 Own
section
variable {X:Cx}{k j:Nat}{x:Str}{ps:Yd}{sp:Sp}{e a b c:Expr}{es:Ye}{t:TA}{te tf tg:TE}{p pos:Pos}
def fz(C:Callee X.prog X.w X.K X.mg X.base CX0 k x ps sp)(h:Xv j X.A)(r:PA X (e::es) t)(l:autoParam (k<=j) au_1)(n:autoParam (Gl X x) au_0)(g:autoParam ((x==("__debug__" : Str))=false) au_1)(o:autoParam (starEach (e::es) X.env=(false,eval e X.env)::starEach es X.env) au_0)(f:autoParam ((backTo pos<|starEach es X.env).any (·.1)=false) au_0) :
  PE X (.Call (.Name x p) (e::es) [] pos) (Nm sp [] E0 t):=Ak C (h.mono l) XW r n g o f
def jx(K:ZU)(g:PE X a te)(f:PE X b tf)(h:autoParam (X.K=K) au_0)(hs:autoParam (AB b) au_7):PE X (.Subscript a b pos) (tOp (λx y H Q=>Bs K x y H Q\/SX K x y H Q) te tf):=Lq (O1 h) g f hs
def ln(K:ZU)(g:X.mg "len"=none)(l:PE X a te)(o:autoParam (X.K=K) au_0)(h:autoParam (Gl X "len") au_0)(hs:autoParam (starEach [a] X.env=(false,eval a X.env)::starEach [] X.env) au_0)(f:autoParam ((backTo pos<|starEach [] X.env).any (·.1)=false) au_0) :
  PE X (.Call (.Name "len" p) [a] [] pos) (tCB (λxs H Q=>∃x n,xs=[x]/\FZ K x H n/\Q (.int (n:Nat)) H)<|Kg te KE):=Ks (Ze2 o) h g PySem.boot_len (XY l Ky hs) (by decide) rfl hs f
def cq(K:ZU)(f:Xv j X.A)(h:PE X a te)(g:PE X b tf)(l:autoParam (X.K=K) au_0):PT X (.Compare a [.Eq] [b] pos) (FD<|tOp (λx y H Q=>rEq x y H Q\/Tw K false x y H Q) te tf):=Pv (Bh f.units0 l) h g (KY _)
def cn(K:ZU)(f:Xv j X.A)(h:PE X a te)(g:PE X b tf)(l:autoParam (X.K=K) au_0):PT X (.Compare a [.NotEq] [b] pos) (FD<|tOp (λx y H Q=>rNe x y H Q\/Tw K true x y H Q) te tf):=Pv (Zq2 f.units0 l) h g (KY _)
def az(f:PE X a te)(g:autoParam (starEach [a] X.env=(false,eval a X.env)::starEach [] X.env) au_0):PA X [a] (Kg te KE):=XY f Ky g
def bz(g:PE X a te)(f:PE X b tf)(l:autoParam (starEach [a,b] X.env=(false,eval a X.env)::starEach [b] X.env) au_0)(h:autoParam (starEach [b] X.env=(false,eval b X.env)::starEach [] X.env) au_0):PA X [a,b] (Kg te<|Kg tf KE):=XY g (XY f Ky h) l
def dz(h:PE X a te)(g:PE X b tf)(f:PE X c tg)(o:autoParam (starEach [a,b,c] X.env=(false,eval a X.env)::starEach [b,c] X.env) au_0)(n:autoParam (starEach [b,c] X.env=(false,eval b X.env)::starEach [c] X.env) au_0)(l:autoParam (starEach [c] X.env=(false,eval c X.env)::starEach [] X.env) au_0):PA X [a,b,c] (Kg te<|Kg tf<|Kg tg KE):=XY h (XY g (XY f Ky l) n) o
end
section
variable {K:ZU}{mg:ZY}{E:L2.St->XK}{ta tb tc:TE}{a b c:PTE}
def sz(f:Xj K mg E ta a):X6 K mg E (Kg ta KE) (Pm a TJ):=KM f X2
def tz(g:Xj K mg E ta a)(f:Xj K mg E tb b):X6 K mg E (Kg ta<|Kg tb KE) (Pm a<|Pm b TJ):=KM g (sz f)
def uz(h:Xj K mg E ta a)(g:Xj K mg E tb b)(f:Xj K mg E tc c):X6 K mg E (Kg ta<|Kg tb<|Kg tc KE) (Pm a<|Pm b<|Pm c TJ):=KM h (tz g f)
end
section
variable {K:ZU}{h:Heap}{mg:ZY}{C C':Addr}{x m q:Str}{st:Stmt}{ps:Yd}
abbrev Bd(x q:Str)(st:Stmt)(ps:Yd):Prop:=∀(kV g n:Value) (p:Yh) (l o:Value) (f:Yc),f.length=ps.length->bindArgs (PySem.W.fnOf x q (P0 st) (XJ st) (Xk st) .none kV g n p l o) ⟨f,[]⟩=pure (ps.zip f)
def DI.e (D:DI K x st) (X:K.In h) (g:h.Ns mainGlobals mg) (b:Bd x x st ps:=by
  intro _ _ _ _ _ _ us f
  first
   |(obtain⟨_,rfl⟩:=Pu.Ba f;rfl)
   |(obtain⟨_,_,rfl⟩:=Pu.Bt f;rfl)
   |(obtain⟨_,_,_,rfl⟩:=Pu.F7 f;rfl)
   |(obtain⟨_,_,_,_,rfl⟩:=Pu.Ez f;rfl)
   |(obtain⟨_,_,_,_,_,rfl⟩:=Pu.Zrd f;rfl)):Def K mg x st ps:=D.d X g b
def MI.e (D:MI K C m q st) (e:C'=C) (b:Bd m q st ps:=by
  intro _ _ _ _ _ _ us f
  first
   |(obtain⟨_,rfl⟩:=Pu.Ba f;rfl)
   |(obtain⟨_,_,rfl⟩:=Pu.Bt f;rfl)
   |(obtain⟨_,_,_,rfl⟩:=Pu.F7 f;rfl)
   |(obtain⟨_,_,_,_,rfl⟩:=Pu.Ez f;rfl)):X8 K (X9 K C' m) m q st ps:=D.d e b
def MI.j (D:MI K C "__init__" q st) (e:C'=C) (mk:PySem.W.makesIn K C=true) (g:PySem.W.keepIn K (.ref C)=true) (b:Bd "__init__" q st ps:=by
  intro _ _ _ _ _ _ us f
  first
   |(obtain⟨_,rfl⟩:=Pu.Ba f;rfl)
   |(obtain⟨_,_,rfl⟩:=Pu.Bt f;rfl)
   |(obtain⟨_,_,_,rfl⟩:=Pu.F7 f;rfl)):X8 K (Mk K C') "__init__" q st ps:=D.i e mk g b
end
section
variable {P:Program}{w:World}{K:ZU}{mg:ZY}{base:Heap}{N ps:Yd}{sp:Sp}{p:PTS}{x q:Str}{st:Stmt}{k:Nat}{W:Addr->Prop}
structure Uz (K:ZU) (mg:ZY) (N ps:Yd) (sp:Sp) (p:PTS):Prop where
 len:∀vs H Q E,sp vs H Q E->vs.length=ps.length
 run:∀vs H Q E t,sp vs H Q E->Xy K mg (λ_=>E) t p->t {nx:=λ_ H'=>Q .non H',rt:=Q} (start N vs) H
def Uz.a (f:∀ds R X,c ds R X->ds.length=ps.length/\p {nx:=λ_=>R (.sh .non),rt:=R,ex:=λ_ e=>X e} (Tv N ds)) (g:autoParam (ps.length<=N.length) au_1):Uz K mg N ps (Xq mg c K) p:=
 ⟨λ_ _ _ _ h=>Zb2 h λds R X z=>(f ds R X z).1,λ_ _ _ _ _ h s=>Zaq h s g f⟩
def Uz.b (g:∀f R X,c f R X->f.length=ps.length/\p {nx:=λ_=>R (.sh .non),rt:=R,ex:=λ_ e=>X e} (TZ N f)) (l:autoParam (ps.length<=N.length) au_1):Uz K mg N ps (spS mg c K) p:=
 ⟨λ_ _ _ _ h=>Zjg h λn R X z=>(g n R X z).1,λ_ _ _ _ _ h s=>Zps h s l g⟩
def Uz.c {c y} (g:∀o f R X,c o f R X->f.length=ps.length/\p (M1 o R X) (Nc N o f)) (l:autoParam (ps.length+1<=N.length) au_1):Uz K mg N (y::ps) (spW mg c K) p:=
 ⟨λ_ _ _ _ h=>Zcd h λo n R X z=>(g o n R X z).1,λ_ _ _ _ _ h s=>Zmy h s l g⟩
def Uz.d {c y z} (l:∀o1 f g R X,c o1 f g R X->g.length=ps.length/\p (Oo o1 f R X) (Ti N o1 f g)) (n:autoParam (ps.length+2<=N.length) au_1):Uz K mg N (y::z::ps) (NG mg c K) p:=
 ⟨λ_ _ _ _ h=>Zb5 h λo1 f o R X z=>(l o1 f o R X z).1,λ_ _ _ _ _ h s=>Zag h s n l⟩
def _root_.Own.Def.oz (D:Def K mg x st ps) (S:Xl N ps (Xk st))
  (l:∀f g A outer s H E,Xv k (A.deeper<|envOfC x (Xk st) s.heap.objs.size f g)->
   ∃t,PSs (XT CX0 P w K mg base N x (Xk st) f g A outer s H E).nox (XJ st) t/\Xy K mg (λ_=>E) t p) (u:Uz K mg N ps sp p):Callee P w K mg base CX0 (k+1) x ps sp:=
 D.ok S u.len λf g A outer s H o Q E n h=>(l f g A outer s H E n).elim λt z=>⟨t,z.1,u.run _ _ _ _ _ h z.2⟩
def _root_.Own.Def.ox (D:Def K mg x st ps) (S:Xl N ps (Xk st))
  (l:∀f g A outer s H E,Xv k (A.deeper<|envOfC x (Xk st) s.heap.objs.size f g)->
   ∃t,PSs (XT (ExcR.CXe P w) P w K mg base N x (Xk st) f g A outer s H E) (XJ st) t/\Xy K mg (λ_=>E) t p) (u:Uz K mg N ps sp p):Callee P w K mg base (ExcR.CXe P w) (k+1) x ps sp:=
 ExcR.Def.okX D S u.len λf g A outer s H o Q E n h=>(l f g A outer s H E n).elim λt z=>⟨t,z.1,u.run _ _ _ _ _ h z.2⟩
def X8.oz (D:X8 K W x q st ps) (S:Xl N ps (Xk st))
  (l:∀f g A outer s H E,Xv k (A.deeper<|envOfC q (Xk st) s.heap.objs.size f g)->
   ∃t,PSs (XT CX0 P w K mg base N q (Xk st) f g A outer s H E).nox (XJ st) t/\Xy K mg (λ_=>E) t p) (u:Uz K mg N ps sp p):Pa P w K mg base CX0 (k+1) W ps sp:=
 D.ok S u.len λf g A outer s H o Q E n h=>(l f g A outer s H E n).elim λt z=>⟨t,z.1,u.run _ _ _ _ _ h z.2⟩
def X8.ox (D:X8 K W x q st ps) (S:Xl N ps (Xk st))
  (l:∀f g A outer s H E,Xv k (A.deeper<|envOfC q (Xk st) s.heap.objs.size f g)->
   ∃t,PSs (XT (ExcR.CXe P w) P w K mg base N q (Xk st) f g A outer s H E) (XJ st) t/\Xy K mg (λ_=>E) t p) (u:Uz K mg N ps sp p):Pa P w K mg base (ExcR.CXe P w) (k+1) W ps sp:=
 D.okX S u.len λf g A outer s H o Q E n h=>(l f g A outer s H E n).elim λt z=>⟨t,z.1,u.run _ _ _ _ _ h z.2⟩
end
section
variable {K:ZU}{h:Heap}{mg:ZY}{x:Str}{C:Addr}
structure EI (K:ZU) (x:Str) (C:Addr):Prop where
 a:PySem.W.nsIn K mainGlobals x=some (some<|.ref C)
 g:ExcR.KG K C
def ei(a:PySem.W.nsIn K mainGlobals x=some (some<|.ref C))(q:PySem.W.excIn K C [.type "ValueError",.type "Exception",.type "BaseException",.type "object"] "ValueError.__new__"=true)(g:PySem.W.findIn K (.ref C) "__getattribute__"=some (some<|.builtin "BaseException.__getattribute__"))(f:PySem.W.findIn K (.ref C) "__getattr__"=some none)(l:PySem.W.findIn K (.ref C) "__class__"=some (some<|.builtin "object.__class__"))(i:PySem.W.clsIn K C=some d):EI K x C:=⟨a,⟨⟨q⟩,g,f,l,by rw[i];rfl⟩⟩
def EI.c (y:EI K x C) (X:K.In h) (f:h.Ns mainGlobals mg):ExcR.Xp mg x=C:=ExcR.Cf (QA X f y.a)
def EI.m (y:EI K x C) (X:K.In h) (f:h.Ns mainGlobals mg):mg x=some (.ref<|ExcR.Xp mg x):=by rw[y.c X f];exact QA X f y.a
def EI.k (y:EI K x C) (X:K.In h) (f:h.Ns mainGlobals mg):ExcR.KG K (ExcR.Xp mg x):=by rw[y.c X f];exact y.g
end
end Pu
namespace M
open L2 Own Pu
def Zan{ns:ZW}(h:FW (ns.map f) 0):ns.Pairwise λx y=>f x<=f y:=by
 have n:∀d i j g (l:i<ns.length),j=i+d->f ns[i]<=f ns[j]:=λd=>by
  induction d with
  |zero=>grind
  |succ d p=>
   intro i j g l e;have o:=h.1 j (by lia) (by grind);rw[KZ (by lia),KZ g,WC,W8 (by lia),WC,W8 g]at o;exact Int.le_trans (p i (j-1) (by lia) l<|by lia) o
 rw[Qg];intro i j l g r;exact n (j-i) i j g l (by lia)
def Zcg(h:FW (ns.map f) 0):K9 f ns=0:=by
 refine HP ?_;rw[Jj];exact Zan h
def Mv.count (h:Mv ps f ns l):(l.length:Int)=K9 f ns:=by
 induction h with
 |done ns hw=>rw[Zcg hw];rfl
 |step ns p l o s v u=>
  obtain⟨r,g,n⟩:=o.2.resolve_left s;rw[W6]at g;rw[KZ g,KZ (by lia)]at n
  have:=GH f r g n
  grind
def Mv.step_of (h:Mv ps f ns (m::l)):∃p:Nat,m=((p:Int),ns.getD (p-1) 0,ns.getD p 0,exM ps ns p)/\FW (ns.map f) p/\p≠0/\1<=p/\p<ns.length/\f (ns.getD p 0)<f (ns.getD (p-1) 0)/\Mv ps f (Kh ns p) l:=by
 cases h with
 |step _ p _ n r s=>
  obtain⟨u,g,o⟩:=n.2.resolve_left r;rw[W6]at g;rw[KZ g,KZ (by lia)]at o
  grind
noncomputable def endsN(ps:ZV)(o:ZW):ZW:=o.flatMap (KN ps)
def Zbc(ps:ZV)(o:ZW):(o.flatMap λh=>ps.filter λq=>decide (q.1=h))=Ff ps (endsN ps o):=by
 unfold Ff endsN;rw[List.map_flatMap];congr 1;funext h;unfold KN;rw[Qr]
 have p:ps=(List.range ps.length).map λi=>ps.getD i (0,0):=by
  refine List.ext_getElem (by simp) λi n l=>?_
  grind
 have f:ps.filter (λq=>decide (q.1=h))=((List.range ps.length).map λi=>ps.getD i (0,0)).filter λq=>decide (q.1=h):=by grind
 rw[f,List.filter_map];refine QM λi g=>?_;simp
end M
namespace Pu
open L2 Own
theorem NoFld.of:∀{xs:Yd},(xs.all λx=>!(m==x))=true->NoFld m xs
 |[],_,_|_::_,_,[]=>rfl
 |x::xs,h,v::f=>by
  rw[Jt,Qx]at h;show(match m==x with|true=>some v|false=>(xs.zip f).lookup m)=none
  rw[show(m==x)=false by simpa using h.1];exact NoFld.of h.2 f
theorem FldAt.of (n:(f==f)=true):∀{xs}{j:Nat},((xs.take j).all λx=>!(f==x))=true->xs[j]?=some f->FldAt f xs j
 |[],_,_,e,_,_=>by simp at e
 |_::_,_,_,_,[],e=>rfl
 |x::xs,0,_,e,v::g,_=>by
  simp_all
 |x::xs,j+1,h,e,v::g,l=>by
  rw[List.take_succ_cons,Jt,Qx]at h;show(match f==x with|true=>some v|false=>(xs.zip g).lookup f)=(v::g)[j+1]?
  rw[show(f==x)=false by simpa using h.1];exact FldAt.of n h.2 (by grind) g (by grind)
theorem PutAt.of:∀{xs:Yd},(xs.all λx=>decide (x≠f))=true->PutAt f xs
 |[],_,[],_,_=>rfl
 |[],_,_::_,_,e|_::_,_,[],_,e=>by cases e
 |x::xs,h,v::g,y,e=>by
  rw[Jt,Qx]at h;show(if x=f then(x,y)::xs.zip g else(x,v)::KF f y (xs.zip g))=(x,v)::(xs++[f]).zip (g++[y]);rw[WG (WA h.1),PutAt.of h.2 g y (by grind)]
end Pu
namespace M
open L2 Own Pu
theorem Og{ws}(s:∀q∈ws,q.1≠q.2)(v:¬ ∃r,Ring hs ws r):∀n f,f.length=n->(∀x∈f,x∈hs)->∃o,o.Perm f/\Keeps ws o
 | 0,f,h,_=>⟨[],by rw[QG.mp h],.nil⟩
 |n+1,f,h,g=>by
  have p:f≠[]:=λz=>by rw[z]at h;simp at h
  have hx:∃x∈f,∀y∈f,(y,x)∉ws:=Qd λz=>by
   obtain⟨r,R⟩:=Lb s p λx hx=>Qd λk=>z ⟨x,hx,λy l w=>k ⟨y,l,w⟩⟩;exact v ⟨r,{R with sub:=λx hx=>g x (R.sub x hx)}⟩
  obtain⟨x,hx,l⟩:=hx;obtain⟨o,u,B⟩:=Og s v n (f.erase x) (by grind) λz A=>g z (List.mem_of_mem_erase A);exact⟨x::o,(u.cons x).trans (List.perm_cons_erase hx).symm,QT.mpr ⟨λb C=>l b (List.mem_of_mem_erase<|u.mem_iff.mp C),B⟩⟩
end M
namespace Lam
open L2 Own
section
variable {X:Cx}{pins:ZX}{σ:L2.St}{H:Hp}{A:Around}{E:ZZ}{s:Shared}{kS D:Addr}{vs:Yc}{kz:ZW}{keys:Array Value}{e e1:Nat}
def Zew{H h a o}(x:HOk P w H h)(f:H a=none)(new:ObjOk P w (upd H a o) h a o):HOk P w (upd H a o) h:=λb u e=>by
 by_cases g:b=a
 ·subst g;rw[X5]at e;cases e;exact new
 ·rw[Xs g]at e;exact(x b u e).stay (λc v _ q=>q) (λc q=>by rw[Xs (K8 q f)];exact q) λc xs q=>by rw[Xs (K8 q f)];exact q
variable {P:PySem.Fin->Shared->Prop}
end
end Lam
namespace ExcR
open L2
open Sem (wp)
section
variable {prog:Program}{w:World}{A:Around}{E:ZZ}{h:Heap}{g:Array GenState}{d:Drawn}{t:Nat}{os:OsState}
variable {nm q:Str}{C N:Addr}{bs bm bmB:Yc}{hdct:Bool}{sn:Yd}{sub:Yc}{ab:Bool}{col:Option Bool}{dd:Yh}{k0 k1 k2 k3 k5:Yg}{B Bn newId nid initId inN:String}{bmN:Yc}
noncomputable def Tz(C t:Addr)(f:Yh):Obj:={cls:=.ref C,dict:=f,data:=.fields #[.ref t,.none,.none,.none,.bool false,.none]}
def Zna(H:ExcBaseFacts Bn newId inN bmN)(u:bmB.contains (.type Bn)=true)(F:ExcBaseFacts B nid initId bmB)(T:OwnTail h bmB bm){M rest fI L Q}(s:h.get? C=some (excClassObj nm q C N bs bm hdct sn sub ab col dd k0 k1 k2 k3 k5 newId))(hn:h.Ns N M)(hi:M "__init__"=some (.ref fI))(z:h.get? fI=some L)(y:L.cls=.type "function")(hq:∀U e,Heap.MadeExcOf h U e (.ref C) rest->wpAny (model prog w) A (call (.ref fI) (.ref e::rest)) (λr J=>r=.none/\Q (.done<|.ret<|.ref e) J) E ⟨U,g,d,t,os⟩)(hrest:autoParam (rest.length<=sizeLine) au_8) :
  wpAny (model prog w) A (Builtin.«type.__call__» ⟨.ref C::rest,[]⟩) Q E ⟨h,g,d,t,os⟩:=by
 repeat (first|with_reducible refine QX s ?_|with_reducible refine wpAny_madeBy_exc s ?_|wp_step)
 refine codeAny_call_builtin_code (Code.quiet_builtin _ H.quiet) (wpAny_check_new_subU H u T s ?_);refine codeAny_exc_new_subU H u F T s ?_ hrest;show wpAny _ _ _ _ _ _
 have k:∀b o,h.get? b=some o->((h.push {cls:=.type "tuple",data:=.seq rest.toArray}).push {cls:=.ref C,data:=.fields #[.ref h.objs.size,.none,.none,.none,.bool false,.none]}).get? b=some o:=
  λb o e=>WD _ (WD _ e)
 have f:=k _ _ s;have l:=k _ _ z;have p:=hn.keeps k;have v:=T.keeps k
 have n:((h.push {cls:=.type "tuple",data:=.seq rest.toArray}).push
   {cls:=.ref C,data:=.fields #[.ref h.objs.size,.none,.none,.none,.bool false,.none]}).get? (h.objs.size+1)=some
   {cls:=.ref C,data:=.fields #[.ref h.objs.size,.none,.none,.none,.bool false,.none]}:=by heap_get
 have G:(Value.ref C::bm).contains (.ref C)=true:=by simp
 unfold isInstance
 repeat (first|with_reducible refine QX n ?_|(with_reducible refine JH f ?_;rw[G])|wp_step)
 show wpAny _ _ (typeLookup (.ref C) _) _ _ _;refine wpAny_typeLookup_tail f p v F.mroIs F.init.lookup ?_;rw[hi];refine QJ (W7 ?_);unfold bindSpecial;refine W7 (wpAny_typeOf ⟨_,l,y⟩ ?_);rw[WH (by decide)];refine WE (W7 (Qt (hq _ (h.objs.size+1) ⟨k,Vv (VA _),h.objs.size,n,Vv (WI _),?_⟩) (λr J Y=>?_) λ_ _ x=>x))
 ·exact WD _ (Heap.get?_push_at rfl rfl)
 ·obtain⟨rfl,hQ⟩:=Y
  wp_walk
  exact hQ
def Zc7(G:ExcBaseFacts Bn newId inN bmN)(p:bmB.contains (.type Bn)=true)(F:ExcBaseFacts B nid initId bmB)(T:OwnTail h bmB bm){u rest fI s Q}(f:h.get? C=some (excClassObj nm q C N bs bm hdct sn sub ab col dd k0 k1 k2 k3 k5 newId))(x:h.Ns N u)(z:u "__init__"=some (.ref fI))(o:h.get? fI=some s)(n:s.cls=.type "function")(hq:∀l e,Heap.MadeExcOf h l e (.ref C) rest->wpAny (model prog w) (A.under<|.builtin "type.__call__" ⟨.ref C::rest,[]⟩) (call (.ref fI) (.ref e::rest)) (λr v=>r=.none/\Q (.ref e) v) E ⟨l,g,d,t,os⟩)(hrest:autoParam (rest.length<=sizeLine) au_8) :
  wpAny (model prog w) A (call (.ref C) rest) Q E ⟨h,g,d,t,os⟩:=by
 have f1:=tc_lookup;have J:=tc_bind (.ref C);have H:(⟨h,g,d,t,os⟩:Shared).TypeIs (.ref C) "type":=⟨_,f,rfl⟩;refine J2 (codeAny_of_tree ?_);show wpAny _ _ (callAny (.ref C) _) _ _ _
 repeat (any_goals (first|assumption|with_reducible refine QX f ?_|wp_step))
 refine⟨rfl,?_⟩;refine codeAny_call_builtin_at (Code.quiet_builtin _<|by decide +kernel) entry_typeCall (wpAny_check_type_call_sub f (Zna (hrest:=hrest) G p F T f x z o n λl e y=>?_));exact hq l e y
end
section
variable {prog:Program}{w:World}{A:Around}{E:ZZ}{s:Shared}{env:Env}
variable {nm q:Str}{C N:Addr}{bs bm bmB:Yc}{hdct:Bool}{sn:Yd}{sub:Yc}{ab:Bool}{col:Option Bool}{dd:Yh}{k0 k1 k2 k3 k5:Yg}{B Bn newId nid initId inN:String}{bmN:Yc}
def Za3(l:bm.contains (.type "BaseException")=true)(y:A.handled=none)(h:wpAny (model prog w) A x (λv f=>∃e t u,v=.ref e/\f.heap.get? C=some (excClassObj nm q C N bs bm hdct sn sub ab col dd k0 k1 k2 k3 k5 newId)/\f.heap.get? e=some (Tz C t u)/\E (.ref e) f) E s) :
  wpAny (model prog w) A (raiseStmt env (some x) none) Q E s:=by
 have o:(Value.ref C::bm).contains (.type "BaseException")=true:=by rw[JU,l,Bool.or_true]
 unfold raiseStmt;refine W7 (Qt h (λv f n=>?_) λ_ _ x=>x);obtain⟨e,t,u,rfl,r,p,z⟩:=n;obtain⟨H,g,d,G,os⟩:=f;unfold Tz at p
 repeat (first|with_reducible refine QX p ?_|with_reducible refine QX r ?_|(with_reducible refine JH r ?_;rw[o])|wp_step)
 exact wpAny_raiseNew_none y z
def Zqr(Fn:ExcBaseFacts Bn newId inN bmN)(Y:bmB.contains (.type Bn)=true)(F:ExcBaseFacts B nid initId bmB){mN x np cpos pos args fI oI Q}(u:bm.contains (.type "BaseException")=true)(hh:A.handled=none)(o:(backTo cpos<|starEach args env).any (·.1)=false)(hi:mN "__init__"=some (.ref fI))(L:oI.cls=.type "function")
  (h:wpAny (model prog w) A (eval (.Name x np) env) (λf p=>f=.ref C/\wpAny (model prog w) A (evalArgs (.ref C) true (backTo cpos<|starEach args env) [])
   (λa g=>a.kw=[]/\a.pos.length<=sizeLine/\g.heap.get? C=some (excClassObj nm q C N bs bm hdct sn sub ab col dd k0 k1 k2 k3 k5 newId)/\g.heap.Ns N mN/\OwnTail g.heap bmB bm/\g.heap.get? fI=some oI/\
    ∀H e,Heap.MadeExcOf g.heap H e (.ref C) a.pos->wpAny (model prog w) (A.under<|.builtin "type.__call__" ⟨.ref C::a.pos,[]⟩) (call (.ref fI) (.ref e::a.pos))
     (λr G=>r=.none/\G.heap.get? C=some (excClassObj nm q C N bs bm hdct sn sub ab col dd k0 k1 k2 k3 k5 newId)/\(∃t dx,G.heap.get? e=some (Tz C t dx))/\E (.ref e) G) E {g with heap:=H}) E p) E s) :
  wpAny (model prog w) A (exec (.Raise (some<|.Call (.Name x np) args [] cpos) none pos) env) Q E s:=by
 refine W7 (VP<|Za3 (C:=C) (nm:=nm) (q:=q) (N:=N) (bs:=bs) (hdct:=hdct) (sn:=sn) (sub:=sub) (ab:=ab) (col:=col) (dd:=dd) (k0:=k0) (k1:=k1) (k2:=k2) (k3:=k3) (k5:=k5) (newId:=newId) u hh<|W7 (Qt (wpAny_Call_ofName (Qt h (λf p n=>?_) λ_ _ x=>x)) (λv s₃ y=>W7 (VP<|WE y)) λ_ _ x=>x));obtain⟨rfl,n⟩:=n;refine W7 (QJ (Qt n (λa g l=>W7 (VP ?_)) λ_ _ x=>x));obtain⟨apos,akw⟩:=a;obtain⟨J,hlen,hC,hn,T,M,l⟩:=l;obtain rfl:=J;simp only[o];refine W7 (wpAny_keeperOf_exc hC ?_);refine W7 (Zc7 Fn Y F T hC hn hi M L λH e hm=>Qt (l H e hm) (λr G z=>?_) λ_ _ x=>x);obtain⟨rfl,U,⟨t,dx,he⟩,hE⟩:=z;exact⟨rfl,W7 (QJ<|wpAny_point<|WE ⟨e,t,dx,rfl,U,he,hE⟩)⟩
end
end ExcR
namespace ExcR
open L2
open Sem (wp)
open Builtin Builtin.ObjectAttr
noncomputable def NZ:Yc:=[.type "ValueError",.type "Exception",.type "BaseException",.type "object"]
noncomputable def BE:Yc->Bool
 | .ref _::r=>BE r
 |l=>l==NZ
theorem M4(self:Value):∀{l:Yc},BE l=true->refuseLoop self "__setattr__" l=pure ()
 | .ref c::r,e=>by rw[refuseLoop_ref];exact M4 self e
 |[],e=>rfl
 | .type n::r,e=>by
  have:=beq_iff_eq.mp e
  rw[this];exact PySem.F.store_ValueError.passes self
theorem Rl:∀{l:Yc},BE l=true->l.contains (.type "object")=true
 | .ref c::r,e=>by rw[JU,Rl (l:=r) e,Bool.or_true]
 |[],e=>by cases e
 | .type n::r,e=>by
  have:=beq_iff_eq.mp e
  rw[this];decide
structure FS (K:ZU) (C:Addr):Prop where
 po:(PySem.W.clsIn K C).any (λcd=>BE cd.mro&&cd.hasDict)=true
 sa:PySem.W.findIn K (.ref C) "__setattr__"=some (some<|.builtin "object.__setattr__")
section
variable {prog:Program}{w:World}{A:Around}{E:ZZ}{s:Shared}{K:ZU}{x C t:Addr}{name:Str}{v:Value}
def Zq0(X:K.In s.heap)(hx:s.heap.get? x=some (Tz C t none))(c:FS K C)(n:NoAttr K C name)
  (h:∀g,g.get? x=some (Tz C t<|some s.heap.objs.size)->g.Ns1 s.heap.objs.size (λy=>if y=name then some v else none)->(∀b o,b≠x->s.heap.get? b=some o->g.get? b=some o)->s.heap.objs.size<=g.objs.size->
   Q () {s with heap:=g,toks:=s.toks+2}):wpAny (model prog w) A (setAttr (.ref x) name v) Q E s:=by
 have u:=PySem.F.store_object;have J:PySem.W.InstAt s.heap x (Tz C t none) C none:=⟨hx,rfl,rfl,True.intro⟩;obtain⟨Y,T,l⟩:=Ju c.po;obtain⟨l,M⟩:=(Qx _ _▸l:_/\_);have ne:Y.mro.isEmpty=false:=by cases q:Y.mro with|nil=>rw[q]at l;cases l|cons _ _=>rfl
 have sub:PySem.W.Looks (model prog w) s.heap (isInstance (.ref x)<|.type "object") true:=J.type.andThen (PySem.W.looks_mroIn X<|by unfold PySem.W.mroIn;rw[T,Option.bind_some,WG (by rw[ne];decide),Rl l]);have hm:PySem.W.Looks (model prog w) s.heap (mroOf<|.ref C) Y.mro:=(JE X T).andThen .now;refine PySem.W.set_plain X J c.sa (J8 u.slot.plain u.entry (@PySem.W.check_slot (model prog w) _ _ {s with toks:=s.toks+1} "object.__setattr__" "object" "__setattr__" (.ref x) [.str name s.toks,v] [] _ u.kind u.split sub (u.args (.ref x) (.str name s.toks) v) ?_))
 rw[PySem.W.osa_eq,refuse_eq];refine W7 (W7<|J.type.here (s:={s with toks:=s.toks+1})<|W7<|hm.here (s:={s with toks:=s.toks+1}) ?_)
 rw[M4 _ l];refine WE (W7<|J.type.here (s:={s with toks:=s.toks+1})<|W7<|JO (Vw X n)<|W7<|WE ?_)
 refine W7 (WE<|W7<|W7<|wpAny_loadPart hx<|W7<|JO (JE X T) ?_);rw[M];have f:(s.heap.push {cls:=.type "dict",data:=.dict #[]}).get? x=some (Tz C t none):=WD _ hx;have p:=Qf (WM hx);refine W7 (wpAny_alloc' ?_);refine W7 (wpAny_update' f ?_);refine WE ?_
 have H:((s.heap.push {cls:=.type "dict",data:=.dict #[]}).update x λo=>{cls:=o.cls,dict:=some s.heap.objs.size,data:=o.data,slots:=o.slots}).get? s.heap.objs.size
   = some {cls:=.type "dict",data:=.dict #[]}:=
  (Heap.get?_update_ne _ _ _ _ p.symm).trans (Heap.get?_push_at rfl rfl)
 have G:((s.heap.push {cls:=.type "dict",data:=.dict #[]}).update x λo=>{cls:=o.cls,dict:=some s.heap.objs.size,data:=o.data,slots:=o.slots}).Ns s.heap.objs.size (λ_=>none):=
  ⟨_,#[],_,H,rfl,λe he=>absurd he (by simp),λ_=>rfl⟩
 refine W7 (WE<|W7 (wpAny_nsSet1 (Heap.Ns1.of_empty G) λg r z=>?_));obtain⟨oD,esD,epD,B,L,N⟩:=r.count (Within.cons name v Within.nil);refine W7 (wpAny_lookBehind B (by rw[L];exact pastItsLine_dict (WK N<|by rw[WV,List.length_nil,JL];lia)) ?_);refine WE (h g ?_ r (λb ob U hb=>?_) ?_)
 ·refine(z.2 x p).trans (Q0 _ f rfl)
 ·exact(z.2 b<|Qf<|WM hb).trans ((Heap.get?_update_ne _ _ _ _ U).trans (WD _ hb))
 ·rw[z.1,Heap.size_update,Vj];exact VA _
end
end ExcR
namespace ExcR
open L2
open Sem (wp)
open Builtin Builtin.ObjectAttr
section
variable {prog:Program}{w:World}{A:Around}{E:ZZ}{h:Heap}{g:Array GenState}{d:Drawn}{t:Nat}{os:OsState}{a C dx:Addr}{o:Obj}{K:ZU}{name:Str}{v:Value}{mA:ZY}
def Zm8(k:K.In h)(p:PySem.W.hasDictIn K C=true)(hx:h.get? a=some o)(s:o.cls=.ref C)(hd:o.dict=some dx)(l:PySem.W.notCls o=true)(ns:h.Ns1 dx mA)(u:mA name=some v) :
  PySem.W.Looks (model prog w) h (inOwnDict name<|.ref a) (some v):=by
 obtain⟨od,n,x⟩:=G3 ns;obtain⟨y,f,r⟩:=Ju p;refine PySem.W.looks_own k (od:=some od) ⟨hx,s,l,by rw[hd];exact n⟩ f ?_;unfold PySem.W.ownOf
 grind
def Zci{Q}(k:K.In h)(r:PySem.W.hasDictIn K C=true)(n:NoAttr K C name)(hx:h.get? a=some o)(f:o.cls=.ref C)(hd:o.dict=some dx)(l:PySem.W.notCls o=true)(ns:h.Ns1 dx mA)(p:mA name=some v)(hq:Q (.done<|.ret v) ⟨h,g,d,t,os⟩):wpAny (model prog w) A (Builtin.«object.__getattribute__» ⟨[.ref a,.str name s],[]⟩) Q E ⟨h,g,d,t,os⟩:=by
 have L:=Vw (M:=model prog w) k n
 repeat (any_goals (first|assumption|(with_reducible refine QX hx ?_;rw[f])|with_reducible refine L.at ?_|with_reducible refine(Zm8 (prog:=prog) (w:=w) k r hx f hd l ns p).at ?_|wp_step))
def Zmr{fill expr Q}(k:K.In h)(G:PySem.W.findIn K (.ref C) "__getattribute__"=some (some<|.builtin "BaseException.__getattribute__"))(B:PySem.W.findIn K (.ref C) "__getattr__"=some none)(H:∀{A E t u} {Q:Unit->Shared->Prop},Q () ⟨h,g,d,t,os⟩->wpAny (model prog w) A (checkBuiltinCall "BaseException.__getattribute__" ⟨[.ref a,u],[]⟩) Q E ⟨h,g,d,t,os⟩)(z:PySem.W.hasDictIn K C=true)(n:NoAttr K C name)(hx:h.get? a=some o)(p:o.cls=.ref C)(hd:o.dict=some dx)(s:PySem.W.notCls o=true)(ns:h.Ns1 dx mA)(y:mA name=some v)(l:PySem.W.handedIn v=true)(hq:Q v ⟨h,g,d,t,os⟩):wpAny (model prog w) A (getAttrBy (.ref a) (.str name N) fill expr) Q E ⟨h,g,d,t,os⟩:=by
 have f0:=F.attrBase_ValueError.ga.bind (.ref a);have x:(expr&&onTheHeap (Value.builtin "BaseException.__getattribute__"))=false:=by cases expr<;>rfl
 have r:(Value.builtin "BaseException.__getattribute__" == Value.builtin "object.__getattribute__")=false:=by decide +kernel
 have J:(onTheHeap (Value.ref C)&&Value.builtin "BaseException.__getattribute__" == Value.builtin "object.__getattribute__")=false:=by rw[r];rfl
 have L:=Vw (M:=model prog w) k G;have L2:=Vw (M:=model prog w) k B
 repeat (any_goals (first|assumption|(with_reducible refine QX hx ?_;rw[p])|with_reducible refine L.at ?_|with_reducible refine L2.at ?_|wp_step))
 refine J8 F.attrBase_ValueError.ga.plain F.entry_bexc_ga (H<|Zci k z n hx p hd s ns y ?_);have f:=PySem.W.handedOut_of l;unfold handedOut at f
 repeat (any_goals (first|assumption|rw[f]|wp_step))
def Zi2{Q}(k:K.In h)(y:PySem.W.findIn K (.ref C) "__getattribute__"=some (some<|.builtin "BaseException.__getattribute__"))(x:PySem.W.findIn K (.ref C) "__getattr__"=some none)(z:∀{A E t u} {Q:Unit->Shared->Prop},Q () ⟨h,g,d,t,os⟩->wpAny (model prog w) A (checkBuiltinCall "BaseException.__getattribute__" ⟨[.ref a,u],[]⟩) Q E ⟨h,g,d,t,os⟩)(r:PySem.W.hasDictIn K C=true)(n:NoAttr K C name)(hx:h.get? a=some o)(s:o.cls=.ref C)(hd:o.dict=some dx)(l:PySem.W.notCls o=true)(ns:h.Ns1 dx mA)(p:mA name=some v)(f:PySem.W.handedIn v=true)(hq:Q v ⟨h,g,d,t+1,os⟩):wpAny (model prog w) A (getAttr (.ref a) name expr) Q E ⟨h,g,d,t,os⟩:=by
 repeat (any_goals (first|assumption|with_reducible apply Zmr k y x z r n hx s hd l ns p f|wp_step))
end
end ExcR
namespace ExcR
open L2
section
variable {X:Cx}{pins:ZX}{σ:L2.St}{H:Hp}{s:Shared}{a b:Addr}
def HE(I:Inv X pins σ H s)(n:H b=none)(E:b≠X.env.locals)(C:∀x c,X.env.cells.lookup x=some c->c≠b)(B:∀p∈X.pn++pins,p.1≠b)(A:∀c u,X.s₀.heap.get? c=some u->c≠b)(new:ObjOk X.prog X.w (upd H b o) s.heap b o):Inv X pins σ (upd H b o) s:=by
 refine⟨I.ok,I.os,I.bare,⟨λc u g h f r=>I.base.keep c u g h f r,λc u g h f r=>I.base.slot c u g h f r,λc u g h f=>?_,I.base.there,λc y g=>?_,λc u v g=>?_,λc z g=>?_⟩,I.loc,I.cell,?_,λx c g=>?_,λp l=>?_,?_,I.len⟩
 ·rw[Xs (A c u g)];exact I.base.free c u g h f
 ·rw[Xs (K8 (I.base.tups c y g) n)];exact I.base.tups c y g
 ·rw[Xs (K8 (I.base.frzs c u v g) n)];exact I.base.frzs c u v g
 ·obtain⟨m,q⟩:=I.base.tbls c z g;exact⟨m,by rw[Xs (K8 q n)];exact q⟩
 ·rw[Xs (Ne.symm E)];exact I.free
 ·rw[Xs (C x c g)];exact I.freeC x c g
 ·obtain⟨a1,a2,a3,a4,a5⟩:=I.pin p l;exact⟨a1,by rw[Xs (B p l)];exact a2,a3,a4,a5⟩
 ·exact Lam.Zew I.hok n new
def Zed(I:Inv X pins σ H s)(hex:X.ex=[])(h:s.heap.get? b=none)(k:∀c u,s.heap.get? c=some u->l.get? c=some u)(new:ObjOk X.prog X.w (upd H b o) l b o) :
  Inv X pins σ (upd H b o) {s with heap:=l,toks:=t'}:=by
 have g:∀{c u},s.heap.get? c=some u->c≠b:=λ{c u} e z=>by rw[z,h]at e;cases e
 refine HE (I.kept k) (CV I.hok h) ?_ (λx c e=>?_) (λp n=>g (I.pin p n).1) (λc u e=>?_) new
 ·obtain⟨m,⟨o1,y,A,f,_⟩,_⟩:=I.loc
  grind
 ·obtain⟨v,o1,f,_⟩:=I.cell x c e
  grind
 ·obtain⟨r,f⟩:=I.base.there c u e (by grind);exact g f
noncomputable def er(H:Hp)(a:Addr):Hp:=λb=>if b=a then none else H b
def Ap:er H a a=none:=by unfold er;rw[WH rfl]
def Na(h:b≠a):er H a b=H b:=by unfold er;rw[WG h]
def Zf7(h:er H a b=some o):H b=some o:=by
 by_cases z:b=a
 ·rw[z,Ap]at h;cases h
 ·rw[Na z]at h;exact h
def forget(I:Inv X pins σ H s)(E:H a=some (.ext φ)):Inv X pins σ (er H a) s:=by
 have f:∀{c o},H c=some o->(∀A,o≠HO.ext A)->c≠a:=λ{c o} e n z=>by rw[z,E]at e;exact n _ (WR e).symm
 have no:∀{c},H c=none->er H a c=none:=λ{c} e=>by
  by_cases z:c=a
  ·rw[z];exact Ap
  ·rw[Na z];exact e
 refine⟨I.ok,I.os,I.bare,⟨λc u g l h r=>I.base.keep c u g l h r,λc u g l h r=>I.base.slot c u g l h r,λc u g l h=>no (I.base.free c u g l h),I.base.there,λc B g=>?_,λc u v g=>?_,λc C g=>?_⟩,I.loc,I.cell,no I.free,λx c g=>no (I.freeC x c g),λp y=>?_,λc o e=>?_,I.len⟩
 ·have q:=I.base.tups c B g;rw[Na (f q λ_ z=>nomatch z)];exact q
 ·have q:=I.base.frzs c u v g;rw[Na (f q λ_ z=>nomatch z)];exact q
 ·obtain⟨m,q⟩:=I.base.tbls c C g;exact⟨m,by rw[Na (f q λ_ z=>nomatch z)];exact q⟩
 ·obtain⟨a1,a2,a3,a4,a5⟩:=I.pin p y
  grind
 ·refine(I.hok c o<|Zf7 e).stay (λ_ _ _ z=>z) (λd z=>?_) λd xs z=>?_
  ·rw[Na (f z λ_ w=>nomatch w)];exact z
  ·rw[Na (f z λ_ w=>nomatch w)];exact z
def Zmc(I:Inv X pins σ H s)(h:H l=some (.lst xs)):∃o,Inv X pins σ (upd H l<|.frz o<|.lst xs) s:=by
 obtain⟨z,f,n,r,e⟩:=(I.hok l _ h);exact⟨_,FI I (by rw[h];trivial) ⟨rfl,λ_ _=>rfl⟩ ⟨_,e⟩ ⟨e,z,f,n,r,e⟩⟩
end
def Zl8(K:ZU)(C f:Addr):Prop:=∃(s:Yh) (g:ClassData) (sl:Array (Yg)) (h:Yc) (r p o n l:Yg),K.lookup C=some ⟨.type "type",s,.cls g,sl⟩/\g.mro=.ref C::h/\
 sl.toList=[r,p,o,n,some (.builtin "ValueError.__new__"),l]/\g.hasDel=false/\PySem.W.tailIn K NZ h=true/\PySem.W.nsOkIn K g.ns=true/\PySem.W.nsIn K g.ns "__init__"=some (some<|.ref f)
def Zjq{K h N f n v}(X:K.In h)(G:h.Ns N f)(e:PySem.W.nsIn K N n=some (some v)):f n=some v:=by
 obtain⟨o,u,w,r,hd,_,g⟩:=G;unfold PySem.W.nsIn at e;split at e
 ·rename_i c d l p sl q
  have:=X _ _ q
  split at e
  ·rename_i x s;rw[←g];unfold nsFind findBy
   grind
  ·grind
 ·cases e
structure KW (K:ZU) (C f:Addr):Prop where
 q:Zl8 K C f
 fn:PySem.W.typeIn K (.ref f)=some (.type "function")
 st:FS K C
 ga:PySem.W.findIn K (.ref C) "__getattribute__"=some (some<|.builtin "BaseException.__getattribute__")
 gt:PySem.W.findIn K (.ref C) "__getattr__"=some none
 nm:NoAttr K C "members"
 cl:PySem.W.findIn K (.ref C) "__class__"=some (some<|.builtin "object.__class__")
def KW.hd {K C f} (c:KW K C f):PySem.W.hasDictIn K C=true:=by
 obtain⟨l,h,g⟩:=Ju c.st.po;unfold PySem.W.hasDictIn
 grind
def KW.obj {K C f h} (c:KW K C f) (k:K.In h):∃g N nm q bs hdct sn sub ab col dd k0 k1 k2 k3 k5 o,h.get? C=some (excClassObj nm q C N bs g hdct sn sub ab col dd k0 k1 k2 k3 k5 "ValueError.__new__")/\h.Ns N o/\o "__init__"=some (.ref f)/\
  OwnTail h NZ g:=by
 obtain⟨dd,B,sl,g,k0,k1,k2,k3,k5,y,p,E,u,z,n,s⟩:=c.q;have r:=k _ _ y;cases B with
 |mk nm bs x w v hd sn sub ab col A=>
  simp only at p u n s;have l:sl=#[k0,k1,k2,k3,some (.builtin "ValueError.__new__"),k5]:=by grind
  rw[p,u,l]at r;exact⟨g,w,nm,v,bs,hd,sn,sub,ab,col,dd,k0,k1,k2,k3,k5,_,r,.of_isNs (JS k n),Zjq k (.of_isNs<|JS k n) s,PySem.W.tail_of_in k z⟩
noncomputable def PQ(a C t:Addr)(f:Yh):HO:=.ext λh=>h.get? a=some (Tz C t f)
def IQ{a C t f}(e:h.get? a=some (Tz C t f)):ObjOk P w H h a (PQ a C t f):=⟨e,⟨_,e⟩,λ_ _ q k=>k _ q⟩
noncomputable def Gm(K:ZU)(f:Str)(p te:TE):TS:=λD h H=>te h H λy r=>p h r λx g=>∃a C t l xs,x=.ref a/\y=.ref l/\g a=some (PQ a C t none)/\FS K C/\NoAttr K C f/\g l=some (.lst xs)/\
 ∀o n,g n=none->D.nx h (upd (upd (upd g l<|.frz o<|.lst xs) a<|PQ a C t<|some n) n<|.xd [(f,.ref l)])
def Zft{pos p}{N M}(ha:PE X o N)(hv:PE X value M)(hs:swapsWith value (some<|.Attribute o f p) pos.line X.env=pure false):PS X (.Assign [.Attribute o f p] value pos) (Gm X.K f N M):=by
 intro pins s w H D I h;refine plainObj_wpAny_Assign_Attribute (thn (hv pins s w H _ I h) ?_) hs;rintro u Y ⟨y,H1,I1,ry,q⟩;refine thn (ha pins Y w H1 _ I1 q) ?_;rintro ov A ⟨x,L,v,rx,a,C,t,l,xs,ex,ey,E,c,n,T,q2⟩;subst ex ey;obtain rfl:=rx;obtain rfl:=ry;obtain⟨B,J⟩:=Zmc v T;have G:upd L l (.frz B<|.lst xs) a=some (PQ a C t none):=by rw[Xs (DL E T λz=>nomatch z)];exact E
 have Q:=v.hok.fresh (WI _);refine Zq0 v.kIn ((v.hok a _ E).1) c n λh' U h2 h3 h4=>?_;have f0:=J.fpOk (H':=upd (upd L l<|.frz B<|.lst xs) a (PQ a C t<|some A.heap.objs.size)) (WI _) (by rw[Xs (K8 E Q |>.symm)];exact(J.hok.fresh<|WI _))
 have I4:Inv X pins w (upd (upd L l<|.frz B<|.lst xs) a<|PQ a C t<|some A.heap.objs.size) {A with heap:=h',toks:=A.toks+2}:=
  J.write (by rw[G];exact True.intro) (.inl rfl) (λb q r z=>h3 b q r z) ⟨_,U⟩ (IQ U)
 have I5:=HE (o:=.xd [(f,.ref l)]) I4 f0.1 f0.2.1 f0.2.2.2.2.1 f0.2.2.2.2.2 (λc u e z=>by
  have:=WM e
  rw[z]at this
  exact absurd (Qo this v.sz) (QI _)) ⟨_,h2,λg=>by
   by_cases r:g=f
   ·subst r;simp only[List.lookup,beq_self_eq_true];exact rfl
   ·rw[WG r];simp only[List.lookup,Vh.mpr r];exact True.intro⟩
 exact⟨w,_,I5,q2 B _ Q⟩
noncomputable def L9(K:ZU)(f:Str)(o:TE):TE:=λn H Q=>o n H λx h=>∃a C g l fs v,x=.ref a/\h a=some (PV a C<|some l)/\KW K C g/\NoAttr K C f/\h l=some (.xd fs)/\fs.lookup f=some v/\Q v h
def Zqt{h g d t os a C f o K v Q}(k:K.In h)(G:KW K C f)(hx:h.get? a=some o)(r:o.cls=.ref C)(hq:Q () ⟨h,g,d,t,os⟩) :
  wpAny (model prog w) A (checkBuiltinCall "BaseException.__getattribute__" ⟨[.ref a,v],[]⟩) Q E ⟨h,g,d,t,os⟩:=by
 obtain⟨B,N,J,q,bs,n,H,sub,ab,z,dd,k0,Y,U,T,M,L,u,hN,p,s⟩:=G.obj k;have l:(Value.ref C::B).contains (.type "BaseException")=true:=by rw[JU,s.hasType (b:=true) (by decide +kernel)];rfl
 have y:builtinKind "BaseException.__getattribute__"=some .slot:=by decide +kernel
 have x:splitId "BaseException.__getattribute__"=some ("BaseException","__getattribute__"):=by decide +kernel
 have e3:=F.args_bexc_ga (.ref a) v;simp only[checkBuiltinCall,y,x];refine W7 ?_;unfold isInstance
 repeat (first|(with_reducible refine QX hx ?_;rw[r])|(with_reducible refine JH u ?_;rw[l])|wp_step)
 exact hq
def FA{ta}(L:PE X e ta)(M:attributeBase e f X.env (eval e X.env)=eval e X.env):PE X (.Attribute e f pos) (L9 X.K f ta):=by
 intro pins s B H Q I h;refine L8 M (thn (L pins s B H _ I h) ?_);rintro u s1 ⟨x,Y,r,E,a,C,g,U,fs,v,ex,T,c,n,hd,l,q⟩;subst ex;obtain rfl:=E;obtain⟨⟨o,A,z,vs,N⟩,_⟩:=(r.hok a _ T);obtain⟨mA,J,G⟩:=(r.hok U _ hd);obtain⟨w,hw,p⟩:=RelO.some_of (by rw[←l];exact G f);have y:=Q2 Prod.fst z;refine Zi2 r.kIn c.ga c.gt (λhq=>Zqt r.kIn c A y hq) c.hd n A y (Q2 Prod.snd z) (by unfold PySem.W.notCls;rw[N]) J hw (OU p) ⟨v,Y,r.tok _,p,q⟩
def Lm(X:Cx)(E:XK):Prop:=∀(pins:ZX) (g:L2.St) (H:Hp) (s:Shared) (C a t:Addr) (f:Yh),Inv X pins g H s->s.heap.get? a=some (Tz C t f)->H a=none->X.s₀.heap.get? a=none->E (.ref C) f H->X.xe (.ref a) s
noncomputable def BA(K:ZU):Sp:=λg H Q _=>∃(a C t p:Addr) (xs:List V),g=[.ref a,.ref p]/\H a=some (PQ a C t none)/\SqL K H p xs/\FS K C/\NoAttr K C "members"/\
 ∀(l f:Addr) (o:Obj),H l=none->H f=none->f≠l->Q .non (upd (upd (upd H l<|.frz o<|.lst xs) a<|PQ a C t<|some f) f<|.xd [("members",.ref l)])
noncomputable def Zab(K:ZU)(C:Addr)(E:XK)(t:TA):TS:=λ_ h H=>t h H λn g=>∃(p:Addr) (xs:List V),n=[.ref p]/\SqL K g p xs/\
 ∀(l f:Addr) (o:Obj),g l=none->g f=none->f≠l->E (.ref C) (some f) (upd (upd g l<|.frz o<|.lst xs) f<|.xd [("members",.ref l)])
def Zi1{a l f o0 o1 F D}(h:H a=none)(g:l≠a)(hd:f≠a):er (upd (upd (upd (upd H a o0) l F) a o1) f D) a=upd (upd H l F) f D:=by
 funext b;by_cases z:b=a
 ·subst z;rw[Ap,Xs (Ne.symm hd),Xs (Ne.symm g),h]
 ·rw[Na z];by_cases y:b=f
  ·rw[y,X5,X5]
  ·rw[Xs y,Xs y,Xs z];by_cases x:b=l
   ·rw[x,X5,X5]
   ·rw[Xs x,Xs x,Xs z]
section
variable {X:Cx}{x:Str}{C:Addr}{E:XK}{e:Expr}{t:TA}{p cpos pos:Pos}{k:Nat}{ps:Yd}
def Zkf(Ci:Pu.Pa X.prog X.w X.K X.mg X.base CX0 k (KW X.K C) ps (BA X.K))(hr:Xv (k+1) X.A)(hm:X.mg x=some (.ref C))(hR:Lm X E)(hex:X.ex=[])(hc:X.calm=true)(ha:PA X [e] t)(hg:autoParam (Gl X x) au_0)(hdb:autoParam ((x==("__debug__" : Str))=false) au_1)(he:autoParam (starEach [e] X.env=[(false,eval e X.env)]) au_0):PS X (.Raise (some<|.Call (.Name x p) [e] [] cpos) none pos) (Zab X.K C E t):=by
 obtain⟨f,fd,F,G,hb⟩:=Ci.ex;intro pins s σ H D I h;obtain⟨bm,N,nm,q,bs,hdct,sn,sub,ab,col,dd,k0,k1,k2,k3,k5,mN,hC,hN,hni,hT⟩:=G.obj I.ok.mod.kin;obtain⟨oI,hoI,hcI⟩:=Option.map_eq_some_iff.mp G.fn
 have Y:(backTo cpos<|starEach [e] X.env).any (·.1)=false:=by
  rw[he];rfl
 refine Zqr (nm:=nm) (q:=q) (N:=N) (bs:=bs) (hdct:=hdct) (sn:=sn) (sub:=sub) (ab:=ab) (col:=col) (dd:=dd) (k0:=k0) (k1:=k1) (k2:=k2) (k3:=k3) (k5:=k5)
  Vr (by decide +kernel) Vr (hT.hasType<|by decide +kernel) (I.ok.hd hc) Y hni hcI (Ss I hg hm ⟨rfl,?_⟩ hdb)
 have hA:=ha cpos pins s σ H _ I h;rw[he]at hA ⊢;refine J4 (thn hA ?_);rintro us s2 ⟨vs,U,J,r2,p2,xs,ev,hp,q2⟩;subst ev;obtain⟨u,rfl,ru⟩:=r2.one;obtain rfl:=ru;refine⟨rfl,by show 1<=_;rw[JL];lia,J.bk _ _ hC,hN.keeps J.bk,hT.keeps J.bk,J.bk _ _ (I.ok.mod.kin _ _ hoI),λh' a n=>?_⟩;obtain⟨y,ht,_,_⟩:=n.there;have na:=CV J.hok n.new;have I3:=Zed (t':=s2.toks) J hex n.new n.keeps (IQ ht)
 have L:BA X.K [.ref a,.ref p2] (upd U a<|PQ a C y none) (λv H3=>v=.non/\∃l g o,U l=none/\U g=none/\g≠l/\l≠a/\g≠a/\H3=upd (upd (upd (upd U a<|PQ a C y none) l<|.frz o<|.lst xs) a<|PQ a C y<|some g) g (.xd [("members",.ref l)])) (λ_ _ _=>False):=by
  refine⟨a,C,y,p2,xs,rfl,X5,(Own.XU na).seq hp,G.st,G.nm,λl g o T Q h3=>⟨rfl,l,g,o,?_⟩⟩;have e1:l≠a:=λz=>by rw[z,X5]at T;cases T
  have e2:g≠a:=λz=>by rw[z,X5]at Q;cases Q
  rw[Xs e1]at T;rw[Xs e2]at Q;exact⟨T,Q,h3,e1,e2,rfl⟩
 have r3:Vals [V.ref a,V.ref p2] [Value.ref a,Value.ref p2]:=.cons rfl (.cons rfl .nil)
 have hl:([Value.ref a,Value.ref p2]++[]).length=ps.length:=by
  have:=F.len _ _ _ _ L
  exact this
 refine J2 (Vm (F.run _ X.stack _ _ ⟨[Value.ref a,Value.ref p2],[]⟩ [Value.ref a,Value.ref p2] _ _ (λ_ _ _=>False) (hr.make C [.ref p2] []) (I3.env0.make C [.ref p2] []) (hb _ [Value.ref a,Value.ref p2] I3.kIn hl) r3 L) λr s' B=>?_);cases r with
 |error e=>exact False.elim B
 |ok fl=>
  cases fl with
  |ret u=>
   obtain⟨v,H',I4,rv,ev,l,g,o,n1,n2,n3,n4,n5,eH⟩:=I3.after B;subst ev;obtain rfl:=rv;have ea:H' a=some (PQ a C y<|some g):=by rw[eH,Xs (Ne.symm n5),X5]
   have M:=(I4.hok a _ ea).1;refine⟨rfl,I4.bk _ _ hC,⟨y,some g,M⟩,hR pins σ (er H' a) s' C a y (some g) (forget I4 ea) M Ap (Bj J hex n.new) ?_⟩;rw[eH,Zi1 na n4 n5];exact q2 l g o n1 n2 n3
  |_=>exact False.elim B
def Zj4{K h base N qual scope f cd A outer s H E} :
  Lm (XT (CXe P w) P w K h base N qual scope f cd A outer s H E) E:=by
 intro pins v u G C a t o I l n g q;exact Qt (Ir I rfl rfl rfl g n l rfl rfl rfl rfl) (λ_ B ⟨r,y⟩=>⟨a,r,C,o,u,rfl,y,q⟩) λ_ _ z=>z
def Zg3{K vs H Q E D}(h:BA K vs H Q E)(u:D.nx=λ_ H'=>Q .non H') :
  Gm K "members" (K7 0) (tCB (λxs H Q=>∃p ys,xs=[.ref p]/\(SqL K H p ys\/SqT K H p ys)/\∀l,H l=none->Q (.ref l) (upd H l<|.lst ys))<|Kg (K7 1) KE) D (start ["self","members"] vs) H:=by
 obtain⟨a,C,t,p,xs,rfl,g,s,c,n,q⟩:=h;refine⟨_,rfl,p,xs,rfl,.inl s,λl r=>⟨_,rfl,a,C,t,l,xs,rfl,rfl,?_,c,n,X5,λo w f=>?_⟩⟩
 ·rw[Xs (K8 g r)];exact g
 ·have v:w≠l:=λz=>by rw[z,X5]at f;cases f
  rw[Xs v]at f;rw[u,HV]
  grind
end
end ExcR
namespace Pu
open L2 Own M
section
variable {K:ZU}{mg:ZY}{E:L2.St->XK}{H0 H H1 H':Hp}{B Z Z':Addr->Prop}{σ:L2.St}{γ:Γ}
theorem HW:∀{ns:ZW}{vs:List V},Rps K H (ns.map D.int) vs->vs=ns.map V.int
 |[],_,h=>by cases h;rfl
 |n::ns,_,h=>by
  cases h with
  |cons h r=>rw[HW r,h.int_inv];rfl
noncomputable def Zoz(r:PTA):PTS:=λR γ=>r γ (λg=>match g with
 |[s]=>(∃f:ZW,s.d=.lst (f.map D.int)/\R.ex γ (Nt f))
 |_=>False) (R.ex γ)
def Zg4{Ec}(T:X6 K mg (λ_=>Ec) J r):Xy K mg (λ_=>Ec) (ExcR.Zab K (ExcR.Xp mg "Ringed") Ec J) (Zoz r):=by
 intro H0 B H σ γ R D hB f h e;refine T H0 B H σ γ _ _ _ f h (λss C H1 x z L=>?_) λc H' U A=>e.ex σ γ c H' U (f.grow A) (Fr.grow A);split at x
 ·rename_i s;obtain⟨n,ed,Y⟩:=x;obtain⟨v,rfl,G⟩:=L.one_inv;have g:=G.rp (f.grow z).same;rw[ed]at g;obtain⟨p,C,rfl,w,M⟩:=g.lst_inv;rw[HW M]at w;refine⟨p,_,rfl,SqL.of w,λl dx o N Q u=>?_⟩;have S2:Same H1 (upd (upd H1 l<|.frz o<|.lst<|n.map V.int) dx<|.xd [("members",.ref l)]):=(XU N).trans (XU<|by rw[Xs u];exact Q);have y:=z.trans S2;exact(e.ex σ γ (Nt n) _ Y (f.grow y)<|Fr.grow y).mem X5 (by rw[Xs (Ne.symm u)];exact X5)
 ·grind
noncomputable def Zlm(mg:ZY)(i:Nat)(l h:PTS):PTS:=λR γ=>l {R with ex:=λf c=>∃r,c=Nt r/\h {nx:=λg=>R.nx (g.set i none),rt:=R.rt,ex:=λ_ _=>False,bk:=λg=>R.bk (g.set i none),ct:=λg=>R.ct (g.set i none),rv:=R.rv} (f.set i<|some<|.sh<|.erM (ExcR.Xp mg "Ringed") r)} γ
def Zqy{C0}{Q:Ends->TS}{ts}{U T}{E'}(J:PySem.W.exmOne K (.ref<|ExcR.Xp mg "Ringed") (.ref C0)=some true)(hb:∀D,Xy K mg (ExcR.hx K C0 i ts D) (Q D) U)(hh:Xy K mg E' ts T):Xy K mg E (λD σ H=>Q D D σ H) (Zlm mg i U T):=by
 intro H0 B H σ γ R D hB L h e;refine hb D H0 B H σ γ _ D hB L h ⟨e.nx,e.rt,λC G c H' hc A f'=>?_,e.bk,e.ct,e.rv⟩;obtain⟨r,rfl,hp⟩:=hc;refine .ofM λM l o hd hl=>⟨_,rfl,J,λa Y=>?_⟩;have N:=XU (o:=ExcR.PV a (ExcR.Xp mg "Ringed") (some M)) Y
 have tv:TV K (zof B G C) H0 H' (upd H' a<|ExcR.PV a (ExcR.Xp mg "Ringed")<|some M) (.sh<|.erM (ExcR.Xp mg "Ringed") r) (.ref a):=
  .erM (XQ X5 λz=>by have:=A.zm a z;rw[Y]at this;exact this) (XQ (N _ _ hd) λz=>by have:=A.zm M z;rw[hd]at this;exact this) (XQ (N _ _ hl) λz=>by have:=A.zm l z;rw[hl]at this;exact this)
 obtain⟨e2,f2⟩:=A.set N tv rfl;have n:=f'.trans f2;refine hh H0 B _ _ _ _ _ hB e2 hp ⟨λf g w p u s=>?_,e.rt,λ_ _ _ _ z=>z.elim,λf g w p u s=>?_,λf g w p u s=>?_,λf g d v w p u s=>e.rv f g d v w p u (n.trans s)⟩
 ·obtain⟨y,x⟩:=u.gone i;exact e.nx _ _ w p y (n.trans<|s.trans x)
 ·obtain⟨y,x⟩:=u.gone i;exact e.bk _ _ w p y (n.trans<|s.trans x)
 ·obtain⟨y,x⟩:=u.gone i;exact e.ct _ _ w p y (n.trans<|s.trans x)
noncomputable def Zln(f:Addr)(a:PTE):PTE:=λγ R X=>a γ (λs=>match s.d with
 | .erM C r=>C=f/\R (.sh<|.fL r)
 |_=>False) X
def Zgm(G:∃g,ExcR.KW K Y g)(J:Xj K mg E te a):Xj K mg E (ExcR.L9 K "members" te) (Zln Y a):=by
 obtain⟨g,c⟩:=G;intro H0 B H σ γ R X Q h p q A;refine J H0 B H σ γ _ X _ h p (λs v H1 u x y=>?_) A;have f:=h.grow x;have n:=y.rp f.same;split at u
 ·rename_i C r T;obtain⟨rfl,L⟩:=u;rw[T]at n;obtain⟨b,U,l,o,rfl,N,M,w⟩:=n.erM_inv;exact⟨b,_,g,U,_,.ref l,rfl,N,c,c.nm,M,rfl,q _ _ H1 L x (.fL (XQ w λz=>by have:=f.zm l z;rw[w]at this;exact this))⟩
 ·grind
end
end Pu
namespace Pu
open L2 Own
structure RI (K:ZU) (x:Str) (C:Addr) (q:Str) (st:Stmt):Prop where
 a:PySem.W.nsIn K mainGlobals x=some (some<|.ref C)
 ex:∃f fd,ExcR.KW K C f/\Fun K "__init__" q st f fd
section
variable {K:ZU}{h:Heap}{mg:ZY}{x q:Str}{st:Stmt}{C M N f:Addr}
def Zhn{cd:ClassData}(m:PySem.W.excIn K M ExcR.NZ "ValueError.__new__"=true):PySem.W.tailIn K ExcR.NZ (.ref M::ExcR.NZ)=true:=by
 unfold PySem.W.excIn at m;split at m
 next A cd sl g=>
  split at m
  next E B v u s r n p y w=>
   simp only[Qx,beq_iff_eq,Bool.not_eq_true']at m;obtain⟨⟨⟨_,z⟩,o⟩,l⟩:=m;unfold PySem.W.tailIn;rw[Bool.or_eq_true];right
   try dsimp only
   rw[g]
   try dsimp only
   rw[o,l];rfl
  grind
 next=>cases m
def ri{cd sl y k0 k1 k2 k3 k5 Q es n oc od T o kV s z g ct}(a:PySem.W.nsIn K mainGlobals x=some (some<|.ref C))(l:K.lookup C=some ⟨.type "type",dd,.cls cd,sl⟩)(u:cd.mro=.ref C :: .ref M::[.type "ValueError",.type "Exception",.type "BaseException",.type "object"])(dl:cd.hasDel=false)(r:cd.hasDict=true)(p:sl.toList=[k0,k1,k2,k3,some (.builtin "ValueError.__new__"),k5])(v:cd.ns=N)(E:K.lookup N=some ⟨Q,U,.dict es n,y⟩)(A:(es.toList.all λe=>match e.key with | .str _ _=>true|_=>false)=true)(i:PySem.W.nsIn K N "__init__"=some (some<|.ref f))(m:PySem.W.excIn K M [.type "ValueError",.type "Exception",.type "BaseException",.type "object"] "ValueError.__new__"=true)(fn:PySem.W.isFn K (.ref f)=true)(w:PySem.W.findIn K (.ref C) "__setattr__"=some (some<|.builtin "object.__setattr__"))(J:PySem.W.findIn K (.ref C) "__getattribute__"=some (some<|.builtin "BaseException.__getattribute__"))(H:PySem.W.findIn K (.ref C) "__getattr__"=some none)(G:PySem.W.findIn K (.ref C) "__class__"=some (some<|.builtin "object.__class__"))(nm:PySem.W.findIn K (.ref C) "members"=some none)(B:K.lookup f=some ⟨oc,od,.func (PySem.W.fnOf "__init__" q (P0 st) (XJ st) (Xk st) .none kV s z T g ct),o⟩)(c:PySem.W.codeIn K g q=true)(k:PySem.W.keepIn K (.ref f)=true):RI K x C q st:=by
 have L:PySem.W.clsIn K C=some cd:=by unfold PySem.W.clsIn;rw[l]
 refine⟨a,f,_,⟨?_,beq_iff_eq.mp fn,⟨?_,w⟩,J,H,nm,G⟩,Fp B c k⟩
 ·refine⟨dd,cd,sl,_,k0,k1,k2,k3,k5,l,u,p,dl,Zhn (cd:=cd) m,?_,by rw[v];exact i⟩;rw[v];unfold PySem.W.nsOkIn;rw[E];show(es.all _)=true;rw[←Array.all_toList];omega
 ·rw[L];show(ExcR.BE cd.mro&&cd.hasDict)=true;rw[u,r];rfl
def RI.c (y:RI K x C q st) (X:K.In h) (g:h.Ns mainGlobals mg):ExcR.Xp mg x=C:=ExcR.Cf (QA X g y.a)
def RI.m (y:RI K x C q st) (X:K.In h) (g:h.Ns mainGlobals mg):mg x=some (.ref<|ExcR.Xp mg x):=by rw[y.c X g];exact QA X g y.a
def RI.i (y:RI K x C q st) (X:K.In h) (l:h.Ns mainGlobals mg):∃g,ExcR.KW K (ExcR.Xp mg x) g:=by
 obtain⟨f,n,e,_⟩:=y.ex;rw[y.c X l]
 grind
def RI.d (y:RI K x C q st) (e:p=C)
  (b:∀kV g n o l ct us,us.length=ps.length->bindArgs (PySem.W.fnOf "__init__" q (P0 st) (XJ st) (Xk st) .none kV g n o l ct) ⟨us,[]⟩=pure (ps.zip us)):X8 K (ExcR.KW K p) "__init__" q st ps:=
 let ⟨_,_,i,F⟩:=y.ex
 ⟨_,_,F,by rw[e];exact i,F.binds b⟩
def RI.j (y:RI K x C q st) (e:l=C) (b:Bd "__init__" q st ps:=by
  intro _ _ _ _ _ _ us g;obtain⟨_,_,rfl⟩:=Pu.Bt g;rfl):X8 K (ExcR.KW K l) "__init__" q st ps:=y.d e b
end
end Pu
namespace M
open L2 Own Pu
def Tr(hs:ZW)(f:ZV)(X:Str->Prop)(A:Prop):Prop:=(∀r,FR hs f r->r≠[]->X (Nt r))/\((¬ ∃r,Ring hs f r)->A)
def FR.one (h:FR hs x r) (o:FR hs x A):r=A:=by
 rcases h with⟨rfl,h⟩|⟨l,t,rfl,v,w,B⟩
 ·rcases o with⟨rfl,_⟩|⟨s,p,rfl,g,n,_⟩
  ·rfl
  ·exact absurd n (h s g p)
 ·rcases o with⟨rfl,o⟩|⟨s,p,rfl,g,n,u⟩
  ·exact absurd w (o l v t)
  ·rcases B s g p n with z|⟨z,y⟩
   ·grind
   ·rcases u l v t w with C|⟨_,f⟩
    ·lia
    ·rcases y with y|⟨rfl,y⟩
     ·rcases f with f|⟨rfl,_⟩<;>lia
     ·rcases f with f|⟨_,f⟩
      ·lia
      ·rcases y with rfl|y
       ·rfl
       ·rcases f with rfl|f
        ·rfl
        ·exact absurd f (Gb y)
noncomputable def pcc(ps:ZV):Int->Int->Int:=λx y=>pcM ps x y ps.length
theorem HM{P:Int->Prop}:∀{hs:ZW},(∃l∈hs,P l)->∃l∈hs,P l/\∀m∈hs,P m->l<=m
 |[],h=>by obtain⟨_,h,_⟩:=h;cases h
 |a::hs,h=>by
  by_cases c:∃l∈hs,P l
  ·obtain⟨l,n,g,f⟩:=HM c;by_cases d:P a/\a<=l
   ·grind
   ·grind
  ·grind
theorem IP{hs:ZW}:∀n {P:ZW->Prop},(∃t,P t/\t.length=n/\∀x∈t,x∈hs)->∃t,P t/\t.length=n/\∀u,P u->u.length=n->(∀x∈u,x∈hs)->t=u\/sl t u
 | 0,P,⟨t,w,o,_⟩=>⟨t,w,o,λu _ p _=>.inl (by grind)⟩
 |n+1,P,h=>by
  have C:∃l∈hs,∃t,P (l::t)/\t.length=n/\∀x∈t,x∈hs:=by
   obtain⟨t,w,o,v⟩:=h;cases t with
   |nil=>cases o
   |cons l t=>grind
  obtain⟨l,_,o,v⟩:=HM C;obtain⟨t,B,A,y⟩:=IP n o;refine⟨l::t,B,by rw[WV,A],λu p s r=>?_⟩;cases u with
  |nil=>cases s
  |cons m u=>
   have g:=Nat.succ.inj s;have f:=λx hx=>r x (Qb _ hx);by_cases e:l=m
   ·subst e;rcases y u p g f with rfl|z
    ·exact .inl rfl
    ·exact .inr (.inr ⟨rfl,z⟩)
   ·have:=v m (r m Qs) ⟨u,p,g,f⟩
    exact .inr (.inl<|by lia)
def FR.ex (hs:ZW) (f:ZV):∃r,FR hs f r:=by
 by_cases c:∃l∈hs,∃t,Kq hs f l t
 ·have B:∀n,∀l∈hs,∀t,Kq hs f l t->t.length<=n->∃r,FR hs f r:=λn=>by
   induction n using Nat.strongRecOn with
   |ind n H=>
    intro l p t C A;by_cases d:∃m∈hs,∃u,Kq hs f m u/\u.length<t.length
    ·obtain⟨m,w,u,s,L⟩:=d;exact H u.length (by lia) m w u s (WI _)
    ·have mem:∀m∈hs,∀u,Kq hs f m u->∀x∈m::u,x∈hs:=λm w u s x hx=>by
      rcases WU.mp hx with rfl|hx
      ·exact w
      ·exact(SW s.1 x hx).1
     obtain⟨v,⟨m,u,rfl,w,s⟩,G,E⟩:=IP (t.length+1) (P:=λv=>∃m u,v=m::u/\m∈hs/\Kq hs f m u) ⟨l::t,⟨l,t,rfl,p,C⟩,rfl,mem l p t C⟩;have J:=Nat.succ.inj G;refine⟨m::u,.inr ⟨m,u,rfl,w,s,λy h o g=>?_⟩⟩;have M:¬o.length<t.length:=λz=>d ⟨y,h,o,g,z⟩;by_cases e:o.length=t.length
     ·refine .inr ⟨by lia,?_⟩;rcases E (y::o) ⟨y,o,rfl,h,g⟩ (by rw[WV,e]) (mem y h o g)with z|z|z
      ·grind
      ·exact .inl z
      ·exact .inr ⟨z.1,.inr z.2⟩
     ·exact .inl (by lia)
  obtain⟨l,p,t,A⟩:=c;exact B t.length l p t A (WI _)
 ·exact⟨[],.inl ⟨rfl,λl p t A=>c ⟨l,p,t,A⟩⟩⟩
end M
namespace Pu
open L2 Own
def hq{A}(h:Xv j A)(f:autoParam (k<=j) au_1):Xv k A:=h.mono f
section
variable {X:Cx}{sc:Scope}{elt iter tg:Expr}{ifs:Ye}{pos:Pos}{wi:TI}{g:TG}{tc:TT}{te:TE}{x:Str}
def cz(N':Yd)(φ:Ya)(p:PI X tg iter wi)(n:∀{o C f h ex},PG (Km X N' sc o C f h ex) tg g/\N0 (Km X N' sc o C f h ex) ifs tc/\PE (Km X N' sc o C f h ex) elt te)(l:autoParam (X.calm=true) au_0)(S:autoParam (BF sc X.env.scope X.N N' φ=true) au_0)(hs:autoParam (∀x,foldedSetIterable iter X.env x=pure x) au_3):PE X (.ListComp elt [⟨tg,iter,ifs,0⟩] sc pos) (SO φ wi g tc te):=Dn l (.of S) p (λ_ _ _ _ _=>n) hs
def gk(i:Nat)(l:autoParam (decide X.N.Nodup=true) au_9)(f:autoParam (X.N[i]?=some x) au_0)(hx:autoParam (Loc X.env.scope x) au_6)(h:autoParam (X.fn x=true\/X.env.scope.names.lookup x=some .local) au_2):PG X (.Name x pos) (S9 i):=Gh (WA l) f hx h
end
section
variable {P:Program}{w:World}{K:ZU}{mg:ZY}{base:Heap}{N ps:Yd}{sp:Sp}{p:PTS}{x q:Str}{st:Stmt}{k:Nat}{W:Addr->Prop}
def _root_.Own.Def.ez (D:Def K mg x st ps) (S:Xl N ps (Xk st))
  (h:∀{f g A outer s H} {E:XK},Xv k (A.deeper<|envOfC x (Xk st) s.heap.objs.size f g)->
   ∃t,PSs (XT CX0 P w K mg base N x (Xk st) f g A outer s H E).nox (XJ st) t/\Xy K mg (λ_=>E) t p) (u:Uz K mg N ps sp p):Callee P w K mg base CX0 (k+1) x ps sp:=D.oz S (λ_ _ _ _ _ _ _=>h) u
def _root_.Own.Def.ey (D:Def K mg x st ps) (S:Xl N ps (Xk st))
  (h:∀{f g A outer s H} {E:XK},Xv k (A.deeper<|envOfC x (Xk st) s.heap.objs.size f g)->
   ∃t,PSs (XT (ExcR.CXe P w) P w K mg base N x (Xk st) f g A outer s H E) (XJ st) t/\Xy K mg (λ_=>E) t p) (u:Uz K mg N ps sp p):Callee P w K mg base (ExcR.CXe P w) (k+1) x ps sp:=D.ox S (λ_ _ _ _ _ _ _=>h) u
def X8.ez (D:X8 K W x q st ps) (S:Xl N ps (Xk st))
  (h:∀{f g A outer s H} {E:XK},Xv k (A.deeper<|envOfC q (Xk st) s.heap.objs.size f g)->
   ∃t,PSs (XT CX0 P w K mg base N q (Xk st) f g A outer s H E).nox (XJ st) t/\Xy K mg (λ_=>E) t p) (u:Uz K mg N ps sp p):Pa P w K mg base CX0 (k+1) W ps sp:=D.oz S (λ_ _ _ _ _ _ _=>h) u
def X8.ey (D:X8 K W x q st ps) (S:Xl N ps (Xk st))
  (h:∀{f g A outer s H} {E:XK},Xv k (A.deeper<|envOfC q (Xk st) s.heap.objs.size f g)->
   ∃t,PSs (XT (ExcR.CXe P w) P w K mg base N q (Xk st) f g A outer s H E) (XJ st) t/\Xy K mg (λ_=>E) t p) (u:Uz K mg N ps sp p):Pa P w K mg base (ExcR.CXe P w) (k+1) W ps sp:=D.ox S (λ_ _ _ _ _ _ _=>h) u
end
structure Fit {ι:Type} (F:ι->Cx) (K:ZU) (mg:ZY):Prop where
 k:∀j,(F j).K=K
 m:∀j,(F j).mg=mg
section
variable {ι:Type} (F:ι->Cx) (K:ZU) (mg:ZY) (E:L2.St->XK)
structure CE (e:Expr) (p:PTE):Prop where
 h:Fit F K mg->∃t,(∀j,PE (F j) e t)/\Xj K mg E t p
structure CT (e:Expr) (p:PTT):Prop where
 h:Fit F K mg->∃t,(∀j,PT (F j) e t)/\KA K mg E t p
structure CW (e:Expr) (p:PTT):Prop where
 h:Fit F K mg->∃t,(∀j,PW (F j) e t)/\KA K mg E t p
structure CA (es:Ye) (p:PTA):Prop where
 h:Fit F K mg->∃t,(∀j,PA (F j) es t)/\X6 K mg E t p
structure CS (s:Stmt) (p:PTS):Prop where
 h:Fit F K mg->∃t,(∀j,PS (F j) s t)/\Xy K mg E t p
structure CB (b:Yf) (p:PTS):Prop where
 h:Fit F K mg->∃t,(∀j,PSs (F j) b t)/\Xy K mg E t p
structure CI (tg e:Expr) (p:PTI):Prop where
 h:Fit F K mg->∃t,(∀j,PI (F j) tg e t)/\SndI K mg E t p
structure CJ (tg e:Expr) (p:PTI):Prop where
 h:Fit F K mg->∃t,(∀j,PI (F j) tg e t)/\SD K mg E t p
structure CG (e:Expr) (is:Yb) (p:PTG):Prop where
 h:Fit F K mg->∃t,(∀j,PG (F j) e t)/\Nl K is t p
structure CGs (es:Ye) (is:Yb) (p:Sw):Prop where
 h:Fit F K mg->∃t,(∀j,PGs (F j) es t)/\B0 K is t p
structure CF (es:Ye) (p:PTT):Prop where
 h:Fit F K mg->∃t,(∀j,N0 (F j) es t)/\KA K mg E t p
end
section
variable {ι:Type}{F:ι->Cx}{K:ZU}{mg:ZY}{E:L2.St->XK}{e f g:Expr}{es:Ye}{a b c:PTE}{r:PTA}{x:Str}{pos p1:Pos}{k n:Nat}{s:Stmt}{d1 d2:Yf}{p q:PTS}{t u:PTT}{is:Yb}{pg:PTG}{it:PTI}
def xv(i:Nat)(o:autoParam (∀j,(F j).N[i]?=some x) au_3)(h:autoParam (∀j,Vis (F j).env.scope x) au_10)(hd:autoParam ((x==("__debug__" : Str))=false) au_1)(l:autoParam ((x==("__classdict__" : Str))=false) au_1):CE F K mg E (.Name x pos) (E5 i):=.mk λ_=>⟨_,λj=>pv i (o j) (h j) hd l,Xi i⟩
def xi:CE F K mg E (.Constant (.int i) k pos) (pC<|.int i):=.mk λ_=>⟨_,λ_=>Xu,Xr⟩
def xb:CE F K mg E (.Constant (.bool i) k pos) (pC<|.bl i):=.mk λ_=>⟨_,λ_=>N1,NC⟩
def xs:CE F K mg E (.Constant (.str i) k pos) (pC<|.str i):=.mk λ_=>⟨_,λ_=>NN,N4⟩
def xe(h:∀{j},PE (F j) e te)(k:Xj K mg E te a):CE F K mg E e a:=.mk λ_=>⟨_,λ_=>h,k⟩
def xo{r}(w:∀{X},OpR X (binaryOp l) r)(hs:∀{t u},Xj K mg E t a->Xj K mg E u b->Xj K mg E (tOp r t u) c)(A:CE F K mg E e a)(B:CE F K mg E f b):CE F K mg E (.BinOp e l f pos) c:=
 .mk λh=>let ⟨_,z,v⟩:=A.h h;let ⟨_,y,o⟩:=B.h h;⟨_,λj=>P4 w (z j) (y j),hs v o⟩
def xx(A:CE F K mg E e a)(B:CE F K mg E f b)(hs:autoParam (AB f) au_7):CE F K mg E (.Subscript e f pos) (p2 a b fIx):=
 .mk λh=>let ⟨_,w,o⟩:=A.h h;let ⟨_,v,l⟩:=B.h h;⟨_,λj=>jx K (w j) (v j) (h.k j) hs,XM o l⟩
def xl(v:mg "len"=none)(A:CE F K mg E e a)(w:autoParam (∀j,Gl (F j) "len") au_3)(hs:autoParam (∀j,starEach [e] (F j).env=(false,eval e (F j).env)::starEach [] (F j).env) au_3)(l:autoParam (∀j,(backTo pos (starEach [] (F j).env)).any (·.1)=false) au_3) :
  CE F K mg E (.Call (.Name "len" p1) [e] [] pos) (pCB EX<|Pm a TJ):=
 .mk λh=>let ⟨_,y,o⟩:=A.h h;⟨_,λj=>ln K (by rw[h.m j];exact v) (y j) (h.k j) (w j) (hs j) (l j),Sm (sz o)⟩
def xf{ps v}(C:Callee P w K mg base CX0 k x ps (Xq mg v K))(H:∀j,Xv m (F j).A)(A:CA F K mg E (e::es) r)(N:autoParam (∀j,(F j).prog=P/\(F j).w=w/\(F j).base=base) au_11)(J:autoParam (k<=m) au_1)(L:autoParam (∀j,Gl (F j) x) au_3)(o:autoParam ((x==("__debug__" : Str))=false) au_1)(M:autoParam (∀j,starEach (e::es) (F j).env=(false,eval e (F j).env)::starEach es (F j).env) au_3)(l:autoParam (∀j,(backTo pos (starEach es (F j).env)).any (·.1)=false) au_3) :
  CE F K mg E (.Call (.Name x p1) (e::es) [] pos) (RS v r):=
 .mk λh=>let ⟨_,Q,G⟩:=A.h h;⟨_,λj=>fz (by obtain⟨B,z,y⟩:=N j;rw[B,z,y,h.k j,h.m j];exact C) (H j) (Q j) J (L j) o (M j) (l j),T4 G⟩
def xt(A:CA F K mg E es r):CE F K mg E (.Tuple es k pos) (Od r):=.mk λh=>let ⟨_,o,l⟩:=A.h h;⟨_,λj=>PB (o j),PY l⟩
def xL(A:CA F K mg E es r):CE F K mg E (.List es pos) (MQ r):=.mk λh=>let ⟨_,o,l⟩:=A.h h;⟨_,λj=>P6 (o j),P3 l⟩
def a0:CA F K mg E [] TJ:=.mk λ_=>⟨_,λ_=>Ky,X2⟩
def ac(A:CE F K mg E e a)(B:CA F K mg E es r)(y:autoParam (∀j,starEach (e::es) (F j).env=(false,eval e (F j).env)::starEach es (F j).env) au_3):CA F K mg E (e::es) (Pm a r):=
 .mk λh=>let ⟨_,w,o⟩:=A.h h;let ⟨_,v,l⟩:=B.h h;⟨_,λj=>XY (w j) (v j) (y j),KM o l⟩
def a1(A:CE F K mg E e a)(h:autoParam (∀j,starEach [e] (F j).env=(false,eval e (F j).env)::starEach [] (F j).env) au_3):CA F K mg E [e] (Pm a TJ):=ac A a0 h
def a2(A:CE F K mg E e a)(B:CE F K mg E f b)(l:autoParam (∀j,starEach [e,f] (F j).env=(false,eval e (F j).env)::starEach [f] (F j).env) au_3)(h:autoParam (∀j,starEach [f] (F j).env=(false,eval f (F j).env)::starEach [] (F j).env) au_3):CA F K mg E [e,f] (Pm a<|Pm b TJ):=ac A (a1 B h) l
def a3(A:CE F K mg E e a)(B:CE F K mg E f b)(C:CE F K mg E g c)(o:autoParam (∀j,starEach [e,f,g] (F j).env=(false,eval e (F j).env)::starEach [f,g] (F j).env) au_3)(l:autoParam (∀j,starEach [f,g] (F j).env=(false,eval f (F j).env)::starEach [g] (F j).env) au_3)(h:autoParam (∀j,starEach [g] (F j).env=(false,eval g (F j).env)::starEach [] (F j).env) au_3):CA F K mg E [e,f,g] (Pm a<|Pm b<|Pm c TJ):=ac A (a2 B C l h) o
def te(h:∀{j},PT (F j) e tt)(k:KA K mg E tt t):CT F K mg E e t:=.mk λ_=>⟨_,λ_=>h,k⟩
def tc{r}(w:∀{X},OpR X (compareOp l) r)(hs:∀{t u},Xj K mg E t a->Xj K mg E u b->Xj K mg E (tOp r t u) c)(A:CE F K mg E e a)(B:CE F K mg E f b)(y:behindInMarks l f=false:=by exact KY _):CT F K mg E (.Compare e [l] [f] pos) (NM c):=
 .mk λh=>let ⟨_,C,v⟩:=A.h h;let ⟨_,z,o⟩:=B.h h;⟨_,λj=>Pv w (C j) (z j) y,Kr (hs v o)⟩
def tq(v:∀j,Xv n (F j).A)(A:CE F K mg E e a)(B:CE F K mg E f b):CT F K mg E (.Compare e [.Eq] [f] pos) (NM<|p2 a b<|Sz false):=
 .mk λh=>let ⟨_,y,o⟩:=A.h h;let ⟨_,w,l⟩:=B.h h;⟨_,λj=>cq K (v j) (y j) (w j) (h.k j),Kr (Tf o l)⟩
def tn(v:∀j,Xv n (F j).A)(A:CE F K mg E e a)(B:CE F K mg E f b):CT F K mg E (.Compare e [.NotEq] [f] pos) (NM<|p2 a b<|Sz true):=
 .mk λh=>let ⟨_,y,o⟩:=A.h h;let ⟨_,w,l⟩:=B.h h;⟨_,λj=>cn K (v j) (y j) (w j) (h.k j),Kr (OA o l)⟩
def ti(v:∀j,Xv n (F j).A)(A:CE F K mg E e a)(B:CE F K mg E f b)(w:autoParam (behindInMarks .In f=false) au_12):CT F K mg E (.Compare e [.In] [f] pos) (NM<|p2 a b<|fIn false):=
 .mk λh=>let ⟨_,z,o⟩:=A.h h;let ⟨_,y,l⟩:=B.h h;⟨_,λj=>Pv (Gd (Pb<|v j)<|h.k j) (z j) (y j) w,Kr (Bv o l)⟩
def tI(v:∀j,Xv n (F j).A)(A:CE F K mg E e a)(B:CE F K mg E f b)(w:autoParam (behindInMarks .NotIn f=false) au_12):CT F K mg E (.Compare e [.NotIn] [f] pos) (NM<|p2 a b<|fIn true):=
 .mk λh=>let ⟨_,z,o⟩:=A.h h;let ⟨_,y,l⟩:=B.h h;⟨_,λj=>Pv (LP (Pb<|v j)<|h.k j) (z j) (y j) w,Kr (Bv o l)⟩
def tt(A:CE F K mg E e a)(o:autoParam (∀j whole,isTrue e (F j).env whole=(do let v ←whole;standAt e.pos;holding [v] (truthy v))) au_7):CT F K mg E e (Hn a):=.mk λh=>let ⟨_,w,l⟩:=A.h h;⟨_,λj=>CQ (w j) (h.k j) (o j),Zki l⟩
def tN(A:CT F K mg E e t):CT F K mg E (.UnaryOp .Not e pos) (Iq t):=.mk λh=>let ⟨_,o,l⟩:=A.h h;⟨_,λj=>CM (o j),Zlv l⟩
def tp(A:CW F K mg E e t):CT F K mg E e t:=.mk λh=>let ⟨_,o,l⟩:=A.h h;⟨_,λj=>(o j).pt,l⟩
def wa(A:CT F K mg E e t)(B:CW F K mg E (.BoolOp .And (f::es) pos) u):CW F K mg E (.BoolOp .And (e::f::es) pos) (M6 t u):=.mk λh=>let ⟨_,w,o⟩:=A.h h;let ⟨_,v,l⟩:=B.h h;⟨_,λj=>Zhi (w j) (v j),Za1 o l⟩
def wo(A:CT F K mg E e t)(B:CW F K mg E (.BoolOp .Or (f::es) pos) u):CW F K mg E (.BoolOp .Or (e::f::es) pos) (pOr t u):=.mk λh=>let ⟨_,w,o⟩:=A.h h;let ⟨_,v,l⟩:=B.h h;⟨_,λj=>Zro (w j) (v j),Zfx o l⟩
def wA(A:CT F K mg E e t):CW F K mg E (.BoolOp .And [e] pos) t:=.mk λh=>let ⟨_,o,l⟩:=A.h h;⟨_,λj=>Ze0 (o j),l⟩
def wO(A:CT F K mg E e t):CW F K mg E (.BoolOp .Or [e] pos) t:=.mk λh=>let ⟨_,o,l⟩:=A.h h;⟨_,λj=>Zcc (o j),l⟩
def se(h:∀{j},PS (F j) s l)(k:Xy K mg E l p):CS F K mg E s p:=.mk λ_=>⟨_,λ_=>h,k⟩
def sS(i:Nat)(w:∀j,(F j).N.Nodup)(A:CE F K mg E e a)(o:autoParam (∀j,(F j).N[i]?=some x) au_3)(hx:autoParam (∀j,Loc (F j).env.scope x) au_13)(hs:autoParam (∀j,swapsWith e (some<|.Name x p1) pos.line (F j).env=pure false) au_3)(v:autoParam (∀j,(F j).fn x=true\/(F j).env.scope.names.lookup x=some .local) au_14):CS F K mg E (.Assign [.Name x p1] e pos) (Ct a<|BN i):=
 .mk λh=>let ⟨_,y,l⟩:=A.h h;⟨_,λj=>pz i (w j) (y j) (o j) (hx j) (hs j) (v j),Nq l (Kl i)⟩
def sR(A:CE F K mg E e a):CS F K mg E (.Return (some e) pos) (Ri a):=.mk λh=>let ⟨_,o,l⟩:=A.h h;⟨_,λj=>Kx (o j),Di l⟩
def sF(i:Nat)(A:CS F K mg E s p):CS F K mg E s (On i p):=.mk λh=>let ⟨_,o,l⟩:=A.h h;⟨_,o,Zpm i l⟩
def sI(A:CT F K mg E e t)(B:CB F K mg E d1 p)(C:CB F K mg E d2 q):CS F K mg E (.If e d1 d2 pos) (Ox t p q):=.mk λh=>let ⟨_,z,v⟩:=A.h h;let ⟨_,y,o⟩:=B.h h;let ⟨_,w,l⟩:=C.h h;⟨_,λj=>NO (z j) (y j) (w j),BB v o l⟩
def sE(A:CE F K mg E e a)(hs:autoParam (∀j,swapsWith e none pos.line (F j).env=pure false) au_3):CS F K mg E (.Expr e pos) (LZ a):=.mk λh=>let ⟨_,o,l⟩:=A.h h;⟨_,λj=>Ku (o j) (hs j),Tx l⟩
def sO(l:Yb)(z:∀{j},PassesOwn (model (F j).prog (F j).w) (F j).A (F j).env (F j).xe)(I:CI F K mg E f e it)(G:CG F K mg f is pg)(B:CB F K mg E d1 p)(C:autoParam (∀j,(F j).calm=true) au_3)(hs:autoParam (∀j x,foldedSetIterable e (F j).env x=pure x) au_7) :
  CS F K mg E (.For f e d1 [] pos) (G6 l it pg p):=
 .mk λh=>let ⟨_,L,y⟩:=I.h h;let ⟨_,J,v⟩:=G.h h;let ⟨_,H,o⟩:=B.h h;⟨_,λj=>Zpf z (C j) (L j) (J j) (H j) (hs j),Zo5 l y v o⟩
def sW(l:Yb)(y:∀{j},PassesOwn (model (F j).prog (F j).w) (F j).A (F j).env (F j).xe)(A:CT F K mg E e t)(B:CB F K mg E d1 p):CS F K mg E (.While e d1 [] pos) (GY l t p):=
 .mk λh=>let ⟨_,C,v⟩:=A.h h;let ⟨_,z,o⟩:=B.h h;⟨_,λj=>Zlz y (C j) (z j),Zm6 l v o⟩
def b0:CB F K mg E [] MC:=.mk λ_=>⟨_,λ_=>N9,ND⟩
def b1(A:CS F K mg E s p):CB F K mg E [s] p:=.mk λh=>let ⟨_,o,l⟩:=A.h h;⟨_,λj=>Pr (o j),l⟩
def bc(A:CS F K mg E s p)(B:CB F K mg E d1 q):CB F K mg E (s::d1) (Mi p q):=.mk λh=>let ⟨_,w,o⟩:=A.h h;let ⟨_,v,l⟩:=B.h h;⟨_,λj=>Zp4 (w j) (v j),Zeu o l⟩
def bj(A:CS F K mg E s p)(B:CB F K mg E d1 q):CB F K mg E (s::d1) (Rt p q):=.mk λh=>let ⟨_,w,o⟩:=A.h h;let ⟨_,v,l⟩:=B.h h;⟨_,λj=>Fh (w j) (v j),Fi o l⟩
def iL(A:CE F K mg E e a):CI F K mg E f e (pIL a):=.mk λh=>let ⟨_,o,l⟩:=A.h h;⟨_,λj=>Nk (o j) (h.k j),Zqf l⟩
def ir(o:mg "range"=none)(A:CA F K mg E [e] r)(v:autoParam (∀j,Gl (F j) "range") au_3)(hs:autoParam (∀j,starEach [e] (F j).env=[(false,eval e (F j).env)]) au_3):CI F K mg E f (.Call (.Name "range" p1) [e] [] pos) (ME r):=
 .mk λh=>let ⟨_,w,l⟩:=A.h h;⟨_,λj=>E3 (v j) (by rw[h.m j];exact o) (w j) (hs j),AY l⟩
def iR(v:mg "range"=none)(A:CA F K mg E [e,g] r)(w:autoParam (∀j,Gl (F j) "range") au_3)(hs:autoParam (∀j,starEach [e,g] (F j).env=[(false,eval e (F j).env),(false,eval g (F j).env)]) au_3)(l:autoParam (∀j,starEach [g] (F j).env=[(false,eval g (F j).env)]) au_3):CI F K mg E f (.Call (.Name "range" p1) [e,g] [] pos) (M8 r):=
 .mk λh=>let ⟨_,y,o⟩:=A.h h;⟨_,λj=>Zeb (w j) (by rw[h.m j];exact v) (y j) (hs j) (l j),Zqw o⟩
def je(h:∀{j},PI (F j) f e l)(k:SD K mg E l it):CJ F K mg E f e it:=.mk λ_=>⟨_,λ_=>h,k⟩
def jL(A:CE F K mg E e a):CJ F K mg E f e (Lr a):=.mk λh=>let ⟨_,o,l⟩:=A.h h;⟨_,λj=>Nk (o j) (h.k j),Nx l⟩
def jI(I:CI F K mg E f e it):CJ F K mg E f e it:=.mk λh=>let ⟨_,o,l⟩:=I.h h;⟨_,o,l.c⟩
def gN(i:Nat)(o:autoParam (∀j,decide (F j).N.Nodup=true) au_15)(h:autoParam (∀j,(F j).N[i]?=some x) au_3)(hx:autoParam (∀j,Loc (F j).env.scope x) au_13)(l:autoParam (∀j,(F j).fn x=true\/(F j).env.scope.names.lookup x=some .local) au_14):CG F K mg (.Name x pos) [i] (BN i):=.mk λ_=>⟨_,λj=>gk i (o j) (h j) (hx j) (l j),Kl i⟩
def gT(n:Nat){pr}(G:CGs F K mg es is pr)(w:autoParam (∀j,(F j).calm=true) au_3)(v:autoParam (∀j,(assignEach es (F j).env).length=n) au_3)(l:autoParam (∀j,(assignEach es (F j).env).findIdx? (·.1)=none) au_3):CG F K mg (.Tuple es k pos) is (Dv n pr):=
 .mk λh=>let ⟨_,y,o⟩:=G.h h;⟨_,λj=>Ai (w j) (y j) (h.k j) (v j) (l j),Gj o⟩
def g0:CGs F K mg [] [] IA:=.mk λ_=>⟨_,λ_=>FN,A7⟩
def gc(G:CG F K mg e is pg)(B:CGs F K mg es w l)(hs:autoParam (∀j,(assignEach (e::es) (F j).env).map (·.2)=assign e (F j).env::(assignEach es (F j).env).map (·.2)) au_3):CGs F K mg (e::es) (is++w) (Oj pg l):=
 .mk λh=>let ⟨_,z,v⟩:=G.h h;let ⟨_,y,o⟩:=B.h h;⟨_,λj=>N3 (z j) (y j) (hs j),SY v o⟩
def f0:CF F K mg E [] RJ:=.mk λ_=>⟨_,λ_=>Nh,NR⟩
def f1(A:CT F K mg E e t):CF F K mg E [e] t:=.mk λh=>let ⟨_,o,l⟩:=A.h h;⟨_,λj=>Sy (o j),l⟩
noncomputable abbrev Blk(F:ι->Cx)(N':Yd)(h:Scope):ι×List (Str×Addr)×Addr×Shared×Hp×List Addr->Cx:=λj=>Km (F j.1) N' h j.2.1 j.2.2.1 j.2.2.2.1 j.2.2.2.2.1 j.2.2.2.2.2
def xC(N':Yd)(φ:Ya)(I:CJ F K mg E f e it)(G:CG (Blk F N' v) K mg f is pg)(T:CF (Blk F N' v) K mg E es t)(A:CE (Blk F N' v) K mg E g a)(Y:autoParam (∀j,(F j).calm=true) au_3)(S:autoParam (∀j,BF v (F j).env.scope (F j).N N' φ=true) au_3)(hs:autoParam (∀j x,foldedSetIterable e (F j).env x=pure x) au_7)(h1:autoParam ((φ.filterMap id).Nodup) au_1)(h2:autoParam (∀j∈is,φ[j]?=some none) au_1) :
  CE F K mg E (.ListComp g [⟨f,e,es,0⟩] v pos) (CP φ it pg t a):=.mk λh=>by
 have w:Fit (Blk F N' v) K mg:=⟨λj=>h.k j.1,λj=>h.m j.1⟩;obtain⟨_,U,J⟩:=I.h h;obtain⟨_,Q,H⟩:=G.h w;obtain⟨_,M,B⟩:=T.h w;obtain⟨_,L,z⟩:=A.h w;exact⟨_,λj=>Dn (Y j) (.of<|S j) (U j) (λy C l o ex=>⟨Q (j,y,C,l,o,ex),M (j,y,C,l,o,ex),L (j,y,C,l,o,ex)⟩) (hs j),P5 J H B z h1 h2⟩
def sN(i:Nat)(A:CS F K mg E s p):CS F K mg E s (pNm i p):=.mk λh=>let ⟨_,o,l⟩:=A.h h;⟨_,o,Zrg i l⟩
def sr(A:CE F K mg E e a):CS F K mg E (.Return (some e) pos) (GR a):=.mk λh=>let ⟨_,o,l⟩:=A.h h;⟨_,λj=>Kx (o j),Zgs l⟩
def sV(i:Nat)(o:autoParam (∀j,(F j).N[i]?=some x) au_3)(h:autoParam (∀j,Vis (F j).env.scope x) au_10)(hd:autoParam ((x==("__debug__" : Str))=false) au_1)(l:autoParam ((x==("__classdict__" : Str))=false) au_1):CS F K mg E (.Return (some<|.Name x p1) pos) (Dy i):=.mk λ_=>⟨_,λj=>Kx (pv i (o j) (h j) hd l),Zea i⟩
def sA(i:Nat)(A:CE F K mg E e a)(C:autoParam (∀j,(F j).N[i]?=some x) au_3)(z:autoParam (∀j,Vis (F j).env.scope x) au_10)(hd:autoParam ((x==("__debug__" : Str))=false) au_1)(B:autoParam ((x==("__classdict__" : Str))=false) au_1){apos cpos}(v:autoParam (∀j,attributeBase (.Name x p1) "append" (F j).env (eval (.Name x p1) (F j).env)=eval (.Name x p1) (F j).env) au_3)(w:autoParam (∀j,((backTo cpos (starEach [e] (F j).env)).all (λx=>!x.1)&&(backToKw cpos (keywordEach [] (F j).env)).all (λx=>x.1.isSome)&&decide ([e].length+([]:List Keyword).length+(if ([]:List Keyword).isEmpty then 0 else 1)<30))=true) au_3)(o:autoParam ((apos.endLine==cpos.line)=true) au_0)(hs:autoParam (∀j,starEach [e] (F j).env=(false,eval e (F j).env)::starEach [] (F j).env) au_3)(l:autoParam (∀j,(backTo cpos (starEach [] (F j).env)).any (·.1)=false) au_3)(hw:autoParam (∀j,swapsWith (.Call (.Attribute (.Name x p1) "append" apos) [e] [] cpos) none pos.line (F j).env=pure false) au_3):CS F K mg E (.Expr (.Call (.Attribute (.Name x p1) "append" apos) [e] [] cpos) pos) (DF i a):=
 .mk λh=>let ⟨_,G,y⟩:=A.h h;⟨_,λj=>Ku (N2 Qc V3 V4 Bu (pv i (C j) (z j) hd B) (XY (G j) Ky<|hs j) (h.k j) (v j) (w j) o (hs j)<|l j) (hw j),Zbr i y⟩
def sU(i:Nat){l o}(B:∀j,(F j).N.Nodup)(w:∀{X},PIp X l (ipI o))(A:CE F K mg E e a)(y:autoParam (∀j,(F j).N[i]?=some x) au_3)(hx:autoParam (∀j,Loc (F j).env.scope x) au_13)(z:autoParam (∀j,(F j).fn x=true\/(F j).env.scope.names.lookup x=some .local) au_14):CS F K mg E (.AugAssign (.Name x p1) l e pos) (ER i o a):=
 .mk λh=>let ⟨_,C,v⟩:=A.h h;⟨_,λj=>Zo9 (B j) (y j) (hx j) (C j) w (z j),Zrb v⟩
def sC(i:Nat)(N':Yd)(φ:Ya){y py spos}(hN:∀j,(F j).N.Nodup)(I:CJ F K mg E f e it)(G:CG (Blk F N' v) K mg f is pg)(T:CF (Blk F N' v) K mg E es t)(A:CE (Blk F N' v) K mg E g a)(hy:autoParam (∀j,(F j).N[i]?=some y) au_3)(hl:autoParam (∀j,(F j).env.scope.names.lookup y=some .local) au_3)(hc:autoParam (∀j,(F j).calm=true) au_3)(S:autoParam (∀j,BF v (F j).env.scope (F j).N N' φ=true) au_3)(hs:autoParam (∀j x,foldedSetIterable e (F j).env x=pure x) au_7)(h1:autoParam ((φ.filterMap id).Nodup) au_1)(h2:autoParam (∀j∈is,φ[j]?=some none) au_1)(hw:autoParam (∀j,swapsWith (.ListComp g [⟨f,e,es,0⟩] v pos) (some<|.Name y py) spos.line (F j).env=pure true) au_3) :
  CS F K mg E (.Assign [.Name y py] (.ListComp g [⟨f,e,es,0⟩] v pos) spos) (Ct (CP φ it pg t a)<|BN i):=.mk λh=>by
 have w:Fit (Blk F N' v) K mg:=⟨λj=>h.k j.1,λj=>h.m j.1⟩;obtain⟨_,Y,L⟩:=I.h h;obtain⟨_,U,J⟩:=G.h w;obtain⟨_,Q,H⟩:=T.h w;obtain⟨_,M,B⟩:=A.h w;exact⟨_,λj=>Zm2 (hN j) (hy j) (hl j) (hc j) (.of<|S j) (Y j) (λz C l o ex=>⟨U (j,z,C,l,o,ex),Q (j,z,C,l,o,ex),M (j,z,C,l,o,ex)⟩) (hs j) (hw j),Nq (P5 L J H B h1 h2) (Kl i)⟩
def sX(i:Nat)(B:CE F K mg E f b)(A:CE F K mg E e a)(L:autoParam (∀j,(F j).N[i]?=some x) au_3)(G:autoParam (∀j,Vis (F j).env.scope x) au_10)(hd:autoParam ((x==("__debug__" : Str))=false) au_1)(H:autoParam ((x==("__classdict__" : Str))=false) au_1){q1}(J:autoParam (∀j v,assign (.Subscript (.Name x p1) f q1) (F j).env v=(do
   let l ←holding [v] (eval (.Name x p1) (F j).env)
   let o ←holding [v,l] (eval f (F j).env)
   standAt q1
   holding [v,l,o] (setItem l o v)
   release [v,l,o] [])) au_7)(hs:autoParam (∀j,swapsWithSole [.Subscript (.Name x p1) f q1] e pos.line (F j).env=pure false) au_3)(hw:autoParam (∀j,swappedStores [.Subscript (.Name x p1) f q1] e (F j).env=pure none) au_3)(M:autoParam (∀j,(assignEach [.Subscript (.Name x p1) f q1] (F j).env).map (·.2)=[assign (.Subscript (.Name x p1) f q1) (F j).env]) au_3):CS F K mg E (.Assign [.Subscript (.Name x p1) f q1] e pos) (DM i b a):=
 .mk λh=>let ⟨_,C,y⟩:=B.h h;let ⟨_,z,w⟩:=A.h h;⟨_,λj=>Zca (z j) (Zls (pv i (L j) (G j) hd H) (C j) Zn6<|J j) (hs j) (hw j) (M j),Zld i y w⟩
structure CO {ι:Type} (F:ι->Cx) (K:ZU) (mg:ZY) (E:L2.St->XK) (o:Option Expr) (p:PTO):Prop where
 h:Fit F K mg->∃t,(∀j,PO (F j) o t)/\N8 K mg E t p
def o0:CO F K mg E none Ls:=.mk λ_=>⟨_,λ_=>Zpe,Zh7⟩
def o1(A:CE F K mg E e a):CO F K mg E (some e) (O4 a):=.mk λh=>let ⟨_,o,l⟩:=A.h h;⟨_,λj=>Ge (o j),D5 l⟩
def xp{lo o l u v}(A:CE F K mg E e a)(L:CO F K mg E lo l)(U:CO F K mg E o u):CE F K mg E (.Subscript e (.Slice lo o none v) pos) (pSl a l u):=
 .mk λh=>let ⟨_,G,z⟩:=A.h h;let ⟨_,C,y⟩:=L.h h;let ⟨_,B,w⟩:=U.h h;⟨_,λj=>Ih (R9<|h.k j) (G j) (C j) (B j),Zdn z y w⟩
def xn(A:CE F K mg E e a):CE F K mg E (.UnaryOp .Not e pos) (Ld a):=.mk λh=>let ⟨_,o,l⟩:=A.h h;⟨_,λj=>R3 (o j),MU l⟩
def sQ{cpos v}(B:ExcR.KG K (ExcR.Xp mg x))(y:mg x=some (.ref<|ExcR.Xp mg x))(H:∀{j},ExcR.Da (F j) v)(A:CA F K mg (λ_=>v) (e::es) r)(G:autoParam (∀j,(F j).calm=true) au_3)(z:autoParam (∀j,Gl (F j) x) au_3)(o:autoParam ((x==("__debug__" : Str))=false) au_1)(C:autoParam (∀j,starEach (e::es) (F j).env=(false,eval e (F j).env)::starEach es (F j).env) au_3)(l:autoParam (∀j,(backTo cpos (starEach es (F j).env)).any (·.1)=false) au_3)(hx:autoParam (SC x=none) au_0) :
  CS F K mg (λ_=>v) (.Raise (some<|.Call (.Name x p1) (e::es) [] cpos) none pos) (Ov x r):=
 .mk λh=>let ⟨_,J,w⟩:=A.h h;⟨_,λj=>ExcR.Zqi (by rw[h.k j];exact B.c) (by rw[h.m j];exact y) H (G j) (J j) (z j) o (C j) (l j),Zis w hx⟩
def xg{ps y v}(C:Callee P w K mg base (ExcR.CXe P w) k x ps (Xq mg y K))(J:∀j,Xv m (F j).A)(hx:∀{j},Pz (ExcR.CXe P w) (F j) v)(A:CA F K mg (λ_=>v) (e::es) r)(Q:autoParam (∀j,(F j).prog=P/\(F j).w=w/\(F j).base=base) au_11)(L:autoParam (k<=m) au_1)(M:autoParam (∀j,Gl (F j) x) au_3)(o:autoParam ((x==("__debug__" : Str))=false) au_1)(N:autoParam (∀j,starEach (e::es) (F j).env=(false,eval e (F j).env)::starEach es (F j).env) au_3)(l:autoParam (∀j,(backTo pos (starEach es (F j).env)).any (·.1)=false) au_3) :
  CE F K mg (λ_=>v) (.Call (.Name x p1) (e::es) [] pos) (Mx y r):=
 .mk λh=>let ⟨_,T,H⟩:=A.h h;⟨_,λj=>Ak (by obtain⟨G,B,z⟩:=Q j;rw[G,B,z,h.k j,h.m j];exact C) ((J j).mono L) hx (T j) (M j) o (N j) (l j),Zl1 H⟩
variable {pw:PTW}
end
section
variable {P:Program}{w:World}{K:ZU}{mg:ZY}{base:Heap}{N ps:Yd}{sp:Sp}{p:PTS}{x q:Str}{st:Stmt}{k:Nat}{W:Addr->Prop}
def _root_.Own.Def.fz (D:Def K mg x st ps) (S:Xl N ps (Xk st))
  (o:∀{f g A outer s H} {E:XK},(∀{n:Type},n->Xv k (A.deeper<|envOfC x (Xk st) s.heap.objs.size f g))->(Unit->N.Nodup)->
   CB (λ_:Unit=>(XT CX0 P w K mg base N x (Xk st) f g A outer s H E).nox) K mg (λ_=>E) (XJ st) p) (u:Uz K mg N ps sp p):Callee P w K mg base CX0 (k+1) x ps sp:=
 D.ez S (λr=>let ⟨t,h,l⟩:=(o (λ_=>r) λ_=>S.nd).h ⟨λ_=>rfl,λ_=>rfl⟩;⟨t,h (),l⟩) u
def _root_.Own.Def.fy (D:Def K mg x st ps) (S:Xl N ps (Xk st))
  (o:∀{f g A outer s H} {E:XK},(∀{n:Type},n->Xv k (A.deeper<|envOfC x (Xk st) s.heap.objs.size f g))->(Unit->N.Nodup)->
   CB (λ_:Unit=>XT (ExcR.CXe P w) P w K mg base N x (Xk st) f g A outer s H E) K mg (λ_=>E) (XJ st) p) (u:Uz K mg N ps sp p):Callee P w K mg base (ExcR.CXe P w) (k+1) x ps sp:=
 D.ey S (λr=>let ⟨t,h,l⟩:=(o (λ_=>r) λ_=>S.nd).h ⟨λ_=>rfl,λ_=>rfl⟩;⟨t,h (),l⟩) u
def X8.fz (D:X8 K W x q st ps) (S:Xl N ps (Xk st))
  (o:∀{f g A outer s H} {E:XK},(∀{n:Type},n->Xv k (A.deeper<|envOfC q (Xk st) s.heap.objs.size f g))->(Unit->N.Nodup)->
   CB (λ_:Unit=>(XT CX0 P w K mg base N q (Xk st) f g A outer s H E).nox) K mg (λ_=>E) (XJ st) p) (u:Uz K mg N ps sp p):Pa P w K mg base CX0 (k+1) W ps sp:=
 D.ez S (λr=>let ⟨t,h,l⟩:=(o (λ_=>r) λ_=>S.nd).h ⟨λ_=>rfl,λ_=>rfl⟩;⟨t,h (),l⟩) u
def X8.fy (D:X8 K W x q st ps) (S:Xl N ps (Xk st))
  (o:∀{f g A outer s H} {E:XK},(∀{n:Type},n->Xv k (A.deeper<|envOfC q (Xk st) s.heap.objs.size f g))->(Unit->N.Nodup)->
   CB (λ_:Unit=>XT (ExcR.CXe P w) P w K mg base N q (Xk st) f g A outer s H E) K mg (λ_=>E) (XJ st) p) (u:Uz K mg N ps sp p):Pa P w K mg base (ExcR.CXe P w) (k+1) W ps sp:=
 D.ey S (λr=>let ⟨t,h,l⟩:=(o (λ_=>r) λ_=>S.nd).h ⟨λ_=>rfl,λ_=>rfl⟩;⟨t,h (),l⟩) u
end
mutual
noncomputable def py:D->PyData
 | .int i=>.int i
 | .bl b=>.bool b
 | .str x=>.str x
 | .tup f=>.tuple (pys f)
 | .lst f=>.list (pys f)
 | .fL g=>.list (g.map .int)
 |_=>.none
noncomputable def pys:List D->List PyData
 |[]=>[]
 |d::r=>py d::pys r
end
end Pu
namespace T
open L2
noncomputable def top(i:Nat):Stmt:=PySem.Challenge.pw_stripmeld_k30_asked_of_a_village.main.body.getD i (.Pass ⟨0,0,0,0⟩)
noncomputable abbrev AG:Stmt:=inClass (top 18) 0
def Zgy:Xl ["self","members"] ["self","members"] (Xk AG):=Pu.fs
noncomputable abbrev Ed:Stmt:=top 23
def Zri:Xl ["holder"] ["holder"] (Xk Ed):=Pu.fs
noncomputable abbrev AX:Stmt:=top 24
def Zh5:Xl ["width"] ["width"] (Xk AX):=Pu.fs
noncomputable abbrev DH:Stmt:=top 25
def Zrl:Xl ["strips","holder","width"] ["strips"] (Xk DH):=Pu.fs
noncomputable abbrev Cw:Stmt:=top 26
def Zah:Xl ["strips"] ["strips"] (Xk Cw):=Pu.fs
noncomputable abbrev Ca:Stmt:=top 27
def Zo0:Xl ["strips","order"] ["strips","order"] (Xk Ca):=Pu.fs
noncomputable abbrev EC:Stmt:=top 28
def Zfp:Xl ["strips","order","field","holder"] ["strips","order"] (Xk EC):=Pu.fs
noncomputable abbrev EH:Stmt:=top 30
def Zgu:Xl ["strips","ahead","behind","to_pass","cost","holder","width"] ["strips","ahead","behind"] (Xk EH):=Pu.fs
noncomputable abbrev DX:Stmt:=top 32
def Zqh:Xl ["strips"] ["strips"] (Xk DX):=Pu.fs
noncomputable abbrev Cy:Stmt:=top 33
def Zf0:Xl ["strips","numbers","place","left","right"] ["strips","numbers","place"] (Xk Cy):=Pu.fs
noncomputable abbrev Ce:Stmt:=top 34
def Zli:Xl ["numbers","place"] ["numbers","place"] (Xk Ce):=Pu.fs
noncomputable abbrev Dh:Stmt:=top 35
def Zo7:Xl ["numbers","ranks","place"] ["numbers","ranks"] (Xk Dh):=Pu.fs
noncomputable abbrev A3:Stmt:=top 36
def Zf6:Xl ["strips","order","ranks","numbers","moves","place"] ["strips","order"] (Xk A3):=Pu.fs
noncomputable abbrev Cn:Stmt:=top 37
def Zfn:Xl ["strips","place"] ["strips","place"] (Xk Cn):=Pu.fs
noncomputable abbrev Ek:Stmt:=top 40
def LC:Xl ["paths","left","wishes","longer","reached","path","holder"] ["paths","left","wishes"] (Xk Ek):=Pu.fs
noncomputable abbrev CC:Stmt:=top 41
def Zlh:Xl ["least","holders","wishes","paths","left","rings","reached"] ["least","holders","wishes"] (Xk CC):=Pu.fs
noncomputable abbrev DC:Stmt:=top 42
def Zfy:Xl ["holders","wishes","ring","least","found"] ["holders","wishes"] (Xk DC):=Pu.fs
noncomputable abbrev Eo:Stmt:=top 43
def Znf:Xl ["strips","wishes","ring"] ["strips","wishes"] (Xk Eo):=Pu.fs
noncomputable abbrev EU:Stmt:=top 45
def Ze8:Xl ["strips","place"] ["strips","place"] (Xk EU):=Pu.fs
noncomputable abbrev CK:Stmt:=top 46
def Zhk:Xl ["strips","place","holder","strip"] ["strips","place","holder"] (Xk CK):=Pu.fs
noncomputable abbrev Dm:Stmt:=top 47
def Zjd:Xl ["strips","place","width","strip"] ["strips","place","width"] (Xk Dm):=Pu.fs
noncomputable abbrev AV:Stmt:=top 48
def Zd6:Xl ["strips","place","left","right"] ["strips","place"] (Xk AV):=Pu.fs
noncomputable abbrev Cq:Stmt:=top 49
def Zji:Xl ["wishes","ahead","behind"] ["wishes","ahead","behind"] (Xk Cq):=Pu.fs
noncomputable abbrev AH:Stmt:=top 50
def Zo3:Xl ["wishes","ahead","behind"] ["wishes","ahead","behind"] (Xk AH):=Pu.fs
noncomputable abbrev Aw:Stmt:=top 52
def Le:Xl ["strips","holders","costs","ahead","behind"] ["strips"] (Xk Aw):=Pu.fs
noncomputable abbrev Dq:Stmt:=top 53
def Zhb:Xl ["holders","sets","holder"] ["holders"] (Xk Dq):=Pu.fs
noncomputable abbrev Cv:Stmt:=top 54
def Zgr:Xl ["members","holder"] ["members","holder"] (Xk Cv):=Pu.fs
noncomputable abbrev CD:Stmt:=top 55
def Zet:Xl ["members","holder","wishes"] ["members","holder","wishes"] (Xk CD):=Pu.fs
noncomputable abbrev DW:Stmt:=top 56
def Zrq:Xl ["members","holder","wishes"] ["members","holder","wishes"] (Xk DW):=Pu.fs
noncomputable abbrev EA:Stmt:=top 57
def Zrj:Xl ["members","last","least","pairs","others"] ["members","last","least","pairs"] (Xk EA):=Pu.fs
noncomputable abbrev Gi:Stmt:=top 58
def Zc2:Xl ["members","first","least","pairs","others"] ["members","first","least","pairs"] (Xk Gi):=Pu.fs
noncomputable abbrev CY:Stmt:=top 59
def IB:Xl ["strips","wishes","pairs","least","members","lasts"] ["strips","wishes","pairs"] (Xk CY):=Pu.fs
noncomputable abbrev DE:Stmt:=top 60
def Zjm:Xl ["strips","wishes","least"] ["strips","wishes"] (Xk DE):=Pu.fs
noncomputable abbrev De:Stmt:=top 61
def Gz:Xl ["strips","wishes","pairs","least","members","order","firsts","best"] ["strips","wishes"] (Xk De):=Pu.fs
noncomputable abbrev CU:Stmt:=top 62
def Zcs:Xl ["strips","wishes"] ["strips","wishes"] (Xk CU):=Pu.fs
noncomputable abbrev EW:Stmt:=inClass (top 65) 0
def Zfh:Xl ["self","strips"] ["self","strips"] (Xk EW):=Pu.fs
noncomputable abbrev E8:Stmt:=inClass (top 65) 1
def Zbh:Xl ["self"] ["self"] (Xk E8):=Pu.fs
noncomputable abbrev DT:Stmt:=inClass (top 65) 2
def Zp6:Xl ["self"] ["self"] (Xk DT):=Pu.fs
noncomputable abbrev Eg:Stmt:=inClass (top 65) 4
def Znz:Xl ["self"] ["self"] (Xk Eg):=Pu.fs
noncomputable abbrev D3:Stmt:=inClass (top 65) 5
def Zn7:Xl ["self","deed","field","wishes"] ["self","deed","field","wishes"] (Xk D3):=Pu.fs
noncomputable abbrev Dk:Stmt:=inClass (top 65) 6
def Zg1:Xl ["self","place","holder","field"] ["self","place","holder"] (Xk Dk):=Pu.fs
noncomputable abbrev D1:Stmt:=inClass (top 65) 7
def Zqv:Xl ["self","place","width","field"] ["self","place","width"] (Xk D1):=Pu.fs
noncomputable abbrev EL:Stmt:=inClass (top 65) 8
def Zh8:Xl ["self","place","field"] ["self","place"] (Xk EL):=Pu.fs
noncomputable abbrev Er:Stmt:=inClass (top 65) 9
def Zmt:Xl ["self","ahead","behind","wishes"] ["self","ahead","behind"] (Xk Er):=Pu.fs
noncomputable abbrev Em:Stmt:=inClass (top 65) 10
def Zpa:Xl ["self","ahead","behind","wishes"] ["self","ahead","behind"] (Xk Em):=Pu.fs
noncomputable abbrev Dx:Stmt:=inClass (top 65) 11
def Zp7:Xl ["self"] ["self"] (Xk Dx):=Pu.fs
noncomputable abbrev EF:Stmt:=inClass (top 65) 13
def Znn:Xl ["self"] ["self"] (Xk EF):=Pu.fs
noncomputable abbrev Cb:Stmt:=inClass (top 65) 14
def Zfa:Xl ["self"] ["self"] (Xk Cb):=Pu.fs
noncomputable abbrev Eb:Stmt:=inClass (top 65) 15
def Zjk:Xl ["self"] ["self"] (Xk Eb):=Pu.fs
noncomputable abbrev AR:Stmt:=inClass (top 65) 17
def Zd4:Xl ["self"] ["self"] (Xk AR):=Pu.fs
noncomputable abbrev DK:Stmt:=inClass (top 65) 18
def Zh6:Xl ["self"] ["self"] (Xk DK):=Pu.fs
noncomputable abbrev Et:Stmt:=top 67
def Zqk:Xl ["_law_script","_law_k"] ["_law_script","_law_k"] (Xk Et):=Pu.fs
noncomputable abbrev CN:Stmt:=top 68
def Zlg:Xl ["_law_found"] ["_law_found"] (Xk CN):=Pu.fs
noncomputable abbrev Az:Stmt:=top 69
def Zbg:Xl ["_law_cell","_law_place_here","_law_first"] ["_law_cell","_law_place_here"] (Xk Az):=Pu.fs
noncomputable abbrev Cd:Stmt:=top 70
def Zqu:Xl ["_law_script","_law_k"] ["_law_script","_law_k"] (Xk Cd):=Pu.fs
noncomputable abbrev CH:Stmt:=top 71
def Zim:Xl ["_law_cell","_law_wide","_law_least"] ["_law_cell"] (Xk CH):=Pu.fs
noncomputable abbrev Dp:Stmt:=top 72
def Za9:Xl ["_law_menu_here","_law_k"] ["_law_menu_here","_law_k"] (Xk Dp):=Pu.fs
noncomputable abbrev AU:Stmt:=top 73
def Zq6:Xl ["_law_found","_law_due","_law_k"] ["_law_found","_law_due"] (Xk AU):=Pu.fs
noncomputable abbrev D8:Stmt:=top 74
def Zrs:Xl ["_law_found","_law_due","_law_k","_law_j"] ["_law_found","_law_due"] (Xk D8):=Pu.fs
noncomputable abbrev Ep:Stmt:=top 75
def Zd7:Xl ["_law_strips","_law_owners"] ["_law_strips"] (Xk Ep):=Pu.fs
noncomputable abbrev EZ:Stmt:=top 76
def Zmo:Xl ["_law_strips","_law_order","_law_ranks","_law_total","_law_k","_law_j"] ["_law_strips","_law_order"] (Xk EZ):=Pu.fs
noncomputable abbrev Du:Stmt:=top 77
def Zkn:Xl ["_law_order","_law_wishes","_law_one","_law_two"] ["_law_order","_law_wishes"] (Xk Du):=Pu.fs
noncomputable abbrev AF:Stmt:=top 78
def Zfb:Xl ["_law_holders","_law_rows","_law_turn","_law_grown","_law_row_here"] ["_law_holders"] (Xk AF):=Pu.fs
noncomputable abbrev D6:Stmt:=top 79
def Zkw:Xl ["_law_strips","_law_wishes","_law_best_here","_law_order","_law_price_here"] ["_law_strips","_law_wishes"] (Xk D6):=Pu.fs
noncomputable abbrev DS:Stmt:=top 80
def Znc:Xl ["_law_holders","_law_wishes","_law_rows","_law_grown","_law_row_here","_law_holder_here"] ["_law_holders","_law_wishes"] (Xk DS):=Pu.fs
noncomputable abbrev DY:Stmt:=top 81
def Zi3:Xl ["_law_strips","_law_order","_law_numbers","_law_holder_here"] ["_law_strips","_law_order"] (Xk DY):=Pu.fs
noncomputable abbrev Dr:Stmt:=top 82
def Zc8:Xl ["_law_strips","_law_order","_law_numbers","_law_told_here","_law_k","_law_left","_law_right"] ["_law_strips","_law_order"] (Xk Dr):=Pu.fs
noncomputable abbrev ED:Stmt:=top 83
def Zdq:Xl ["_law_strips","_law_deed_here","_law_place_here","_law_holder_here","_law_width_here","_law_parts"] ["_law_strips","_law_deed_here"] (Xk ED):=Pu.fs
noncomputable abbrev AO:Stmt:=top 84
def Zfw:Xl ["_law_wishes","_law_deed_here","_law_pair_here"] ["_law_wishes","_law_deed_here"] (Xk AO):=Pu.fs
noncomputable abbrev EE:Stmt:=top 85
def Zpd:Xl ["_law_now","_law_deed_here","_law_step_here"] ["_law_now","_law_deed_here"] (Xk EE):=Pu.fs
noncomputable abbrev Cg:Stmt:=top 86
def Ziq:Xl ["_law_village","_law_deed_here"] ["_law_village","_law_deed_here"] (Xk Cg):=Pu.fs
noncomputable abbrev Gg:Stmt:=top 87
def OL:Xl ["_law_village","_law_past","_law_deed_here","_law_step_here","_law_found"] ["_law_village","_law_past","_law_deed_here"] (Xk Gg):=Pu.fs
noncomputable abbrev Cz:Stmt:=top 88
def Zob:Xl ["_law_script","_law_menu_here","_law_many","_law_rest","_law_strips","_law_k","_law_cell","_law_width_here"] ["_law_script","_law_menu_here","_law_many"] (Xk Cz):=Pu.fs
noncomputable abbrev DV:Stmt:=top 89
def Zbt:Xl ["_law_script","_law_most"] ["_law_script","_law_most"] (Xk DV):=Pu.fs
noncomputable abbrev D9:Stmt:=top 90
def Zi5:Xl ["_law_cell","_law_good"] ["_law_cell","_law_good"] (Xk D9):=Pu.fs
noncomputable abbrev E6:Stmt:=top 91
def Zj9:Xl ["_law_cell","_law_strips"] ["_law_cell","_law_strips"] (Xk E6):=Pu.fs
noncomputable abbrev AM:Stmt:=top 92
def Zpn:Xl ["_law_cell","_law_menu_here","_law_pool","_law_one","_law_two","_law_ahead"] ["_law_cell","_law_menu_here"] (Xk AM):=Pu.fs
noncomputable abbrev Ay:Stmt:=top 93
def OI:Xl ["_law_script","_law_menu_here","_law_seed","_law_many","_law_deeds","_law_k","_law_pair_here"] ["_law_script","_law_menu_here"] (Xk Ay):=Pu.fs
noncomputable abbrev AQ:Stmt:=top 94
def Za0:Xl ["_law_cell","_law_strips","_law_place_here"] ["_law_cell","_law_strips","_law_place_here"] (Xk AQ):=Pu.fs
noncomputable abbrev A2:Stmt:=top 95
def Zg5:Xl ["_law_cell","_law_menu_here","_law_now","_law_kind","_law_rest","_law_place_here","_law_more","_law_pair_here"] ["_law_cell","_law_menu_here","_law_now"] (Xk A2):=Pu.fs
noncomputable abbrev AN:Stmt:=top 96
def TB:Xl ["_law_which","_law_village","_law_ring_here","_law_told_here","e"] ["_law_which","_law_village","_law_ring_here"] (Xk AN):=Pu.fs
noncomputable abbrev A5:Stmt:=top 97
def Zkx:Xl ["_law_village","_law_strips","_law_wishes","_law_ring_here","_law_due","_law_cost","_law_ends_here"] ["_law_village","_law_strips","_law_wishes"] (Xk A5):=Pu.fs
noncomputable abbrev Tq:Stmt:=top 98
def Ze7:Xl ["_law_script","_law_menu_here","_law_strips","_law_village","_law_past","_law_deed_here","_law_cell","_law_wishes","_law_turn","_law_same"] ["_law_script"] (Xk Tq):=Pu.fs
structure Glob (K:ZU) (mg:ZY):Prop where
 ZO:mg "any"=none
 ZS:mg "bool"=none
 ZP:mg "int"=none
 Zf:mg "isinstance"=none
 len:mg "len"=none
 Zh:mg "list"=none
 Z1:mg "max"=none
 ZQ:mg "min"=none
 Zc:mg "range"=none
 ZT:mg "set"=none
 Zi:mg "sorted"=none
 ZR:mg "sum"=none
 Zr:mg "tuple"=none
 Zw:∃u,mg "HOLDERS"=some u/\RelV (.int 10) u
 Zl:∃u,mg "STRIPS"=some u/\RelV (.int 40) u
 Zm:∃u,mg "WIDEST"=some u/\RelV (.int 1000) u
 Zn:∃u,mg "MOST_WISHES"=some u/\RelV (.int 20) u
 Zo:∃u,mg "MOST_DEEDS"=some u/\RelV (.int 100) u
 Zj:mg "TooManyStrips"=some (.ref<|ExcR.Xp mg "TooManyStrips")
 Zk:ExcR.KG K (ExcR.Xp mg "TooManyStrips")
 Z4:mg "BadHolder"=some (.ref<|ExcR.Xp mg "BadHolder")
 Z5:ExcR.KG K (ExcR.Xp mg "BadHolder")
 Z6:mg "BadWidth"=some (.ref<|ExcR.Xp mg "BadWidth")
 Z7:ExcR.KG K (ExcR.Xp mg "BadWidth")
 Zp:mg "NoStrip"=some (.ref<|ExcR.Xp mg "NoStrip")
 Zq:ExcR.KG K (ExcR.Xp mg "NoStrip")
 Z8:mg "BadOrder"=some (.ref<|ExcR.Xp mg "BadOrder")
 Z9:ExcR.KG K (ExcR.Xp mg "BadOrder")
 ZA:mg "OwnStrip"=some (.ref<|ExcR.Xp mg "OwnStrip")
 ZC:ExcR.KG K (ExcR.Xp mg "OwnStrip")
 ZF:mg "BadPart"=some (.ref<|ExcR.Xp mg "BadPart")
 ZG:ExcR.KG K (ExcR.Xp mg "BadPart")
 Zs:mg "UnlikeHolders"=some (.ref<|ExcR.Xp mg "UnlikeHolders")
 Zt:ExcR.KG K (ExcR.Xp mg "UnlikeHolders")
 ZH:mg "TooWide"=some (.ref<|ExcR.Xp mg "TooWide")
 ZI:ExcR.KG K (ExcR.Xp mg "TooWide")
 Zx:mg "LikeHolders"=some (.ref<|ExcR.Xp mg "LikeHolders")
 Zy:ExcR.KG K (ExcR.Xp mg "LikeHolders")
 Z2:mg "WishStands"=some (.ref<|ExcR.Xp mg "WishStands")
 Z3:ExcR.KG K (ExcR.Xp mg "WishStands")
 Zu:mg "TooManyWishes"=some (.ref<|ExcR.Xp mg "TooManyWishes")
 Zv:ExcR.KG K (ExcR.Xp mg "TooManyWishes")
 ZK:mg "NoWish"=some (.ref<|ExcR.Xp mg "NoWish")
 ZL:ExcR.KG K (ExcR.Xp mg "NoWish")
 ZD:mg "BookFull"=some (.ref<|ExcR.Xp mg "BookFull")
 ZE:ExcR.KG K (ExcR.Xp mg "BookFull")
 Zz:mg "NothingDone"=some (.ref<|ExcR.Xp mg "NothingDone")
 Z0:ExcR.KG K (ExcR.Xp mg "NothingDone")
 Zg:mg "Ringed"=some (.ref<|ExcR.Xp mg "Ringed")
 ZM:∃g,ExcR.KW K (ExcR.Xp mg "Ringed") g
 ZN:PySem.W.exmOne K (.ref<|ExcR.Xp mg "Ringed") (.ref<|ExcR.Xp mg "Ringed")=some true
 ZJ:mg "Village"=some (.ref<|ExcR.Xp mg "Village")
 Za:Cls K (ExcR.Xp mg "Village")
 Zb:NoAttr K (ExcR.Xp mg "Village") "book"
 Zd:NoAttr K (ExcR.Xp mg "Village") "fields"
 Ze:NoAttr K (ExcR.Xp mg "Village") "wished"
def B9:Pu.FldAt "book" ["book","fields","wished"] 0:=.of (by decide +kernel) (by decide +kernel) rfl
def Za4:Pu.PutAt "book" []:=.of (by decide +kernel)
def El:Pu.FldAt "fields" ["book","fields","wished"] 1:=.of (by decide +kernel) (by decide +kernel) rfl
def Zde:Pu.PutAt "fields" ["book"]:=.of (by decide +kernel)
def EY:Pu.FldAt "wished" ["book","fields","wished"] 2:=.of (by decide +kernel) (by decide +kernel) rfl
def Zao:Pu.PutAt "wished" ["book","fields"]:=.of (by decide +kernel)
def Tj:Pu.NoFld "strips" ["book","fields","wished"]:=.of (by decide +kernel)
def TN:Pu.NoFld "wishes" ["book","fields","wished"]:=.of (by decide +kernel)
def SE:Pu.NoFld "check_room" ["book","fields","wished"]:=.of (by decide +kernel)
def BG:Pu.NoFld "enter" ["book","fields","wished"]:=.of (by decide +kernel)
def Zhy:Pu.NoFld "sell" ["book","fields","wished"]:=.of (by decide +kernel)
def Zaz:Pu.NoFld "part" ["book","fields","wished"]:=.of (by decide +kernel)
def Zih:Pu.NoFld "unite" ["book","fields","wished"]:=.of (by decide +kernel)
def Zq3:Pu.NoFld "wish" ["book","fields","wished"]:=.of (by decide +kernel)
def Zer:Pu.NoFld "drop" ["book","fields","wished"]:=.of (by decide +kernel)
def Ze5:Pu.NoFld "take_back" ["book","fields","wished"]:=.of (by decide +kernel)
def Zel:Pu.NoFld "ring" ["book","fields","wished"]:=.of (by decide +kernel)
def FQ:Pu.NoFld "order" ["book","fields","wished"]:=.of (by decide +kernel)
def L3:Pu.NoFld "cost" ["book","fields","wished"]:=.of (by decide +kernel)
def MZ:Pu.NoFld "moves" ["book","fields","wished"]:=.of (by decide +kernel)
def Rz:Pu.NoFld "melded" ["book","fields","wished"]:=.of (by decide +kernel)
end T
namespace M
open L2 Own Pu
noncomputable def Zp5:Pc:=λf R X=>∃h:Int,f=[.int h]/\Kj (Sv h) X (R<|.sh .non)
noncomputable def DG(h:Int):Option Str:=if 1<=h/\h<=1000 then none else some "BadWidth"
noncomputable def Zkb:Pc:=λf R X=>∃h:Int,f=[.int h]/\Kj (DG h) X (R<|.sh .non)
noncomputable def Gx(_:ZU):Sp:=λh H Q _=>∃(l:Addr) (f:ZV),h=[.ref l]/\LAt Pt H l f/\Field f/\f.length<=50/\
 ∀(q:Addr) (g:Hp),H q=none->Same H g->g q=some (.lst ((Xo f).map V.int))->Q (.ref q) g
noncomputable def MY:Pc:=λg R _=>∃f:ZV,g=[.lst (f.map prD)]/\Field f/\f.length<=50/\R (.own ((Xo f).map D.int))
def Sf{P:Program}{w:World}{K:ZU}{f:ZY}{base:Heap}(C:Callee P w K f base CX0 1 "holders_of" ["strips"] (Gx K)):Callee P w K f base CX0 1 "holders_of" ["strips"] (Xq f MY K):=Zma C λG R X A H Q E r p x B=>by
 obtain⟨l,rfl,y,o,u⟩:=p;obtain⟨v,rfl,g⟩:=r.one_inv;obtain⟨a,rfl,s⟩:=g.pairs_inv;exact⟨a,l,rfl,s,y,o,λq z n S h=>x _ _ z u S (Zn9 n h)⟩
noncomputable def Zi0:Pc:=λg R _=>∃(f:ZV) (x y:Int),g=[.lst (f.map prD),.int x,.int y]/\Field f/\R (.sh<|.int<|pcM f x y f.length)
noncomputable def Zms:Pc:=λg R _=>∃f:ZV,g=[.lst (f.map prD)]/\f.length<=1000/\R (.own ((XO 1 f.length).map D.int))
noncomputable def Zrt:Pc:=λh R _=>∃(f:ZV) (g:ZW) (p:Int),h=[.lst (f.map prD),.lst (g.map D.int),.int p]/\Field f/\(∀n∈g,1<=n/\n<=f.length)/\1<=p/\p<g.length/\R (.sh<|.int<|exM f g p.toNat)
noncomputable def Zej:Pc:=λg R _=>∃(f:ZW) (p:Int),g=[.lst (f.map D.int),.int p]/\1<=p/\p<f.length/\f.length<=1000/\R (.own ((Kh f p.toNat).map D.int))
noncomputable def Zdj:Pc:=λh R _=>∃f g:ZW,h=[.lst (f.map D.int),.lst (g.map D.int)]/\(∀m∈f,1<=m/\m<=g.length)/\f.length<=1000/\∀p:Nat,FW (f.map λm=>g.getD (m-1).toNat 0) p->R (.sh<|.int p)
noncomputable def Zm9:Pc:=λg R X=>∃(f:ZV) (p:Int),g=[.lst (f.map prD),.int p]/\(if p<1\/(f.length:Int)<=p then X "NoStrip" else R (.sh .non))
noncomputable def Zly:Pc:=λr R _=>∃(l:Int) (g:List (ZW)) (f:ZW) (o:ZV),r=[.lst (g.map<|em l),.lst (f.map D.int),.lst (o.map prD)]/\g.Pairwise sl/\f.Pairwise (· < ·)/\(∀p∈g,p.length<=100)/\f.length<=100/\
 ∀n,LG o l (λp h=>p∈g/\h∈f) n->n.length<=f.length->R (.own<|n.map<|em l)
noncomputable def Zmj:Pc:=λg R X=>∃(f:ZV) (p:Int),g=[plD f,.int p]/\Kj (Fq f p) X (R<|.sh .non)
noncomputable def Zh0:Pc:=λg R X=>∃(f:ZV) (a b:Int),g=[plD f,.int a,.int b]/\f.length<=1000/\Kj (Ko f a b) X (R<|.own ((S8 f a b).map prD))
noncomputable def Zra:Pc:=λg R _=>∃f:ZW,g=[.lst (f.map D.int)]/\f.length<=10/\R (.own ((XB f).map tD))
noncomputable def Zif:Pc:=λg R _=>∃(f:ZW) (h:Int),g=[tD f,.int h]/\f.length<=1000/\R (.sh<|tD<|X1 f h)
noncomputable def Zmf:Pc:=λl R _=>∃(g:ZW) (h:Int) (f:ZV),l=[tD g,.int h,.lst (f.map prD)]/\f.length<=50/\R (.sh<|.bl<|TQ f g h)
noncomputable def Zkv:Pc:=λl R _=>∃(g:ZW) (h:Int) (f:ZV),l=[tD g,.int h,.lst (f.map prD)]/\f.length<=50/\R (.sh<|.bl<|firstM f g h)
noncomputable def Zqd(C:Addr):Pc:=λh R _=>∃(bk:List (Str×ZW)) (fs g:List (ZV)) (f:ZV),h=[Ta C bk (fs++[f]) g]/\R (.own<|f.map prD)
noncomputable def Zgq(C:Addr):Pc:=λh R _=>∃(bk:List (Str×ZW)) (fs g:List (ZV)) (f:ZV),h=[Ta C bk fs (g++[f])]/\R (.own<|f.map prD)
noncomputable def NK(bk:List (Str×ZW)):Option Str:=if 100<=bk.length then some "BookFull" else none
noncomputable def Zlt(C:Addr):Pc:=λg R X=>∃(bk:List (Str×ZW)) (fs f:List (ZV)),g=[Ta C bk fs f]/\Kj (NK bk) X (R<|.sh .non)
noncomputable def Zj6(C:Addr):Pw:=λo n R _=>∃(x b1 l h:Addr) (bk:List (Str×ZW)) (fs g:List (ZV)) (q:Str×ZW) (f w:ZV),o=vO C x b1 l h bk fs g/\n=[.sh (dD q),.sh (plD f),.sh (plD w)]/\bk.length<=1000/\fs.length<=1000/\g.length<=1000/\
 R (vO C x b1 l h (bk++[q]) (fs++[f]) (g++[w])) (.int (bk.length+1))
noncomputable def Zlp(C:Addr):Pw:=λo l R X=>∃(x b1 h g:Addr) (bk:List (Str×ZW)) (fs f:List (ZV)),o=vO C x b1 h g bk fs f/\l=[]/\fs.length=bk.length+1/\f.length=bk.length+1/\
 (bk=[]->X (vO C x b1 h g bk fs f) "NothingDone")/\∀b0 q,bk=b0++[q]->R (vO C x b1 h g b0 fs.dropLast f.dropLast) (dD q)
noncomputable def Zqq:Pc:=λg R _=>∃(f:ZW) (k:Int),g=[.scr f,.int k]/\0<=k/\R (.sh<|.int<|f.getD k.toNat 0)
noncomputable def Zpx:Pc:=λf R _=>∃i:Int,f=[.int i]/\R (.sh<|.bl true)
noncomputable def Znq:Pc:=λf R _=>∃c p:Int,f=[.int c,.int p]/\R (.sh<|.int<|mixP c p)
noncomputable def Znx:Pc:=λf R _=>∃c:Int,f=[.int c]/\∀m,Nu m->R (.own<|m.map D.int)
noncomputable def Zfo:Pc:=λf R _=>∃(m:ZW) (k:Int),f=[.lst (m.map D.int),.int k]/\Nu m/\∀h:Int,1<=h->h<=10->h=Zru m k->R (.sh<|.int h)
noncomputable def Zjh:Pc:=λg R _=>∃f:ZV,g=[.lst (f.map prD)]/\f.length<=50/\R (.own ((Xo f).map D.int))
noncomputable def Zrk:Pc:=λg R _=>∃(f:ZV) (os:ZW),g=[.lst (f.map prD),.lst (os.map D.int)]/\Field f/\f.length<=50/\(∀p∈f,p.1∈os)/\R (.sh<|.int<|PZ f os f.length)
noncomputable def Pg(os:ZW)(q:Int×Int):Bool:=decide (q.1∈os)&&(decide (q.2∈os)&&decide (os.idxOf q.2<os.idxOf q.1))
noncomputable def Zm4:Pc:=λg R _=>∃(os:ZW) (f:ZV),g=[.lst (os.map D.int),.lst (f.map prD)]/\((∀q∈f,Pg os q=false)->R (.sh<|.bl true))/\((∃q∈f,Pg os q=true)->R (.sh<|.bl false))
noncomputable abbrev ilD(r:ZW):D:=.lst (r.map D.int)
noncomputable def Zcy:Pc:=λg R _=>∃f:ZW,g=[.lst (f.map D.int)]/\f.Nodup/\f.length<=10/\R (.sh<|.lst ((XH f f.length).map ilD))
noncomputable def Zke:Pc:=λh R _=>∃(g:ZW) (f:ZV) (r:ZW),h=[.lst (g.map D.int),.lst (f.map prD)]/\g.Nodup/\g.length<=10/\(∀q∈f,q.1≠q.2)/\f.length<=20/\FR g f r/\R (.sh<|.lst<|r.map D.int)
noncomputable def Zl0:Pc:=λg R _=>∃(f:ZV) (o:ZW),g=[plD f,.lst (o.map D.int)]/\f.length<=50/\o.length<=50/\R (.own ((o.flatMap<|KN f).map D.int))
noncomputable def Zfi:Pc:=λh R _=>∃(f:ZV) (o:ZW) (g:List Mo),h=[plD f,.lst (o.map D.int)]/\Field f/\f.length<=40/\o.Perm (Xo f)/\Mv f (rkN f o) (XO 1 f.length) g/\R (.own<|g.map mvD)
noncomputable def Zg9:Pq:=λg R _=>∃(f:ZV) (x:Dd),g=[.sh (plD f),.sh (dD x.q)]/\x.land=true/\f.length<=40/\R (.own [.int (codeN<|x.err f []),plD (x.fld' f)])
noncomputable def Zjp:Pq:=λf R _=>∃(w:ZV) (x:Dd),f=[.sh (plD w),.sh (dD x.q)]/\x.land=false/\w.length<=20/\R (.own [.int (codeN<|x.err [] w),plD (x.wsh' w)])
noncomputable def Zfl:Pc:=λf R _=>∃c g:Int,f=[.int c,.int g]/\∀v:Int,R (.sh<|.int v)
noncomputable def Zn0:Pc:=λg R _=>∃(c:Int) (f:ZV),g=[.int c,plD f]/\f.length<=1000/\∀v:Int,R (.sh<|.int v)
noncomputable def Zmm:Pc:=λg R _=>∃(c:Int) (f:ZV) (p:Int),g=[.int c,plD f,.int p]/\f.length<=1000/\Field f/\∀v:Int,R (.sh<|.int v)
noncomputable def Zhx:Pc:=λg R X=>∃f:ZV,g=[plD f]/\f.length<=1000/\Kj (Sg f) X (R<|.sh .non)
noncomputable def Zj3:Pc:=λg R X=>∃(f:ZV) (os:ZW),g=[plD f,.lst (os.map D.int)]/\Field f/\f.length<=50/\os.length<64/\Kj (SA f os) X (R<|.sh .non)
noncomputable def Zq1:Pc:=λh R _=>∃(l:Int) (f:ZW) (g:ZV),h=[.int l,.lst (f.map D.int),.lst (g.map prD)]/\f.Nodup/\f.length<=50/\∀r,RF f g l r->r.length<=60->R (.sh<|.lst<|r.map D.int)
noncomputable def Zlu:Pc:=λg R X=>∃(f:ZV) (p h:Int),g=[plD f,.int p,.int h]/\f.length<=1000/\Kj (KU f p h) X (R<|.own (TK f p h |>.map prD))
noncomputable def Zcq:Pc:=λg R X=>∃(f:ZV) (p w:Int),g=[plD f,.int p,.int w]/\f.length<=1000/\Kj (Kp f p w) X (R<|.own ((PK f p w).map prD))
noncomputable def Zez:Pc:=λg R X=>∃(f:ZV) (p:Int),g=[plD f,.int p]/\f.length<=1000/\Kj (XX f p) X (R<|.own ((PP f p).map prD))
noncomputable def Zkm:Pc:=λg R X=>∃(f:ZV) (a b:Int),g=[plD f,.int a,.int b]/\f.length<=1000/\Kj (Ke f a b) X (R<|.own ((f++[(a,b)]).map prD))
noncomputable def Zfg:Pc:=λh R _=>∃f:ZV,h=[.lst (f.map prD)]/\Field f/\f.length<=50/\
 ∀g:List (List Key×V),(∀x∈Xo f,∀y∈Xo f,X0 g [.inl x,.inl y]=some (.int<|pcM f x y f.length))->R (.own<|.dT g)
noncomputable def Zbs:Pc:=λh R _=>∃(f:ZW) (l:Int) (le g:List (List Key×V)) (c:Int->Int) (v:Int),h=[tD f,.int l,.dT le,.dT g]/\f.length<=1000/\X0 le (kT<|X1 f l)=some (.int v)/\
 (∀m∈X1 f l,X0 g [.inl m,.inl l]=some (.int<|c m))/\R (.sh<|.int (v+((X1 f l).map c).sum))
noncomputable def Zbm:Pc:=λh R _=>∃(f:ZW) (l:Int) (le g:List (List Key×V)) (c:Int->Int) (v:Int),h=[tD f,.int l,.dT le,.dT g]/\f.length<=1000/\X0 le (kT<|X1 f l)=some (.int v)/\
 (∀m∈X1 f l,X0 g [.inl l,.inl m]=some (.int<|c m))/\R (.sh<|.int (v+((X1 f l).map c).sum))
noncomputable def Fs(bk:List (Str×ZW))(w:ZV)(a b:Int):Option Str:=if 100<=bk.length then some "BookFull" else Ko w a b
noncomputable def Zni(C:Addr):Pw:=λo r R X=>∃(x b1 n l:Addr) (bk:List (Str×ZW)) (fs g:List (ZV)) (f w:ZV) (p h:Int),o=vO C x b1 n l bk (fs++[f]) (g++[w])/\r=[.sh (.int p),.sh (.int h)]/\bk.length<=1000/\fs.length<=900/\g.length<=900/\w.length<=1000/\
 Kj (Fs bk w p h) (X<|vO C x b1 n l bk (fs++[f]) (g++[w])) (R (vO C x b1 n l (bk++[(("drop" : Str),[p,h])]) (fs++[f]++[f]) (g++[w]++[S8 w p h]))<|.int (bk.length+1))
noncomputable def Zpc:Pc:=λg R _=>∃(f:ZW) (k:Int),g=[.scr f,.int k]/\0<=k/\∀v:Int,R (.sh<|.int v)
noncomputable def Zkj:Pc:=λf R _=>∃xs:ZW,(f=[.lst (xs.map D.int),.lst (xs.map D.int)]\/f=[.fL xs,.lst (xs.map D.int)])/\xs.length<=1000000/\R (.sh<|.bl true)
def Zc6(f:List D):Prop:=(∃g:ZV,f=g.map prD)\/∃h:List Mo,f=h.map mvD
noncomputable def Zep:Pc:=λg R _=>∃f:List D,g=[.lst f,.lst f]/\Zc6 f/\f.length<=1000000/\R (.sh<|.bl true)
noncomputable def Zf5:Pc:=λh R _=>∃f g:ZV,h=[.lst (f.map prD),.lst (g.map prD)]/\Field f/\f.length<=50/\(Xo f).length<=10/\(∀q∈g,q.1≠q.2)/\(¬ ∃r,Ring (Xo f) g r)/\∀o,KR g (pcc f) (Xo f) o->R (.own<|.lst [.int (oc (pcc f) o),.lst (o.map D.int)])
noncomputable def Zg0:Pq:=λg R _=>∃(f w:ZV) (h:List D) (x:Dd),g=[.sh (.tup (plD f::plD w::h)),.sh (dD x.q)]/\f.length<=40/\w.length<=20/\R (.own [.int (codeN<|x.err f w),plD (x.nf f w),plD (x.nw f w)])
noncomputable def Zod:Pc:=λh R _=>∃(g m:ZW) (n:Int),h=[.scr g,.lst (m.map D.int),.int n]/\Nu m/\0<=n/\n<=1000/\∀f:ZV,Field f->f.length=n.toNat->R (.own<|f.map prD)
noncomputable def Zf9:Pc:=λh R _=>∃(g:ZW) (n:Int),h=[.scr g,.int n]/\0<=n/\n<=1000/\∀f:ZW,(f.length:Int)<=n->R (.own<|f.map D.int)
noncomputable def Zlo:Pc:=λf R _=>∃(c:Int) (m:ZW),f=[.int c,.lst (m.map D.int)]/\Nu m/\∀a b:Int,R (.sh<|prD (a,b))
noncomputable def P2(ps:ZV)(os:ZW):ZV:=os.flatMap λh=>ps.filter λq=>decide (q.1=h)
noncomputable def Zjz:Pc:=λg R X=>∃(f:ZV) (os:ZW),g=[plD f,.lst (os.map D.int)]/\Field f/\f.length<=50/\os.length<64/\Kj (SA f os) X (R<|.own ((P2 f os).map prD))
noncomputable def Zgl:Pc:=λh R _=>∃(f:ZV) (o:ZW),h=[plD f,.lst (o.map D.int)]/\Field f/\f.length<=40/\o.Perm (Xo f)/\∀g:List Mo,Mv f (rkN f o) (XO 1 f.length) g->R (.own<|g.map mvD)
noncomputable def Zp2:Pc:=λh R _=>∃(f:ZW) (g:ZV),h=[.lst (f.map D.int),.lst (g.map prD)]/\f.Nodup/\f.length<=50/\∀r,FR f g r->r.length<=60->R (.sh<|.lst<|r.map D.int)
noncomputable def Zdh:Pc:=λn R _=>∃(f g:ZV) (l:List (List Key×V)) (c:Int->Int->Int),n=[.lst (f.map prD),.lst (g.map prD),.dT l]/\Field f/\f.length<=50/\g.length<=50/\(∀q∈g,q.1≠q.2)/\
 (∀x∈Xo f,∀y∈Xo f,X0 l [.inl x,.inl y]=some (.int<|c x y))/\Ol (Xo f) g/\∀h,Tab g c (XB<|Xo f) h->R (.own<|.dT h)
noncomputable def Zcr(C:Addr):Pw:=λo g R X=>∃(x:Addr) (f:ZV),o=.ins x C [] []/\g=[.sh (plD f)]/\f.length<=1000/\Kj (Sg f) (X<|.ins x C [] []) (∀b1 l h,R (vO C x b1 l h [] [f] [[]]) .non)
noncomputable def F3(bk:List (Str×ZW))(f:ZV)(p h:Int):Option Str:=if 100<=bk.length then some "BookFull" else KU f p h
noncomputable def Zme(C:Addr):Pw:=λo r R X=>∃(x b1 n l:Addr) (bk:List (Str×ZW)) (fs g:List (ZV)) (f w:ZV) (p h:Int),o=vO C x b1 n l bk (fs++[f]) (g++[w])/\r=[.sh (.int p),.sh (.int h)]/\bk.length<=1000/\fs.length<=900/\g.length<=900/\f.length<=1000/\
 Kj (F3 bk f p h) (X<|vO C x b1 n l bk (fs++[f]) (g++[w])) (R (vO C x b1 n l (bk++[(("sell" : Str),[p,h])]) (fs++[f]++[TK f p h]) (g++[w]++[w]))<|.int (bk.length+1))
noncomputable def Af(bk:List (Str×ZW))(f:ZV)(p h:Int):Option Str:=if 100<=bk.length then some "BookFull" else Kp f p h
noncomputable def Zof(C:Addr):Pw:=λo r R X=>∃(x b1 n l:Addr) (bk:List (Str×ZW)) (fs g:List (ZV)) (f w:ZV) (p h:Int),o=vO C x b1 n l bk (fs++[f]) (g++[w])/\r=[.sh (.int p),.sh (.int h)]/\bk.length<=1000/\fs.length<=900/\g.length<=900/\f.length<=1000/\
 Kj (Af bk f p h) (X<|vO C x b1 n l bk (fs++[f]) (g++[w])) (R (vO C x b1 n l (bk++[(("part" : Str),[p,h])]) (fs++[f]++[PK f p h]) (g++[w]++[w]))<|.int (bk.length+1))
noncomputable def Fj(bk:List (Str×ZW))(f:ZV)(p:Int):Option Str:=if 100<=bk.length then some "BookFull" else XX f p
noncomputable def Zpq(C:Addr):Pw:=λo n R X=>∃(x b1 l h:Addr) (bk:List (Str×ZW)) (fs g:List (ZV)) (f w:ZV) (p:Int),o=vO C x b1 l h bk (fs++[f]) (g++[w])/\n=[.sh (.int p)]/\bk.length<=1000/\fs.length<=900/\g.length<=900/\f.length<=1000/\
 Kj (Fj bk f p) (X<|vO C x b1 l h bk (fs++[f]) (g++[w])) (R (vO C x b1 l h (bk++[(("unite" : Str),[p])]) (fs++[f]++[PP f p]) (g++[w]++[w]))<|.int (bk.length+1))
noncomputable def Fx(bk:List (Str×ZW))(w:ZV)(a b:Int):Option Str:=if 100<=bk.length then some "BookFull" else Ke w a b
noncomputable def Zmp(C:Addr):Pw:=λo r R X=>∃(x b1 n l:Addr) (bk:List (Str×ZW)) (fs g:List (ZV)) (f w:ZV) (p h:Int),o=vO C x b1 n l bk (fs++[f]) (g++[w])/\r=[.sh (.int p),.sh (.int h)]/\bk.length<=1000/\fs.length<=900/\g.length<=900/\w.length<=1000/\
 Kj (Fx bk w p h) (X<|vO C x b1 n l bk (fs++[f]) (g++[w])) (R (vO C x b1 n l (bk++[(("wish" : Str),[p,h])]) (fs++[f]++[f]) (g++[w]++[w++[(p,h)]]))<|.int (bk.length+1))
noncomputable def Zc0:Pc:=λh R _=>∃(g m:ZW),h=[.scr g,.lst (m.map D.int)]/\Nu m/\∀f:ZV,f.length<=24->R (.own (f.map λq=>dD (Dd.wish q.1 q.2).q))
noncomputable def Zlr:Pc:=λh R _=>∃(c:Int) (m:ZW) (f w:ZV) (g:List D),h=[.int c,.lst (m.map D.int),.tup (plD f::plD w::g)]/\Nu m/\f.length<=1000/\Field f/\w.length<=1000/\(∀x:Dd,R (.sh<|dD x.q))/\R (.sh<|.tup [.str "back"])
noncomputable def Zd8:Pc:=λh R X=>∃(f g:ZV),h=[.lst (f.map prD),.lst (g.map prD)]/\Field f/\f.length<=50/\(∀q∈g,q.1≠q.2)/\Tr (Xo f) g X (R<|.sh .non)
noncomputable def Zes(C:Addr):Pc:=λh R _=>∃(bk:List (Str×ZW)) (fs g:List (ZV)) (f w:ZV),h=[Ta C bk (fs++[f]) (g++[w])]/\Field f/\f.length<=50/\∀r,FR (Xo f) w r->r.length<=60->R (.sh<|.lst<|r.map D.int)
noncomputable def Ee(bk:List (Str×ZW))(f w:ZV)(d:Dd):Option Str:=if 100<=bk.length then some "BookFull" else d.err f w
noncomputable def Zd1(C:Addr):Pw:=λo n R X=>∃(x b1 l h:Addr) (bk:List (Str×ZW)) (fs g:List (ZV)) (f w:ZV) (d:Dd),o=vO C x b1 l h bk (fs++[f]) (g++[w])/\n=[.sh (dD d.q)]/\bk.length<=1000/\fs.length<=900/\g.length<=900/\f.length<=1000/\w.length<=1000/\
 Kj (Ee bk f w d) (X<|vO C x b1 l h bk (fs++[f]) (g++[w])) (R (vO C x b1 l h (bk++[d.q]) (fs++[f]++[d.fld f]) (g++[w]++[d.wsh w]))<|.int (bk.length+1))
noncomputable def Zem:Pc:=λl R X=>∃(f g:ZV),l=[.lst (f.map prD),.lst (g.map prD)]/\Field f/\f.length<=50/\g.length<=50/\(∀q∈g,q.1≠q.2)/\Tr (Xo f) g X (∀h,Ow g (pcc f) (XB<|Xo f) h->R (.own<|h.map D.int))
noncomputable def Zby:Pc:=λh R X=>∃(f g:ZV),h=[.lst (f.map prD),.lst (g.map prD)]/\Field f/\f.length<=50/\g.length<=50/\(∀q∈g,q.1≠q.2)/\Tr (Xo f) g X (∀o,KR g (pcc f) (Xo f) o->R (.own<|o.map D.int))
noncomputable def Zox(C:Addr):Pw2:=λo1 n l R _=>∃(x b1 h g a:Addr) (f0:ZV) (f:Kd) (q:D),o1=vO C x b1 h g (bkH f) (fsH f0 f) (wsH f)/\n=.lsA a (Kt f0 f)/\l=[.sh q]/\f.length<100/\FineH f0 f/\
 ((q=.tup [.str "back"]/\R (vO C x b1 h g (bkH f.dropLast) (fsH f0 f.dropLast)<|wsH f.dropLast) (.lsA a<|Kt f0 f.dropLast) (.bl true))\/
  ∃d:Dd,q=dD d.q/\R (vO C x b1 h g (bkH<|Po f0 f d) (fsH f0<|Po f0 f d)<|wsH<|Po f0 f d) (.lsA a<|Kt f0<|Po f0 f d) (.bl true))
noncomputable def Zkd:Pc:=λh R X=>∃(f g:ZV),h=[.lst (f.map prD),.lst (g.map prD)]/\Field f/\f.length<=50/\g.length<=50/\(∀q∈g,q.1≠q.2)/\Tr (Xo f) g X (∀v,KS g (pcc f) (Xo f) v->R (.sh<|.int v))
noncomputable def Zgh(C:Addr):Pc:=λh R X=>∃(bk:List (Str×ZW)) (fs g:List (ZV)) (f w:ZV),h=[Ta C bk (fs++[f]) (g++[w])]/\Field f/\f.length<=50/\w.length<=50/\(∀q∈w,q.1≠q.2)/\Tr (Xo f) w X (∀o,KR w (pcc f) (Xo f) o->R (.own<|o.map D.int))
noncomputable def Zp8(C:Addr):Pc:=λh R X=>∃(bk:List (Str×ZW)) (fs g:List (ZV)) (f w:ZV),h=[Ta C bk (fs++[f]) (g++[w])]/\Field f/\f.length<=50/\w.length<=50/\(∀q∈w,q.1≠q.2)/\Tr (Xo f) w X (∀v,KS w (pcc f) (Xo f) v->R (.sh<|.int v))
noncomputable def Zkl(C:Addr):Pc:=λl R X=>∃(bk:List (Str×ZW)) (fs h:List (ZV)) (f w:ZV),l=[Ta C bk (fs++[f]) (h++[w])]/\Field f/\f.length<=40/\w.length<=50/\(∀q∈w,q.1≠q.2)/\Tr (Xo f) w X (∀o g,KR w (pcc f) (Xo f) o->Mv f (rkN f o) (XO 1 f.length) g->R (.own<|g.map mvD))
noncomputable def Zgp(C:Addr):Pc:=λh R X=>∃(bk:List (Str×ZW)) (fs g:List (ZV)) (f w:ZV),h=[Ta C bk (fs++[f]) (g++[w])]/\Field f/\f.length<=50/\w.length<=50/\(∀q∈w,q.1≠q.2)/\Tr (Xo f) w X (∀o,KR w (pcc f) (Xo f) o->R (.own ((P2 f o).map prD)))
noncomputable def Zai(C:Addr):Pc:=λl R _=>∃(n:Int) (bk:List (Str×ZW)) (fs h:List (ZV)) (f w:ZV) (g:ZW),l=[.int n,Ta C bk (fs++[f]) (h++[w]),.lst (g.map D.int)]/\0<=n/\n<4/\Field f/\f.length<=40/\w.length<=50/\(∀q∈w,q.1≠q.2)/\FR (Xo f) w g/\g≠[]/\g.length<=60/\R (.sh<|.bl true)
noncomputable def Znv(C:Addr):Pc:=λh R _=>∃(bk:List (Str×ZW)) (fs g:List (ZV)) (f w:ZV),h=[Ta C bk (fs++[f]) (g++[w]),plD f,plD w]/\Field f/\f.length<=40/\To w/\R (.sh<|.bl true)
structure Fv (P:Program) (w:World) (K:ZU) (mg:ZY) (base:Heap):Type
variable {P:Program}{w:World}{K:ZU}{mg:ZY}{base:Heap}
abbrev Cal(_:Fv P w K mg base):=Callee P w K mg base
abbrev Cam(_:Fv P w K mg base):=Pa P w K mg base
abbrev Cxe(_:Fv P w K mg base):=ExcR.CXe P w
abbrev Xz(_:Fv P w K mg base):=ExcR.Xp mg "Village"
variable (ζ:Fv P w K mg base)
abbrev Zdk:Prop:=Cam ζ CX0 1 (ExcR.KW K<|ExcR.Xp mg "Ringed") ["self","members"] (ExcR.BA K)
abbrev Hs:Prop:=Cal ζ (Cxe ζ) 1 "check_holder" ["holder"] (Xq mg Zp5 K)
abbrev O2:Prop:=Cal ζ (Cxe ζ) 1 "check_width" ["width"] (Xq mg Zkb K)
abbrev Zgn:Prop:=Cal ζ CX0 1 "holders_of" ["strips"] (Xq mg MY K)
abbrev LS:Prop:=Cal ζ CX0 1 "pair_cost" ["strips","ahead","behind"] (Xq mg Zi0 K)
abbrev MH:Prop:=Cal ζ CX0 1 "own_numbers" ["strips"] (Xq mg Zms K)
abbrev Re:Prop:=Cal ζ CX0 1 "exchange_cost" ["strips","numbers","place"] (Xq mg Zrt K)
abbrev OJ:Prop:=Cal ζ CX0 1 "exchanged" ["numbers","place"] (Xq mg Zej K)
abbrev OQ:Prop:=Cal ζ CX0 1 "first_wrong_place" ["numbers","ranks"] (Xq mg Zdj K)
abbrev G5:Prop:=Cal ζ (Cxe ζ) 1 "check_neighbours" ["strips","place"] (Xq mg Zm9 K)
abbrev I0:Prop:=Cal ζ CX0 1 "longer_paths" ["paths","left","wishes"] (Xq mg Zly K)
abbrev Hv:Prop:=Cal ζ (Cxe ζ) 1 "check_place" ["strips","place"] (Xq mg Zmj K)
abbrev LD:Prop:=Cal ζ (Cxe ζ) 1 "without_wish" ["wishes","ahead","behind"] (Xq mg Zh0 K)
abbrev GO:Prop:=Cal ζ CX0 1 "sets_of" ["holders"] (Xq mg Zra K)
abbrev GK:Prop:=Cal ζ CX0 1 "without" ["members","holder"] (Xq mg Zif K)
abbrev RX:Prop:=Cal ζ CX0 1 "may_lie_last" ["members","holder","wishes"] (Xq mg Zmf K)
abbrev Ln:Prop:=Cal ζ CX0 1 "may_lie_first" ["members","holder","wishes"] (Xq mg Zkv K)
abbrev Zaa:Prop:=Cam ζ CX0 1 (X9 K (Xz ζ) "strips") ["self"] (Xq mg (Zqd<|Xz ζ) K)
abbrev IM:Prop:=Cam ζ CX0 1 (X9 K (Xz ζ) "wishes") ["self"] (Xq mg (Zgq<|Xz ζ) K)
abbrev Ou:Prop:=Cam ζ (Cxe ζ) 1 (X9 K (Xz ζ) "check_room") ["self"] (Xq mg (Zlt<|Xz ζ) K)
abbrev RZ:Prop:=Cam ζ CX0 1 (X9 K (Xz ζ) "enter") ["self","deed","field","wishes"] (Pu.spW mg (Zj6<|Xz ζ) K)
abbrev Hx:Prop:=Cam ζ (Cxe ζ) 1 (X9 K (Xz ζ) "take_back") ["self"] (Pu.spW mg (Zlp<|Xz ζ) K)
abbrev HZ:Prop:=Cal ζ CX0 1 "_law_at" ["_law_script","_law_k"] (Xq mg Zqq K)
abbrev MM:Prop:=Cal ζ CX0 1 "_law_whole" ["_law_found"] (Xq mg Zpx K)
abbrev Lv:Prop:=Cal ζ CX0 1 "_law_mix" ["_law_cell","_law_place_here"] (Xq mg Znq K)
abbrev Ma:Prop:=Cal ζ CX0 1 "_law_menu" ["_law_cell"] (Xq mg Znx K)
abbrev Os:Prop:=Cal ζ CX0 1 "_law_holder" ["_law_menu_here","_law_k"] (Xq mg Zfo K)
abbrev GP:Prop:=Cal ζ CX0 1 "_law_present" ["_law_strips"] (Xq mg Zjh K)
abbrev LB:Prop:=Cal ζ CX0 1 "_law_price" ["_law_strips","_law_order"] (Xq mg Zrk K)
abbrev OB:Prop:=Cal ζ CX0 1 "_law_kept" ["_law_order","_law_wishes"] (Xq mg Zm4 K)
abbrev IU:Prop:=Cal ζ CX0 1 "_law_orders" ["_law_holders"] (Xq mg Zcy K)
abbrev Ry:Prop:=Cal ζ CX0 1 "_law_ring" ["_law_holders","_law_wishes"] (Xq mg Zke K)
abbrev M9:Prop:=Cal ζ CX0 1 "_law_ends" ["_law_strips","_law_order"] (Xq mg Zl0 K)
abbrev HG:Prop:=Cal ζ CX0 1 "_law_due_moves" ["_law_strips","_law_order"] (Xq mg Zfi K)
abbrev Rj:Prop:=Cal ζ CX0 1 "_law_field_step" ["_law_strips","_law_deed_here"] (Pu.spS mg Zg9 K)
abbrev GX:Prop:=Cal ζ CX0 1 "_law_wish_step" ["_law_wishes","_law_deed_here"] (Pu.spS mg Zjp K)
abbrev ID:Prop:=Cal ζ CX0 1 "_law_odd" ["_law_cell","_law_good"] (Xq mg Zfl K)
abbrev Hu:Prop:=Cal ζ CX0 1 "_law_place" ["_law_cell","_law_strips"] (Xq mg Zn0 K)
abbrev My:Prop:=Cal ζ CX0 1 "_law_width" ["_law_cell","_law_strips","_law_place_here"] (Xq mg Zmm K)
abbrev RK:Prop:=Cal ζ (Cxe ζ) 2 "check_strips" ["strips"] (Xq mg Zhx K)
abbrev MW:Prop:=Cal ζ (Cxe ζ) 2 "check_order" ["strips","order"] (Xq mg Zj3 K)
abbrev Lo:Prop:=Cal ζ CX0 2 "ring_from" ["least","holders","wishes"] (Xq mg Zq1 K)
abbrev Oi:Prop:=Cal ζ (Cxe ζ) 2 "sold" ["strips","place","holder"] (Xq mg Zlu K)
abbrev Lu:Prop:=Cal ζ (Cxe ζ) 2 "parted" ["strips","place","width"] (Xq mg Zcq K)
abbrev G2:Prop:=Cal ζ (Cxe ζ) 2 "united" ["strips","place"] (Xq mg Zez K)
abbrev Gy:Prop:=Cal ζ (Cxe ζ) 2 "with_wish" ["wishes","ahead","behind"] (Xq mg Zkm K)
abbrev GD:Prop:=Cal ζ CX0 2 "pair_costs" ["strips"] (Xq mg Zfg K)
abbrev RC:Prop:=Cal ζ CX0 2 "cost_with_last" ["members","last","least","pairs"] (Xq mg Zbs K)
abbrev M3:Prop:=Cal ζ CX0 2 "cost_with_first" ["members","first","least","pairs"] (Xq mg Zbm K)
abbrev M2:Prop:=Cam ζ (Cxe ζ) 2 (X9 K (Xz ζ) "drop") ["self","ahead","behind"] (Pu.spW mg (Zni<|Xz ζ) K)
abbrev HC:Prop:=Cal ζ CX0 2 "_law_draw" ["_law_script","_law_k"] (Xq mg Zpc K)
abbrev Hq:Prop:=Cal ζ CX0 2 "_law_row" ["_law_found","_law_due"] (Xq mg Zkj K)
abbrev Mq:Prop:=Cal ζ CX0 2 "_law_tuples" ["_law_found","_law_due"] (Xq mg Zep K)
abbrev IG:Prop:=Cal ζ CX0 2 "_law_best" ["_law_strips","_law_wishes"] (Xq mg Zf5 K)
abbrev Om:Prop:=Cal ζ CX0 2 "_law_step" ["_law_now","_law_deed_here"] (Pu.spS mg Zg0 K)
abbrev Rg:Prop:=Cal ζ CX0 2 "_law_start" ["_law_script","_law_menu_here","_law_many"] (Xq mg Zod K)
abbrev Im:Prop:=Cal ζ CX0 2 "_law_days" ["_law_script","_law_most"] (Xq mg Zf9 K)
abbrev Lc:Prop:=Cal ζ CX0 2 "_law_pair" ["_law_cell","_law_menu_here"] (Xq mg Zlo K)
abbrev HX:Prop:=Cal ζ (Cxe ζ) 3 "gathered" ["strips","order"] (Xq mg Zjz K)
abbrev Hj:Prop:=Cal ζ CX0 3 "told_moves" ["strips","order"] (Xq mg Zgl K)
abbrev LI:Prop:=Cal ζ CX0 3 "find_ring" ["holders","wishes"] (Xq mg Zp2 K)
abbrev HR:Prop:=Cal ζ CX0 3 "least_costs" ["strips","wishes","pairs"] (Xq mg Zdh K)
abbrev HH:Prop:=Cam ζ (Cxe ζ) 3 (Mk K<|Xz ζ) ["self","strips"] (Pu.spW mg (Zcr<|Xz ζ) K)
abbrev Ot:Prop:=Cam ζ (Cxe ζ) 3 (X9 K (Xz ζ) "sell") ["self","place","holder"] (Pu.spW mg (Zme<|Xz ζ) K)
abbrev Hd:Prop:=Cam ζ (Cxe ζ) 3 (X9 K (Xz ζ) "part") ["self","place","width"] (Pu.spW mg (Zof<|Xz ζ) K)
abbrev R5:Prop:=Cam ζ (Cxe ζ) 3 (X9 K (Xz ζ) "unite") ["self","place"] (Pu.spW mg (Zpq<|Xz ζ) K)
abbrev GN:Prop:=Cam ζ (Cxe ζ) 3 (X9 K (Xz ζ) "wish") ["self","ahead","behind"] (Pu.spW mg (Zmp<|Xz ζ) K)
abbrev GJ:Prop:=Cal ζ CX0 3 "_law_opening" ["_law_script","_law_menu_here"] (Xq mg Zc0 K)
abbrev G8:Prop:=Cal ζ CX0 3 "_law_deed" ["_law_cell","_law_menu_here","_law_now"] (Xq mg Zlr K)
abbrev L4:Prop:=Cal ζ (Cxe ζ) 4 "check_no_ring" ["strips","wishes"] (Xq mg Zd8 K)
abbrev GZ:Prop:=Cam ζ CX0 4 (X9 K (Xz ζ) "ring") ["self"] (Xq mg (Zes<|Xz ζ) K)
abbrev ON:Prop:=Cal ζ (Cxe ζ) 4 "_law_call" ["_law_village","_law_deed_here"] (Pu.spW mg (Zd1<|Xz ζ) K)
abbrev Mm:Prop:=Cal ζ (Cxe ζ) 5 "cost_table" ["strips","wishes"] (Xq mg Zem K)
abbrev HS:Prop:=Cal ζ (Cxe ζ) 5 "best_order" ["strips","wishes"] (Xq mg Zby K)
abbrev Zae:Prop:=Cal ζ CX0 5 "_law_go" ["_law_village","_law_past","_law_deed_here"] (NG mg (Zox<|Xz ζ) K)
abbrev Iy:Prop:=Cal ζ (Cxe ζ) 6 "least_cost" ["strips","wishes"] (Xq mg Zkd K)
abbrev Ob:Prop:=Cam ζ (Cxe ζ) 6 (X9 K (Xz ζ) "order") ["self"] (Xq mg (Zgh<|Xz ζ) K)
abbrev RP:Prop:=Cam ζ (Cxe ζ) 7 (X9 K (Xz ζ) "cost") ["self"] (Xq mg (Zp8<|Xz ζ) K)
abbrev O7:Prop:=Cam ζ (Cxe ζ) 7 (X9 K (Xz ζ) "moves") ["self"] (Xq mg (Zkl<|Xz ζ) K)
abbrev OX:Prop:=Cam ζ (Cxe ζ) 7 (X9 K (Xz ζ) "melded") ["self"] (Xq mg (Zgp<|Xz ζ) K)
abbrev Rw:Prop:=Cal ζ CX0 8 "_law_ringed" ["_law_which","_law_village","_law_ring_here"] (Xq mg (Zai<|Xz ζ) K)
abbrev Ro:Prop:=Cal ζ CX0 9 "_law_told" ["_law_village","_law_strips","_law_wishes"] (Xq mg (Znv<|Xz ζ) K)
abbrev Zmg:Prop:=Cal ζ CX0 10 "law" ["_law_script"] (Xq mg L5 K)
end M
namespace M
open L2 Own Pu
def FX{f:Type}{xs:List f}{i:Nat}{d:f}(h:i<xs.length):xs.getD i d=xs[i]:=by rw[WC,W8 h];rfl
def Hw{f:Type}{xs:List f}{i:Nat}{d:f}(h:i<xs.length):xs.getD i d=xs[i]:=by rw[WC,W8 h];rfl
def Zcv{ns:ZW}{p:Int}(l:1<=p)(h:p<ns.length){b1:p.toNat<ns.length}{b2:(p-1).toNat<ns.length}:cutD (ns.map D.int) none (some (p-1))++[D.int ns[p.toNat],D.int ns[(p-1).toNat]]++cutD (ns.map D.int) (some (p+1)) none=(Kh ns p.toNat).map D.int:=by
 unfold Kh;rw[TL,TL,Fu ns (by lia),SG ns (by lia),WS,WS];have g:p.toNat-1=(p-1).toNat:=by lia
 have f:p.toNat+1=(p+1).toNat:=by lia
 rw[g,f,Hw b1,Hw b2];rfl
def Pd(ps:List (ZW))(f:ZW)(i j:Nat)(p:ZW)(h:Int):Prop:=(p∈ps.take i/\h∈f)\/(ps[i]?=some p/\h∈f.take j)
structure LGs (ws:ZV) (l:Int) (P:ZW->Int->Prop) (ls:ZW) (lg:List (ZW)) (kvs:List (Key×V)):Prop where
 g:LG ws l P lg
 nd:(lg.map<|Xt l).Nodup
 sub:∀h∈lg.map (Xt l),h∈ls
 rc:∀h:Int,(X0 kvs<|.inl h).isSome=true↔h∈lg.map (Xt l)
 len:kvs.length<=lg.length
def LGs.len_le {n:ZV}{l:Int}{P:ZW->Int->Prop}{g:ZW}{h:List (ZW)}{f:List (Key×V)} (L:LGs n l P g h f):h.length<=g.length:=by
 have:=NV L.nd L.sub
 rwa[W6]at this
def LG.congr {f:ZV}{l:Int}{P n:ZW->Int->Prop}{g:List (ZW)} (h:∀p x,P p x↔n p x) (G:LG f l P g):LG f l n g:=
 ⟨λq hq=>let ⟨p,x,a,b⟩:=G.mem q hq;⟨p,x,(h p x).mp a,b⟩,G.srt,λp x a b=>G.has p x ((h p x).mpr a) b⟩
def LGs.congr {n:ZV}{l:Int}{P s:ZW->Int->Prop}{o:ZW}{r:List (ZW)}{f:List (Key×V)} (h:∀p x,P p x↔s p x) (G:LGs n l P o r f):LGs n l s o r f:=⟨G.g.congr h,G.nd,G.sub,G.rc,G.len⟩
def LGs.start {ps:List (ZW)}{f:ZW}{g:ZV}{l:Int}:LGs g l (Pd ps f 0 0) f [] []:=by
 refine⟨⟨(λq hq=>by cases hq),List.Pairwise.nil,λp h a=>?_⟩,Vz,(λh n=>by cases n),(λh=>by simp[X0]),WI _⟩;rcases a with⟨a,_⟩|⟨_,a⟩
 ·rw[QK]at a;cases a
 ·rw[QK]at a;cases a
def LGs.skip {ps:List (ZW)}{f:ZW}{u:ZV}{l:Int}{A:List (ZW)}{n:List (Key×V)}{i j:Nat}{p:ZW}{h:Int} (w:ps[i]?=some p) (J:f[j]?=some h) (hs:ps.Pairwise sl)
  (G:LGs u l (Pd ps f i j) f A n) (no:(X0 n<|.inl h).isSome=true\/(Xt l p,h)∉u):LGs u l (Pd ps f i (j+1)) f A n:=by
 obtain⟨E,L⟩:=WT.mp J;obtain⟨H,ei⟩:=WT.mp w;have y:∀x,x∈f.take (j+1)↔x∈f.take j\/x=h:=λx=>by rw[WN E,WO,WB,L]
 refine⟨⟨λq hq=>?_,G.g.srt,λs x a b=>?_⟩,G.nd,G.sub,G.rc,G.len⟩
 ·obtain⟨s,x,a,b⟩:=G.g.mem q hq;exact⟨s,x,a.imp id λz=>⟨z.1,(y x).mpr (.inl z.2)⟩,b⟩
 ·rcases a with a|⟨a1,a2⟩
  ·exact G.g.has s x (.inl a) b
  ·rcases(y x).mp a2 with a2|rfl
   ·exact G.g.has s x (.inr ⟨a1,a2⟩) b
   ·rw[w]at a1;cases a1
    rcases no with no|no
    ·obtain⟨q,hq,e⟩:=Qk.mp ((G.rc x).mp no);obtain⟨v,B,o,rfl,M⟩:=G.g.mem q hq;have ex:B=x:=by rw[Ph]at e;exact e
     subst ex;refine⟨v,hq,?_⟩;rcases o with⟨o,_⟩|⟨o,_⟩
     ·obtain⟨m,C,r⟩:=Qn.mp o;rw[Qa]at C;rw[QL]at r
      have:=Qg.mp hs m i (by lia) H (by lia)
      rw[r,ei]at this;exact .inr this
     ·rw[w]at o;cases o
      exact .inl rfl
    ·exact absurd b no
def LGs.put {ps:List (ZW)}{r:ZW}{v:ZV}{l:Int}{y:List (ZW)}{s:List (Key×V)}{i j:Nat}{p:ZW}{h:Int} (A:ps[i]?=some p) (Y:r[j]?=some h) (hs:ps.Pairwise sl) (T:r.Pairwise (· < ·))
  (G:LGs v l (Pd ps r i j) r y s) (new:(X0 s<|.inl h).isSome=false) (hw:(Xt l p,h)∈v):LGs v l (Pd ps r i (j+1)) r (y++[p++[h]]) (putK s (.inl h)<|.bl true):=by
 obtain⟨J,L⟩:=WT.mp Y;obtain⟨U,ei⟩:=WT.mp A;have B:∀x,x∈r.take (j+1)↔x∈r.take j\/x=h:=λx=>by rw[WN J,WO,WB,L]
 have C:Xt l (p++[h])=h:=by rw[Ph];rfl
 have M:h∉y.map (Xt l):=λz=>by rw[(G.rc h).mpr z]at new;cases new
 refine⟨⟨λq hq=>?_,?_,λf x a b=>?_⟩,?_,λx hx=>?_,λx=>?_,?_⟩
 ·rcases WO.mp hq with hq|hq
  ·obtain⟨f,x,a,b⟩:=G.g.mem q hq;exact⟨f,x,a.imp id λz=>⟨z.1,(B x).mpr (.inl z.2)⟩,b⟩
  ·rw[WB.mp hq];exact⟨p,h,.inr ⟨A,(B h).mpr (.inr rfl)⟩,rfl,hw⟩
 ·refine Vx.mpr ⟨G.g.srt,by simp,λq hq q' E=>?_⟩;rw[WB.mp E];obtain⟨f,x,a,rfl,b⟩:=G.g.mem q hq;rcases a with⟨a,_⟩|⟨a1,a2⟩
  ·obtain⟨m,H,o⟩:=Qn.mp a;rw[Qa]at H;rw[QL]at o
   have:=Qg.mp hs m i (by lia) U (by lia)
   rw[o,ei]at this;exact FF x h this
  ·rw[A]at a1;cases a1
   obtain⟨m,H,o⟩:=Qn.mp a2;rw[Qa]at H;rw[QL]at o
   have:=Qg.mp T m j (by lia) J (by lia)
   rw[o,L]at this;exact DJ this
 ·have u:∀f x,Pd ps r i j f x->(Xt l f,x)∈v->∃n,n++[x]∈y++[p++[h]]/\(n=f\/sl n f):=λf x a b=>let ⟨n,Q,N⟩:=G.g.has f x a b;⟨n,Q4 _ Q,N⟩;rcases a with a|⟨a1,a2⟩
  ·exact u f x (.inl a) b
  ·rcases(B x).mp a2 with a2|rfl
   ·exact u f x (.inr ⟨a1,a2⟩) b
   ·rw[A]at a1;cases a1
    exact⟨p,Qi _ (WB.mpr rfl),.inl rfl⟩
 ·rw[WS,V9,C];refine Q3.mpr ⟨G.nd,by simp,λa ha b hb=>?_⟩;rw[WB.mp hb];rintro rfl;exact M ha
 ·rw[WS,V9,C]at hx;rcases WO.mp hx with hx|hx
  ·exact G.sub x hx
  ·rw[WB.mp hx,←L];exact WW J
 ·rw[WS,V9,C,BW,WO,WB];by_cases e:x=h
  ·subst e;rw[WH rfl];exact⟨λ_=>.inr rfl,λ_=>rfl⟩
  ·rw[WG (λz=>e (Sum.inl.inj z)),G.rc];exact⟨.inl,λz=>z.elim id λw=>absurd w e⟩
 ·rw[WJ]
  have:=Aa s (.inl h) (.bl true)
  have:=G.len
  simp;lia
def Ze6(hs r:ZW):(hs.filter λh=>!decide (h∈r)).map (λh=>D.lst (r.map D.int++[D.int h]))=(nextM hs r).map ilD:=by
 unfold nextM ilD;rw[Qr];apply QM;intro h _;show _=D.lst ((r++[h]).map D.int);rw[WS];rfl
def Zng{hs:ZW}{rows:List (ZW)}{j:Nat}(h:j<rows.length):((rows.take (j+1)).flatMap (nextM hs))=(rows.take j).flatMap (nextM hs)++nextM hs rows[j]:=by
 rw[WN h,JI];simp
noncomputable def Nj:Nat->Nat
 | 0=>1
 |k+1=>Nj k*(10-k)
def OD:∀k,Nj k<=3628800:=by
 have z:∀k,Nj (11+k)=0:=by
  intro k
  induction k with
  |zero=>decide
  |succ k f=>show Nj (11+k)*_=0;rw[f,Nat.zero_mul]
 intro k;by_cases h:k<11
 ·have:∀i:Fin 11,Nj i.1<=3628800:=by decide
  exact this ⟨k,h⟩
 ·have:=z (k-11)
  rw[show 11+(k-11)=k by lia]at this;lia
def Zlc{hs r:ZW}(f:hs.Nodup)(p:hs.length<=10)(o:r.Nodup)(n:∀x∈r,x∈hs):(nextM hs r).length<=10-r.length:=by
 unfold nextM;rw[W6]
 have:=NV (Q3.mpr ⟨f.filter (λh=>!decide (h∈r)),o,λa l b g e=>by
  have:=(Qh.mp l).2
  rw[e,W9 g]at this;cases this⟩) (ys:=hs) λx hx=>by
  rcases WO.mp hx with hx|hx
  ·exact(Qh.mp hx).1
  ·exact n x hx
 rw[WJ]at this;lia
theorem Cs{hs:ZW}(g:hs.Nodup)(l:hs.length<=10){k:Nat}:∀f:List (ZW),(∀r∈f,r.length=k/\r.Nodup/\∀x∈r,x∈hs)->(f.flatMap<|nextM hs).length<=f.length*(10-k)
 |[],_=>by simp
 |r::f,h=>by
  obtain⟨p,o,n⟩:=h r Qs;have a:=Zlc g l o n;have b:=Cs g l f λx hx=>h x (Qb _ hx);rw[VD,WJ,WV,Jr];rw[p]at a;lia
theorem AJ{hs:ZW}(f:hs.Nodup)(g:hs.length<=10):∀k,(XH hs k).length<=Nj k
 | 0=>by unfold XH;simp[Nj]
 |k+1=>by
  show((XH hs k).flatMap (nextM hs)).length<=Nj k*(10-k);exact WK (Cs f g _ λr h=>rows_mem.mp h) (JC _<|AJ f g k)
noncomputable def eL(w:ZW):D:=.lst (w.map D.int)
def RO(hs:ZW)(f:ZV)(k:Nat)(w:ZW):Prop:=∃l t,w=l::t/\l∈hs/\Path (Gr hs l) f l t/\(l::t).Nodup/\t.length=k
structure NH (hs:ZW) (ws:ZV) (k:Nat) (rows:List (ZW)):Prop where
 mem:∀w,w∈rows↔RO hs ws k w
 srt:rows.Pairwise sl
def NoC(hs:ZW)(f:ZV)(k:Nat):Prop:=∀l t,l∈hs->Kq hs f l t->(l::t).Nodup->t.length<=k->False
def Ao(f:ZV)(w:ZW):Prop:=∃l t,w=l::t/\(Xt l t,l)∈f
section
variable {hs:ZW}{ws:ZV}{k:Nat}{rows:List (ZW)}{r:ZW}
def Zix{l:Int}{t:ZW}(h:l∈hs)(f:Path (Gr hs l) ws l t)(g:(l::t).Nodup)(n:k<=t.length):RO hs ws k (l::t.take k):=by
 have e:t=t.take k++t.drop k:=(Vp k t).symm;rw[e]at f;refine⟨l,t.take k,rfl,h,(path_app.mp f).1,g.sublist ?_,by rw[Qa];lia⟩;exact(Vt k t).cons₂ l
def NoC.next (L:NH hs ws (k+1) rows) (h:∀w∈rows,¬Ao ws w) (N:NoC hs ws k):NoC hs ws (k+1):=λl t n f g o=>by
 by_cases c:t.length<=k
 ·exact N l t n f g c
 ·exact h _ ((L.mem _).mpr ⟨l,t,rfl,n,f.1,g,by lia⟩) ⟨l,t,rfl,f.2⟩
def NoC.zero (f:∀q∈ws,q.1≠q.2):NoC hs ws 0:=λl t o g n h=>by
 have:t=[]:=QG.mp (by lia)
 subst this;exact f _ g.2 rfl
def Zpi(n:∀q∈ws,q.1≠q.2)(F:FR hs ws r)(L:NH hs ws k [])(N:NoC hs ws k):r=[]:=by
 rcases F with⟨e,_⟩|⟨l,t,rfl,f,h,o⟩
 ·exact e
 ·have R:=DQ n f h λu g=>by rcases o l f u g with z|⟨z,_⟩<;>lia
  by_cases c:t.length<=k
  ·exact(N l t f h R.nodup c).elim
  ·have:=(L.mem _).mpr (Zix (k:=k) f h.1 R.nodup<|by lia)
   cases this
def OP{a b:ZW}(g:sl a b)(f:sl b a):False:=CL (F5 g f)
def Zom(J:∀q∈ws,q.1≠q.2)(F:FR hs ws r)(L:NH hs ws (k+1) rows)(N:NoC hs ws k){i:Nat}(E:i<rows.length)(hc:Ao ws rows[i])(Y:∀w∈rows.take i,¬Ao ws w):r=rows[i]:=by
 obtain⟨m,u,G,y,Q,hn,C⟩:=(L.mem rows[i]).mp (WW E);obtain⟨m',u',o,A⟩:=hc;rw[G]at o;cases o
 have h:Kq hs ws m u:=⟨Q,A⟩;rcases F with⟨_,F⟩|⟨l,t,rfl,s,g,f⟩
 ·exact absurd h (F m y u)
 ·have R:=DQ J s g λv H=>by rcases f l s v H with z|⟨z,_⟩<;>lia
  have ht:¬t.length<=k:=λz=>N l t s g R.nodup z;have x:t.length=k+1:=by rcases f m y u h with z|⟨z,_⟩<;>lia
  have M:(l::t)∈rows:=(L.mem _).mpr ⟨l,t,rfl,s,g.1,R.nodup,x⟩;obtain⟨j,T,B⟩:=Qn.mp M;have U:i<=j:=Nat.le_of_not_lt λz=>Y (l::t) (Qn.mpr ⟨j,by rw[Qa];lia,by rw[QL,B]⟩) ⟨l,t,rfl,g.2⟩;by_cases e:i=j
  ·subst e;exact B.symm
  ·have p:=Qg.mp L.srt i j E T (by lia);rw[G,B]at p;exfalso;rcases f m y u h with z|⟨_,z⟩
   ·lia
   ·rcases z with z|⟨z,n⟩
    ·exact OP p (.inl z)
    ·subst z;rcases n with n|n
     ·subst n;exact CL p
     ·exact OP p (sl_cons.mpr n)
end
def Okh(f:ZV)(l:Int)(t:ZW)(h:Int):Prop:=l<h/\¬h∈l::t/\(Xt l t,h)∈f
def PdR(rows:List (ZW))(ns:ZW)(i j:Nat)(w:ZW)(h:Int):Prop:=(w∈rows.take i/\h∈ns)\/(rows[i]?=some w/\h∈ns.take j)
noncomputable def T9(o:Option (ZW))(h:Int):Bool:=match o with|some w=>decide (¬h∈w)|none=>true
structure GRs (ws:ZV) (rows:List (ZW)) (ns:ZW) (i j c:Nat) (g:List (ZW)):Prop where
 mem:∀q,q∈g↔∃l t h,PdR rows ns i j (l::t) h/\Okh ws l t h/\q=l::t++[h]
 srt:g.Pairwise sl
 len:g.length<=i*c+((ns.take j).filter (T9 rows[i]?)).length
section
variable {ws:ZV}{rows:List (ZW)}{ns:ZW}{i j c:Nat}{g:List (ZW)}{l h:Int}{t:ZW}
def GRs.start:GRs ws rows ns 0 0 c []:=by
 refine⟨λq=>⟨(λz=>by cases z),?_⟩,List.Pairwise.nil,by simp⟩;rintro⟨l,t,h,z|z,_⟩
 ·have:=z.1;rw[QK]at this;cases this
 ·have:=z.2;rw[QK]at this;cases this
def GRs.take_mem (n:ns[j]?=some h) (x:Int):x∈ns.take (j+1)↔x∈ns.take j\/x=h:=by
 obtain⟨f,o⟩:=WT.mp n;rw[WN f,WO,WB,o]
def GRs.skip (hw:rows[i]?=some (l::t)) (v:ns[j]?=some h) (G:GRs ws rows ns i j c g) (no:¬Okh ws l t h):GRs ws rows ns i (j+1) c g:=by
 have u:=GRs.take_mem v;obtain⟨w,A⟩:=WT.mp v;refine⟨λq=>(G.mem q).trans ⟨?_,?_⟩,G.srt,WK G.len ?_⟩
 ·rintro⟨o,n,x,z,f,p⟩;exact⟨o,n,x,z.imp id λy=>⟨y.1,(u x).mpr (.inl y.2)⟩,f,p⟩
 ·rintro⟨o,n,x,z|⟨s,r⟩,f,p⟩
  ·exact⟨o,n,x,.inl z,f,p⟩
  ·rcases(u x).mp r with r|rfl
   ·exact⟨o,n,x,.inr ⟨s,r⟩,f,p⟩
   ·rw[hw]at s;cases s
    exact absurd f no
 ·rw[WN w,JT,WJ];lia
def GRs.put (hw:rows[i]?=some (l::t)) (C:ns[j]?=some h) (hs:rows.Pairwise sl) (H:ns.Pairwise (· < ·)) (G:GRs ws rows ns i j c g) (ok:Okh ws l t h):GRs ws rows ns i (j+1) c (g++[l::t++[h]]):=by
 have v:=GRs.take_mem C;obtain⟨B,E⟩:=WT.mp C;obtain⟨J,ei⟩:=WT.mp hw;refine⟨λq=>?_,Vx.mpr ⟨G.srt,by simp,λq hq L w=>?_⟩,?_⟩
 ·rw[WO,WB,G.mem q];constructor
  ·rintro(⟨r,p,x,z,u,s⟩|rfl)
   ·exact⟨r,p,x,z.imp id λy=>⟨y.1,(v x).mpr (.inl y.2)⟩,u,s⟩
   ·exact⟨l,t,h,.inr ⟨hw,(v h).mpr (.inr rfl)⟩,ok,rfl⟩
  ·rintro⟨r,p,x,z|⟨n,o⟩,u,s⟩
   ·exact .inl ⟨r,p,x,.inl z,u,s⟩
   ·rcases(v x).mp o with o|rfl
    ·exact .inl ⟨r,p,x,.inr ⟨n,o⟩,u,s⟩
    ·rw[hw]at n;cases n
     exact .inr s
 ·rw[WB.mp w];obtain⟨r,p,x,z,u,rfl⟩:=(G.mem q).mp hq;rcases z with⟨z,_⟩|⟨n,o⟩
  ·obtain⟨m,A,f⟩:=Qn.mp z;rw[Qa]at A;rw[QL]at f
   have:=Qg.mp hs m i (by lia) J (by lia)
   rw[f,ei]at this;exact FF x h this
  ·rw[hw]at n;cases n
   obtain⟨m,A,f⟩:=Qn.mp o;rw[Qa]at A;rw[QL]at f
   have:=Qg.mp H m j (by lia) B (by lia)
   rw[f,E]at this;exact DJ this
 ·have e:(ns.take (j+1)).filter (T9 rows[i]?)=(ns.take j).filter (T9 rows[i]?)++[h]:=by
   rw[WN B,JT,E]
   have:T9 rows[i]? h=true:=by
    rw[hw];exact W9 ok.2.1
   rw[Ji this,List.filter_nil]
  rw[e,WJ,WJ]
  have:=G.len
  simp;lia
def Zpl{w:ZW}(n:ns.Nodup)(hw:w.Nodup)(f:∀x∈w,x∈ns):(ns.filter<|T9<|some w).length+w.length<=ns.length:=by
 have:(ns.filter (T9<|some w)++w).length<=ns.length:=by
  refine NV (Q3.mpr ⟨n.filter _,hw,λa p b o=>?_⟩) λx hx=>?_
  ·rintro rfl
   have:=(Qh.mp p).2
   exact WA this o
  ·rcases WO.mp hx with hx|hx
   ·exact(Qh.mp hx).1
   ·exact f x hx
 rwa[WJ]at this
def GRs.row (hw:rows[i]?=some (l::t)) (v:(ns.filter<|T9<|some (l::t)).length<=c) (G:GRs ws rows ns i ns.length c g):GRs ws rows ns (i+1) 0 c g:=by
 obtain⟨u,ei⟩:=WT.mp hw;refine⟨λq=>(G.mem q).trans ⟨?_,?_⟩,G.srt,?_⟩
 ·rintro⟨o,n,x,z,r,p⟩;refine⟨o,n,x,.inl ?_,r,p⟩;rw[WN u,WO,WB,ei];rcases z with z|⟨f,s⟩
  ·exact⟨.inl z.1,z.2⟩
  ·rw[hw]at f;rw[Qp]at s;exact⟨.inr (WR f).symm,s⟩
 ·rintro⟨o,n,x,z|⟨_,z⟩,r,p⟩
  ·rw[WN u,WO,WB,ei]at z;rcases z.1 with f|f
   ·exact⟨o,n,x,.inl ⟨f,z.2⟩,r,p⟩
   ·exact⟨o,n,x,.inr ⟨by rw[hw,f],by rw[Qp];exact z.2⟩,r,p⟩
  ·rw[QK]at z;cases z
 ·have:=G.len
  rw[Qp,hw]at this;rw[Nat.succ_mul];simp;lia
def GRs.all {hs:ZW}{k:Nat} (w:∀x,x∈ns↔x∈hs) (L:NH hs ws k rows) (G:GRs ws rows ns rows.length 0 c g):NH hs ws (k+1) g:=by
 refine⟨λq=>(G.mem q).trans ⟨?_,?_⟩,G.srt⟩
 ·rintro⟨l,t,x,z|⟨_,z⟩,p,rfl⟩
  ·rw[Qp]at z;obtain⟨N,J,e,u,r,n,f⟩:=(L.mem _).mp z.1;cases e
   refine⟨l,t++[x],rfl,u,path_app.mpr ⟨r,⟨(w x).mp z.2,p.1⟩,p.2.2,trivial⟩,?_,by simp[f]⟩;rw[←QS];refine Q3.mpr ⟨n,by simp,λa H b E=>?_⟩;rw[WB.mp E];rintro rfl;exact p.2.1 H
  ·rw[QK]at z;cases z
 ·rintro⟨l,t,rfl,u,r,n,f⟩;have o:t≠[]:=λz=>by rw[z]at f;cases f
  have v:t=t.dropLast++[t.getLast o]:=(QV o).symm;generalize t.getLast o=x at v;generalize t.dropLast=s at v;subst v;obtain⟨A,p2,y,_⟩:=path_app.mp r;rw[←QS]at n;obtain⟨C,M,B⟩:=Q3.mp n;refine⟨l,s,x,.inl ⟨?_,(w x).mpr p2.1⟩,⟨p2.2,λz=>B x z x (WB.mpr rfl) rfl,y⟩,rfl⟩;rw[Qp];exact(L.mem _).mpr ⟨l,s,rfl,u,A,C,by simpa using f⟩
end
noncomputable def fall:Nat->Nat
 | 0=>10
 |k+1=>fall k*(9-k)
def Zeg:∀k,fall k<=3628800:=by
 have z:∀k,fall (10+k)=0:=by
  intro k
  induction k with
  |zero=>decide
  |succ k f=>show fall (10+k)*_=0;rw[f,Nat.zero_mul]
 intro k;by_cases h:k<10
 ·have:∀k,k<10->fall k<=3628800:=by decide
  exact this k h
 ·have:=z (k-10)
  rw[show 10+(k-10)=k by lia]at this;lia
noncomputable def Fe(f:List (Option Pu.S)):Nat:=match (f[2]?:Option (Option Pu.S))with
 |some (some<|Pu.S.sh<|Pu.D.lst (Pu.D.lst g::_))=>20-g.length
 |_=>0
def Ha(l:Int)(t:ZW):atI ((l::t).map D.int) (-1)=some (.int<|Xt l t):=Ft l t
def Zei(ps:ZV)(o:ZW):(o.flatMap<|KN ps).length<=o.length*ps.length:=by
 induction o with
 |nil=>simp
 |cons h r f=>
  rw[VD,WJ,WV,Jr]
  have:=Gc ps h
  lia
noncomputable def O9(f:Int->Int)(g:List (Option Pu.S)):Nat:=match g[2]?,g[4]? with
 |some (some<|Pu.S.own<|Pu.O.lst h),some (some<|Pu.S.sh<|Pu.D.int k)=>2*(K9 f<|h.map toI).toNat+(h.length-k.toNat)
 |_,_=>0
def G9{n i:Nat}{k:Int}(h:i<n/\k=(i:Int)):ixN n k=some i:=by
 unfold ixN;rw[WH (by lia),WH (by lia),h.2];rfl
def MT{ns:ZW}{p i:Nat}(h:i<p-1/\p<ns.length):(Kh ns p).getD i 0=ns.getD i 0:=by
 unfold Kh;rw[WC,VB,Qj (by rw[Qa];lia),QR h.1,WC]
theorem MR{f:Type}{c:f->Bool}:∀{xs:List f}{x:f}{r:List f},xs.filter c=x::r->∃i,∃o:i<xs.length,xs[i]=x/\c x=true/\∀j (l:j<xs.length),j<i->c xs[j]=false
 |[],x,r,h=>by cases h
 |y::v,x,r,h=>by
  by_cases g:c y=true
  ·rw[Ji g]at h;cases h
   exact⟨0,by simp,rfl,g,λj _ l=>by lia⟩
  ·rw[List.filter_cons_of_neg g]at h;obtain⟨i,o,u,s,p⟩:=MR h;refine⟨i+1,by simp;lia,by simpa using u,s,λj l n=>?_⟩;cases j with
   |zero=>simpa using g
   |succ j=>simpa using p j (by simpa using l) (by lia)
def Mb(c:Int->Bool):∀f:ZW,f.filterMap (λq=>if c q=true then some (D.int q)else none)=(f.filter c).map D.int:=Px c D.int
theorem IX(ps:ZV):∀o:ZW,oc (λx y=>pcM ps x y ps.length) o=PU ps ps.length o
 |[]=>rfl
 |a::r=>by
  unfold oc PU;rw[IX ps r]
def Zdl{g:ZV}{o:ZW}(l:o.Nodup)(h:∀q∈g,Pg o q=false):Keeps g o:=by
 unfold Keeps;rw[Qg];intro i j p n f hw
 have:=h _ hw
 unfold Pg at this;rw[l.idxOf_getElem i p,l.idxOf_getElem j n,W9 (WW p),W9 (WW n),W9 f]at this;cases this
def Cm{g:ZV}{o:ZW}(n:Keeps g o):∀q∈g,Pg o q=false:=λq hq=>by
 cases f:Pg o q with
 |false=>rfl
 |true=>
  unfold Pg at f;rw[Qx,Qx]at f;have s:=WA f.1;have r:=WA f.2.1;have p:=WA f.2.2;have l:=Jc.mpr s;have h:=Jc.mpr r
  have:=Qg.mp n _ _ h l p
  rw[JR h,JR l]at this;exact absurd hq this
noncomputable def As(ps:ZV):Option (ZW)->List D
 |none=>[]
 |some q=>[.int (PZ ps q ps.length),.lst (q.map D.int)]
def Zdt(ps:ZV)(b:Option (ZW)):(As ps b).isEmpty=decide (b=none):=by cases b<;>simp[As]
def Zhl(ps:ZV)(os:ZW):(P2 ps os).length<=os.length*ps.length:=by
 unfold P2
 induction os with
 |nil=>simp
 |cons h r f=>
  rw[VD,WJ,WV,Jr]
  have:=Q5 (λq:Int×Int=>decide (q.1=h)) ps
  lia
def FRi(hs:ZW)(f:ZV)(ns:ZW)(r:ZW):Prop:=
 (r=[]/\∀l∈ns,∀t,¬Kq hs f l t)\/∃l t,r=l::t/\l∈ns/\Kq hs f l t/\∀m∈ns,∀u,Kq hs f m u->t.length<u.length\/(t.length=u.length/\(l<m\/(l=m/\(t=u\/sl t u))))
def FRi.keep {hs:ZW}{o:ZV}{ns r f:ZW}{l:Int} (h:FRi hs o ns r) (x:∀m∈ns,m<l) (g:RF hs o l f) (c:f=[]\/(r≠[]/\r.length<=f.length)):FRi hs o (ns++[l]) r:=by
 rcases h with⟨rfl,h⟩|⟨v,t,rfl,w,A,y⟩
 ·rcases c with rfl|⟨c,_⟩
  ·rcases g with⟨_,g⟩|⟨t,e,_⟩
   ·refine .inl ⟨rfl,λm hm=>?_⟩;rcases WO.mp hm with hm|hm
    ·exact h m hm
    ·rw[WB.mp hm];exact g
   ·cases e
  ·exact absurd rfl c
 ·refine .inr ⟨v,t,rfl,Q4 _ w,A,λm hm u n=>?_⟩;rcases WO.mp hm with hm|hm
  ·exact y m hm u n
  ·rw[WB.mp hm]at n ⊢;rcases g with⟨rfl,g⟩|⟨s,rfl,_,g⟩
   ·exact absurd n (g u)
   ·rcases c with c|⟨_,c⟩
    ·cases c
    ·have p:=x v w;simp at c;rcases g u n with z|⟨z,_⟩
     ·exact .inl (by lia)
     ·by_cases e:t.length<u.length
      ·exact .inl e
      ·exact .inr ⟨by lia,.inl p⟩
def FRi.take {hs:ZW}{n:ZV}{ns r f:ZW}{l:Int} (h:FRi hs n ns r) (y:∀m∈ns,m<l) (p:RF hs n l f) (c:f≠[]/\(r=[]\/f.length<r.length)):FRi hs n (ns++[l]) f:=by
 rcases p with⟨rfl,_⟩|⟨s,rfl,f1,w⟩
 ·exact absurd rfl c.1
 ·refine .inr ⟨l,s,rfl,Qi _ (WB.mpr rfl),f1,λm hm u g=>?_⟩;rcases WO.mp hm with hm|hm
  ·rcases h with⟨rfl,h⟩|⟨x,t,rfl,B,A,v⟩
   ·exact absurd g (h m hm u)
   ·rcases c.2 with c|c
    ·cases c
    ·simp at c;rcases v m hm u g with z|⟨z,_⟩
     ·exact .inl (by lia)
     ·exact .inl (by lia)
  ·rw[WB.mp hm]at g ⊢;rcases w u g with z|⟨z,o⟩
   ·exact .inl z
   ·exact .inr ⟨z,.inr ⟨rfl,o⟩⟩
def FRi.all {hs:ZW}{g:ZV}{ns r:ZW} (f:∀z,z∈ns↔z∈hs) (h:FRi hs g ns r):FR hs g r:=by
 rcases h with⟨rfl,h⟩|⟨l,t,rfl,u,s,p⟩
 ·exact .inl ⟨rfl,λl o=>h l ((f l).mpr o)⟩
 ·exact .inr ⟨l,t,rfl,(f l).mp u,s,λm n=>p m ((f m).mpr n)⟩
noncomputable def Zh9(f:List (Option Pu.S)):Nat:=match f[4]? with
 |some (some<|Pu.S.sh<|Pu.D.tup g)=>g.length
 |_=>0
def F4{f:Type}{xs:List f}{x:f}(h:xs[xs.length-1]?=some x):atI xs (-1)=some x:=by
 have g:=(WT.mp h).1;unfold atI ixN;rw[WG (by lia),WH (by lia)];show xs[_]?=some x;rw[←h];congr 1;lia
def Zdz(ps:ZV)(os:ZW):(P2 ps os).length<=os.length*ps.length:=by
 unfold P2
 induction os with
 |nil=>simp
 |cons h r f=>
  rw[VD,WJ,WV,Jr]
  have:=Q5 (λq:Int×Int=>decide (q.1=h)) ps
  lia
def Zmz(ps:ZV)(o:ZW):(o.flatMap<|KN ps).length<=o.length*ps.length:=by
 induction o with
 |nil=>simp
 |cons h r f=>
  rw[VD,WJ,WV,Jr]
  have:=Gc ps h
  lia
end M
namespace T
open L2 Own M
section
variable {P:Program}{w:World}{K:ZU}{mg:ZY}{base:Heap}
def Zqb(G:Glob K mg)(D:Pu.X8 K (ExcR.KW K<|ExcR.Xp mg "Ringed") "__init__" "Ringed.__init__" AG ["self","members"])
  : Pu.Pa P w K mg base CX0 1 (ExcR.KW K<|ExcR.Xp mg "Ringed") ["self","members"] (ExcR.BA K):=by
 refine D.ok (k:=0) Zgy (λg H Q E h=>?_) (λf l A outer s H g Q E n h=>?_)
 ·obtain⟨_,_,_,_,_,rfl,_⟩:=h;rfl
 ·exact⟨_,Pr (ExcR.Zft (pv 0) (PR LJ (by rfl) G.Zh boot_list<|XY (pv 1) Ky)<|by rfl),ExcR.Zg3 h rfl⟩
def Zko(G:Glob K mg)(D:Def K mg "holders_of" Cw ["strips"])
  : Callee P w K mg base CX0 1 "holders_of" ["strips"] (Gx K):=by
 refine D.ok (k:=0) Zah (λu H Q E h=>?_) (λf cdv A outer s H u Q E hr h=>?_)
 ·obtain⟨l,g,rfl,⟨u,y,v⟩,L,J,q⟩:=h;rfl
 ·obtain⟨l,g,rfl,⟨u,y,v⟩,L,J,q⟩:=h;refine⟨_,(Pr<|Kx<|Ks (HA rfl) (by rfl) G.Zi Js<|XY (PR (Zhf rfl) (by rfl) G.ZT boot_set<|XY (Dn (N':=["holder","width"]) (φ:=[none,none]) rfl (Sk.of<|by rfl) (LW<|pv 0) (λ_ _ _ _ _=>⟨(Ai (K:=K) (n:=2) rfl<|N3 (Gh (i:=0) (show(["holder","width"]:Yd).Nodup from by decide +kernel) rfl (by first|exact Or.inl rfl|exact Or.inr rfl))<|N3 (Gh (i:=1) (show(["holder","width"]:Yd).Nodup from by decide +kernel) rfl (by first|exact Or.inl rfl|exact Or.inr rfl)) FN),Nh,(pv 0)⟩)) Ky) Ky),?_⟩
  have e1:=v.1;refine⟨_,rfl,l,rfl,⟨_,SqL.of y⟩,λD B=>Zb4 (ds:=g) (λd=>some (V.int d.1)) (SqL.of y) e1 B (WK J<|by decide) (λi x d H2 hx hd S k Y=>?_) ?_⟩
  ·obtain⟨d',p,a,rfl,ha⟩:=v.get hx;rw[hd]at p;cases p
   exact⟨a,_,rfl,SqT.of (S _ _ ha),rfl,_,_,rfl,_,_,rfl,rfl,.skip (.skip .refl),_,rfl,Y⟩
  ·have em:g.filterMap (λd=>some (V.int d.1))=(g.map (·.1)).map V.int:=by
    rw[Vl,Qr];rfl
   rw[em];have S1:Same H (upd H D<|.lst ((g.map (·.1)).map V.int)):=XU B;refine⟨D,g.map (·.1),rfl,SqL.of X5,by rw[W6];lia,λz N=>?_⟩;have M:=Own.Same.new (o:=N7 w z ((g.map (·.1)).foldl SetR.Kw [])) S1 N;refine⟨z,_,rfl,?_,.inr X5,λr ns C U T=>?_⟩
   ·have:=GM (g.map (·.1)) []
    rw[W6]at this;simp at this ⊢;lia
   ·rw[Zg8 L U T];exact q r _ (M.free C) (Own.Same.new M C) X5
end
open Pu
section
variable {P:Program}{w:World}{K:ZU}{mg:ZY}{base:Heap} (ζ:Fv P w K mg base)
variable (G:Glob K mg) (YC:Zdk ζ) (Yr:Hs ζ) (YD:O2 ζ) (Ym:Zgn ζ) (YE:LS ζ) (YF:MH ζ) (YG:Re ζ) (YH:OJ ζ) (Yy:OQ ζ) (YI:G5 ζ) (YJ:I0 ζ) (Yz:Hv ζ) (YK:LD ζ) (YL:GO ζ) (Yv:GK ζ) (YM:RX ζ) (YN:Ln ζ) (Yj:Zaa ζ) (Yl:IM ζ) (Yo:Ou ζ) (Yp:RZ ζ) (YO:Hx ζ) (Yk:HZ ζ) (Ys:MM ζ) (Yq:Lv ζ) (YQ:Ma ζ) (Yn:Os ζ) (Y0:GP ζ) (YR:LB ζ) (YS:OB ζ) (YT:IU ζ) (YU:Ry ζ) (YV:M9 ζ) (YW:HG ζ) (YX:Rj ζ) (YY:GX ζ) (Yw:ID ζ) (YZ:Hu ζ) (Wa:My ζ) (Wb:RK ζ) (Y1:MW ζ) (Wc:Lo ζ) (Wd:Oi ζ) (We:Lu ζ) (Wf:G2 ζ) (Wg:Gy ζ) (Y2:GD ζ) (Wh:RC ζ) (Wi:M3 ζ) (Wj:M2 ζ) (Wk:HC ζ) (Yx:Hq ζ) (Yt:Mq ζ) (Wl:IG ζ) (Wm:Om ζ) (Wn:Rg ζ) (Wo:Im ζ) (Y3:Lc ζ) (Wp:HX ζ) (Wq:Hj ζ) (Y4:LI ζ) (Y5:HR ζ) (Wr:HH ζ) (Ws:Ot ζ) (Wt:Hd ζ) (Wu:R5 ζ) (Wv:GN ζ) (Ww:GJ ζ) (Wx:G8 ζ) (Y6:L4 ζ) (Wy:GZ ζ) (Wz:ON ζ) (W1:Mm ζ) (W2:HS ζ) (Y7:Zae ζ) (W3:Iy ζ) (Yu:Ob ζ) (Y8:RP ζ) (YA:O7 ζ) (YB:OX ζ) (W4:Rw ζ) (W5:Ro ζ)
def Zga(p:Def K mg "check_holder" Ed ["holder"])
  : Hs ζ:=by
 refine p.fy Zri (λr n=>(b1<|sI (tp<|wo (tc KO KL (xv 0) xi)<|wO<|tc K6 K0 (xv 0)<|xe (ExcR.Pp G.Zw) Xr) (b1<|sQ G.Z5 G.Z4 ExcR.KH<|a1<|xe (ExcR.N5<|ExcR.PN<|ExcR.Nw (ExcR.Pp G.Zw) ExcR.NF)<|NI<|PJ<|Nz Xr N6) b0)) (.a ?_)
 ·rintro u R X ⟨h,rfl,f⟩;refine⟨rfl,?_⟩;unfold Sv at f;refine Xm (λg=>Ka ?_) (λg=>?_)
  ·rw[WG (by have:=WA g;lia)]at f;exact⟨by decide,by decide,by decide,by decide,by simp,f⟩
  ·have s:¬h<1:=λz=>g (W9 z);refine Xm (λl=>?_) (λl=>?_)
   ·rw[WG (by have:=WA l;lia)]at f;exact⟨by decide,by decide,by decide,by decide,by simp,f⟩
   ·have o:¬10<h:=λz=>l (W9 z);rw[WH (by lia)]at f;exact f
def Zh4(p:Def K mg "check_width" AX ["width"])
  : O2 ζ:=by
 refine p.fy Zh5 (λr n=>(b1<|sI (tp<|wo (tc KO KL (xv 0) xi)<|wO<|tc K6 K0 (xv 0)<|xe (ExcR.Pp G.Zm) Xr) (b1<|sQ G.Z7 G.Z6 ExcR.KH<|a1<|xe (ExcR.N5<|ExcR.PN<|ExcR.Nw (ExcR.Pp G.Zm) ExcR.NF)<|NI<|PJ<|Nz Xr N6) b0)) (.a ?_)
 ·rintro u R X ⟨h,rfl,f⟩;refine⟨rfl,?_⟩;unfold DG at f;refine Xm (λg=>Ka ?_) (λg=>?_)
  ·rw[WG (by have:=WA g;lia)]at f;exact⟨by decide,by decide,by decide,by decide,by simp,f⟩
  ·have s:¬h<1:=λz=>g (W9 z);refine Xm (λl=>?_) (λl=>?_)
   ·rw[WG (by have:=WA l;lia)]at f;exact⟨by decide,by decide,by decide,by decide,by simp,f⟩
   ·have o:¬1000<h:=λz=>l (W9 z);rw[WH (by lia)]at f;exact f
def Zbp(J:Def K mg "pair_cost" EH ["strips","ahead","behind"])
  : LS ζ:=by
 refine J.fz Zgu (λu n=>(bc (sS 3 n xi)<|bc (sS 4 n xi)<|bc (sF 0<|sO [5,6] WX (iL<|xv 0) (gT 2<|gc (gN 5)<|gc (gN 6) g0)<|b1<|sI (tq u (xv 5)<|xv 2) (b1<|sU 3 n OT<|xv 6)<|b1<|sI (tq u (xv 5)<|xv 1) (b1<|sU 4 n OT<|xo T7 TC (xv 3)<|xv 6) b0)<|b1<|sV 4)) (.a ?_)
 ·rintro L R X ⟨f,x,y,rfl,C,B⟩;refine⟨rfl,rfl,K5 (xs:=f) (emb:=prD) (λi h=>h=[some (.bor<|.lst<|f.map prD),some (.sh<|.int x),some (.sh<|.int y),some (.sh<|.int<|tpM f y i),some (.sh<|.int<|pcM f x y i),none,none]) rfl ?_ ?_⟩
  ·rintro i A h rfl;have v:f.getD i (0,0)=f[i]:=by rw[WC,W8 A];rfl
   have hw:=C _ (WW A);have H:tpM f y (i+1)=tpM f y i+(if f[i].1=y then f[i].2 else 0):=by simp only[tpM];rw[v]
   have E:pcM f x y (i+1)=pcM f x y i+(if x≠y/\f[i].1=x then tpM f y i*f[i].2 else 0):=by simp only[pcM];rw[v]
   rw[H,E];generalize f[i]=p at hw;refine⟨rfl,Xm (λg=>?_) (λg=>Xm (λr=>?_) (λr=>?_))⟩
   ·have e:p.1=y:=WA g;rw[WH e,WG (by rintro⟨s,o⟩;exact s (o.symm.trans e)),Jd];rfl
   ·have e:¬p.1=y:=λz=>g (W9 z);have l:p.1=x:=WA r;rw[WG e,WH ⟨λz=>e (l.trans z),l⟩,Jd];exact⟨.inr ⟨by show -(2 ^ 64)<p.2;lia,by show p.2<2 ^ 64;lia⟩,rfl⟩
   ·have e:¬p.1=y:=λz=>g (W9 z);have l:¬p.1=x:=λz=>r (W9 z);rw[WG e,WG (by rintro⟨s,o⟩;exact l o),Jd,Jd];rfl
  ·rintro h rfl;exact B
def Zc3(l:Def K mg "own_numbers" DX ["strips"])
  : MH ζ:=by
 refine l.fz Zqh (λp n=>(b1<|sR<|xC ["index"] [none] (jI<|ir G.Zc<|a1<|xl G.len<|xv 0) (gN 0) f0<|xo X3 X4 (xv 0) xi)) (.a ?_)
 ·rintro r R X ⟨f,rfl,o,h⟩;refine⟨rfl,?_⟩;have g:(f.map prD).length=f.length:=W6 ..;refine⟨⟨by lia,by lia⟩,Bb (λi=>some (.int (0+(i:Int)+1))) (by lia) (λi _=>⟨_,rfl,rfl⟩) ?_⟩
  have e:(List.range ((f.map prD).length:Int).toNat).filterMap (λ(i:Nat)=>some (D.int (0+(i:Int)+1)))=(XO 1 f.length).map D.int:=by
   unfold XO;rw[Vl,Qr,g,Qy];refine QM λi _=>?_;show D.int (0+(i:Int)+1)=D.int (1+(i:Int));congr 1;lia
  rw[e];exact h
def Zqc(x:Def K mg "exchange_cost" Cy ["strips","numbers","place"])
  : Re ζ:=by
 refine x.fz Zf0 (λA n=>(bc (sS 3 n<|xx (xv 0)<|xo XD XF (xx (xv 1)<|xo XD XF (xv 2) xi) xi)<|bc (sS 4 n<|xx (xv 0)<|xo XD XF (xx (xv 1)<|xv 2) xi)<|b1<|sR<|xo T7 TC (xx (xv 3) xi)<|xx (xv 4) xi)) (.a ?_)
 ·rintro E R X ⟨g,f,p,rfl,s,h,C,B,l⟩;refine⟨rfl,?_⟩;have b1:(p-1).toNat<f.length:=by omega
  have r:p.toNat<f.length:=by omega
  have z:=h _ (WW b1);have y:=h _ (WW r);refine⟨_,KP (by omega) (by omega),_,KP (by omega) (by omega),_,KP (by omega) (by omega),_,KP (by omega) (by omega),_,rfl,_,rfl,?_⟩;have o:(f[(p-1).toNat]-1).toNat<g.length:=by omega
  have v:(f[p.toNat]-1).toNat<g.length:=by omega
  have f1:=s _ (WW o);refine⟨.inl ⟨by show -(2 ^ 64)<(g[(f[(p-1).toNat]-1).toNat]).2;omega,by show(g[(f[(p-1).toNat]-1).toNat]).2<2 ^ 64;omega⟩,?_⟩
  have e:exM g f p.toNat=(g[(f[(p-1).toNat]-1).toNat]).2*(g[(f[p.toNat]-1).toNat]).2:=by
   unfold exM
   have u:f.getD (p.toNat-1) 0=f[(p-1).toNat]:=by
    rw[show p.toNat-1=(p-1).toNat by omega];exact FX b1
   rw[u,FX r,FX o,FX v]
  rw[e]at l;exact l
def Zb8(s:Def K mg "exchanged" Ce ["numbers","place"])
  : OJ ζ:=by
 refine s.fz Zli (λv n=>(b1<|sR<|xo Kz K4 (xo Kz K4 (xp (xv 0) o0<|o1<|xo XD XF (xv 1) xi)<|xL<|a2 (xx (xv 0)<|xv 1)<|xx (xv 0)<|xo XD XF (xv 1) xi)<|xp (xv 0) (o1<|xo X3 X4 (xv 1) xi) o0)) (.a ?_)
 ·rintro x R X ⟨f,p,rfl,r,o,u,h⟩;refine⟨rfl,?_⟩;have b1:p.toNat<f.length:=by lia
  have b2:(p-1).toNat<f.length:=by lia
  have g:(cutD (f.map D.int) none<|some (p-1)).length<=1000:=by have:=(Tt (f.map D.int) none<|some (p-1)).length_le;rw[W6]at this;lia
  have l:(cutD (f.map D.int) (some (p+1)) none).length<=1000:=by have:=(Tt (f.map D.int) (some (p+1)) none).length_le;rw[W6]at this;lia
  refine⟨SS _,_,KP (by lia) (by lia),_,KP (by lia) (by lia),by simp,rfl,rfl,WK (Qm g<|WI 2) (by decide),SS _,rfl,rfl,WK (Qm (by rw[WJ];exact Qm g (WI 2)) l) (by decide),?_⟩;have e:=Zcv r o (b1:=b1) (b2:=b2);rw[←e]at h;exact h
def Zp3(L:Def K mg "first_wrong_place" Dh ["numbers","ranks"])
  : OQ ζ:=by
 refine L.fz Zo7 (λN n=>(bc (sO [2] WX (iR G.Zc<|a2 xi<|xl G.len<|xv 0) (gN 2)<|b1<|sI (tc K6 K0 (xx (xv 1)<|xo XD XF (xx (xv 0)<|xo XD XF (xv 2) xi) xi)<|xx (xv 1)<|xo XD XF (xx (xv 0)<|xv 2) xi) (b1<|sV 2) b0)<|b1<|sR xi)) (.a ?_)
 ·rintro U R X ⟨h,l,rfl,y,M,E⟩;refine⟨rfl,?_⟩;have Q:(h.map D.int).length=h.length:=W6 ..
  have C:∀(i:Nat) (k:Int),i<h.length->k=(i:Int)->atI (h.map D.int) k=some (.int<|h.getD i 0):=λi k p e=>by
   rw[e];exact P7 (f:=D.int) (Tu<|by rw[WC,W8 p];rfl)
  have A:∀i:Nat,i<h.length->atI (l.map D.int) (h.getD i 0-1)=some (.int (l.getD (h.getD i 0-1).toNat 0)):=λi p=>by
   have J:h.getD i 0∈h:=by
    rw[WC,W8 p];exact WW p
   have:=y _ J
   generalize h.getD i 0=z at this;rw[KP (f:=D.int) (xs:=l) (by lia) (by lia),WC,W8 (show(z-1).toNat<l.length by lia)];rfl
  have x:∀i:Nat,i<h.length->(h.map λm=>l.getD (m-1).toNat 0).getD i 0=l.getD (h.getD i 0-1).toNat 0:=λi p=>KZ p;have B:(h.map λm=>l.getD (m-1).toNat 0).length=h.length:=W6 ..;refine⟨⟨by lia,by lia⟩,Tg (λi r=>(∀q,1<=q->q<1+i->(h.map λm=>l.getD (m-1).toNat 0).getD (q-1) 0<=(h.map λm=>l.getD (m-1).toNat 0).getD q 0)/\r=[some (.bor<|.lst<|h.map D.int),some (.bor<|.lst<|l.map D.int),none]) ⟨λq u T=>by lia,rfl⟩ ?_ ?_⟩
  ·rintro i r p ⟨u,rfl⟩
   have o:i+1<h.length:=by
    have:i<((((h.map D.int).length:Nat):Int)-1).toNat:=p
    lia
   refine⟨_,C i _ (by lia) (by lia),_,A i (by lia),_,C (i+1) _ o (by lia),_,A (i+1) o,?_⟩;refine Xm (λg=>?_) (λg=>?_)
   ·have H:l.getD (h.getD (i+1) 0-1).toNat 0<l.getD (h.getD i 0-1).toNat 0:=WA g
    have:=E (i+1) ⟨λq s v=>u q s (by rw[WG (by lia)]at v;lia),.inr ⟨by lia,by rw[B];exact o,by rw[x _ o,QF,x _ (by lia)];exact H⟩⟩
    rw[show((i+1:Nat):Int)=1+(i:Int) by lia]at this;exact this
   ·have H:¬l.getD (h.getD (i+1) 0-1).toNat 0<l.getD (h.getD i 0-1).toNat 0:=λz=>g (W9 z);refine⟨λq s v=>?_,rfl⟩;by_cases c:q<1+i
    ·exact u q s c
    ·have:q=i+1:=by lia
     subst this;rw[x _ o,QF,x _ (by lia)];lia
  ·rintro r ⟨u,rfl⟩;refine E 0 ⟨λq s v=>u q s ?_,.inl rfl⟩;rw[WH rfl,B]at v;lia
def Zhc(r:Def K mg "check_neighbours" Cn ["strips","place"])
  : G5 ζ:=by
 refine r.fy Zfn (λs n=>(b1<|sI (tp<|wo (tc KO KL (xv 1) xi)<|wO<|tc Su SB (xv 1)<|xl G.len<|xv 0) (b1<|sQ G.Zq G.Zp ExcR.KH<|a1 xs) b0)) (.a ?_)
 ·rintro x R X ⟨h,p,rfl,f⟩;refine⟨rfl,?_⟩;have u:(h.map prD).length=h.length:=W6 ..;refine Xm (λg=>Ka ?_) (λg=>?_)
  ·rw[WH (.inl<|WA g)]at f;exact⟨by simp,f⟩
  ·have v:¬p<1:=λz=>g (W9 z);refine Xm (λo=>?_) (λo=>?_)
   ·have l:((h.map prD).length:Int)<=p:=WA o;rw[WH (.inr<|by lia)]at f;exact⟨by simp,f⟩
   ·have l:¬((h.map prD).length:Int)<=p:=λz=>o (W9 z);rw[WG (by lia)]at f;exact f
def Ziy(DD:Def K mg "longer_paths" Ek ["paths","left","wishes"])
  : I0 ζ:=by
 refine DD.fz LC (λE n=>(bc (sS 3 n<|xL a0)<|bc (se (Pu.pz 4 LC.nd Zmv)<|Nq Zn4<|Kl 4)<|bc (sF 1<|sF 0<|sO [5,6] WX (iL<|xv 0) (gN 5)<|b1<|sF 1<|sO [6] WX (iL<|xv 1) (gN 6)<|b1<|sI (tp<|wa (te (Zal<|Zdv (Pb<|E ()) (pv 6)<|pv 4)<|Zoy<|Zqz (Xi 6)<|Xi 4)<|wA<|ti E (xt<|a2 (xx (xv 5)<|xe (Pi Pe Xu)<|Pf Xr)<|xv 6)<|xv 2) (bc (se (AW (Pb<|E ()) (pv 4) (pv 6) N1 rfl)<|EJ 4 (Xi 6) NC)<|b1<|sF 6<|sA 3<|xo Kz K4 (xv 5)<|xL<|a1<|xv 6) b0)<|b1<|sV 3)) (.a ?_)
 ·rintro ds R X ⟨l,v,u,A,rfl,C,Y,H,U,hR⟩;refine⟨rfl,?_⟩
  refine⟨by simp,rfl,K5 (xs:=v) (emb:=em l) (λi o=>∃r f,o=[some (.bor<|.lst<|v.map<|em l),some (.bor<|.lst<|u.map D.int),some (.bor<|.lst<|A.map prD),some (.own<|r.map<|em l),some (.own<|.dK f),none,none]/\LGs A l (Pd v u i 0) u r f)
   ⟨[],[],rfl,LGs.start⟩ ?_ ?_⟩
  ·rintro i L o ⟨r,f,rfl,s⟩;have y:v[i]?=some v[i]:=W8 L;have J:=H v[i] (WW L);generalize v[i]=p at y J ⊢;refine⟨rfl,K5 (xs:=u) (emb:=D.int) (λj o=>∃r f,o=[some (.bor<|.lst<|v.map<|em l),some (.bor<|.lst<|u.map D.int),some (.bor<|.lst<|A.map prD),some (.own<|r.map<|em l),some (.own<|.dK f),some (.bor<|em l p),none]/\LGs A l (Pd v u i j) u r f) ⟨r,f,rfl,s⟩ ?_ ?_⟩
   ·rintro j hj o ⟨r,f,rfl,s⟩;have B:u[j]?=some u[j]:=W8 hj;generalize u[j]=h at B ⊢;have Q:=s.len_le;have hkl:=s.len;refine⟨.inl h,rfl,Xm (λg=>?_) (λg=>?_)⟩
    ·have N:(X0 f<|.inl h).isSome=false:=by
      cases e:(X0 f<|.inl h).isSome with
      |false=>rfl
      |true=>rw[e]at g;cases g
     refine⟨_,Ft l p,by simp,_,.lp (Xt l p,h) A,Xm (λM=>?_) (λM=>?_)⟩
     ·refine⟨.inl h,.bl true,rfl,rfl,by lia,by simp,SS _,rfl,by simp;lia,by rw[W6];lia,r++[p++[h]],_,?_,s.put y B C Y N (WA M)⟩;rw[WS]
      have e:em l (p++[h])=.lst ((l::p).map D.int++[.int h]):=by
       unfold em;rw[←QS,WS];rfl
      rw[V9,e];rfl
     ·exact⟨r,f,rfl,s.skip y B C (.inr λz=>M (W9 z))⟩
    ·have N:(X0 f<|.inl h).isSome=true:=by
      cases e:(X0 f<|.inl h).isSome with
      |true=>rfl
      |false=>rw[e]at g;exact absurd rfl g
     exact XI ⟨r,f,rfl,s.skip y B C (.inl N)⟩
   ·rintro o ⟨r,f,rfl,s⟩;refine⟨r,f,rfl,s.congr λT x=>?_⟩;unfold Pd;rw[Qp,QK];obtain⟨hi',ei⟩:=WT.mp y;rw[WN L,WO,WB,y,ei];constructor
    ·rintro(⟨a,b⟩|⟨a,b⟩)
     ·exact .inl ⟨.inl a,b⟩
     ·exact .inl ⟨.inr (WR a).symm,b⟩
    ·rintro(⟨a|a,b⟩|⟨_,a⟩)
     ·exact .inl ⟨a,b⟩
     ·exact .inr ⟨Q2 some a.symm,b⟩
     ·cases a
  ·rintro o ⟨r,f,rfl,s⟩;refine hR r (s.g.congr λT x=>?_) s.len_le;unfold Pd;rw[Qp,QK];exact⟨(λz=>z.elim id λw=>by cases w.2),.inl⟩
def Zce(r:Def K mg "check_place" EU ["strips","place"])
  : Hv ζ:=by
 refine r.fy Ze8 (λs n=>(b1<|sI (tp<|wo (tc KO KL (xv 1) xi)<|wO<|tc K6 K0 (xv 1)<|xl G.len<|xv 0) (b1<|sQ G.Zq G.Zp ExcR.KH<|a1 xs) b0)) (.a ?_)
 ·rintro x R X ⟨h,p,rfl,f⟩;refine⟨rfl,?_⟩;have u:(h.map prD).length=h.length:=W6 ..;unfold Fq at f;refine Xm (λg=>Ka ?_) (λg=>?_)
  ·rw[WH (.inl<|WA g)]at f;exact⟨by simp,f⟩
  ·have v:¬p<1:=λz=>g (W9 z);refine Xm (λo=>?_) (λo=>?_)
   ·have l:((h.map prD).length:Int)<p:=WA o;rw[WH (.inr<|by lia)]at f;exact⟨by simp,f⟩
   ·have l:¬((h.map prD).length:Int)<p:=λz=>o (W9 z);rw[WG (by lia)]at f;exact f
def Znj(r:Def K mg "without_wish" AH ["wishes","ahead","behind"])
  : LD ζ:=by
 refine r.fy Zo3 (λp n=>(bc (sI (tI p (xt<|a2 (xv 1)<|xv 2)<|xv 0) (b1<|sQ G.ZL G.ZK ExcR.KH<|a1 xs) b0)<|b1<|sF 2<|sF 1<|sR<|xC ["wish","ahead","behind"] [none,some 1,some 2] (jL<|xv 0) (gN 0) (f1<|te (Pv (Mc (K:=K)<|show _<cLine from(p ()).units0) (pv 0) (PB<|bz (pv 1)<|pv 2)<|KY _)<|Kr<|Rv (Xi 0)<|PY<|tz (Xi 1)<|Xi 2)<|xv 0)) (.a ?_)
 ·rintro u R X ⟨l,a,b,rfl,s,f⟩;refine⟨rfl,?_⟩;unfold Ko at f;refine⟨by simp,_,.lp (a,b) l,Xm (λg=>?_) (λg=>?_)⟩
  ·have o:¬(a,b)∈l:=λz=>by rw[WH rfl,W9 z]at g;cases g
   rw[WG o]at f;exact⟨by simp,f⟩
  ·have o:(a,b)∈l:=Qd λz=>g (by rw[WH rfl,Qq z];rfl);rw[WH o]at f;refine Kk (xs:=l) (emb:=prD) (λq=>if (!decide (q=(a,b)))=true then some (prD q)else none) (by lia) (λq hq=>?_) ?_
   ·refine⟨by simp,?_⟩;show Es (.sh<|prD q) (.sh<|prD (a,b)) _;refine Zl3 ?_;exact Xm (λh=>⟨_,rfl,WH h⟩) (λh=>WG h)
   ·rw[Px (λq:Int×Int=>!decide (q=(a,b)))];exact f
def Zd5(v:Def K mg "sets_of" Dq ["holders"])
  : GO ζ:=by
 refine v.fz Zhb (λy n=>(bc (sS 1 n<|xL<|a1<|xt a0)<|bc (sF 0<|sO [2] WX (iL<|xv 0) (gN 2)<|b1<|sF 2<|sS 1 n<|xo Kz K4 (xv 1)<|xC ["members","holder"] [none,some 2] (jL<|xv 1) (gN 0) f0<|xe (P4 (Zen (K:=K)) (pv 0)<|PB<|az<|pv 1)<|Zql (Xi 0)<|PY<|sz<|Xi 1)<|b1<|sV 1)) (.a ?_)
 ·rintro z R X ⟨l,rfl,x,u⟩;refine⟨rfl,by simp,by simp,rfl,K5 (xs:=l) (emb:=D.int) (λi g=>g=[some (.bor<|.lst<|l.map D.int),some (.own ((XB<|l.take i).map tD)),none]) rfl ?_ ?_⟩
  ·rintro i s g rfl
   have o:(XB<|l.take i).length<=1024:=by
    rw[LN,Qa];exact Nat.pow_le_pow_right (j:=10) (by decide) (by lia)
   have p:∀f∈XB (l.take i),f.length<=10:=λf r=>by
    have:=(Be _ f r).length_le
    rw[Qa]at this;lia
   rw[WN s,NL];generalize XB (l.take i)=S at o p ⊢;generalize l[i]=h;refine Kk (xs:=S) (emb:=tD) (λf=>some (tD (f++[h]))) (by lia) (λf r=>?_) ?_
   ·refine⟨by simp,_,_,Zrf f,rfl,?_,_,rfl,?_⟩
    ·have:=p f r
     rw[W6];show f.length+1<=100000;lia
    ·unfold tD;rw[WS];rfl
   ·rw[T1];refine⟨rfl,rfl,?_,?_⟩
    ·rw[W6,W6];lia
    ·show[_,_,_]=[_,_,_];rw[WS,Qr];rfl
  ·rintro g rfl;rw[Qp];exact u
def Zck(o:Def K mg "without" Cv ["members","holder"])
  : GK ζ:=by
 refine o.fz Zgr (λg n=>(b1<|sR<|xe (PR (Zac (K:=K)) (by rfl) G.Zr boot_tuple<|az<|cz ["member","holder"] [none,some 1] (B6 (K:=K)<|pv 0) ⟨(gk 0),(Sy<|cn K (g ()) (pv 0)<|pv 1),(pv 0)⟩)<|HJ<|sz<|P5 (SndI.c<|Bw<|Xi 0) (Kl 0) (Kr<|OA (Xi 0)<|Xi 1)<|Xi 0)) (.a ?_)
 ·rintro u R X ⟨f,h,rfl,p,l⟩;refine⟨rfl,?_⟩;rw[B5];refine⟨_,rfl,Kk (s:=.sh .non) (xs:=f) (emb:=D.int) (λm=>if decide (m≠h)=true then some (.int m)else none) (by lia) (λm r=>?_) ?_⟩
  ·show if (!decide (m=h))=true then _ else _;by_cases e:m=h
   ·rw[W9 e];exact XI (by simp[e])
   ·rw[Qq e];exact Ka ⟨_,rfl,WH (W9 e)⟩
  ·rw[Px (λm=>decide (m≠h))];exact⟨rfl,l⟩
def Zgw(r:Def K mg "may_lie_last" CD ["members","holder","wishes"])
  : RX ζ:=by
 refine r.fz Zet (λo n=>(b1<|sR<|xn<|xe (Ks (MN (K:=K) rfl) (by rfl) G.ZO boot_any<|az<|cz ["ahead","behind","holder","members"] [none,none,some 1,some 0] (Nk (K:=K)<|pv 2) ⟨(Ai (K:=K) (n:=2) rfl<|N3 (gk 0)<|N3 (gk 1) FN),Nh,(Bc (Ny (Bh (K:=K)<|show _<cLine from(o ()).units0) (pv 0) (pv 2)<|KY _)<|SR<|Ny (Gd (K:=K)<|show _<cLine from Pb (o ())) (pv 1) (pv 3)<|by with_unfolding_all rfl)⟩)<|IW<|sz<|P5 (Nx<|Xi 2) (Gj<|SY (Kl 0)<|SY (Kl 1) A7) NR<|B4 (Tf (Xi 0)<|Xi 2)<|Bv (Xi 1)<|Xi 3)) (.a ?_)
 ·rintro u R X ⟨f,h,l,rfl,s,p⟩;refine⟨rfl,?_⟩;rw[B5];refine Kk (xs:=l) (emb:=prD) (λq=>some (.bl (decide (q.1=h)&&decide (q.2∈f)))) (by lia) (λq hq=>?_) ?_
  ·refine⟨rfl,?_⟩;show if true=true then(if decide (q.1=h)=true then _ else _)else(some (D.bl (decide (q.1=h)&&decide (q.2∈f)))=none);refine Ka (Xm (λg=>⟨_,.ti _ _,?_⟩) (λg=>?_))
   ·refine⟨_,rfl,?_⟩;rw[g,JW];rfl
   ·refine⟨_,rfl,?_⟩;rw[VC.mpr g,JK]
  ·rw[T1];refine⟨l.map λq=>decide (q.1=h)&&decide (q.2∈f),by rw[Qr];rfl,?_⟩;rw[List.any_map];exact p
def Zku(r:Def K mg "may_lie_first" DW ["members","holder","wishes"])
  : Ln ζ:=by
 refine r.fz Zrq (λo n=>(b1<|sR<|xn<|xe (Ks (MN (K:=K) rfl) (by rfl) G.ZO boot_any<|az<|cz ["ahead","behind","holder","members"] [none,none,some 1,some 0] (Nk (K:=K)<|pv 2) ⟨(Ai (K:=K) (n:=2) rfl<|N3 (gk 0)<|N3 (gk 1) FN),Nh,(Bc (Ny (Bh (K:=K)<|show _<cLine from(o ()).units0) (pv 1) (pv 2)<|KY _)<|SR<|Ny (Gd (K:=K)<|show _<cLine from Pb (o ())) (pv 0) (pv 3)<|by with_unfolding_all rfl)⟩)<|IW<|sz<|P5 (Nx<|Xi 2) (Gj<|SY (Kl 0)<|SY (Kl 1) A7) NR<|B4 (Tf (Xi 1)<|Xi 2)<|Bv (Xi 0)<|Xi 3)) (.a ?_)
 ·rintro u R X ⟨f,h,l,rfl,s,p⟩;refine⟨rfl,?_⟩;rw[B5];refine Kk (xs:=l) (emb:=prD) (λq=>some (.bl (decide (q.2=h)&&decide (q.1∈f)))) (by lia) (λq hq=>?_) ?_
  ·refine⟨rfl,?_⟩;show if true=true then(if decide (q.2=h)=true then _ else _)else(some (D.bl (decide (q.2=h)&&decide (q.1∈f)))=none);refine Ka (Xm (λg=>⟨_,.ti _ _,?_⟩) (λg=>?_))
   ·refine⟨_,rfl,?_⟩;rw[g,JW];rfl
   ·refine⟨_,rfl,?_⟩;rw[VC.mpr g,JK]
  ·rw[T1];refine⟨l.map λq=>decide (q.2=h)&&decide (q.1∈f),by rw[Qr];rfl,?_⟩;rw[List.any_map];exact p
def Zg7(h:X8 K (X9 K (Xz ζ) "strips") "strips" "Village.strips" E8 ["self"])
  : Zaa ζ:=by
 refine h.fz Zbh (λo n=>(b1<|sR<|xe (PR (F9 (K:=K)) (by rfl) G.Zh boot_list<|az<|jx K (Tn (pv 0) rfl)<|Pi Pe Xu)<|F0<|sz<|XM (BR 1 G.Za G.Zd El<|Xi 0)<|Pf Xr)) (.a ?_)
 ·rintro p R X ⟨bk,fs,l,f,rfl,g⟩;refine⟨rfl,?_⟩;exact⟨rfl,rfl,_,rfl,_,F4 plD fs f,Ts _,g⟩
def Ze1(l:X8 K (X9 K (Xz ζ) "wishes") "wishes" "Village.wishes" DT ["self"])
  : IM ζ:=by
 refine l.fz Zp6 (λo n=>(b1<|sR<|xe (PR (F9 (K:=K)) (by rfl) G.Zh boot_list<|az<|jx K (Tn (pv 0) rfl)<|Pi Pe Xu)<|F0<|sz<|XM (BR 2 G.Za G.Ze EY<|Xi 0)<|Pf Xr)) (.a ?_)
 ·rintro p R X ⟨bk,fs,g,f,rfl,h⟩;refine⟨rfl,?_⟩;exact⟨rfl,rfl,_,rfl,_,F4 plD g f,Ts _,h⟩
def Zj7(l:X8 K (X9 K (Xz ζ) "check_room") "check_room" "Village.check_room" Eg ["self"])
  : Ou ζ:=by
 refine l.fy Znz (λp n=>(b1<|sI (tc Su SB (xl G.len<|xe (Tn (pv 0) rfl)<|BR 0 G.Za G.Zb B9<|Xi 0)<|xe (ExcR.Pp G.Zo) Xr) (b1<|sQ G.ZE G.ZD ExcR.KH<|a1<|xe (ExcR.N5<|ExcR.PN<|ExcR.Nw (ExcR.Pp G.Zo)<|ExcR.PN ExcR.NF)<|NI<|PJ<|Nz Xr<|PJ N6) b0)) (.a ?_)
 ·rintro s R X ⟨bk,fs,o,rfl,f⟩;refine⟨rfl,?_⟩;have r:(bk.map dD).length=bk.length:=W6 ..;unfold NK at f;refine⟨rfl,rfl,_,rfl,Xm (λg=>?_) (λg=>?_)⟩
  ·have h:(100:Int)<=((bk.map dD).length:Int):=WA g;rw[WH (by lia)]at f;exact⟨by decide,by decide,by decide,by decide,by decide,by simp,f⟩
  ·have h:¬(100:Int)<=((bk.map dD).length:Int):=λz=>g (W9 z);rw[WG (by lia)]at f;exact f
def Zf8(A:X8 K (X9 K (Xz ζ) "enter") "enter" "Village.enter" D3 ["self","deed","field","wishes"])
  : RZ ζ:=by
 refine A.fz Zn7 (λC n=>(bc (sF 1<|se (Ku<|NQ Qc V3 V4 Bu (Tn (pv 0) rfl)<|az<|pv 1)<|Nv<|Df 0 0 G.Za G.Zb B9<|Xi 1)<|bc (sF 2<|se (Ku<|NQ Qc V3 V4 Bu (Tn (pv 0) rfl)<|az<|pv 2)<|Nv<|Df 0 1 G.Za G.Zd El<|Xi 2)<|bc (sF 3<|se (Ku<|NQ Qc V3 V4 Bu (Tn (pv 0) rfl)<|az<|pv 3)<|Nv<|Df 0 2 G.Za G.Ze EY<|Xi 3)<|b1<|se (Kx<|ln K G.len<|Tn (pv 0) rfl)<|BZ<|Sm<|sz<|BR 0 G.Za G.Zb B9<|Xi 0)) (.c ?_)
 ·rintro o B R X ⟨x,b1,z,y,bk,fs,g,q,f,w,rfl,rfl,J,H,E,r⟩;refine⟨rfl,?_⟩;have p:(bk.map dD).length<10000000:=by rw[W6];lia
  have l:(fs.map plD).length<10000000:=by rw[W6];lia
  have h:(g.map plD).length<10000000:=by rw[W6];lia
  refine⟨rfl,rfl,_,rfl,p,rfl,rfl,_,rfl,l,rfl,rfl,_,rfl,h,rfl,rfl,_,rfl,_,rfl,⟨rfl,by simp⟩,?_⟩;have e:(((bk.map dD++[dD q]).length:Nat):Int)=(bk.length:Int)+1:=by rw[WJ,W6];simp
  show R (.ins x _ vF [(b1,bk.map dD++[dD q]),(z,fs.map plD++[plD f]),(y,g.map plD++[plD w])]) (.int (((bk.map dD++[dD q]).length:Nat):Int));rw[e];have v:bk.map dD++[dD q]=(bk++[q]).map dD:=by rw[WS];rfl
  have u:fs.map plD++[plD f]=(fs++[f]).map plD:=by rw[WS];rfl
  have s:g.map plD++[plD w]=(g++[w]).map plD:=by rw[WS];rfl
  rw[v,u,s];exact r
def Zio(H:X8 K (X9 K (Xz ζ) "take_back") "take_back" "Village.take_back" Dx ["self"])
  : Hx ζ:=by
 refine H.fy Zp7 (λL n=>(bc (sI (tN<|tt<|xe (Tn (pv 0) rfl)<|BR 0 G.Za G.Zb B9<|Xi 0) (b1<|sQ G.Z0 G.Zz ExcR.KH<|a1 xs) b0)<|bc (se (Ku<|SL Qc VI VJ FP<|Tn (pv 0) rfl)<|Nv<|En 0 1 G.Za G.Zd El)<|bc (se (Ku<|SL Qc VI VJ FP<|Tn (pv 0) rfl)<|Nv<|En 0 2 G.Za G.Ze EY)<|b1<|se (Kx<|SL Qc VI VJ FP<|Tn (pv 0) rfl)<|Tp<|En 0 0 G.Za G.Zb B9)) (.c ?_)
 ·rintro o J R X ⟨x,b1,r,p,bk,fs,f,rfl,rfl,N,M,y,A⟩;refine⟨rfl,?_⟩;have l:(bk.map dD).isEmpty=decide (bk=[]):=by cases bk<;>simp
  refine⟨rfl,rfl,_,rfl,?_⟩;show if (!(!(bk.map dD).isEmpty))=true then _ else _;rw[Bool.not_not,l];refine Xm (λg=>⟨by simp,_,rfl,⟨rfl,by simp⟩,y (WA g)⟩) (λg=>?_);have h:bk≠[]:=λz=>g (W9 z);obtain⟨b0,q,rfl⟩:∃b0 q,bk=b0++[q]:=⟨_,_,(QV h).symm⟩;have v:(b0++[q]).length=b0.length+1:=by simp
  have f1:(fs.map plD)[(fs.map plD).length-1]?=some (plD (fs[fs.length-1]'(by lia))):=by
   rw[W6,WL,W8 (by lia)];rfl
  have s:(f.map plD)[(f.map plD).length-1]?=some (plD (f[f.length-1]'(by lia))):=by
   rw[W6,WL,W8 (by lia)];rfl
  have u:((b0++[q]).map dD)[((b0++[q]).map dD).length-1]?=some (dD q):=by
   rw[W6,WL,v,QF,Qu (WI _),Nat.sub_self];rfl
  refine⟨rfl,rfl,_,_,rfl,f1,rfl,rfl,_,_,rfl,s,rfl,rfl,_,_,rfl,u,_,rfl,⟨rfl,by simp⟩,?_⟩;have E:((b0++[q]).map dD).dropLast=b0.map dD:=by rw[WS];exact Ve
  have C:(fs.map plD).dropLast=fs.dropLast.map plD:=List.map_dropLast.symm;have B:(f.map plD).dropLast=f.dropLast.map plD:=List.map_dropLast.symm
  have:=A b0 q rfl
  rw[show vO (ExcR.Xp mg "Village") x b1 r p b0 fs.dropLast f.dropLast=.ins x (ExcR.Xp mg "Village") vF [(b1,((b0++[q]).map dD).dropLast),(r,(fs.map plD).dropLast),(p,(f.map plD).dropLast)] by rw[E,C,B]]at this;exact this
def Zee(p:Def K mg "_law_at" Et ["_law_script","_law_k"])
  : HZ ζ:=by
 refine p.fz Zqk (λr n=>(bc (sI (tc KO KL (xv 1)<|xl G.len<|xv 0) (b1<|sR<|xx (xv 0)<|xv 1) b0)<|b1<|sR xi)) (.a ?_)
 ·rintro s R X ⟨h,k,rfl,l,f⟩;refine⟨rfl,?_⟩;refine Xm (λg=>?_) (λg=>?_)
  ·have o:k<(h.length:Int):=WA g;have e:=W8 (show k.toNat<h.length by omega);rw[WC,e]at f;exact⟨_,BU l e,f⟩
  ·have o:¬k<(h.length:Int):=λz=>g (W9 z);rw[WC,Vo (by omega)]at f;exact f
def Zno(g:Def K mg "_law_whole" CN ["_law_found"])
  : MM ζ:=by
 refine g.fz Zlg (λh n=>(b1<|sR<|xe (Bc (Ks (B7 (K:=K)) (by rfl) G.Zf VU<|bz (pv 0)<|Bl (v:=.ty "int") rfl G.ZP boot_int rfl)<|SR<|R3<|Ks (B7 (K:=K)) (by rfl) G.Zf VU<|bz (pv 0)<|Bl (v:=.ty "bool") rfl G.ZS boot_bool rfl)<|B4 (BH<|tz (Xi 0) Bp)<|MU<|BH<|tz (Xi 0) Bp)) (.a ?_)
 ·rintro l R X ⟨i,rfl,f⟩;refine⟨rfl,?_⟩;exact⟨_,.same _,_,.ib,f⟩
def Zkr(g:Def K mg "_law_mix" Az ["_law_cell","_law_place_here"])
  : Lv ζ:=by
 refine g.fz Zbg (λh n=>(bc (sS 2 n<|xo X7 XA (xo T7 TC (xo X3 X4 (xo X3 X4 (xo X7 XA (xv 0) xi)<|xo T7 TC xi<|xv 1) xi) xi) xi)<|b1<|sR<|xo X7 XA (xo T7 TC (xo X3 X4 (xo X3 X4 (xv 2)<|xo T7 TC xi<|xv 1) xi) xi) xi)) (.a ?_)
 ·rintro l R X ⟨c,p,rfl,f⟩;refine⟨rfl,?_⟩;unfold mixP at f;exact⟨(by show(0:Int)<2147483647;decide),.inl ⟨by decide,by decide⟩,.inr ⟨by decide,by decide⟩,(by show(0:Int)<2147483647;decide),.inl ⟨by decide,by decide⟩,.inr ⟨by decide,by decide⟩,(by show(0:Int)<2147483647;decide),f⟩
def Zjn(z:Def K mg "_law_menu" CH ["_law_cell"])
  : Ma ζ:=by
 refine z.fz Zim (λA n=>(bc (sS 1 n<|xx (xL<|ac xi<|ac xi<|ac xi<|ac xi<|ac xi a0)<|xo X7 XA (xo Ki Kf (xv 0) xi) xi)<|bc (sS 2 n<|xx (xL<|ac xi<|ac xi<|ac xi<|ac xi<|ac xi a0)<|xo X7 XA (xo Ki Kf (xv 0) xi) xi)<|b1<|sF 2<|sF 1<|sR<|xL<|ac (xo X3 X4 xi<|xo X7 XA (xv 0) xi)<|ac (xx (xL<|ac xi<|ac xi<|ac xi<|ac xi a0)<|xo X7 XA (xo Ki Kf (xv 0) xi) xi)<|ac (xo X7 XA (xo Ki Kf (xv 0) xi) xi)<|ac (xv 1)<|ac (xv 2) a0)) (.a ?_)
 ·rintro B R X ⟨c,rfl,u⟩;refine⟨rfl,?_⟩;have p:0<=c / 10 % 4/\c / 10 % 4<4:=by lia
  have o:0<=c / 400 % 5/\c / 400 % 5<5:=by lia
  have s:∀v∈([1,3,7,9]:ZW),1<=v/\v<=9/\(v=1\/v=3\/v=7\/v=9):=by decide
  have g:∀i:Int,0<=i->i<5->∃d e:Int,atI [D.int 1000,.int 3,.int 1,.int 2,.int 3] i=some (.int d)/\atI [D.int 1,.int 1,.int 1,.int 1,.int 998] i=some (.int e)/\(1<=d/\d<=1000)/\1<=e/\e+d<=1001:=λi a b=>by
   have:i=0\/i=1\/i=2\/i=3\/i=4:=by lia
   rcases this with rfl|rfl|rfl|rfl|rfl
   ·exact⟨1000,1,rfl,rfl,by decide,by decide,by decide⟩
   ·exact⟨3,1,rfl,rfl,by decide,by decide,by decide⟩
   ·exact⟨1,1,rfl,rfl,by decide,by decide,by decide⟩
   ·exact⟨2,1,rfl,rfl,by decide,by decide,by decide⟩
   ·exact⟨3,998,rfl,rfl,by decide,by decide,by decide⟩
  obtain⟨d,e,y,x,hd,r⟩:=g _ o.1 o.2;have h:=s _ (WW (l:=([1,3,7,9]:ZW)) (n:=(c / 10 % 4).toNat)<|by show(c / 10 % 4).toNat<4;lia);refine⟨by simp,⟨by decide,by decide⟩,(by show(0:Int)<5;decide),_,y,by simp,⟨by decide,by decide⟩,(by show(0:Int)<5;decide),_,x,(by show(0:Int)<10;decide),by simp,⟨by decide,by decide⟩,(by show(0:Int)<4;decide),_,KP (f:=D.int) (xs:=[1,3,7,9]) p.1 p.2,⟨by decide,by decide⟩,(by show(0:Int)<10;decide),by simp,?_⟩;exact u [_,_,_,_,_] ⟨_,_,_,_,_,rfl,by lia,h,by lia,hd,r⟩
def Zok(h:Def K mg "_law_holder" Dp ["_law_menu_here","_law_k"])
  : Os ζ:=by
 refine h.fz Za9 (λl n=>(b1<|sR<|xo X3 X4 xi<|xo X7 XA (xo X3 X4 (xo T7 TC (xv 1)<|xx (xv 0) xi)<|xx (xv 0) xi) xi)) (.a ?_)
 ·rintro u R X ⟨m,k,rfl,g,f⟩;refine⟨rfl,?_⟩;obtain⟨a,b,c,d,e,rfl,s,r,p,hd,o⟩:=g;exact⟨_,rfl,.inr ⟨by lia,by lia⟩,_,rfl,(by show(0:Int)<10;decide),f _ (by lia) (by lia) rfl⟩
def Zns(o:Def K mg "_law_present" Ep ["_law_strips"])
  : GP ζ:=by
 refine o.fz Zd7 (λh n=>(bc (sS 1 n<|xC ["_law_strip"] [none] (jL<|xv 0) (gN 0) f0<|xx (xv 0) xi)<|b1<|sR<|xC ["_law_holder_here","_law_owners"] [none,some 1] (jI<|iR G.Zc<|a2 xi xi) (gN 0) (f1<|ti h (xv 0)<|xv 1)<|xv 0)) (.a ?_)
 ·rintro s R X ⟨f,rfl,p,l⟩;refine⟨rfl,?_⟩;refine Kk (xs:=f) (emb:=prD) (λq=>some (.int q.1)) (by lia) (λq hq=>⟨_,rfl,_,rfl,rfl⟩) ?_;rw[T1 (λq:Int×Int=>D.int q.1),show f.map (λq:Int×Int=>D.int q.1)=(f.map (·.1)).map D.int by rw[Qr];rfl];refine⟨⟨by decide,by decide,by decide,by decide⟩,Bb (n:=10) (λi=>if decide ((1:Int)+(i:Int)∈f.map (·.1))=true then some (.int (1+(i:Int)))else none) (by decide) (λi r=>?_) ?_⟩
  ·exact⟨_,.li _ _,Xm (λg=>⟨_,rfl,WH g⟩) (λg=>WG g)⟩
  rw[Px (λi:Nat=>decide ((1:Int)+(i:Int)∈f.map (·.1)))]
  have e:((List.range 10).filter λi:Nat=>decide ((1:Int)+(i:Int)∈f.map (·.1))).map (λi:Nat=>D.int (1+(i:Int)))=(Xo f).map D.int:=by
   unfold Xo;rw[Ze4,List.filter_map,Qr];rfl
  rw[e];exact l
def Za2(T:Def K mg "_law_price" EZ ["_law_strips","_law_order"])
  : LB ζ:=by
 refine T.fz Zmo (λY n=>(bc (sC 2 ["_law_strip","_law_order"] [none,some 1] n (jL<|xv 0) (gN 0) f0<|xe (N2 (K:=K) Qc QH QW (Sn (K:=K)) (pv 1)<|az<|jx K (pv 0) Xu)<|Sj (Xi 1)<|sz<|XM (Xi 0) Xr)<|bc (sS 3 n xi)<|bc (sO [4,5] WX (ir G.Zc<|a1<|xl G.len<|xv 0) (gN 4)<|b1<|sO [5] WX (ir G.Zc<|a1<|xv 4) (gN 5)<|b1<|sI (tc K6 K0 (xx (xv 2)<|xv 5)<|xx (xv 2)<|xv 4) (b1<|sS 3 n<|xo X3 X4 (xv 3)<|xo T7 TC (xx (xx (xv 0)<|xv 5) xi)<|xx (xx (xv 0)<|xv 4) xi) b0)<|b1<|sV 3)) (.a ?_)
 ·rintro ds R X ⟨h,os,rfl,C,U,u,M⟩;refine⟨rfl,?_⟩;have J:(h.map prD).length=h.length:=W6 ..;refine Kk (xs:=h) (emb:=prD) (λq=>some (.int (os.idxOf q.1:Nat))) (by lia) (λq hq=>⟨⟨_,rfl⟩,_,rfl,os,rfl,u q hq,_,rfl,rfl⟩) ?_;rw[T1 (λq:Int×Int=>D.int (os.idxOf q.1:Nat)),show h.map (λq:Int×Int=>D.int (os.idxOf q.1:Nat))=(h.map λq:Int×Int=>((os.idxOf q.1:Nat):Int)).map D.int by rw[Qr];rfl];generalize y:(h.map λq:Int×Int=>((os.idxOf q.1:Nat):Int))=s
  have A:∀(j:Nat) (r:j<h.length),atI (s.map D.int) (0+(j:Int))=some (.int (os.idxOf h[j].1:Nat)):=λj r=>by
   rw[show(0:Int)+(j:Int)=(j:Int) by lia,←y];exact P7 (f:=D.int) (Tu<|by rw[WL,W8 r];rfl)
  have B:∀(j:Nat) (r:j<h.length),atI (h.map prD) (0+(j:Int))=some (prD h[j]):=λj r=>by
   rw[show(0:Int)+(j:Int)=(j:Int) by lia];exact P7 (f:=prD) (Tu<|W8 r)
  refine⟨⟨by lia,by lia⟩,Tg (λk l=>l=[some (.bor<|.lst<|h.map prD),some (.bor<|.lst<|os.map D.int),some (.own<|s.map D.int),some (.sh<|.int<|PZ h os k),none,none]) rfl ?_ ?_⟩
  ·rintro k l L rfl
   have o:k<h.length:=by
    have:k<(((h.map prD).length:Nat):Int).toNat:=L
    lia
   have v:h.getD k (0,0)=h[k]:=by rw[WC,W8 o];rfl
   have Q:PZ h os (k+1)=PZ h os k+rsM h os h[k].1 k*h[k].2:=by simp only[PZ];rw[v]
   have E:=C h[k] (WW o);refine⟨⟨by lia,by lia⟩,Tg (λj l=>l=[some (.bor<|.lst<|h.map prD),some (.bor<|.lst<|os.map D.int),some (.own<|s.map D.int),some (.sh<|.int (PZ h os k+rsM h os h[k].1 j*h[k].2)),some (.sh<|.int (0+(k:Int))),none]) ?_ ?_ ?_⟩
   ·rw[show rsM h os h[k].1 0=0 from rfl,Int.zero_mul,Jd]
    rfl
   ·rintro j l r rfl
    have p:j<h.length:=by
     have:j<((0:Int)+(k:Int)).toNat:=r
     lia
    have x:h.getD j (0,0)=h[j]:=by rw[WC,W8 p];rfl
    have H:=C h[j] (WW p);have step:rsM h os h[k].1 (j+1)=rsM h os h[k].1 j+(if os.idxOf h[k].1<os.idxOf h[j].1 then h[j].2 else 0):=by simp only[rsM];rw[x]
    refine⟨_,A j p,_,A k o,Xm (λg=>?_) (λg=>?_)⟩
    ·have N:((os.idxOf h[k].1:Nat):Int)<((os.idxOf h[j].1:Nat):Int):=WA g;refine⟨_,B j p,_,rfl,_,B k o,_,rfl,.inl ⟨by show -(2 ^ 64)<h[j].2;lia,by show h[j].2<2 ^ 64;lia⟩,?_⟩;rw[step,WH (by lia),Int.add_mul,←Int.add_assoc];rfl
    ·have N:¬((os.idxOf h[k].1:Nat):Int)<((os.idxOf h[j].1:Nat):Int):=λz=>g (W9 z);rw[step,WG (by lia),Jd];rfl
   ·rintro l rfl;rw[show((0:Int)+(k:Int)).toNat=k by lia,←Q];rfl
  ·rintro l rfl;rw[show(((h.map prD).length:Nat):Int).toNat=h.length by lia];exact M
def Zo1(C:Def K mg "_law_kept" Du ["_law_order","_law_wishes"])
  : OB ζ:=by
 refine C.fz Zkn (λA n=>(bc (sF 1<|sO [2,3] WX (iL<|xv 1) (gT 2<|gc (gN 2)<|gc (gN 3) g0)<|b1<|sI (tp<|wa (ti A (xv 2)<|xv 0)<|wa (ti A (xv 3)<|xv 0)<|wA<|tc K6 K0 (xe (N2 (K:=K) Qc QH QW (Sn (K:=K)) (pv 0)<|az<|pv 2)<|Sj (Xi 0)<|sz<|Xi 2)<|xe (N2 (K:=K) Qc QH QW (Sn (K:=K)) (pv 0)<|az<|pv 3)<|Sj (Xi 0)<|sz<|Xi 3) (b1<|sR xb) b0)<|b1<|sR xb)) (.a ?_)
 ·rintro E R X ⟨os,o,rfl,s,r⟩;refine⟨rfl,rfl,K5 (xs:=o) (emb:=prD) (λi l=>l=[some (.bor<|.lst<|os.map D.int),some (.bor<|.lst<|o.map prD),none,none]/\∀q∈o.take i,Pg os q=false) ⟨rfl,by simp⟩ ?_ ?_⟩
  ·rintro i B l ⟨rfl,p⟩;have hq:=WW B
   have next:Pg os o[i]=false->∀q∈o.take (i+1),Pg os q=false:=λh q hq=>by
    rw[WN B,WO,WB]at hq;rcases hq with hq|hq
    ·exact p q hq
    ·rw[hq];exact h
   generalize o[i]=q at hq next ⊢;refine⟨rfl,_,.li _ _,Xm (λy=>⟨_,.li _ _,Xm (λx=>?_) (λx=>?_)⟩) (λy=>?_)⟩
   ·have g:decide (q.1∈os)=true:=y;have f:decide (q.2∈os)=true:=x;refine⟨⟨_,rfl⟩,os,rfl,WA g,⟨_,rfl⟩,os,rfl,WA f,?_⟩;refine Xm (λv=>?_) (λv=>?_)
    ·have u:=WA v;refine r ⟨q,hq,?_⟩;unfold Pg;rw[g,f,W9 (by lia)];rfl
    ·have u:¬((os.idxOf q.2:Nat):Int)<((os.idxOf q.1:Nat):Int):=λz=>v (W9 z);refine⟨rfl,next ?_⟩;unfold Pg;rw[g,f,Qq (by lia)];rfl
   ·refine XI ⟨rfl,next ?_⟩;have f:decide (q.2∈os)=false:=VC.mpr x;unfold Pg;rw[f,JK,Bool.and_false]
   ·refine XI ⟨rfl,next ?_⟩;have g:decide (q.1∈os)=false:=VC.mpr y;unfold Pg;rw[g,JK]
  ·rintro l ⟨rfl,p⟩;rw[Qp]at p;exact s p
def Zpk(H:Def K mg "_law_orders" AF ["_law_holders"])
  : IU ζ:=by
 refine H.fz Zfb (λo n=>(bc (sS 1 n<|xL<|a1<|xL a0)<|bc (sF 1<|sF 0<|sO [2,3,4] WX (iL<|xv 0) (gN 2)<|bc (sS 3 n<|xL a0)<|bc (sF 1<|sO [4] WX (iL<|xv 1) (gN 4)<|b1<|se (Ku<|NQ Qc Je Jf DP (pv 3)<|az<|cz ["_law_holder_here","_law_row_here"] [none,some 4] (Nk (K:=K)<|pv 0) ⟨(gk 0),(Sy<|Pv (LP (K:=K)<|show _<cLine from Pb (o ())) (pv 0) (pv 1)<|by with_unfolding_all rfl),(P4 Kz (pv 1)<|P6<|az<|pv 0)⟩)<|E2 3<|P5 (Nx<|Xi 0) (Kl 0) (Kr<|Bv (Xi 0)<|Xi 1)<|K4 (Xi 1)<|P3<|sz<|Xi 0)<|b1<|sF 3<|sS 1 n<|xv 3)<|b1<|sV 1)) (.a ?_)
 ·rintro L R X ⟨hs,rfl,p,s,C⟩;refine⟨rfl,?_⟩;have E:∀k,(XH hs k).length<=3628800:=λk=>WK (AJ p s k) (OD k);refine⟨by simp,by simp,?_⟩;refine⟨rfl,K5 (xs:=hs) (emb:=D.int) (λi f=>f=[some (.bor<|.lst<|hs.map D.int),some (.sh<|.lst ((XH hs i).map ilD)),none,none,none]) rfl ?_ ?_⟩
  ·rintro i J f rfl;have o:=E i;refine⟨by simp,?_⟩;refine⟨rfl,K5 (xs:=XH hs i) (emb:=ilD) (λj f=>∃t,f=[some (.bor<|.lst<|hs.map D.int),some (.sh<|.lst ((XH hs i).map ilD)),t,some (.own ((((XH hs i).take j).flatMap (nextM hs)).map ilD)),none]) ⟨_,rfl⟩ ?_ ?_⟩
   ·rintro j A f ⟨t,rfl⟩;have B:=Zng (hs:=hs) A;have z:=Cs p s ((XH hs i).take j) λr o=>rows_mem.mp (Vy o)
    have u:((XH hs i).take (j+1)).length*(10-i)<=3628800:=by
     refine WK (JC _<|WK (by rw[Qa];lia)<|AJ p s i) (OD (i+1))
    have y:((XH hs i).take (j+1)).length=j+1:=by rw[Qa];lia
    have l:((XH hs i).take j).length=j:=by rw[Qa];lia
    rw[y,Jr]at u;rw[l]at z;have x:=Znr hs (XH hs i)[j]
    have v:(XH hs i)[j].length<=10:=by
     have:=(rows_mem.mp<|WW A).1
     lia
    generalize (XH hs i)[j]=r at B x v ⊢;refine Kk (xs:=hs) (emb:=D.int) (λh=>if (!decide (h∈r))=true then some (D.lst (r.map D.int++[D.int h]))else none) (by lia) (λh _=>?_) ?_
    ·refine⟨_,.li _ _,Xm (λg=>⟨by simp,rfl,rfl,?_,_,rfl,WH g⟩) (λg=>WG g)⟩;show(r.map D.int).length+1<=100000;rw[W6];lia
    ·rw[Px (λh=>!decide (h∈r)),Ze6];refine⟨?_,t,?_⟩
     ·rw[W6,W6];lia
     ·rw[B,WS];rfl
   ·rintro f ⟨t,rfl⟩;rw[Qp];rfl
  ·rintro f rfl;exact C
def Zds(DD:Def K mg "_law_ring" DS ["_law_holders","_law_wishes"])
  : Ry ζ:=by
 refine DD.fz Znc (λhr n=>(bc (sF 5<|sC 2 ["_law_holder_here"] [none] n (jL<|xe (Ks (Bf (K:=K) (w:=w) rfl) (by rfl) G.Zi Js<|az<|pv 0)<|Bq<|sz<|Xi 0) (gN 0) f0<|xL<|a1<|xv 0)<|bc (sF 2<|sW [3,4,5] WX (te (Pv (Dg (K:=K)<|show _<cLine from(hr ()).units0) (pv 2) (P6 Ky)<|KY _)<|Kr<|BV (Xi 2)<|P3 X2)<|bc (sS 3 n<|xL a0)<|bc (sF 2<|sO [4,5] WX (iL<|xv 2) (gN 4)<|b1<|sO [5] WX (iL<|xe (Ks (Bf (K:=K) (w:=w) rfl) (by rfl) G.Zi Js<|az<|pv 0)<|Bq<|sz<|Xi 0) (gN 5)<|b1<|sI (tp<|wa (tc K6 K0 (xv 5)<|xx (xv 4) xi)<|wa (tI hr (xv 5)<|xv 4)<|wA<|ti hr (xt<|a2 (xx (xv 4)<|xe (Pi Pe Xu)<|Pf Xr)<|xv 5)<|xv 1) (b1<|sF 5<|sA 3<|xo Kz K4 (xv 4)<|xL<|a1<|xv 5) b0)<|bc (sF 3<|sO [4] WX (iL<|xv 3) (gN 4)<|b1<|sI (ti hr (xt<|a2 (xx (xv 4)<|xe (Pi Pe Xu)<|Pf Xr)<|xx (xv 4) xi)<|xv 1) (b1<|sF 4<|sV 4) b0)<|b1<|sF 3<|sS 2 n<|xv 3)<|b1<|sr<|xL a0)) (.a ?_)
 ·rintro ds R X ⟨s,v,r,rfl,J,hz,hu,hw,F,hR⟩;refine⟨rfl,s,rfl,by lia,λA B hsrt=>?_⟩;have M:A.Pairwise (· < ·):=Sh hsrt (B.nodup_iff.mpr J);have hnl:=B.length_eq;refine Kk (xs:=A) (emb:=D.int) (λh=>some (.lst [.int h])) (by lia) (λh _=>⟨by simp,_,rfl,rfl⟩) ?_;have e0:A.filterMap (λh=>some (D.lst [.int h]))=(A.map λh=>[h]).map eL:=by rw[Vl,Qr];rfl
  rw[e0]
  have L0:NH s v 0 (A.map λh=>[h]):=by
   refine⟨λw=>⟨λf=>?_,?_⟩,?_⟩
   ·obtain⟨h,Q,rfl⟩:=Qk.mp f;exact⟨h,[],rfl,B.mem_iff.mp Q,trivial,by simp,rfl⟩
   ·rintro⟨l,t,rfl,T,_,_,E⟩
    have:t=[]:=QG.mp E
    subst this;exact Qk.mpr ⟨l,B.mem_iff.mpr T,rfl⟩
   ·rw[Jj];exact M.imp λh=>.inl h
  refine SJ (λo=>∃k rows,o=[some (.bor<|.lst<|s.map D.int),some (.bor<|.lst<|v.map prD),some (.sh<|.lst<|rows.map eL),none,none,none]/\NH s v k rows/\rows.length<=fall k/\NoC s v k) Fe ⟨0,_,rfl,L0,by rw[W6];show _<=10;lia,NoC.zero hu⟩ ?_;rintro o ⟨k,rows,rfl,L,hrl,N⟩;have emp:(!(rows.map eL).isEmpty)=decide (rows≠[]):=by cases rows<;>simp
  refine⟨by simp,?_⟩;show if (!(rows.map eL).isEmpty)=true then _ else _;rw[emp];refine Xm (λg=>?_) (λg=>?_)
  ·have hne:rows≠[]:=WA g
   have hk1:k+1<=s.length:=by
    obtain⟨w,f⟩:=VT rows hne;obtain⟨l,t,rfl,T,h2,Y,E⟩:=(L.mem w).mp f
    have:=NV Y (λx hx=>by
     rcases WU.mp hx with rfl|hx
     ·exact T
     ·exact(SW h2 x hx).1)
    simp at this;lia
   have cap:rows.length*(s.length-(k+1))<=3628800:=by
    refine WK (VL hrl<|show s.length-(k+1)<=9-k by lia) ?_;exact Zeg (k+1)
   refine⟨by simp,rfl,K5 (xs:=rows) (emb:=eL) (λi o=>∃p,o=[some (.bor<|.lst<|s.map D.int),some (.bor<|.lst<|v.map prD),some (.sh<|.lst<|rows.map eL),some (.own<|p.map eL),none,none]/\GRs v rows A i 0 (s.length-(k+1)) p) ⟨[],rfl,GRs.start⟩ ?_ ?_⟩
   ·rintro i hi o ⟨p,rfl,G⟩;have f:rows[i]?=some rows[i]:=W8 hi;obtain⟨l,t,ew,T,h2,Y,E⟩:=(L.mem rows[i]).mp (WW hi);rw[ew]at f ⊢
    have hsub:∀x∈l::t,x∈A:=λx hx=>by
     rcases WU.mp hx with rfl|hx
     ·exact B.mem_iff.mpr T
     ·exact B.mem_iff.mpr (SW h2 x hx).1
    have hfl:=Zpl (B.nodup_iff.mpr J) Y hsub;have C:(A.filter<|T9<|some (l::t)).length<=s.length-(k+1):=by simp at hfl;lia
    refine⟨s,rfl,by lia,λu hp' H=>?_⟩
    have:u=A:=AZ (Sh H<|hp'.nodup_iff.mpr J) M λz=>by rw[hp'.mem_iff,B.mem_iff]
    subst this;refine⟨rfl,K5 (xs:=u) (emb:=D.int) (λj o=>∃p,o=[some (.bor<|.lst<|s.map D.int),some (.bor<|.lst<|v.map prD),some (.sh<|.lst<|rows.map eL),some (.own<|p.map eL),some (.sh<|eL (l::t)),none]/\GRs v rows u i j (s.length-(k+1)) p) ⟨p,rfl,G⟩ ?_ ?_⟩
    ·rintro j hj o ⟨p,rfl,G⟩;have Q:u[j]?=some u[j]:=W8 hj;generalize u[j]=h at Q ⊢
     have gl:p.length<=3628800:=by
      have T:=G.len
      have h2:((u.take j).filter (T9 rows[i]?)).length<=s.length-(k+1):=by
       rw[f];exact WK ((Vt j u).filter _).length_le C
      have Y:(i+1)*(s.length-(k+1))<=rows.length*(s.length-(k+1)):=JC _ hi;rw[Nat.succ_mul]at Y;lia
     refine⟨_,KD _ _,Xm (λg1=>⟨_,.li h (l::t),?_⟩) (λg1=>XI ⟨p,rfl,G.skip f Q λz=>g1 (W9 z.1)⟩)⟩;by_cases c2:h∈l::t
     ·rw[W9 c2];exact XI (XI ⟨p,rfl,G.skip f Q λz=>z.2.1 c2⟩)
     ·rw[Qq c2];refine Ka ⟨_,Ha l t,by simp,_,.lp (Xt l t,h) v,Xm (λU=>?_) (λU=>⟨p,rfl,G.skip f Q λz=>U (W9 z.2.2)⟩)⟩;refine⟨by simp,rfl,rfl,by simp;lia,by rw[W6];lia,p++[l::t++[h]],?_,G.put f Q L.srt M ⟨WA g1,c2,WA U⟩⟩;rw[WS,V9]
      have e:eL (l::t++[h])=.lst ((l::t).map D.int++[.int h]):=by
       unfold eL;rw[WS];rfl
      rw[e];rfl
    ·rintro o ⟨p,rfl,G⟩;exact⟨p,rfl,G.row f C⟩
   ·rintro o ⟨p,rfl,G⟩;have L':=G.all (λx=>B.mem_iff) L
    have hgl:p.length<=fall (k+1):=by
     have:=G.len
     rw[QK]at this;refine WK (show p.length<=rows.length*(s.length-(k+1)) by simpa using this) ?_;exact VL hrl (by lia)
    refine⟨rfl,K5 (xs:=p) (emb:=eL) (λj o=>o=[some (.bor<|.lst<|s.map D.int),some (.bor<|.lst<|v.map prD),some (.sh<|.lst<|rows.map eL),some (.sh<|.lst<|p.map eL),none,none]/\∀w∈p.take j,¬Ao v w) ⟨rfl,λw f=>by rw[QK]at f;cases f⟩ ?_ ?_⟩
    ·rintro j hj o ⟨rfl,y⟩;obtain⟨l,t,ew,T,h2,Y,E⟩:=(L'.mem p[j]).mp (WW hj);have fe:=Zom hu F L' N hj;rw[WN hj];rw[ew]at fe ⊢;refine⟨_,Ha l t,_,KD _ _,by simp,_,.lp (Xt l t,l) v,Xm (λU=>?_) (λU=>⟨rfl,λw f=>?_⟩)⟩
     ·have:=fe ⟨l,t,rfl,WA U⟩ y
      subst this;exact hR
     ·rcases WO.mp f with f|f
      ·exact y w f
      ·rw[WB.mp f];rintro⟨l',t',e',z⟩;cases e'
       exact U (W9 z)
    ·rintro o ⟨rfl,y⟩;rw[Qp]at y;refine⟨⟨k+1,p,rfl,L',hgl,NoC.next L' y N⟩,?_⟩
     have hm:Fe [some (.bor<|.lst<|s.map D.int),some (.bor<|.lst<|v.map prD),some (.sh<|.lst<|rows.map eL),none,none,none]=20-(k+1):=by
      cases rows with
      |nil=>exact absurd rfl hne
      |cons w rs=>
       obtain⟨l,t,rfl,_,_,_,E⟩:=(L.mem w).mp Qs;show 20-((l::t).map D.int).length=_;rw[W6,WV,E]
     show Fe [some (.bor<|.lst<|s.map D.int),some (.bor<|.lst<|v.map prD),some (.sh<|.lst<|p.map eL),none,none,none]<Fe [some (.bor<|.lst<|s.map D.int),some (.bor<|.lst<|v.map prD),some (.sh<|.lst<|rows.map eL),none,none,none];rw[hm];cases p with
     |nil=>show 0<_;lia
     |cons w rs=>
      obtain⟨l,t,rfl,_,_,_,E⟩:=(L'.mem w).mp Qs;show 20-((l::t).map D.int).length<_;rw[W6,WV,E];lia
  ·have hre:rows=[]:=Qd λz=>g (W9 z);subst hre
   have:=Zpi hu F L N
   subst this;exact⟨by simp,hR⟩
def Zfv(B:Def K mg "_law_ends" DY ["_law_strips","_law_order"])
  : M9 ζ:=by
 refine B.fz Zi3 (λx n=>(bc (sS 2 n<|xL a0)<|bc (sF 1<|sO [3] WX (iL<|xv 1) (gN 3)<|b1<|se (Ku<|NQ Qc Je Jf DP (pv 2)<|az<|cz ["_law_k","_law_holder_here","_law_strips"] [none,some 3,some 0] (E3 rfl G.Zc<|az<|ln K G.len<|pv 0) ⟨(gk 0),(Sy<|cq K (x ()) (jx K (jx K (pv 2)<|pv 0) Xu)<|pv 1),(P4 X3 (pv 0) Xu)⟩)<|E2 2<|P5 (SndI.c<|AY<|sz<|Sm<|sz<|Xi 0) (Kl 0) (Kr<|Tf (XM (XM (Xi 2)<|Xi 0) Xr)<|Xi 1)<|X4 (Xi 0) Xr)<|b1<|sV 2)) (.a ?_)
 ·rintro M R X ⟨h,o,rfl,u,C,z⟩;refine⟨rfl,?_⟩;have H:(h.map prD).length=h.length:=W6 ..;refine⟨by simp,rfl,K5 (xs:=o) (emb:=D.int) (λi l=>l=[some (.bor<|plD h),some (.bor<|.lst<|o.map D.int),some (.own (((o.take i).flatMap (KN h)).map D.int)),none]) rfl ?_ ?_⟩
  ·rintro i y l rfl;have L:=Zei h (o.take i);have v:(o.take i).length<=50:=by rw[Qa];lia
   have E:=VL v u;have ln:=Gc h o[i];refine⟨⟨by lia,by lia⟩,Bb (λk=>if decide ((h.getD k (0,0)).1=o[i])=true then some (.int (0+(k:Int)+1))else none) (by lia) (λk J=>?_) ?_⟩
   ·have p:k<h.length:=by lia
    have s:atI (h.map prD) (0+(k:Int))=some (prD h[k]):=by
     rw[show(0:Int)+(k:Int)=(k:Int) by lia];exact P7 (f:=prD) (Tu<|W8 p)
    have r:h.getD k (0,0)=h[k]:=by rw[WC,W8 p];rfl
    rw[r];refine⟨_,s,_,rfl,?_⟩;exact Xm (λg=>⟨_,rfl,WH g⟩) (λg=>WG g)
   rw[Px (λk:Nat=>decide ((h.getD k (0,0)).1=o[i]))]
   have em:((List.range (((h.map prD).length:Nat):Int).toNat).filter (λk:Nat=>decide ((h.getD k (0,0)).1=o[i]))).map (λk:Nat=>D.int (0+(k:Int)+1))=(KN h o[i]).map D.int:=by
    unfold KN;rw[Qr,show(((h.map prD).length:Nat):Int).toNat=h.length by lia];rfl
   rw[em];refine⟨by rw[W6,W6];lia,?_⟩
   have A:(o.take (i+1)).flatMap (KN h)=(o.take i).flatMap (KN h)++KN h o[i]:=by
    rw[WN y,JI];simp
   rw[A,WS];rfl
  ·rintro l rfl;rw[Qp];exact z
def Zik(DD:Def K mg "_law_due_moves" Dr ["_law_strips","_law_order"])
  : HG ζ:=by
 refine DD.fz Zc8 (λhr n=>(bc (sS 2 n<|xe (PR (Zpj rfl) (by rfl) G.Zh boot_list<|az<|PR Zeo (by rfl) G.Zc boot_range<|bz Xu<|P4 X3 (ln K G.len<|pv 0) Xu)<|Zkq<|tz Xr<|X4 (Sm<|sz<|Xi 0) Xr)<|bc (sS 3 n<|xL a0)<|bc (sS 4 n xi)<|bc (sW [5,6] WX (tc KO KL (xv 4)<|xo XD XF (xl G.len<|xv 2) xi)<|bc (sS 5 n<|xx (xv 2)<|xv 4)<|bc (sS 6 n<|xx (xv 2)<|xo X3 X4 (xv 4) xi)<|b1<|sI (tc K6 K0 (xe (N2 (K:=K) Qc QH QW (Sn (K:=K)) (pv 1)<|az<|jx K (jx K (pv 0)<|P4 XD (pv 5) Xu) Xu)<|Sj (Xi 1)<|sz<|XM (XM (Xi 0)<|XF (Xi 5) Xr) Xr)<|xe (N2 (K:=K) Qc QH QW (Sn (K:=K)) (pv 1)<|az<|jx K (jx K (pv 0)<|P4 XD (pv 6) Xu) Xu)<|Sj (Xi 1)<|sz<|XM (XM (Xi 0)<|XF (Xi 6) Xr) Xr) (bc (sF 6<|sF 5<|sA 3<|xt<|ac (xo X3 X4 (xv 4) xi)<|ac (xv 5)<|ac (xv 6)<|ac (xo T7 TC (xx (xx (xv 0)<|xo XD XF (xv 5) xi) xi)<|xx (xx (xv 0)<|xo XD XF (xv 6) xi) xi) a0)<|bc (sX 2 (xv 4)<|xv 6)<|bc (sX 2 (xo X3 X4 (xv 4) xi)<|xv 5)<|b1<|sS 4 n<|xe (Ks (Ey rfl) (by rfl) G.Z1 boot_max<|bz (P4 XD (pv 4) Xu) Xu)<|Eh<|tz (XF (Xi 4) Xr) Xr)<|b1<|sS 4 n<|xo X3 X4 (xv 4) xi)<|b1<|sV 3)) (.a ?_)
 ·rintro ds R X ⟨h,o,ms,rfl,hF,hz,hp,hm,hR⟩;refine⟨rfl,?_⟩;have x:=Mp hF hp;have U:=Mv.count hm;have b0:=Se (rkN h o) (XO 1 h.length)
  have nn:((h.length:Int))*h.length<=1600:=by
   have:=Int.mul_le_mul (a:=(h.length:Int)) (b:=h.length) (c:=40) (d:=40) (by lia) (by lia) (by lia) (by lia)
   lia
  rw[NY]at b0;have hl:(h.map prD).length=h.length:=W6 ..;refine⟨⟨by decide,by decide,by lia,by lia⟩,by lia,?_⟩;rw[show((((h.map prD).length:Nat):Int)+1-1).toNat=h.length by lia];refine⟨by simp,SJ (λu=>∃(ns:ZW) (s r:List Mo) (k:Nat),ms=s++r/\Mv h (rkN h o) ns r/\ns.Perm (XO 1 h.length)/\(k=0\/k<ns.length)/\(∀q,1<=q->q<1+k->(ns.map<|rkN h o).getD (q-1) 0<=(ns.map<|rkN h o).getD q 0)/\u=[some (.bor<|plD h),some (.bor<|.lst<|o.map D.int),some (.own<|ns.map D.int),some (.own<|s.map mvD),some (.sh<|.int k),none,none]) (O9<|rkN h o) ⟨_,[],ms,0,rfl,hm,.refl _,.inl rfl,λq J H=>by lia,rfl⟩ ?_⟩;rintro u ⟨ns,s,r,k,rfl,A,C,hk,B,rfl⟩;have ln:(ns.map D.int).length=ns.length:=W6 ..;have hlen:ns.length=h.length:=by rw[C.length_eq,NY]
  have cM:=Mv.count A;refine Xm (λg=>?_) (λg=>?_)
  ·have g':(k:Int)<(((ns.map D.int).length:Nat):Int)-1:=WA g;have l:k+1<ns.length:=by lia
   have ix:∀(i:Nat) (z:Int),i<ns.length->z=(i:Int)->atI (ns.map D.int) z=some (.int<|ns.getD i 0):=λi z E e=>by
    rw[e];exact P7 (f:=D.int) (Tu<|by rw[WC,W8 E];rfl)
   have mem:∀i,i<ns.length->1<=ns.getD i 0/\ns.getD i 0<=h.length:=λi E=>by
    rw[WC,W8 E];exact runI_mem.mp (C.mem_iff.mp<|WW E)
   have Y:∀m:Int,1<=m->m<=h.length->atI (h.map prD) (m-1)=some (prD (h.getD (m-1).toNat (0,0))):=λm J H=>by
    rw[WC,W8 (show(m-1).toNat<h.length by lia)];exact KP (by lia) (by lia)
   have M:∀m:Int,1<=m->m<=h.length->h.getD (m-1).toNat (0,0)∈h:=λm J H=>by
    rw[WC,W8 (show(m-1).toNat<h.length by lia)];exact WW _
   obtain⟨Q,N⟩:=mem k (by lia);obtain⟨r1,r2⟩:=mem (k+1) l;have sl:=Y _ Q N;have sr:=Y _ r1 r2;have wl:=hF _ (M _ Q N);have al:=x _ (M _ Q N);have ar:=x _ (M _ r1 r2);have k1:(ns.map<|rkN h o).getD k 0=rkN h o (ns.getD k 0):=KZ (by lia);have k2:(ns.map<|rkN h o).getD (k+1) 0=rkN h o (ns.getD (k+1) 0):=KZ l
   have d0:O9 (rkN h o) [some (.bor<|plD h),some (.bor<|.lst<|o.map D.int),some (.own<|ns.map D.int),some (.own<|s.map mvD),some (.sh<|.int k),none,none]=2*r.length+(ns.length-k):=by
    show 2*(K9 _ ((ns.map D.int).map toI)).toNat+((ns.map D.int).length-(k:Int).toNat)=_;rw[Sq,←cM,ln];lia
   refine⟨_,ix k _ (by lia) rfl,_,ix (k+1) _ l (by lia),?_⟩;refine⟨⟨_,rfl⟩,_,sl,_,KD _ _,o,rfl,al,⟨_,rfl⟩,_,sr,_,KD _ _,o,rfl,ar,Xm (λc=>?_) (λc=>?_)⟩
   ·have c':rkN h o (ns.getD (k+1) 0)<rkN h o (ns.getD k 0):=WA c;have F:FW (ns.map<|rkN h o) (k+1):=⟨λq J H=>B q J (by rw[WG (by lia)]at H;lia),.inr ⟨by lia,by rw[W6];exact l,by rw[QF,k1,k2];exact c'⟩⟩;cases r with
    |nil=>
     cases A with
     |done _ z=>exact absurd (F.uniq z) (by lia)
    |cons mo r=>
     obtain⟨p,rfl,hf,T,v,p2,p3,y⟩:=A.step_of;obtain rfl:=F.uniq hf;rw[QF];rw[WJ,WV]at U;refine⟨_,sl,_,Al _ _ (.inr rfl),_,sr,_,Al _ _ (.inr rfl),.inl ⟨by lia,by lia⟩,by simp,by rw[W6];lia,?_⟩;have n2:=(ET v p2).trans C;have ls:=MJ (ns:=ns) v p2
     have es:((ns.map D.int).set k (.int<|ns.getD (k+1) 0)).set (k+1) (.int<|ns.getD k 0)=(Kh ns (k+1)).map D.int:=by
      rw[←Zam v p2,←List.map_set,←List.map_set];congr 2
      ·congr 1;rw[WC,W8 l];rfl
      ·rw[WC,W8 (by lia)];rfl
     refine⟨k,_,G9 (by lia),rfl,k+1,_,?_,rfl,?_⟩
     ·rw[Q9];exact G9 (by lia)
     ·rw[es];have ez:(if (0:Int)>(k:Int)-1 then(0:Int)else(k:Int)-1)=((k-1:Nat):Int):=by split<;>lia
      refine⟨⟨Kh ns (k+1),s++[(((k+1:Nat):Int),ns.getD k 0,ns.getD (k+1) 0,exM h ns (k+1))],r,k-1,by simp,y,n2,by lia,λq L q2=>?_,?_⟩,?_⟩
      ·have:=B q L (by lia)
       rw[KZ (by lia),KZ (by lia)]at this ⊢;rw[MT (by lia),MT (by lia)];exact this
      ·rw[WS,←ez];rfl
      ·rw[d0]
       have:=Mv.count y
       show 2*(K9 _ (((Kh ns (k+1)).map D.int).map toI)).toNat+(((Kh ns (k+1)).map D.int).length-(if (0:Int)>(k:Int)-1 then(0:Int)else(k:Int)-1).toNat)<_;rw[ez,Sq,←this,W6,ls,WV];lia
   ·have c':¬rkN h o (ns.getD (k+1) 0)<rkN h o (ns.getD k 0):=λz=>c (W9 z);refine⟨⟨ns,s,r,k+1,rfl,A,C,.inr l,λq L q2=>?_,rfl⟩,?_⟩
    ·by_cases e:q<1+k
     ·exact B q L e
     ·have:q=k+1:=by lia
      subst this;rw[QF,k1,k2];lia
    ·rw[d0];show 2*(K9 _ ((ns.map D.int).map toI)).toNat+((ns.map D.int).length-((k:Int)+1).toNat)<_;rw[Sq,←cM,ln];lia
  ·have g':¬(k:Int)<(((ns.map D.int).length:Nat):Int)-1:=λz=>g (W9 z);cases r with
   |nil=>rw[Qv]at hR;exact hR
   |cons mo r=>
    obtain⟨p,_,hf,T,v,p2,p3,_⟩:=A.step_of
    have:=B p v (by lia)
    rw[KZ p2,KZ (by lia)]at this;lia
def Zgx(M:Def K mg "_law_field_step" ED ["_law_strips","_law_deed_here"])
  : Rj ζ:=by
 refine M.fz Zdq (λA n=>(bc (sS 2 n<|xx (xv 1) xi)<|bc (sI (tp<|wo (tc KO KL (xv 2) xi)<|wO<|tc K6 K0 (xv 2)<|xo XD XF (xl G.len<|xv 0)<|xe (PR Ze9 (by rfl) G.ZP boot_int<|az<|Ny (Bh (K:=K)<|show _<cLine from(A ()).units0) (jx K (pv 1) Xu) NN<|KY _)<|Zk3<|sz<|Tf (XM (Xi 1) Xr) N4) (b1<|sF 0<|sR<|xL<|a2 xi<|xv 0) b0)<|bc (sS 3 n<|xx (xx (xv 0)<|xo XD XF (xv 2) xi) xi)<|bc (sS 4 n<|xx (xx (xv 0)<|xo XD XF (xv 2) xi) xi)<|bc (sI (tq A (xx (xv 1) xi) xs) (bc (sI (tp<|wo (tc KO KL (xx (xv 1) xi) xi)<|wO<|tc K6 K0 (xx (xv 1) xi) xi) (b1<|sF 0<|sR<|xL<|a2 xi<|xv 0) b0)<|bc (sI (tq A (xx (xv 1) xi)<|xv 3) (b1<|sF 0<|sR<|xL<|a2 xi<|xv 0) b0)<|b1<|sR<|xL<|a2 xi<|xo Kz K4 (xo Kz K4 (xp (xv 0) o0<|o1<|xo XD XF (xv 2) xi)<|xL<|a1<|xt<|a2 (xx (xv 1) xi)<|xv 4)<|xp (xv 0) (o1<|xv 2) o0) b0)<|bc (sI (tq A (xx (xv 1) xi) xs) (bc (sI (tp<|wo (tc KO KL (xx (xv 1) xi) xi)<|wO<|tc Su SB (xx (xv 1) xi)<|xv 4) (b1<|sF 0<|sR<|xL<|a2 xi<|xv 0) b0)<|bc (sI (tq A (xl G.len<|xv 0) xi) (b1<|sF 0<|sR<|xL<|a2 xi<|xv 0) b0)<|bc (sS 5 n<|xL<|a2 (xt<|a2 (xv 3)<|xx (xv 1) xi)<|xt<|a2 (xv 3)<|xo XD XF (xv 4)<|xx (xv 1) xi)<|b1<|sR<|xL<|a2 xi<|xo Kz K4 (xo Kz K4 (xp (xv 0) o0<|o1<|xo XD XF (xv 2) xi)<|xv 5)<|xp (xv 0) (o1<|xv 2) o0) b0)<|bc (sI (tn A (xx (xx (xv 0)<|xv 2) xi)<|xv 3) (b1<|sF 0<|sR<|xL<|a2 xi<|xv 0) b0)<|bc (sI (tc K6 K0 (xo X3 X4 (xv 4)<|xx (xx (xv 0)<|xv 2) xi) xi) (b1<|sF 0<|sR<|xL<|a2 xi<|xv 0) b0)<|b1<|sR<|xL<|a2 xi<|xo Kz K4 (xo Kz K4 (xp (xv 0) o0<|o1<|xo XD XF (xv 2) xi)<|xL<|a1<|xt<|a2 (xv 3)<|xo X3 X4 (xv 4)<|xx (xx (xv 0)<|xv 2) xi)<|xp (xv 0) (o1<|xo X3 X4 (xv 2) xi) o0)) (.b ?_)
 ·rintro T R X ⟨f,x,rfl,hx,N,l⟩;refine⟨rfl,?_⟩;have Q:(f.map prD).length=f.length:=W6 ..;have y:∀p:Int,(cutD (f.map prD) none<|some (p-1)).length<=1000:=λp=>by have:=(Tt (f.map prD) none<|some (p-1)).length_le;rw[W6]at this;lia
  have C:∀p:Int,(cutD (f.map prD) (some p) none).length<=1000:=λp=>by have:=(Tt (f.map prD) (some p) none).length_le;rw[W6]at this;lia
  cases x with
  |wish a b=>cases hx
  |drop a b=>cases hx
  |sell p h=>
   have l:R (.own [.int (codeN<|KU f p h),plD (if KU f p h=none then TK f p h else f)]):=l
   have no:∀c:Str,KU f p h=some c->R (.own [.int (codeN<|some c),plD f]):=λc e=>by
    rw[e,WG (by intro z;cases z)]at l;exact l
   unfold KU at no l
   have one:(p<1\/(f.length:Int)<p)->R (.own [.int 1,plD f]):=λz=>by
    rw[←Dl];exact no _ (WH z)
   refine⟨_,rfl,Xm (λg=>Ka ?_) (λg=>⟨_,rfl,Xm (λu=>?_) (λu=>?_)⟩)⟩
   ·exact⟨by simp,one (.inl<|WA g)⟩
   ·have o:(((f.map prD).length:Nat):Int)-0<p:=WA u;exact⟨by simp,one (.inr<|by lia)⟩
   ·have H:¬p<1:=λz=>g (W9 z);have E:¬(((f.map prD).length:Nat):Int)-0<p:=λz=>u (W9 z);rw[WG (by lia)]at no l;have a1:=T5 (ps:=f) (p:=p) (by lia) (by lia);refine⟨_,a1,_,rfl,_,a1,_,rfl,_,rfl,?_⟩;refine⟨_,rfl,Xm (λr=>Ka ?_) (λr=>⟨_,rfl,Xm (λs=>?_) (λs=>?_)⟩)⟩
    ·have o:h<1:=WA r
     have:=no _ (WH<|by lia)
     rw[FE]at this;exact⟨by simp,this⟩
    ·have o:10<h:=WA s
     have:=no _ (WH<|by lia)
     rw[FE]at this;exact⟨by simp,this⟩
    ·have L:¬h<1:=λz=>r (W9 z);have J:¬10<h:=λz=>s (W9 z);rw[WG (VE.mpr ⟨by lia,by lia⟩)]at no l;refine⟨_,rfl,Xm (λv=>?_) (λv=>?_)⟩
     ·have o:h=(Xw f p).1:=WA v
      have:=no _ (WH o.symm)
      rw[M0]at this;exact⟨by simp,this⟩
     ·have o:¬h=(Xw f p).1:=λz=>v (W9 z);rw[WG (λz=>o z.symm),WH rfl]at l;have e:=R8 (ps:=f) (p:=p) (x:=(h,(Xw f p).2)) (by lia) (by lia);refine⟨rfl,_,rfl,by simp,by simp,rfl,rfl,WK (Qm (y p)<|WI 1) (by decide),rfl,rfl,rfl,WK (Qm (by rw[WJ];exact Qm (y p) (WI 1))<|C p) (by decide),by simp,?_⟩;have B:plD (TK f p h)=.lst (cutD (f.map prD) none (some (p-1))++[prD (h,(Xw f p).2)]++cutD (f.map prD) (some p) none):=Q2 D.lst e.symm;rw[B]at l;exact l
  |part p w=>
   have l:R (.own [.int (codeN<|Kp f p w),plD (if Kp f p w=none then PK f p w else f)]):=l
   have no:∀c:Str,Kp f p w=some c->R (.own [.int (codeN<|some c),plD f]):=λc e=>by
    rw[e,WG (by intro z;cases z)]at l;exact l
   unfold Kp at no l
   have one:(p<1\/(f.length:Int)<p)->R (.own [.int 1,plD f]):=λz=>by
    rw[←Dl];exact no _ (WH z)
   refine⟨_,rfl,Xm (λg=>Ka ?_) (λg=>⟨_,rfl,Xm (λu=>?_) (λu=>?_)⟩)⟩
   ·exact⟨by simp,one (.inl<|WA g)⟩
   ·have o:(((f.map prD).length:Nat):Int)-0<p:=WA u;exact⟨by simp,one (.inr<|by lia)⟩
   ·have H:¬p<1:=λz=>g (W9 z);have E:¬(((f.map prD).length:Nat):Int)-0<p:=λz=>u (W9 z);rw[WG (by lia)]at no l;have a1:=T5 (ps:=f) (p:=p) (by lia) (by lia);refine⟨_,a1,_,rfl,_,a1,_,rfl,_,rfl,_,rfl,?_⟩;refine⟨_,rfl,Xm (λr=>Ka ?_) (λr=>⟨_,rfl,Xm (λs=>?_) (λs=>?_)⟩)⟩
    ·have:=no _ (WH<|.inl<|WA r)
     rw[E9]at this;exact⟨by simp,this⟩
    ·have:=no _ (WH<|.inr<|WA s)
     rw[E9]at this;exact⟨by simp,this⟩
    ·have L:¬w<1:=λz=>r (W9 z);have J:¬(Xw f p).2<=w:=λz=>s (W9 z);rw[WG (by lia)]at no l;refine Xm (λv=>?_) (λv=>?_)
     ·have o:(((f.map prD).length:Nat):Int)=40:=WA v
      have:=no _ (WH<|by lia)
      rw[Hy]at this;exact⟨by simp,this⟩
     ·have o:¬(((f.map prD).length:Nat):Int)=40:=λz=>v (W9 z);rw[WG (by lia),WH rfl]at l;refine⟨_,rfl,by simp,_,rfl,by simp,by simp,?_⟩;refine⟨rfl,rfl,rfl,WK (Qm (y p)<|WI 2) (by decide),rfl,rfl,rfl,WK (Qm (by rw[WJ];exact Qm (y p) (WI 2))<|C p) (by decide),by simp,?_⟩;have B:plD (PK f p w)=.lst (cutD (f.map prD) none (some (p-1))++[prD ((Xw f p).1,w),prD ((Xw f p).1,(Xw f p).2-w)]++cutD (f.map prD) (some p) none):=Q2 D.lst (Rx<|by lia).symm;rw[B]at l;exact l
  |unite p=>
   have l:R (.own [.int (codeN<|XX f p),plD (if XX f p=none then PP f p else f)]):=l
   have no:∀c:Str,XX f p=some c->R (.own [.int (codeN<|some c),plD f]):=λc e=>by
    rw[e,WG (by intro z;cases z)]at l;exact l
   unfold XX at no l
   have one:(p<1\/(f.length:Int)<=p)->R (.own [.int 1,plD f]):=λz=>by
    rw[←Dl];exact no _ (WH z)
   refine⟨_,rfl,Xm (λg=>Ka ?_) (λg=>⟨_,rfl,Xm (λu=>?_) (λu=>?_)⟩)⟩
   ·exact⟨by simp,one (.inl<|WA g)⟩
   ·have o:(((f.map prD).length:Nat):Int)-1<p:=WA u;exact⟨by simp,one (.inr<|by lia)⟩
   ·have H:¬p<1:=λz=>g (W9 z);have E:¬(((f.map prD).length:Nat):Int)-1<p:=λz=>u (W9 z);rw[WG (by lia)]at no l;have a1:=T5 (ps:=f) (p:=p) (by lia) (by lia);have a2:=Zb3 (ps:=f) (p:=p) (by lia) (by lia);refine⟨_,a1,_,rfl,_,a1,_,rfl,_,rfl,_,rfl,?_⟩;refine⟨_,a2,_,rfl,Xm (λr=>?_) (λr=>?_)⟩
    ·have o:¬(Xw f (p+1)).1=(Xw f p).1:=λz=>by rw[W9 z]at r;cases r
     have:=no _ (WH (λz=>o z.symm))
     rw[RB]at this;exact⟨by simp,this⟩
    ·have o:(Xw f (p+1)).1=(Xw f p).1:=Qd λz=>r (by rw[Qq z];rfl);rw[WG (VE.mpr o.symm)]at no l;refine⟨_,a2,_,rfl,Xm (λs=>?_) (λs=>?_)⟩
     ·have:=no _ (WH<|WA s)
      rw[Ht]at this;exact⟨by simp,this⟩
     ·rw[WG (λz=>s (W9 z)),WH rfl]at l;refine⟨rfl,_,a2,_,rfl,by simp,by simp,rfl,rfl,WK (Qm (y p)<|WI 1) (by decide),rfl,rfl,rfl,WK (Qm (by rw[WJ];exact Qm (y p) (WI 1))<|C (p+1)) (by decide),by simp,?_⟩;have B:plD (PP f p)=.lst (cutD (f.map prD) none (some (p-1))++[prD ((Xw f p).1,(Xw f p).2+(Xw f (p+1)).2)]++cutD (f.map prD) (some (p+1)) none):=Q2 D.lst (IF<|by lia).symm;rw[B]at l;exact l
def Zd3(Q:Def K mg "_law_wish_step" AO ["_law_wishes","_law_deed_here"])
  : GX ζ:=by
 refine Q.fz Zfw (λo n=>(bc (sS 2 n<|xt<|a2 (xx (xv 1) xi)<|xx (xv 1) xi)<|bc (sI (tq o (xx (xv 1) xi) xs) (bc (sI (tI o (xv 2)<|xv 0) (b1<|sF 0<|sR<|xL<|a2 xi<|xv 0) b0)<|b1<|sR<|xL<|a2 xi<|xC ["_law_one","_law_pair_here"] [none,some 2] (jL<|xv 0) (gN 0) (f1<|te (Pv (Mc (K:=K)<|show _<cLine from(o ()).units0) (pv 0) (pv 1)<|KY _)<|Kr<|Rv (Xi 0)<|Xi 1)<|xv 0) b0)<|bc (sI (tp<|wo (tc KO KL (xe (Ks (Zhp (K:=K) rfl) (by rfl) G.ZQ boot_min<|az<|pv 2)<|Zkk<|sz<|Xi 2) xi)<|wO<|tc K6 K0 (xe (Ks (Zbd (K:=K) rfl) (by rfl) G.Z1 boot_max<|az<|pv 2)<|Zit<|sz<|Xi 2) xi) (b1<|sF 0<|sR<|xL<|a2 xi<|xv 0) b0)<|bc (sI (tq o (xx (xv 1) xi)<|xx (xv 1) xi) (b1<|sF 0<|sR<|xL<|a2 xi<|xv 0) b0)<|bc (sI (ti o (xv 2)<|xv 0) (b1<|sF 0<|sR<|xL<|a2 xi<|xv 0) b0)<|bc (sI (tq o (xl G.len<|xv 0) xi) (b1<|sF 0<|sR<|xL<|a2 xi<|xv 0) b0)<|b1<|sF 2<|sR<|xL<|a2 xi<|xo Kz K4 (xv 0)<|xL<|a1<|xv 2)) (.b ?_)
 ·rintro ds R X ⟨w,x,rfl,hx,hz,f⟩;refine⟨rfl,?_⟩;have L:(w.map prD).length=w.length:=W6 ..;cases x with
  |sell p h=>cases hx
  |part p h=>cases hx
  |unite p=>cases hx
  |drop a b=>
   refine⟨_,rfl,_,rfl,by simp,_,rfl,?_⟩;show ∃c,InR (prD (a,b)) (plD w) c/\_;have f:R (.own [.int (codeN<|Ko w a b),plD (if Ko w a b=none then S8 w a b else w)]):=f;refine⟨_,.lp (a,b) w,Xm (λg=>?_) (λg=>?_)⟩
   ·have l:¬(a,b)∈w:=λz=>by rw[WH rfl,W9 z]at g;cases g
    have e:Ko w a b=some ("NoWish" : Str):=WG l;rw[e,Hl,WG (by intro z;cases z)]at f;exact⟨by simp,f⟩
   ·have l:(a,b)∈w:=Qd λz=>g (by rw[WH rfl,Qq z];rfl);have e:Ko w a b=none:=WH l;rw[e,WH rfl]at f;refine Kk (xs:=w) (emb:=prD) (λq=>if (!decide (q=(a,b)))=true then some (prD q)else none) (by omega) (λq hq=>?_) ?_
    ·refine⟨[q.1,q.2],[a,b],rfl,rfl,?_⟩;have e:decide ([q.1,q.2]=[a,b])=decide (q=(a,b)):=Zja q (a,b);show if (!decide ([q.1,q.2]=[a,b]))=true then _ else _;rw[e];exact Xm (λh=>⟨_,rfl,WH h⟩) (λh=>WG h)
    ·rw[Px (λq:Int×Int=>!decide (q=(a,b)))];exact⟨by simp,f⟩
  |wish a b=>
   refine⟨_,rfl,_,rfl,by simp,_,rfl,?_⟩;have f:R (.own [.int (codeN<|Ke w a b),plD (if Ke w a b=none then w++[(a,b)]else w)]):=f
   have no:∀c:Str,Ke w a b=some c->R (.own [.int (codeN<|some c),plD w]):=λc e=>by
    rw[e,WG (by intro z;cases z)]at f;exact f
   have s:¬((1<=a/\a<=10)/\(1<=b/\b<=10))->R (.own [.int 2,plD w]):=λz=>by
    rw[←FE];refine no _ ?_;unfold Ke;by_cases r:1<=a/\a<=10
    ·rw[WG (VE.mpr r),WH (λy=>z ⟨r,y⟩)]
    ·rw[WH r]
   have J:∀x y:Int,(if y<x then y else x)<=x/\(if y<x then y else x)<=y/\((if y<x then y else x)=x\/(if y<x then y else x)=y):=λx y=>by split<;>omega
   have H:∀x y:Int,x<=(if y>x then y else x)/\y<=(if y>x then y else x)/\((if y>x then y else x)=x\/(if y>x then y else x)=y):=λx y=>by split<;>omega
   have m1:=J a b;have Y:=H a b;refine Xm (λg=>Ka ?_) (λg=>Xm (λB=>?_) (λB=>?_))
   ·have l:(if b<a then b else a)<1:=WA g;exact⟨by simp,s (by omega)⟩
   ·have l:10<(if b>a then b else a):=WA B;exact⟨by simp,s (by omega)⟩
   ·have U:¬(if b<a then b else a)<1:=λz=>g (W9 z);have T:¬10<(if b>a then b else a):=λz=>B (W9 z);have r:1<=a/\a<=10:=by omega
    have N:1<=b/\b<=10:=by omega
    unfold Ke at no f;rw[WG (VE.mpr r),WG (VE.mpr N)]at no f;refine⟨_,rfl,_,rfl,Xm (λA=>?_) (λA=>?_)⟩
    ·have:=no _ (WH<|WA A)
     rw[Lw]at this;exact⟨by simp,this⟩
    ·have E:¬a=b:=λz=>A (W9 z);rw[WG E]at no f;show ∃c,InR (prD (a,b)) (plD w) c/\_;refine⟨_,.lp (a,b) w,Xm (λv=>?_) (λv=>?_)⟩
     ·have:=no _ (WH<|WA v)
      rw[GS]at this;exact⟨by simp,this⟩
     ·have C:¬(a,b)∈w:=λz=>v (W9 z);rw[WG C]at no f;refine Xm (λu=>?_) (λu=>?_)
      ·have l:(((w.map prD).length:Nat):Int)=20:=WA u
       have:=no _ (WH<|by omega)
       rw[MS]at this;exact⟨by simp,this⟩
      ·have l:¬(((w.map prD).length:Nat):Int)=20:=λz=>u (W9 z);rw[WG (by omega),WH rfl]at f;refine⟨by simp,rfl,rfl,WK (Qm (Vc L)<|WI 1) (by omega),by simp,?_⟩;have M:plD (w++[(a,b)])=.lst (w.map prD++[prD (a,b)]):=Q2 D.lst WS;rw[M]at f;exact f
def Zcb(p:Def K mg "_law_odd" D9 ["_law_cell","_law_good"])
  : ID ζ:=by
 refine p.fz Zi5 (λo n=>(bc (sI (tq o (xo X7 XA (xv 0) xi) xi) (b1<|sR<|xx (xL<|ac xi<|ac xi<|ac (xe (Pi Pe Xu)<|Pf Xr)<|ac (xo EO CZ xi xi) a0)<|xo X7 XA (xo Ki Kf (xv 0) xi) xi) b0)<|b1<|sV 1)) (.a ?_)
 ·rintro r R X ⟨c,g,rfl,h⟩;refine⟨rfl,?_⟩;have l:0<=c / 7 % 4/\c / 7 % 4<4:=by lia
  refine⟨(by show(0:Int)<7;decide),Xm (λ_=>?_) (λ_=>h _)⟩;exact⟨⟨by decide,by decide,by decide⟩,by simp,⟨by decide,by decide⟩,(by show(0:Int)<4;decide),_,KP (f:=D.int) (xs:=[0,11,-3,10 ^ (30:Int).toNat]) l.1 l.2,h _⟩
def Zeh(u:Def K mg "_law_place" E6 ["_law_cell","_law_strips"])
  : Hu ζ:=by
 refine u.fz Zj9 (λp n=>(bc (sI (tq p (xo X7 XA (xv 0) xi) xi) (b1<|sR<|xx (xL<|ac xi<|ac (xe (Pi Pe Xu)<|Pf Xr)<|ac (xo X3 X4 (xl G.len<|xv 1) xi)<|ac (xo EO CZ xi xi) a0)<|xo X7 XA (xo Ki Kf (xv 0) xi) xi) b0)<|bc (sI (te (Pv (MK (K:=K)<|show _<cLine from(p ()).units0) (pv 1) (P6 Ky)<|KY _)<|Kr<|BV (Xi 1)<|P3 X2) (b1<|sR xi) b0)<|b1<|sR<|xo X3 X4 xi<|xo X7 XA (xo Ki Kf (xv 0) xi)<|xl G.len<|xv 1)) (.a ?_)
 ·rintro y R X ⟨c,h,rfl,v,l⟩;refine⟨rfl,?_⟩;have r:0<=c / 11 % 4/\c / 11 % 4<4:=by lia
  have x:(h.map prD).length=h.length:=W6 ..;refine⟨(by show(0:Int)<11;decide),Xm (λ_=>?_) (λ_=>?_)⟩
  ·exact⟨⟨by decide,by decide,by decide⟩,by simp,⟨by decide,by decide⟩,(by show(0:Int)<4;decide),_,KP (f:=D.int) (xs:=[0,-1,(((h.map prD).length:Nat):Int)+1,10 ^ (30:Int).toNat]) r.1 r.2,l _⟩
  ·refine⟨by simp,?_⟩;have o:(h.map prD).isEmpty=decide (h=[]):=by cases h<;>simp
   show if (h.map prD).isEmpty=true then _ else _;rw[o];refine Xm (λ_=>l _) (λg=>?_);have s:0<h.length:=V5.mpr λz=>g (W9 z);exact⟨⟨by decide,by decide⟩,(by show 0<(((h.map prD).length:Nat):Int);lia),l _⟩
def Zor(A:Def K mg "_law_width" AQ ["_law_cell","_law_strips","_law_place_here"])
  : My ζ:=by
 refine A.fz Za0 (λu n=>(bc (sI (tp<|wo (tc KO KL (xv 2) xi)<|wo (tc K6 K0 (xv 2)<|xl G.len<|xv 1)<|wO<|tq u (xo X7 XA (xv 0) xi) xi) (b1<|sR<|xx (xL<|ac xi<|ac (xe (Pi Pe Xu)<|Pf Xr)<|ac xi<|ac xi<|ac xi<|ac xi<|ac (xo EO CZ xi xi) a0)<|xo X7 XA (xo Ki Kf (xv 0) xi) xi) b0)<|b1<|sR<|xo X7 XA (xo Ki Kf (xv 0) xi)<|xo X3 X4 (xx (xx (xv 1)<|xo XD XF (xv 2) xi) xi) xi)) (.a ?_)
 ·rintro L R X ⟨c,ps,p,rfl,E,x,h⟩;refine⟨rfl,?_⟩;have J:(ps.map prD).length=ps.length:=W6 ..;have r:0<=c / 5 % 7/\c / 5 % 7<7:=by lia
  have l:∃v:Int,atI ([0,-1,1,1000,1001,999,10 ^ (30:Int).toNat].map D.int) (c / 5 % 7)=some (.int v):=⟨_,KP (f:=D.int) (xs:=[0,-1,1,1000,1001,999,10 ^ (30:Int).toNat]) r.1 r.2⟩;obtain⟨v,o⟩:=l;refine Xm (λg=>Ka ?_) (λg=>Xm (λs=>Ka ?_) (λs=>⟨(by show(0:Int)<5;decide),Xm (λy=>?_) (λy=>?_)⟩))
  ·exact⟨⟨by decide,by decide,by decide⟩,by simp,⟨by decide,by decide⟩,(by show(0:Int)<7;decide),_,o,h _⟩
  ·exact⟨⟨by decide,by decide,by decide⟩,by simp,⟨by decide,by decide⟩,(by show(0:Int)<7;decide),_,o,h _⟩
  ·exact⟨⟨by decide,by decide,by decide⟩,by simp,⟨by decide,by decide⟩,(by show(0:Int)<7;decide),_,o,h _⟩
  ·have C:¬p<1:=λz=>g (W9 z);have B:¬(((ps.map prD).length:Nat):Int)<p:=λz=>s (W9 z);have H:=x _ (FG (ps:=ps) (p:=p) (by lia)<|by lia);exact⟨⟨by decide,by decide⟩,_,T5 (by lia) (by lia),_,rfl,(by show 0<(Xw ps p).2+1;lia),h _⟩
def Ziu(y:Def K mg "check_strips" DH ["strips"])
  : RK ζ:=by
 refine y.fy Zrl (λs n=>(bc (sI (tc K6 K0 (xl G.len<|xv 0)<|xe (ExcR.Pp G.Zl) Xr) (b1<|sQ G.Zk G.Zj ExcR.KH<|a1<|xe (ExcR.N5<|ExcR.PN<|ExcR.Nw (ExcR.Pp G.Zl)<|ExcR.PN ExcR.NF)<|NI<|PJ<|Nz Xr<|PJ N6) b0)<|b1<|sF 0<|sO [1,2] ExcR.Ax (iL<|xv 0) (gT 2<|gc (gN 1)<|gc (gN 2) g0)<|bc (sE<|xg Yr s ExcR.XG<|a1<|xv 1)<|b1<|sE<|xg YD s ExcR.XG<|a1<|xv 2)) (.a ?_)
 ·rintro C R X ⟨f,rfl,A,l⟩;refine⟨rfl,?_⟩;have B:(f.map prD).length=f.length:=W6 ..;unfold Sg at l;refine Xm (λg=>?_) (λg=>?_)
  ·have v:(40:Int)<((f.map prD).length:Int):=WA g;rw[WH (by lia)]at l;exact⟨by decide,by decide,by decide,by decide,by decide,by simp,l⟩
  ·have v:¬(40:Int)<((f.map prD).length:Int):=λz=>g (W9 z);rw[WG (by lia)]at l;refine⟨rfl,K5 (xs:=f) (emb:=prD) (λi o=>o=[some (.bor<|plD f),none,none]/\Nb (f.drop i)=Nb f) ⟨rfl,rfl⟩ ?_ ?_⟩
   ·rintro i u o ⟨rfl,h⟩;have x:f.drop i=f[i]::f.drop (i+1):=Q1 u;rw[x,Zn5]at h;generalize f[i]=p at h ⊢;refine⟨rfl,p.1,rfl,?_⟩;unfold Sv;by_cases c:1<=p.1/\p.1<=10
    ·rw[WG (λz=>z c)]at h;rw[WH c];refine⟨p.2,rfl,?_⟩;unfold DG;by_cases r:1<=p.2/\p.2<=1000
     ·rw[WG (λz=>z r)]at h;rw[WH r];exact⟨rfl,h⟩
     ·rw[WH r]at h;rw[WG r];rw[←h]at l;exact l
    ·rw[WH c]at h;rw[WG c];rw[←h]at l;exact l
   ·rintro o ⟨rfl,h⟩;rw[List.drop_length]at h;rw[←h]at l;exact l
def Zbi(x:Def K mg "check_order" Ca ["strips","order"])
  : MW ζ:=by
 refine x.fy Zo0 (λo n=>(b1<|sI (tn o (xe (Ks (Bf (K:=K) (w:=w) rfl) (by rfl) G.Zi Js<|az<|pv 1)<|Bq<|sz<|Xi 1)<|xf Ym o<|a1<|xv 0) (b1<|sQ G.Z9 G.Z8 ExcR.KH<|a1 xs) b0)) (.a ?_)
 ·rintro y R X ⟨ps,os,rfl,s,p,r,f⟩;refine⟨rfl,os,rfl,r,λl v u=>⟨ps,rfl,s,p,_,_,rfl,rfl,?_⟩⟩;have q:=Zqa (ps:=ps) v u;unfold SA at f;refine Xm (λg=>?_) (λg=>?_)
  ·have h:¬l=Xo ps:=λz=>by rw[WH rfl,W9 z]at g;cases g
   rw[WG (λz=>h (q.mpr z))]at f;exact⟨by simp,f⟩
  ·have h:l=Xo ps:=Qd λz=>g (by rw[WH rfl,Qq z];rfl);rw[WH (q.mp h)]at f;exact f
def Zat(DD:Def K mg "ring_from" CC ["least","holders","wishes"])
  : Lo ζ:=by
 refine DD.fz Zlh (λU n=>(bc (sF 0<|sS 3 n<|xL<|a1<|xL<|a1<|xv 0)<|bc (sS 4 n<|xe (Ks (Bf (K:=K) (w:=w) rfl) (by rfl) G.Zi Js<|az<|cz ["holder","least"] [none,some 0] (Nk (K:=K)<|pv 1) ⟨(gk 0),(Sy<|Pv K6 (pv 0) (pv 1)<|KY _),(pv 0)⟩)<|Bq<|sz<|P5 (Nx<|Xi 1) (Kl 0) (Kr<|K0 (Xi 0)<|Xi 1)<|Xi 0)<|bc (sW [5,6] WX (tt<|xv 3)<|bc (sF 0<|sC 5 ["path","wishes","least"] [none,some 2,some 0] n (jL<|xv 3) (gN 0) (f1<|ti U (xt<|a2 (xx (xv 0)<|xe (Pi Pe Xu)<|Pf Xr)<|xv 2)<|xv 1)<|xv 0)<|bc (sI (tt<|xv 5) (b1<|sr<|xx (xv 5) xi) b0)<|bc (sS 3 n<|xf YJ U<|a3 (xv 3) (xv 4)<|xv 2)<|bc (sS 6 n<|xC ["path"] [none] (jL<|xv 3) (gN 0) f0<|xx (xv 0)<|xe (Pi Pe Xu)<|Pf Xr)<|b1<|sC 4 ["holder","reached"] [none,some 6] n (jL<|xv 4) (gN 0) (f1<|tI U (xv 0)<|xv 1)<|xv 0)<|b1<|sr<|xL a0)) (.a ?_)
 ·rintro ds R X ⟨l,y,B,rfl,hnd,hz,hR⟩;refine⟨rfl,by simp,by simp,Kk (xs:=y) (emb:=D.int) (λh=>if decide (l<h)=true then some (.int h)else none) (by lia) (λh _=>Xm (λg=>⟨_,rfl,WH g⟩) (λg=>WG g)) ?_⟩;rw[Mb λh=>decide (l<h)];refine⟨y.filter λh=>decide (l<h),rfl,JQ (Q5 _ _) (by lia),λf u J=>?_⟩;have hlt:f.Pairwise (· < ·):=Sh J (u.nodup_iff.mpr<|hnd.filter _)
  have hm:∀h,h∈f↔Gr y l h:=λh=>by
   rw[u.mem_iff,Qh,Jn];exact Iff.rfl
  have M:f.length<=y.length:=by
   rw[u.length_eq];exact Q5 _ _
  refine SJ (λE=>∃k o f,E=[some (.sh<|.int l),some (.bor<|.lst<|y.map D.int),some (.bor<|.lst<|B.map prD),some (.own<|o.map<|em l),some (.own<|f.map D.int),none,none]/\Lev y B l k o f/\o.length<=60/\f.length<=y.length/\(k+f.length<=y.length\/(o=[]/\k<=y.length+1)))
   (λγ=>2*Ik 4 γ+min 1 (Ik 3 γ)) ⟨0,[[]],f,rfl,Lev.start hlt hm,by simp,M,.inl (by lia)⟩ ?_
  rintro E ⟨k,o,f,rfl,L,hpl,hll,hk⟩;have emp:(!(o.map<|em l).isEmpty)=decide (o≠[]):=by cases o<;>simp
  show if (!(o.map<|em l).isEmpty)=true then _ else _;rw[emp];refine Xm (λg=>?_) (λg=>?_)
  ·have A:o≠[]:=WA g;have hk':k+f.length<=y.length:=hk.elim id λz=>absurd z.1 A;have Y:∀p∈o,p.length<=60:=λp u=>by rw[(L.way p u).1];lia
   refine Kk (xs:=o) (emb:=em l) (λp=>if decide ((Xt l p,l)∈B)=true then some (em l p)else none) (by lia) (λp u=>⟨_,Ft l p,by simp,_,.lp (Xt l p,l) B,Xm (λg=>⟨_,rfl,WH g⟩) (λg=>WG g)⟩) ?_;rw[Px λp=>decide ((Xt l p,l)∈B)];generalize ef:(o.filter λp=>decide ((Xt l p,l)∈B))=fs;have Q:(!(fs.map<|em l).isEmpty)=decide (fs≠[]):=by cases fs<;>simp
   show if (!(fs.map<|em l).isEmpty)=true then _ else _;rw[Q];refine Xm (λg2=>?_) (λg2=>?_)
   ·have C:fs≠[]:=WA g2;cases fs with
    |nil=>exact absurd rfl C
    |cons p r=>
     obtain⟨i,hi,T,e2,e3⟩:=MR ef;have u:p∈o:=by rw[←T];exact WW hi
     refine⟨em l p,KD _ _,hR (l::p) (L.found hi T (WA e2) λj hj hji z=>?_) (by have:=(L.way p u).1;simp;lia)⟩
     have:=e3 j hj hji
     rw[W9 z]at this;cases this
   ·have C:fs=[]:=Qd λz=>g2 (W9 z)
    have hn:∀p∈o,(Xt l p,l)∉B:=λp u z=>by
     have:p∈fs:=by rw[←ef];exact Qh.mpr ⟨u,W9 z⟩
     rw[C]at this;cases this
    refine⟨l,o,f,B,rfl,L.srt,L.lsrt,λp u=>WK (Y p u) (by decide),by lia,λs G hlg=>?_⟩;refine Kk (xs:=s) (emb:=em l) (λp=>some (.int<|Xt l p)) (by lia) (λp _=>⟨_,Ft l p,_,rfl,rfl⟩) ?_;have T:s.filterMap (λp=>some (D.int<|Xt l p))=(s.map<|Xt l).map D.int:=by rw[Vl,Qr];rfl
    rw[T];refine Kk (xs:=f) (emb:=D.int) (λh=>if decide (¬h∈s.map (Xt l))=true then some (.int h)else none) (by lia) (λh _=>⟨_,.li h _,?_⟩) ?_
    ·by_cases c:h∈s.map (Xt l)
     ·simp only[W9 c];exact XI (WG<|by simp[c])
     ·simp only[Qq c];exact Ka ⟨_,rfl,WH (by simp[c])⟩
    rw[Mb λh=>decide (¬h∈s.map (Xt l))];have L':=L.next hn G rfl
    have H:∀h∈s.map (Xt l),h∈f:=λh hh=>by
     obtain⟨q,hq,e⟩:=Qk.mp hh;obtain⟨p,x,⟨_,a⟩,rfl,_⟩:=G.mem q hq;rw[Ph]at e;rw[←e];exact a
    have N:=Q5 (λh=>decide (¬h∈s.map (Xt l))) f
    have v:s≠[]->(f.filter λh=>decide (¬h∈s.map (Xt l))).length<f.length:=λA=>by
     obtain⟨q,hq⟩:=VT s A;have hm:Xt l q∈f:=H _ (JG hq);refine Nat.lt_of_le_of_ne N λz=>?_
     have:=List.filter_eq_self.mp (List.Sublist.eq_of_length (List.filter_sublist (l:=f)) z) (Xt l q) hm
     rw[Jn]at this;exact this (JG hq)
    refine⟨⟨k+1,s,_,rfl,L',by lia,by lia,?_⟩,?_⟩
    ·by_cases c:s=[]
     ·exact .inr ⟨c,by lia⟩
     ·have:=v c
      exact .inl (by lia)
    ·show 2*((f.filter λh=>decide (¬h∈s.map (Xt l))).map D.int).length+min 1 (s.map<|em l).length<2*(f.map D.int).length+min 1 (o.map<|em l).length;rw[W6,W6,W6,W6]
     have:0<o.length:=V5.mpr A
     by_cases c:s=[]
     ·rw[c];rw[c]at N;simp only[List.length_nil];lia
     ·have:=v c
      lia
  ·have hpe:o=[]:=Qd λz=>g (W9 z);subst hpe;exact⟨by simp,hR [] L.over (by simp)⟩
def Zq7(v:Def K mg "sold" CK ["strips","place","holder"])
  : Oi ζ:=by
 refine v.fy Zhk (λo n=>(bc (sE<|xg Yz o ExcR.XG<|a2 (xv 0)<|xv 1)<|bc (sE<|xg Yr o ExcR.XG<|a1<|xv 2)<|bc (sS 3 n<|xx (xv 0)<|xo XD XF (xv 1) xi)<|bc (sI (tq o (xx (xv 3) xi)<|xv 2) (b1<|sQ G.ZC G.ZA ExcR.KH<|a1 xs) b0)<|b1<|sF 2<|sR<|xo Kz K4 (xo Kz K4 (xp (xv 0) o0<|o1<|xo XD XF (xv 1) xi)<|xL<|a1<|xt<|a2 (xv 2)<|xx (xv 3) xi)<|xp (xv 0) (o1<|xv 1) o0)) (.a ?_)
 ·rintro A R X ⟨ps,p,h,rfl,y,f⟩;refine⟨rfl,?_⟩;unfold KU at f;refine⟨ps,p,rfl,?_⟩;unfold Fq;by_cases c:p<1\/(ps.length:Int)<p
  ·rw[WH c]at f ⊢;exact f
  ·rw[WG c]at f ⊢;refine⟨h,rfl,?_⟩;unfold Sv;by_cases l:1<=h/\h<=10
   ·rw[WG (λz=>z l)]at f;rw[WH l];refine⟨_,T5 (by lia) (by lia),?_⟩;have s:(cutD (ps.map prD) none<|some (p-1)).length<=1000:=by have:=(Tt (ps.map prD) none<|some (p-1)).length_le;rw[W6]at this;lia
    have u:(cutD (ps.map prD) (some p) none).length<=1000:=by have:=(Tt (ps.map prD) (some p) none).length_le;rw[W6]at this;lia
    refine⟨_,rfl,Xm (λg=>?_) (λg=>?_)⟩
    ·have r:(Xw ps p).1=h:=WA g;rw[WH r]at f;exact⟨by simp,f⟩
    ·have r:¬(Xw ps p).1=h:=λz=>g (W9 z);rw[WG r]at f;refine⟨Ts _,_,rfl,by simp,by simp,rfl,rfl,WK (Qm s<|WI 1) (by decide),Ts _,rfl,rfl,WK (Qm (by rw[WJ];exact Qm s (WI 1)) u) (by decide),?_⟩;have e:=R8 (ps:=ps) (p:=p) (x:=(h,(Xw ps p).2)) (by lia) (by lia);show R (.own (cutD (ps.map prD) none (some (p-1))++[prD (h,(Xw ps p).2)]++cutD (ps.map prD) (some p) none));rw[e];exact f
   ·rw[WH l]at f;rw[WG l];exact f
def Zqp(A:Def K mg "parted" Dm ["strips","place","width"])
  : Lu ζ:=by
 refine A.fy Zjd (λx n=>(bc (sE<|xg Yz x ExcR.XG<|a2 (xv 0)<|xv 1)<|bc (sS 3 n<|xx (xv 0)<|xo XD XF (xv 1) xi)<|bc (sI (tp<|wo (tc KO KL (xv 2) xi)<|wO<|tc Su SB (xv 2)<|xx (xv 3) xi) (b1<|sQ G.ZG G.ZF ExcR.KH<|a1 xs) b0)<|bc (sI (tc Su SB (xl G.len<|xv 0)<|xe (ExcR.Pp G.Zl) Xr) (b1<|sQ G.Zk G.Zj ExcR.KH<|a1<|xe (ExcR.N5<|ExcR.PN<|ExcR.Nw (ExcR.Pp G.Zl)<|ExcR.PN ExcR.NF)<|NI<|PJ<|Nz Xr<|PJ N6) b0)<|b1<|sF 2<|sR<|xo Kz K4 (xo Kz K4 (xp (xv 0) o0<|o1<|xo XD XF (xv 1) xi)<|xL<|a2 (xt<|a2 (xx (xv 3) xi)<|xv 2)<|xt<|a2 (xx (xv 3) xi)<|xo XD XF (xx (xv 3) xi)<|xv 2)<|xp (xv 0) (o1<|xv 1) o0)) (.a ?_)
 ·rintro J R X ⟨h,p,w,rfl,B,f⟩;refine⟨rfl,?_⟩;have C:(h.map prD).length=h.length:=W6 ..;refine⟨h,p,rfl,?_⟩;unfold Kp at f;unfold Fq;by_cases c:p<1\/(h.length:Int)<p
  ·rw[WH c]at f ⊢;exact f
  ·rw[WG c]at f ⊢;refine⟨_,T5 (by lia) (by lia),?_⟩
   have E:¬(w<1\/(Xw h p).2<=w)->_:=λo=>by
    rw[WG o]at f;exact f
   by_cases o:w<1\/(Xw h p).2<=w
   ·rw[WH o]at f;refine Xm (λg=>Ka ⟨by simp,f⟩) (λg=>⟨_,rfl,Xm (λl=>⟨by simp,f⟩) (λl=>?_)⟩);have H:¬w<1:=λz=>g (W9 z);have y:¬(Xw h p).2<=w:=λz=>l (W9 z);lia
   ·rw[WG o]at f;refine Xm (λg=>absurd (WA g) (by lia)) (λg=>⟨_,rfl,Xm (λl=>absurd (WA l) (by lia)) (λl=>?_)⟩);refine Xm (λs=>?_) (λs=>?_)
    ·have r:(40:Int)<=((h.map prD).length:Int):=WA s;rw[WH (by lia)]at f;exact⟨by decide,by decide,by decide,by decide,by decide,by simp,f⟩
    ·have r:¬(40:Int)<=((h.map prD).length:Int):=λz=>s (W9 z);rw[WG (by lia)]at f;have u:(cutD (h.map prD) none<|some (p-1)).length<=1000:=by have:=(Tt (h.map prD) none<|some (p-1)).length_le;rw[W6]at this;lia
     have v:(cutD (h.map prD) (some p) none).length<=1000:=by have:=(Tt (h.map prD) (some p) none).length_le;rw[W6]at this;lia
     refine⟨Ts _,_,rfl,by simp,_,rfl,_,rfl,by simp,by simp,rfl,rfl,WK (Qm u<|WI 2) (by decide),Ts _,rfl,rfl,WK (Qm (by rw[WJ];exact Qm u (WI 2)) v) (by decide),?_⟩;rw[←Rx (by lia)]at f;exact f
def Zfm(v:Def K mg "united" AV ["strips","place"])
  : G2 ζ:=by
 refine v.fy Zd6 (λr n=>(bc (sE<|xg YI r ExcR.XG<|a2 (xv 0)<|xv 1)<|bc (sS 2 n<|xx (xv 0)<|xo XD XF (xv 1) xi)<|bc (sS 3 n<|xx (xv 0)<|xv 1)<|bc (sI (tn r (xx (xv 2) xi)<|xx (xv 3) xi) (b1<|sQ G.Zt G.Zs ExcR.KH<|a1 xs) b0)<|bc (sI (tc K6 K0 (xo X3 X4 (xx (xv 2) xi)<|xx (xv 3) xi)<|xe (ExcR.Pp G.Zm) Xr) (b1<|sQ G.ZI G.ZH ExcR.KH<|a1<|xe (ExcR.N5<|ExcR.PN<|ExcR.Nw (ExcR.Pp G.Zm)<|ExcR.PN ExcR.NF)<|NI<|PJ<|Nz Xr<|PJ N6) b0)<|b1<|sR<|xo Kz K4 (xo Kz K4 (xp (xv 0) o0<|o1<|xo XD XF (xv 1) xi)<|xL<|a1<|xt<|a2 (xx (xv 2) xi)<|xo X3 X4 (xx (xv 2) xi)<|xx (xv 3) xi)<|xp (xv 0) (o1<|xo X3 X4 (xv 1) xi) o0)) (.a ?_)
 ·rintro A R X ⟨ps,p,rfl,x,f⟩;refine⟨rfl,?_⟩;have y:(ps.map prD).length=ps.length:=W6 ..;refine⟨ps,p,rfl,?_⟩;unfold XX at f;by_cases c:p<1\/(ps.length:Int)<=p
  ·rw[WH c]at f ⊢;exact f
  ·rw[WG c]at f ⊢
   have u:atI (ps.map prD) p=some (prD<|Xw ps (p+1)):=by
    have:=T5 (ps:=ps) (p:=p+1) (by lia) (by lia)
    rwa[show p+1-1=p by lia]at this
   refine⟨_,T5 (by lia) (by lia),_,u,_,rfl,_,rfl,Xm (λg=>?_) (λg=>?_)⟩
   ·have l:¬(Xw ps p).1=(Xw ps (p+1)).1:=λz=>by rw[W9 z]at g;cases g
    rw[WH l]at f;exact⟨by simp,f⟩
   ·have l:(Xw ps p).1=(Xw ps (p+1)).1:=Qd λz=>g (by rw[Qq z];rfl);rw[WG (λz=>z l)]at f;refine⟨_,rfl,_,rfl,Xm (λh=>?_) (λh=>?_)⟩
    ·rw[WH (WA h)]at f;exact⟨by decide,by decide,by decide,by decide,by decide,by simp,f⟩
    ·rw[WG (λz=>h (W9 z))]at f;have o:(cutD (ps.map prD) none<|some (p-1)).length<=1000:=by have:=(Tt (ps.map prD) none<|some (p-1)).length_le;rw[W6]at this;lia
     have s:(cutD (ps.map prD) (some (p+1)) none).length<=1000:=by have:=(Tt (ps.map prD) (some (p+1)) none).length_le;rw[W6]at this;lia
     refine⟨Ts _,_,rfl,_,rfl,_,rfl,by simp,by simp,rfl,rfl,WK (Qm o<|WI 1) (by decide),Ts _,rfl,rfl,WK (Qm (by rw[WJ];exact Qm o (WI 1)) s) (by decide),?_⟩;rw[←IF (by lia)]at f;exact f
def Zq8(y:Def K mg "with_wish" Cq ["wishes","ahead","behind"])
  : Gy ζ:=by
 refine y.fy Zji (λl n=>(bc (sE<|xg Yr l ExcR.XG<|a1<|xv 1)<|bc (sE<|xg Yr l ExcR.XG<|a1<|xv 2)<|bc (sI (tq l (xv 1)<|xv 2) (b1<|sQ G.Zy G.Zx ExcR.KH<|a1 xs) b0)<|bc (sI (ti l (xt<|a2 (xv 1)<|xv 2)<|xv 0) (b1<|sQ G.Z3 G.Z2 ExcR.KH<|a1 xs) b0)<|bc (sI (tc Su SB (xl G.len<|xv 0)<|xe (ExcR.Pp G.Zn) Xr) (b1<|sQ G.Zv G.Zu ExcR.KH<|a1<|xe (ExcR.N5<|ExcR.PN<|ExcR.Nw (ExcR.Pp G.Zn)<|ExcR.PN ExcR.NF)<|NI<|PJ<|Nz Xr<|PJ N6) b0)<|b1<|sF 2<|sF 1<|sR<|xo Kz K4 (xv 0)<|xL<|a1<|xt<|a2 (xv 1)<|xv 2)) (.a ?_)
 ·rintro A R X ⟨h,a,b,rfl,v,f⟩;refine⟨rfl,?_⟩;have x:(h.map prD).length=h.length:=W6 ..;unfold Ke at f;refine⟨a,rfl,?_⟩;unfold Sv;by_cases p:1<=a/\a<=10
  ·rw[WG (λz=>z p)]at f;rw[WH p];refine⟨b,rfl,?_⟩;unfold Sv;by_cases o:1<=b/\b<=10
   ·rw[WG (λz=>z o)]at f;rw[WH o];refine Xm (λg=>?_) (λg=>?_)
    ·rw[WH (WA g)]at f;exact⟨by simp,f⟩
    ·rw[WG (λz=>g (W9 z))]at f;refine⟨by simp,_,.lp (a,b) h,Xm (λu=>?_) (λu=>?_)⟩
     ·rw[WH (WA u)]at f;exact⟨by simp,f⟩
     ·rw[WG (λz=>u (W9 z))]at f;refine Xm (λs=>?_) (λs=>?_)
      ·have r:(20:Int)<=((h.map prD).length:Int):=WA s;rw[WH (by lia)]at f;exact⟨by decide,by decide,by decide,by decide,by decide,by simp,f⟩
      ·have r:¬(20:Int)<=((h.map prD).length:Int):=λz=>s (W9 z);rw[WG (by lia)]at f;refine⟨by simp,by simp,Ts _,rfl,WK (Qm (WK (Vc x) v)<|WI 1) (by decide),?_⟩;rw[WS]at f;exact f
   ·rw[WH o]at f;rw[WG o];exact f
  ·rw[WH p]at f;rw[WG p];exact f
def Zll(E:Def K mg "pair_costs" Aw ["strips"])
  : GD ζ:=by
 refine E.fz Le (λr n=>(bc (sS 1 n<|xf Ym r<|a1<|xv 0)<|bc (se (Pu.pz 2 Le.nd Zka)<|Nq Zot<|Kl 2)<|bc (sF 1<|sO [3,4] WX (iL<|xv 1) (gN 3)<|b1<|sF 1<|sO [4] WX (iL<|xv 1) (gN 4)<|b1<|sF 4<|sF 3<|se (AW (Pb<|r ()) (pv 2) (PB<|bz (pv 3)<|pv 4) (fz YE (r ())<|dz (pv 0) (pv 3)<|pv 4) rfl)<|EJ 2 (PY<|tz (Xi 3)<|Xi 4)<|T4<|uz (Xi 0) (Xi 3)<|Xi 4)<|b1<|sV 2)) (.a ?_)
 ·rintro H R X ⟨l,rfl,v,z,u⟩;refine⟨rfl,l,rfl,v,z,?_⟩;have C:=TH l;generalize Xo l=g at C u ⊢
  refine⟨rfl,K5 (xs:=g) (emb:=D.int) (λi h=>∃f:List (List Key×V),h=[some (.bor<|.lst<|l.map prD),some (.sh<|.lst<|g.map D.int),some (.own<|.dT f),none,none]/\f.length<=i*10/\
   ∀x∈g.take i,∀y∈g,X0 f [.inl x,.inl y]=some (.int<|pcM l x y l.length)) ⟨[],rfl,by simp,by simp⟩ ?_ ?_⟩
  ·rintro i B h ⟨f,rfl,s,p⟩
   refine⟨rfl,K5 (xs:=g) (emb:=D.int) (λj h=>∃f:List (List Key×V),h=[some (.bor<|.lst<|l.map prD),some (.sh<|.lst<|g.map D.int),some (.own<|.dT f),some (.sh (.int g[i])),none]/\f.length<=i*10+j/\
    (∀x∈g.take i,∀y∈g,X0 f [.inl x,.inl y]=some (.int<|pcM l x y l.length))/\∀y∈g.take j,X0 f [.inl g[i],.inl y]=some (.int (pcM l g[i] y l.length))) ⟨f,rfl,by lia,p,by simp⟩ ?_ ?_⟩
   ·rintro j A h ⟨f,rfl,s,p,hw⟩;refine⟨l,_,_,rfl,v,by simp,_,_,rfl,rfl,by lia,_,rfl,WK (Aa _ _ _) (by lia),λx hx y o=>?_,λy o=>?_⟩
    ·rw[BW];by_cases e:([.inl x,.inl y]:List Key)=[.inl g[i],.inl g[j]]
     ·rw[WH e];simp only[JB,Sum.inl.injEq,and_true]at e;rw[e.1,e.2]
     ·rw[WG e];exact p x hx y o
    ·rw[BW];by_cases e:([.inl g[i],.inl y]:List Key)=[.inl g[i],.inl g[j]]
     ·rw[WH e];simp only[JB,Sum.inl.injEq,and_true]at e;rw[e.2]
     ·rw[WG e];rw[WN A,WO,WB]at o;rcases o with o|o
      ·exact hw y o
      ·subst o;exact absurd rfl e
   ·rintro h ⟨f,rfl,s,p,hw⟩;rw[Qp]at hw;refine⟨f,rfl,by lia,λx hx y o=>?_⟩;rw[WN B,WO,WB]at hx;rcases hx with hx|hx
    ·exact p x hx y o
    ·subst hx;exact hw y o
  ·rintro h ⟨f,rfl,s,p⟩;rw[Qp]at p;exact u f p
def Znd(y:Def K mg "cost_with_last" EA ["members","last","least","pairs"])
  : RC ζ:=by
 refine y.fz Zrj (λg n=>(bc (sS 4 n<|xf Yv g<|a2 (xv 0)<|xv 1)<|b1<|sF 1<|sR<|xo X3 X4 (xe (BM (Pb<|g ()) (pv 2) (pv 4) (λ_ _=>rfl))<|BO (Xi 2)<|Xi 4)<|xe (Ks (Hm (K:=K) rfl) (by rfl) G.ZR boot_sum<|az<|cz ["other","pairs","last"] [none,some 3,some 1] (B6 (K:=K)<|pv 4) ⟨(gk 0),Nh,(BM (Pb<|g ()) (pv 1) (PB<|bz (pv 0)<|pv 2) (λ_ _=>rfl))⟩)<|Oh<|sz<|P5 (SndI.c<|Bw<|Xi 4) (Kl 0) NR<|BO (Xi 1)<|PY<|tz (Xi 0)<|Xi 2)) (.a ?_)
 ·rintro A R X ⟨f,l,le,z,c,v,rfl,h,p,u,x⟩;refine⟨rfl,?_⟩;rw[B5];have o:(X1 f l).length<=1000:=WK less_sub.length_le h;refine⟨f,l,rfl,h,_,_,Fl _,p,rfl,_,rfl,Kk (s:=.sh .non) (xs:=X1 f l) (emb:=D.int) (λm=>some (.int<|c m)) (by lia) (λm r=>?_) ?_⟩
  ·exact⟨by simp,_,_,rfl,u m r,rfl,_,rfl,rfl⟩
  ·rw[T1];exact⟨(X1 f l).map c,by rw[Qr];rfl,x⟩
def Zhs(y:Def K mg "cost_with_first" Gi ["members","first","least","pairs"])
  : M3 ζ:=by
 refine y.fz Zc2 (λg n=>(bc (sS 4 n<|xf Yv g<|a2 (xv 0)<|xv 1)<|b1<|sF 1<|sR<|xo X3 X4 (xe (BM (Pb<|g ()) (pv 2) (pv 4) (λ_ _=>rfl))<|BO (Xi 2)<|Xi 4)<|xe (Ks (Hm (K:=K) rfl) (by rfl) G.ZR boot_sum<|az<|cz ["other","pairs","first"] [none,some 3,some 1] (B6 (K:=K)<|pv 4) ⟨(gk 0),Nh,(BM (Pb<|g ()) (pv 1) (PB<|bz (pv 2)<|pv 0) (λ_ _=>rfl))⟩)<|Oh<|sz<|P5 (SndI.c<|Bw<|Xi 4) (Kl 0) NR<|BO (Xi 1)<|PY<|tz (Xi 2)<|Xi 0)) (.a ?_)
 ·rintro A R X ⟨f,l,le,z,c,v,rfl,h,p,u,x⟩;refine⟨rfl,?_⟩;rw[B5];have o:(X1 f l).length<=1000:=WK less_sub.length_le h;refine⟨f,l,rfl,h,_,_,Fl _,p,rfl,_,rfl,Kk (s:=.sh .non) (xs:=X1 f l) (emb:=D.int) (λm=>some (.int<|c m)) (by lia) (λm r=>?_) ?_⟩
  ·exact⟨by simp,_,_,rfl,u m r,rfl,_,rfl,rfl⟩
  ·rw[T1];exact⟨(X1 f l).map c,by rw[Qr];rfl,x⟩
def Zgt(z:X8 K (X9 K (Xz ζ) "drop") "drop" "Village.drop" Em ["self","ahead","behind"])
  : M2 ζ:=by
 refine z.fy Zpa (λl n=>(bc (se (Ku<|XC Yo G.Za (hq<|l ()) ExcR.XG<|pv 0)<|Tx<|NB SE (Xi 0) X2)<|bc (sS 3 n<|xg YK l ExcR.XG<|a3 (xe (XC Yl G.Za (hq<|l ()) XW<|pv 0)<|Kc TN (Xi 0) X2) (xv 1)<|xv 2)<|b1<|sF 2<|sF 1<|sF 3<|se (Kx<|T3 Yp G.Za (hq<|l ()) XW (pv 0)<|dz (PB<|dz NN (pv 1)<|pv 2) (XC Yj G.Za (hq<|l ()) XW<|pv 0)<|pv 3)<|Tp<|Sd 0 BG<|uz (PY<|uz N4 (Xi 1)<|Xi 2) (Kc Tj (Xi 0) X2)<|Xi 3)) (.c ?_)
 ·rintro o A R X ⟨x,b1,y,v,bk,fs,r,f,w,p,h,rfl,rfl,u,B,hw,s,g⟩;refine⟨rfl,?_⟩;unfold Fs at g;refine⟨rfl,rfl,bk,fs++[f],r++[w],rfl,?_⟩;unfold NK;by_cases c:100<=bk.length
  ·rw[WH c]at g ⊢;exact⟨_,rfl,⟨rfl,by simp⟩,g⟩
  ·rw[WG c]at g ⊢;refine⟨rfl,rfl,bk,fs++[f],r,w,rfl,w,p,h,rfl,s,?_⟩;cases e:Ko w p h with
   |some c=>
    rw[e]at g;exact⟨_,rfl,⟨rfl,by simp⟩,g⟩
   |none=>
    rw[e]at g;refine⟨rfl,rfl,by simp,rfl,rfl,bk,fs,r++[w],f,rfl,?_⟩;exact⟨x,b1,y,v,bk,fs++[f],r++[w],("drop",[p,h]),f,S8 w p h,rfl,rfl,u,by rw[WJ];simp;lia,by rw[WJ];simp;lia,_,rfl,⟨rfl,by simp⟩,g⟩
def Zfe(l:Def K mg "_law_draw" Cd ["_law_script","_law_k"])
  : HC ζ:=by
 refine l.fz Zqu (λf n=>(bc (sI (tq f (xo X7 XA (xf Yk f<|a2 (xv 0) xi) xi) xi) (b1<|sR<|xf Yk f<|a2 (xv 0)<|xo X3 X4 xi<|xv 1) b0)<|b1<|sR<|xf Yq f<|a2 (xf Yk f<|a2 (xv 0) xi)<|xv 1)) (.a ?_)
 ·rintro p R X ⟨g,k,rfl,o,h⟩;refine⟨rfl,g,0,rfl,by decide,(by show(0:Int)<2;decide),Xm (λ_=>?_) (λ_=>?_)⟩
  ·exact⟨g,_,rfl,by lia,h _⟩
  ·exact⟨g,1,rfl,by decide,_,_,rfl,h _⟩
def Zg2(y:Def K mg "_law_row" AU ["_law_found","_law_due"])
  : Hq ζ:=by
 refine y.fz Zq6 (λl n=>(bc (sI (tp<|wo (tN<|tt<|xe (Ks (B7 (K:=K)) (by rfl) G.Zf VU<|bz (pv 0)<|Bl (v:=.ty "list") rfl G.Zh boot_list rfl)<|BH<|tz (Xi 0) Bp)<|wO<|tn l (xl G.len<|xv 0)<|xl G.len<|xv 1) (b1<|sR xb) b0)<|bc (sO [2] WX (ir G.Zc<|a1<|xl G.len<|xv 1) (gN 2)<|b1<|sI (tp<|wo (tN<|tt<|xf Ys l<|a1<|xx (xv 0)<|xv 2)<|wO<|tn l (xx (xv 0)<|xv 2)<|xx (xv 1)<|xv 2) (b1<|sR xb) b0)<|b1<|sR xb)) (.a ?_)
 ·rintro A R X ⟨xs,rfl|rfl,z,x⟩;refine⟨rfl,?_⟩
  ·have s:(xs.map D.int).length=xs.length:=W6 ..;refine⟨_,.same _,XI (Np rfl ?_)⟩;refine⟨⟨by lia,by lia⟩,Tg (λi f=>f=[some (.bor<|.lst<|xs.map D.int),some (.bor<|.lst<|xs.map D.int),none]) rfl ?_ ?_⟩
   ·rintro i f r rfl;have p:i<(((xs.map D.int).length:Nat):Int).toNat:=r;have ez:(0:Int)+(i:Int)=(i:Int):=by lia
    have h:i<xs.length:=by lia
    have g:atI (xs.map D.int) (0+(i:Int))=some (.int xs[i]):=by rw[ez];exact Lx h
    exact⟨_,g,_,rfl,XI ⟨_,g,_,g,Np rfl rfl⟩⟩
   ·rintro f rfl;exact x
  ·refine⟨rfl,?_⟩;have s:(xs.map D.int).length=xs.length:=W6 ..;have o:((xs.length:Nat):Int)=(((xs.map D.int).length:Nat):Int):=by rw[s]
   refine⟨_,.same _,XI (Np o ?_)⟩;refine⟨⟨by lia,by lia⟩,Tg (λi f=>f=[some (.sh<|.fL xs),some (.bor<|.lst<|xs.map D.int),none]) rfl ?_ ?_⟩
   ·rintro i f r rfl;have p:i<(((xs.map D.int).length:Nat):Int).toNat:=r;have ez:(0:Int)+(i:Int)=(i:Int):=by lia
    have h:i<xs.length:=by lia
    have g:atI (xs.map D.int) (0+(i:Int))=some (.int xs[i]):=by rw[ez];exact Lx h
    have u:atI xs (0+(i:Int))=some xs[i]:=by rw[ez];exact Tu (W8 h)
    exact⟨_,u,_,rfl,XI ⟨_,u,_,g,Np rfl rfl⟩⟩
   ·rintro f rfl;exact x
def Zht(C:Def K mg "_law_tuples" D8 ["_law_found","_law_due"])
  : Mq ζ:=by
 refine C.fz Zrs (λo n=>(bc (sI (tp<|wo (tN<|tt<|xe (Ks (B7 (K:=K)) (by rfl) G.Zf VU<|bz (pv 0)<|Bl (v:=.ty "list") rfl G.Zh boot_list rfl)<|BH<|tz (Xi 0) Bp)<|wO<|tn o (xl G.len<|xv 0)<|xl G.len<|xv 1) (b1<|sR xb) b0)<|bc (sO [2,3] WX (ir G.Zc<|a1<|xl G.len<|xv 1) (gN 2)<|bc (sI (tp<|wo (tN<|tt<|xe (Ks (B7 (K:=K)) (by rfl) G.Zf VU<|bz (jx K (pv 0)<|pv 2)<|Bl (v:=.ty "tuple") rfl G.Zr boot_tuple rfl)<|BH<|tz (XM (Xi 0)<|Xi 2) Bp)<|wO<|tn o (xl G.len<|xx (xv 0)<|xv 2)<|xl G.len<|xx (xv 1)<|xv 2) (b1<|sR xb) b0)<|b1<|sO [3] WX (ir G.Zc<|a1<|xl G.len<|xx (xv 1)<|xv 2) (gN 3)<|b1<|sI (tp<|wo (tN<|tt<|xf Ys o<|a1<|xx (xx (xv 0)<|xv 2)<|xv 3)<|wO<|tn o (xx (xx (xv 0)<|xv 2)<|xv 3)<|xx (xx (xv 1)<|xv 2)<|xv 3) (b1<|sR xb) b0)<|b1<|sR xb)) (.a ?_)
 ·rintro L R X ⟨h,rfl,A,J,B⟩;refine⟨rfl,_,.same _,XI (Np rfl ?_)⟩;refine⟨⟨by lia,by lia⟩,Tg (λi f=>∃t,f=[some (.bor<|.lst h),some (.bor<|.lst h),none,t]) ⟨_,rfl⟩ ?_ ?_⟩
  ·rintro i f y ⟨t,rfl⟩;have x:i<((h.length:Nat):Int).toNat:=y;have ez:(0:Int)+(i:Int)=(i:Int):=by lia
   have u:i<h.length:=by lia
   have g:atI h (0+(i:Int))=some h[i]:=by rw[ez];exact Tu (W8 u)
   have s:=WW u;generalize h[i]=d at g s
   have hd:(∃q,d=prD q)\/∃m,d=mvD m:=by
    rcases A with⟨E,rfl⟩|⟨H,rfl⟩<;>obtain⟨q,_,rfl⟩:=Qk.mp s
    ·exact .inl ⟨q,rfl⟩
    ·exact .inr ⟨q,rfl⟩
   rcases hd with⟨q,rfl⟩|⟨q,rfl⟩
   ·refine⟨_,g,_,.same _,XI ⟨_,g,_,g,?_⟩⟩;refine⟨_,g,⟨(by show -(2 ^ 62)<=(2:Int);decide),(by show(2:Int)<2 ^ 62;decide)⟩,Tg (λj f=>∃t,f=[some (.bor<|.lst h),some (.bor<|.lst h),some (.sh<|.int (0+(i:Int))),t]) ⟨_,rfl⟩ ?_ ?_⟩
    ·rintro j f r ⟨t,rfl⟩;have p:j<2:=r
     obtain⟨z,l⟩:∃z:Int,atI [D.int q.1,D.int q.2] (0+(j:Int))=some (.int z):=by
      have:j=0\/j=1:=by lia
      rcases this with rfl|rfl<;>exact⟨_,rfl⟩
     exact⟨_,g,_,l,z,rfl,XI ⟨_,g,_,l,_,g,_,l,Np rfl ⟨_,rfl⟩⟩⟩
    ·rintro f ⟨t,rfl⟩;exact⟨_,rfl⟩
   ·refine⟨_,g,_,.same _,XI ⟨_,g,_,g,?_⟩⟩;refine⟨_,g,⟨(by show -(2 ^ 62)<=(4:Int);decide),(by show(4:Int)<2 ^ 62;decide)⟩,Tg (λj f=>∃t,f=[some (.bor<|.lst h),some (.bor<|.lst h),some (.sh<|.int (0+(i:Int))),t]) ⟨_,rfl⟩ ?_ ?_⟩
    ·rintro j f r ⟨t,rfl⟩;have p:j<4:=r
     obtain⟨z,l⟩:∃z:Int,atI [D.int q.1,D.int q.2.1,D.int q.2.2.1,D.int q.2.2.2] (0+(j:Int))=some (.int z):=by
      have:j=0\/j=1\/j=2\/j=3:=by lia
      rcases this with rfl|rfl|rfl|rfl<;>exact⟨_,rfl⟩
     exact⟨_,g,_,l,z,rfl,XI ⟨_,g,_,l,_,g,_,l,Np rfl ⟨_,rfl⟩⟩⟩
    ·rintro f ⟨t,rfl⟩;exact⟨_,rfl⟩
  ·rintro f ⟨t,rfl⟩;exact B
def Zrh(DD:Def K mg "_law_best" D6 ["_law_strips","_law_wishes"])
  : IG ζ:=by
 refine DD.fz Zkw (λL n=>(bc (sS 2 n<|xL a0)<|bc (sO [3,4] WX (iL<|xf YT L<|a1<|xf Y0 L<|a1<|xv 0) (gN 3)<|b1<|sI (tt<|xf YS L<|a2 (xv 3)<|xv 1) (bc (sS 4 n<|xf YR L<|a2 (xv 0)<|xv 3)<|b1<|sI (tp<|wo (te (Pv (MK (K:=K)<|show _<cLine from(L ()).units0) (pv 2) (P6 Ky)<|KY _)<|Kr<|BV (Xi 2)<|P3 X2)<|wO<|tc KO KL (xv 4)<|xx (xv 2) xi) (b1<|sF 3<|sF 4<|sS 2 n<|xL<|a2 (xv 4)<|xv 3) b0) b0)<|b1<|sV 2)) (.a ?_)
 ·rintro ds R X ⟨f,Q,rfl,hF,C,h5,hu,hN,hR⟩;refine⟨rfl,?_⟩;have u:(Xo f).Nodup:=(Tc f).imp (λh=>VM h);have M:∀z:ZW,z.Perm (Xo f)->∀p∈f,p.1∈z:=λz C p E=>C.mem_iff.mpr ((E4 hF).mpr (Qk.mpr ⟨p,E,rfl⟩))
  have o:∀z:ZW,z.Perm (Xo f)->oc (λx y=>pcM f x y f.length) z=PZ f z f.length:=λz C=>by
   rw[IX];refine Il (C.nodup_iff.mpr u) f.length λj N=>?_;rw[WC,W8 N];exact M z C _ (WW N)
  refine⟨by simp,f,rfl,C,Xo f,rfl,u,h5,?_⟩;refine⟨rfl,K5 (xs:=XH (Xo f) (Xo f).length) (emb:=ilD) (λi B=>∃b,B=[some (.bor<|.lst<|f.map prD),some (.bor<|.lst<|Q.map prD),some (.own<|.lst<|As f b),none,none]/\Fnd (λq=>PZ f q f.length) (λq=>∀w∈Q,Pg q w=false) ((XH (Xo f) (Xo f).length).take i) b) ⟨none,rfl,by simp[Fnd]⟩ ?_ ?_⟩
  ·rintro i Y B ⟨b,rfl,A⟩;have v:=WW Y;have s:=(Bo u).mp v;have T:(XH (Xo f) (Xo f).length).take (i+1)=(XH (Xo f) (Xo f).length).take i++[(XH (Xo f) (Xo f).length)[i]]:=WN Y
   have J:∀x∈(XH (Xo f) (Xo f).length).take i,sl x (XH (Xo f) (Xo f).length)[i]:=λx hx=>by
    obtain⟨j,N,rfl⟩:=Qn.mp hx;rw[Qa]at N;rw[QL];exact Qg.mp (Rr (Tc f) _) j i (by lia) Y (by lia)
   rw[T];generalize (XH (Xo f) (Xo f).length)[i]=r at v s J ⊢;refine⟨r,Q,rfl,λg=>Ka ?_,λg=>XI ⟨b,rfl,A.no λz=>?_⟩⟩
   ·refine⟨f,r,rfl,hF,C,M r s,?_⟩;refine⟨QU _,?_⟩;show if (As f b).isEmpty=true then _ else _;rw[Zdt];refine Xm (λk=>Ka ?_) (λk=>?_)
    ·have k':b=none:=WA k;subst k';exact⟨by simp,some r,rfl,A.first g⟩
    ·cases b with
     |none=>exact absurd (W9 rfl) k
     |some q=>exact⟨_,rfl,Xm (λl=>⟨by simp,some r,rfl,A.less g (WA l)⟩) (λl=>⟨some q,rfl,A.more (λz=>l (W9 z)) J⟩)⟩
   ·obtain⟨w,hw,e⟩:=g;rw[z w hw]at e;cases e
  ·rintro B ⟨b,rfl,A⟩;rw[Qp]at A;obtain⟨o0,p0,k0⟩:=Og hu hN _ (Xo f) rfl λ_ h=>h;cases b with
   |none=>exact absurd (Cm k0) (A o0 ((Bo u).mpr p0))
   |some q=>
    obtain⟨q1,q2,q3⟩:=A;have H:=(Bo u).mp q1
    have:=hR q ⟨H,Zdl (H.nodup_iff.mpr u) q2,λp E U=>by
     unfold pcc;rw[o q H,o p E];exact(q3 p ((Bo u).mpr E)<|Cm U).1,λp E U e=>by
     unfold pcc at e;rw[o q H,o p E]at e;exact(q3 p ((Bo u).mpr E)<|Cm U).2 e⟩
    unfold pcc at this;rw[o q H]at this;exact this
def Zbq(v:Def K mg "_law_step" EE ["_law_now","_law_deed_here"])
  : Om ζ:=by
 refine v.fz Zpd (λo n=>(bc (sI (tp<|wo (tq o (xx (xv 1) xi) xs)<|wO<|tq o (xx (xv 1) xi) xs) (bc (sF 1<|sS 2 n<|xe (fz YY (o ())<|bz (jx K (pv 0) Xu)<|pv 1)<|Dz<|tz (XM (Xi 0) Xr)<|Xi 1)<|b1<|sR<|xL<|a3 (xx (xv 2) xi) (xx (xv 0) xi)<|xx (xv 2) xi) b0)<|bc (sF 1<|sS 2 n<|xe (fz YX (o ())<|bz (jx K (pv 0) Xu)<|pv 1)<|Dz<|tz (XM (Xi 0) Xr)<|Xi 1)<|b1<|sR<|xL<|a3 (xx (xv 2) xi) (xx (xv 2) xi)<|xx (xv 0) xi)) (.b ?_)
 ·rintro u R X ⟨f,w,u,x,rfl,r,hw,l⟩;refine⟨rfl,?_⟩;have g:atI (plD f::plD w::u) 1=some (plD w):=BU (by decide) rfl
  have land:∀x:Dd,x.land=true->R (.own [.int (codeN<|x.err f w),plD (x.nf f w),plD (x.nw f w)])->R (.own [.int (codeN<|x.err f []),plD (x.fld' f),plD w]):=λx h k=>by
   have e:=x.err_land h f w [];have s:x.wsh w=w:=by cases x<;>first|rfl|cases h
   unfold Dd.nf Dd.nw at k;rw[s,e,ite_self]at k;unfold Dd.fld';exact k
  have wish:∀x:Dd,x.land=false->R (.own [.int (codeN<|x.err f w),plD (x.nf f w),plD (x.nw f w)])->R (.own [.int (codeN<|x.err [] w),plD f,plD (x.wsh' w)]):=λx h k=>by
   have e:=x.err_wish h f [] w;have s:x.fld f=f:=by cases x<;>first|rfl|cases h
   unfold Dd.nf Dd.nw at k;rw[s,e,ite_self]at k;unfold Dd.wsh';exact k
  cases x with
  |sell p h=>exact⟨_,rfl,_,rfl,_,KD _ _,f,.sell p h,rfl,rfl,r,_,rfl,_,rfl,_,g,by simp,land _ rfl l⟩
  |part p h=>exact⟨_,rfl,_,rfl,_,KD _ _,f,.part p h,rfl,rfl,r,_,rfl,_,rfl,_,g,by simp,land _ rfl l⟩
  |unite p=>exact⟨_,rfl,_,rfl,_,KD _ _,f,.unite p,rfl,rfl,r,_,rfl,_,rfl,_,g,by simp,land _ rfl l⟩
  |wish a b=>exact⟨_,rfl,_,g,w,.wish a b,rfl,rfl,hw,_,rfl,_,KD _ _,_,rfl,by simp,wish _ rfl l⟩
  |drop a b=>exact⟨_,rfl,_,rfl,_,g,w,.drop a b,rfl,rfl,hw,_,rfl,_,KD _ _,_,rfl,by simp,wish _ rfl l⟩
def Zle(H:Def K mg "_law_start" Cz ["_law_script","_law_menu_here","_law_many"])
  : Rg ζ:=by
 refine H.fz Zob (λl n=>(bc (sS 3 n<|xf Yk l<|a2 (xv 0) xi)<|bc (sS 4 n<|xL a0)<|bc (sO [5,6,7] WX (ir G.Zc<|a1<|xv 2) (gN 5)<|bc (sF 3<|sS 6 n<|xv 3)<|bj (sI (tq l (xo X7 XA (xf Yk l<|a2 (xv 0) xi) xi) xi) (b1<|sS 6 n<|xf Yq l<|a2 (xf Yk l<|a2 (xv 0) xi)<|xo X3 X4 xi<|xv 5) b0)<|bc (sS 7 n<|xo X3 X4 (xx (xv 1) xi)<|xo X7 XA (xo Ki Kf (xv 6)<|xx (xv 1) xi)<|xx (xv 1) xi)<|bc (sF 7<|sA 4<|xt<|a2 (xf Yn l<|a2 (xv 1)<|xo X7 XA (xv 6)<|xx (xv 1) xi)<|xv 7)<|b1<|sS 3 n<|xo Ki Kf (xo Ki Kf (xv 3)<|xx (xv 1) xi)<|xx (xv 1) xi)<|b1<|sV 4)) (.a ?_)
 ·rintro ds R X ⟨o,m,n,rfl,x,Y,U,E⟩;refine⟨rfl,?_⟩;have s:=x;obtain⟨a,b,c,d,e,rfl,T,Q,N,hd,M⟩:=x;refine⟨o,2,rfl,by decide,by simp,⟨by lia,by lia⟩,Tg (λi f=>∃(g:ZV) (r:Int),f=[some (.bor<|.scr o),some (.bor<|.lst (([a,b,c,d,e]:ZW).map D.int)),some (.sh<|.int n),some (.sh<|.int r),some (.own<|g.map prD),none,none,none]/\Field g/\g.length=i) ⟨[],_,rfl,(λq hq=>by cases hq),rfl⟩ ?_ ?_⟩
  ·rintro i f C ⟨g,r,rfl,u,p⟩;have A:(g.map prD).length=g.length:=W6 ..;have B:i<n.toNat:=C;refine Pk (λf=>∃(v:Int) (t:Option S),f=[some (.bor<|.scr o),some (.bor<|.lst (([a,b,c,d,e]:ZW).map D.int)),some (.sh<|.int n),some (.sh<|.int r),some (.own<|g.map prD),t,some (.sh<|.int v),none]) ?_ ?_
   ·refine⟨o,0,rfl,by decide,(by show(0:Int)<2;decide),Xm (λ_=>?_) (λ_=>⟨_,_,rfl⟩)⟩;exact⟨o,1,rfl,by decide,_,_,rfl,_,_,rfl⟩
   ·rintro f ⟨v,t,rfl⟩;have L:=Int.emod_nonneg (v / a) (show d≠0 by lia);have J:=JV (v / a) (show 0<d by lia);refine⟨_,rfl,_,rfl,⟨by lia,by lia⟩,_,rfl,(by show 0<d;lia),_,rfl,(by show 0<a;lia),[a,b,c,d,e],_,rfl,s,λh z y _=>⟨by simp,by lia,?_⟩⟩;refine⟨_,rfl,⟨by lia,by lia⟩,_,rfl,⟨by lia,by lia⟩,g++[(h,e+v / a % d)],r / a / d,?_,λq hq=>?_,by rw[WJ,p];rfl⟩
    ·rw[WS];rfl
    ·rcases WO.mp hq with hq|hq
     ·exact u q hq
     ·rw[WB]at hq;subst hq;exact⟨z,y,by show 1<=e+v / a % d;lia,by show e+v / a % d<=1000;lia⟩
  ·rintro f ⟨g,r,rfl,u,p⟩;exact E g u p
def Zar(p:Def K mg "_law_days" DV ["_law_script","_law_most"])
  : Im ζ:=by
 refine p.fz Zbt (λg n=>(bc (sI (tq g (xo X7 XA (xf Yk g<|a2 (xv 0) xi) xi) xi) (b1<|sR<|xe (Ih (R9 (K:=K)) (pv 0) (Ge Xu)<|Ge<|P4 X3 Xu<|pv 1)<|Zcm (Xi 0) (D5 Xr)<|D5<|X4 Xr<|Xi 1) b0)<|b1<|sR<|xC ["_law_k","_law_script"] [none,some 0] (jI<|ir G.Zc<|a1<|xo X7 XA (xf Yk g<|a2 (xv 0) xi)<|xo X3 X4 (xv 1) xi) (gN 0) f0<|xf Yq g<|a2 (xf Yk g<|a2 (xv 1) xi)<|xo X3 X4 xi<|xv 0)) (.a ?_)
 ·rintro y R X ⟨f,n,rfl,x,v,h⟩;refine⟨rfl,f,0,rfl,by decide,(by show(0:Int)<2;decide),Xm (λ_=>?_) (λ_=>?_)⟩
  ·refine h _ ?_;unfold Pu.cutD;rw[Qa]
   have l:HT.sIx f.length 0 (some 3)=min 3 f.length:=by
    rw[show(3:Int)=((3:Nat):Int) by rfl,HT.FC]
   have o:HT.sIx f.length f.length (some (3+n))=min (3+n).toNat f.length:=by
    rw[show(3+n:Int)=(((3+n).toNat:Nat):Int) by lia,HT.FC];rfl
   rw[l,o];lia
  ·refine⟨f,2,rfl,by decide,(by show 0<n+1;lia),?_⟩;have s:=Int.emod_nonneg (f.getD (2:Int).toNat 0) (show n+1≠0 by lia);have r:=JV (f.getD (2:Int).toNat 0) (show 0<n+1 by lia);refine⟨⟨by lia,by lia⟩,Bb (λi=>some (.int<|mixP (f.getD (1:Int).toNat 0) (200+(0+(i:Int))))) (by lia) (λi u=>⟨f,1,rfl,by decide,_,_,rfl,_,rfl,rfl⟩) ?_⟩
   have e:(List.range (f.getD (2:Int).toNat 0 % (n+1)).toNat).filterMap (λi:Nat=>some (D.int<|mixP (f.getD (1:Int).toNat 0) (200+(0+(i:Int)))))=((List.range (f.getD (2:Int).toNat 0 % (n+1)).toNat).map λi:Nat=>mixP (f.getD (1:Int).toNat 0) (200+(0+(i:Int)))).map D.int:=by
    rw[Vl,Qr];rfl
   rw[e];refine h _ ?_;rw[W6,Jo];lia
def Zfj(y:Def K mg "_law_pair" AM ["_law_cell","_law_menu_here"])
  : Lc ζ:=by
 refine y.fz Zpn (λh n=>(bc (sS 2 n<|xx (xL<|ac xi<|ac (xx (xv 1) xi)<|ac (xx (xv 1) xi)<|ac (xx (xv 1) xi) a0)<|xo X7 XA (xv 0) xi)<|bc (sS 3 n<|xo X7 XA (xo Ki Kf (xv 0) xi)<|xv 2)<|bc (sS 4 n<|xo X7 XA (xo X3 X4 (xo X3 X4 (xv 3) xi)<|xo X7 XA (xo Ki Kf (xv 0) xi)<|xe (Ks (Ey rfl) (by rfl) G.Z1 boot_max<|bz Xu<|P4 XD (pv 2) Xu)<|Eh<|tz Xr<|XF (Xi 2) Xr)<|xv 2)<|bc (sS 5 n<|xf Yw h<|a2 (xo Ki Kf (xv 0) xi)<|xf Yn h<|a2 (xv 1)<|xv 3)<|b1<|sF 5<|sR<|xt<|a2 (xv 5)<|xf Yw h<|a2 (xo Ki Kf (xv 0) xi)<|xf Yn h<|a2 (xv 1)<|xv 4)) (.a ?_)
 ·rintro L R X ⟨c,m,rfl,r,v⟩;refine⟨rfl,?_⟩;have g:=r;obtain⟨a,b,e,d,f,rfl,o,C,B,hd,A⟩:=r;have E:0<=c % 4/\c % 4<4:=by lia
  obtain⟨pool,x,z⟩:∃p:Int,atI [D.int 10,.int a,.int a,.int a] (c % 4)=some (.int p)/\1<=p/\p<=10:=by
   have:c % 4=0\/c % 4=1\/c % 4=2\/c % 4=3:=by lia
   rcases this with e|e|e|e<;>rw[e]
   ·exact⟨10,rfl,by decide,by decide⟩
   ·exact⟨a,rfl,o⟩
   ·exact⟨a,rfl,o⟩
   ·exact⟨a,rfl,o⟩
  have l:0<(if pool-1>1 then pool-1 else 1):=by split<;>lia
  refine⟨_,rfl,_,rfl,_,rfl,by simp,(by show(0:Int)<4;decide),_,x,?_⟩;refine⟨⟨by decide,by decide⟩,(by show 0<pool;lia),⟨by decide,by decide⟩,l,(by show 0<pool;lia),?_⟩;refine⟨⟨by decide,by decide⟩,_,_,rfl,g,λJ _ _ _=>⟨_,_,rfl,λu=>?_⟩⟩;exact⟨⟨by decide,by decide⟩,_,_,rfl,g,λH _ _ _=>⟨_,_,rfl,λs=>⟨by simp,v u s⟩⟩⟩
def Zfd(z:Def K mg "gathered" EC ["strips","order"])
  : HX ζ:=by
 refine z.fy Zfp (λr n=>(bc (sE<|xg Y1 r ExcR.XG<|a2 (xv 0)<|xv 1)<|bc (sS 2 n<|xL a0)<|bc (sF 1<|sO [3] ExcR.Ax (iL<|xv 1) (gN 3)<|b1<|se (Ku<|NQ Qc Je Jf DP (pv 2)<|az<|cz ["strip","holder"] [none,some 3] (Nk (K:=K)<|pv 0) ⟨(gk 0),(Sy<|cq K (r ()) (jx K (pv 0) Xu)<|pv 1),(pv 0)⟩)<|E2 2<|P5 (Nx<|Xi 0) (Kl 0) (Kr<|Tf (XM (Xi 0) Xr)<|Xi 1)<|Xi 0)<|b1<|sV 2)) (.a ?_)
 ·rintro E R X ⟨f,os,rfl,x,p,u,l⟩;refine⟨rfl,f,os,rfl,x,p,u,?_⟩;cases e:SA f os with
  |some c=>rw[e]at l;exact l
  |none=>
   rw[e]at l;have o:R (.own ((P2 f os).map prD)):=l;refine⟨by simp,rfl,K5 (xs:=os) (emb:=D.int) (λi h=>h=[some (.bor<|plD f),some (.bor<|.lst<|os.map D.int),some (.own ((P2 f<|os.take i).map prD)),none]) rfl ?_ ?_⟩
   ·rintro i v h rfl;have B:=Zhl f (os.take i);have s:(os.take i).length<=64:=by rw[Qa];lia
    have A:=VL s p;have C:=Q5 (λq:Int×Int=>decide (q.1=os[i])) f;refine Kk (xs:=f) (emb:=prD) (λq=>if decide (q.1=os[i])=true then some (prD q)else none) (by lia) (λq hq=>⟨_,rfl,Xm (λg=>⟨_,rfl,WH g⟩) (λg=>WG g)⟩) ?_;rw[Px (λq:Int×Int=>decide (q.1=os[i]))];refine⟨by rw[W6,W6];lia,?_⟩
    have y:P2 f (os.take (i+1))=P2 f (os.take i)++f.filter λq=>decide (q.1=os[i]):=by
     unfold P2;rw[WN v,JI];simp
    rw[y,WS];rfl
   ·rintro h rfl;rw[Qp];exact o
def Za7(DD:Def K mg "told_moves" A3 ["strips","order"])
  : Hj ζ:=by
 refine DD.fz Zf6 (λA n=>(bc (sE<|xe (Ak Y1 (hq<|A ()) Nf<|bz (pv 0)<|pv 1)<|T4<|tz (Xi 0)<|Xi 1)<|bc (sC 2 ["holder","width","order"] [none,none,some 1] n (jL<|xv 0) (gT 2<|gc (gN 0)<|gc (gN 1) g0) f0<|xe (N2 (K:=K) Qc QH QW (Sn (K:=K)) (pv 2)<|az<|pv 0)<|Sj (Xi 2)<|sz<|Xi 0)<|bc (sS 3 n<|xf YF A<|a1<|xv 0)<|bc (sS 4 n<|xL a0)<|bc (sS 5 n<|xf Yy A<|a2 (xv 3)<|xv 2)<|bc (sW [] WX (tc K6 K0 (xv 5) xi)<|bc (sF 5<|sA 4<|xt<|ac (xv 5)<|ac (xx (xv 3)<|xo XD XF (xv 5) xi)<|ac (xx (xv 3)<|xv 5)<|ac (xf YG A<|a3 (xv 0) (xv 3)<|xv 5) a0)<|bc (sS 3 n<|xf YH A<|a2 (xv 3)<|xv 5)<|b1<|sS 5 n<|xf Yy A<|a2 (xv 3)<|xv 2)<|b1<|sV 4)) (.a ?_)
 ·rintro ds R X ⟨l,o,rfl,hF,hz,Q,hR⟩;refine⟨rfl,?_⟩;have hh:=TH l;have hol:=Q.length_eq;have U:=Mp hF Q;refine⟨l,o,rfl,hF,by lia,by lia,?_⟩;rw[RL Q];refine Kk (xs:=l) (emb:=prD) (λq=>some (.int (o.idxOf q.1:Nat))) (by lia) (λq hq=>?_) ?_
  ·exact⟨rfl,⟨_,rfl⟩,o,rfl,U q hq,_,rfl,rfl⟩
  rw[T1 (λq:Int×Int=>D.int (o.idxOf q.1:Nat))];have er:l.map (λq:Int×Int=>D.int (o.idxOf q.1:Nat))=(l.map λq:Int×Int=>((o.idxOf q.1:Nat):Int)).map D.int:=by rw[Qr];rfl
  rw[er];generalize L:(l.map λq:Int×Int=>((o.idxOf q.1:Nat):Int))=v;have lrs:v.length=l.length:=by rw[←L,W6]
  have rk:∀m:Int,1<=m/\m<=l.length->v.getD (m-1).toNat 0=rkN l o m:=λm y=>by
   have Y:(m-1).toNat<l.length:=by lia
   rw[←L];unfold rkN hdN;rw[WC,WC,WL,W8 Y];rfl
  have keys:∀r:ZW,r.Perm (XO 1 l.length)->r.map (λm=>v.getD (m-1).toNat 0)=r.map (rkN l o):=λr u=>QM λm y=>rk m (runI_mem.mp<|u.mem_iff.mp y)
  have inr:∀r:ZW,r.Perm (XO 1 l.length)->∀m∈r,1<=m/\m<=v.length:=λr u m y=>by
   have:=runI_mem.mp (u.mem_iff.mp y)
   lia
  refine⟨l,rfl,by lia,by simp,?_⟩;refine⟨_,v,rfl,inr _ (.refl _),by rw[NY];lia,λp0 H=>?_⟩;rw[keys _ (.refl _)]at H
  have e0:∀r:ZW,r.Perm (XO 1 l.length)->K9 (λm=>v.getD (m-1).toNat 0) r=K9 (rkN l o) r:=λr u=>by
   unfold K9;congr 1;exact QM λm y=>by show(v.getD (m-1).toNat 0,(1:Int))=_;rw[rk m (runI_mem.mp<|u.mem_iff.mp y)]
  have b0:=Se (rkN l o) (XO 1 l.length)
  have nn:((l.length:Int))*l.length<=1600:=by
   have:=Int.mul_le_mul (a:=(l.length:Int)) (b:=l.length) (c:=40) (d:=40) (by lia) (by lia) (by lia) (by lia)
   lia
  rw[NY]at b0;refine SJ (λC=>∃(r:ZW) (s:List Mo) (p:Nat),FW (r.map<|rkN l o) p/\r.Perm (XO 1 l.length)/\(∀E,Mv l (rkN l o) r E->Mv l (rkN l o) (XO 1 l.length) (s++E))/\(s.length:Int)+K9 (rkN l o) r=K9 (rkN l o) (XO 1 l.length)/\C=[some (.bor<|plD l),some (.bor<|.lst<|o.map D.int),some (.own<|v.map D.int),some (.own<|r.map D.int),some (.own<|s.map mvD),some (.sh<|.int p)]) mvN ⟨XO 1 l.length,[],p0,H,.refl _,λE h=>h,by simp,rfl⟩ ?_;rintro C ⟨r,s,p,hw,u,hM,hc,rfl⟩;have hl:r.length=l.length:=by rw[u.length_eq,NY]
  have b1:=Se (rkN l o) r;refine Xm (λg=>?_) (λg=>?_)
  ·have g':0<((p:Nat):Int):=WA g;obtain⟨h1,B,h3⟩:=hw.2.resolve_left (by lia);rw[W6]at B;rw[KZ B,KZ (by lia)]at h3;have hs:=GH (rkN l o) h1 B h3;have x:(Kh r p).Perm (XO 1 l.length):=(ET h1 B).trans u;have b2:=Se (rkN l o) (Kh r p)
   have ix:∀(i:Nat) (k:Int),i<r.length->k=(i:Int)->atI (r.map D.int) k=some (.int<|r.getD i 0):=λi k Y e=>by
    rw[e];exact P7 (f:=D.int) (Tu<|by rw[WC,W8 Y];rfl)
   have lm:(s.map mvD).length=s.length:=W6 ..;have M:∀m∈r,1<=m/\m<=l.length:=λm y=>runI_mem.mp (u.mem_iff.mp y);refine⟨_,ix (p-1) _ (by lia) (by lia),_,ix p _ B rfl,?_⟩;refine⟨l,r,p,rfl,hF,M,by lia,by lia,by simp,by lia,?_⟩;refine⟨r,p,rfl,by lia,by lia,by lia,?_⟩;rw[Qy];refine⟨Kh r p,v,rfl,inr _ x,by rw[MJ h1 B];lia,λp' J=>?_⟩;rw[keys _ x]at J;refine⟨⟨Kh r p,s++[((p:Int),r.getD (p-1) 0,r.getD p 0,exM l r p)],p',J,x,λE T=>?_,?_,?_⟩,?_⟩
   ·rw[VB];exact hM _ (.step r p E hw (by lia) T)
   ·rw[WJ,Vb];lia
   ·rw[WS];rfl
   ·show(K9 _ (((Kh r p).map D.int).map toI)).toNat<(K9 _ ((r.map D.int).map toI)).toNat;rw[Sq,Sq,Sq,e0 _ x,e0 _ u];lia
  ·have g':¬0<((p:Nat):Int):=λz=>g (W9 z);have N:p=0:=by lia
   subst N
   have:=hM [] (.done r hw)
   rw[Qv]at this;exact hR s this
def Zev(DD:Def K mg "find_ring" DC ["holders","wishes"])
  : LI ζ:=by
 refine DD.fz Zfy (λT n=>(bc (sS 2 n<|xL a0)<|bc (sF 2<|sO [3,4] WX (iL<|xe (Ks (Bf (K:=K) (w:=w) rfl) (by rfl) G.Zi Js<|az<|pv 0)<|Bq<|sz<|Xi 0) (gN 3)<|bc (sS 4 n<|xf Wc T<|a3 (xv 3) (xv 0)<|xv 1)<|b1<|sI (tp<|wa (tt<|xv 4)<|wA<|tp<|wo (tN<|tt<|xv 2)<|wO<|tc KO KL (xl G.len<|xv 4)<|xl G.len<|xv 2) (b1<|sF 4<|sS 2 n<|xv 4) b0)<|b1<|sF 2<|sV 2)) (.a ?_)
 ·rintro ds R X ⟨B,E,rfl,x,Q,hR⟩;refine⟨rfl,by simp,B,rfl,by lia,λu L v=>?_⟩;have H:u.Pairwise (· < ·):=Sh v (L.nodup_iff.mpr x);refine⟨rfl,K5 (xs:=u) (emb:=D.int) (λi s=>∃r,s=[some (.bor<|.lst<|B.map D.int),some (.bor<|.lst<|E.map prD),some (.sh<|.lst<|r.map D.int),none,none]/\r.length<=60/\FRi B E (u.take i) r) ⟨[],rfl,by simp,.inl ⟨rfl,λl M=>by rw[QK]at M;cases M⟩⟩ ?_ ?_⟩
  ·rintro i N s ⟨r,rfl,o,F⟩
   have h:∀m∈u.take i,m<u[i]:=λm U=>by
    obtain⟨j,Y,e⟩:=Qn.mp U;rw[Qa]at Y;rw[QL]at e;rw[←e];exact Qg.mp H j i (by lia) N (by lia)
   rw[WN N];generalize u[i]=l at h ⊢;refine⟨l,B,E,rfl,x,Q,λf C y=>?_⟩;have ef:(!(f.map D.int).isEmpty)=decide (f≠[]):=by cases f<;>simp
   have er:(!(r.map D.int).isEmpty)=decide (r≠[]):=by cases r<;>simp
   show if (!(f.map D.int).isEmpty)=true then _ else _;rw[ef];refine Xm (λg=>?_) (λg=>XI ⟨r,rfl,o,F.keep h C (.inl (Qd λz=>g (W9 z)))⟩);have A:f≠[]:=WA g;show if (!(!(r.map D.int).isEmpty))=true then _ else _;rw[er];by_cases p:r=[]
   ·rw[Qq (λz=>z p)];exact Ka (Ka ⟨f,rfl,y,F.take h C ⟨A,.inl p⟩⟩)
   ·rw[W9 p];refine XI ?_;show if decide (((f.map D.int).length:Int)<((r.map D.int).length:Int))=true then _ else _;rw[W6,W6];refine Xm (λJ=>?_) (λJ=>?_)
    ·have:=WA J
     exact⟨f,rfl,y,F.take h C ⟨A,.inr (by lia)⟩⟩
    ·have:¬(f.length:Int)<(r.length:Int):=λz=>J (W9 z)
     exact⟨r,rfl,o,F.keep h C (.inr ⟨p,by lia⟩)⟩
  ·rintro s ⟨r,rfl,o,F⟩;rw[Qp]at F;exact hR r (F.all λz=>L.mem_iff) o
def Zjf(DD:Def K mg "least_costs" CY ["strips","wishes","pairs"])
  : HR ζ:=by
 refine DD.fz IB (λN n=>(bc (se (Pu.pz 3 IB.nd<|Zig (Pb<|N ()) (PB Ky) Xu)<|Nq (Zk5 (PY X2) Xr)<|Kl 3)<|bc (sO [4,5] WX (iL<|xp (xf YL N<|a1<|xf Ym N<|a1<|xv 0) (o1 xi) o0) (gN 4)<|bc (sC 5 ["holder","members","wishes"] [none,some 4,some 1] n (je (B6 (K:=K)<|pv 4)<|SndI.c<|Bw<|Xi 4) (gN 0) (f1<|tt<|xf YM N<|a3 (xv 1) (xv 0)<|xv 2)<|xv 0)<|b1<|se (AW (Pb<|N ()) (pv 3) (pv 4) (Ks (Zqe (K:=K) rfl) (by rfl) G.ZQ boot_min<|az<|cz ["last","members","least","pairs"] [none,some 4,some 3,some 2] (Nk (K:=K)<|pv 5) ⟨(gk 0),Nh,(fz Wh (N ())<|XY (pv 1)<|XY (pv 0)<|XY (pv 2)<|XY (pv 3) Ky)⟩) rfl)<|EJ 3 (Xi 4)<|Zi7<|sz<|P5 (Nx<|Xi 5) (Kl 0) NR<|T4<|KM (Xi 1)<|KM (Xi 0)<|KM (Xi 2)<|KM (Xi 3) X2)<|b1<|sV 3)) (.a ?_)
 ·rintro ds R X ⟨C,v,pa,c,rfl,hF,hz,hw,hu,hc,hL,hR⟩;refine⟨rfl,by simp,_,_,rfl,rfl,?_⟩;refine⟨C,rfl,hF,hz,_,rfl,TH C,?_⟩;have hh:=TH C;have nd:(Xo C).Nodup:=(Tc C).imp (λh=>VM h);generalize Xo C=hs at hh nd hc hL hR ⊢;have hsl:=LN hs;have x:=Be hs;have A:=OW nd;have E:=R4 nd
  have y:(XB hs).length<=1024:=by
   rw[hsl];exact Nat.pow_le_pow_right (j:=10) (by decide) hh
  obtain⟨T,eT⟩:=Zq5 hs;rw[eT]at x A E y hR ⊢;refine⟨rfl,rfl,?_⟩
  have ec:Pu.cutD (List.map tD ([]::T)) (some 1) none=T.map tD:=by
   rw[TL,SG _ (by decide)];rfl
  rw[ec];refine K5 (xs:=T) (emb:=tD) (λi B=>∃f:List (List Key×V),B=[some (.bor<|.lst<|C.map prD),some (.bor<|.lst<|v.map prD),some (.bor<|.dT pa),some (.own<|.dT f),none,none]/\Tab v c ([]::T.take i) f) ⟨_,rfl,Zo2 v c⟩ ?_ ?_
  ·rintro i hi B ⟨f,rfl,L⟩;have em:([]::T)[i+1]?=some T[i]:=by rw[QB,W8 hi]
   have hmem:T[i]∈[]::T:=WZ em;have p:=x _ hmem;have Y:T[i]≠[]:=λe=>(Qw.mp E).1 (e▸WW hi)
   have U:T[i]∉[]::T.take i:=λz=>by
    rcases WU.mp z with z|z
    ·exact Y z
    ·obtain⟨j,hj,e⟩:=Qn.mp z;rw[Qa]at hj;rw[QL]at e;exact Qg.mp (Qw.mp E).2 j i (by lia) hi (by lia) e
   have hml:T[i].length<=10:=WK p.length_le hh
   have H:∀l∈T[i],X1 T[i] l∈[]::T.take i:=λl r=>by
    obtain⟨j,hj,e⟩:=A (i+1) _ em l r
    have:([]::T.take i)=([]::T).take (i+1):=by rw[List.take_succ_cons]
    rw[this];refine WZ (i:=j) ?_;rw[QR hj];exact e
   have ndm:T[i].Nodup:=nd.sublist p
   have hkl:f.length<=1024:=by
    have:=Q2 List.length L.keys
    rw[W6,W6,WV,Qa]at this;rw[WV]at y;lia
   have etk:[]::T.take (i+1)=([]::T.take i)++[T[i]]:=by rw[WN hi];rfl
   rw[etk];generalize T[i]=o at *;obtain⟨vs,Q⟩:=IE λl r=>L.val _ (H l r);obtain⟨l0,hl0,hl0'⟩:=hL o p Y;refine⟨_,rfl,Kk (s:=.sh .non) (xs:=o) (emb:=D.int) (λh=>if TQ v o h=true then some (.int h)else none) (by lia) (λh hm=>?_) ?_⟩
   ·refine⟨o,h,v,rfl,hw,?_⟩;refine Xm (λg=>⟨_,rfl,WH g⟩) (λg=>WG g)
   ·rw[Px (λh=>TQ v o h)];refine Kk (xs:=o.filter (λh=>TQ v o h)) (emb:=D.int) (λl=>some (.int (vs l+((X1 o l).map (c · l)).sum))) (WK (Q5 _ _)<|by lia) (λl r=>?_) ?_
    ·obtain⟨u,hl2⟩:=Qh.mp r;exact⟨o,l,f,pa,(c · l),vs l,rfl,by lia,(Q l u).1,λm hm=>hc m (p.subset<|less_sub.subset hm) l (p.subset u),_,rfl,rfl⟩
    ·rw[T1];refine⟨(o.filter (λh=>TQ v o h)).map λl=>vs l+((X1 o l).map (c · l)).sum,by rw[Qr];rfl,?_,λM hM hle=>⟨_,_,Fl o,rfl,by lia,_,rfl,L.put U (Zin ndm hu (λl r=>(Q l r).2) ?_ ?_)⟩⟩
     ·rw[W6];exact List.length_pos_of_mem (Qh.mpr ⟨hl0,lastM_iff.mpr hl0'⟩)
     ·obtain⟨l,r,e⟩:=Qk.mp hM;obtain⟨u,hl2⟩:=Qh.mp r;exact⟨l,u,hl2,e.symm⟩
     ·intro l r J;exact hle _ (Qk.mpr ⟨l,Qh.mpr ⟨r,J⟩,rfl⟩)
  ·rintro B ⟨f,rfl,L⟩;rw[Qp]at L;exact hR f L
def Zkh(s:X8 K (Mk K<|Xz ζ) "__init__" "Village.__init__" EW ["self","strips"])
  : HH ζ:=by
 refine s.fy Zfh (λl n=>(bc (sE<|xg Wb l ExcR.XG<|a1<|xv 1)<|bc (se (Dt (pv 0) (P6 Ky) rfl)<|Co 0 G.Za G.Zb Za4<|P3 X2)<|bc (se (Dt (pv 0) (P6<|az<|PR (F9 (K:=K)) (by rfl) G.Zh boot_list<|az<|pv 1) rfl)<|Co 0 G.Za G.Zd Zde<|P3<|sz<|F0<|sz<|Xi 1)<|b1<|se (Dt (pv 0) (P6<|az<|P6 Ky) rfl)<|Co 0 G.Za G.Ze Zao<|P3<|sz<|P3 X2)) (.c ?_)
 ·rintro o u R X ⟨x,g,rfl,rfl,h,f⟩;refine⟨rfl,g,rfl,h,?_⟩;cases e:Sg g with
  |some c=>
   rw[e]at f;exact⟨_,rfl,⟨rfl,by simp⟩,f⟩
  |none=>
   rw[e]at f;refine⟨by simp,rfl,rfl,by decide,λb1=>?_⟩;refine⟨rfl,by simp,rfl,rfl,by decide,λr=>?_⟩;refine⟨by simp,by simp,rfl,rfl,by decide,λp=>?_⟩;exact⟨_,rfl,⟨rfl,by simp⟩,f b1 r p⟩
def Zp0(z:X8 K (X9 K (Xz ζ) "sell") "sell" "Village.sell" Dk ["self","place","holder"])
  : Ot ζ:=by
 refine z.fy Zg1 (λl n=>(bc (se (Ku<|XC Yo G.Za (hq<|l ()) ExcR.XG<|pv 0)<|Tx<|NB SE (Xi 0) X2)<|bc (sS 3 n<|xg Wd l ExcR.XG<|a3 (xe (XC Yj G.Za (hq<|l ()) XW<|pv 0)<|Kc Tj (Xi 0) X2) (xv 1)<|xv 2)<|b1<|sF 2<|sF 1<|sF 3<|se (Kx<|T3 Yp G.Za (hq<|l ()) XW (pv 0)<|dz (PB<|dz NN (pv 1)<|pv 2) (pv 3)<|XC Yl G.Za (hq<|l ()) XW<|pv 0)<|Tp<|Sd 0 BG<|uz (PY<|uz N4 (Xi 1)<|Xi 2) (Xi 3)<|Kc TN (Xi 0) X2)) (.c ?_)
 ·rintro o A R X ⟨x,b1,y,v,bk,fs,r,f,w,p,h,rfl,rfl,u,B,hw,s,g⟩;refine⟨rfl,?_⟩;unfold F3 at g;refine⟨rfl,rfl,bk,fs++[f],r++[w],rfl,?_⟩;unfold NK;by_cases c:100<=bk.length
  ·rw[WH c]at g ⊢;exact⟨_,rfl,⟨rfl,by simp⟩,g⟩
  ·rw[WG c]at g ⊢;refine⟨rfl,rfl,bk,fs,r++[w],f,rfl,f,p,h,rfl,s,?_⟩;cases e:KU f p h with
   |some c=>
    rw[e]at g;exact⟨_,rfl,⟨rfl,by simp⟩,g⟩
   |none=>
    rw[e]at g;refine⟨rfl,rfl,by simp,rfl,rfl,bk,fs++[f],r,w,rfl,?_⟩;exact⟨x,b1,y,v,bk,fs++[f],r++[w],("sell",[p,h]),TK f p h,w,rfl,rfl,u,by rw[WJ];simp;lia,by rw[WJ];simp;lia,_,rfl,⟨rfl,by simp⟩,g⟩
def Zdy(z:X8 K (X9 K (Xz ζ) "part") "part" "Village.part" D1 ["self","place","width"])
  : Hd ζ:=by
 refine z.fy Zqv (λl n=>(bc (se (Ku<|XC Yo G.Za (hq<|l ()) ExcR.XG<|pv 0)<|Tx<|NB SE (Xi 0) X2)<|bc (sS 3 n<|xg We l ExcR.XG<|a3 (xe (XC Yj G.Za (hq<|l ()) XW<|pv 0)<|Kc Tj (Xi 0) X2) (xv 1)<|xv 2)<|b1<|sF 2<|sF 1<|sF 3<|se (Kx<|T3 Yp G.Za (hq<|l ()) XW (pv 0)<|dz (PB<|dz NN (pv 1)<|pv 2) (pv 3)<|XC Yl G.Za (hq<|l ()) XW<|pv 0)<|Tp<|Sd 0 BG<|uz (PY<|uz N4 (Xi 1)<|Xi 2) (Xi 3)<|Kc TN (Xi 0) X2)) (.c ?_)
 ·rintro o A R X ⟨x,b1,y,v,bk,fs,r,f,w,p,h,rfl,rfl,u,B,hw,s,g⟩;refine⟨rfl,?_⟩;unfold Af at g;refine⟨rfl,rfl,bk,fs++[f],r++[w],rfl,?_⟩;unfold NK;by_cases c:100<=bk.length
  ·rw[WH c]at g ⊢;exact⟨_,rfl,⟨rfl,by simp⟩,g⟩
  ·rw[WG c]at g ⊢;refine⟨rfl,rfl,bk,fs,r++[w],f,rfl,f,p,h,rfl,s,?_⟩;cases e:Kp f p h with
   |some c=>
    rw[e]at g;exact⟨_,rfl,⟨rfl,by simp⟩,g⟩
   |none=>
    rw[e]at g;refine⟨rfl,rfl,by simp,rfl,rfl,bk,fs++[f],r,w,rfl,?_⟩;exact⟨x,b1,y,v,bk,fs++[f],r++[w],("part",[p,h]),PK f p h,w,rfl,rfl,u,by rw[WJ];simp;lia,by rw[WJ];simp;lia,_,rfl,⟨rfl,by simp⟩,g⟩
def Zcu(y:X8 K (X9 K (Xz ζ) "unite") "unite" "Village.unite" EL ["self","place"])
  : R5 ζ:=by
 refine y.fy Zh8 (λh n=>(bc (se (Ku<|XC Yo G.Za (hq<|h ()) ExcR.XG<|pv 0)<|Tx<|NB SE (Xi 0) X2)<|bc (sS 2 n<|xg Wf h ExcR.XG<|a2 (xe (XC Yj G.Za (hq<|h ()) XW<|pv 0)<|Kc Tj (Xi 0) X2)<|xv 1)<|b1<|sF 1<|sF 2<|se (Kx<|T3 Yp G.Za (hq<|h ()) XW (pv 0)<|dz (PB<|bz NN<|pv 1) (pv 2)<|XC Yl G.Za (hq<|h ()) XW<|pv 0)<|Tp<|Sd 0 BG<|uz (PY<|tz N4<|Xi 1) (Xi 2)<|Kc TN (Xi 0) X2)) (.c ?_)
 ·rintro o z R X ⟨x,b1,v,u,bk,fs,l,f,w,p,rfl,rfl,s,A,hw,r,g⟩;refine⟨rfl,?_⟩;unfold Fj at g;refine⟨rfl,rfl,bk,fs++[f],l++[w],rfl,?_⟩;unfold NK;by_cases c:100<=bk.length
  ·rw[WH c]at g ⊢;exact⟨_,rfl,⟨rfl,by simp⟩,g⟩
  ·rw[WG c]at g ⊢;refine⟨rfl,rfl,bk,fs,l++[w],f,rfl,f,p,rfl,r,?_⟩;cases e:XX f p with
   |some c=>
    rw[e]at g;exact⟨_,rfl,⟨rfl,by simp⟩,g⟩
   |none=>
    rw[e]at g;refine⟨rfl,rfl,by simp,rfl,rfl,bk,fs++[f],l,w,rfl,?_⟩;exact⟨x,b1,v,u,bk,fs++[f],l++[w],("unite",[p]),PP f p,w,rfl,rfl,s,by rw[WJ];simp;lia,by rw[WJ];simp;lia,_,rfl,⟨rfl,by simp⟩,g⟩
def Zo8(z:X8 K (X9 K (Xz ζ) "wish") "wish" "Village.wish" Er ["self","ahead","behind"])
  : GN ζ:=by
 refine z.fy Zmt (λl n=>(bc (se (Ku<|XC Yo G.Za (hq<|l ()) ExcR.XG<|pv 0)<|Tx<|NB SE (Xi 0) X2)<|bc (sS 3 n<|xg Wg l ExcR.XG<|a3 (xe (XC Yl G.Za (hq<|l ()) XW<|pv 0)<|Kc TN (Xi 0) X2) (xv 1)<|xv 2)<|b1<|sF 2<|sF 1<|sF 3<|se (Kx<|T3 Yp G.Za (hq<|l ()) XW (pv 0)<|dz (PB<|dz NN (pv 1)<|pv 2) (XC Yj G.Za (hq<|l ()) XW<|pv 0)<|pv 3)<|Tp<|Sd 0 BG<|uz (PY<|uz N4 (Xi 1)<|Xi 2) (Kc Tj (Xi 0) X2)<|Xi 3)) (.c ?_)
 ·rintro o A R X ⟨x,b1,y,v,bk,fs,r,f,w,p,h,rfl,rfl,u,B,hw,s,g⟩;refine⟨rfl,?_⟩;unfold Fx at g;refine⟨rfl,rfl,bk,fs++[f],r++[w],rfl,?_⟩;unfold NK;by_cases c:100<=bk.length
  ·rw[WH c]at g ⊢;exact⟨_,rfl,⟨rfl,by simp⟩,g⟩
  ·rw[WG c]at g ⊢;refine⟨rfl,rfl,bk,fs++[f],r,w,rfl,w,p,h,rfl,s,?_⟩;cases e:Ke w p h with
   |some c=>
    rw[e]at g;exact⟨_,rfl,⟨rfl,by simp⟩,g⟩
   |none=>
    rw[e]at g;refine⟨rfl,rfl,by simp,rfl,rfl,bk,fs,r++[w],f,rfl,?_⟩;exact⟨x,b1,y,v,bk,fs++[f],r++[w],("wish",[p,h]),f,w++[(p,h)],rfl,rfl,u,by rw[WJ];simp;lia,by rw[WJ];simp;lia,_,rfl,⟨rfl,by simp⟩,g⟩
def Zpo(M:Def K mg "_law_opening" Ay ["_law_script","_law_menu_here"])
  : GJ ζ:=by
 refine M.fz OI (λl n=>(bc (sS 2 n<|xf Yq l<|a2 (xf Yk l<|a2 (xv 0) xi) xi)<|bc (se (λ{_}=>(@Pu.pz _ _ _ _ _ _ 3 OI.nd (@Lq _ _ _ _ _ _ _ (O1 (K:=K)) (@P6 _ _ _ _<|@XY _ _ _ _ _ Xu (@XY _ _ _ _ _ Xu (@XY _ _ _ _ _ Xu (@XY _ _ _ _ _ Xu (@XY _ _ _ _ _ Xu (@XY _ _ _ _ _ Xu (@XY _ _ _ _ _ Xu (@XY _ _ _ _ _ Xu (@XY _ _ _ _ _ (jx K (pv 1) Xu) Ky rfl) rfl) rfl) rfl) rfl) rfl) rfl) rfl) rfl) (P4 X7 (pv 2) Xu) (λ_ _=>rfl)) rfl (by first|exact Or.inl rfl|exact Or.inr rfl) rfl (by first|exact .inl rfl|exact .inr rfl|assumption)))<|Nq (XM (P3<|KM Xr<|KM Xr<|KM Xr<|KM Xr<|KM Xr<|KM Xr<|KM Xr<|KM Xr<|KM (XM (Xi 1) Xr) X2)<|XA (Xi 2) Xr)<|Kl 3)<|bc (sS 4 n<|xL a0)<|bc (sO [5,6] WX (ir G.Zc<|a1<|xv 3) (gN 5)<|bc (sS 6 n<|xf Y3 l<|a2 (xf Yq l<|a2 (xv 2)<|xo X3 X4 xi<|xv 5)<|xv 1)<|bj (sI (tq l (xo X7 XA (xv 2) xi) xi) (b1<|sS 6 n<|xt<|a2 (xo X3 X4 xi<|xo X7 XA (xo X3 X4 (xv 2)<|xv 5) xi)<|xo X3 X4 xi<|xo X7 XA (xo X3 X4 (xo X3 X4 (xo X3 X4 (xv 2)<|xv 5) xi)<|xo Ki Kf (xv 5) xi) xi) b0)<|bj (sI (tq l (xo X7 XA (xv 2) xi) xi) (b1<|sS 6 n<|xt<|a2 (xf Yn l<|a2 (xv 1)<|xv 5)<|xf Yn l<|a2 (xv 1)<|xo X7 XA (xo X3 X4 (xv 5) xi)<|xv 3) b0)<|b1<|sA 4<|xt<|a3 xs (xx (xv 6) xi)<|xx (xv 6) xi)<|b1<|sV 4)) (.a ?_)
 ·rintro ds R X ⟨r,m,rfl,A,L⟩;refine⟨rfl,?_⟩;have o:=A;obtain⟨a,b,c,d,e,rfl,Y,U,T,hd,Q⟩:=A;refine⟨r,1,rfl,by decide,_,_,rfl,?_⟩;generalize mixP (r.getD (1:Int).toNat 0) 300=p;have B:0<=p % 9/\p % 9<9:=by lia
  obtain⟨many,em,N⟩:∃v:Int,atI ([0,1,2,3,4,6,9,24,a].map D.int) (p % 9)=some (.int v)/\0<=v/\v<=24:=by
   refine⟨_,KP (f:=D.int) (xs:=[0,1,2,3,4,6,9,24,a]) B.1 B.2,?_⟩
   have s:∀v∈([0,1,2,3,4,6,9,24,a]:ZW),0<=v/\v<=24:=by
    intro v z;simp at z;rcases z with rfl|rfl|rfl|rfl|rfl|rfl|rfl|rfl|rfl<;>lia
   exact s _ (WW _)
  refine⟨_,rfl,by simp,(by show(0:Int)<9;decide),_,em,by simp,⟨by lia,by lia⟩,?_⟩;refine Tg (λi g=>∃h:ZV,h.length=i/\g=[some (.bor<|.scr r),some (.bor<|.lst (([a,b,c,d,e]:ZW).map D.int)),some (.sh<|.int p),some (.sh<|.int many),some (.own (h.map λq=>dD (Dd.wish q.1 q.2).q)),none,none]) ⟨[],rfl,rfl⟩ ?_ ?_
  ·rintro i g J ⟨h,hq,rfl⟩;have H:i<many.toNat:=J;have E:(h.map λq=>dD (Dd.wish q.1 q.2).q).length=h.length:=W6 ..;refine⟨_,_,rfl,_,_,rfl,o,λu p2=>?_⟩;refine Pk (λg=>∃(x y:Int),g=[some (.bor<|.scr r),some (.bor<|.lst (([a,b,c,d,e]:ZW).map D.int)),some (.sh<|.int p),some (.sh<|.int many),some (.own (h.map λq=>dD (Dd.wish q.1 q.2).q)),some (.sh<|.int (0+(i:Int))),some (.sh<|prD (x,y))]) ?_ ?_
   ·refine⟨(by show(0:Int)<9;decide),Xm (λ_=>?_) (λ_=>⟨u,p2,rfl⟩)⟩;exact⟨(by show(0:Int)<10;decide),⟨by decide,by decide⟩,(by show(0:Int)<10;decide),by simp,_,_,rfl⟩
   ·rintro g ⟨u,p2,rfl⟩;refine Pk (λg=>∃(x y:Int),g=[some (.bor<|.scr r),some (.bor<|.lst (([a,b,c,d,e]:ZW).map D.int)),some (.sh<|.int p),some (.sh<|.int many),some (.own (h.map λq=>dD (Dd.wish q.1 q.2).q)),some (.sh<|.int (0+(i:Int))),some (.sh<|prD (x,y))]) ?_ ?_
    ·refine⟨(by show(0:Int)<9;decide),Xm (λ_=>?_) (λ_=>⟨u,p2,rfl⟩)⟩;exact⟨_,_,rfl,o,λh1 _ _ _=>⟨(by show 0<many;lia),_,_,rfl,o,λh2 _ _ _=>⟨by simp,_,_,rfl⟩⟩⟩
    ·rintro g ⟨x,y,rfl⟩;refine⟨_,KD _ _,_,Al _ _ (.inr rfl),by simp,by lia,?_⟩;exact⟨h++[(x,y)],by rw[WJ,hq];rfl,by rw[WS];rfl⟩
  ·rintro g ⟨h,hq,rfl⟩;have C:h.length=many.toNat:=hq;exact L h (by lia)
def Zia(DD:Def K mg "_law_deed" A2 ["_law_cell","_law_menu_here","_law_now"])
  : G8 ζ:=by
 refine DD.fz Zg5 (λl n=>(bc (sS 3 n<|xo X7 XA (xv 0) xi)<|bc (sS 4 n<|xo Ki Kf (xv 0) xi)<|bc (sS 5 n<|xf YZ l<|a2 (xv 4)<|xx (xv 2) xi)<|bc (sS 6 n<|xo Ki Kf (xo Ki Kf (xv 4) xi)<|xe (Ks (Ey rfl) (by rfl) G.Z1 boot_max<|bz Xu<|ln K G.len<|jx K (pv 2) Xu)<|Eh<|tz Xr<|Sm<|sz<|XM (Xi 2) Xr)<|bc (sI (tc KO KL (xv 3) xi) (b1<|sF 5<|sR<|xt<|a3 xs (xv 5)<|xf Yw l<|a2 (xv 6)<|xf Yn l<|a2 (xv 1)<|xo X7 XA (xo Ki Kf (xv 6) xi)<|xx (xv 1) xi) b0)<|bc (sI (tc KO KL (xv 3) xi) (b1<|sF 5<|sR<|xt<|a3 xs (xv 5)<|xf Wa l<|a3 (xv 6) (xx (xv 2) xi)<|xv 5) b0)<|bc (sI (tq l (xv 3) xi) (b1<|sF 5<|sR<|xt<|a2 xs<|xv 5) b0)<|bc (sS 7 n<|xf Y3 l<|a2 (xv 4)<|xv 1)<|bj (sI (tp<|wa (tq l (xv 3) xi)<|wa (tc K6 K0 (xo X7 XA (xv 4) xi) xi)<|wA<|te (Pv (Dg (K:=K)<|show _<cLine from(l ()).units0) (jx K (pv 2) Xu) (P6 Ky)<|KY _)<|Kr<|BV (XM (Xi 2) Xr)<|P3 X2) (b1<|sS 7 n<|xx (xx (xv 2) xi)<|xo X7 XA (xo Ki Kf (xv 4) xi)<|xl G.len<|xx (xv 2) xi) b0)<|bc (sI (tc KO KL (xv 3) xi) (b1<|sR<|xt<|a3 (xx (xL<|a2 xs xs)<|xo Ki Kf (xv 3) xi) (xx (xv 7) xi)<|xx (xv 7) xi) b0)<|b1<|sR<|xt<|a1 xs)) (.a ?_)
 ·rintro ds R X ⟨c,m,f,w,Q,rfl,N,M,hF,hw,u,hB⟩;refine⟨rfl,?_⟩;have x:=N;have o:atI (plD f::plD w::Q) 1=some (plD w):=BU (by decide) rfl;have hl:(f.map prD).length=f.length:=W6 ..;have Y:(w.map prD).length=w.length:=W6 ..;have A:∀z:Int,0<(if z>1 then z else 1)/\((if z>1 then z else 1)=z\/(if z>1 then z else 1)=1):=λz=>by split<;>lia
  have s:=A (((f.map prD).length:Nat):Int);refine⟨(by show(0:Int)<9;decide),⟨by decide,by decide⟩,_,KD _ _,_,f,rfl,M,λp=>?_⟩;refine⟨⟨by decide,by decide⟩,_,KD _ _,⟨s.1,Int.lt_of_le_of_lt (b:=1000) (by rcases s.2 with w|w<;>rw[w]<;>lia) (by decide)⟩,?_⟩
  obtain⟨L,m1,m2,m3,m4,em,ha,hb,hc,hd,he⟩:=N;have U:atI (m.map D.int) 0=some (.int L):=by rw[em];rfl
  refine Xm (λ_=>?_) (λ_=>Xm (λ_=>?_) (λ_=>Xm (λ_=>?_) (λg4=>?_)))
  ·exact⟨⟨by decide,by decide⟩,_,U,(by show 0<L;lia),m,_,rfl,x,λh _ _ _=>⟨_,_,rfl,λv=>⟨by simp,u (.sell p v)⟩⟩⟩
  ·exact⟨_,KD _ _,_,f,p,rfl,M,hF,λv=>⟨by simp,u (.part p v)⟩⟩
  ·exact⟨by simp,u (.unite p)⟩
  ·refine⟨_,m,rfl,x,λa b=>?_⟩;refine Pk (λr=>∃(a b:Int) (J H E:Option S),r=[some (.sh<|.int c),some (.bor<|.lst<|m.map D.int),some (.bor<|.tup (plD f::plD w::Q)),some (.sh<|.int (c % 9)),J,H,E,some (.sh<|prD (a,b))]) ?_ ?_
   ·refine Xm (λ_=>⟨(by show(0:Int)<4;decide),Xm (λ_=>⟨_,o,by simp,?_⟩) (λ_=>XI ⟨a,b,_,_,_,rfl⟩)⟩) (λ_=>XI ⟨a,b,_,_,_,rfl⟩);have C:(w.map prD).isEmpty=decide (w=[]):=by cases w<;>simp
    show if (!(w.map prD).isEmpty)=true then _ else _;rw[C];refine Xm (λg=>?_) (λg=>⟨a,b,_,_,_,rfl⟩);have y:w≠[]:=λz=>by rw[W9 z]at g;cases g
    have hp:0<w.length:=V5.mpr y;have T:=Int.emod_nonneg (c / 9 / 4) (show(((w.map prD).length:Nat):Int)≠0 by lia);have q2:=JV (c / 9 / 4) (show 0<(((w.map prD).length:Nat):Int) by lia);exact⟨_,o,⟨by decide,by decide⟩,_,o,(by show 0<(((w.map prD).length:Nat):Int);lia),_,KP (f:=prD) (xs:=w) T (by lia),_,_,_,_,_,rfl⟩
   ·rintro r ⟨a,b,J,H,E,rfl⟩;refine Xm (λg=>?_) (λg=>⟨by simp,hB⟩);have g':c % 9<8:=WA g;have hk:c % 9 / 7=0\/c % 9 / 7=1:=by lia
    have ex:∃k:Str,atI [D.str "wish",.str "drop"] (c % 9 / 7)=some (.str k)/\(k=("wish" : Str)\/k=("drop" : Str)):=by
     rcases hk with e|e<;>rw[e]
     ·exact⟨_,rfl,.inl rfl⟩
     ·exact⟨_,rfl,.inr rfl⟩
    obtain⟨k,ek,B⟩:=ex;refine⟨by simp,⟨by decide,by decide⟩,_,ek,_,KD _ _,_,Al _ _ (.inr rfl),by simp,?_⟩;rcases B with rfl|rfl
    ·exact u (.wish a b)
    ·exact u (.drop a b)
def Zhw(z:Def K mg "check_no_ring" Eo ["strips","wishes"])
  : L4 ζ:=by
 refine z.fy Znf (λf n=>(bc (sS 2 n<|xf Y4 f<|a2 (xf Ym f<|a1<|xv 0)<|xv 1)<|b1<|sI (tt<|xv 2) (b1<|sF 2<|se (ExcR.Zkf YC (hq<|f ()) G.Zg ExcR.Zj4 rfl rfl<|az<|pv 2)<|Zg4<|sz<|Xi 2) b0)) (.a ?_)
 ·rintro C R X ⟨l,o,rfl,y,p,s,u,v⟩;refine⟨rfl,l,rfl,y,p,_,o,rfl,(Tc l).imp (λh=>VM h),WK (TH l) (by decide),λr f B=>?_⟩;by_cases e:r=[]
  ·have x:=(f.none_iff s).mp e;subst e;exact XI (A:=False) (v x)
  ·have hx:=u r f e;refine Xm (λ_=>⟨r,rfl,hx⟩) (λg=>absurd g ?_);cases r with
   |nil=>exact absurd rfl e
   |cons a t=>simp
def Zcz(v:X8 K (X9 K (Xz ζ) "ring") "ring" "Village.ring" EF ["self"])
  : GZ ζ:=by
 refine v.fz Znn (λg n=>(b1<|sr<|xf Y4 g<|a2 (xf Ym g<|a1<|xe (XC Yj G.Za (hq<|g ()) XW<|pv 0)<|Kc Tj (Xi 0) X2)<|xe (XC Yl G.Za (hq<|g ()) XW<|pv 0)<|Kc TN (Xi 0) X2)) (.a ?_)
 ·rintro x R X ⟨bk,fs,l,f,w,rfl,u,o,s⟩;refine⟨rfl,rfl,rfl,bk,fs,l++[w],f,rfl,f,rfl,u,o,rfl,rfl,bk,fs++[f],l,w,rfl,?_⟩;exact⟨_,w,rfl,(Tc f).imp (λh=>VM h),WK (TH f) (by decide),λr g p=>s r g p⟩
def Zrr(B:Def K mg "_law_call" Cg ["_law_village","_law_deed_here"])
  : ON ζ:=by
 refine B.fy Ziq (λu n=>(bc (sI (tq u (xx (xv 1) xi) xs) (b1<|se (Kx<|T3 Ws G.Za (hq<|u ()) ExcR.XG (pv 0)<|bz (jx K (pv 1) Xu)<|jx K (pv 1) Xu)<|Tp<|BJ 0 Zhy<|tz (XM (Xi 1) Xr)<|XM (Xi 1) Xr) b0)<|bc (sI (tq u (xx (xv 1) xi) xs) (b1<|se (Kx<|T3 Wt G.Za (hq<|u ()) ExcR.XG (pv 0)<|bz (jx K (pv 1) Xu)<|jx K (pv 1) Xu)<|Tp<|BJ 0 Zaz<|tz (XM (Xi 1) Xr)<|XM (Xi 1) Xr) b0)<|bc (sI (tq u (xx (xv 1) xi) xs) (b1<|se (Kx<|T3 Wu G.Za (hq<|u ()) ExcR.XG (pv 0)<|az<|jx K (pv 1) Xu)<|Tp<|BJ 0 Zih<|sz<|XM (Xi 1) Xr) b0)<|bc (sI (tq u (xx (xv 1) xi) xs) (b1<|se (Kx<|T3 Wv G.Za (hq<|u ()) ExcR.XG (pv 0)<|bz (jx K (pv 1) Xu)<|jx K (pv 1) Xu)<|Tp<|BJ 0 Zq3<|tz (XM (Xi 1) Xr)<|XM (Xi 1) Xr) b0)<|b1<|se (Kx<|T3 Wj G.Za (hq<|u ()) ExcR.XG (pv 0)<|bz (jx K (pv 1) Xu)<|jx K (pv 1) Xu)<|Tp<|BJ 0 Zer<|tz (XM (Xi 1) Xr)<|XM (Xi 1) Xr)) (.c ?_)
 ·rintro o C R X ⟨x,b1,s,r,bk,fs,l,f,w,d,rfl,rfl,y,v,hw,z,A,g⟩;refine⟨rfl,?_⟩;cases d with
  |sell p h=>
   refine⟨_,rfl,?_⟩;refine⟨rfl,rfl,_,rfl,_,rfl,x,b1,s,r,bk,fs,l,f,w,p,h,rfl,rfl,y,v,hw,z,?_⟩;have g:Kj (F3 bk f p h) (X<|vO (ExcR.Xp mg "Village") x b1 s r bk (fs++[f]) (l++[w])) (R (vO (ExcR.Xp mg "Village") x b1 s r (bk++[(Dd.sell p h).q]) (fs++[f]++[(Dd.sell p h).fld f]) (l++[w]++[(Dd.sell p h).wsh w]))<|.int (bk.length+1)):=g;cases e:F3 bk f p h with
   |some c=>rw[e]at g;exact⟨_,rfl,⟨rfl,by simp⟩,g⟩
   |none=>rw[e]at g;exact⟨_,rfl,⟨rfl,by simp⟩,g⟩
  |part p h=>
   refine⟨_,rfl,_,rfl,?_⟩;refine⟨rfl,rfl,_,rfl,_,rfl,x,b1,s,r,bk,fs,l,f,w,p,h,rfl,rfl,y,v,hw,z,?_⟩;have g:Kj (Af bk f p h) (X<|vO (ExcR.Xp mg "Village") x b1 s r bk (fs++[f]) (l++[w])) (R (vO (ExcR.Xp mg "Village") x b1 s r (bk++[(Dd.part p h).q]) (fs++[f]++[(Dd.part p h).fld f]) (l++[w]++[(Dd.part p h).wsh w]))<|.int (bk.length+1)):=g;cases e:Af bk f p h with
   |some c=>rw[e]at g;exact⟨_,rfl,⟨rfl,by simp⟩,g⟩
   |none=>rw[e]at g;exact⟨_,rfl,⟨rfl,by simp⟩,g⟩
  |unite p=>
   refine⟨_,rfl,_,rfl,_,rfl,?_⟩;refine⟨rfl,rfl,_,rfl,x,b1,s,r,bk,fs,l,f,w,p,rfl,rfl,y,v,hw,z,?_⟩;have g:Kj (Fj bk f p) (X<|vO (ExcR.Xp mg "Village") x b1 s r bk (fs++[f]) (l++[w])) (R (vO (ExcR.Xp mg "Village") x b1 s r (bk++[(Dd.unite p).q]) (fs++[f]++[(Dd.unite p).fld f]) (l++[w]++[(Dd.unite p).wsh w]))<|.int (bk.length+1)):=g;cases e:Fj bk f p with
   |some c=>rw[e]at g;exact⟨_,rfl,⟨rfl,by simp⟩,g⟩
   |none=>rw[e]at g;exact⟨_,rfl,⟨rfl,by simp⟩,g⟩
  |wish p h=>
   refine⟨_,rfl,_,rfl,_,rfl,_,rfl,?_⟩;refine⟨rfl,rfl,_,rfl,_,rfl,x,b1,s,r,bk,fs,l,f,w,p,h,rfl,rfl,y,v,hw,A,?_⟩;have g:Kj (Fx bk w p h) (X<|vO (ExcR.Xp mg "Village") x b1 s r bk (fs++[f]) (l++[w])) (R (vO (ExcR.Xp mg "Village") x b1 s r (bk++[(Dd.wish p h).q]) (fs++[f]++[(Dd.wish p h).fld f]) (l++[w]++[(Dd.wish p h).wsh w]))<|.int (bk.length+1)):=g;cases e:Fx bk w p h with
   |some c=>rw[e]at g;exact⟨_,rfl,⟨rfl,by simp⟩,g⟩
   |none=>rw[e]at g;exact⟨_,rfl,⟨rfl,by simp⟩,g⟩
  |drop p h=>
   refine⟨_,rfl,_,rfl,_,rfl,_,rfl,?_⟩;refine⟨rfl,rfl,_,rfl,_,rfl,x,b1,s,r,bk,fs,l,f,w,p,h,rfl,rfl,y,v,hw,A,?_⟩;have g:Kj (Fs bk w p h) (X<|vO (ExcR.Xp mg "Village") x b1 s r bk (fs++[f]) (l++[w])) (R (vO (ExcR.Xp mg "Village") x b1 s r (bk++[(Dd.drop p h).q]) (fs++[f]++[(Dd.drop p h).fld f]) (l++[w]++[(Dd.drop p h).wsh w]))<|.int (bk.length+1)):=g;cases e:Fs bk w p h with
   |some c=>rw[e]at g;exact⟨_,rfl,⟨rfl,by simp⟩,g⟩
   |none=>rw[e]at g;exact⟨_,rfl,⟨rfl,by simp⟩,g⟩
def Zhj(J:Def K mg "cost_table" DE ["strips","wishes"])
  : Mm ζ:=by
 refine J.fy Zjm (λp n=>(bc (sE<|xg Y6 p ExcR.XG<|a2 (xv 0)<|xv 1)<|bc (sS 2 n<|xf Y5 p<|a3 (xv 0) (xv 1)<|xf Y2 p<|a1<|xv 0)<|b1<|sR<|xe (PR (Zmk rfl) (by rfl) G.Zh boot_list<|XY (Zrm (K:=K)<|pv 2) Ky)<|Znm<|Xi 2)) (.a ?_)
 ·rintro L R X ⟨f,v,rfl,u,l,hw,o,C,s⟩;refine⟨rfl,f,v,rfl,u,l,o,C,λx=>?_⟩;have s:=s x;refine⟨f,rfl,u,l,λz r=>⟨f,v,z,pcc f,rfl,u,l,hw,o,r,Lp o x,λg T=>?_⟩⟩;have A:(Xo f).Nodup:=(Tc f).imp (λh=>VM h);obtain⟨y,e,B⟩:=T.vals (R4 A);obtain⟨H,E⟩:=IZ e;refine⟨g,rfl,H,?_⟩;rw[E];exact s y B
def Zm5(DD:Def K mg "best_order" De ["strips","wishes"])
  : HS ζ:=by
 refine DD.fy Gz (λA n=>(bc (sE<|xg Y6 A ExcR.XG<|a2 (xv 0)<|xv 1)<|bc (sS 2 n<|xf Y2 A<|a1<|xv 0)<|bc (se (Pu.pz 3 Gz.nd<|fz Y5 (A ())<|dz (pv 0) (pv 1)<|pv 2)<|Nq (T4<|uz (Xi 0) (Xi 1)<|Xi 2)<|Kl 3)<|bc (sS 4 n<|xe (PR (Zac (K:=K)) (by rfl) G.Zr boot_tuple<|az<|fz Ym (A ())<|az<|pv 0)<|HJ<|sz<|T4<|sz<|Xi 0)<|bc (sS 5 n<|xL a0)<|bc (sW [6,7] ExcR.Ax (tt<|xv 4)<|bc (sC 6 ["holder","members","wishes"] [none,some 4,some 1] n (je (B6 (K:=K)<|pv 4)<|SndI.c<|Bw<|Xi 4) (gN 0) (f1<|tt<|xf YN A<|a3 (xv 1) (xv 0)<|xv 2)<|xv 0)<|bc (sC 7 ["first","members","least","pairs"] [none,some 4,some 3,some 2] n (jL<|xv 6) (gN 0) (f1<|tq A (xf Wi A<|ac (xv 1)<|ac (xv 0)<|ac (xv 2)<|ac (xv 3) a0)<|xe (BM (Pb<|A ()) (pv 2) (pv 1) (λ_ _=>rfl))<|BO (Xi 2)<|Xi 1)<|xv 0)<|bc (sA 5<|xx (xv 7) xi)<|b1<|sS 4 n<|xf Yv A<|a2 (xv 4)<|xx (xv 7) xi)<|b1<|sV 5)) (.a ?_)
 ·rintro ds R X ⟨z,v,rfl,hF,hz,hw,hu,hX,hR⟩;refine⟨rfl,z,v,rfl,hF,hz,hu,hX,λhN=>?_⟩;have hR:=hR hN;refine⟨z,rfl,hF,hz,λpa hpa=>⟨z,v,pa,pcc z,rfl,hF,hz,hw,hu,hpa,Lp hu hN,λkvs T=>⟨z,rfl,hF,hz,?_⟩⟩⟩;have hh:=TH z;have hri:=Tc z;have nd:(Xo z).Nodup:=hri.imp (λh=>VM h);have hpa':∀x∈Xo z,∀y∈Xo z,X0 pa [.inl x,.inl y]=some (.int<|pcc z x y):=hpa;generalize pcc z=c at *;generalize Xo z=Y at *
  refine⟨rfl,by simp,SJ (λγ'=>∃(u o:ZW),γ'=[some (.bor<|.lst<|z.map prD),some (.bor<|.lst<|v.map prD),some (.own<|.dT pa),some (.own<|.dT kvs),some (.sh<|tD u),some (.own<|o.map D.int),none,none]/\u∈XB Y/\o.length+u.length<=10/\
   ∀p,KR v c u p->KR v c Y (o++p)) Zh9 ⟨Y,[],rfl,List.mem_of_getLast? (IC Y),by simpa using hh,λp hp=>hp⟩ ?_⟩
  rintro γ' ⟨u,o,rfl,M,hol,hB⟩;show if (!(u.map D.int).isEmpty)=true then _ else _;refine Xm (λg=>?_) (λg=>?_)
  ·have E:=Be Y u M;have hne:u≠[]:=λe=>by subst e;simp at g
   have C:u.Nodup:=nd.sublist E;have hrm:=hri.sublist E
   have B:∀l∈u,X1 u l∈XB Y:=λl N=>by
    obtain⟨k,hk,e⟩:=Qn.mp M;obtain⟨j,_,ej⟩:=OW nd k u (by rw[W8 hk,e]) l N;exact WZ ej
   obtain⟨J,hvs⟩:=IE λl N=>T.val _ (B l N);obtain⟨V,hV1,U⟩:=T.val u M;have hv2:∀l∈u,KS v c (X1 u l) (J l):=λl N=>(hvs l N).2
   have L:∃f rest,(u.filter (λh=>firstM v u h)).filter (λf=>decide (J f+((X1 u f).map (c f)).sum=V))=f::rest:=by
    obtain⟨q,q1,q2,q3⟩:=U.is;cases q with
    |nil=>exact absurd q1.nil_eq.symm hne
    |cons g p=>
     obtain⟨r1,r2,r3,_⟩:=Hh C hu hv2 U q1 q2 q3;exact List.exists_cons_of_ne_nil (List.ne_nil_of_mem<|Qh.mpr ⟨Qh.mpr ⟨r1,r2⟩,W9 r3⟩)
   obtain⟨f,rest,ef⟩:=L;have Q:f∈(u.filter (λh=>firstM v u h)).filter (λf=>decide (J f+((X1 u f).map (c f)).sum=V)):=by rw[ef];exact Qs ..
   obtain⟨Q,hf3⟩:=Qh.mp Q;obtain⟨H,hf2⟩:=Qh.mp Q
   have hmin:∀g∈u,firstM v u g=true->J g+((X1 u g).map (c g)).sum=V->f<=g:=λg h1 h2 h3=>by
    have hg:g∈(u.filter (λh=>firstM v u h)).filter (λf=>decide (J f+((X1 u f).map (c f)).sum=V)):=Qh.mpr ⟨Qh.mpr ⟨h1,h2⟩,W9 h3⟩
    have A:(f::rest).Pairwise (· < ·):=by
     rw[←ef];exact(hrm.filter _).filter _
    rw[ef]at hg;rcases WU.mp hg with e|hg
    ·lia
    ·have:=(QT.mp A).1 g hg
     lia
   refine⟨_,rfl,Kk (s:=.sh .non) (xs:=u) (emb:=D.int) (λh=>if firstM v u h=true then some (.int h)else none) (by lia) (λh hm=>?_) ?_⟩
   ·refine⟨u,h,v,rfl,hw,?_⟩;refine Xm (λg=>⟨_,rfl,WH g⟩) (λg=>WG g)
   ·rw[Px (λh=>firstM v u h)];refine Kk (xs:=u.filter (λh=>firstM v u h)) (emb:=D.int) (λf=>if decide (J f+((X1 u f).map (c f)).sum=V)=true then some (.int f)else none) (WK (Q5 _ _)<|by lia) (λl N=>?_) ?_
    ·obtain⟨hl1,hl2⟩:=Qh.mp N;refine⟨u,l,kvs,pa,c l,J l,rfl,by lia,(hvs l hl1).1,λm hm=>hpa' l (E.subset hl1) m (E.subset<|less_sub.subset hm),_,_,Fl u,hV1,rfl,?_⟩;refine Xm (λg=>⟨_,rfl,WH g⟩) (λg=>WG g)
    ·rw[Px (λf=>decide (J f+((X1 u f).map (c f)).sum=V)),ef];refine⟨_,KD _ _,by rw[W6];lia,_,KD _ _,u,f,rfl,by lia,⟨X1 u f,o++[f],?_,B f H,?_,λp hp=>?_⟩,?_⟩
     ·rw[WS];rfl
     ·have:=(TU C H).length_eq
      rw[WJ];rw[WV]at this;show o.length+1+_<=10;lia
     ·rw[VB];exact hB _ (Zas C hu hv2 U H hf2 (WA hf3) hmin hp)
     ·have:=(TU C H).length_eq
      rw[WV]at this;show((X1 u f).map D.int).length<(u.map D.int).length;rw[W6,W6];lia
  ·have e:u=[]:=by
    cases u with
    |nil=>rfl
    |cons a r=>exact absurd rfl g
   subst e
   have:=hB [] (Zgj v c)
   rw[Qv]at this;exact hR o this
def Zl2(DD:Def K mg "_law_go" Gg ["_law_village","_law_past","_law_deed_here"])
  : Zae ζ:=by
 refine DD.fz OL (λo n=>(bc (sI (tq o (xx (xv 2) xi) xs) (bj (sI (tc K6 K0 (xl G.len<|xv 1) xi) (bc (se (Ku<|XC YO G.Za (hq<|o ()) Nf<|pv 0)<|Nv<|Sd 0 Ze5 X2)<|b1<|se (Ku<|SL Qc VI VJ FP<|pv 1)<|Nv<|Zi6 1) b0)<|b1<|se (Kx N1)<|BZ NC) b0)<|bc (sF 2<|sS 3 n<|xe (fz Wm (o ())<|bz (jx K (pv 1)<|Pi Pe Xu)<|pv 2)<|Dz<|tz (XM (Xi 1)<|Pf Xr)<|Xi 2)<|bc (sI (tc K6 K0 (xx (xv 3) xi) xi) (b1<|se (Kx N1)<|BZ NC) b0)<|bc (sF 2<|sA 1<|xt<|a3 (xx (xv 3) xi) (xx (xv 3) xi)<|xv 2)<|bc (sF 2<|se (Pu.pz 4 OL.nd<|Ak Wz (hq<|o ()) Nf<|bz (pv 0)<|pv 2)<|Zii (Zf4 0<|sz<|Xi 2)<|Kl 4)<|b1<|se (Kx<|Bc (fz Ys (o ())<|az<|pv 4)<|SR<|Ny (Bh (K:=K)<|show _<cLine from(o ()).units0) (pv 4) (P4 XD (ln K G.len<|pv 1) Xu)<|KY _)<|BZ<|B4 (T4<|sz<|Xi 4)<|Tf (Xi 4)<|XF (Sm<|sz<|Xi 1) Xr)) (.d ?_)
 ·rintro o1 o2 ss R X ⟨x,b1,B,A,a,f0,f,q,rfl,rfl,rfl,hz,T,s⟩;refine⟨rfl,?_⟩;obtain⟨⟨h1,U⟩,J⟩:=T.cur;rcases s with⟨rfl,l⟩|⟨d,rfl,l⟩
  ·refine⟨_,rfl,?_⟩;refine Pk (λp=>∃H E C:Option S,p=[some (.own<|vO (ExcR.Xp mg "Village") x b1 B A (bkH f.dropLast) (fsH f0 f.dropLast)<|wsH f.dropLast),some (.own<|.lsA a<|Kt f0 f.dropLast),H,E,C]) ?_ ?_
   ·rcases QP f with rfl|⟨h,y,rfl⟩
    ·exact⟨_,_,_,rfl⟩
    ·rw[Vq,Ve];have r:(Kt f0 (h++[y])).length=h.length+2:=by rw[Fm,WJ,Vb]
     have g:(((Kt f0 (h++[y])).length:Nat):Int)>1:=by lia
     have v:(Kt f0 (h++[y]))[(Kt f0 (h++[y])).length-1]?=some (Ga y):=by
      rw[r,EB,Qu (by rw[Fm];lia),Fm];rw[show h.length+2-1-(h.length+1)=0 by lia];rfl
     have ed:(Kt f0 (h++[y])).dropLast=Kt f0 h:=by rw[EB,Ve]
     show if decide ((((Kt f0 (h++[y])).length:Nat):Int)>1)=true then _ else _;rw[W9 g];refine Ka ⟨rfl,rfl,x,b1,B,A,bkH (h++[y]),fsH f0 (h++[y]),wsH (h++[y]),rfl,rfl,by rw[Zbw,A4],by rw[Zc9,A4],λe=>?_,λb0 q e=>?_⟩
     ·rw[A9]at e;simp at e
     ·rw[A9]at e;obtain⟨rfl,e2⟩:=List.append_inj' e rfl;cases e2
      rw[Fz,FJ,Ve,Ve];refine⟨_,v,?_⟩;rw[ed];exact⟨_,_,_,rfl⟩
   ·rintro p ⟨H,E,C,rfl⟩;exact⟨_,_,rfl,rfl,⟨rfl,by simp⟩,rfl,l⟩
  ·obtain⟨fs,M,lf⟩:=AC f0 f;obtain⟨N,L,lw⟩:=DZ f;obtain⟨dl,v⟩:=D4 f0 f;have lb:=A4 f;have lp:=Fm f0 f;have Q:=d.not_back;refine⟨_,KD _ _,?_⟩;show if decide (d.q.1=("back" : Str))=true then _ else _;rw[Qq Q];refine XI ⟨_,v,XZ f0 f,Kb f,[dl],d,rfl,U,J.1,_,rfl,?_⟩;by_cases e:d.err (XZ f0 f) (Kb f)=none
   ·have z:Po f0 f d=f++[(d,d.fld (XZ f0 f),d.wsh (Kb f))]:=by unfold Po;rw[WH e]
    rw[z]at l;rw[A9,Fz,FJ,EB,M,L]at l;show if decide (codeN (d.err (XZ f0 f)<|Kb f)>0)=true then _ else _;rw[e];refine XI ⟨_,rfl,_,rfl,by simp,by lia,?_⟩;refine⟨x,b1,B,A,bkH f,fs,N,XZ f0 f,Kb f,d,by rw[←M,←L],rfl,by lia,by lia,by lia,by lia,by have:=J.1;lia,?_⟩
    have ec:Ee (bkH f) (XZ f0 f) (Kb f) d=none:=by
     unfold Ee;rw[WG (by lia),e]
    have en:d.nf (XZ f0 f) (Kb f)=d.fld (XZ f0 f):=by unfold Dd.nf;rw[WH e]
    have u:d.nw (XZ f0 f) (Kb f)=d.wsh (Kb f):=by unfold Dd.nw;rw[WH e]
    rw[ec];have Y:((((bkH f).length:Nat):Int)+1=((((Kt f0 f++[D.tup [plD (d.nf (XZ f0 f)<|Kb f),plD (d.nw (XZ f0 f)<|Kb f),dD d.q]]).length:Nat)):Int)-1):=by rw[WJ,Vb];lia
    refine⟨_,rfl,Ka ?_⟩;refine⟨_,_,rfl,rfl,⟨rfl,by simp⟩,rfl,?_⟩;rw[W9 Y,en,u];exact l
   ·have z:Po f0 f d=f:=by unfold Po;rw[WG e]
    rw[z]at l;show if decide (codeN (d.err (XZ f0 f)<|Kb f)>0)=true then _ else _;rw[W9 (Dd.code_pos e)];exact Ka ⟨_,_,rfl,rfl,⟨rfl,by simp⟩,rfl,l⟩
def Zb1(E:Def K mg "least_cost" CU ["strips","wishes"])
  : Iy ζ:=by
 refine E.fy Zcs (λy n=>(b1<|sR<|xx (xg W1 y ExcR.XG<|a2 (xv 0)<|xv 1)<|xe (Pi Pe Xu)<|Pf Xr)) (.a ?_)
 ·rintro J R X ⟨g,r,rfl,C,u,hw,x,A,h⟩;refine⟨rfl,g,r,rfl,C,u,hw,x,A,λB s p=>?_⟩;have h:=h B;have o:=IC (Xo g);rw[List.getLast?_eq_getElem?]at o;have H:=(WT.mp o).1;have z:=p.1;obtain⟨v,l⟩:∃v,s[(XB<|Xo g).length-1]?=some v:=⟨_,W8 (by lia)⟩;have L:=p.2 _ _ _ o l;rw[←z]at l;exact⟨_,P7 (f:=D.int) (F4 l),h _ L⟩
def Zkg(u:X8 K (X9 K (Xz ζ) "order") "order" "Village.order" Cb ["self"])
  : Ob ζ:=by
 refine u.fy Zfa (λg n=>(b1<|sR<|xg W2 g ExcR.XG<|a2 (xe (XC Yj G.Za (hq<|g ()) XW<|pv 0)<|Kc Tj (Xi 0) X2)<|xe (XC Yl G.Za (hq<|g ()) XW<|pv 0)<|Kc TN (Xi 0) X2)) (.a ?_)
 ·rintro v R X ⟨bk,fs,h,f,w,rfl,s,l,hw,o,r,p⟩;refine⟨rfl,?_⟩;exact⟨rfl,rfl,bk,fs,h++[w],f,rfl,rfl,rfl,bk,fs++[f],h,w,rfl,f,w,rfl,s,l,hw,o,r,p⟩
def Zo4(u:X8 K (X9 K (Xz ζ) "cost") "cost" "Village.cost" Eb ["self"])
  : RP ζ:=by
 refine u.fy Zjk (λg n=>(b1<|sR<|xg W3 g ExcR.XG<|a2 (xe (XC Yj G.Za (hq<|g ()) XW<|pv 0)<|Kc Tj (Xi 0) X2)<|xe (XC Yl G.Za (hq<|g ()) XW<|pv 0)<|Kc TN (Xi 0) X2)) (.a ?_)
 ·rintro v R X ⟨bk,fs,h,f,w,rfl,s,l,hw,o,r,p⟩;refine⟨rfl,?_⟩;exact⟨rfl,rfl,bk,fs,h++[w],f,rfl,rfl,rfl,bk,fs++[f],h,w,rfl,f,w,rfl,s,l,hw,o,r,p⟩
def Zon(A:X8 K (X9 K (Xz ζ) "moves") "moves" "Village.moves" AR ["self"])
  : O7 ζ:=by
 refine A.fy Zd4 (λg n=>(b1<|sR<|xf Wq g<|a2 (xe (XC Yj G.Za (hq<|g ()) XW<|pv 0)<|Kc Tj (Xi 0) X2)<|xe (XC Yu G.Za (hq<|g ()) ExcR.XG<|pv 0)<|NB FQ (Xi 0) X2)) (.a ?_)
 ·rintro B R X ⟨bk,fs,h,f,w,rfl,l,s,hw,u,x,y⟩;refine⟨rfl,?_⟩;exact⟨rfl,rfl,bk,fs,h++[w],f,rfl,rfl,rfl,bk,fs,h,f,w,rfl,l,by lia,hw,u,x,λz o p=>⟨f,o,rfl,l,s,p.perm,λr v=>y z o r p v⟩⟩
def Zmh(x:X8 K (X9 K (Xz ζ) "melded") "melded" "Village.melded" DK ["self"])
  : OX ζ:=by
 refine x.fy Zh6 (λg n=>(b1<|sR<|xg Wp g ExcR.XG<|a2 (xe (XC Yj G.Za (hq<|g ()) XW<|pv 0)<|Kc Tj (Xi 0) X2)<|xe (XC Yu G.Za (hq<|g ()) ExcR.XG<|pv 0)<|NB FQ (Xi 0) X2)) (.a ?_)
 ·rintro z R X ⟨bk,fs,l,f,w,rfl,p,y,hw,r,s,u⟩;refine⟨rfl,rfl,rfl,bk,fs,l++[w],f,rfl,rfl,rfl,bk,fs,l,f,w,rfl,p,by omega,hw,r,s,λv o h=>⟨f,o,rfl,p,by omega,?_,?_⟩⟩
  ·have:=h.perm.length_eq
   have:=TH f
   omega
  ·rw[RL h.perm];exact u v o h
def Zne(J:Def K mg "_law_ringed" AN ["_law_which","_law_village","_law_ring_here"])
  : Rw ζ:=by
 refine J.fz TB (λl n=>(bc (sS 3 n<|xL a0)<|bj (se (ExcR.Zhg (λpins D=>(Fh (NO (cq K (l ()) (pv 0) Xu) (Pr<|Ku<|F1 Yu G.Za (hq<|l ()) (ExcR.Fw (pins:=pins) (D:=D) (i:=4) rfl rfl TB.nd rfl rfl rfl G.Zg (by decide) (λa=>(Pr<|Pu.pz 3 TB.nd<|ExcR.FA (pv 4)<|by rfl)))<|pv 1)
   N9)<|Fh (NO (cq K (l ()) (pv 0) Xu) (Pr<|Ku<|F1 Y8 G.Za (hq<|l ()) (ExcR.Fw (pins:=pins) (D:=D) (i:=4) rfl rfl TB.nd rfl rfl rfl G.Zg (by decide) (λa=>(Pr<|Pu.pz 3 TB.nd<|ExcR.FA (pv 4)<|by rfl)))<|pv 1)
   N9)<|Fh (NO (cq K (l ()) (pv 0) Xu) (Pr<|Ku<|F1 YA G.Za (hq<|l ()) (ExcR.Fw (pins:=pins) (D:=D) (i:=4) rfl rfl TB.nd rfl rfl rfl G.Zg (by decide) (λa=>(Pr<|Pu.pz 3 TB.nd<|ExcR.FA (pv 4)<|by rfl)))<|pv 1)
   N9)<|Pr (NO (cq K (l ()) (pv 0) Xu) (Pr<|Ku<|F1 YB G.Za (hq<|l ()) (ExcR.Fw (pins:=pins) (D:=D) (i:=4) rfl rfl TB.nd rfl rfl rfl G.Zg (by decide) (λa=>(Pr<|Pu.pz 3 TB.nd<|ExcR.FA (pv 4)<|by rfl)))<|pv 1)
   N9))))<|Zqy (E':=λ_=>E0) G.ZN (λD=>(Fi (BB (Kr<|Tf (Xi 0) Xr) (Tx<|BL FQ (Xi 1) X2) ND)<|Fi (BB (Kr<|Tf (Xi 0) Xr) (Tx<|BL L3 (Xi 1) X2) ND)<|Fi (BB (Kr<|Tf (Xi 0) Xr) (Tx<|BL MZ (Xi 1) X2) ND)<|BB (Kr<|Tf (Xi 0) Xr) (Tx<|BL Rz (Xi 1) X2) ND))<|Nq (Zgm G.ZM<|Xi 4)<|Kl 3)<|b1<|sR<|xf Yx l<|a2 (xv 3)<|xv 2)) (.a ?_)
 ·rintro Q R X ⟨n,bk,fs,s,f,w,o,rfl,N,M,v,B,hw,u,l,z,L,E⟩;refine⟨rfl,?_⟩;have x:∀(A:Prop) (X:Str->Prop),X (Nt o)->Tr (Xo f) w X A:=λA X C=>⟨λr y _=>(y.one l)▸C,λH=>absurd ((l.none_iff u).mpr H) z⟩;refine⟨by decide,Pk (λg=>g=[some (.sh<|.int n),some (.bor<|Ta (ExcR.Xp mg "Village") bk (fs++[f]) (s++[w])),some (.bor<|.lst<|o.map D.int),some (.sh<|.fL o),none]) ?_ ?_⟩
  ·have c:n=0\/n=1\/n=2\/n=3:=by lia
   have p:f.length<=50:=by lia
   rcases c with rfl|rfl|rfl|rfl
   ·exact Pk (λ_=>False) ⟨rfl,rfl,bk,fs,s,f,w,rfl,v,p,hw,u,x _ _ ⟨o,rfl,rfl,rfl⟩⟩ λ_ h=>h.elim
   ·refine Pk (λg=>g=_) rfl ?_;rintro g rfl;exact Pk (λ_=>False) ⟨rfl,rfl,bk,fs,s,f,w,rfl,v,p,hw,u,x _ _ ⟨o,rfl,rfl,rfl⟩⟩ λ_ h=>h.elim
   ·refine Pk (λg=>g=_) rfl ?_;rintro g rfl;refine Pk (λg=>g=_) rfl ?_;rintro g rfl;exact Pk (λ_=>False) ⟨rfl,rfl,bk,fs,s,f,w,rfl,v,B,hw,u,x _ _ ⟨o,rfl,rfl,rfl⟩⟩ λ_ h=>h.elim
   ·refine Pk (λg=>g=_) rfl ?_;rintro g rfl;refine Pk (λg=>g=_) rfl ?_;rintro g rfl;refine Pk (λg=>g=_) rfl ?_;rintro g rfl;exact⟨rfl,rfl,bk,fs,s,f,w,rfl,v,p,hw,u,x _ _ ⟨o,rfl,rfl,rfl⟩⟩
  ·rintro g rfl;exact⟨o,.inr rfl,by lia,E⟩
def Zd9(DD:Def K mg "_law_told" A5 ["_law_village","_law_strips","_law_wishes"])
  : Ro ζ:=by
 refine DD.fz Zkx (λl n=>(bc (sS 3 n<|xf YU l<|a2 (xf Y0 l<|a1<|xv 1)<|xv 2)<|bc (sI (tN<|tt<|xf Yx l<|a2 (xe (XC Wy G.Za (hq<|l ()) XW<|pv 0)<|Kc Zel (Xi 0) X2)<|xv 3) (b1<|sR xb) b0)<|bc (sI (te (Pv (Dg (K:=K)<|show _<cLine from(l ()).units0) (pv 3) (P6 Ky)<|KY _)<|Kr<|BV (Xi 3)<|P3 X2) (b1<|sR<|xe (Ny (Ze3 (K:=K)<|show _<cLine from(l ()).units0) (cz ["_law_which","_law_village","_law_ring_here"] [none,some 0,some 3] (E3 rfl G.Zc<|az Xu) ⟨(gk 0),Nh,(fz W4 (l ())<|dz (pv 0) (pv 1)<|pv 2)⟩) (P4 Zjw (P6<|az N1) Xu)<|KY _)<|Zqo (P5 (SndI.c<|AY<|sz Xr) (Kl 0) NR<|T4<|uz (Xi 0) (Xi 1)<|Xi 2)<|Zpz (P3<|sz NC) Xr) b0)<|bc (sS 4 n<|xf Wl l<|a2 (xv 1)<|xv 2)<|bc (sS 5 n<|xe (XC Y8 G.Za (hq<|l ()) Nf<|pv 0)<|Kc L3 (Xi 0) X2)<|bc (sI (tp<|wo (tN<|tt<|xf Yx l<|a2 (xe (XC Yu G.Za (hq<|l ()) Nf<|pv 0)<|Kc FQ (Xi 0) X2)<|xx (xv 4) xi)<|wo (tN<|tt<|xf Ys l<|a1<|xv 5)<|wO<|tn l (xv 5)<|xx (xv 4) xi) (b1<|sR xb) b0)<|bc (sI (tN<|tt<|xf Yt l<|a2 (xe (XC YA G.Za (hq<|l ()) Nf<|pv 0)<|Kc MZ (Xi 0) X2)<|xf YW l<|a2 (xv 1)<|xx (xv 4) xi) (b1<|sR xb) b0)<|bc (sC 6 ["_law_number","_law_strips"] [none,some 1] n (jL<|xf YV l<|a2 (xv 1)<|xx (xv 4) xi) (gN 0) f0<|xx (xv 1)<|xo XD XF (xv 0) xi)<|b1<|sR<|xf Yt l<|a2 (xe (XC YB G.Za (hq<|l ()) Nf<|pv 0)<|Kc Rz (Xi 0) X2)<|xv 6)) (.a ?_)
 ·rintro ds R X ⟨bk,fs,B,f,w,rfl,u,C,hW,hR⟩;refine⟨rfl,?_⟩;have s:∀q∈w,q.1≠q.2:=λq hq=>(hW.2.2 q hq).2;have hw:=hW.1;have h5:=TH f;obtain⟨r,l⟩:=FR.ex (Xo f) w;have nd:(Xo f).Nodup:=(Tc f).imp λh=>VM h;refine⟨f,rfl,by lia,Xo f,w,r,rfl,nd,by lia,s,hw,l,?_⟩;refine⟨rfl,rfl,bk,fs,B,f,w,rfl,u,by lia,λy L J=>?_⟩;obtain rfl:=L.one l;refine⟨y,.inl rfl,by lia,XI ?_⟩;have er:(!(y.map D.int).isEmpty)=decide (y≠[]):=by cases y<;>simp
  refine⟨by simp,?_⟩;show if (!(y.map D.int).isEmpty)=true then _ else _;rw[er];refine Xm (λg=>?_) (λg=>?_)
  ·have M:y≠[]:=WA g;refine⟨⟨by decide,by decide⟩,Bb (λ_=>some (.bl true)) (by decide) (λk hk=>?_) ?_⟩
   ·have hk4:k<4:=hk;exact⟨_,bk,fs,B,f,w,y,rfl,by lia,by lia,u,C,by lia,s,l,M,J,⟨_,rfl,rfl⟩⟩
   ·exact⟨by simp,rfl,⟨by decide,by decide⟩,by decide,_,_,rfl,rfl,rfl,rfl,hR⟩
  ·have hN:¬ ∃r,Ring (Xo f) w r:=(l.none_iff s).mp (Qd λz=>g (W9 z));have H:∀{A:Prop} {X:Str->Prop},A->Tr (Xo f) w X A:=λhA=>⟨λr h n=>absurd ((h.none_iff s).mpr hN) n,λ_=>hA⟩;refine⟨f,w,rfl,u,by lia,h5,s,hN,λo x=>?_⟩;refine⟨rfl,rfl,bk,fs,B,f,w,rfl,u,by lia,by lia,s,H λv hL=>?_⟩;obtain rfl:v=oc (pcc f) o:=hL.uniq ⟨⟨o,x.perm,x.keeps,rfl⟩,x.le⟩;refine⟨rfl,rfl,bk,fs,B,f,w,rfl,u,by lia,by lia,s,H λo2 E=>?_⟩;obtain rfl:=Pu.KR.uniq E x;have hol:=E.perm.length_eq;refine⟨_,rfl,o2,.inl rfl,by lia,XI ⟨_,rfl,XI ⟨_,rfl,Np rfl ?_⟩⟩⟩;refine⟨rfl,rfl,bk,fs,B,f,w,rfl,u,C,by lia,s,H λp Y T hM=>?_⟩;obtain rfl:=Pu.KR.uniq T x;have cm:=Mv.count hM;have cb:=Se (rkN f p) (XO 1 f.length)
   have nn:((f.length:Int))*f.length<=1600:=by
    have:=Int.mul_le_mul (a:=(f.length:Int)) (b:=f.length) (c:=40) (d:=40) (by lia) (by lia) (by lia) (by lia)
    lia
   rw[NY]at cb;refine⟨_,rfl,f,p,Y,rfl,u,C,x.perm,hM,_,rfl,.inr ⟨Y,rfl⟩,by rw[W6];lia,XI ?_⟩;refine⟨_,rfl,f,p,rfl,by lia,by lia,?_⟩;have hol3:=x.perm.length_eq;have el:=Zmz f p;have mle:=VL (show p.length<=10 by lia) C;refine Kk (xs:=p.flatMap (KN f)) (emb:=D.int) (λm=>some (prD (f.getD (m-1).toNat (0,0)))) (by lia) (λm N=>?_) ?_
   ·obtain⟨h,_,N⟩:=List.mem_flatMap.mp N;obtain⟨m1,m2⟩:=(mem_numN.mp N).1;refine⟨prD (f.getD (m-1).toNat (0,0)),?_,_,rfl,rfl⟩;rw[WC,W8 (show(m-1).toNat<f.length by lia)];exact KP (by lia) (by lia)
   rw[T1 (λm:Int=>prD (f.getD (m-1).toNat (0,0)))]
   have eg:(p.flatMap<|KN f).map (λm:Int=>prD (f.getD (m-1).toNat (0,0)))=(P2 f p).map prD:=by
    have:P2 f p=Ff f (endsN f p):=Zbc f p
    rw[this];unfold Ff endsN;rw[Qr];rfl
   rw[eg];refine⟨rfl,rfl,bk,fs,B,f,w,rfl,u,by lia,by lia,s,H λU Q=>?_⟩;obtain rfl:=Pu.KR.uniq Q x;have gl:=Zdz f U;have mle2:=VL (show U.length<=10 by lia) C;exact⟨_,rfl,.inl ⟨_,rfl⟩,by rw[W6];lia,hR⟩
def Zic(DD:Def K mg "law" Tq ["_law_script"])
  : Zmg ζ:=by
 refine DD.fz Ze7 (λl n=>(bc (sS 1 n<|xf YQ l<|a1<|xf Wk l<|a2 (xv 0) xi)<|bc (sX 1 xi<|xo X3 X4 xi<|xo X7 XA (xx (xv 1) xi) xi)<|bc (sS 2 n<|xf Wn l<|a3 (xv 0) (xv 1)<|xo X7 XA (xo Ki Kf (xf Yk l<|a2 (xv 0) xi) xi) xi)<|bc (sS 3 n<|xe (Zhq Wr G.ZJ (hq<|l ()) Nf<|az<|PR (F9 (K:=K)) (by rfl) G.Zh boot_list<|az<|pv 2)<|Zb6<|sz<|F0<|sz<|Xi 2)<|bc (sF 2<|sS 4 n<|xL<|a1<|xt<|a3 (xv 2) (xL a0)<|xt a0)<|bc (sN 4<|sO [5] WX (iL<|xf Ww l<|a2 (xv 0)<|xv 1) (gN 5)<|b1<|sF 5<|sN 4<|se (NO (CM<|CQ (K:=K)<|fz Y7 (l ())<|dz (pv 3) (pv 4)<|pv 5) (Pr<|Kx N1)
   N9)<|RG (Md<|Ms<|LL 3 4 (by decide)<|sz<|Xi 5) (Di NC) ND)<|bc (sO [6] WX (iL<|xf Wo l<|a2 (xv 0) xi) (gN 6)<|b1<|sN 4<|se (NO (CM<|CQ (K:=K)<|fz Y7 (l ())<|dz (pv 3) (pv 4)<|fz Wx (l ())<|dz (pv 6) (pv 1)<|jx K (pv 4)<|Pi Pe Xu) (Pr<|Kx N1)
   N9)<|RG (Md<|Ms<|LL 3 4 (by decide)<|sz<|T4<|uz (Xi 6) (Xi 1)<|XM (Xi 4)<|Pf Xr) (Di NC) ND)<|bc (sS 2 n<|xx (xx (xv 4)<|xe (Pi Pe Xu)<|Pf Xr) xi)<|bc (sS 7 n<|xx (xx (xv 4)<|xe (Pi Pe Xu)<|Pf Xr) xi)<|bc (sO [8] WX (ir G.Zc<|a1 xi) (gN 8)<|b1<|sI (tN<|tt<|xf W5 l<|a3 (xv 3) (xv 2)<|xv 7) (b1<|sR xb) b0)<|bc (sS 9 n<|xf Yt l<|a2 (xe (XC Yj G.Za (hq<|l ()) XW<|pv 3)<|Kc Tj (Xi 3) X2)<|xv 2)<|b1<|sR<|xe (Bc (pv 9)<|SR<|fz Yt (l ())<|bz (XC Yl G.Za (hq<|l ()) XW<|pv 3)<|pv 7)<|B4 (Xi 9)<|T4<|tz (Kc TN (Xi 3) X2)<|Xi 7)) (.a ?_)
 ·rintro ds R X ⟨p,rfl,hR⟩;refine⟨rfl,p,0,rfl,by decide,λc0=>⟨c0,rfl,λm u=>?_⟩⟩;have C:=u;obtain⟨a0,a1,a2,a3,a4,em,ha,_⟩:=C;have i0:atI (m.map D.int) 0=some (.int a0):=by rw[em];rfl
  have s0:ixN (m.map D.int).length 0=some 0:=by rw[em];rfl
  have u:=Zjv u (v:=1+a0 % 4) (by lia);have es:(m.map D.int).set 0 (.int (1+a0 % 4))=(m.set 0 (1+a0 % 4)).map D.int:=by rw[List.map_set]
  refine⟨_,i0,(by show(0:Int)<4;decide),_,_,s0,rfl,?_⟩;rw[es];generalize m.set 0 (1+a0 % 4)=m at u;refine⟨p,0,rfl,by decide,⟨by decide,by decide⟩,(by show(0:Int)<13;decide),p,m,_,rfl,u,by lia,by lia,λg T N=>?_⟩;have L:g.length<=40:=by lia
  refine⟨rfl,λx=>⟨x,g,rfl,rfl,by lia,?_⟩⟩;rw[Zi4 T L];refine λb1 z y=>⟨rfl,?_⟩;refine⟨by simp,by simp,by simp,by simp,λa=>?_⟩;refine⟨p,m,rfl,u,λs hq=>?_⟩;refine⟨rfl,K5 (xs:=s) (emb:=λq:Int×Int=>dD (Dd.wish q.1 q.2).q) (λi h=>∃(f:Kd) (r:Option S),f.length<=i/\FineH g f/\h=[some (.bor<|.scr p),some (.own<|m.map D.int),r,some (.own<|vO (ExcR.Xp mg "Village") x b1 z y (bkH f) (fsH g f)<|wsH f),some (.own<|.lsA a<|Kt g f),none,none,none,none,none]) ?_ ?_ ?_⟩
  ·exact⟨[],_,QU _,FineH.nil T L,rfl⟩
  ·rintro i h Q ⟨f,r,E,o,rfl⟩;refine⟨x,b1,z,y,a,g,f,_,rfl,rfl,rfl,by lia,o,.inr ⟨.wish s[i].1 s[i].2,rfl,?_⟩⟩;refine XI ?_;exact⟨Po g f (.wish s[i].1 s[i].2),_,by have:=Iu g f (.wish s[i].1 s[i].2);lia,o.add _,rfl⟩
  rintro h ⟨f,r,E,o,rfl⟩;refine⟨p,12,rfl,by decide,by decide,λcs hc=>?_⟩;refine⟨rfl,K5 (xs:=cs) (emb:=D.int) (λi h=>∃(f:Kd) (r:Option S),f.length<=24+i/\FineH g f/\h=[some (.bor<|.scr p),some (.own<|m.map D.int),r,some (.own<|vO (ExcR.Xp mg "Village") x b1 z y (bkH f) (fsH g f)<|wsH f),some (.own<|.lsA a<|Kt g f),none,none,none,none,none]) ?_ ?_ ?_⟩
  ·exact⟨f,_,by lia,o,rfl⟩
  ·rintro i h Q ⟨f,r,E,o,rfl⟩;obtain⟨⟨H,c2⟩,B⟩:=o.cur;obtain⟨dl,A⟩:=D4 g f;refine⟨_,A,_,m,XZ g f,Kb f,[dl],rfl,u,by lia,H,by have:=B.1;lia,λd=>?_,?_⟩
   ·refine⟨x,b1,z,y,a,g,f,_,rfl,rfl,rfl,by lia,o,.inr ⟨d,rfl,?_⟩⟩;have la:=Iu g f d;exact⟨Po g f d,_,by lia,o.add d,rfl⟩
   ·refine⟨x,b1,z,y,a,g,f,_,rfl,rfl,rfl,by lia,o,.inl ⟨rfl,?_⟩⟩;have la:f.dropLast.length<=f.length:=by rw[List.length_dropLast];lia
    exact⟨f.dropLast,_,by lia,o.back,rfl⟩
  rintro h ⟨f,r,E,o,rfl⟩;obtain⟨⟨H,c2⟩,B⟩:=o.cur;obtain⟨dl,A⟩:=D4 g f;obtain⟨fs,Y,lf⟩:=AC g f;obtain⟨J,U,lw⟩:=DZ f;have hcl:((XZ g f).map prD).length=(XZ g f).length:=W6 ..;have hwl:((Kb f).map prD).length=(Kb f).length:=W6 ..;have M:=B.1;refine⟨_,A,_,rfl,_,A,_,rfl,⟨by decide,by decide⟩,Tg (λi h=>h=[some (.bor<|.scr p),some (.own<|m.map D.int),some (.sh<|plD<|XZ g f),some (.own<|vO (ExcR.Xp mg "Village") x b1 z y (bkH f) (fsH g f)<|wsH f),some (.own<|.lsA a<|Kt g f),none,none,some (.sh<|plD<|Kb f),none,none]) rfl ?_ ?_⟩
  ·rintro i h Q rfl;refine⟨bkH f,fs,J,XZ g f,Kb f,by rw[←Y,←U];rfl,H,by lia,B,XI rfl⟩
  ·rintro h rfl;refine⟨rfl,rfl,bkH f,fs,wsH f,XZ g f,by rw[←Y];rfl,_,rfl,.inl ⟨_,rfl⟩,by lia,?_⟩;exact⟨rfl,rfl,bkH f,fsH g f,J,Kb f,by rw[←U];rfl,_,rfl,.inl ⟨_,rfl⟩,by lia,hR⟩
end
end T
namespace T
open L2 Own M
def Zpg{l:PySem.W.OpenLaw}{w:World}{K:ZU}{h:Heap}{g:ZY}{fa:Addr}(X:K.In h)(f:h.Ns mainGlobals g)(hfa:g "law"=some (.ref fa)){n:Addr}(Uc:PySem.W.nsIn K mainGlobals "Village"=some (some<|.ref n))(Uu:PySem.W.plainGet K n Str.empty=true)(Uv:PySem.W.hasDictIn K n=true)(Uw:PySem.W.plainOver K n=true)(Ux:PySem.W.findIn K (.ref n) "__setattr__"=some (some<|.builtin "object.__setattr__"))(Uy:PySem.W.makesIn K n=true)(U0:PySem.W.keepIn K (.ref n)=true)(U1:PySem.W.findIn K (.ref n) "book"=some none)(U2:PySem.W.findIn K (.ref n) "fields"=some none)(U3:PySem.W.findIn K (.ref n) "wished"=some none)(a1:Pu.DI K "check_holder" Ed)(a2:Pu.DI K "check_width" AX)(a3:Pu.DI K "check_strips" DH)(a4:Pu.DI K "holders_of" Cw)(a5:Pu.DI K "check_order" Ca)(a6:Pu.DI K "gathered" EC)(a7:Pu.DI K "pair_cost" EH)(a8:Pu.DI K "own_numbers" DX)(a9:Pu.DI K "exchange_cost" Cy)(a10:Pu.DI K "exchanged" Ce)(a11:Pu.DI K "first_wrong_place" Dh)(a12:Pu.DI K "told_moves" A3)(a13:Pu.DI K "check_neighbours" Cn)(a14:Pu.DI K "longer_paths" Ek)(a15:Pu.DI K "ring_from" CC)(a16:Pu.DI K "find_ring" DC)(a17:Pu.DI K "check_no_ring" Eo)(a18:Pu.DI K "check_place" EU)(a19:Pu.DI K "sold" CK)(a20:Pu.DI K "parted" Dm)(a21:Pu.DI K "united" AV)(a22:Pu.DI K "with_wish" Cq)(a23:Pu.DI K "without_wish" AH)(a24:Pu.DI K "pair_costs" Aw)(a25:Pu.DI K "sets_of" Dq)(a26:Pu.DI K "without" Cv)(a27:Pu.DI K "may_lie_last" CD)(a28:Pu.DI K "may_lie_first" DW)(a29:Pu.DI K "cost_with_last" EA)(a30:Pu.DI K "cost_with_first" Gi)(a31:Pu.DI K "least_costs" CY)(a32:Pu.DI K "cost_table" DE)(a33:Pu.DI K "best_order" De)(a34:Pu.DI K "least_cost" CU)(a35:Pu.MI K n "__init__" "Village.__init__" EW)(a36:Pu.MI K n "strips" "Village.strips" E8)(a37:Pu.MI K n "wishes" "Village.wishes" DT)(a38:Pu.MI K n "check_room" "Village.check_room" Eg)(a39:Pu.MI K n "enter" "Village.enter" D3)(a40:Pu.MI K n "sell" "Village.sell" Dk)(a41:Pu.MI K n "part" "Village.part" D1)(a42:Pu.MI K n "unite" "Village.unite" EL)(a43:Pu.MI K n "wish" "Village.wish" Er)(a44:Pu.MI K n "drop" "Village.drop" Em)(a45:Pu.MI K n "take_back" "Village.take_back" Dx)(a46:Pu.MI K n "ring" "Village.ring" EF)(a47:Pu.MI K n "order" "Village.order" Cb)(a48:Pu.MI K n "cost" "Village.cost" Eb)(a49:Pu.MI K n "moves" "Village.moves" AR)(a50:Pu.MI K n "melded" "Village.melded" DK)(a51:Pu.DI K "_law_at" Et)(a52:Pu.DI K "_law_whole" CN)(a53:Pu.DI K "_law_mix" Az)(a54:Pu.DI K "_law_draw" Cd)(a55:Pu.DI K "_law_menu" CH)(a56:Pu.DI K "_law_holder" Dp)(a57:Pu.DI K "_law_row" AU)(a58:Pu.DI K "_law_tuples" D8)(a59:Pu.DI K "_law_present" Ep)(a60:Pu.DI K "_law_price" EZ)(a61:Pu.DI K "_law_kept" Du)(a62:Pu.DI K "_law_orders" AF)(a63:Pu.DI K "_law_best" D6)(a64:Pu.DI K "_law_ring" DS)(a65:Pu.DI K "_law_ends" DY)(a66:Pu.DI K "_law_due_moves" Dr)(a67:Pu.DI K "_law_field_step" ED)(a68:Pu.DI K "_law_wish_step" AO)(a69:Pu.DI K "_law_step" EE)(a70:Pu.DI K "_law_call" Cg)(a71:Pu.DI K "_law_go" Gg)(a72:Pu.DI K "_law_start" Cz)(a73:Pu.DI K "_law_days" DV)(a74:Pu.DI K "_law_odd" D9)(a75:Pu.DI K "_law_place" E6)(a76:Pu.DI K "_law_pair" AM)(a77:Pu.DI K "_law_opening" Ay)(a78:Pu.DI K "_law_width" AQ)(a79:Pu.DI K "_law_deed" A2)(a80:Pu.DI K "_law_ringed" AN)(a81:Pu.DI K "_law_told" A5){T:Addr}{od82 Q:Yh}{sl82:Array (Yg)}{oc82 L M J u N:Value}(a82:PySem.W.nsIn K mainGlobals "law"=some (some<|.ref T))(l82:K.lookup T=some ⟨oc82,od82,.func (PySem.W.fnOf "law" "law" (P0 Tq) (XJ Tq) (Xk Tq) .none L M J Q u N),sl82⟩)(c82:PySem.W.codeIn K u "law"=true)(k82:PySem.W.keepIn K (.ref T)=true)(U4:PySem.W.nsIn K mainGlobals "any"=some none)(U5:PySem.W.nsIn K mainGlobals "bool"=some none)(U6:PySem.W.nsIn K mainGlobals "int"=some none)(U7:PySem.W.nsIn K mainGlobals "isinstance"=some none)(U8:PySem.W.nsIn K mainGlobals "len"=some none)(U9:PySem.W.nsIn K mainGlobals "list"=some none)(UA:PySem.W.nsIn K mainGlobals "max"=some none)(UB:PySem.W.nsIn K mainGlobals "min"=some none)(UC:PySem.W.nsIn K mainGlobals "range"=some none)(UD:PySem.W.nsIn K mainGlobals "set"=some none)(UE:PySem.W.nsIn K mainGlobals "sorted"=some none)(UF:PySem.W.nsIn K mainGlobals "sum"=some none)(UG:PySem.W.nsIn K mainGlobals "tuple"=some none){UO:Tok}(UH:PySem.W.nsIn K mainGlobals "HOLDERS"=some (some<|.int 10 UO)){UP:Tok}(UI:PySem.W.nsIn K mainGlobals "STRIPS"=some (some<|.int 40 UP)){UQ:Tok}(UJ:PySem.W.nsIn K mainGlobals "WIDEST"=some (some<|.int 1000 UQ)){UR:Tok}(UK:PySem.W.nsIn K mainGlobals "MOST_WISHES"=some (some<|.int 20 UR)){US:Tok}(UL:PySem.W.nsIn K mainGlobals "MOST_DEEDS"=some (some<|.int 100 US)){UT:Addr}(Ud:Pu.EI K "TooManyStrips" UT){UU:Addr}(Ue:Pu.EI K "BadHolder" UU){UV:Addr}(Ug:Pu.EI K "BadWidth" UV){UW:Addr}(Uh:Pu.EI K "NoStrip" UW){UX:Addr}(Ui:Pu.EI K "BadOrder" UX){UY:Addr}(Uj:Pu.EI K "OwnStrip" UY){UZ:Addr}(Uk:Pu.EI K "BadPart" UZ){Xa:Addr}(Ul:Pu.EI K "UnlikeHolders" Xa){Xb:Addr}(Um:Pu.EI K "TooWide" Xb){Xc:Addr}(Uo:Pu.EI K "LikeHolders" Xc){Xd:Addr}(Up:Pu.EI K "WishStands" Xd){Xe:Addr}(Uq:Pu.EI K "TooManyWishes" Xe){Xf:Addr}(Ur:Pu.EI K "NoWish" Xf){Xg:Addr}(Us:Pu.EI K "BookFull" Xg){Xh:Addr}(Ut:Pu.EI K "NothingDone" Xh){UM:Addr}(Ub:Pu.RI K "Ringed" UM "Ringed.__init__" AG)(x_Ringed:PySem.W.exmOne K (.ref UM) (.ref UM)=some true)
  : ∃fd:FuncData,(∀(s:Shared) (v:Value),BindsTo s fd ⟨[v],[]⟩ [("_law_script",v)])/\∀base:Heap,K.In base->base.Ns mainGlobals g->KC l.prog w K g base CX0 10 fa fd ["_law_script"] (Pu.D7 K):=by
 have e:=hfa.symm.trans (QA X f a82);cases e
 have UN:=Ub.c X f;have p:=ExcR.Cf (QA X f Uc);have G:Glob K g:=⟨Qz X f U4,Qz X f U5,Qz X f U6,Qz X f U7,Qz X f U8,Qz X f U9,Qz X f UA,Qz X f UB,Qz X f UC,Qz X f UD,Qz X f UE,Qz X f UF,Qz X f UG,⟨_,QA X f UH,⟨_,rfl⟩⟩,⟨_,QA X f UI,⟨_,rfl⟩⟩,⟨_,QA X f UJ,⟨_,rfl⟩⟩,⟨_,QA X f UK,⟨_,rfl⟩⟩,⟨_,QA X f UL,⟨_,rfl⟩⟩,(Ud.m X f),(Ud.k X f),(Ue.m X f),(Ue.k X f),(Ug.m X f),(Ug.k X f),(Uh.m X f),(Uh.k X f),(Ui.m X f),(Ui.k X f),(Uj.m X f),(Uj.k X f),(Uk.m X f),(Uk.k X f),(Ul.m X f),(Ul.k X f),(Um.m X f),(Um.k X f),(Uo.m X f),(Uo.k X f),(Up.m X f),(Up.k X f),(Uq.m X f),(Uq.k X f),(Ur.m X f),(Ur.k X f),(Us.m X f),(Us.k X f),(Ut.m X f),(Ut.k X f),(Ub.m X f),(Ub.i X f),(by rw[UN];exact x_Ringed),(by rw[p];exact QA X f Uc),(by rw[p];exact⟨Uu,Uv,Uw,Ux⟩),(by rw[p];exact U1),(by rw[p];exact U2),(by rw[p];exact U3)⟩;have U:=Fp (st:=Tq) l82 c82 k82;have b82:=U.binds (ps:=["_law_script"]) λ_ _ _ _ _ _ us hl=>by obtain⟨_,rfl⟩:=Pu.Ba hl;rfl
 have D82:Def K g "law" Tq ["_law_script"]:=⟨_,_,U,QA X f a82,b82⟩;refine⟨PySem.W.fnOf "law" "law" (P0 Tq) (XJ Tq) (Xk Tq) .none L M J Q u N,λs v=>.of_eq rfl,λbase _ _=>?_⟩;have C0:=@Zqb l.prog w K g base G (Ub.j UN);have C1:=@Zga l.prog w K g base ⟨⟩ G (a1.e X f);have C2:=@Zh4 l.prog w K g base ⟨⟩ G (a2.e X f);have C4:=@Zko l.prog w K g base G (a4.e X f);have C7:=@Zbp l.prog w K g base ⟨⟩ (a7.e X f);have C8:=@Zc3 l.prog w K g base ⟨⟩ G (a8.e X f);have C9:=@Zqc l.prog w K g base ⟨⟩ (a9.e X f);have C10:=@Zb8 l.prog w K g base ⟨⟩ (a10.e X f);have C11:=@Zp3 l.prog w K g base ⟨⟩ G (a11.e X f);have C13:=@Zhc l.prog w K g base ⟨⟩ G (a13.e X f);have C14:=@Ziy l.prog w K g base ⟨⟩ (a14.e X f);have C18:=@Zce l.prog w K g base ⟨⟩ G (a18.e X f);have C23:=@Znj l.prog w K g base ⟨⟩ G (a23.e X f);have C25:=@Zd5 l.prog w K g base ⟨⟩ (a25.e X f);have Y:=@Zck l.prog w K g base ⟨⟩ G (a26.e X f);have C27:=@Zgw l.prog w K g base ⟨⟩ G (a27.e X f);have C28:=@Zku l.prog w K g base ⟨⟩ G (a28.e X f);have o:=@Zg7 l.prog w K g base ⟨⟩ G (a36.e p);have r:=@Ze1 l.prog w K g base ⟨⟩ G (a37.e p);have A:=@Zj7 l.prog w K g base ⟨⟩ G (a38.e p);have y:=@Zf8 l.prog w K g base ⟨⟩ G (a39.e p);have C45:=@Zio l.prog w K g base ⟨⟩ G (a45.e p);have x:=@Zee l.prog w K g base ⟨⟩ G (a51.e X f);have E:=@Zno l.prog w K g base ⟨⟩ G (a52.e X f);have C:=@Zkr l.prog w K g base ⟨⟩ (a53.e X f);have C55:=@Zjn l.prog w K g base ⟨⟩ (a55.e X f);have B:=@Zok l.prog w K g base ⟨⟩ (a56.e X f);have C59:=@Zns l.prog w K g base ⟨⟩ G (a59.e X f);have C60:=@Za2 l.prog w K g base ⟨⟩ G (a60.e X f);have C61:=@Zo1 l.prog w K g base ⟨⟩ (a61.e X f);have C62:=@Zpk l.prog w K g base ⟨⟩ (a62.e X f);have C64:=@Zds l.prog w K g base ⟨⟩ G (a64.e X f);have C65:=@Zfv l.prog w K g base ⟨⟩ G (a65.e X f);have C66:=@Zik l.prog w K g base ⟨⟩ G (a66.e X f);have C67:=@Zgx l.prog w K g base ⟨⟩ G (a67.e X f);have C68:=@Zd3 l.prog w K g base ⟨⟩ G (a68.e X f);have C74:=@Zcb l.prog w K g base ⟨⟩ (a74.e X f);have C75:=@Zeh l.prog w K g base ⟨⟩ G (a75.e X f);have C78:=@Zor l.prog w K g base ⟨⟩ G (a78.e X f);have C3:=Ziu ⟨⟩ G C1 C2 (a3.e X f);have C5:=Zbi ⟨⟩ G (Sf C4) (a5.e X f);have C15:=Zat ⟨⟩ G C14 (a15.e X f);have C19:=Zq7 ⟨⟩ G C1 C18 (a19.e X f);have C20:=Zqp ⟨⟩ G C18 (a20.e X f);have C21:=Zfm ⟨⟩ G C13 (a21.e X f);have C22:=Zq8 ⟨⟩ G C1 (a22.e X f);have C24:=Zll ⟨⟩ (Sf C4) C7 (a24.e X f);have C29:=Znd ⟨⟩ G Y (a29.e X f);have C30:=Zhs ⟨⟩ G Y (a30.e X f);have C44:=Zgt ⟨⟩ G C23 o r A y (a44.e p);have C54:=Zfe ⟨⟩ x C (a54.e X f);have C57:=Zg2 ⟨⟩ G E (a57.e X f);have C58:=Zht ⟨⟩ G E (a58.e X f);have C63:=Zrh ⟨⟩ C59 C60 C61 C62 (a63.e X f);have C69:=Zbq ⟨⟩ C67 C68 (a69.e X f);have C72:=Zle ⟨⟩ G x C B (a72.e X f);have C73:=Zar ⟨⟩ G x C (a73.e X f);have C76:=Zfj ⟨⟩ G B C74 (a76.e X f);have C6:=Zfd ⟨⟩ C5 (a6.e X f);have C12:=Za7 ⟨⟩ C8 C9 C10 C11 C5 (a12.e X f);have C16:=Zev ⟨⟩ G C15 (a16.e X f);have C31:=Zjf ⟨⟩ G (Sf C4) C25 C27 C29 (a31.e X f);have C35:=Zkh ⟨⟩ G C3 (a35.j p Uy U0);have C40:=Zp0 ⟨⟩ G o r A y C19 (a40.e p);have C41:=Zdy ⟨⟩ G o r A y C20 (a41.e p);have C42:=Zcu ⟨⟩ G o r A y C21 (a42.e p);have C43:=Zo8 ⟨⟩ G o r A y C22 (a43.e p);have C77:=Zpo ⟨⟩ G x C B C76 (a77.e X f);have C79:=Zia ⟨⟩ G B C74 C75 C78 C76 (a79.e X f);have C17:=Zhw ⟨⟩ G C0 (Sf C4) C16 (a17.e X f);have C46:=Zcz ⟨⟩ G (Sf C4) o r C16 (a46.e p);have C70:=Zrr ⟨⟩ G C44 C40 C41 C42 C43 (a70.e X f);have C32:=Zhj ⟨⟩ G C24 C31 C17 (a32.e X f);have C33:=Zm5 ⟨⟩ G (Sf C4) Y C28 C24 C30 C31 C17 (a33.e X f);have C71:=Zl2 ⟨⟩ G C45 E C69 C70 (a71.e X f);have C34:=Zb1 ⟨⟩ C32 (a34.e X f);have H:=Zkg ⟨⟩ G o r C33 (a47.e p);have C48:=Zo4 ⟨⟩ G o r C34 (a48.e p);have C49:=Zon ⟨⟩ G o C12 H (a49.e p);have C50:=Zmh ⟨⟩ G o C6 H (a50.e p);have C80:=Zne ⟨⟩ G C57 H C48 C49 C50 (a80.e X f);have C81:=Zd9 ⟨⟩ G E C59 C64 C65 C66 C57 C58 C63 C46 H C48 C49 C50 C80 (a81.e X f)
 have C82:=Zic ⟨⟩ G o r x C55 C54 C58 C72 C73 C35 C77 C79 C71 C81 D82;exact(C82.at (QA X f a82) U D82).imp λ_ _ _ _ z=>Pu.Zey z
end T
namespace PySem.W.Fast
def I:True:=⟨⟩
def tw7262449233166440574:=I
def tw10704326663393247232:=I
def tw9411319395386601472:=I
def tw12601437424902522944:=I
def tw6015605682831053888:=I
def tw9157599143009852512:=I
def tw13750208367798943872:=I
def tw4235819255697702048:=I
def tw6147436694774719680:=I
def tw12551715573365340352:=I
def tw487019138893201696:=I
def tw13160977033300366624:=I
def tw5039070444070390112:=I
def tw10652694400997251424:=I
def tw7509748833324427648:=I
def tw8867609328621581760:=I
def tw10050690161245445632:=I
def tw13880192567687413248:=I
def tw15937527305907839520:=I
def tw16803805896800052768:=I
def tw7411712246453469760:=I
def tw5525843942493167168:=I
def tw15506807018644103744:=I
def tw15793387280921155200:=I
def tw5741778316775029408:=I
def tw15050576237524146944:=I
def tw1292403680585029440:=I
def tw9784549976427191104:=I
def tw13418786361983872864:=I
def tw9206985011077300064:=I
def tw2788011391561533312:=I
def tw17865291141589536640:=I
def tw5541500484125412224:=I
def tw15203077942520482720:=I
def tw11478863143365109696:=I
def tw10298230430781868033:=I
def tw17483034984739205121:=I
def tw8671538117146268737:=I
def tw10216367204842169473:=I
def tw11079315218161435873:=I
def tw10755017547769579745:=I
def tw181965576783958241:=I
def tw10472085377706706145:=I
def tw8944233635414407393:=I
def tw6254170237033536769:=I
def tw2764546952283708673:=I
def tw14252388908266972449:=I
def tw578570415781178657:=I
def tw3149067236599119169:=I
def tw249910073635696097:=I
def tw1675450061090292225:=I
def tw10610170243281759745:=I
def tw6409830185597221377:=I
def tw14389900954863348289:=I
def tw5486310890000823873:=I
def tw8498770974551878273:=I
def tw4963725140374832769:=I
def tw16008187563491715713:=I
def tw801757284371933889:=I
def tw4752445735907903201:=I
def tw5905581953946903265:=I
def tw15884530393673981729:=I
def tw346906728474407713:=I
def tw13934564466050739041:=I
def tw10846430332863495009:=I
def tw13391814571565643617:=I
def tw16402916642031862657:=I
def tw13183794713479696257:=I
def tw17890815508759114625:=I
def tw12756149284773946402:=I
def tw6891640538069990594:=I
def tw2220377041582656770:=I
def tw16455334055039840546:=I
def tw737256621705051490:=I
def tw16794006514202283394:=I
def tw14041760542749629858:=I
def tw16731120926049035810:=I
def tw11769067099682315874:=I
def tw15458509701697330786:=I
def tw3299218441720571618:=I
def tw1208827134140904162:=I
def tw11282539322094286562:=I
def tw16133098215829754626:=I
def tw6707459769132694338:=I
def tw6856629972363555682:=I
def tw17224659375874948994:=I
def tw5540349446372250498:=I
def tw17922721689521530786:=I
def tw15255639073905777634:=I
def tw13322051580748406754:=I
def tw2870300346410595363:=I
def tw8841410003194198083:=I
def tw14912893014414156867:=I
def tw9380312673009107043:=I
def tw16423053229483181155:=I
def tw2409384945407247491:=I
def tw10744997987267894403:=I
def tw394750692364134595:=I
def tw2733380182365912259:=I
def tw15882130746621057219:=I
def tw651137289848977603:=I
def tw7684707422162094307:=I
def tw17656472496769375459:=I
def tw16001487785498667235:=I
def tw12103143342654731523:=I
def tw2971915183706228995:=I
def tw5302754450770782499:=I
def tw4672039026893855043:=I
def tw8554013562708401475:=I
def tw17878570311634010467:=I
def tw17380969138600317315:=I
def tw9968195274304390563:=I
def tw9843745198113129891:=I
def tw13927476962222272931:=I
def tw664132666375496163:=I
def tw9731067514260973027:=I
def tw5312680801067762211:=I
def tw11403967085812057635:=I
def tw7358051933373535779:=I
def tw12283345114120320547:=I
def tw13321579673792280099:=I
def tw11829537267916216899:=I
def tw3236653017342515843:=I
def tw9270744457021326019:=I
def tw3624701549405673155:=I
def tw14155108329860388579:=I
def tw8834240806506781411:=I
def tw6621296671588588291:=I
def tw12552353852821490435:=I
def tw4974994218818873123:=I
def tw16944492409051643747:=I
def tw17164654358760855427:=I
def tw12705730652004582307:=I
def tw793022197003428771:=I
def tw1877402029350454340:=I
def tw8512700002882060420:=I
def tw10551030647041520772:=I
def tw3196097304143602852:=I
def tw7769722014493832388:=I
def tw7839461896488723780:=I
def tw10526233204267002180:=I
def tw12616379375328847172:=I
def tw14882355207066033540:=I
def tw4904951040313340292:=I
def tw15581584734746385828:=I
def tw12606624395863944612:=I
def tw7539561560036679108:=I
def tw16865577494280315332:=I
def tw7367736468514523588:=I
def tw154434726190830052:=I
def tw1691934733439810052:=I
def tw8124814460438199812:=I
def tw1092137211268024836:=I
def tw11010288633453218340:=I
def tw5047273175665035812:=I
def tw17396545843901708900:=I
def tw16148541318189641316:=I
def tw7331826004961088164:=I
def tw8162450212650857156:=I
def tw7341615832634347236:=I
def tw11606443724712766180:=I
def tw6351964571517328132:=I
def tw11800901293021125380:=I
def tw4330320028478993188:=I
def tw7799138993106750340:=I
def tw10543899486784725892:=I
def tw4015887076615559076:=I
def tw5724904374097420260:=I
def tw17192582990245767140:=I
def tw3225452537428672517:=I
def tw9701802912823345157:=I
def tw13355836991690429477:=I
def tw16535238868714354725:=I
def tw1409765530214825029:=I
def tw1309995184790039685:=I
def tw7130088921121783973:=I
def tw5162300489617180869:=I
def tw2656428955864435941:=I
def tw5089864417405476069:=I
def tw13427194314969268453:=I
def tw374614031464320261:=I
def tw1896580647443129669:=I
def tw907734220067078501:=I
def tw108982007929112933:=I
def tw11972676746290347397:=I
def tw5048972059367822757:=I
def tw6643278768861016485:=I
def tw11211124404060870117:=I
def tw8237526864577908229:=I
def tw7845470447763379717:=I
def tw6843139071626034725:=I
def tw2911096057970968197:=I
def tw4896324981716690597:=I
def tw14639957830050555621:=I
def tw13485724953182612197:=I
def tw15316566369337888485:=I
def tw5867802901919305477:=I
def tw18140067823235225445:=I
def tw5603170563107477445:=I
def tw5044945741431740422:=I
def tw220231193023466566:=I
def tw17360935245623276646:=I
def tw56214934002056294:=I
def tw7172486710164783366:=I
def tw13405786496303556902:=I
def tw16351243989430364454:=I
def tw5247630165053950310:=I
def tw9941326660257402246:=I
def tw13644091489599444358:=I
def tw18012449523582084550:=I
def tw9787008382978099686:=I
def tw14009481593910082054:=I
def tw10358391363036775974:=I
def tw18248108977069960742:=I
def tw8155552882440803910:=I
def tw3198009975920055878:=I
def tw15635763469938359878:=I
def tw15886764278393358950:=I
def tw13405123426258360998:=I
def tw1054177102290528998:=I
def tw9930596776106339046:=I
def tw9600699080992209766:=I
def tw12042599350159633254:=I
def tw18196077706092593030:=I
def tw12763440358291680166:=I
def tw11912799722222061510:=I
def tw17575253060341381062:=I
def tw11157688045306497990:=I
def tw11121365405489137638:=I
def tw7875485704279705574:=I
def tw4575082157767132167:=I
def tw5499145850910281767:=I
def tw3691749934511075367:=I
def tw10770798041912262695:=I
def tw4577337689349329991:=I
def tw16039101628168303751:=I
def tw15639684847263298759:=I
def tw14499936530522097895:=I
def tw6783317337623777575:=I
def tw12585548057260057895:=I
def tw6114828925015175495:=I
def tw10734109241515177351:=I
def tw11263082302072129991:=I
def tw17862177007370296775:=I
def tw18248280416479864263:=I
def tw12471593965162954183:=I
def tw11283899615134840359:=I
def tw3030752825904843335:=I
def tw14476010831918914119:=I
def tw87826332347327047:=I
def tw53411906489782887:=I
def tw11028589181513652839:=I
def tw2691583825982717543:=I
def tw15913703219512518311:=I
def tw10735546322931362535:=I
def tw11476872271199711047:=I
def tw2035056985317661575:=I
def tw802017226385969063:=I
def tw12227666167551945671:=I
def tw1028824063987282887:=I
def tw6380066892515262439:=I
def tw12603768864751629320:=I
def tw11923025980574203944:=I
def tw10956884204596579368:=I
def tw5794473495430363208:=I
def tw18236830264421846120:=I
def tw15303286978377172072:=I
def tw15428049852604713096:=I
def tw3081150600898346120:=I
def tw10246028429575820456:=I
def tw14943600766661425320:=I
def tw9769924608171033864:=I
def tw17980853391930349832:=I
def tw1514899823680871752:=I
def tw13133505935006540168:=I
def tw11932050547730779592:=I
def tw13767331748703833576:=I
def tw10848099396683479528:=I
def tw2690617735793075720:=I
def tw9361067697871328808:=I
def tw8751312515061522024:=I
def tw17445638584399285864:=I
def tw6798007964480140904:=I
def tw4927870652784785064:=I
def tw429660974973051560:=I
def tw122441391844266760:=I
def tw6907241380354441992:=I
def tw1514230513278445352:=I
def tw6413608273758089000:=I
def tw18104321473130304328:=I
def tw14295756768275034952:=I
def tw12293590393752236936:=I
def tw9967361128104835976:=I
def tw17224273611487158248:=I
def tw6502995443076444136:=I
def tw17304453977454393353:=I
def tw5257907191613102281:=I
def tw2614229687328154857:=I
def tw6315078866204209385:=I
def tw6532257760422129897:=I
def tw4919254162572750089:=I
def tw14984285341062513929:=I
def tw9164925840883921193:=I
def tw4555652498692914473:=I
def tw15163680414287963465:=I
def tw18020131252203129193:=I
def tw12389072139255570921:=I
def tw8967581967696161321:=I
def tw1407202797544690249:=I
def tw3470886468176000617:=I
def tw5333771564125487785:=I
def tw14151800652143462057:=I
def tw11139049913396073129:=I
def tw6037817622692683433:=I
def tw400291233362190025:=I
def tw15417240747572336393:=I
def tw5424074662524534537:=I
def tw15449913992872596265:=I
def tw807365830112922409:=I
def tw12504329727220755273:=I
def tw2714760505506513737:=I
def tw10849670320010188617:=I
def tw14558895085154726729:=I
def tw18119841496869959561:=I
def tw129071441292744617:=I
def tw16180559121177653193:=I
def tw16311018401591581641:=I
def tw16659900962990201833:=I
def tw8878178266614127593:=I
def tw9135664430411374569:=I
def tw16080556614167623722:=I
def tw16065013277961455722:=I
def tw15315992827203826794:=I
def tw13376239879413496938:=I
def tw5838740421089913994:=I
def tw3839538814088115370:=I
def tw12432955392952268970:=I
def tw11734131065355976938:=I
def tw6850752823482907882:=I
def tw10342842201658935658:=I
def tw15314303175434990026:=I
def tw14390591162392008202:=I
def tw5137798364646921802:=I
def tw1195464589952755306:=I
def tw16770517632600844906:=I
def tw17485695907016913514:=I
def tw16704330451737616010:=I
def tw12016981875152411370:=I
def tw16479075950935396106:=I
def tw7524136561916015434:=I
def tw17564053398404828074:=I
def tw5160697564341008298:=I
def tw4149256031606200331:=I
def tw13829646500236385291:=I
def tw8132240119106082923:=I
def tw8240209370454369387:=I
def tw4853287374549014635:=I
def tw6565488387535807627:=I
def tw17963365057743942827:=I
def tw7980360584907827435:=I
def tw6853103475722307819:=I
def tw13300647518537659691:=I
def tw9499521799581612395:=I
def tw8077263007971357131:=I
def tw499609966251091435:=I
def tw4273972340037669355:=I
def tw11734306055245989387:=I
def tw6049581859037483595:=I
def tw11626758052744321643:=I
def tw15104100797575687787:=I
def tw13037277767120969355:=I
def tw4724079647209448075:=I
def tw17252585570095851179:=I
def tw13513551906074996459:=I
def tw4635230462850787051:=I
def tw15342140057601006411:=I
def tw150758895646050155:=I
def tw8960956510501129099:=I
def tw6803714485528132491:=I
def tw7308875863926396940:=I
def tw14396464653210108972:=I
def tw10957728297471302732:=I
def tw10557466277302609004:=I
def tw3931179226378370156:=I
def tw18444250319296431244:=I
def tw5821942991551894668:=I
def tw13412389707680964748:=I
def tw5375641874929936620:=I
def tw15084740138010553644:=I
def tw3831437948269466956:=I
def tw14118331025902984524:=I
def tw2646256126242293100:=I
def tw2883839491621816684:=I
def tw17159050841245118828:=I
def tw16218974094431300076:=I
def tw15978386580447352300:=I
def tw1546738492543112716:=I
def tw17784893270635836172:=I
def tw14291382092251532076:=I
def tw8068795021990132556:=I
def tw5480216164184873868:=I
def tw4521123785677406092:=I
def tw4189815557149043628:=I
def tw9893351098766513132:=I
def tw6081855058959581229:=I
def tw11596311391024394349:=I
def tw7121937509957088365:=I
def tw15415779720717278349:=I
def tw1946939536572354733:=I
def tw535505628323152077:=I
def tw4724856640586554701:=I
def tw16203552770637960653:=I
def tw17718758574745689549:=I
def tw7927782087004421581:=I
def tw8242529179083681421:=I
def tw7684939430622953101:=I
def tw8938618784078971597:=I
def tw11213162326132614861:=I
def tw16359798603353179885:=I
def tw17401080434331024141:=I
def tw5682603073739711277:=I
def tw8724600048405010317:=I
def tw16822986090076650413:=I
def tw5170389868477994957:=I
def tw18060846860333425645:=I
def tw16223350225448976365:=I
def tw11174482614995295246:=I
def tw17138964080834225166:=I
def tw13897981206731925518:=I
def tw17938715652096178190:=I
def tw17632731718468158542:=I
def tw5548219270368811086:=I
def tw1367900214345031758:=I
def tw13024537148004623438:=I
def tw12830428632671071342:=I
def tw10996648916035215502:=I
def tw13108547337332731022:=I
def tw5696442048506539150:=I
def tw2734060652527108238:=I
def tw10833780339752779950:=I
def tw8761297577808169198:=I
def tw5342934582489674990:=I
def tw3902582370173286638:=I
def tw10700375591643199758:=I
def tw16440014158605995278:=I
def tw17272129141615406382:=I
def tw5431421121525049646:=I
def tw7216682348730277198:=I
def tw3347350774887855470:=I
def tw904009006559248750:=I
def tw14068225152969982318:=I
def tw13930206532219390318:=I
def tw5945563950207857038:=I
def tw2184456637653286286:=I
def tw2353301328341218734:=I
def tw5399236551530126830:=I
def tw248951417995965934:=I
def tw3951613986691779086:=I
def tw6562288707454513678:=I
def tw10138400337744647726:=I
def tw6303378224021099118:=I
def tw4780485575811136110:=I
def tw17980694063902505614:=I
def tw16839432903379018382:=I
def tw13896099054233879214:=I
def tw3853918161568801454:=I
def tw1433505350801496782:=I
def tw12119784394813876942:=I
def tw17290997142815068878:=I
def tw4471269988722608910:=I
def tw11494276092026859278:=I
def tw8058017639841915662:=I
def tw4726564623354375982:=I
def tw4331458951280865134:=I
def tw5908709695103261550:=I
def tw17535653790317666158:=I
def tw8973622595585419150:=I
def tw1926791620668505998:=I
def tw3180894022162065326:=I
def tw7776460354262806446:=I
def tw1792023270425276366:=I
def tw18266844641088070638:=I
def tw9632057082947392559:=I
def tw11727771816221182063:=I
def tw17514002764131181711:=I
def tw7582508138624891055:=I
def tw6603022399518803151:=I
def tw7974893552358042831:=I
def tw6898265969363398863:=I
def tw677547109295890671:=I
def tw9650011929640813839:=I
def tw7797851442869535023:=I
def tw2164174824592561455:=I
def tw834148735002662191:=I
def tw10099991798954187055:=I
def tw8755997485777777967:=I
def tw10065653032171684175:=I
def tw11099535128148941167:=I
def tw12640648167819331983:=I
def tw14114925569558837679:=I
def tw15727076179234511343:=I
def tw4196678602245264911:=I
def tw13484714571425327663:=I
def tw14711932525686585903:=I
def tw4918652415368409711:=I
def tw12166778433425860207:=I
def tw11595923930362450575:=I
def tw8690662961719587471:=I
def tw6368960198312242895:=I
def tw5956426836158919439:=I
def tw12205642014392265519:=I
def tw5920505503580205871:=I
def tw16322733312110418767:=I
def tw2418462870158671695:=I
def tw15083165018229018575:=I
def tw3730742967532415951:=I
def tw2418626950770767888:=I
def tw14020828312684379152:=I
def tw9412168332384133136:=I
def tw12895103741390383120:=I
def tw1143573859915031600:=I
def tw12092872456433818704:=I
def tw16309211072088075344:=I
def tw8565310862127874160:=I
def tw16875525187758998672:=I
def tw13239926600938848432:=I
def tw1511095726419545328:=I
def tw11360061272047630576:=I
def tw9809080458890564848:=I
def tw16844473166388888880:=I
def tw11902654750022442288:=I
def tw14594839309085328688:=I
def tw15785112581903441296:=I
def tw17352686900241231248:=I
def tw12288139919320806800:=I
def tw7675322834067831216:=I
def tw11860237139719942640:=I
def tw9080043604533866000:=I
def tw6659838724339757584:=I
def tw5192469522546230832:=I
def tw5297043633706437168:=I
def tw16155892963236977232:=I
def tw4161983897055456880:=I
def tw12104670818854150832:=I
def tw10078716546069614288:=I
def tw12617826376253927120:=I
def tw5612373164655507216:=I
def tw14732286116061476624:=I
def tw14709960658821783376:=I
def tw6829358097233349584:=I
def tw7981809588806744016:=I
def tw4404750466095118288:=I
def tw9598686953059936240:=I
def tw17344552047838234705:=I
def tw16348929939188924497:=I
def tw13709594606024988785:=I
def tw3557212362395691121:=I
def tw10852383926208891025:=I
def tw6968452788133984433:=I
def tw3704169878935515345:=I
def tw15852558768893952241:=I
def tw6371763046899118353:=I
def tw9317171566240518481:=I
def tw17342525053650304337:=I
def tw4648757819149038961:=I
def tw13732437012688365937:=I
def tw14551895938328081809:=I
def tw10203399108783737265:=I
def tw13166959236577594801:=I
def tw202479090234354097:=I
def tw6212683932970218961:=I
def tw14514245696048267761:=I
def tw3772348393481412113:=I
def tw16721685217922322001:=I
def tw9828059968619187889:=I
def tw6653898558532625169:=I
def tw2440118762228832017:=I
def tw6803361513723220785:=I
def tw16754613946213845873:=I
def tw5971340455575245681:=I
def tw3942676734339311473:=I
def tw5784700423926520721:=I
def tw2024846379382679441:=I
def tw13721258185347479441:=I
def tw16888069178971870097:=I
def tw10175270962906866609:=I
def tw1776938192408598449:=I
def tw1221826168637740017:=I
def tw7677925114811932722:=I
def tw14921660744160446546:=I
def tw18066608209280970834:=I
def tw2553675271674869842:=I
def tw2021093535775655026:=I
def tw3161398883786518674:=I
def tw8662382549943684306:=I
def tw3819284945202323698:=I
def tw14897731223884299506:=I
def tw3608032107837888818:=I
def tw8606501388921609618:=I
def tw12039435380335426962:=I
def tw5749918367002189202:=I
def tw16236536086305994130:=I
def tw9753969136090511762:=I
def tw9573224028395496882:=I
def tw18408058996901763602:=I
def tw13615317839040901714:=I
def tw15897637084928562834:=I
def tw15591448823583914674:=I
def tw18215978862414773938:=I
def tw11100444072285832914:=I
def tw12765052116660946706:=I
def tw17479117636380300050:=I
def tw11438026318111982354:=I
def tw14228919306082107186:=I
def tw7559020075647345522:=I
def tw5781155906799203282:=I
def tw921884640419904466:=I
def tw15043141609053925362:=I
def tw16565364106305023986:=I
def tw3556967833884028947:=I
def tw2306220744465883187:=I
def tw9553167290099231827:=I
def tw9962531470232404083:=I
def tw7627438822649090163:=I
def tw3041316192865571955:=I
def tw7701471660725530771:=I
def tw16181191440336130227:=I
def tw13982257878150997171:=I
def tw9828106970985489587:=I
def tw5797072444625258707:=I
def tw14524748358809793747:=I
def tw14463020431689924851:=I
def tw13179497779238621523:=I
def tw4137032954322451795:=I
def tw12593029640020342131:=I
def tw17405300043516641747:=I
def tw16629281469704706515:=I
def tw1316914008548810195:=I
def tw12248733776447000019:=I
def tw12327361732915421683:=I
def tw2867414890119293427:=I
def tw4965080244133517843:=I
def tw15722358142132970131:=I
def tw15685967610236508915:=I
def tw7510399435646649107:=I
def tw14861840222017177363:=I
def tw7589184964047174451:=I
def tw14958514738149823315:=I
def tw10522311283834266483:=I
def tw10865192004410157939:=I
def tw18373147561403068275:=I
def tw2883004728434935667:=I
def tw9168103527507327859:=I
def tw4036512126162815955:=I
def tw13927519208976028724:=I
def tw18047747420176904308:=I
def tw7138681159770602644:=I
def tw11760905689323653300:=I
def tw15421336430321889620:=I
def tw5468811033505570164:=I
def tw12761163428512696724:=I
def tw14642230517168621012:=I
def tw7331392505449594420:=I
def tw5572227631036066452:=I
def tw7407187003239600820:=I
def tw4277686163845857972:=I
def tw4321804580445316852:=I
def tw1615405869002598164:=I
def tw10303262589648547668:=I
def tw2453146020689271668:=I
def tw16670974852293780340:=I
def tw17864236025710395316:=I
def tw385707240921383860:=I
def tw4156552886908511188:=I
def tw5786480643865932756:=I
def tw9195206790372531188:=I
def tw11627680641517618197:=I
def tw5471095370971744277:=I
def tw775151742660752469:=I
def tw15367599445422126197:=I
def tw5222082690975406229:=I
def tw5891337144438625461:=I
def tw696484628107759861:=I
def tw8725931153156162805:=I
def tw17432733851122451701:=I
def tw3980514120505023733:=I
def tw11171885849938376981:=I
def tw16184230695228442965:=I
def tw12298920190193526133:=I
def tw6070455237130739093:=I
def tw12775899705802451349:=I
def tw8956797545676222901:=I
def tw17198695553725616565:=I
def tw5100121774100163029:=I
def tw4064297318951403061:=I
def tw14761407959268197973:=I
def tw1127896479368825461:=I
def tw7274564003480886933:=I
def tw7044692808153591445:=I
def tw17501452213769973429:=I
def tw12984694170488264373:=I
def tw7360775045745109685:=I
def tw8604440120362878709:=I
def tw3668418597231764245:=I
def tw739511153503597333:=I
def tw3871647642760561557:=I
def tw3477100356664522645:=I
def tw12732071314464768949:=I
def tw348299829782524853:=I
def tw605411531968200629:=I
def tw12354271493434464245:=I
def tw14257110552988819478:=I
def tw15496885622300849270:=I
def tw6625589869956418710:=I
def tw4388385135587513558:=I
def tw6101587041742470390:=I
def tw11343598183869519126:=I
def tw15901379245968193814:=I
def tw7486931363000252726:=I
def tw18299023152106929462:=I
def tw6082832218499880278:=I
def tw2224196445339476310:=I
def tw3449459303315708278:=I
def tw2963973332346898838:=I
def tw9549283489443681718:=I
def tw2167906191300857334:=I
def tw11242790751575544374:=I
def tw15534866750320203318:=I
def tw1825730583799388758:=I
def tw3386021160086762102:=I
def tw12559144216216009334:=I
def tw15104829505428853398:=I
def tw4180562562816041686:=I
def tw12719071014182970102:=I
def tw12173681094305149686:=I
def tw16562070396129170198:=I
def tw15003437113377949494:=I
def tw12194371636548889398:=I
def tw17167062444015111062:=I
def tw1828001709988484022:=I
def tw14203520825028245494:=I
def tw15146996418972110871:=I
def tw1089573481296826423:=I
def tw17911024967521437783:=I
def tw3864654773752432759:=I
def tw5350281847946407031:=I
def tw3857032919280583831:=I
def tw15469370583976853655:=I
def tw2555529647429782711:=I
def tw3939108853624132855:=I
def tw11182393299132302615:=I
def tw16216647386122837303:=I
def tw627715396620170679:=I
def tw2115509474134229463:=I
def tw12254660002748316183:=I
def tw17504856425985727031:=I
def tw5057628339097411191:=I
def tw15697893354298015351:=I
def tw4757856823658749591:=I
def tw10388173754645762775:=I
def tw2106069832898044663:=I
def tw1125618461463774999:=I
def tw2563342159800237847:=I
def tw4142011364707716919:=I
def tw18035826186528875319:=I
def tw18272677647007558487:=I
def tw17548287862713308023:=I
def tw9059286712814056343:=I
def tw7130240698550954999:=I
def tw12207731139219353591:=I
def tw7000340792185901080:=I
def tw13845188276481542232:=I
def tw7361948002968328280:=I
def tw3621100296979533080:=I
def tw15624538127572501816:=I
def tw5620699835537370424:=I
def tw11096898789025099064:=I
def tw3762446385558226264:=I
def tw7658214510039373176:=I
def tw2536401071827472760:=I
def tw15683621502570668472:=I
def tw16259821796416611768:=I
def tw9447552498507455992:=I
def tw11752097477602849272:=I
def tw2396692896466632184:=I
def tw11190163220479403640:=I
def tw1234679101744304888:=I
def tw12938780776567420696:=I
def tw4918164473674421016:=I
def tw95403116771704600:=I
def tw15067178367178414904:=I
def tw7632245982399974200:=I
def tw2796514538996730712:=I
def tw18200552392752796504:=I
def tw1007586858809470808:=I
def tw17685690682147796824:=I
def tw13843864056095439768:=I
def tw12774327673753503672:=I
def tw8465143441372878840:=I
def tw8197907432996371481:=I
def tw756576808644012089:=I
def tw12335649047638772825:=I
def tw15034815612750733401:=I
def tw8355423765977267289:=I
def tw1108987660563790969:=I
def tw12422904370811827321:=I
def tw17643592709770123449:=I
def tw5100483652679637177:=I
def tw478291797865184569:=I
def tw7987940590157917497:=I
def tw14832465819236865369:=I
def tw5388084790456527225:=I
def tw17262108259631263129:=I
def tw1916613115132344729:=I
def tw11789241132900998745:=I
def tw1707957361776638617:=I
def tw5663098514260016793:=I
def tw13668358472170941113:=I
def tw5089032391513426745:=I
def tw9581573243989712793:=I
def tw3190787545824256921:=I
def tw14844385603107089305:=I
def tw2480572469058764697:=I
def tw14936297058012231609:=I
def tw12385668377625394234:=I
def tw14695412133044201626:=I
def tw14416186135975335098:=I
def tw11537665102304615610:=I
def tw4418827295291115802:=I
def tw17168164663198926106:=I
def tw17350999059949222170:=I
def tw4389281279978769754:=I
def tw8521725832148173146:=I
def tw888446156694003066:=I
def tw2101352009027429754:=I
def tw3370806078929842554:=I
def tw18301870541909439866:=I
def tw14470946631431218554:=I
def tw9910681066216589722:=I
def tw785500815194660250:=I
def tw440100780557082010:=I
def tw15356481457586365850:=I
def tw12104930160173102522:=I
def tw16936374282171892186:=I
def tw16417777146471116250:=I
def tw1661645016936240666:=I
def tw17896863288390935098:=I
def tw17924878474854954554:=I
def tw13397164308486229626:=I
def tw7407267539669244570:=I
def tw13162023237776240346:=I
def tw17183054409716723450:=I
def tw3996932099830082330:=I
def tw993926177146153818:=I
def tw4314656189697152858:=I
def tw16586193025528107898:=I
def tw5616539963527705466:=I
def tw9122197005044950010:=I
def tw557218832008492026:=I
def tw12340076360296779770:=I
def tw2604108790994228218:=I
def tw2143257256210944059:=I
def tw10917657632414654555:=I
def tw7987176929287281787:=I
def tw1542402687807643771:=I
def tw10870966423231534299:=I
def tw2474224954395599131:=I
def tw17241860566545623323:=I
def tw1140104764209304891:=I
def tw13842356515707011387:=I
def tw4313074233470203227:=I
def tw1027375266106306939:=I
def tw18125077781415681563:=I
def tw18055856800504838683:=I
def tw5395300042657541691:=I
def tw12729979256277118523:=I
def tw4690166647267748411:=I
def tw12608943636596318811:=I
def tw16466268499216483963:=I
def tw1107296062617473659:=I
def tw2456223910661823131:=I
def tw6624608790114122555:=I
def tw4324540477853784955:=I
def tw3288299729067927419:=I
def tw7988057560161104827:=I
def tw18239521809431598236:=I
def tw17921439171435773116:=I
def tw951896857893865692:=I
def tw3090082657380865276:=I
def tw6448260001682499868:=I
def tw8372157097694130460:=I
def tw7760789420644355388:=I
def tw12237274868189198652:=I
def tw8217505043240657276:=I
def tw7925961809106519452:=I
def tw11152516656873996732:=I
def tw9040249362797927932:=I
def tw17661557505848323580:=I
def tw11342216679759667740:=I
def tw5412835492622223932:=I
def tw3896384001171427932:=I
def tw18315980961439114876:=I
def tw11173965566918345372:=I
def tw14175515258734173852:=I
def tw15600842222597811900:=I
def tw4717381182625637084:=I
def tw9434890277135713020:=I
def tw17052789759018173180:=I
def tw6914200446611508988:=I
def tw6331355974291836700:=I
def tw8818006550670072604:=I
def tw4125304641750264604:=I
def tw3771829735328144188:=I
def tw10746021158484575068:=I
def tw7350215443117823836:=I
def tw3298961454980301692:=I
def tw11738748057634072444:=I
def tw13882120638185211804:=I
def tw14268318700143934364:=I
def tw14392663895283936220:=I
def tw4737980183500835869:=I
def tw7526340712984851549:=I
def tw15723696505518178397:=I
def tw492042060033158301:=I
def tw1452504304982863037:=I
def tw17952216725401564413:=I
def tw9636674725407972637:=I
def tw16049770957525614909:=I
def tw11835448929578938685:=I
def tw7227485600669137213:=I
def tw11703899622631676285:=I
def tw11311757134064791933:=I
def tw14165571475079611773:=I
def tw6578430120964817341:=I
def tw9720876160738046429:=I
def tw12447507686017942013:=I
def tw16756895911732979229:=I
def tw7104884845707981341:=I
def tw13408432037639890493:=I
def tw9285553292605591165:=I
def tw14675043531066844797:=I
def tw13554426604787655293:=I
def tw8874594671755955869:=I
def tw2286250423170493149:=I
def tw17095316398414572285:=I
def tw7532440402607171325:=I
def tw13726110669207133981:=I
def tw17680261523909530429:=I
def tw17719364523866771293:=I
def tw10255256006017934173:=I
def tw2566534823781700509:=I
def tw8618988664583376958:=I
def tw10793442586189530206:=I
def tw1899903051752939678:=I
def tw666579223713122494:=I
def tw13011567765178175678:=I
def tw16952890832898012382:=I
def tw6285457856410727646:=I
def tw10807083162788837598:=I
def tw4118303604568105214:=I
def tw16809912227478130942:=I
def tw3376442698818744638:=I
def tw16784662270375908702:=I
def tw6000047844590183774:=I
def tw762308713250599294:=I
def tw7396112363590156702:=I
def tw2191366778487441822:=I
def tw3450160507401788862:=I
def tw8581797776556366334:=I
def tw2487105565765396990:=I
def tw17793674502982873630:=I
def tw12316112795528220254:=I
def tw18302119465167015518:=I
def tw2946173739691274846:=I
def tw900066881850976958:=I
def tw4735586437075333886:=I
def tw12203400413588938526:=I
def tw8547639335889111870:=I
def tw2990713955452180286:=I
def tw2464536488871350206:=I
def tw4228374443812981758:=I
def tw2885222469359111199:=I
def tw3647061793184921695:=I
def tw3042222986159764607:=I
def tw13758721349073594495:=I
def tw8319652918952986783:=I
def tw11445113867764053183:=I
def tw10113869369446058207:=I
def tw15134331945737979135:=I
def tw1412506516403755263:=I
def tw4872102886834549023:=I
def tw8790792656504841503:=I
def tw2455754679152423231:=I
def tw6938310952653023551:=I
def tw2720920533730892127:=I
def tw747920174188384639:=I
def tw809017458336501183:=I
def tw1643971854519740895:=I
def tw7416362592170389983:=I
def tw3406231697075180031:=I
def tw11277039744672557567:=I
def tw3037440901830618687:=I
def tw4062460669699083839:=I
def tw312554475547212415:=I
def tw8971296298080946879:=I
def tw18009524002396985055:=I
def tw11839355836248219359:=I
def tw14768229365929216767:=I
def tw5924932372605047551:=I
def tw4106045836622867199:=I
def tw3188355730790373151:=I
def tw15585585801882077055:=I
def tw6965056673251340223:=I
def tw15249964218176866271:=I
def tw2667405417944114143:=I
end PySem.W.Fast
open PySem PySem.W PyProof.Rows
set_option maxRecDepth 100000 in
set_option maxHeartbeats 0 in
theorem PySem.Challenge.cw_stripmeld_k30_asked_of_a_village_holds : PySem.Challenge.rw_stripmeld_k30_asked_of_a_village.Holds := by
 w_on;o_law;k_head;(case hw=>w_witness2)
 k_fill
 refine L2.Zkp (l:=PySem.Challenge.rw_stripmeld_k30_asked_of_a_village) (n:=63) (k:=10) (x:="_law_script") (CX:=L2.CX0) (sp:=Pu.D7) rfl (by decide) rfl ⟨rfl,by decide,by decide,rfl⟩ (fun w h Y=>PySem.W.kIn_of Y) ?F ?S ?C
 case F=>
  intro w mg fa h KX G hmg
  refine' T.Zpg KX G hmg ?Uc ?Uu ?Uv ?Uw ?Ux ?Uy ?U0 ?U1 ?U2 ?U3 ?a1 ?a2 ?a3 ?a4 ?a5 ?a6 ?a7 ?a8 ?a9 ?a10 ?a11 ?a12 ?a13 ?a14 ?a15 ?a16 ?a17 ?a18 ?a19 ?a20 ?a21 ?a22 ?a23 ?a24 ?a25 ?a26 ?a27 ?a28 ?a29 ?a30 ?a31 ?a32 ?a33 ?a34 ?a35 ?a36 ?a37 ?a38 ?a39 ?a40 ?a41 ?a42 ?a43 ?a44 ?a45 ?a46 ?a47 ?a48 ?a49 ?a50 ?a51 ?a52 ?a53 ?a54 ?a55 ?a56 ?a57 ?a58 ?a59 ?a60 ?a61 ?a62 ?a63 ?a64 ?a65 ?a66 ?a67 ?a68 ?a69 ?a70 ?a71 ?a72 ?a73 ?a74 ?a75 ?a76 ?a77 ?a78 ?a79 ?a80 ?a81 ?a82 ?l82 ?c82 ?k82 ?U4 ?U5 ?U6 ?U7 ?U8 ?U9 ?UA ?UB ?UC ?UD ?UE ?UF ?UG ?UH ?UI ?UJ ?UK ?UL ?Ud ?Ue ?Ug ?Uh ?Ui ?Uj ?Uk ?Ul ?Um ?Uo ?Up ?Uq ?Ur ?Us ?Ut ?Ub ?x_Ringed
  (case Uc|Uu|Uv|Uw|Ux|Uy|U0|U1|U2|U3=>k_is)
  (case a1|a2|a3|a4|a5|a6|a7|a8|a9|a10|a11|a12|a13|a14|a15|a16|a17|a18|a19|a20|a21|a22|a23|a24|a25|a26|a27|a28|a29|a30|a31|a32|a33|a34=>apply Pu.di<;>k_is)
  (case a35|a36|a37|a38|a39|a40|a41|a42|a43|a44|a45|a46|a47|a48|a49|a50=>apply Pu.mi<;>k_is)
  (case a51|a52|a53|a54|a55|a56|a57|a58|a59|a60|a61|a62|a63|a64|a65|a66|a67|a68|a69|a70|a71|a72|a73|a74|a75|a76|a77|a78|a79|a80|a81=>apply Pu.di<;>k_is)
  (case a82|l82|c82|k82|U4|U5|U6|U7|U8|U9|UA|UB|UC|UD|UE|UF|UG|UH|UI|UJ|UK|UL=>k_is)
  (case Ud|Ue|Ug|Uh|Ui|Uj|Uk|Ul|Um|Uo|Up|Uq|Ur|Us|Ut=>apply Pu.ei<;>first|(k_is;done)|k_exc)
  (case Ub=>apply Pu.ri<;>first|(k_is;done)|k_exc|rfl)
  (case x_Ringed=>kts_exm)
 case S=>exact fun K H a ns hl hO hS=>⟨a,ns,rfl,hS,fun _=>rfl⟩
 case C=>exact fun _ _ _ _ z=>z
