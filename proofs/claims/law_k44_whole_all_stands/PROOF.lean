import PyProof.Rows.All
import Wide.All
import OpenK.AllK
import Wide.FinOn
import Lean
import PyProof.EqAt
import PyProof.EqKinds
import PyProof.TupleCall
import PySem.Challenge.RW_stripmeld_k44_whole_all_stands
set_option Elab.async false
set_option linter.all false
set_option compiler.extract_closed false
set_option genSizeOf false
set_option maxRecDepth 100000
def bu_0(h:True:=by rfl):True:=h
def au_0:Lean.Syntax:=bu_0._auto_1
def bu_1(h:True:=by decide):True:=h
def au_1:Lean.Syntax:=bu_1._auto_1
def bu_2(h:True:=by first | exact .inl rfl | exact .inr rfl | assumption):True:=h
def au_2:Lean.Syntax:=bu_2._auto_1
def bu_3(h:True:=by intro _; rfl):True:=h
def au_3:Lean.Syntax:=bu_3._auto_1
def bu_4(h:True:=by first | exact Or.inl rfl | exact Or.inr (Or.inl rfl) | exact Or.inr (Or.inr rfl)):True:=h
def au_4:Lean.Syntax:=bu_4._auto_1
def bu_5(h:True:=by decide +kernel):True:=h
def au_5:Lean.Syntax:=bu_5._auto_1
def bu_6(h:True:=by first | exact Or.inl rfl | exact Or.inr rfl):True:=h
def au_6:Lean.Syntax:=bu_6._auto_1
def bu_7(h:True:=by intro _ _; rfl):True:=h
def au_7:Lean.Syntax:=bu_7._auto_1
def bu_8(h:True:=by kernel_rfl):True:=h
def au_8:Lean.Syntax:=bu_8._auto_1
def bu_9(h:True:=by intro _; first | exact Or.inl rfl | exact Or.inr (Or.inl rfl) | exact Or.inr (Or.inr rfl)):True:=h
def au_9:Lean.Syntax:=bu_9._auto_1
def bu_10(h:True:=by intro _; exact ⟨rfl, rfl, rfl⟩):True:=h
def au_10:Lean.Syntax:=bu_10._auto_1
def bu_11(h:True:=by with_unfolding_all rfl):True:=h
def au_11:Lean.Syntax:=bu_11._auto_1
def bu_12(h:True:=by intro _; first | exact Or.inl rfl | exact Or.inr rfl):True:=h
def au_12:Lean.Syntax:=bu_12._auto_1
def bu_13(h:True:=by intro _; first | exact .inl rfl | exact .inr rfl | assumption):True:=h
def au_13:Lean.Syntax:=bu_13._auto_1
def bu_14(h:True:=by intro _; kernel_rfl):True:=h
def au_14:Lean.Syntax:=bu_14._auto_1
noncomputable section
def WG:=@PySem.wpAny_bind
def WH:=@List.length_map
def WI:=@List.getElem?_eq_getElem
def WJ:=@PySem.wpAny_pure
def WK:=@List.getD_eq_getElem?_getD
def WL:=@decide_eq_true
def WM:=@PySem.Heap.get?_push_of_some
def WN:=@if_neg
def WO:=@of_decide_eq_true
def WQ:=@if_pos
def WR:=@List.mem_singleton
def WS:=@Nat.le_refl
def WT:=@List.length_append
def WU:=@PySem.Heap.get?_push_size
def WV:=@List.getElem?_map
def WW:=@Nat.le_trans
def WX:=@PySem.Heap.lt_size
def WY:=@List.map_append
def WZ:=@List.mem_cons
def Qa:=@List.map_cons
def Qb:=@Option.some.inj
def Qc:=@List.getElem_mem
def Qd:=@PySem.PassesOwn.never
def Qe:=@Bool.false_ne_true
def Qf:=@List.mem_map
def Qg:=@List.mem_filter
def Qh:=@List.take_succ_eq_append_getElem
def Qi:=@List.length_cons
def Qj:=@Nat.ne_of_lt
def Qk:=@List.mem_of_getElem?
def Ql:=@decide_eq_false
def Qm:=@List.mem_append
def Qn:=@List.size_toArray
def Qo:=@List.length_take
def Qp:=@Classical.byContradiction
def Qq:=@PySem.wpAny_newObj_type
def Qr:=@List.getElem?_append_right
def Qs:=@List.mem_cons_of_mem
def Qt:=@List.map_map
def Qu:=@List.getElem?_eq_some_iff
def Qv:=@List.getElem?_append_left
def Qw:=@List.drop_eq_getElem_cons
def Qx:=@Int.toNat_natCast
def Qy:=@Nat.add_le_add
def Qz:=@Bool.and_eq_true
def Q0:=@List.mem_iff_getElem
def Q1:=@List.mem_append_right
def Q2:=@Nat.lt_of_lt_of_le
def Q3:=@List.nodup_cons
def Q4:=@PySem.F.plainAttrs_list
def Q5:=@List.length_filter_le
def Q6:=@PySem.W.mg_none_of
def Q7:=@List.pairwise_iff_getElem
def Q8:=@Array.length_toList
def Q9:=@List.mem_cons_self
def QA:=@List.append_nil
def QB:=@congrArg
def QC:=@PySem.Heap.get?_update_self
def QD:=@List.eq_nil_or_concat
def QE:=@PySem.wpAny_call_entry
def QF:=@List.take_length
def QG:=@PySem.Heap.get?_update_other
def QH:=@PySem.wpAny_mono
def QI:=@PySem.Heap.SameBut.update
def QJ:=@List.pairwise_map
def QK:=@List.nodup_append
def QL:=@List.getElem?_cons_succ
def QM:=@PySem.W.mg_of
def QN:=@List.length_set
def QO:=@List.pairwise_cons
def QP:=@PySem.Obj.data_mapFields
def QR:=@Array.getElem?_eq_getElem
def QS:=@List.getElem?_eq_none
def QT:=@List.length_singleton
def QU:=@List.concat_eq_append
def QV:=@Nat.zero_le
def QW:=@PySem.W.kia_one
def QX:=@PySem.codeAny_builtin
def QY:=@List.pairwise_append
def QZ:=@PySem.wpAny_holding
def Va:=@Array.getElem?_toList
def Vb:=@List.cons_append
def Vc:=@Nat.lt_irrefl
def Vd:=@List.mem_range
def Ve:=@List.mem_append_left
def Vf:=@PySem.wpAny_setField
def Vg:=@List.dropLast_concat
def Vh:=@PySem.wpAny_callSpecial?_slot
def Vi:=@List.pairwise_singleton
def Vj:=@PySem.wpAny_field
def Vk:=@List.perm_ext_iff_of_nodup
def Vl:=@List.lookup_cons
def Vm:=@List.getElem_map
def Vn:=@PySem.Heap.size_push
def Vo:=@PySem.Obj.isFreed_of_fields
def Vp:=@Nat.add_sub_cancel
def Vq:=@Nat.ne_of_gt
def Vr:=@Nat.le_of_eq
def Vs:=@List.getElem?_take_of_lt
def Vt:=@PySem.Around.under_plainId
def Vu:=@PySem.F.slot_dict_valueiterator_next
def Vv:=@PySem.wpAny_typeNameOfWhole_itemiter
def Vw:=@PySem.wpAny_truthy_bool
def Vx:=@Bool.eq_false_iff
def Vy:=@Bool.not_eq_true'
def Vz:=@List.getElem_take
def V0:=@PySem.wpAny_typeNameOfWhole_valiter
def V1:=@PySem.F.slot_dict_itemiterator_next
def V2:=@List.getElem?_replicate
def V3:=@decide_eq_false_iff_not
def V4:=@List.filterMap_cons
def V5:=@PySem.mem_of_lookup
def V6:=@List.map_congr_left
def V7:=@List.getElem_of_mem
def V8:=@Nat.lt_succ_self
def V9:=@List.nodup_nil
def VA:=@Nat.le_succ
def VB:=@PyProof.Rows.callWith_type1
def VC:=@PySem.wpAny_passesOwn
def VD:=@PySem.wpAny_setState_of
def VE:=@PySem.wpAny_dictEntries
def VF:=@Classical.not_not
def VG:=@PySem.wpAny_typeNameOf_itemiter
def VH:=@PySem.codeAny_mono
def VI:=@List.all_eq_true
def VJ:=@PySem.wpAny_typeNameOf_valiter
def VL:=@PySem.F.slot_list_append
def VM:=@PySem.F.type_list_append
def VN:=@beq_eq_false_iff_ne
def VO:=@List.length_pos_iff
def VP:=@List.length_eq_zero_iff
def VQ:=@PySem.F.plain_list_iadd
def VR:=@PySem.F.slot_list_index
def VS:=@List.find?_cons
def VT:=@PySem.wpAny_dictEpoch
def VU:=@List.map_singleton
def VW:=@PySem.wpAny_setField_rec
def VX:=@PyProof.Rows.boot_isinstance
def VY:=@Array.getElem?_eq_none
def VZ:=@List.drop_of_length_le
def Ja:=@List.filterMap_eq_map'
def Jb:=@PySem.wpAny_pyIter_slot
def Jc:=@List.append_assoc
def Jd:=@decide_eq_true_eq
def Je:=@List.length_range
def Jf:=@Nat.le_of_lt
def Jg:=@Nat.lt_trans
def Jh:=@List.filterMap_append
def Ji:=@Int.ne_of_lt
def Jj:=@PySem.F.slot_list_pop
def Jk:=@PySem.F.type_list_pop
def Jl:=@if_false
def Jm:=@List.mem_of_mem_take
def Jn:=@List.getLast?_concat
def Jo:=@List.any_cons
def Jp:=@PySem.plainId_quiet
def Jq:=@Bool.true_and
def Jr:=@Array.getElem?_eq_some_iff
def Js:=@PySem.wpAny_Call_Name_kw
def Jt:=@PySem.F.args_tuple_add_2
def Ju:=@PySem.tupleKind_room_in1
def Jv:=@PyProof.Rows.F.entry_set_update_loop
def Jw:=@PyProof.Rows.F.plain_set_update_loop
def Jx:=@Bool.false_eq_true
def Jy:=@PySem.wpAny_fieldsOf
def Jz:=@Bool.false_and
def J0:=@PySem.F.entry_tuple_add
def J1:=@List.filter_cons_of_pos
def J2:=@List.filter_cons_of_neg
def J3:=@PySem.F.type_list_index
def J4:=@List.take_sublist
def J5:=@PySem.fits_of_scanBound
def J6:=@Nat.lt_succ_of_lt
def J7:=@PySem.Obj.cls_mapFields
def J8:=@PySem.F.slot_tuple_add
def J9:=@Int.le_refl
def JA:=@PySem.wpAny_isOneOf_itemiter
def JB:=@List.filter_eq_nil_iff
def JC:=@List.all_cons
def JD:=@PySem.wpAny_attempt
def JE:=@List.not_mem_nil
def JF:=@PySem.wpAny_isInstance
def JG:=@PySem.W.methodCall_KW
def JH:=@List.take_append_drop
def JI:=@PySem.wpAny_isOneOf_valiter
def JJ:=@List.getElem?_reverse
def JK:=@List.Pairwise.and_mem
def JL:=@PyProof.Rows.slot_tuple_getitem
def JM:=@PySem.Heap.get?_none_of_le
def JN:=@PySem.wpAny_execs_nil
def JO:=@Bool.eq_iff_iff
def JP:=@PySem.wpAny_typeOf
def JQ:=@Option.map_some
def JR:=@List.length_nil
def JS:=@Bool.or_eq_true
def JT:=@List.cons.injEq
def JU:=@Nat.pow_le_pow_right
def JV:=@PySem.W.plainGet_of
def JW:=@List.filter_sublist
def JX:=@List.length_reverse
def JY:=@PySem.wpAny_runValue
def JZ:=@PySem.wpAny_of_eq
def Ua:=@List.mem_filterMap
def Ub:=@PySem.W.callWith_K
def Uc:=@Nat.lt_of_le_of_lt
def Ud:=@Int.emod_lt_of_pos
def Ue:=@Option.isSome_map
def Ug:=@List.ext_getElem?
def Uh:=@Nat.not_lt
def Ui:=@Nat.lt_or_ge
def Uj:=@List.drop_length
def Uk:=@List.ext_getElem
def Ul:=@Int.add_zero
abbrev ZW:=List (Int×Int)
abbrev ZX:=List Int
abbrev ZY:=List (PySem.Addr×PySem.Obj)
abbrev ZZ:=PySem.Str->Option PySem.Value
abbrev Ya:=PySem.Value->PySem.Shared->Prop
abbrev Yb:=List (Option Nat)
abbrev Yc:=List Nat
abbrev Yd:=List PySem.Value
abbrev Ye:=List PySem.Str
abbrev Yf:=List PySem.Expr
abbrev Yg:=List PySem.Stmt
abbrev Yh:=Option PySem.Value
abbrev Yi:=Option PySem.Addr
abbrev Yj:=Array PySem.Value
abbrev Yk:=Array (Int×PySem.Value)
abbrev ZV:=PySem.W.Frag
namespace L2
open PySem PySem.Spec PyProof.Rows
abbrev Key:=Sum Int Str
noncomputable def Bb:Key->Value->Bool
 | .inl k,v=>Value.isInt k v
 | .inr x,v=>Value.isStrOf x v
noncomputable def Zdj(w:World):Key->Int
 | .inl k=>hashInt k
 | .inr x=>hashStr w x
def Nj:∀{k}{v:Value},Bb k v=true->(∃i t,k=Sum.inl i/\v=Value.int i t)\/(∃x t,k=Sum.inr x/\v=Value.str x t)
 | .inl i,v,h=>by
  obtain⟨t,e⟩:=Value.isInt_shape h
  grind
 | .inr x,v,h=>by
  obtain⟨t,e⟩:=Value.isStrOf_shape h
  grind
def Zex(i:Int)(t:Tok):Bb (.inl i) (.int i t)=true:=by simp[Bb,Value.isInt]
def Zrx(x:Str)(t:Tok):Bb (.inr x) (.str x t)=true:=by simp[Bb,Value.isStrOf]
def Zox(a b:Int):decide ((Sum.inl a:Key)=Sum.inl b)=(a==b):=by grind
def Zs9(a b:Str):decide ((Sum.inr a:Key)=Sum.inr b)=decide (a=b):=by simp
def Zpx(a:Int)(b:Str):decide ((Sum.inl a:Key)=Sum.inr b)=false:=Ql (λq=>nomatch q)
def Zoa(a:Str)(b:Int):decide ((Sum.inr a:Key)=Sum.inl b)=false:=Ql (λq=>nomatch q)
noncomputable def PX(prog:Program)(w:World):PySem.KeyKind prog w Key where
 is:=Bb
 hash:=Zdj w
 inj:=λv a b ha hb=>by
  rcases Nj ha with⟨i,t,rfl,rfl⟩|⟨x,t,rfl,rfl⟩
  ·rcases Nj hb with⟨j,u,rfl,e⟩|⟨y,u,rfl,e⟩
   ·injection e with e1 _;rw[e1]
   ·exact nomatch e
  ·rcases Nj hb with⟨j,u,rfl,e⟩|⟨y,u,rfl,e⟩
   ·exact nomatch e
   ·injection e with e1 _;rw[e1]
 byValue:=λk v h=>by
  rcases Nj h with⟨i,t,rfl,rfl⟩|⟨x,t,rfl,rfl⟩<;>rfl
 pyHash:=λhv h=>by
  rcases Nj hv with⟨i,t,rfl,rfl⟩|⟨x,t,rfl,rfl⟩
  ·exact wpAny_pyHash_int h
  ·exact wpAny_pyHash_str h
 eqBool:=λhu hv h=>by
  rcases Nj hu with⟨i,t,rfl,rfl⟩|⟨x,t,rfl,rfl⟩
  ·rcases Nj hv with⟨j,u,rfl,rfl⟩|⟨y,u,rfl,rfl⟩
   ·rw[Zox]at h;exact wpAny_eqBool_int h
   ·rw[Zpx]at h;exact SeqAt.EqAt.int_str i t y u _ _ _ _ h
  ·rcases Nj hv with⟨j,u,rfl,rfl⟩|⟨y,u,rfl,rfl⟩
   ·rw[Zoa]at h;exact SeqAt.EqAt.str_int x t j u _ _ _ _ h
   ·rw[Zs9]at h;exact wpAny_eqBool_str h
 «strs»:=λk x t v h=>by
  rcases Nj h with⟨i,u,rfl,e⟩|⟨y,u,rfl,e⟩
  ·exact nomatch e
  ·injection e with e1 _;subst e1;cases v<;>rfl
def Zgb(prog:Program)(w:World)(i:Int)(t:Tok):(PX prog w).is (.inl i) (.int i t)=true:=Zex i t
def Zsd(prog:Program)(w:World)(x:Str)(t:Tok):(PX prog w).is (.inr x) (.str x t)=true:=Zrx x t
inductive V where
 |non|bl (b:Bool)|int (i:Int)|str (x:Str)|byt (b:Array UInt8)|flt (b:UInt64)|ref (a:Addr)|ty (n:String)
 deriving DecidableEq
def RelV:V->Value->Prop
 | .non,u=>u=Value.none
 | .bl b,u=>u=Value.bool b
 | .int i,u=>∃t,u=Value.int i t
 | .str x,u=>∃t,u=Value.str x t
 | .byt b,u=>∃t,u=Value.bytes b t
 | .flt b,u=>∃t,u=Value.float b t
 | .ref a,u=>u=Value.ref a
 | .ty n,u=>u=Value.type n
abbrev Vals:List V->Yd->Prop:=Paired RelV
def Vals.length (r:Vals xs us):xs.length=us.length:=Paired.length r
def Vals.get:∀{xs us}{i:Nat}{x:V},Vals xs us->xs[i]?=some x->∃u,us[i]?=some u/\RelV x u:=by
 intro n
 induction n with
 |nil=>
  intro _ i _ h e;simp at e
 |cons _ _ f=>
  intro _ i d h e;cases h with
  |cons h r=>
   cases i with
   |zero=>
    simp at e;subst e;exact⟨_,rfl,h⟩
   |succ i=>
    obtain⟨v,l,g⟩:=f r (by simpa using e);exact⟨v,by simpa using l,g⟩
theorem Vals.set (r:RelV x u):∀{xs us} i,Vals xs us->Vals (xs.set i x) (us.set i u)
 |_,_,_,.nil=>.nil
 |_,_,0,.cons _ t=>.cons r t
 |_,_,i+1,.cons q t=>.cons q (Vals.set r i t)
def Vals.append:∀{xs ys}{us f:Yd},Vals xs us->Vals ys f->Vals (xs++ys) (us++f):=by
 intro l
 induction l with
 |nil=>
  intro _ _ _ h s;cases h
  exact s
 |cons _ _ g=>
  intro _ _ _ h s;cases h with
  |cons h r=>
   exact .cons h (g r s)
theorem Vals.take:∀{xs us} n,Vals xs us->Vals (xs.take n) (us.take n)
 |_,_,0,_|_,_,_+1,.nil=>.nil
 |_,_,n+1,.cons r t=>.cons r (Vals.take n t)
theorem Vals.drop:∀{xs us} n,Vals xs us->Vals (xs.drop n) (us.drop n)
 |_,_,0,r=>r
 |_,_,_+1,.nil=>.nil
 |_,_,n+1,.cons _ t=>Vals.drop n t
def RelO:Option V->Yh->Prop
 |some v,some u=>RelV v u
 |none,none=>True
 |_,_=>False
def KV{f:Type}:List (f×V)->List (f×Value)->Prop:=Paired λ(p:f×V) (q:f×Value)=>p.1=q.1/\RelV p.2 q.2
noncomputable def kV:Key->V
 | .inl i=>.int i
 | .inr x=>.str x
inductive HO where
 |lst (xs:List V)
 |tup (xs:List V)
 |dK (kvs:List (Key×V))|dT (kvs:List (List Key×V))
 |set (S:Int->Bool) (n:Nat)
 |ins (C dx:Addr) (fs:List (Str×V))
 |own (x:Addr)
 |xd (fs:List (Str×V))
 |met (f x:Addr)
 |rng (lo hi:Int)
 |frz (o:Obj) (u:HO)
 |tbl (ps:Yj)
 |ext (φ:Heap->Prop)
abbrev Hp:=Addr->Option HO
noncomputable def upd(H:Hp)(a:Addr)(o:HO):Hp:=λb=>if b=a then some o else H b
def XZ:upd H a o a=some o:=by unfold upd;rw[WQ rfl]
def XD{a b o}(h:b≠a):upd H a o b=H b:=by unfold upd;rw[WN h]
def Zvc:upd (upd H a o) a u=upd H a u:=by
 funext b;unfold upd;split<;>rfl
def Gc{H:Hp}{a b}{o u}(h:H a=some o)(h':H b=some u)(d:o≠u):a≠b:=by grind
def Ky{H:Hp}{a b}{o}(h:H a=some o)(h':H b=none):a≠b:=by grind
section
variable (P:Program) (w:World)
def ObjOk(H:Hp)(h:Heap)(a:Addr):HO->Prop
 | .lst xs=>xs.length<=sizeLine/\∃(l:Yd) (n:Nat),Vals xs l/\h.get? a=some {cls:=.type "list",data:=.seq l.toArray n}
 | .tup xs=>xs.length<=sizeLine/\∃l:Yd,Vals xs l/\IsTup h a l.toArray
 | .dK g=>g.length<=sizeLine/\(a==sysModules)=false/\∃z,KV g z/\h.DictOf (PX P w) a z
 | .dT g=>g.length<=sizeLine/\(a==sysModules)=false/\∃xs:List (List Key×Addr×Value),
   Paired (λ(p:List Key×V) (q:List Key×Addr×Value)=>p.1=q.1/\H q.2.1=some (.tup<|p.1.map kV)/\RelV p.2 q.2.2) g xs/\
   ∃o E L,h.get? a=some o/\o.ExactDict/\o.data=.dict E L/\E.toList=xs.map (entryOfKey<|tupleKind<|PX P w)/\(xs.map (·.1)).Nodup
 | .set S n=>h.SetOf (intKind P w) a S n
 | .ins C s fs=>H s=some (.own a)/\fs.length<=1000/\s≠a/\h.get? a=some (PySem.W.instObj C s)/\
   ∃r,h.Ns1 s r/\(∀f,RelO (fs.lookup f) (r f))/\PySem.Within r (fs.map (·.1))
 | .own _=>∃o,h.get? a=some o
 | .xd fs=>∃r,h.Ns1 a r/\∀f,RelO (fs.lookup f) (r f)
 | .rng lo J=>∃t u v,h.get? a=some {cls:=.type "range",data:=.fields #[.int lo t,.int J u,.int 1 v]}
 | .frz o u=>h.get? a=some o/\ObjOk H h a u
 | .tbl G=>h.get? a=some {cls:=.none,data:=.fields G}
 | .met f x=>h.get? a=some (PySem.W.methodObj (.ref f)<|.ref x)
 | .ext y=>y h/\(∃o,h.get? a=some o)/\∀B A:Heap,y B->(∀o,B.get? a=some o->A.get? a=some o)->y A
def HOk(H:Hp)(h:Heap):Prop:=∀a o,H a=some o->ObjOk P w H h a o
end
section
variable {P:Program}{w:World}{H H':Hp}{h h':Heap}{a:Addr}{o:HO}
def ObjOk.lt (x:ObjOk P w H h a o):a<h.objs.size:=by
 cases o with
 |lst xs=>obtain⟨_,_,_,_,e⟩:=x;exact WX e
 |tup xs=>obtain⟨_,_,_,p⟩:=x;exact p.lt
 |set S n=>obtain⟨o,_,_,_,e,_⟩:=x;exact WX e
 |ins C v fs=>obtain⟨_,_,_,e,_⟩:=x;exact WX e
 |own y=>obtain⟨_,e⟩:=x;exact WX e
 |xd fs=>obtain⟨_,⟨_,_,_,e,_⟩,_⟩:=x;exact WX e
 |rng lo s=>obtain⟨_,_,_,e⟩:=x;exact WX e
 |frz r u=>obtain⟨e,_⟩:=x;exact WX e
 |tbl l|met f y=>exact WX x
 |ext g=>obtain⟨_,⟨_,e⟩,_⟩:=x;exact WX e
 |_=>obtain⟨_,_,_,_,o,_,_,e,_⟩:=x;exact WX e
def Paired.mapP:∀{l:List u}{g:List s},Paired F l g->(∀a b,F a b->G a b)->Paired G l g:=by
 intro p
 induction p with
 |nil=>
  intro _ h _;cases h
  exact .nil
 |cons _ _ n=>
  intro _ h f;cases h with
  |cons h r=>
   exact .cons (f _ _ h) (n r f)
def ObjOk.stay (x:ObjOk P w H h a o) (k:∀b u,(b=a\/H b=some (.own a))->h.get? b=some u->h'.get? b=some u)
  (Q:∀b,H b=some (.own a)->H' b=some (.own a)) (N:∀b xs,H b=some (.tup xs)->H' b=some (.tup xs)):ObjOk P w H' h' a o:=by
 induction o with
 |lst xs=>obtain⟨z,A,n,r,e⟩:=x;exact⟨z,A,n,r,k _ _ (.inl rfl) e⟩
 |tup xs=>obtain⟨z,A,r,g,e,c⟩:=x;exact⟨z,A,r,g,k _ _ (.inl rfl) e,c⟩
 |dK G=>obtain⟨z,y,J,r,g,l,s,e,c⟩:=x;exact⟨z,y,J,r,g,l,s,k _ _ (.inl rfl) e,c⟩
 |dT G=>
  obtain⟨z,y,xs,r,g,l,s,e,c⟩:=x;exact⟨z,y,xs,Paired.mapP r λp q z=>⟨z.1,N _ _ z.2.1,z.2.2⟩,g,l,s,k _ _ (.inl rfl) e,c⟩
 |set S n=>obtain⟨g,l,s,t,e,c⟩:=x;exact⟨g,l,s,t,k _ _ (.inl rfl) e,c⟩
 |ins C dx fs=>
  obtain⟨d,z,L,e,E,⟨B,l,s,T,c⟩,r⟩:=x;exact⟨Q _ d,z,L,k _ _ (.inl rfl) e,E,⟨B,l,s,k _ _ (.inr d) T,c⟩,r⟩
 |own y=>obtain⟨g,e⟩:=x;exact⟨g,k _ _ (.inl rfl) e⟩
 |xd fs=>obtain⟨E,⟨B,l,s,e,c⟩,r⟩:=x;exact⟨E,⟨B,l,s,k _ _ (.inl rfl) e,c⟩,r⟩
 |rng lo hi=>obtain⟨t,u,v,e⟩:=x;exact⟨t,u,v,k _ _ (.inl rfl) e⟩
 |frz g u M=>obtain⟨e,q⟩:=x;exact⟨k _ _ (.inl rfl) e,M q⟩
 |tbl Y=>
  have e:=x;exact k a _ (.inl rfl) e
 |met f y=>
  have e:=x;exact k a _ (.inl rfl) e
 |ext U=>obtain⟨p,⟨o,e⟩,st⟩:=x;exact⟨st _ _ p λo q=>k _ _ (.inl rfl) q,⟨o,k _ _ (.inl rfl) e⟩,st⟩
def HOk.lt (x:HOk P w H h) (e:H a=some o):a<h.objs.size:=(x a o e).lt
def HOk.fresh (x:HOk P w H h) (e:h.objs.size<=a):H a=none:=by
 cases q:H a with
 |none=>rfl
 |some u=>exact absurd (Q2 (x.lt q) e) (Vc _)
def HOk.kept (x:HOk P w H h) (k:∀b u,h.get? b=some u->h'.get? b=some u):HOk P w H h':=λa o e=>
 (x a o e).stay (λb u _ q=>k b u q) (λ_ q=>q) λ_ _ q=>q
def HOk.laid (x:HOk P w H h) (k:∀b u,h.get? b=some u->h'.get? b=some u) (l:h.objs.size<=a) (new:ObjOk P w (upd H a o) h' a o):HOk P w (upd H a o) h':=λb u e=>by
 have f:=x.fresh l;by_cases g:b=a
 ·subst g;rw[XZ]at e;cases e;exact new
 ·rw[XD g]at e;exact(x b u e).stay (λc v _ q=>k c v q) (λc q=>by rw[XD (Ky q f)];exact q) λc xs q=>by rw[XD (Ky q f)];exact q
end
def Rd(H:Hp)(a:Addr)(u:HO):Prop:=H a=some u\/∃o,H a=some (.frz o u)
def Rd.ok {H h a u} (r:Rd H a u) (x:HOk P w H h):ObjOk P w H h a u:=by
 rcases r with r|⟨o,r⟩
 ·exact x a u r
 ·obtain⟨_,q⟩:=x a _ r;lia
def Mut:Option HO->Prop
 |some (.lst _)=>True
 |some (.dK _)=>True
 |some (.dT _)=>True
 |some (.set _ _)=>True
 |some (.ins _ _ _)=>True
 |some (.ext _)=>True
 |_=>False
section
variable {P:Program}{w:World}{H:Hp}{h h':Heap}{x e:Addr}{o':HO}
def HOk.write (ok:HOk P w H h) (g:Mut (H x)) (A:e=x\/H e=some (.own x)) (k:∀b u,b≠e->h.get? b=some u->h'.get? b=some u) (l:∃u,h'.get? e=some u)
  (new:ObjOk P w (upd H x o') h' x o'):HOk P w (upd H x o') h':=λb u q=>by
 have nown:∀c y,H c=some (.own y)->c≠x:=λc y r z=>by subst z;rw[r]at g;exact g
 have ntup:∀c xs,H c=some (.tup xs)->c≠x:=λc xs r z=>by subst z;rw[r]at g;exact g
 by_cases p:b=x
 ·subst p;rw[XZ]at q;cases q;exact new
 ·rw[XD p]at q;by_cases f:b=e
  ·have n:H b=some (.own x):=by
    rcases A with z|z
    ·grind
    ·rw[f];exact z
   rw[q]at n;cases n;obtain⟨v,s⟩:=l;exact⟨v,by rw[f];exact s⟩
  ·refine(ok b u q).stay (λc v o r=>k c v ?_ r) (λc r=>by rw[XD (nown c b r)];exact r) λc xs r=>by rw[XD (ntup c xs r)];exact r
   rcases o with rfl|o
   ·exact f
   ·grind
end
structure Un (fs ex:List Addr) (H H':Hp) (h h':Heap):Prop where
 keep:∀b o,h.get? b=some o->H b=none->b∉fs->b∉ex->h'.get? b=some o
 slot:∀b o,h.get? b=some o->H b=none->b∈fs->b∉ex->∃sl,h'.get? b=some {o with slots:=sl}
 free:∀b o,h.get? b=some o->H b=none->b∉ex->H' b=none
 there:∀b o,h.get? b=some o->b∉ex->∃o',h'.get? b=some o'
 tups:∀b xs,H b=some (.tup xs)->H' b=some (.tup xs)
 frzs:∀b o u,H b=some (.frz o u)->H' b=some (.frz o u)
 tbls:∀b ps,H b=some (.tbl ps)->∃more,H' b=some (.tbl (ps++more))
section
variable {fs fs' ex ex':List Addr}{H H1 H2:Hp}{h h1 h2 h':Heap}{a x e:Addr}{o:HO}
def Un.any (u:Un fs ex H H1 h h1) {b ob} (q:h.get? b=some ob) (n:H b=none) (hx:b∉ex):∃sl,h1.get? b=some {ob with slots:=sl}:=by
 by_cases f:b∈fs
 ·exact u.slot b ob q n f hx
 ·exact⟨ob.slots,u.keep b ob q n f hx⟩
def Un.kept (k:∀b u,h.get? b=some u->h'.get? b=some u):Un fs ex H H h h':=
 ⟨λb f q _ _ _=>k b f q,λb f q _ _ _=>⟨f.slots,k b f q⟩,λ_ _ _ n _=>n,λb f q _=>⟨f,k b f q⟩,λ_ _ q=>q,λ_ _ _ q=>q,λ_ g q=>⟨#[],by rw[q];simp⟩⟩
def Un.refl:Un fs ex H H h h:=Un.kept λ_ _ q=>q
def Un.laid (k:∀b u,h.get? b=some u->h'.get? b=some u) (hp:h.objs.size<=a) (hn:H a=none):Un fs ex H (upd H a o) h h' where
 keep:=λb u q _ _ _=>k b u q
 slot:=λb u q _ _ _=>⟨u.slots,k b u q⟩
 free:=λb u q n _=>by rw[XD (Qj<|Q2 (WX q) hp)];exact n
 there:=λb u q _=>⟨u,k b u q⟩
 tups:=λb xs q=>by rw[XD (Ky q hn)];exact q
 frzs:=λb u xs q=>by rw[XD (Ky q hn)];exact q
 tbls:=λb ps q=>⟨#[],by rw[XD (Ky q hn),q];simp⟩
def Un.write (f:Mut (H x)) (v:e=x\/H e=some (.own x)) (k:∀b u,b≠e->h.get? b=some u->h'.get? b=some u) (s:∃u,h'.get? e=some u):Un fs ex H (upd H x o) h h':=by
 have hx:∀b,H b=none->b≠x:=λb n z=>by subst z;rw[n]at f;exact f
 have l:∀b,H b=none->b≠e:=λb n z=>by
  rcases v with r|r
  ·grind
  ·grind
 have g:∀b u,H b=some u->¬Mut (some u)->b≠x:=λb u q p z=>by subst z;rw[q]at f;exact p f
 refine⟨λb u q n _ _=>k b u (l b n) q,λb u q n _ _=>⟨u.slots,k b u (l b n) q⟩,λb u q n _=>by rw[XD (hx b n)];exact n,λb u q _=>?_,
  λb xs q=>by rw[XD (g b _ q λz=>z)];exact q,λb u xs q=>by rw[XD (g b _ q λz=>z)];exact q,λb y q=>⟨#[],by rw[XD (g b _ q λz=>z),q];simp⟩⟩
 by_cases w:b=e
 ·grind
 ·grind
end
noncomputable def trk(h:Heap)(H:Hp):List Addr:=(List.range h.objs.size).filter λa=>(H a).isSome
noncomputable def NM(h:Heap)(H:Hp):Heap:=PySem.W.hideAll h (trk h H)
def Zqk(h:Heap)(H:Hp):(NM h H).objs.size=h.objs.size:=PySem.W.hideAll_size _ _
def Ztz{H b o}(e:h.get? b=some o)(n:H b=none):(NM h H).get? b=some o:=
 PySem.W.hideAll_get _ e λf=>by
  have q:=(Qg.mp f).2
  grind
def Zh6(e:(NM h H).get? b=some o):h.get? b=some o/\H b=none:=by
 have f:=PySem.W.of_hideAll (trk h H) e;refine⟨f,?_⟩;cases q:H b with
 |none=>rfl
 |some x=>
  have g:b∈trk h H:=Qg.mpr ⟨Vd.mpr (WX f),by simp[q]⟩;have z:(NM h H).get? b=none:=PySem.W.hideAll_none (trk h H) g
  grind
noncomputable def Zc7(g h:Heap)(L:Addr):ZY:=(List.range h.objs.size).filterMap λa=>if a=L\/(g.get? a).isSome=true then none else(h.get? a).map λo=>(a,o)
noncomputable def rest(g h:Heap)(L d:Addr):ZY:=(Zc7 g h L).filter λp=>decide (p.1≠d)
structure Mod (K:ZV) (mg:ZZ) (base:Heap):Prop where
 kin:K.In base
 glob:base.Ns mainGlobals mg
 blt:∃mb,base.Ns builtinsNs mb/\∀x:Str,x≠"__name__"->mb x=bootBuiltins x
 nolimit:base.NoLimit
structure Cx where
 prog:Program
 w:World
 K:ZV
 mg:ZZ
 base:Heap
 A:Around
 N:Ye
 s₀:Shared
 H₀:Hp
 env:Env
 outer:List Env
 stack:List Env
 ex:List Addr
 fn:Str->Bool
 calm:Bool
 pn:ZY
 xe:Ya
noncomputable def frs(l:List Env):List Addr:=l.filterMap (·.frame)
noncomputable abbrev Cx.fs (X:Cx):List Addr:=frs X.outer
def Vis(f:Scope)(x:Str):Prop:=f.names.lookup x=some .local\/f.names.lookup x=some .cell\/f.names.lookup x=some .free
def Loc(f:Scope)(x:Str):Prop:=f.names.lookup x=some .local\/f.names.lookup x=some .cell
def Look(env:Env)(h:Heap)(m:ZZ)(x:Str)(u:Value):Prop:=
 (env.kindOf x=some .local/\m x=some u)\/((env.kindOf x=some .cell\/env.kindOf x=some .free)/\∃c,env.cells.lookup x=some c/\h.IsCell c (some u))
structure Cx.Ok (X:Cx):Prop where
 mod:Mod X.K X.mg X.base
 kind:X.env.scope.kind=.function
 glob:X.env.globals=mainGlobals
 blt:X.env.builtins=builtinsNs
 above:X.s₀.heap.objs.size<=X.env.locals
 inj:∀x y c,X.env.cells.lookup x=some c->X.env.cells.lookup y=some c->x=y
 has:∀x,(X.env.kindOf x=some .cell\/X.env.kindOf x=some .free)->∃c,X.env.cells.lookup x=some c
 cab:∀x c,X.fn x=true->X.env.cells.lookup x=some c->X.s₀.heap.objs.size<=c
 hd:X.calm=true->X.A.handled=none
 frames:X.A.frames=some X.stack
 stk:X.stack=X.outer\/(X.stack=X.env::X.outer/\X.env.frame=some X.env.locals)
 exf:∀b∈X.ex,b≠X.env.locals/\∀x c,X.env.cells.lookup x=some c->c≠b
 bs:∀b o,X.base.get? b=some o->X.s₀.heap.get? b=some o/\X.H₀ b=none
 bsz:X.base.objs.size<=X.s₀.heap.objs.size
 noex:∀b o,X.base.get? b=some o->b∉X.ex
 exfs:∀b∈X.ex,b∉X.fs
 funs:X.s₀.heap.FunFrames X.base X.outer
 frf:∀b∈X.fs,X.H₀ b=none
structure Inv (X:Cx) (pins:ZY) (σ:List (Option V)) (H:Hp) (s:Shared):Prop where
 ok:X.Ok
 os:s.os=X.s₀.os
 bare:AllBare s.gens
 base:Un X.fs X.ex X.H₀ H X.s₀.heap s.heap
 loc:∃m,s.heap.Ns X.env.locals m/\∀(i:Nat) (x:Str) (v:V),X.N[i]?=some x->σ[i]?=some (some v)->Vis X.env.scope x->∃u,RelV v u/\Look X.env s.heap m x u
 cell:∀x c,X.env.cells.lookup x=some c->∃v,s.heap.IsCell c v
 free:H X.env.locals=none
 freeC:∀x c,X.env.cells.lookup x=some c->H c=none
 pin:∀p∈X.pn++pins,s.heap.get? p.1=some p.2/\H p.1=none/\p.1≠X.env.locals/\p.1∉X.fs/\∀v,p.2.data≠.cell v
 hok:HOk X.prog X.w H s.heap
 len:σ.length=X.N.length
section
variable {X:Cx}{pins:ZY}{σ:List (Option V)}{H H':Hp}{s:Shared}{h':Heap}
def Cx.Ok.nofr (ok:X.Ok) {b o} (e:X.base.get? b=some o):b∉X.fs:=λf=>by
 have:=(ok.funs.mem f).1
 grind
def Inv.bs (I:Inv X pins σ H s):∀b o,X.base.get? b=some o->s.heap.get? b=some o/\H b=none:=λb o e=>
 ⟨I.base.keep b o (I.ok.bs b o e).1 (I.ok.bs b o e).2 (I.ok.nofr e) (I.ok.noex b o e),I.base.free b o (I.ok.bs b o e).1 (I.ok.bs b o e).2 (I.ok.noex b o e)⟩
def Inv.bk (I:Inv X pins σ H s):∀b o,X.base.get? b=some o->s.heap.get? b=some o:=λb o e=>(I.bs b o e).1
def Inv.mod (I:Inv X pins σ H s):Mod X.K X.mg X.base:=I.ok.mod
def Inv.kIn (I:Inv X pins σ H s):X.K.In s.heap:=I.ok.mod.kin.keeps I.bk
def Inv.lt (I:Inv X pins σ H s):X.env.locals<s.heap.objs.size:=let ⟨_,f,_⟩:=I.loc;f.lt
def Inv.sz (I:Inv X pins σ H s):X.s₀.heap.objs.size<=s.heap.objs.size:=WW I.ok.above (Jf I.lt)
def Inv.nofs (I:Inv X pins σ H s) {a:Addr} (h:s.heap.objs.size<=a):a∉X.fs:=λg=>by
 obtain⟨_,o,f,_⟩:=I.ok.funs.mem g;exact absurd (Q2 (WX f)<|WW I.sz h) (Vc _)
def Inv.cne (I:Inv X pins σ H s):∀x c,X.env.cells.lookup x=some c->c≠X.env.locals:=λx c e z=>by
 obtain⟨v,o,l,n⟩:=I.cell x c e;obtain⟨m,⟨h,p,r,f,g,_⟩,_⟩:=I.loc
 grind
def Inv.funs (I:Inv X pins σ H s):s.heap.FunFrames X.base X.outer:=by
 have all:∀l,(∀b∈frs l,b∈X.fs)->X.s₀.heap.FunFrames X.base l->s.heap.FunFrames X.base l:=by
  intro l
  induction l with
  |nil=>intro _ _;trivial
  |cons B r p=>
   intro n x;obtain⟨y,⟨L,o,f,w,v,A⟩,u⟩:=x;have h:=n L (by unfold frs;rw[V4,f];exact Q9);obtain⟨sl,e⟩:=I.base.slot L o v (I.ok.frf L h) h λz=>I.ok.exfs L z h;exact⟨y,⟨L,_,f,w,e,A⟩,p (λb g=>n b (by unfold frs;rw[V4,f];exact Qs _ g)) u⟩
 exact all X.outer (λ_ g=>g) I.ok.funs
def Inv.stack (I:Inv X pins σ H s):s.heap.FunFrames X.base X.stack:=by
 rcases I.ok.stk with e|⟨e,g⟩
 ·rw[e];exact I.funs
 ·rw[e];obtain⟨m,f,_⟩:=I.loc;refine .cons (by rw[I.ok.kind];decide) g f ?_ I.funs;exact JM (WW I.ok.bsz I.ok.above)
def Inv.stkSub (I:Inv X pins σ H s):∀b∈frs X.stack,b∈X.env.locals::X.fs:=λb f=>by
 rcases I.ok.stk with e|⟨e,g⟩
 ·grind
 ·rw[e]at f;unfold frs at f;rw[V4,g]at f;trivial
def Inv.stkFree (I:Inv X pins σ H s):∀b∈frs X.stack,H b=none:=λb f=>by
 rcases WZ.mp (I.stkSub b f)with e|f
 ·rw[e];exact I.free
 ·obtain⟨_,o,g,_⟩:=I.ok.funs.mem f;exact I.base.free b o g (I.ok.frf b f) λz=>I.ok.exfs b z f
def Inv.step {d'}{ch:List Addr} (I:Inv X pins σ H s)
  (g:∀b∈ch,(b∈X.ex\/X.s₀.heap.objs.size<=b)/\b≠X.env.locals/\(∀x c,X.env.cells.lookup x=some c->c≠b)/\∀p∈X.pn++pins,p.1≠b)
  (keep:∀b o,b≠X.env.locals->b∉X.fs->b∉ch->s.heap.get? b=some o->H b=none->h'.get? b=some o)
  (slot:∀b o,b≠X.env.locals->b∈X.fs->b∉ch->s.heap.get? b=some o->H b=none->∃sl,h'.get? b=some {o with slots:=sl}) (free:∀b o,b∉ch->s.heap.get? b=some o->H b=none->H' b=none)
  (there:∀b o,b∉ch->s.heap.get? b=some o->∃o',h'.get? b=some o')
  (tups:∀b xs,H b=some (.tup xs)->H' b=some (.tup xs)) (frzs:∀b o u,H b=some (.frz o u)->H' b=some (.frz o u)) (tbls:∀b ps,H b=some (.tbl ps)->∃more,H' b=some (.tbl (ps++more)))
  (ns:∀m,s.heap.Ns X.env.locals m->h'.Ns X.env.locals m) (J:HOk X.prog X.w H' h') (hg:AllBare g') :
  Inv X pins σ H' {s with heap:=h',gens:=g',drawn:=d',toks:=t'}:=by
 have B:∀b o,X.s₀.heap.get? b=some o->b≠X.env.locals:=λb o e=>Qj (Q2 (WX e) I.ok.above)
 have f:∀b o,X.s₀.heap.get? b=some o->b∉X.ex->b∉ch:=λb o e hx y=>by
  rcases(g b y).1 with z|z
  ·exact hx z
  ·exact absurd (Q2 (WX e) z) (Vc _)
 have cellK:∀x c,X.env.cells.lookup x=some c->∀v,s.heap.IsCell c v->h'.IsCell c v:=λx c e v ⟨o,A,L⟩=>by
  have C:=λz=>(g c z).2.2.1 x c e rfl;by_cases M:c∈X.fs
  ·obtain⟨sl,q⟩:=slot c o (I.cne x c e) M C A (I.freeC x c e);exact⟨_,q,L⟩
  ·exact⟨o,keep c o (I.cne x c e) M C A (I.freeC x c e),L⟩
 refine⟨I.ok,I.os,hg,⟨λb o e n y hx=>?_,λb o e n y hx=>?_,λb o e n hx=>?_,λb o e hx=>?_,λb xs e=>tups b xs (I.base.tups b xs e),λb o xs e=>frzs b o xs (I.base.frzs b o xs e),λb ps e=>?_⟩,?_,λx c e=>?_,?_,λx c e=>?_,λp T=>?_,J,I.len⟩
 ·exact keep b o (B b o e) y (f b o e hx) (I.base.keep b o e n y hx) (I.base.free b o e n hx)
 ·obtain⟨sl,h⟩:=I.base.slot b o e n y hx;obtain⟨G,E⟩:=slot b _ (B b o e) y (f b o e hx) h (I.base.free b o e n hx);exact⟨G,E⟩
 ·obtain⟨o',h⟩:=I.base.there b o e hx;exact free b o' (f b o e hx) h (I.base.free b o e n hx)
 ·obtain⟨o',h⟩:=I.base.there b o e hx;exact there b o' (f b o e hx) h
 ·obtain⟨Q,h⟩:=I.base.tbls b ps e;obtain⟨N,E⟩:=tbls b _ h;exact⟨Q++N,by rw[E,Array.append_assoc]⟩
 ·obtain⟨m,U,Y⟩:=I.loc;refine⟨m,ns m U,λi x v h E e3=>?_⟩;obtain⟨u,r,l⟩:=Y i x v h E e3;refine⟨u,r,?_⟩;rcases l with l|⟨k,c,e,z⟩
  ·exact .inl l
  ·exact .inr ⟨k,c,e,cellK x c e _ z⟩
 ·obtain⟨v,z⟩:=I.cell x c e;exact⟨v,cellK x c e v z⟩
 ·obtain⟨m,⟨o,_,_,A,_⟩,_⟩:=I.loc;exact free _ o (λz=>(g _ z).2.1 rfl) A I.free
 ·obtain⟨v,o,A,L⟩:=I.cell x c e;exact free c o (λz=>(g c z).2.2.1 x c e rfl) A (I.freeC x c e)
 ·obtain⟨e,n,ne,nf,d⟩:=I.pin p T
  grind
def Inv.un (I:Inv X pins σ H s) (u:Un X.fs [] H H' s.heap h') (g:HOk X.prog X.w H' h'):Inv X pins σ H' {s with heap:=h',toks:=t'}:=by
 obtain⟨m,⟨o,E,G,v,r⟩,_⟩:=id I.loc;obtain⟨sl,A⟩:=u.any v I.free (by simp)
 exact I.step (ch:=[]) (λ_ z=>nomatch z) (λb o _ h _ e n=>u.keep b o e n h (by simp)) (λb o _ h _ e n=>u.slot b o e n h (by simp)) (λb o _ e n=>u.free b o e n (by simp)) (λb o _ e=>u.there b o e (by simp)) u.tups u.frzs u.tbls (λC y=>by
  obtain⟨B,l,p,f,x⟩:=y;rw[v]at f;cases f;exact⟨_,l,p,A,x⟩) g I.bare
def Inv.call {d'}{ch} (I:Inv X pins σ H s) (u:Un (frs X.stack) ch H H' s.heap h') (l:HOk X.prog X.w H' h') (G:AllBare L)
  (h:∀b∈ch,(b∈X.ex\/X.s₀.heap.objs.size<=b)/\b≠X.env.locals/\(∀x c,X.env.cells.lookup x=some c->c≠b)/\∀p∈X.pn++pins,p.1≠b) :
  Inv X pins σ H' {s with heap:=h',gens:=L,drawn:=d',toks:=t'}:=by
 obtain⟨m,⟨o,Q,T,B,r⟩,_⟩:=id I.loc;obtain⟨sl,v⟩:=u.any B I.free λz=>(h _ z).2.1 rfl
 exact I.step h (λb o v J f e n=>u.keep b o e n (λz=>(WZ.mp<|I.stkSub b z).elim v J) f) (λb o _ _ f e n=>u.any e n f) (λb o f e n=>u.free b o e n f) (λb o f e=>u.there b o e f) u.tups u.frzs u.tbls (λN E=>by
  obtain⟨M,y,A,g,C⟩:=E;rw[B]at g;cases g;exact⟨_,y,A,v,C⟩) l G
def Inv.turned {it} (I:Inv X pins σ H s) (k:∀b o,b≠it->s.heap.get? b=some o->h'.get? b=some o) (B:H it=none) (l:it≠X.env.locals)
  (J:it∈X.ex\/X.s₀.heap.objs.size<=it) (G:∀x c,X.env.cells.lookup x=some c->c≠it) (E:∀p∈X.pn++pins,p.1≠it):Inv X pins σ H {s with heap:=h',toks:=t'}:=by
 refine I.step (ch:=[it]) (λb C=>?_) (λb o _ _ f e _=>k b o (λz=>f (by simp[z])) e) (λb o _ _ f e _=>⟨o.slots,k b o (λz=>f (by simp[z])) e⟩) (λ_ _ _ _ n=>n)
  (λb o f e=>⟨o,k b o (λz=>f (by simp[z])) e⟩) (λ_ _ e=>e) (λ_ _ _ e=>e) (λb A e=>⟨#[],by rw[e];simp⟩) (λm h=>?_) (λb u e=>?_) I.bare
 ·grind
 ·obtain⟨o,w,y,g,r⟩:=h;exact⟨o,w,y,k _ o (Ne.symm l) g,r⟩
 ·refine(I.hok b u e).stay (λc v f q=>k c v ?_ q) (λ_ q=>q) λ_ _ q=>q;rcases f with z|z
  ·grind
  ·grind
def Inv.tok (I:Inv X pins σ H s) (t:Nat):Inv X pins σ H {s with toks:=t}:=I.un Un.refl I.hok
def Inv.kept (I:Inv X pins σ H s) (k:∀b u,s.heap.get? b=some u->h'.get? b=some u):Inv X pins σ H {s with heap:=h',toks:=t'}:=I.un (Un.kept k) (I.hok.kept k)
def Inv.laid {a:Addr}{o}{t'} (I:Inv X pins σ H s) (k:∀b u,s.heap.get? b=some u->h'.get? b=some u) (f:s.heap.objs.size<=a) (new:ObjOk X.prog X.w (upd H a o) h' a o) :
  Inv X pins σ (upd H a o) {s with heap:=h',toks:=t'}:=I.un (Un.laid k f<|I.hok.fresh f) (I.hok.laid k f new)
def Inv.write (I:Inv X pins σ H s) (g:Mut (H x)) (h:e=x\/H e=some (.own x)) (k:∀b u,b≠e->s.heap.get? b=some u->h'.get? b=some u) (f:∃u,h'.get? e=some u)
  (new:ObjOk X.prog X.w (upd H x o) h' x o):Inv X pins σ (upd H x o) {s with heap:=h',toks:=t'}:=I.un (Un.write g h k f) (I.hok.write g h k f new)
def Inv.weak (I:Inv X pins σ H s) (l:f.length=σ.length) (w:∀(i:Nat) v,f[i]?=some (some v)->σ[i]?=some (some v)):Inv X pins f H s:=
 ⟨I.ok,I.os,I.bare,I.base,let ⟨m,h,g⟩:=I.loc;⟨m,h,λi x v p o n=>g i x v p (w i v o) n⟩,I.cell,I.free,I.freeC,I.pin,I.hok,l.trans I.len⟩
def Inv.pins_of (I:Inv X pins σ H s) (h:∀p∈pins',s.heap.get? p.1=some p.2/\H p.1=none/\p.1≠X.env.locals/\p.1∉X.fs/\∀v,p.2.data≠.cell v):Inv X pins' σ H s:=
 ⟨I.ok,I.os,I.bare,I.base,I.loc,I.cell,I.free,I.freeC,λp f=>(Qm.mp f).elim (λz=>I.pin p (Ve _ z)) (h p),I.hok,I.len⟩
def My{N:Ye}(f:N.Nodup){i j:Nat}{x}(a:N[i]?=some x)(b:N[j]?=some x):i=j:=by
 obtain⟨n,h⟩:=Qu.mp a;obtain⟨l,g⟩:=Qu.mp b;exact(List.getElem_inj f).mp (h.trans g.symm)
def Ztl{i x v u Q}(I:Inv X pins σ H s)(hN:X.N.Nodup)(hi:X.N[i]?=some x)(hx:Loc X.env.scope x)(r:RelV v u)(h:∀s',Inv X pins (σ.set i<|some v) H s'->(∃a,Heap.SameBut a s.heap s'.heap/\(a=X.env.locals\/X.env.cells.lookup x=some a))->Q () s')(hf:autoParam (X.fn x=true\/X.env.scope.names.lookup x=some .local) au_2):wpAny M A (storeName X.env x u) Q E s:=by
 obtain⟨m,hn,hl⟩:=id I.loc;have hcls:(X.env.scope.kind == .class || (X.env.scope.kind == .module&&X.env.locals != X.env.globals))=false:=by rw[I.ok.kind];rfl
 have J:i<σ.length:=by rw[I.len];exact(Qu.mp hi).1
 have cne:=I.cne
 have tracked:∀{a:Addr} {h':Heap},(∃o,s.heap.get? a=some o/\H a=none)->Heap.SameBut a s.heap h'->HOk X.prog X.w H h':=λ{a h'} ha f b ob e=>by
  obtain⟨_,_,B⟩:=ha;refine(I.hok b ob e).stay (λc w' l q=>(f.2 c ?_).trans q) (λ_ q=>q) λ_ _ q=>q;rintro rfl;rcases l with rfl|l
  ·rw[B]at e;cases e
  ·rw[B]at l;cases l
 rcases hx with G|G
 ·refine wpAny_storeName_local G hn (λh' hn' f=>?_) hcls;obtain⟨oL,_,_,hoL,_⟩:=id hn;refine h _ ⟨I.ok,I.os,I.bare,⟨λb o e n U hx=>?_,λb o e n U hx=>?_,I.base.free,λb o e hx=>?_,I.base.tups,I.base.frzs,I.base.tbls⟩,⟨_,hn',λj y v' g C e3=>?_⟩,λy c e=>?_,I.free,I.freeC,λp hp=>?_,tracked ⟨oL,hoL,I.free⟩ f,by simpa using I.len⟩ ⟨_,f,.inl rfl⟩
  ·exact(f.2 b<|Qj<|Q2 (WX e) I.ok.above).trans (I.base.keep b o e n U hx)
  ·obtain⟨sl,g⟩:=I.base.slot b o e n U hx;exact⟨sl,(f.2 b<|Qj<|Q2 (WX e) I.ok.above).trans g⟩
  ·obtain⟨o',g⟩:=I.base.there b o e hx;exact⟨o',(f.2 b<|Qj<|Q2 (WX e) I.ok.above).trans g⟩
  ·by_cases L:j=i
   ·subst L;rw[hi]at g;cases g;rw[List.getElem?_set_self J]at C;cases C
    exact⟨u,r,.inl ⟨G,by simp⟩⟩
   ·rw[List.getElem?_set_ne (Ne.symm L)]at C;obtain⟨u',r',q⟩:=hl j y v' g C e3;refine⟨u',r',?_⟩;rcases q with⟨k,e⟩|⟨k,c,e,z⟩
    ·refine .inl ⟨k,?_⟩
     have:y≠x:=λe=>L (My hN g (e▸hi))
     simp[this,e]
    ·exact .inr ⟨k,c,e,z.sameBut f (cne y c e)⟩
  ·obtain⟨w',z⟩:=I.cell y c e;exact⟨w',z.sameBut f (cne y c e)⟩
  ·obtain⟨e,n,ne,nf,d⟩:=I.pin p hp;exact⟨(f.2 p.1 ne).trans e,n,ne,nf,d⟩
 ·have T:X.fn x=true:=by
   rcases hf with z|z
   ·exact z
   ·rw[z]at G;cases G
  obtain⟨c,l⟩:=I.ok.has x (.inl G);obtain⟨w',z⟩:=I.cell x c l;refine wpAny_storeName_cell I.ok.kind G l z (λh' hc' f=>?_);obtain⟨oc,hoc,Y⟩:=id z;refine h {s with heap:=h'} ⟨I.ok,I.os,I.bare,⟨λb o e n U hx=>?_,λb o e n U hx=>?_,I.base.free,λb o e hx=>?_,I.base.tups,I.base.frzs,I.base.tbls⟩,⟨m,hn.sameBut f (Ne.symm<|cne x c l),λj y v' g C e3=>?_⟩,λy c' e=>?_,I.free,I.freeC,λp hp=>?_,tracked ⟨oc,hoc,I.freeC x c l⟩ f,by simpa using I.len⟩ ⟨c,f,.inr l⟩
  ·exact(f.2 b<|Qj<|Q2 (WX e)<|I.ok.cab x c T l).trans (I.base.keep b o e n U hx)
  ·obtain⟨sl,g⟩:=I.base.slot b o e n U hx;exact⟨sl,(f.2 b<|Qj<|Q2 (WX e)<|I.ok.cab x c T l).trans g⟩
  ·obtain⟨o',g⟩:=I.base.there b o e hx;exact⟨o',(f.2 b<|Qj<|Q2 (WX e)<|I.ok.cab x c T l).trans g⟩
  ·by_cases L:j=i
   ·subst L;rw[hi]at g;cases g;rw[List.getElem?_set_self J]at C;cases C
    exact⟨u,r,.inr ⟨.inl G,c,l,hc'⟩⟩
   ·rw[List.getElem?_set_ne (Ne.symm L)]at C;obtain⟨u',r',q⟩:=hl j y v' g C e3;refine⟨u',r',?_⟩;rcases q with q|⟨k,c',e,z'⟩
    ·exact .inl q
    ·refine .inr ⟨k,c',e,z'.sameBut f ?_⟩;rintro rfl;exact L (My hN g (I.ok.inj _ _ _ e l▸hi))
  ·by_cases hcc:c'=c
   ·subst hcc;exact⟨_,hc'⟩
   ·obtain⟨w2,z2⟩:=I.cell y c' e;exact⟨w2,z2.sameBut f hcc⟩
  ·obtain⟨e,n,ne,nf,d⟩:=I.pin p hp;refine⟨(f.2 p.1 ?_).trans e,n,ne,nf,d⟩;intro q;rw[q,hoc]at e;exact d w' (by rw[←(Qb e)];exact Y)
def Ax{i x v u Q}(I:Inv X pins σ H s)(n:X.N.Nodup)(g:X.N[i]?=some x)(hx:Loc X.env.scope x)(r:RelV v u)(h:∀f,Inv X pins (σ.set i<|some v) H f->Q () f)(l:autoParam (X.fn x=true\/X.env.scope.names.lookup x=some .local) au_2):wpAny M A (storeName X.env x u) Q E s:=
 Ztl I n g hx r (λf o _=>h f o) l
def Inv.call' {ch} (I:Inv X pins σ H s) (l:f.os=s.os) (u:Un (frs X.stack) ch H H' s.heap f.heap) (g:HOk X.prog X.w H' f.heap) (n:AllBare f.gens)
  (h:∀b∈ch,(b∈X.ex\/X.s₀.heap.objs.size<=b)/\b≠X.env.locals/\(∀x c,X.env.cells.lookup x=some c->c≠b)/\∀p∈X.pn++pins,p.1≠b):Inv X pins σ H' f:=by
 obtain⟨h',v,y,o,r⟩:=f;subst l;exact I.call u g n h
end
abbrev XK:=Value->Yi->Hp->Prop
abbrev St:=List (Option V)
abbrev VK:=V->Hp->Prop
abbrev TE:=St->Hp->VK->Prop
abbrev TT:=St->Hp->(Bool->Hp->Prop)->Prop
abbrev TA:=St->Hp->(List V->Hp->Prop)->Prop
structure Ends where
 nx:St->Hp->Prop
 rt:VK
 bk:St->Hp->Prop:=λ_ _=>False
 ct:St->Hp->Prop:=λ_ _=>False
abbrev TS:=Ends->St->Hp->Prop
def EP(X:Cx)(pins:ZY)(g:St)(Q:VK)(u:Value)(h:Shared):Prop:=∃v f,Inv X pins g f h/\RelV v u/\Q v f
def TP(X:Cx)(pins:ZY)(g:St)(Q:Bool->Hp->Prop)(b:Bool)(h:Shared):Prop:=∃f,Inv X pins g f h/\Q b f
def AP(X:Cx)(pins:ZY)(h:St)(Q:List V->Hp->Prop)(us:Yd)(l:Shared):Prop:=∃f g,Inv X pins h g l/\Vals f us/\Q f g
def SP(X:Cx)(pins:ZY)(D:Ends)(f:Flow)(l:Shared):Prop:=
 match f with
 | .next=>∃g h,Inv X pins g h l/\D.nx g h
 | .brk=>∃g h,Inv X pins g h l/\D.bk g h
 | .cont=>∃g h,Inv X pins g h l/\D.ct g h
 | .ret u=>∃v g h,Inv X pins g h l/\RelV v u/\D.rt v h
def PE(X:Cx)(e:Expr)(t:TE):Prop:=
 ∀(pins:ZY) (s:Shared) (f:St) (H:Hp) (Q:VK),Inv X pins f H s->t f H Q->wpAny (model X.prog X.w) X.A (eval e X.env) (EP X pins f Q) X.xe s
def PT(X:Cx)(e:Expr)(t:TT):Prop:=
 ∀(pins:ZY) (s:Shared) (f:St) (H:Hp) (Q:Bool->Hp->Prop),Inv X pins f H s->t f H Q->wpAny (model X.prog X.w) X.A (isTrue e X.env<|eval e X.env) (TP X pins f Q) X.xe s
def PW(X:Cx)(e:Expr)(t:TT):Prop:=
 ∀(whole:Sem Value) (pins:ZY) (s:Shared) (f:St) (H:Hp) (Q:Bool->Hp->Prop),Inv X pins f H s->t f H Q->wpAny (model X.prog X.w) X.A (isTrue e X.env whole) (TP X pins f Q) X.xe s
def PW.pt (h:PW X e t):PT X e t:=h _
def PA(X:Cx)(es:Yf)(t:TA):Prop:=
 ∀(pos:Pos) (pins:ZY) (s:Shared) (f:St) (H:Hp) (Q:List V->Hp->Prop),Inv X pins f H s->t f H Q->wpAny (model X.prog X.w) X.A (spliced<|backTo pos<|starEach es X.env) (AP X pins f Q) X.xe s
def PS(X:Cx)(st:Stmt)(t:TS):Prop:=
 ∀(pins:ZY) (s:Shared) (f:St) (H:Hp) (D:Ends),Inv X pins f H s->t D f H->wpAny (model X.prog X.w) X.A (exec st X.env) (SP X pins D) X.xe s
def PSs(X:Cx)(st:Yg)(t:TS):Prop:=
 ∀(pins:ZY) (s:Shared) (f:St) (H:Hp) (D:Ends),Inv X pins f H s->t D f H->wpAny (model X.prog X.w) X.A (execs st X.env) (SP X pins D) X.xe s
def thn{M A E s}(h:wpAny M A t Q E s)(f:∀a s,Q a s->g a s):wpAny M A t g E s:=QH h f λ_ _ x=>x
section
variable {X:Cx}
def bin{B z}(J:PE X a B)(G:PE X b z){pins}{s}{g:St}{H}{R:V->V->Hp->Prop}(I:Inv X pins g H s)(h:B g H λx r=>z g r λy o=>R x y o){α}{Q}{f:Value->Value->Sem α}(U:∀v u p x y o,Inv X pins g o p->RelV x v->RelV y u->R x y o->wpAny (model X.prog X.w) X.A (f v u) Q X.xe p) :
  wpAny (model X.prog X.w) X.A (eval a X.env) (λv n=>wpAny (model X.prog X.w) X.A (eval b X.env) (λu l=>wpAny (model X.prog X.w) X.A (f v u) Q X.xe l) X.xe n) X.xe s:=by
 refine thn (J pins s g H _ I h) λv C ⟨x,r,L,N,E⟩=>?_;refine thn (G pins C g r _ L E) λu p ⟨y,o,Y,M,T⟩=>?_
 grind
noncomputable def Pf(i:Nat):TE:=λf H Q=>∃v,f[i]?=some (some v)/\Q v H
noncomputable def tC(v:V):TE:=λ_ H Q=>Q v H
def Zdw{pos}(C:X.N[i]?=some x)(y:Vis X.env.scope x)(n:autoParam ((x==("__debug__" : Str))=false) au_1)(o:autoParam ((x==("__classdict__" : Str))=false) au_1):PE X (.Name x pos) (Pf i):=by
 intro pins s w H Q I h;obtain⟨v,e,h⟩:=h;obtain⟨m,z,B⟩:=I.loc;obtain⟨u,r,l⟩:=B i x v C e y;have fin:EP X pins w Q u s:=⟨v,H,I,r,h⟩;rcases l with⟨g,A⟩|⟨g,c,p,f⟩
 ·exact wpAny_Name (wpAny_loadName_local I.ok.kind g z A fin) n
 ·rcases g with g|g
  ·exact wpAny_Name (wpAny_loadName_cell I.ok.kind g p f fin) n
  ·exact wpAny_Name (wpAny_loadName_free I.ok.kind g p f fin o) n
def X5:PE X (.Constant (.int i) j pos) (tC<|.int i):=λ_ _ _ H _ I h=>wpAny_Constant_int ⟨.int i,H,I.tok _,⟨_,rfl⟩,h⟩
def Nw:PE X (.Constant (.bool b) j pos) (tC<|.bl b):=λ_ _ _ H _ I h=>Constant_bool ⟨.bl b,H,I,rfl,h⟩
def Zk3:PE X (.Constant .none j pos) (tC .non):=λ_ _ _ H _ I h=>Constant_none ⟨.non,H,I,rfl,h⟩
def NZ:PE X (.Constant (.str x) j pos) (tC<|.str x):=λ_ _ _ H _ I h=>Calls.Constant_str ⟨.str x,H,I.tok _,⟨_,rfl⟩,h⟩
def Gl(X:Cx)(x:Str):Prop:=X.env.kindOf x=some .globalImplicit
def A8{pins}{s}{f:St}{H}{x}{u}{pos}{Q}(I:Inv X pins f H s)(l:Gl X x)(g:X.mg x=some u)(h:Q u s)(n:autoParam ((x==("__debug__" : Str))=false) au_1):wpAny (model X.prog X.w) X.A (eval (.Name x pos) X.env) Q E s:=
 Calls.Name_function_global I.ok.kind l (Calls.loadGlobal_global (by rw[I.ok.glob];exact I.mod.glob.keeps I.bk) g h) n
def SO{E}{pins}{s}{f:St}{H}{x}{u}{pos}{Q}(I:Inv X pins f H s)(o:Gl X x)(n:X.mg x=none)(g:bootBuiltins x=some u)(h:Q u s)(l:autoParam (x≠"__name__") au_1)(p:autoParam ((x==("__debug__" : Str))=false) au_1):wpAny (model X.prog X.w) X.A (eval (.Name x pos) X.env) Q E s:=by
 obtain⟨y,v,r⟩:=I.mod.blt;exact Calls.Name_function_global I.ok.kind o (Calls.loadGlobal_builtin (by rw[I.ok.glob];exact I.mod.glob.keeps I.bk) n (by rw[I.ok.blt];exact v.keeps I.bk) ((r x l).trans g) h) p
def Zn3{u pos}(g:Gl X x)(f:X.mg x=some u)(r:RelV v u)(l:autoParam ((x==("__debug__" : Str))=false) au_1):PE X (.Name x pos) (tC v):=
 λ_ _ _ H _ I h=>A8 I g f ⟨v,H,I,r,h⟩ l
def Bk{u pos}(n:Gl X x)(l:X.mg x=none)(f:bootBuiltins x=some u)(r:RelV v u)(g:autoParam (x≠"__name__") au_1)(o:autoParam ((x==("__debug__" : Str))=false) au_1):PE X (.Name x pos) (tC v):=
 λ_ _ _ H _ I h=>SO I n l f ⟨v,H,I,r,h⟩ g o
variable {a b:Expr}{ta tb:TE}{pos:Pos}
def PC(X:Cx)(l:CmpOp)(a b:Expr)(t:TE):Prop:=
 ∀(pins:ZY) (s:Shared) (h:St) (H:Hp) (Q:VK),Inv X pins h H s->t h H Q->
  wpAny (model X.prog X.w) X.A (eval a X.env) (λv g=>wpAny (model X.prog X.w) X.A (eval b X.env) (λu f=>wpAny (model X.prog X.w) X.A (compareOp l v u) (EP X pins h Q) X.xe f) X.xe g) X.xe s
def Zpw(b:Expr){op}(h:op≠.In)(l:op≠.NotIn):behindInMarks op b=false:=by
 have g:(op==CmpOp.In)=false:=by grind
 have f:(op==CmpOp.NotIn)=false:=by grind
 cases b<;>simp[behindInMarks,g,f]
noncomputable def Zav(ta:TE):TE:=λf H Q=>ta f H λx g=>Q (.bl<|decide (x=.non)) g
def RelV.none_iff (r:RelV x v):(v==Value.none)=decide (x=.non):=by
 cases x with
 |non|bl _|ref _|ty _=>cases r;rfl
 |_=>obtain⟨t,rfl⟩:=r;rfl
def Zd3(o:PE X a ta):PC X .Is a (.Constant .none j f) (Zav ta):=by
 intro pins s g H Q I h;refine thn (o pins s g H _ I h) ?_;rintro v u ⟨x,r,p,l,n⟩;exact Constant_none (is_none_gen ⟨.bl _,r,p,by rw[l.none_iff];rfl,n⟩)
noncomputable def tB(t:TE):TT:=λf H Q=>t f H λx g=>∃c,x=.bl c/\Q c g
def Fz(h:PC X g a b t)(f:behindInMarks g b=false:=by first|exact Zpw _ (by decide) (by decide)|rfl):PT X (.Compare a [g] [b] pos) (tB t):=by
 intro pins s l H Q I hw;refine wpAny_isTrue_Compare1 (thn (h pins s l H _ I hw) λv A f=>thn f λu z p=>thn p ?_) f;rintro c y ⟨x,w,r,n,o⟩;obtain⟨d,rfl,q⟩:=o;cases n
 exact Vw ⟨w,r,q⟩
variable {tA tB':TT}{rest:Yf}
noncomputable def LN(t u:TT):TT:=λf H Q=>t f H λc g=>if c=true then u f g Q else Q false g
noncomputable def tOr(t u:TT):TT:=λf H Q=>t f H λc g=>if c=true then Q true g else u f g Q
noncomputable def EC(t:TT):TT:=λf H Q=>t f H λc g=>Q (!c) g
def Zfq(g:PT X a tA):PW X (.BoolOp .And [a] pos) tA:=by
 intro l pins s f H Q I h;refine isTrue_and (thn (g pins s f H Q I h) λc n e=>?_);cases c with
 |true=>exact isTrue_and_nil e
 |false=>exact e
def Zlk(g:PT X a tA):PW X (.BoolOp .Or [a] pos) tA:=by
 intro l pins s f H Q I h;refine isTrue_or (thn (g pins s f H Q I h) λc n e=>?_);cases c with
 |false=>exact isTrue_or_nil e
 |true=>exact e
def Zt1(p:PT X a tA)(o:PW X (.BoolOp .And (b::rest) pos) tB'):PW X (.BoolOp .And (a::b::rest) pos) (LN tA tB'):=by
 intro g pins s f H Q I h;refine isTrue_and (thn (p pins s f H _ I h) λc l ⟨u,r,n⟩=>?_);cases c with
 |true=>exact o g pins l f u Q r n
 |false=>trivial
def Zmt(p:PT X a tA)(o:PW X (.BoolOp .Or (b::rest) pos) tB'):PW X (.BoolOp .Or (a::b::rest) pos) (tOr tA tB'):=by
 intro g pins s f H Q I h;refine isTrue_or (thn (p pins s f H _ I h) λc l ⟨u,r,n⟩=>?_);cases c with
 |true=>trivial
 |false=>exact o g pins l f u Q r n
def FC(g:PT X a tA):PT X (.UnaryOp .Not a pos) (EC tA):=by
 intro pins s f H Q I h;exact isTrue_not (g pins s f H (λc l=>Q (!c) l) I h)
noncomputable def O3(ta tb:TE):TE:=λf H Q=>ta f H λx g=>∃c,x=.bl c/\if c=true then tb f g Q else Q (.bl false) g
noncomputable def Zbx(ta tb:TE):TE:=λf H Q=>ta f H λx g=>∃c,x=.bl c/\if c=true then Q (.bl true) g else tb f g Q
noncomputable def Lz(ta:TE):TE:=λf H Q=>ta f H λx g=>∃c,x=.bl c/\Q (.bl (!c)) g
def Bj{t}(h:PE X a t):PE X (.BoolOp f [a] pos) t:=by trivial
def BM(u:PE X a ta)(r:PE X (.BoolOp .And (b::rest) pos) tb):PE X (.BoolOp .And (a::b::rest) pos) (O3 ta tb):=by
 intro pins s g H Q I h;refine BoolOp_and (thn (u pins s g H _ I h) ?_);rintro v o ⟨x,n,l,p,f⟩;obtain⟨c,rfl,f⟩:=f;cases p
 refine Vw ?_;cases c with
 |true=>exact r pins o g n Q l f
 |false=>exact⟨.bl false,n,l,rfl,f⟩
def Zr5(u:PE X a ta)(r:PE X (.BoolOp .Or (b::rest) pos) tb):PE X (.BoolOp .Or (a::b::rest) pos) (Zbx ta tb):=by
 intro pins s g H Q I h;refine BoolOp_or (thn (u pins s g H _ I h) ?_);rintro v o ⟨x,n,l,p,f⟩;obtain⟨c,rfl,f⟩:=f;cases p
 refine Vw ?_;cases c with
 |false=>exact r pins o g n Q l f
 |true=>exact⟨.bl true,n,l,rfl,f⟩
def L9(n:PE X a ta):PE X (.UnaryOp .Not a pos) (Lz ta):=by
 intro pins s g H Q I h;refine UnaryOp_ (thn (n pins s g H _ I h) ?_);rintro v r ⟨x,p,o,l,f⟩;obtain⟨c,rfl,f⟩:=f;cases l
 exact not_of (Vw ⟨.bl (!c),p,o,rfl,f⟩)
end
def SqL(K:ZV)(H:Hp)(a:Addr)(xs:List V):Prop:=
 Rd H a (.lst xs)\/
  ∃(o:Obj) (f:Yj) (n:Nat),K.lookup a=some o/\o.cls=.type "list"/\o.dict=none/\o.data=.seq f n/\f.size<=sizeLine/\Vals xs f.toList
def SqT(K:ZV)(H:Hp)(a:Addr)(xs:List V):Prop:=
 Rd H a (.tup xs)\/
  ∃(o:Obj) (f:Yj) (n:Nat),K.lookup a=some o/\o.cls=.type "tuple"/\o.data=.seq f n/\f.size<=sizeLine/\Vals xs f.toList
noncomputable def Zpp:Value->Option V
 | .none=>some .non
 | .bool b=>some (.bl b)
 | .int i _=>some (.int i)
 | .str x _=>some (.str x)
 | .bytes b _=>some (.byt b)
 | .float b _=>some (.flt b)
 | .ref a=>some (.ref a)
 | .type n=>some (.ty n)
 |_=>none
def RelV.abs (r:RelV x u):Zpp u=some x:=by
 cases x with
 |non|bl _|ref _|ty _=>cases r;rfl
 |_=>obtain⟨t,rfl⟩:=r;rfl
def RelV.inj {u} (r:RelV x u) (q:RelV y u):x=y:=Qb (r.abs.symm.trans q.abs)
def Vals.inj:∀{xs ys}{us:Yd},Vals xs us->Vals ys us->xs=ys:=by
 intro o
 induction o with
 |nil=>
  intro _ _ h g;cases h
  cases g
  rfl
 |cons _ _ n=>
  intro _ _ h g;cases h with
  |cons h r=>
   cases g with
   |cons l f=>rw[h.inj l,n r f]
section
variable {X:Cx}{pins:ZY}{σ:St}{H:Hp}{s:Shared}{a:Addr}{xs ys:List V}
def SqL.of {K} (h:H a=some (.lst xs)):SqL K H a xs:=.inl (.inl h)
def SqT.of {K} (h:H a=some (.tup xs)):SqT K H a xs:=.inl (.inl h)
def Inv.list (I:Inv X pins σ H s) (h:SqL X.K H a xs):∃f,Vals xs f/\PlainL s.heap a f.toArray/\xs.length<=sizeLine:=by
 rcases h with h|⟨o,f,n,l,u,p,g,v,r⟩
 ·obtain⟨z,f,n,r,e⟩:=h.ok I.hok;exact⟨f,r,⟨_,n,e,rfl,rfl,rfl⟩,z⟩
 ·refine⟨f.toList,r,⟨o,n,I.kIn a o l,u,p,by simpa using g⟩,?_⟩;have e:=r.length
  grind
def Inv.tuple (I:Inv X pins σ H s) (h:SqT X.K H a xs):∃f,Vals xs f/\IsTup s.heap a f.toArray/\xs.length<=sizeLine:=by
 rcases h with h|⟨o,f,n,l,u,g,v,r⟩
 ·obtain⟨z,f,r,p⟩:=h.ok I.hok
  grind
 ·refine⟨f.toList,r,⟨o,I.kIn a o l,u,n,by simpa using g⟩,?_⟩;have e:=r.length
  grind
def Inv.list_inj (I:Inv X pins σ H s) (h:SqL X.K H a xs) (h':SqL X.K H a ys):xs=ys:=by
 obtain⟨g,r,⟨o,n,e,_,_,d⟩,_⟩:=I.list h;obtain⟨f,l,⟨p,u,v,_,_,w⟩,_⟩:=I.list h'
 have:g=f:=by grind
 subst this;exact r.inj l
def Inv.tuple_inj (I:Inv X pins σ H s) (h:SqT X.K H a xs) (h':SqT X.K H a ys):xs=ys:=by
 obtain⟨g,r,⟨o,e,_,n,d⟩,_⟩:=I.tuple h;obtain⟨f,l,⟨p,v,_,u,w⟩,_⟩:=I.tuple h'
 have:g=f:=by grind
 subst this;exact r.inj l
end
noncomputable abbrev Cx.wish (X:Cx) (E:Ya):Cx:={X with xe:=E}
noncomputable abbrev Cx.nox (X:Cx):Cx:=X.wish λ_ _=>False
def Cx.Ok.wish {X:Cx} (ok:X.Ok) (E:Ya):(X.wish E).Ok:=
 ⟨ok.mod,ok.kind,ok.glob,ok.blt,ok.above,ok.inj,ok.has,ok.cab,ok.hd,ok.frames,ok.stk,ok.exf,ok.bs,ok.bsz,ok.noex,ok.exfs,ok.funs,ok.frf⟩
def Cx.Ok.unwish {X:Cx}{E} (ok:(X.wish E).Ok):X.Ok:=
 ⟨ok.mod,ok.kind,ok.glob,ok.blt,ok.above,ok.inj,ok.has,ok.cab,ok.hd,ok.frames,ok.stk,ok.exf,ok.bs,ok.bsz,ok.noex,ok.exfs,ok.funs,ok.frf⟩
section
variable {X:Cx}{pins:ZY}{σ:St}{H:Hp}{s:Shared}{E:Ya}
def Inv.wish (I:Inv X pins σ H s) (E:Ya):Inv (X.wish E) pins σ H s:=⟨I.ok.wish E,I.os,I.bare,I.base,I.loc,I.cell,I.free,I.freeC,I.pin,I.hok,I.len⟩
def Inv.unwish (I:Inv (X.wish E) pins σ H s):Inv X pins σ H s:=⟨I.ok.unwish,I.os,I.bare,I.base,I.loc,I.cell,I.free,I.freeC,I.pin,I.hok,I.len⟩
def SP.unwish (h:SP (X.wish E) pins D f n):SP X pins D f n:=by
 cases f with
 |ret u=>obtain⟨v,g,l,I,r,q⟩:=h;exact⟨v,g,l,I.unwish,r,q⟩
 |_=>obtain⟨g,l,I,q⟩:=h;exact⟨g,l,I.unwish,q⟩
def PSs.nox {st t} (h:PSs X.nox st t):PSs X st t:=λpins s σ H D I hw=>
 QH (h pins s σ H D (I.wish _) hw) (λ_ _ q=>q.unwish) λ_ _ z=>False.elim z
end
section
variable {X:Cx}{st:Stmt}{rest:Yg}{t u:TS}{e:Expr}{te:TE}{pos:Pos}
noncomputable def Oy:TS:=λD f H=>D.nx f H
noncomputable def M7(t u:TS):TS:=λD f H=>t {D with nx:=u D} f H
def FB:PSs X [] Oy:=λ_ _ f H _ I h=>JN ⟨f,H,I,h⟩
def Zeu(p:PS X st t)(o:PSs X rest u):PSs X (st::rest) (M7 t u):=by
 intro pins s l H D I h;refine wpAny_execs_cons (thn (p pins s l H {D with nx:=u D} I h) λf n q=>?_)
 cases f with
 |next=>
  obtain⟨g,v,r,q⟩:=q;exact o pins n g v D r q
 |_=>exact q
def Bw(l:PS X st t):PSs X [st] t:=by
 intro pins s g H D I h;refine wpAny_execs_cons (thn (l pins s g H D I h) λf n q=>?_);cases f with
 |next=>exact JN q
 |_=>lia
def Inv.quiet {f:St}{H}{s} (I:Inv X pins f H s):interactive X.env=false:=by simp[interactive,I.ok.kind]
noncomputable def Ay(te:TE):TS:=λD f H=>te f H λ_ g=>D.nx f g
def PM(n:PE X e te)(l:autoParam (swapsWith e none pos.line X.env=pure false) au_0):PS X (.Expr e pos) (Ay te):=by
 intro pins s f H D I h;exact wpAny_Expr_any (thn (n pins s f H _ I h) λv r ⟨x,p,o,w,g⟩=>⟨f,p,o,g⟩) I.quiet l
noncomputable def SA(te:TE):TS:=λD f H=>te f H D.rt
def KA(n:PE X e te):PS X (.Return (some e) pos) (SA te):=by
 intro pins s f H D I h;exact wpAny_Return_some (thn (n pins s f H _ I h) λv r ⟨x,p,o,g,l⟩=>⟨x,f,p,o,g,l⟩)
noncomputable def Ds(c:TT)(t u:TS):TS:=λD f H=>c f H λb g=>if b=true then t D f g else u D f g
def F6{tc}(p:PT X c tc)(v:PSs X a t)(r:PSs X b u):PS X (.If c a b pos) (Ds tc t u):=by
 intro pins s f H D I h;refine wpAny_If (thn (p pins s f H _ I h) ?_);rintro d g ⟨o,n,l⟩;cases d with
 |true=>exact v pins g f o D n l
 |false=>exact r pins g f o D n l
noncomputable def RO:TS:=λ_ _ _=>False
def Zfz:PS X st RO:=λ_ _ _ _ _ _ h=>h.elim
end
abbrev TG:=V->St->Hp->(St->Hp->Prop)->Prop
abbrev TGs:=List V->St->Hp->(St->Hp->Prop)->Prop
def PG(X:Cx)(target:Expr)(t:TG):Prop:=
 ∀(pins:ZY) (s:Shared) (g:St) (H:Hp) (v:V) (u:Value) (Q:St->Hp->Prop),Inv X pins g H s->RelV v u->t v g H Q->
  wpAny (model X.prog X.w) X.A (assign target X.env u) (λ_ l=>∃f h,Inv X pins f h l/\Q f h) X.xe s
def PGs(X:Cx)(o:Yf)(t:TGs):Prop:=
 ∀(pins:ZY) (s:Shared) (g:St) (H:Hp) (h:List V) (l:Yd) (Q:St->Hp->Prop),Inv X pins g H s->Vals h l->t h g H Q->
  wpAny (model X.prog X.w) X.A (assignInOrder ((assignEach o X.env).map (·.2)) l) (λ_ p=>∃f n,Inv X pins f n p/\Q f n) X.xe s
abbrev Zb3:=V->V->V->Hp->(Hp->Prop)->Prop
def Lc(X:Cx)(t:Zb3):Prop:=
 ∀(pins:ZY) (s:Shared) (f:St) (H:Hp) (o i v:V) (g h u:Value) (Q:Hp->Prop),Inv X pins f H s->RelV o g->RelV i h->RelV v u->t o i v H Q->
  wpAny (model X.prog X.w) X.A (setItem g h u) (λ_ n=>∃l,Inv X pins f l n/\Q l) X.xe s
abbrev TIp:=V->V->Hp->VK->Prop
def PIp(X:Cx)(g:Operator)(t:TIp):Prop:=
 ∀(pins:ZY) (s:Shared) (f:St) (H:Hp) (x y:V) (v u:Value) (Q:VK),Inv X pins f H s->RelV x v->RelV y u->t x y H Q->
  wpAny (model X.prog X.w) X.A (inplaceOp g v u) (EP X pins f Q) X.xe s
section
variable {X:Cx}{pos:Pos}
noncomputable def Bx(i:Nat):TG:=λv f H Q=>Q (f.set i<|some v) H
def Ee(l:X.N.Nodup)(f:X.N[i]?=some x)(hx:Loc X.env.scope x)(g:autoParam (X.fn x=true\/X.env.scope.names.lookup x=some .local) au_2):PG X (.Name x pos) (Bx i):=by
 intro pins s o H v u Q I r h;exact wpAny_assign_Name (Ax I l f hx r (λp n=>⟨_,H,n,h⟩) g)
noncomputable def Zbd:TGs:=λg f H Q=>g=[]/\Q f H
noncomputable def IG(t:TG)(u:TGs):TGs:=λh g H Q=>∃v r,h=v::r/\t v g H λf l=>u r f l Q
def BH:PGs X [] Zbd:=by
 intro pins s f H g l Q I r h;obtain⟨e,h⟩:=h;exact assignInOrder_nil ⟨f,H,I,h⟩
def Ny{t u}(x:PG X e t)(w:PGs X es u)(p:autoParam ((assignEach (e::es) X.env).map (·.2)=assign e X.env::(assignEach es X.env).map (·.2)) au_0):PGs X (e::es) (IG t u):=by
 intro pins s g H B E Q I r h;obtain⟨v,C,y,h⟩:=h;subst y;cases r with
 |cons r n=>
  rw[p];refine assignInOrder_cons (thn (x pins s g H _ _ _ I r h) ?_);rintro _ l ⟨f,A,z,o⟩;exact w pins l f A _ _ Q z n o
noncomputable def Dc(K:ZV)(n:Nat)(t:TGs):TG:=λv f H Q=>∃a xs,v=.ref a/\SqT K H a xs/\xs.length=n/\t xs f H Q
def Ziw{k t n}(z:X.calm=true)(h:PGs X es t)(x:autoParam ((assignEach es X.env).length=n) au_0)(f:autoParam ((assignEach es X.env).findIdx? (·.1)=none) au_0):PG X (.Tuple es k pos) (Dc X.K n t):=by
 intro pins s g H v u Q I r hw;obtain⟨a,xs,B,hq,y,hw⟩:=hw;subst B;cases r
 obtain⟨p,l,w,E⟩:=I.tuple hq;refine assign_Tuple_tuple (I.ok.hd z) w (by simp[x,←y,l.length]) f λA hx=>?_;have C:Inv X pins g H {s with heap:=A}:=I.kept λb o e=>hx b o (Qj<|WX e) e
 exact h pins _ g H xs _ Q C (by lia) hw
noncomputable def Zam(g ti:TE)(t:Zb3):TG:=λv f H Q=>g f H λo n=>ti f n λi l=>t o i v l λh=>Q f h
def Znb{n ti t}(J:PE X o n)(L:PE X i ti)(G:Lc X t)
  (M:autoParam (∀v,assign (.Subscript o i pos) X.env v=(do
   let f ←holding [v] (eval o X.env)
   let g ←holding [v,f] (eval i X.env)
   standAt pos
   holding [v,f,g] (setItem f g v)
   release [v,f,g] [])) au_3):PG X (.Subscript o i pos) (Zam n ti t):=by
 intro pins s l H v u Q I r h;rw[M];refine WG (QZ<|thn (J pins s l H _ I h) ?_);rintro f w ⟨x,H1,U,A,E⟩;refine WG (QZ<|thn (L pins w l H1 _ U E) ?_);rintro g p ⟨y,H2,T,z,C⟩;refine WG (wpAny_standAt<|WG<|QZ<|thn (G pins p l H2 x y v f g u _ T A z r C) ?_);rintro _ s3 ⟨Y,N,B⟩;exact wpAny_release ⟨l,Y,N,B⟩
noncomputable def Sn(te:TE)(g:TG):TS:=λD f H=>te f H λx h=>g x f h D.nx
def Zn5{f e te g}(w:PE X e te)(u:PG X f g)(r:autoParam (swapsWithSole [f] e pos.line X.env=pure false) au_0)(hw:autoParam (swappedStores [f] e X.env=pure none) au_0)(y:autoParam ((assignEach [f] X.env).map (·.2)=[assign f X.env]) au_0):PS X (.Assign [f] e pos) (Sn te g):=by
 intro pins s l H D I h;refine wpAny_Assign_stores (thn (w pins s l H _ I h) ?_) r hw;rintro v n ⟨x,A,z,o,p⟩;rw[y];exact thn (u pins n l A x v _ z o p) λ_ B q=>q
def Zeo(w:X.N.Nodup)(p:X.N[i]?=some x)(hx:Loc X.env.scope x)(u:PE X e te)(o:autoParam (swapsWith e (some<|.Name x f) pos.line X.env=pure false) au_0)(r:autoParam (X.fn x=true\/X.env.scope.names.lookup x=some .local) au_2) :
  PS X (.Assign [.Name x f] e pos) (Sn te<|Bx i):=by
 intro pins s g H D I h;refine wpAny_Assign_Name (thn (u pins s g H _ I h) λv E ⟨y,B,A,l,n⟩=>?_) o;exact Ax A w p hx l (λC z=>⟨_,B,z,n⟩) r
noncomputable def HL(i:Nat)(te:TE)(ti:TIp):TS:=λD f H=>∃x,f[i]?=some (some x)/\te f H λy h=>ti x y h λz g=>D.nx (f.set i<|some z) g
def Zkw(hN:X.N.Nodup)(G:X.N[i]?=some x)(hx:Loc X.env.scope x)(he:PE X e te)(Y:PIp X E ti)(hf:autoParam (X.fn x=true\/X.env.scope.names.lookup x=some .local) au_2) :
  PS X (.AugAssign (.Name x C) E e pos) (HL i te ti):=by
 intro pins s B H D I h;obtain⟨v,e1,h⟩:=h;obtain⟨m,hn,hl⟩:=I.loc;have p:Vis X.env.scope x:=by rcases hx with k|k;exact .inl k;exact .inr (.inl k)
 obtain⟨u,r,l⟩:=hl i x v G e1 p;refine wpAny_AugAssign_Name ?_
 have J:wpAny (model X.prog X.w) X.A (eval e X.env) (λw o=>wpAny (model X.prog X.w) X.A (inplaceOp E u w) (λr n=>wpAny (model X.prog X.w) X.A (storeName X.env x r) (λ_=>SP X pins D .next) X.xe n) X.xe o) X.xe s:=by
  refine thn (he pins s B H _ I h) λw L ⟨y,H1,I1,Q,U⟩=>?_;refine thn (Y pins L B H1 v y u w _ I1 r Q U) λz s2 ⟨zv,H2,I2,M,T⟩=>?_;exact Ax I2 hN G hx M (λs3 I3=>⟨_,H2,I3,T⟩) hf
 rcases l with⟨f,hm⟩|⟨f,c,hc,g⟩
 ·exact wpAny_loadName_local I.ok.kind f hn hm J
 ·rcases f with f|f
  ·exact wpAny_loadName_cell I.ok.kind f hc g J
  ·rcases hx with k|k
   ·have:X.env.scope.names.lookup x=some .free:=f
    grind
   ·have:X.env.scope.names.lookup x=some .free:=f
    rw[k]at this;cases this
noncomputable def ipI(f:Int->Int->Int):TIp:=λx y H Q=>∃i j,x=.int i/\y=.int j/\Q (.int<|f i j) H
def HE:PIp X .Add (ipI λi j=>i+j):=by
 intro pins s o H x y v u Q I g f h;obtain⟨i,j,n,l,q⟩:=h;subst n;subst l;obtain⟨t,rfl⟩:=g;obtain⟨p,rfl⟩:=f;exact iadd_int ⟨.int _,H,I.tok _,⟨_,rfl⟩,q⟩
noncomputable def Ri(c:TT)(o:TS):TS:=λD f H=>∃W:Nat->St->Hp->Prop,(∃m,W m f H)/\∀m f H,W m f H->
 c f H λb l=>if b=true then ∃N:St->Hp->Prop,(∀g n,N g n->∃h,h<m/\W h g n)/\o {D with nx:=N,ct:=N,bk:=D.nx} f l else D.nx f l
def Zt2{tc p}(u:PassesOwn (model X.prog X.w) X.A X.env X.xe)(U:PT X c tc)(Y:PSs X body p):PS X (.While c body [] pos) (Ri tc p):=by
 intro pins s E H D I h;obtain⟨W,⟨T,J⟩,turn⟩:=h;refine wpAny_While (codeAny_whileLoop (λn Q=>∃l B,Inv X pins l B Q/\W n l B) ?_ T ⟨E,H,I,J⟩);rintro n M ⟨g,z,I1,G⟩;refine VC u (thn (U pins M g z _ I1<|turn n g z G) λb L ⟨y,x,o⟩=>?_);cases b with
 |true=>
  obtain⟨N,hN,o⟩:=o;refine VC u (thn (Y pins L g y _ x o) λf s3 r=>?_);cases f with
  |brk|ret v=>exact r
  |_=>
   obtain⟨C,H3,I3,n3⟩:=r
   grind
 |false=>
  exact JN ⟨g,y,x,o⟩
end
structure It where
 go:Nat->Hp->Prop
 yld:Nat->Hp->V->Hp->Prop
 stop:Nat->Hp->Prop
def N1(X:Cx)(pins:ZY)(H:Hp)(b:Addr):Prop:=
 H b=none/\b≠X.env.locals/\b∉X.fs/\(b∈X.ex\/X.s₀.heap.objs.size<=b)/\(∀x c,X.env.cells.lookup x=some c->c≠b)/\∀p∈X.pn++pins,p.1≠b
def Inv.fpOk {g:St}{H H'}{s}{b:Addr} (I:Inv X pins g H s) (f:s.heap.objs.size<=b) (l:H' b=none):N1 X pins H' b:=by
 refine⟨l,Vq (Q2 I.lt f),I.nofs f,.inr (WW I.sz f),λx c e z=>?_,λp h z=>?_⟩
 ·obtain⟨v,q⟩:=I.cell x c e;exact absurd (Q2 q.lt<|by grind) (Vc _)
 ·exact absurd (Q2 (WX (I.pin p h).1)<|by grind) (Vc _)
structure Turn (P:Program) (w:World) (K:ZV) (tg:Expr) (J:It) (fp:List Addr) (it:Addr) (tn:Nat->Heap->Prop):Prop where
 mem:it∈fp
 obj:∀i h,tn i h->∀b∈fp,∃o,h.get? b=some o/\∀v,o.data≠.cell v
 keep:∀i h h',tn i h->(∀b∈fp,∀o,h.get? b=some o->h'.get? b=some o)->tn i h'
 item:∀(X:Cx),X.prog=P->X.w=w->X.K=K->X.calm=true->∀(i:Nat) (pins:ZY) (s:Shared) (σ:St) (H:Hp) (E:Ya),Inv X pins σ H s->(∀b∈fp,N1 X pins H b)->tn i s.heap->J.go i H->
  wpAny (model P w) X.A (pyNext<|.ref it) (λr s1=>∃u,r=some u/\
   wpAny (model P w) X.A (letOwnedTupleGo tg (.ref it) u) (λ_ s2=>∃x H',Inv X pins σ H' s2/\RelV x u/\J.yld i H x H'/\tn (i+1) s2.heap/\∀b∈fp,H' b=none) E s1) E s
 done:∀(X:Cx),X.prog=P->X.w=w->X.K=K->X.calm=true->∀(i:Nat) (pins:ZY) (s:Shared) (σ:St) (H:Hp) (E:Ya),Inv X pins σ H s->(∀b∈fp,N1 X pins H b)->tn i s.heap->J.stop i H->
  wpAny (model P w) X.A (pyNext<|.ref it) (λr s1=>r=none/\Inv X pins σ H s1) E s
 self:∀(A:Around) (i:Nat) (s:Shared) (Q:Ya) (E:Ya),tn i s.heap->Q (.ref it) s->wpAny (model P w) A (pyIter<|.ref it) Q E s
abbrev TI:=St->Hp->(It->Hp->Prop)->Prop
def PIE(X:Cx)(pins:ZY)(o:St)(p:Expr)(R:It->Hp->Prop)(f:Value)(h:Shared):Prop:=
 ∃(l:Addr) (n:List Addr) (tn:Nat->Heap->Prop) (J:It) (g:Hp),f=.ref l/\Inv X pins o g h/\Turn X.prog X.w X.K p J n l tn/\tn 0 h.heap/\(∀b∈n,N1 X pins g b)/\R J g
def PI(X:Cx)(h iter:Expr)(g:TI):Prop:=
 ∀(pins:ZY) (s:Shared) (f:St) (H:Hp) (R:It->Hp->Prop),Inv X pins f H s->g f H R->
  wpAny (model X.prog X.w) X.A (eval iter X.env) (λv l=>wpAny (model X.prog X.w) X.A (pyIter v) (PIE X pins f h R) X.xe l) X.xe s
def GJ {s g h u o n vs Q} (l : s.heap.get? h = some o) (r : o.cls = .type n) (p : o.data = .fields vs)
    (v : ["enumerate", "zip", "dict_itemiterator", "dict_reverseitemiterator", "odict_iterator", "itertools.zip_longest", "itertools.pairwise"].contains n = false) (f : Q () s) : wpAny M A (letOwnedTupleGo g (.ref h) u) Q E s := by
  cases g <;> first
    | exact WJ f
    | (cases u <;> first
        | exact WJ f
        | (refine WG (wpAny_load l ?_)
           rw [r, p]
           show wpAny M A (if (["enumerate", "zip", "dict_itemiterator", "dict_reverseitemiterator", "odict_iterator", "itertools.zip_longest", "itertools.pairwise"].contains n && vs[0]? == some (rawInt _)) = true then _ else _) Q E s
           rw [WN (by grind)]
           exact WJ f))
noncomputable def Itl(K:ZV)(a:Addr):It:=
 ⟨λi H=>∃xs x,SqL K H a xs/\xs[i]?=some x,λi H x f=>f=H/\∀xs,SqL K H a xs->xs[i]?=some x,λi H=>∃xs,SqL K H a xs/\xs.length<=i⟩
noncomputable def Itt(K:ZV)(a:Addr):It:=
 ⟨λi H=>∃xs x,SqT K H a xs/\xs[i]?=some x,λi H x f=>f=H/\∀xs,SqT K H a xs->xs[i]?=some x,λi H=>∃xs,SqT K H a xs/\xs.length<=i⟩
noncomputable def Itr(lo:Int)(n:Nat):It:=⟨λi _=>i<n,λi H x f=>f=H/\x=.int (lo+i),λi _=>n<=i⟩
def Zen{K tg}(a it:Addr):Turn P w K tg (Itl K a) [it] it (λi h=>h.IsListIter it a i) where
 mem:=by simp
 obj:=λi h st b hb=>by
  have e:b=it:=by simpa using hb
  subst e;obtain⟨o,e,c,d⟩:=st;exact⟨o,e,λv z=>by rw[d]at z;cases z⟩
 keep:=λi h h' st k=>st.at λo e=>k it (by simp) o e
 item:=by
  intro X hP hw hK hc i pins s σ H E I hf st hg;subst hP hw hK;obtain⟨xs,x,hq,hx⟩:=hg;obtain⟨its,rv,p,hz⟩:=I.list hq;obtain⟨u,hu,ru⟩:=rv.get hx;obtain⟨f0,f1,f2,f3,f4,f5⟩:=hf it (by simp);refine wpAny_pyNext_list_item st p.isList (by simpa using hu) λh' st' sb=>?_;have I1:Inv X pins σ H {s with heap:=h'}:=I.turned (λb o hb e=>(sb.2 b hb).trans e) f0 f1 f3 f4 f5
  obtain⟨o,e,c,d⟩:=id st';exact⟨u,rfl,GJ e c d (by decide) ⟨x,H,I1,ru,⟨rfl,λys hy=>by rw[I.list_inj hy hq];exact hx⟩,st',λb hb=>(hf b hb).1⟩⟩
 done:=by
  intro X hP hw hK hc i pins s σ H E I hf st hg;subst hP hw hK;obtain⟨xs,hq,hx⟩:=hg;obtain⟨its,rv,p,hz⟩:=I.list hq;obtain⟨f0,f1,f2,f3,f4,f5⟩:=hf it (by simp);have hl:=rv.length;exact wpAny_pyNext_list_end (I.ok.hd hc) st p.isList (by simp;lia) λh' eb=>⟨rfl,I.turned (λb o hb e=>eb b o hb e) f0 f1 f3 f4 f5⟩
 self:=λ_ _ _ _ _ st h=>wpAny_pyIter_listiter st h
def Zk1{K tg}(a it:Addr):Turn P w K tg (Itt K a) [it] it (λi h=>h.IsTupleIter it a i) where
 mem:=by simp
 obj:=λi h st b hb=>by
  have e:b=it:=by simpa using hb
  subst e;obtain⟨o,e,c,d⟩:=st;exact⟨o,e,λv z=>by rw[d]at z;cases z⟩
 keep:=λi h h' st k=>st.at λo e=>k it (by simp) o e
 item:=by
  intro X hP hw hK hc i pins s σ H E I hf st hg;subst hP hw hK;obtain⟨xs,x,hq,hx⟩:=hg;obtain⟨its,rv,p,hz⟩:=I.tuple hq;obtain⟨u,hu,ru⟩:=rv.get hx;obtain⟨f0,f1,f2,f3,f4,f5⟩:=hf it (by simp);refine wpAny_pyNext_tuple_item st p (by simpa using hu) λh' st' sb=>?_;have I1:Inv X pins σ H {s with heap:=h'}:=I.turned (λb o hb e=>(sb.2 b hb).trans e) f0 f1 f3 f4 f5
  obtain⟨o,e,c,d⟩:=id st';exact⟨u,rfl,GJ e c d (by decide) ⟨x,H,I1,ru,⟨rfl,λys hy=>by rw[I.tuple_inj hy hq];exact hx⟩,st',λb hb=>(hf b hb).1⟩⟩
 done:=by
  intro X hP hw hK hc i pins s σ H E I hf st hg;subst hP hw hK;obtain⟨xs,hq,hx⟩:=hg;obtain⟨its,rv,p,hz⟩:=I.tuple hq;obtain⟨f0,f1,f2,f3,f4,f5⟩:=hf it (by simp);have hl:=rv.length;exact wpAny_pyNext_tuple_end (I.ok.hd hc) st p (by simp;lia) λh' eb=>⟨rfl,I.turned (λb o hb e=>eb b o hb e) f0 f1 f3 f4 f5⟩
 self:=λ_ _ _ _ _ st h=>wpAny_pyIter_tupleiter st h
def Zes{K tg}(it:Addr)(lo:Int)(n:Nat):Turn P w K tg (Itr lo n) [it] it (λi h=>IsRangeIter h it (lo+(i:Nat)*1) ((n:Int)-(i:Nat)) 1) where
 mem:=by simp
 obj:=λi h st b hb=>by
  have e:b=it:=by simpa using hb
  subst e
  exact⟨_,st,λv z=>by
   cases z⟩
 keep:=λi h h' st k=>k it (by simp) _ st
 item:=by
  intro X hP hw hK hc i pins s σ H E I hf st hg;subst hP hw hK;obtain⟨f0,f1,f2,f3,f4,f5⟩:=hf it (by simp);refine(Walks.range (prog:=X.prog) (w:=X.w) (I.ok.hd hc) it lo 1 n).item i s _ _ hg st λv h' tk hv st' kk=>?_;obtain⟨t,rfl⟩:=hv;have I1:Inv X pins σ H {s with heap:=h',toks:=tk}:=I.turned (λb o hb e=>kk b o (by simpa using hb) e) f0 f1 f3 f4 f5
  refine⟨_,rfl,GJ st' rfl rfl (by decide) ⟨.int (lo+i),H,I1,⟨t,?_⟩,⟨rfl,rfl⟩,st',λb hb=>(hf b hb).1⟩⟩;rw[Int.mul_one]
 done:=by
  intro X hP hw hK hc i pins s σ H E I hf st hg;obtain⟨f0,f1,f2,f3,f4,f5⟩:=hf it (by simp);exact wpAny_pyNext_range_end (I.ok.hd hc) st (by have:n<=i:=hg;lia) λh' eb=>⟨rfl,I.turned (λb o hb e=>eb b o hb e) f0 f1 f3 f4 f5⟩
 self:=λ_ _ _ _ _ st h=>wpAny_pyIter_rangeiter st h
section
variable {X:Cx}{tg:Expr}
noncomputable def Aj(K:ZV)(h:TE):TI:=λg H R=>h g H λx f=>∃a,x=.ref a/\(∃xs,SqL K f a xs)/\R (Itl K a) f
noncomputable def CV(K:ZV)(h:TE):TI:=λg H R=>h g H λx f=>∃a,x=.ref a/\(∃xs,SqT K f a xs)/\R (Itt K a) f
def Rk(z:PE X l r):PI X tg l (Aj X.K r):=by
 intro pins s n H R I h;refine thn (z pins s n H _ I h) λv g ⟨x,A,f,u,w⟩=>?_;obtain⟨a,e,⟨xs,hq⟩,q⟩:=w;subst e;cases u
 obtain⟨y,B,p,C⟩:=f.list hq;refine wpAny_pyIter_list p.isList ?_;refine⟨g.heap.objs.size,[g.heap.objs.size],_,_,A,rfl,f.kept λb o e=>WM _ e,Zen a _,⟨_,WU _ rfl,rfl,rfl⟩,λb E=>?_,q⟩;have e:b=g.heap.objs.size:=by grind
 subst e;exact f.fpOk (WS _) (f.hok.fresh<|WS _)
def Zdp(z:PE X l r):PI X tg l (CV X.K r):=by
 intro pins s n H R I h;refine thn (z pins s n H _ I h) λv g ⟨x,A,f,u,w⟩=>?_;obtain⟨a,e,⟨xs,hq⟩,q⟩:=w;subst e;cases u
 obtain⟨y,B,p,C⟩:=f.tuple hq;refine wpAny_pyIter_tuple p ?_;refine⟨g.heap.objs.size,[g.heap.objs.size],_,_,A,rfl,f.kept λb o e=>WM _ e,Zk1 a _,⟨_,WU _ rfl,rfl,rfl⟩,λb E=>?_,q⟩;have e:b=g.heap.objs.size:=by grind
 subst e;exact f.fpOk (WS _) (f.hok.fresh<|WS _)
def RC{g:St}{H}{s}{R}{E}{lo f}{t u v}{tk}(I:Inv X pins g H s)(x:-(2 ^ 62)<=lo)(r:lo<2 ^ 62)(p:-(2 ^ 62)<=f)(n:f<2 ^ 62)(q:R (Itr lo (f-lo).toNat) H):wpAny (model X.prog X.w) X.A (pyIter<|.ref s.heap.objs.size) (PIE X pins g tg R) E {s with heap:=s.heap.push {cls:=.type "range",data:=.fields #[.int lo t,.int f u,.int 1 v]},toks:=tk}:=by
 refine wpAny_pyIter_range (IsRange.new ..) (small_one x r p n) ?_;have h:Inv X pins g H {s with heap:=s.heap.push {cls:=.type "range",data:=.fields #[.int lo t,.int f u,.int 1 v]},toks:=tk}:=I.kept λb o e=>WM _ e
 refine⟨(s.heap.push {cls:=.type "range",data:=.fields #[.int lo t,.int f u,.int 1 v]}).objs.size,[(s.heap.push {cls:=.type "range",data:=.fields #[.int lo t,.int f u,.int 1 v]}).objs.size],_,_,H,rfl,
  h.kept λb o e=>WM _ e,Zes _ lo (f-lo).toNat,?_,λb l=>?_,q⟩
 ·have z:lo+((0:Nat):Int)*1=lo:=by simp
  have y:(((f-lo).toNat:Nat):Int)-((0:Nat):Int)=Builtin.Range.rangeSize lo f 1:=by rw[rangeSize_one];split<;>lia
  rw[z,y];exact WU _ rfl
 ·have e:b=(s.heap.push {cls:=.type "range",data:=.fields #[.int lo t,.int f u,.int 1 v]}).objs.size:=by simpa using l
  subst e;exact h.fpOk (WS _) (h.hok.fresh<|WS _)
noncomputable def Hx(h:TA):TI:=λf H R=>h f H λg l=>∃j:Int,g=[.int j]/\-(2 ^ 62)<=j/\j<2 ^ 62/\R (Itr 0 j.toNat) l
noncomputable def M5(h:TA):TI:=λf H R=>h f H λg l=>∃i j:Int,g=[.int i,.int j]/\(-(2 ^ 62)<=i/\i<2 ^ 62/\-(2 ^ 62)<=j/\j<2 ^ 62)/\R (Itr i (j-i).toNat) l
def Zob(x:Gl X "range")(w:X.mg "range"=none)(y:PA X [a] l)(v:autoParam (starEach [a] X.env=[(false,eval a X.env)]) au_0):PI X tg (.Call (.Name "range" p) [a] [] pos) (Hx l):=by
 intro pins s g H R I h;refine Call_ (SO I x w boot_range<|VB (thn (y pos pins s g H _ I h) λB C ⟨A,E,z,o,f⟩=>?_) v rfl);obtain⟨j,e,f,u,q⟩:=f;subst e;cases o with
 |cons r n=>
  cases n
  obtain⟨t,rfl⟩:=r;exact call_range_1 (RC z (by lia) (by lia) f u<|by grind)
def Zjm{p pos}(A:Gl X "range")(z:X.mg "range"=none)(B:PA X [a,b] o)(M:autoParam (starEach [a,b] X.env=[(false,eval a X.env),(false,eval b X.env)]) au_0)(l:autoParam (starEach [b] X.env=[(false,eval b X.env)]) au_0) :
  PI X tg (.Call (.Name "range" p) [a,b] [] pos) (M5 o):=by
 intro pins s n H R I h;refine Call_ (SO I A z boot_range<|VB (thn (B pos pins s n H _ I h) λG L ⟨E,N,C,u,g⟩=>?_) (by grind)<|by rw[l];rfl);obtain⟨i,j,e,⟨g,y,x,w⟩,q⟩:=g;subst e;cases u with
 |cons r f=>
  cases f with
  |cons v f=>
   cases f
   obtain⟨t,rfl⟩:=r;obtain⟨J,rfl⟩:=v;exact call_range_2 (RC C g y x w q)
noncomputable def OG(p:TI)(g:TG)(r:TS):TS:=λD f H=>p f H λJ u=>∃W:Nat->Nat->St->Hp->Prop,(∃m,W 0 m f u)/\∀i m f H,W i m f H->
 (J.stop i H/\D.nx f H)\/(J.go i H/\∃N:St->Hp->Prop,(∀h l,N h l->∃o,o<m/\W (i+1) o h l)/\∀x l,J.yld i H x l->g x f l λn s=>r {D with nx:=N,ct:=N,bk:=D.nx} n s)
noncomputable def B4(f:List Addr)(h:Heap):ZY:=f.filterMap λb=>(h.get? b).map λo=>(b,o)
def AK{b o}(f:b∈g)(e:h.get? b=some o):(b,o)∈B4 g h:=Ua.mpr ⟨b,f,by rw[e];rfl⟩
def Zmp(f:p∈B4 g h):p.1∈g/\h.get? p.1=some p.2:=by
 obtain⟨b,l,e⟩:=Ua.mp f;cases q:h.get? b with
 |_=>grind
def Inv.pinned {f:St}{H}{s}{fp} (I:Inv X pins f H s) (h:∀b∈fp,N1 X pins H b) (n:∀b∈fp,∃o,s.heap.get? b=some o/\∀v,o.data≠.cell v):Inv X (pins++B4 fp s.heap) f H s:=
 I.pins_of λp g=>(Qm.mp g).elim (λz=>I.pin p (Q1 _ z)) λz=>by
  obtain⟨l,e⟩:=Zmp z;obtain⟨f0,f1,r,_⟩:=h p.1 l
  grind
def Inv.unpinned {f:St}{H}{s} (I:Inv X (pins++h) f H s):Inv X pins f H s:=I.pins_of λp g=>I.pin p (Q1 _<|Ve _ g)
def Zei{wi g tb pos}(Q:PassesOwn (model X.prog X.w) X.A X.env X.xe)(hc:X.calm=true)(hi:PI X tg iter wi)(hg:PG X tg g)(z:PSs X body tb)(hs:autoParam (∀x,foldedSetIterable iter X.env x=pure x) au_3):PS X (.For tg iter body [] pos) (OG wi g tb):=by
 intro pins s σ H D I h;refine wpAny_For (thn (hi pins s σ H _ I h) λv s1 h1=>thn h1 λitv s2 h2=>?_) hs;obtain⟨it,Y,tn,J,H2,e,I2,T,st2,f2,W,⟨m0,w0⟩,turn⟩:=h2;subst e;have stat:∀{C:Hp},(∀b∈Y,C b=none)->∀b∈Y,N1 X pins C b:=λhn b z=>⟨hn b z,(f2 b z).2⟩;refine codeAny_forLoop_any (λn s'=>∃i y C,Inv X pins y C s'/\tn i s'.heap/\(∀b∈Y,C b=none)/\W i n y C) ?_ m0 ⟨0,σ,H2,I2,st2,λb z=>(f2 b z).1,w0⟩;rintro n s3 ⟨i,p,H3,I3,M,U,w3⟩;rcases turn i n p H3 w3 with⟨stop,qn⟩|⟨go,N,hN,step⟩
 ·refine VC Q (thn (T.done X rfl rfl rfl hc i pins s3 p H3 X.xe I3 (stat U) M stop) ?_);rintro r s4 ⟨hr,I4⟩;subst hr;exact JN ⟨p,H3,I4,qn⟩
 ·refine VC Q (thn (T.item X rfl rfl rfl hc i pins s3 p H3 X.xe I3 (stat U) M go) ?_);rintro r s4 ⟨u,hr,h4⟩;subst hr;refine VC Q (thn h4 ?_);rintro _ s5 ⟨x,H5,I5,r5,y5,G,fr5⟩;refine VC Q (thn (hg _ s5 p H5 x u _ (I5.pinned (stat fr5)<|T.obj _ _ G) r5<|step x H5 y5) ?_);rintro _ s6 ⟨σ6,H6,I6,q6⟩;refine VC Q (thn (z _ s6 σ6 H6 _ I6 q6) λf s7 L=>?_)
  have again:∀{l:St} {B:Hp},Inv X (pins++B4 Y s5.heap) l B s7->N l B->∃m,m<n/\∃i y C,Inv X pins y C s7/\tn i s7.heap/\(∀b∈Y,C b=none)/\W i m y C:=λ{l B} E n7=>by
   obtain⟨m',hm,w7⟩:=hN l B n7;refine⟨m',hm,i+1,l,B,E.unpinned,T.keep _ _ _ G λb z o e=>(E.pin (b,o)<|Q1 _<|Q1 _<|AK z e).1,λb z=>?_,w7⟩;obtain⟨o,e,d⟩:=T.obj _ _ G b z;exact(E.pin (b,o)<|Q1 _<|Q1 _<|AK z e).2.1
  cases f with
  |brk=>obtain⟨l,B,E,L⟩:=L;exact⟨l,B,E.unpinned,L⟩
  |ret v=>obtain⟨x7,l,B,E,r7,L⟩:=L;exact⟨x7,l,B,E.unpinned,r7,L⟩
  |_=>obtain⟨l,B,E,n7⟩:=L;exact again E n7
end
abbrev R2:=V->V->Hp->VK->Prop
def OpR(X:Cx)(f:Value->Value->Sem Value)(r:R2):Prop:=
 ∀(pins:ZY) (s:Shared) (g:St) (H:Hp) (x y:V) (v u:Value) (Q:VK),Inv X pins g H s->RelV x v->RelV y u->r x y H Q->
  wpAny (model X.prog X.w) X.A (f v u) (EP X pins g Q) X.xe s
def UnR(X:Cx)(f:Value->Sem Value)(r:V->Hp->VK->Prop):Prop:=
 ∀(pins:ZY) (s:Shared) (g:St) (H:Hp) (x:V) (v:Value) (Q:VK),Inv X pins g H s->RelV x v->r x H Q->
  wpAny (model X.prog X.w) X.A (f v) (EP X pins g Q) X.xe s
def Kx(X:Cx)(f:Value)(r:List V->Hp->VK->Prop):Prop:=
 ∀(pins:ZY) (s:Shared) (g:St) (H:Hp) (xs:List V) (h:Yd) (Q:VK),Inv X pins g H s->Vals xs h->r xs H Q->
  wpAny (model X.prog X.w) X.A (call f h) (EP X pins g Q) X.xe s
def Zux(X:Cx)(r:V->Hp->(Bool->Hp->Prop)->Prop):Prop:=
 ∀(pins:ZY) (s:Shared) (f:St) (H:Hp) (x:V) (v:Value) (Q:Bool->Hp->Prop),Inv X pins f H s->RelV x v->r x H Q->
  wpAny (model X.prog X.w) X.A (truthy v) (TP X pins f Q) X.xe s
noncomputable def tOp(r:R2)(h g:TE):TE:=λf H Q=>h f H λx n=>g f n λy l=>r x y l Q
noncomputable def tUn(r:V->Hp->VK->Prop)(g:TE):TE:=λf H Q=>g f H λx h=>r x h Q
noncomputable def rI(C:Int->Int->Prop)(g:Int->Int->V):R2:=λx y H Q=>∃i j,x=.int i/\y=.int j/\C i j/\Q (g i j) H
noncomputable def rI0(g:Int->Int->V):R2:=λx y H Q=>∃i j,x=.int i/\y=.int j/\Q (g i j) H
def rU(g:Int->V):V->Hp->VK->Prop:=λx H Q=>∃i,x=.int i/\Q (g i) H
section
variable {X:Cx}{a b c:Expr}{ta tb tc:TE}{pos:Pos}
def Dq(E:PE X a ta)(C:PE X b tb){pins}{s}{g:St}{H}{R:V->V->Hp->Prop}(I:Inv X pins g H s)(h:ta g H λx r=>tb g r λy o=>R x y o){Q}{f:Value->Value->Sem Value}(N:∀v u p x y o,Inv X pins g o p->RelV x v->RelV y u->R x y o->wpAny (model X.prog X.w) X.A (f v u) Q X.xe p) :
  wpAny (model X.prog X.w) X.A (eval a X.env) (λv n=>wpAny (model X.prog X.w) X.A (eval b X.env) (λu l=>wpAny (model X.prog X.w) X.A (f v u) Q X.xe l) X.xe n) X.xe s:=by
 refine thn (E pins s g H _ I h) λv z ⟨x,r,G,L,B⟩=>?_;refine thn (C pins z g r _ G B) λu p ⟨y,o,T,J,M⟩=>?_
 grind
def Py(p:OpR X (binaryOp o) r)(z:PE X a ta)(w:PE X b tb):PE X (.BinOp a o b pos) (tOp r ta tb):=by
 intro pins s f H Q I h;exact wpAny_BinOp (Dq z w I h λv u g x y B A n l q=>p pins g f B x y v u Q A n l q)
def KR(p:UnR X (unaryOp o) r)(u:PE X a ta):PE X (.UnaryOp o a pos) (tUn r ta):=by
 intro pins s f H Q I h;exact UnaryOp_ (thn (u pins s f H _ I h) λv g ⟨x,y,w,l,n⟩=>p pins g f y x v Q w l n)
def opI{C}{g:Int->Int->Int}(rule:∀i j t u s Q E,C i j->Q (.int (g i j) s.toks) {s with toks:=s.toks+1}->wpAny (model X.prog X.w) X.A (f (.int i t)<|.int j u) Q E s) :
  OpR X f (rI C λi j=>.int (g i j)):=by
 intro pins s r H x y v u Q I o n h;obtain⟨i,j,rfl,rfl,p,q⟩:=h;obtain⟨t,rfl⟩:=o;obtain⟨l,rfl⟩:=n;exact rule i j t l s _ _ p ⟨.int (g i j),H,I.tok _,⟨_,rfl⟩,q⟩
def Zcc{g:Int->Int->Int}(rule:∀i j t u s Q E,Q (.int (g i j) s.toks) {s with toks:=s.toks+1}->wpAny (model X.prog X.w) X.A (f (.int i t)<|.int j u) Q E s) :
  OpR X f (rI0 λi j=>.int (g i j)):=by
 intro pins s p H x y v u Q I o n h;obtain⟨i,j,rfl,rfl,q⟩:=h;obtain⟨t,rfl⟩:=o;obtain⟨l,rfl⟩:=n;exact rule i j t l s _ _ ⟨.int (g i j),H,I.tok _,⟨_,rfl⟩,q⟩
def CM{g:Int->Int->Bool}(rule:∀i j t u s Q E,Q (.bool<|g i j) s->wpAny (model X.prog X.w) X.A (f (.int i t)<|.int j u) Q E s) :
  OpR X f (rI0 λi j=>.bl (g i j)):=by
 intro pins s p H x y v u Q I o n h;obtain⟨i,j,rfl,rfl,q⟩:=h;obtain⟨t,rfl⟩:=o;obtain⟨l,rfl⟩:=n;exact rule i j t l s _ _ ⟨.bl (g i j),H,I,rfl,q⟩
def GM(i j:Int):Prop:=0<j/\j<1073741824
def Ge(i j:Int):Prop:=0<=j/\j<=1000000/\i.natAbs<2 ^ 64
def CMul(i j:Int):Prop:=(-(2 ^ 64)<i/\i<2 ^ 64)\/(-(2 ^ 64)<j/\j<2 ^ 64)
def CMul.ok (h:CMul i j):IntMulOk i j:=by
 rcases h with⟨g,f⟩|⟨g,f⟩
 ·exact .of_left (intBits_le_64 g f)
 ·exact .of_right (intBits_le_64 g f)
def XI:OpR X (binaryOp .Add) (rI0 λi j=>.int (i+j)):=Zcc λ_ _ _ _ _ _ _ q=>add_int q
def XU:OpR X (binaryOp .Sub) (rI0 λi j=>.int (i-j)):=Zcc λ_ _ _ _ _ _ _ q=>sub_int q
def TY:OpR X (binaryOp .Mult) (rI CMul λi j=>.int (i*j)):=opI λ_ _ _ _ _ _ _ f q=>mul_int q f.ok
def K8:OpR X (binaryOp .FloorDiv) (rI GM λi j=>.int (i / j)):=opI λi j _ _ _ _ _ f q=>by
 have h:=f.1;have g:=f.2;exact floordiv_int (by lia) (by rw[Int.fdiv_eq_ediv_of_nonneg i (by lia)];exact q) (.inl<|PyProof.noPylong_small<|by lia)
def XX:OpR X (binaryOp .Mod) (rI (λ_ j=>0<j) λi j=>.int (i % j)):=opI λi j _ _ _ _ _ f q=>by
 exact mod_int' (by lia) (by grind)
def GW:OpR X (binaryOp .Pow) (rI Ge λi j=>.int (i ^ j.toNat)):=opI λ_ _ _ _ _ _ _ f q=>pow_int_small f.1 f.2.1 f.2.2 q
def unI{g:Int->Int}(rule:∀i t s Q E,Q (.int (g i) s.toks) {s with toks:=s.toks+1}->wpAny (model X.prog X.w) X.A (f<|.int i t) Q E s) :
  UnR X f (rU λi=>.int (g i)):=by
 intro pins s n H x v Q I l h;obtain⟨i,rfl,q⟩:=h;obtain⟨t,rfl⟩:=l;exact rule i t s _ _ ⟨.int (g i),H,I.tok _,⟨_,rfl⟩,q⟩
def KZ:UnR X (unaryOp .USub) (rU λi=>.int (-i)):=unI λ_ _ _ _ _ q=>neg_int q
end
noncomputable def MY:V->V->Bool
 | .non,.non=>true | .non,.int _=>true | .int _,.non=>true | .non,.bl _=>true | .bl _,.non=>true | .non,.str _=>true | .str _,.non=>true
 | .int _,.int _=>true | .bl _,.bl _=>true | .str _,.str _=>true | .byt _,.byt _=>true
 | .int _,.str _=>true | .str _,.int _=>true | .bl _,.str _=>true | .str _,.bl _=>true
 |_,_=>false
noncomputable def rEq:R2:=λx y H Q=>MY x y=true/\Q (.bl<|decide (x=y)) H
noncomputable def rNe:R2:=λx y H Q=>MY x y=true/\Q (.bl (!decide (x=y))) H
def Ry{i j:Int}:decide (V.int i=V.int j)=(i==j):=by
 rw[JO];simp
def L4{i j:Bool}:decide (V.bl i=V.bl j)=(i==j):=by
 rw[JO];simp
def Lj{i j:Str}:decide (V.str i=V.str j)=(i==j):=by
 rw[JO];simp
def LQ{i j:Array UInt8}:decide (V.byt i=V.byt j)=(i.toList==j.toList):=by
 rw[JO];cases i
 cases j
 simp
section
variable {X:Cx}{a b c:Expr}{ta tb tc:TE}{pos:Pos}
def Kn{f:St}{H}{s}{Q}{k g}(I:Inv X pins f H s)(q:Q (.bl k) H)(e:k=g):EP X pins f Q (.bool g) s:=by
 subst e;exact⟨.bl k,H,I,rfl,q⟩
def op_eq:OpR X (compareOp .Eq) rEq:=by
 intro pins s o H x y v u Q I n f h;obtain⟨l,q⟩:=h;cases x with
 |non=>
  cases n
  cases y with
  |non=>cases f;exact PySem.EqNone.eq_none_none (Kn I q<|by simp)
  |bl j=>cases f;exact PySem.EqNone.eq_none_bool (Kn I q<|by simp)
  |int j=>obtain⟨g,rfl⟩:=f;exact PySem.EqNone.eq_none_int (Kn I q<|by simp)
  |str j=>obtain⟨g,rfl⟩:=f;exact PySem.EqNone.eq_none_str (Kn I q<|by simp)
  |_=>exact absurd l Qe
 |bl i=>
  cases n
  cases y with
  |non=>cases f;exact PySem.EqNone.eq_bool_none (Kn I q<|by simp)
  |bl j=>cases f;exact eq_bool (Kn I q L4)
  |str j=>obtain⟨g,rfl⟩:=f;exact PySem.EqMixed.eq_bool_str (Kn I q<|by simp)
  |_=>exact absurd l Qe
 |int i=>
  obtain⟨t,rfl⟩:=n;cases y with
  |non=>cases f;exact PySem.EqNone.eq_int_none (Kn I q<|by simp)
  |int j=>obtain⟨g,rfl⟩:=f;exact eq_int (Kn I q Ry)
  |str j=>obtain⟨g,rfl⟩:=f;exact PySem.EqMixed.eq_int_str (Kn I q<|by simp)
  |_=>exact absurd l Qe
 |str i=>
  obtain⟨t,rfl⟩:=n;cases y with
  |non=>cases f;exact PySem.EqNone.eq_str_none (Kn I q<|by simp)
  |bl j=>cases f;exact PySem.EqMixed.eq_str_bool (Kn I q<|by simp)
  |int j=>obtain⟨g,rfl⟩:=f;exact PySem.EqMixed.eq_str_int (Kn I q<|by simp)
  |str j=>obtain⟨g,rfl⟩:=f;exact eq_str (Kn I q Lj)
  |_=>exact absurd l Qe
 |byt i=>
  obtain⟨t,rfl⟩:=n;cases y with
  |byt j=>obtain⟨g,rfl⟩:=f;exact PySem.W.eq_bytes (Kn I q LQ)
  |_=>exact absurd l Qe
 |_=>cases y<;>exact absurd (show false=true from l) Qe
def op_ne:OpR X (compareOp .NotEq) rNe:=by
 intro pins s o H x y v u Q I n f h;obtain⟨l,q⟩:=h;cases x with
 |non=>
  cases n
  cases y with
  |non=>cases f;exact PySem.EqNone.ne_none_none (Kn I q<|by simp)
  |bl j=>cases f;exact PySem.EqNone.ne_none_bool (Kn I q<|by simp)
  |int j=>obtain⟨g,rfl⟩:=f;exact PySem.EqNone.ne_none_int (Kn I q<|by simp)
  |str j=>obtain⟨g,rfl⟩:=f;exact PySem.EqNone.ne_none_str (Kn I q<|by simp)
  |_=>exact absurd l Qe
 |bl i=>
  cases n
  cases y with
  |non=>cases f;exact PySem.EqNone.ne_bool_none (Kn I q<|by simp)
  |bl j=>cases f;exact ne_bool (Kn I q<|QB not L4)
  |str j=>obtain⟨g,rfl⟩:=f;exact PySem.EqMixed.ne_bool_str (Kn I q<|by simp)
  |_=>exact absurd l Qe
 |int i=>
  obtain⟨t,rfl⟩:=n;cases y with
  |non=>cases f;exact PySem.EqNone.ne_int_none (Kn I q<|by simp)
  |int j=>obtain⟨g,rfl⟩:=f;exact ne_int (Kn I q<|QB not Ry)
  |str j=>obtain⟨g,rfl⟩:=f;exact PySem.EqMixed.ne_int_str (Kn I q<|by simp)
  |_=>exact absurd l Qe
 |str i=>
  obtain⟨t,rfl⟩:=n;cases y with
  |non=>cases f;exact PySem.EqNone.ne_str_none (Kn I q<|by simp)
  |bl j=>cases f;exact PySem.EqMixed.ne_str_bool (Kn I q<|by simp)
  |int j=>obtain⟨g,rfl⟩:=f;exact PySem.EqMixed.ne_str_int (Kn I q<|by simp)
  |str j=>obtain⟨g,rfl⟩:=f;exact ne_str (Kn I q<|QB not Lj)
  |_=>exact absurd l Qe
 |byt i=>
  obtain⟨t,rfl⟩:=n;cases y with
  |byt j=>obtain⟨g,rfl⟩:=f;exact PySem.W.ne_bytes (Kn I q<|QB not LQ)
  |_=>exact absurd l Qe
 |_=>cases y<;>exact absurd (show false=true from l) Qe
def Po:OpR X (compareOp .Lt) (rI0 λi j=>.bl (decide (i<j))):=CM λ_ _ _ _ _ _ _ q=>lt_int q
def KJ:OpR X (compareOp .Gt) (rI0 λi j=>.bl (decide (j<i))):=CM λ_ _ _ _ _ _ _ q=>gt_int q
def Bo:OpR X (compareOp .GtE) (rI0 λi j=>.bl (decide (j<=i))):=CM λ_ _ _ _ _ _ _ q=>ge_int q
def OpR.or (h:OpR X f r) (h':OpR X f o):OpR X f (λx y H Q=>r x y H Q\/o x y H Q):=by
 intro pins s g H x y v u Q I n l q;rcases q with q|q
 ·exact h pins s g H x y v u Q I n l q
 ·exact h' pins s g H x y v u Q I n l q
def KO(b:Expr){op}(h:autoParam (op≠.In) au_1)(l:autoParam (op≠.NotIn) au_1):behindInMarks op b=false:=by
 have g:(op==CmpOp.In)=false:=by grind
 have f:(op==CmpOp.NotIn)=false:=by grind
 cases b<;>simp[behindInMarks,g,f]
def Tx(p:OpR X (compareOp f) r)(A:PE X a ta)(z:PE X b tb)(w:behindInMarks f b=false):PE X (.Compare a [f] [b] pos) (tOp r ta tb):=by
 intro pins s g H Q I h;exact wpAny_Compare1 (Dq A z I h λv u l x y C B o n q=>p pins l g C x y v u Q B o n q) w
noncomputable def FL(t:TE):TT:=λf H Q=>t f H λx g=>∃k,x=.bl k/\Q k g
def T7(E:OpR X (compareOp g) r)(L:PE X a ta)(J:PE X b tb)(G:behindInMarks g b=false):PT X (.Compare a [g] [b] pos) (FL<|tOp r ta tb):=by
 intro pins s f H Q I h
 refine wpAny_isTrue_Compare1 (thn (L pins s f H _ I h) λv n ⟨x,H1,T,w,C⟩=>thn (J pins n f H1 _ T C) λu l ⟨y,Y,N,p,B⟩=>
  thn (E pins l f Y x y v u _ N w p B) λc s3 ⟨z,U,M,o,k,e,A⟩=>?_) G
 subst e;cases o
 exact Vw ⟨U,M,A⟩
def AG(K:ZV)(x:V)(H:Hp)(k:Bool):Prop:=
 match x with
 | .non=>k=false
 | .bl b=>k=b
 | .int i=>k=(i != 0)
 | .str y=>y.length<=sizeLine/\k=((y.length:Int) != 0)
 | .byt y=>y.size<=sizeLine/\k=((y.size:Int) != 0)
 | .ref p=>(∃xs,SqL K H p xs/\k=!xs.isEmpty)\/(∃xs,SqT K H p xs/\k=!xs.isEmpty)\/∃f,H p=some (.dK f)/\k=!f.isEmpty
 |_=>False
def Zev(r:KV f vs):(!vs.isEmpty)=!f.isEmpty:=by
 cases r<;>rfl
def Lp(r:Vals xs f):(!f.toArray.isEmpty)=!xs.isEmpty:=by
 cases r<;>simp
def Aa:(sizeLine:Nat)<2 ^ 63:=by trivial
def Za9:Zux X (λx H Q=>∃k,AG X.K x H k/\Q k H):=by
 intro pins s B H x v Q I l h;obtain⟨k,e,q⟩:=h;have G:=Aa;have E:=sizeLine_eq;cases x with
 |non=>
  cases l
  have f:=e;subst f;exact truthy_none ⟨H,I,q⟩
 |bl b=>
  cases l
  have f:=e;subst f;exact Vw ⟨H,I,q⟩
 |int i=>
  obtain⟨t,rfl⟩:=l;have f:=e;subst f;exact PySem.P.truthy_int ⟨H,I,q⟩
 |str y=>
  obtain⟨t,rfl⟩:=l;obtain⟨z,f⟩:=e;subst f;exact PySem.P.truthy_str (by lia) ⟨H,I.tok _,q⟩
 |byt y=>
  obtain⟨t,rfl⟩:=l;obtain⟨z,f⟩:=e;subst f;exact PySem.W.truthy_bytes (by lia) ⟨H,I.tok _,q⟩
 |ref p=>
  cases l
  have f:=e;rcases f with⟨xs,hx,f⟩|⟨xs,hx,f⟩|⟨w,hx,f⟩
  ·subst f;obtain⟨o,r,n,u⟩:=I.list hx;have g:=r.length;exact wpAny_truthy_list n.isList (by simp only[Qn];lia) ⟨H,I.tok _,by rw[Lp r];exact q⟩
  ·subst f;obtain⟨o,r,n,u⟩:=I.tuple hx;have g:=r.length;exact truthy_tuple n (by simp only[Qn];lia) ⟨H,I.tok _,by rw[Lp r];exact q⟩
  ·subst f;obtain⟨u,A,C,r,m⟩:=I.hok p _ hx;have g:=Paired.length r;exact wpAny_truthy_dict A m (by lia) ⟨H,I.tok _,by rw[Zev r];exact q⟩
 |_=>exact e.elim
def Zqj(p:PE X a ta)(o:∀whole,isTrue a X.env whole=(do let v ←whole;standAt a.pos;holding [v] (truthy v))) :
  PT X a (λf H Q=>ta f H λx H'=>∃k,AG X.K x H' k/\Q k H'):=by
 intro pins s f H Q I h;exact isTrue_plain (thn (p pins s f H _ I h) λv g ⟨x,u,r,l,n⟩=>Za9 pins g f u x v Q r l n) (o _)
def vals1(r:Vals [x] us):∃u,us=[u]/\RelV x u:=by
 cases r with
 |cons g f=>cases f;exact⟨_,rfl,g⟩
def vals2(r:Vals [x,y] us):∃u f,us=[u,f]/\RelV x u/\RelV y f:=by
 cases r with
 |cons n l=>
  cases l with
  |cons h g=>cases g;exact⟨_,_,rfl,n,h⟩
def Cp(g:X.calm=true):Kx X (.builtin "max") (λxs H Q=>∃i j,xs=[.int i,.int j]/\Q (.int (if j>i then j else i)) H):=by
 intro pins s l H xs o Q I r h;obtain⟨i,j,rfl,q⟩:=h;obtain⟨u,n,rfl,⟨t,rfl⟩,⟨v,rfl⟩⟩:=vals2 r;refine max_two_ints (I.ok.hd g) λw p k=>⟨_,H,I.kept k,?_,q⟩;by_cases f:j>i
 ·rw[WQ f,WQ f];exact⟨_,rfl⟩
 ·rw[WN f,WN f];exact⟨_,rfl⟩
def Zon:Kx X (.type "int") (λxs H Q=>(∃i,xs=[.int i]/\Q (.int i) H)\/∃k,xs=[.bl k]/\Q (.int (if k then 1 else 0)) H):=by
 intro pins s g H xs l Q I r h;rcases h with⟨i,rfl,q⟩|⟨k,rfl,q⟩
 ·obtain⟨u,rfl,t,rfl⟩:=vals1 r;exact call_int_int ⟨.int i,H,I,⟨_,rfl⟩,q⟩
 ·obtain⟨u,rfl,f⟩:=vals1 r;cases f
  exact call_int_bool ⟨.int (if k then 1 else 0),H,I.tok _,⟨_,rfl⟩,q⟩
def AS(K:ZV)(x:V)(H:Hp)(n:Nat):Prop:=
 match x with
 | .str y=>y.length<=sizeLine/\n=y.length
 | .byt y=>y.size<=sizeLine/\n=y.size
 | .ref p=>(∃xs,SqL K H p xs/\n=xs.length)\/∃xs,SqT K H p xs/\n=xs.length
 |_=>False
def Zkf:Kx X (.builtin "len") (λxs H Q=>∃x n,xs=[x]/\AS X.K x H n/\Q (.int n) H):=by
 intro pins s B H xs C Q I r h;obtain⟨x,n,rfl,e,q⟩:=h;obtain⟨u,rfl,l⟩:=vals1 r;have E:=sizeLine_eq;cases x with
 |str y=>
  obtain⟨t,rfl⟩:=l;obtain⟨A,g⟩:=e;subst g;exact len_str (by lia) ⟨.int _,H,I.tok _,⟨_,rfl⟩,q⟩
 |byt y=>
  obtain⟨t,rfl⟩:=l;obtain⟨A,g⟩:=e;subst g;exact PySem.W.len_bytes (by lia) ⟨.int _,H,I.tok _,⟨_,rfl⟩,q⟩
 |ref p=>
  cases l
  have g:=e;rcases g with⟨xs,hx,g⟩|⟨xs,hx,g⟩
  ·subst g;obtain⟨w,o,v,z⟩:=I.list hx;have f:=o.length;exact Calls.call_len_list v.isList (by simp only[Qn];lia) ⟨.int xs.length,H,I.tok _,⟨_,by simp only[Qn];rw[f]⟩,q⟩
  ·subst g;obtain⟨w,o,v,z⟩:=I.tuple hx;have f:=o.length;exact len_tuple v (by simp only[Qn];lia) ⟨.int xs.length,H,I.tok _,⟨_,by simp only[Qn];rw[f]⟩,q⟩
 |_=>exact e.elim
end
structure Sh (h:Heap) (x dx C:Addr) (mA:ZZ):Prop where
 obj:h.get? x=some (PySem.W.instObj C dx)
 ns:h.Ns1 dx mA
 ne:dx≠x
def Zqz{h:Heap}{dx}{mA}(n:h.Ns1 dx mA):∃g,h.get? dx=some g/\∀name,PySem.W.lookIn name g=some (mA name):=by
 obtain⟨o,v,w,p,u,s,_,r⟩:=n;refine⟨o,p,λname=>?_⟩;have e:=r name;unfold nsFind findBy at e;unfold PySem.W.lookIn;rw[u]
 dsimp only
 split
 ·grind
 ·rename_i q
  have a:v.toList.any (·.refKey)=false:=by
   rw[List.any_eq_false];intro y l;obtain⟨z,t,f⟩:=s y (Array.mem_toList_iff.mp l);simp[DictEntry.refKey,f]
  grind
def Sh.look (I:Sh h x o C g):∃f,PySem.W.InstAt h x (PySem.W.instObj C o) C (some f)/\∀name,PySem.W.lookIn name f=some (g name):=
 let ⟨f,l,n⟩:=Zqz I.ns
 ⟨f,⟨I.obj,rfl,rfl,l⟩,n⟩
section
variable {prog:Program}{w:World}{A:Around}{E:Ya}{s:Shared}{K:ZV}{x dx C f:Addr}{mA:ZZ}{name:Str}{v:Value}
def Zg6{Q}(X:K.In s.heap)(I:Sh s.heap x dx C mA)(n:PySem.W.plainGet K C name=true)(l:PySem.W.hasDictIn K C=true)(o:PySem.W.findIn K (.ref C) name=some none)(r:mA name=some v)(g:PySem.W.handedIn v=true)(h:Q v {s with toks:=s.toks+1}) :
  wpAny (model prog w) A (getAttr (.ref x) name expr) Q E s:=by
 obtain⟨p,J,u⟩:=I.look;exact PySem.W.get_value X J (JV n).1 (PySem.W.findObj_own l o rfl<|by grind) g h
def Zlx{Q}(X:K.In s.heap)(I:Sh s.heap x dx C mA)(g:PySem.W.plainGet K C name=true)(r:PySem.W.findIn K (.ref C) name=some (some<|.ref f))(o:PySem.W.isFn K (.ref f)=true)(n:mA name=none)(h:Q (.ref f,[.ref x]) s) :
  wpAny (model prog w) A (getMethod (.ref x) name u) Q E s:=by
 obtain⟨l,J,p⟩:=I.look;exact PySem.W.method_fn X J (JV g).1 (JV g).2 r (beq_iff_eq.mp o) (by show(PySem.W.lookIn name l).map (·.isSome)=some false;rw[p,n];rfl) h
def Zg7(X:K.In s.heap)(I:Sh s.heap x dx C mA)(z:PySem.W.findIn K (.ref C) "__setattr__"=some (some<|.builtin "object.__setattr__"))(B:PySem.W.plainOver K C=true)(u:PySem.W.takerIn K C name=some none)(G:PySem.W.hasDictIn K C=true)(hw:PySem.Within mA ns)(hsz:ns.length<=sizeLine)(h:∀h',Sh h' x dx C (λy=>if y=name then some v else mA y)->Heap.SameBut dx s.heap h'->Q () {s with heap:=h',toks:=s.toks+2}) :
  wpAny (model prog w) A (setAttr (.ref x) name v) Q E s:=by
 obtain⟨N,J,U⟩:=I.look;refine PySem.W.set_plain X J z (PySem.W.osa_open X J B u λb=>?_);obtain⟨Y,H,p⟩:=PySem.W.any_some G;refine WG (WJ<|WG<|WG<|wpAny_loadPart I.obj<|WG<|PySem.W.Looks.here (PySem.W.looks_clsIn X H) ?_);rw[p];refine WJ (WG<|WJ<|WG ?_);refine wpAny_nsSet1 I.ns λh' l g=>?_;obtain⟨T,L,M,n,o,r⟩:=l.count (PySem.Within.cons name v hw);refine WG (wpAny_lookBehind n (by rw[o];exact pastItsLine_dict (WW r<|by grind)) ?_);exact WJ (h _ ⟨(g.2 _<|Ne.symm I.ne).trans I.obj,l,I.ne⟩ g)
def Zto{vs g}(X:K.In s.heap)(l:PySem.W.makesIn K C=true)(n:PySem.W.findIn K (.ref C) "__init__"=some (some<|.ref f))(o:PySem.W.typeIn K (.ref f)=some (.type "function"))
  (h:codeAny (model prog w) (A.under<|.builtin "type.__call__" ⟨.ref C::vs,g⟩) (.call (.ref f) ⟨.ref (s.heap.objs.size+1)::vs,g⟩) (PySem.W.InitBack (s.heap.objs.size+1) R)
   {s with heap:=(s.heap.push PySem.W.emptyDict).push (PySem.W.instObj C s.heap.objs.size)}) :
  codeAny (model prog w) A (.call (.ref C) ⟨vs,g⟩) R s:=PySem.W.make_core (PySem.W.makes_of X l) (PySem.W.looks_findIn X n) (λself=>PySem.W.bind_fn X self o) (.inl rfl) h
end
noncomputable def Pg(f:Str)(v:V):List (Str×V)->List (Str×V)
 |[]=>[(f,v)]
 |(g,x)::r=>if g=f then(g,v)::r else(g,x)::Pg f v r
theorem MU(f g:Str)(v:V):∀fs,(Pg f v fs).lookup g=if g=f then some v else fs.lookup g
 |[]=>by
  show List.lookup g [(f,v)]=_;by_cases h:g=f
  ·have l:=beq_iff_eq.mpr h;simp only[List.lookup,l,WQ h]
  ·have l:=VN.mpr h;simp only[List.lookup,l,WN h]
 |(k,x)::r=>by
  rw[show Pg f v ((k,x)::r)=(if k=f then(k,v)::r else(k,x)::Pg f v r)from rfl]
  by_cases n:k=f
  ·rw[WQ n];by_cases h:g=k
   ·simp_all
   ·have l:=VN.mpr h;simp only[List.lookup,l,WN (λe:g=f=>h (e.trans n.symm))]
  ·rw[WN n];by_cases h:g=k
   ·simp_all
   ·have l:=VN.mpr h;simp only[List.lookup,l];exact(MU f g v r)
theorem Dl(f:Str)(v:V):∀fs,f∈(Pg f v fs).map (·.1)/\∀g,g∈fs.map (·.1)->g∈(Pg f v fs).map (·.1)
 |[]=>⟨by simp[Pg],λg h=>by simp at h⟩
 |(k,x)::r=>by
  obtain⟨n,l⟩:=Dl f v r;rw[show Pg f v ((k,x)::r)=(if k=f then(k,v)::r else(k,x)::Pg f v r)from rfl]
  by_cases o:k=f
  ·grind
  ·grind
theorem LH(f:Str)(v:V):∀fs,(Pg f v fs).length<=fs.length+1
 |[]=>by simp[Pg]
 |(k,x)::r=>by
  have g:=LH f v r;rw[show Pg f v ((k,x)::r)=(if k=f then(k,v)::r else(k,x)::Pg f v r)from rfl]
  by_cases h:k=f
  ·grind
  ·grind
def RelO.some_of (r:RelO (some v) o):∃u,o=some u/\RelV v u:=by
 cases o with
 |none=>trivial
 |some u=>exact⟨u,rfl,r⟩
def RelO.none_of (r:RelO none o):o=none:=by
 cases o with
 |none=>rfl
 |some u=>trivial
def Zlq(r:RelV v u):PySem.W.handedIn u=true:=by
 cases v with
 |non|bl b|ref a|ty n=>cases r;rfl
 |_=>obtain⟨t,e⟩:=r;cases e;rfl
section
variable {P:Program}{w:World}{H H':Hp}{h h':Heap}{a C dx:Addr}{fs fs':List (Str×V)}
def Au(l:HOk P w H h)(e:H a=some (.ins C dx fs)):∃g,Sh h a dx C g/\(∀f,RelO (fs.lookup f) (g f))/\PySem.Within g (fs.map (·.1))/\fs.length<=1000/\H dx=some (.own a):=by
 obtain⟨d,z,p,o,g,n,r,q⟩:=(l a _ e);exact⟨g,⟨o,n,p⟩,r,q,z,d⟩
end
structure Cls (K:ZV) (C:Addr):Prop where
 pg:PySem.W.plainGet K C Str.empty=true
 hd:PySem.W.hasDictIn K C=true
 po:PySem.W.plainOver K C=true
 sa:PySem.W.findIn K (.ref C) "__setattr__"=some (some<|.builtin "object.__setattr__")
def Cls.get {K C} (c:Cls K C) (f:Str):PySem.W.plainGet K C f=true:=c.pg
def NoAttr(K:ZV)(C:Addr)(f:Str):Prop:=PySem.W.findIn K (.ref C) f=some none
def NoAttr.taker {K C f} (n:NoAttr K C f):PySem.W.takerIn K C f=some none:=by
 unfold PySem.W.takerIn;rw[show PySem.W.findIn K (.ref C) f=some none from n]
 rfl
structure Kc (K:ZV) (C:Addr) (m:Str) (f:Addr):Prop where
 at_:PySem.W.findIn K (.ref C) m=some (some<|.ref f)
 fn:PySem.W.isFn K (.ref f)=true
 kp:PySem.W.keepIn K (.ref f)=true
section
variable {X:Cx}{pins:ZY}{σ:St}{H:Hp}{s:Shared}{a C dx:Addr}{fs:List (Str×V)}{f:Str}{v:V}{A:Around}{E:Ya}
def Zl2{Q}(I:Inv X pins σ H s)(e:H a=some (.ins C dx fs))(c:Cls X.K C)(n:NoAttr X.K C f)(l:fs.lookup f=some v)(h:∀u g,Inv X pins σ H g->RelV v u->Q u g):wpAny (model X.prog X.w) A (getAttr (.ref a) f b) Q E s:=by
 obtain⟨x,O,r,_,_,_⟩:=Au I.hok e;obtain⟨u,p,o⟩:=RelO.some_of (by rw[←l];exact r f);exact Zg6 I.kIn O (c.get f) c.hd n p (Zlq o) (h u _ (I.tok _) o)
def D5{Q}(I:Inv X pins σ H s)(e:H a=some (.ins C dx fs))(c:Cls X.K C)(k:Kc X.K C m g)(l:fs.lookup m=none)(h:Q (.ref g,[.ref a]) s):wpAny (model X.prog X.w) A (getMethod (.ref a) m n) Q E s:=by
 obtain⟨o,O,r,_,_,_⟩:=Au I.hok e;exact Zlx I.kIn O (c.get m) k.at_ k.fn (RelO.none_of<|by rw[←l];exact r m) h
def Zq0(I:Inv X pins σ H s)(e:H a=some (.ins C dx fs))(c:Cls X.K C)(n:NoAttr X.K C f)(hl:fs.length<1000)(J:RelV y u)(h:∀x,Inv X pins σ (upd H a<|.ins C dx<|Pg f y fs) x->Q () x):wpAny (model X.prog X.w) A (setAttr (.ref a) f u) Q E s:=by
 obtain⟨L,O,r,p,_,B⟩:=Au I.hok e;have M:(fs.map (·.1)).length<=sizeLine:=by rw[WH,sizeLine_eq];lia
 refine Zg7 I.kIn O c.sa c.po n.taker c.hd p M λY l G=>h _ ?_;have T:∃o,Y.get? dx=some o:=let ⟨o,_,_,e',_⟩:=l.ns;⟨o,e'⟩;refine I.write (by rw[e];exact True.intro) (.inr B) (λb q U z=>(G.2 b U).trans z) T ?_;refine⟨by rw[XD O.ne];exact B,?_,O.ne,l.obj,_,l.ns,λg=>?_,λg N=>?_⟩
 ·have:=LH f y fs;lia
 ·show RelO ((Pg f y fs).lookup g) (if g=f then some u else L g);rw[MU];by_cases q:g=f
  ·rw[WQ q,WQ q];exact J
  ·grind
 ·by_cases q:g=f
  ·rw[q];exact(Dl f y fs).1
  ·refine(Dl f y fs).2 g (p g λz=>N ?_)
   grind
def Inv.made (I:Inv X pins σ H s):Inv X pins σ (upd (upd H s.heap.objs.size<|.own (s.heap.objs.size+1)) (s.heap.objs.size+1)<|.ins C s.heap.objs.size [])
  {s with heap:=(s.heap.push PySem.W.emptyDict).push (PySem.W.instObj C s.heap.objs.size)}:=by
 have h:(s.heap.push PySem.W.emptyDict).get? s.heap.objs.size=some PySem.W.emptyDict:=WU s.heap rfl
 have r:((s.heap.push PySem.W.emptyDict).push (PySem.W.instObj C s.heap.objs.size)).get? (s.heap.objs.size+1)=some (PySem.W.instObj C s.heap.objs.size):=by
  have:=WU (s.heap.push PySem.W.emptyDict) (o:=PySem.W.instObj C s.heap.objs.size) rfl
  rwa[Vn]at this
 have p:(s.heap.push PySem.W.emptyDict).Ns s.heap.objs.size (λ_=>none):=⟨PySem.W.emptyDict,#[],_,h,rfl,(λe n=>absurd n (by simp)),λ_=>rfl⟩;refine(I.laid (o:=.own (s.heap.objs.size+1)) (t':=s.toks) (λb u q=>WM _ q) (WS _) ⟨_,h⟩).laid (λb u q=>WM _ q) (Vr<|Vn _ _) ?_;have g:s.heap.objs.size≠s.heap.objs.size+1:=Qj (V8 _);refine⟨by rw[XD g,XZ],QV _,g,r,λ_=>none,(Heap.Ns1.of_empty p).at λo q=>WM _ q,λ_=>True.intro,λy l=>absurd rfl l⟩
def Znq{env e f pos s Q}(l:attributeBase e f env (eval e env)=eval e env)(h:wpAny (model prog w) A (eval e env) (λo g=>wpAny (model prog w) A (getAttr o f true) Q E g) E s):wpAny (model prog w) A (eval (.Attribute e f pos) env) Q E s:=
 Attribute_any_ h (by rw[arm_eval_Attribute,l])
end
noncomputable def FR(K:ZV)(l:TE)(f:Str):TE:=λh H Q=>l h H λx g=>∃a C n fs v,x=.ref a/\g a=some (.ins C n fs)/\Cls K C/\NoAttr K C f/\fs.lookup f=some v/\Q v g
noncomputable def Zax(K:ZV)(o n:TE)(f:Str):TS:=λD g H=>n g H λy p=>o g p λx l=>∃a C h fs,x=.ref a/\l a=some (.ins C h fs)/\Cls K C/\NoAttr K C f/\fs.length<1000/\
 D.nx g (upd l a<|.ins C h<|Pg f y fs)
section
variable {X:Cx}{o e value:Expr}{f:Str}{pos pos' tpos:Pos}{ta tv:TE}
def T8(w:PE X e ta)(y:attributeBase e f X.env (eval e X.env)=eval e X.env):PE X (.Attribute e f pos) (FR X.K ta f):=by
 intro pins s g H Q I h;refine Znq y (thn (w pins s g H _ I h) ?_);rintro u M ⟨x,G,E,p,a,C,N,fs,v,z,A,c,n,l,q⟩;subst z;obtain rfl:=p;exact Zl2 E A c n l λJ L B r=>⟨v,G,B,r,q⟩
def CZ(B:PE X o ta)(z:PE X value tv)(A:swapsWith value (some<|.Attribute o f pos') pos.line X.env=pure false):PS X (.Assign [.Attribute o f pos'] value pos) (Zax X.K ta tv f):=by
 intro pins s g H D I h;refine plainObj_wpAny_Assign_Attribute (thn (z pins s g H _ I h) ?_) A;rintro u p ⟨y,N,M,r,q⟩;refine thn (B pins p g N _ M q) ?_;rintro U T ⟨x,H2,L,v,a,C,Y,fs,E,G,c,n,l,w⟩;subst E;obtain rfl:=v;exact Zq0 L G c n l r λQ J=>⟨g,_,J,w⟩
def Zvs{m}{apos}{args}{pins}{s}{n:St}{H}{Q}{te}(G:PE X e te)(I:Inv X pins n H s)
  (h:te n H λx r=>∃a C y fs g,x=.ref a/\r a=some (.ins C y fs)/\Cls X.K C/\Kc X.K C m g/\fs.lookup m=none/\
   ∀p,Inv X pins n r p->wpAny (model X.prog X.w) X.A (callWith pos (.ref g) [.ref a] (backTo pos<|starEach args X.env)<|backToKw pos<|keywordEach [] X.env) Q X.xe p)
  (E:eval (.Call (.Attribute e m apos) args [] pos) X.env=(do
   let v ←eval e X.env
   standAt apos.atName
   let (f,first) ←holding [v] (getMethod v m M)
   callWith pos f first (backTo pos<|starEach args X.env) (backToKw pos<|keywordEach [] X.env))) :
  wpAny (model X.prog X.w) X.A (eval (.Call (.Attribute e m apos) args [] pos) X.env) Q X.xe s:=by
 refine JG (thn (G pins s n H _ I h) ?_) E;rintro u p ⟨x,r,z,B,a,C,y,fs,g,J,L,c,k,l,q⟩;subst J;obtain rfl:=B;exact D5 z L c k l (q p z)
end
section
variable {X:Cx}{pins:ZY}{σ:St}{H:Hp}{s:Shared}{A:Around}{E:Ya}{Q:Ya}{c:Value}{b:Bool}
inductive P1 (K:ZV) (H:Hp):V->Value->Prop where
 |non:P1 K H .non (.type "NoneType")
 |bl (x:Bool):P1 K H (.bl x) (.type "bool")
 |int (i:Int):P1 K H (.int i) (.type "int")
 |str (x:Str):P1 K H (.str x) (.type "str")
 |flt (x:UInt64):P1 K H (.flt x) (.type "float")
 |lst {a:Addr} {xs:List V} (e:H a=some (.lst xs)):P1 K H (.ref a) (.type "list")
 |frz {a:Addr} {o:Obj} {xs:List V} (e:H a=some (.frz o<|.lst xs)):P1 K H (.ref a) (.type "list")
 |tup {a:Addr} {xs:List V} (e:H a=some (.tup xs)):P1 K H (.ref a) (.type "tuple")
 |dK {a:Addr} {kvs:List (Key×V)} (e:H a=some (.dK kvs)):P1 K H (.ref a) (.type "dict")
 |dT {a:Addr} {kvs:List (List Key×V)} (e:H a=some (.dT kvs)):P1 K H (.ref a) (.type "dict")
 |ins {a C dx:Addr} {fs:List (Str×V)} (e:H a=some (.ins C dx fs)) (cl:Cls K C) (ha:PySem.W.findIn K (.ref C) "__class__"=some (some<|.builtin "object.__class__"))
   (hn:PySem.W.specialIn K (.builtin "object.__class__") "__get__"=some (some<|.builtin "getset_descriptor.__get__")) (htk:PySem.W.takesIn K (.builtin "object.__class__")=some true)
   (hm:PySem.W.mroIn K C (.type "object")=some true):P1 K H (.ref a) (.ref C)
def Zjt(I:Inv X pins σ H s)(f:RelV x u)(L:P1 X.K H x t)(e:PySem.W.kitOne X.K t c=some b)(h:∀M,Q (.bool b) {s with toks:=M}) :
  wpAny (model X.prog X.w) A (call (.builtin "isinstance") [u,c]) Q E s:=by
 cases L with
 |non=>cases f;exact QW PySem.W.kitx_none I.kIn True.intro e (λz=>nomatch z) h
 |bl y=>cases f;exact QW PySem.W.kitx_bool I.kIn True.intro e (λz=>nomatch z) h
 |int i=>obtain⟨t,q⟩:=f;cases q;exact QW PySem.W.kitx_int I.kIn True.intro e (λz=>nomatch z) h
 |str y=>obtain⟨t,q⟩:=f;cases q;exact QW PySem.W.kitx_str I.kIn True.intro e (λz=>nomatch z) h
 |flt y=>obtain⟨t,q⟩:=f;cases q;exact QW PySem.W.kitx_float I.kIn True.intro e (λz=>nomatch z) h
 | @lst a xs g=>
  cases f
  obtain⟨_,_,n,_,l⟩:=(I.hok a _ g);exact QW PySem.W.kitx_list I.kIn ⟨_,l,rfl⟩ e (λz=>nomatch z) h
 | @frz a ob xs g=>
  cases f
  obtain⟨_,_,_,n,_,l⟩:=(I.hok a _ g);exact QW PySem.W.kitx_list I.kIn ⟨_,l,rfl⟩ e (λz=>nomatch z) h
 | @tup a xs g=>
  cases f
  obtain⟨_,_,_,p⟩:=(I.hok a _ g);obtain⟨o,l,r,_⟩:=p;exact QW PySem.W.kitx_tuple I.kIn ⟨o,l,r⟩ e (λz=>nomatch z) h
 | @dK a v g=>
  cases f
  obtain⟨_,_,vs,_,p⟩:=(I.hok a _ g);obtain⟨o,Y,ep,l,r,_⟩:=p;exact QW PySem.W.kitx_dict I.kIn ⟨o,l,r.1⟩ e (λz=>nomatch z) h
 | @dT a v g=>
  cases f
  obtain⟨_,_,xs,_,o,Y,ep,l,r,_⟩:=(I.hok a _ g);exact QW PySem.W.kitx_dict I.kIn ⟨o,l,r.1⟩ e (λz=>nomatch z) h
 | @ins a C dx fs g G U N B T=>
  cases f
  obtain⟨mA,O,_⟩:=Au I.hok g;obtain⟨od,J,_⟩:=O.look;exact QW (PySem.W.kitx_own (G.get _) G.hd U N B T) I.kIn J e (λz=>nomatch z) h
end
structure XC (k:Nat) (A:Around):Prop where
 hd:A.handled=none
 dp:A.depth+3*k+5<recursionLimit
 un:A.units+16*k+200<cLine
 gd:A.guards=some []
def XC.mono {j k A} (r:XC k A) (h:j<=k):XC j A:=⟨r.hd,by have:=r.dp;lia,by have:=r.un;lia,r.gd⟩
def XC.deeper (r:XC (k+1) A) (env:Env):XC k (A.deeper env):=
 ⟨r.hd,by have:=r.dp;show A.depth+1+3*k+5<_;lia,by have:=r.un;show A.units+3+16*k+200<_;lia,r.gd⟩
def Zsk{A:Around}{C}{us}{kw}:(A.under<|.builtin "type.__call__" ⟨.ref C::us,kw⟩).depth=A.depth+1:=by
 rfl
def Zqx{A:Around}{C}{us}{kw}:(A.under<|.builtin "type.__call__" ⟨.ref C::us,kw⟩).units=A.units+1:=rfl
def Zjr{A:Around}{C:Addr}{us:Yd}{f:List (Str×Value)}(h:A.guards=some []):(A.under<|.builtin "type.__call__" ⟨.ref C::us,f⟩).guards=some []:=by
 simpa [Around.under,Code.guards,Code.isGuard,guardIds,pushGuards]using h
def XC.make (r:XC (k+1) A) (C:Addr) (us:Yd) (f:List (Str×Value)):XC k (A.under<|.builtin "type.__call__" ⟨.ref C::us,f⟩):=
 ⟨r.hd,by have:=r.dp;rw[Zsk];lia,by have:=r.un;rw[Zqx];lia,Zjr r.gd⟩
def XC.depth (r:XC k A):A.depth<recursionLimit:=by have:=r.dp;lia
def XC.units (r:XC k A):A.units+64<cLine:=by have:=r.un;lia
def XC.units0 (r:XC k A):A.units<cLine:=by have:=r.un;lia
noncomputable def P7:TA:=λ_ H Q=>Q [] H
noncomputable def KF(h:TE)(g:TA):TA:=λf H Q=>h f H λx n=>g f n λxs l=>Q (x::xs) l
section
variable {X:Cx}{e:Expr}{es:Yf}{te:TE}{t:TA}{pos:Pos}
def Pr:PA X [] P7:=λ_ _ _ _ H Q I h=>Calls.spliced_nil ⟨[],H,I,.nil,h⟩
def Kw(w:PE X e te)(v:PA X es t)(r:autoParam (starEach (e::es) X.env=(false,eval e X.env)::starEach es X.env) au_0):PA X (e::es) (KF te t):=by
 intro pos pins s f H Q I h;rw[r];refine Calls.spliced_cons (thn (w pins s f H _ I h) ?_);rintro u g ⟨x,B,z,n,p⟩;exact thn (v pos pins g f B _ z p) λC E ⟨xs,A,y,l,o⟩=>⟨x::xs,A,y,.cons n l,o⟩
noncomputable def RD(t:TA):TE:=λg H Q=>t g H λxs f=>xs.length<=sizeLine/\∀p,f p=none->Q (.ref p) (upd f p<|.tup xs)
noncomputable def Om(t:TA):TE:=λg H Q=>t g H λxs f=>xs.length<=sizeLine/\∀p,f p=none->Q (.ref p) (upd f p<|.lst xs)
def PK(h:PA X es t):PE X (.Tuple es p pos) (RD t):=by
 intro pins s l H Q I hq;refine wpAny_Tuple_spliced (thn (h pos pins s l H _ I hq) ?_);rintro n f ⟨xs,o,g,r,z,q⟩;refine⟨by rw[←r.length];exact z,?_⟩;refine⟨.ref f.heap.objs.size,upd o f.heap.objs.size (.tup xs),g.laid (λb u e=>WM _ e) (WS _) ?_,rfl,q _ (g.hok.fresh<|WS _)⟩;exact⟨z,n,r,⟨_,WU _ rfl,rfl,_,rfl⟩⟩
def N0(h:PA X es t):PE X (.List es pos) (Om t):=by
 intro pins s l H Q I hq;refine wpAny_List_spliced (thn (h pos pins s l H _ I hq) ?_);rintro n f ⟨xs,o,g,r,z,q⟩;refine⟨by rw[←r.length];exact z,?_⟩;refine⟨.ref f.heap.objs.size,upd o f.heap.objs.size (.lst xs),g.laid (λb u e=>WM _ e) (WS _) ?_,rfl,q _ (g.hok.fresh<|WS _)⟩;exact⟨z,n,0,r,WU _ rfl⟩
end
abbrev Sp:=List V->Hp->VK->XK->Prop
abbrev CXT:=List Env->Hp->Shared->XK->Ya
structure Sd (P:Program) (w:World) (K:ZV) (mg:ZZ) (base:Heap) (A:Around) (outer:List Env) (s:Shared) (H:Hp):Prop where
 frames:A.frames=some outer
 mod:Mod K mg base
 bs:∀b o,base.get? b=some o->s.heap.get? b=some o/\H b=none
 bsz:base.objs.size<=s.heap.objs.size
 funs:s.heap.FunFrames base outer
 frf:∀b∈frs outer,H b=none
 hok:HOk P w H s.heap
 bare:AllBare s.gens
def CE(outer:List Env)(P:Program)(w:World)(H:Hp)(s:Shared)(Q:VK)(u:Value)(f:Shared):Prop:=
 ∃v g,f.os=s.os/\AllBare f.gens/\Un (frs outer) [] H g s.heap f.heap/\HOk P w g f.heap/\RelV v u/\Q v g
def CR(CX:CXT)(outer:List Env)(P:Program)(w:World)(H:Hp)(s:Shared)(Q:VK)(E:XK)(r:Result)(f:Shared):Prop:=
 match r with
 | .ok (.ret u)=>CE outer P w H s Q u f
 | .ok _=>False
 | .error e=>CX outer H s E e f
structure Pj (P:Program) (w:World) (K:ZV) (mg:ZZ) (base:Heap) (CX:CXT) (k:Nat) (f:Addr) (fd:FuncData) (ps:Ye) (sp:Sp):Prop where
 len:∀vs H Q E,sp vs H Q E->vs.length=ps.length
 run:∀(A:Around) (outer:List Env) (s:Shared) (H:Hp) (args:Args) (us:Yd) (vs:List V) (Q:VK) (E:XK),XC k A->Sd P w K mg base A outer s H->BindsTo s fd args (ps.zip us)->Vals vs us->sp vs H Q E->
  codeAny (model P w) A (.call (.ref f) args) (CR CX outer P w H s Q E) s
def Pj.imp {K l base CX k f n ps sp g} (F:Pj P w K l base CX k f n ps sp)
  (h:∀vs H Q E,g vs H Q E->sp vs H Q E):Pj P w K l base CX k f n ps g:=
 ⟨λvs H Q E q=>F.len vs H Q E (h _ _ _ _ q),λA outer s H args o vs Q E u v x p r=>F.run A outer s H args o vs Q E u v x p (h _ _ _ _ r)⟩
def Sd.make {K f base A outer s H} (e:Sd P w K f base A outer s H) (C:Addr) (us:Yd) (g:List (Str×Value)) :
  Sd P w K f base (A.under<|.builtin "type.__call__" ⟨.ref C::us,g⟩) outer s H:=⟨by first|exact e.frames|(simpa [Around.under,Code.envs,Code.isFrame,pushEnvs]using e.frames),e.mod,e.bs,e.bsz,e.funs,e.frf,e.hok,e.bare⟩
section
variable {X:Cx}{pins:ZY}{σ:St}{H:Hp}{s s':Shared}
def Inv.env0 (I:Inv X pins σ H s):Sd X.prog X.w X.K X.mg X.base X.A X.stack s H:=
 ⟨I.ok.frames,I.ok.mod,I.bs,WW I.ok.bsz I.sz,I.stack,I.stkFree,I.hok,I.bare⟩
def Inv.after (I:Inv X pins σ H s) (h:CE X.stack X.prog X.w H s Q u s'):EP X pins σ Q u s':=by
 obtain⟨v,n,os,bare,un,f,r,q⟩:=h;obtain⟨o,g,d,t,l⟩:=s';obtain rfl:=os;exact⟨v,n,I.call un f bare (λb z=>absurd z (by simp)),r,q⟩
end
noncomputable def NX(sp:Sp)(f:List V)(E:XK)(t:TA):TE:=λg H Q=>t g H λh l=>sp (h++f) l Q E
noncomputable def NR(C:Addr)(m:Str)(sp:Sp)(f:List V)(E:XK)(n:TE)(t:TA):TE:=λg H Q=>n g H λx h=>∃a o fs,x=.ref a/\h a=some (.ins C o fs)/\fs.lookup m=none/\
 t g h λl p=>sp (x::(l++f)) p Q E
noncomputable def G3(C:Addr)(sp:Sp)(g:List V)(E:XK)(t:TA):TE:=λl H Q=>t l H λn h=>∀x f,h x=none->h f=none->f≠x->
 sp (.ref x::(n++g)) (upd (upd h f<|.own x) x<|.ins C f []) (λv o=>v=.non/\Q (.ref x) o) E
def Binds(K:ZV)(g:FuncData)(ps:Ye)(ds:Yd):Prop:=
 ∀(s:Shared) (f:Yd),K.In s.heap->(f++ds).length=ps.length->BindsTo s g ⟨f,[]⟩ (ps.zip (f++ds))
def Binds.all {K g ps} (h:∀us,us.length=ps.length->bindArgs g ⟨us,[]⟩=pure (ps.zip us)):Binds K g ps []:=λs us _ f=>by
 rw[QA]at f ⊢;exact .of_eq (h us f)
def PQ(CX:CXT)(X:Cx)(E:XK):Prop:=∀(pins:ZY) (g:St) (H:Hp) (s:Shared) (e:Value) (f:Shared),Inv X pins g H s->CX X.stack H s E e f->X.xe e f
section
variable {X:Cx}{CX:CXT}{k:Nat}{f C:Addr}{fd:FuncData}{ps:Ye}{sp:Sp}{dvs:List V}{ds:Yd}{E:XK}{x m:Str}{p pos apos:Pos}{e o:Expr}{es:Yf}{ta:TE}{t:TA}
def Dy{g:St}{H}{s}{Q}{us}{vs}(F:Pj X.prog X.w X.K X.mg X.base CX k f fd ps sp)(v:XC k X.A)(B:Binds X.K fd ps ds)(z:Vals dvs ds)(hx:PQ CX X E)(I:Inv X pins g H s)(r:Vals vs us)(h:sp (vs++dvs) H Q E):wpAny (model X.prog X.w) X.A (call (.ref f) us) (EP X pins g Q) X.xe s:=by
 have l:=r.append z;have y:(us++ds).length=ps.length:=by rw[←l.length];exact F.len _ _ _ _ h
 refine wpAny_call (VH (F.run X.A X.stack s H ⟨us,[]⟩ (us++ds) (vs++dvs) Q E v I.env0 (B s us I.kIn y) l h) λr n hq=>?_);cases r with
 |error e=>exact hx pins g H s e n I hq
 |ok G=>
  cases G with
  |ret u=>exact I.after hq
  |cont=>exact False.elim hq
  |_=>trivial
def Zf5(F:Pj X.prog X.w X.K X.mg X.base CX k f fd ps sp)(v:XC k X.A)(B:Gl X x)(y:X.mg x=some (.ref f))(z:PySem.W.keepIn X.K (.ref f)=true)(L:Binds X.K fd ps ds)(J:Vals dvs ds)(hx:PQ CX X E)(M:PA X (e::es) t)(l:autoParam ((x==("__debug__" : Str))=false) au_1)(G:autoParam (starEach (e::es) X.env=(false,eval e X.env)::starEach es X.env) au_0)(g:autoParam ((backTo pos<|starEach es X.env).any (·.1)=false) au_0) :
  PE X (.Call (.Name x p) (e::es) [] pos) (NX sp dvs E t):=by
 intro pins s u H Q I h;refine Js (A8 I B y ?_ l);refine Ub I.ok.mod.kin z (thn (M pos pins s u H _ I h) ?_) G g;rintro T U ⟨N,Y,n,r,q⟩;refine⟨n.kIn,?_⟩;exact Dy F v L J hx n r q
def Zoh{pl}(U:PE X o ta)(c:Cls X.K C)(z:Kc X.K C m f)(F:Pj X.prog X.w X.K X.mg X.base CX k f fd ps sp)(T:XC k X.A)(hb:Binds X.K fd ps ds)(Y:Vals dvs ds)(hx:PQ CX X E)(ha:PA X (e::es) t)(g:autoParam (starEach (e::es) X.env=(false,eval e X.env)::starEach es X.env) au_0)(n:autoParam ((backTo pos<|starEach es X.env).any (·.1)=false) au_0)
  (N:autoParam (eval (.Call (.Attribute o m apos) (e::es) [] pos) X.env=(do
   let y ←eval o X.env
   standAt apos.atName
   let (f,first) ←holding [y] (getMethod y m pl)
   callWith pos f first (backTo pos<|starEach (e::es) X.env) (backToKw pos<|keywordEach [] X.env))) au_0) :
  PE X (.Call (.Attribute o m apos) (e::es) [] pos) (NR C m sp dvs E ta t):=by
 intro pins s v H Q I h;refine JG (thn (U pins s v H _ I h) ?_) N;rintro u J ⟨x,H1,G,L,a,dx,fs,ex,ea,l,q⟩;subst ex;obtain rfl:=L;refine D5 G ea c z l ?_;refine Ub I.ok.mod.kin z.kp (thn (ha pos pins J v H1 _ G q) ?_) g n;rintro us s2 ⟨vs,H2,B,r,M⟩;refine⟨B.kIn,?_⟩;exact Dy (vs:=.ref a::vs) F T hb Y hx B (.cons rfl r) M
def Zfa(G:PE X o ta)(c:Cls X.K C)(r:Kc X.K C m f)(F:Pj X.prog X.w X.K X.mg X.base CX k f fd ps sp)(B:XC k X.A)(L:Binds X.K fd ps ds)(J:Vals dvs ds)(hx:PQ CX X E)
  (z:autoParam (eval (.Call (.Attribute o m apos) [] [] pos) X.env=(do
   let n ←eval o X.env
   standAt apos.atName
   let (f,first) ←holding [n] (getMethod n m U)
   callWith pos f first (backTo pos<|starEach [] X.env) (backToKw pos<|keywordEach [] X.env))) au_0) :
  PE X (.Call (.Attribute o m apos) [] [] pos) (NR C m sp dvs E ta P7):=by
 intro pins s v H Q I h;refine JG (thn (G pins s v H _ I h) ?_) z;rintro u T ⟨x,H1,g,y,a,Y,fs,M,N,l,q⟩;subst M;obtain rfl:=y;refine D5 g N c r l ?_;exact PySem.W.callWith_K0 g.kIn r.kp (Dy (vs:=[.ref a]) F B L J hx g (.cons rfl .nil) q)
structure Mk (K:ZV) (C f:Addr):Prop where
 makes:PySem.W.makesIn K C=true
 init:PySem.W.findIn K (.ref C) "__init__"=some (some<|.ref f)
 fn:PySem.W.isFn K (.ref f)=true
 kp:PySem.W.keepIn K (.ref C)=true
def Zq2{y:St}{H}{s}{Q}{us}{vs}(M:Mk X.K C f)(F:Pj X.prog X.w X.K X.mg X.base CX k f fd ps sp)(L:XC (k+1) X.A)(U:Binds X.K fd ps ds)(T:Vals dvs ds)(hx:PQ CX X E)(I:Inv X pins y H s)(r:Vals vs us)(h:∀x l,H x=none->H l=none->l≠x->sp (.ref x::(vs++dvs)) (upd (upd H l<|.own x) x<|.ins C l []) (λv H2=>v=.non/\Q (.ref x) H2) E) :
  wpAny (model X.prog X.w) X.A (call (.ref C) us) (EP X pins y Q) X.xe s:=by
 have hq:=h (s.heap.objs.size+1) s.heap.objs.size (I.hok.fresh<|VA _) (I.hok.fresh<|WS _) (Qj<|V8 _);have n:=Inv.made (C:=C) I;have z:Vals (V.ref (s.heap.objs.size+1)::(vs++dvs)) (Value.ref (s.heap.objs.size+1)::(us++ds)):=.cons rfl (r.append T)
 have N:(Value.ref (s.heap.objs.size+1)::us++ds).length=ps.length:=by
  have e:=z.length;rw[F.len _ _ _ _ hq]at e
  grind
 refine wpAny_call (Zto I.kIn M.makes M.init (beq_iff_eq.mp M.fn) (VH (F.run _ X.stack _ _ ⟨Value.ref (s.heap.objs.size+1)::us,[]⟩ (Value.ref (s.heap.objs.size+1)::(us++ds)) _ _ E (L.make C us [])
  (n.env0.make C us []) (U _ (Value.ref (s.heap.objs.size+1)::us) n.kIn N) z hq) λr B g=>?_))
 cases r with
 |error e=>exact hx pins y _ _ e B n g
 |ok Y=>
  cases Y with
  |ret u=>
   obtain⟨v,H',I3,G,ev,J⟩:=n.after g;subst ev;exact⟨G,⟨V.ref (s.heap.objs.size+1),H',I3,rfl,J⟩⟩
  |_=>exact False.elim g
def Zh3(M:Mk X.K C f)(F:Pj X.prog X.w X.K X.mg X.base CX k f fd ps sp)(v:XC (k+1) X.A)(z:Gl X x)(y:X.mg x=some (.ref C))(J:Binds X.K fd ps ds)(G:Vals dvs ds)(hx:PQ CX X E)(L:PA X (e::es) t)(l:autoParam ((x==("__debug__" : Str))=false) au_1)(B:autoParam (starEach (e::es) X.env=(false,eval e X.env)::starEach es X.env) au_0)(g:autoParam ((backTo pos<|starEach es X.env).any (·.1)=false) au_0) :
  PE X (.Call (.Name x p) (e::es) [] pos) (G3 C sp dvs E t):=by
 intro pins s u H Q I h;refine Js (A8 I z y ?_ l);refine Ub I.ok.mod.kin M.kp (thn (L pos pins s u H _ I h) ?_) B g;rintro T U ⟨N,Y,n,r,q⟩;refine⟨n.kIn,?_⟩;exact Zq2 M F v J G hx n r q
end
structure Xz (N P:Ye) (sc:Scope):Prop where
 kind:sc.kind=.function
 co:sc.isCoroutine=false
 gen:sc.isGenerator=false
 nd:N.Nodup
 pre:N.take P.length=P
 par:∀x∈P,sc.names.lookup x=some .local\/sc.names.lookup x=some .cell
 nofree:∀y∈sc.names,y.2≠.free
theorem Zas{kindOf x}:∀{binds}{m:ZZ},(∀v,(x,v)∉binds)->bindL kindOf binds m x=m x
 |[],_,_=>rfl
 |(n,v)::r,m,h=>by
  unfold bindL;rw[Zas λw hw=>h w (Qs _ hw)];split
  ·grind
  ·rfl
theorem Ih{kindOf x}:∀{binds}{m:ZZ},(∀v,(x,v)∉binds)->bindC kindOf binds m x=m x
 |[],_,_=>rfl
 |(n,v)::r,m,h=>by
  unfold bindC;rw[Ih λw hw=>h w (Qs _ hw)];split
  ·rfl
  ·grind
theorem Ic{kindOf}{x}{v}:∀{P:Ye}{vs}{i:Nat}{m:ZZ},P.Nodup->P[i]?=some x->vs[i]?=some v->kindOf x=some .local->
  bindL kindOf (P.zip vs) m x=some v
 |[],_,_,_,_,h,_,_|_::_,[],_,_,_,_,h,_=>by simp at h
 |p::P,w::vs,0,m,f,n,l,g=>by
  simp at n l;subst n;subst l;show bindL kindOf ((p,w)::P.zip vs) m p=_;unfold bindL;rw[Zas λv o=>(Q3.mp f).1 (List.of_mem_zip o).1,WQ g];simp
 |p::P,w::vs,i+1,m,f,n,l,g=>by
  unfold bindL;exact Ic (Q3.mp f).2 (by trivial) (by grind) g
theorem Hm{kindOf}{x}{v}:∀{P:Ye}{vs}{i:Nat}{m:ZZ},P.Nodup->P[i]?=some x->vs[i]?=some v->kindOf x≠some .local->
  bindC kindOf (P.zip vs) m x=some v
 |[],_,_,_,_,h,_,_|_::_,[],_,_,_,_,h,_=>by simp at h
 |p::P,w::vs,0,m,f,n,l,g=>by
  simp at n l;subst n;subst l;show bindC kindOf ((p,w)::P.zip vs) m p=_;unfold bindC;rw[Ih λv o=>(Q3.mp f).1 (List.of_mem_zip o).1,WN g];simp
 |p::P,w::vs,i+1,m,f,n,l,g=>by
  unfold bindC;exact Hm (Q3.mp f).2 (by trivial) (by grind) g
noncomputable def start(N:Ye)(vs:List V):St:=vs.map some++List.replicate (N.length-vs.length) none
noncomputable def Ks(CX:CXT)(P:Program)(w:World)(K:ZV)(mg:ZZ)(base:Heap)(N:Ye)(qual:Str)(scope:Scope)(f:Addr)(cd:Value)(A:Around)(outer:List Env)(s:Shared)(H:Hp)(E:XK):Cx where
 prog:=P
 w:=w
 K:=K
 mg:=mg
 base:=base
 A:=A.deeper (envOfC qual scope s.heap.objs.size f cd)
 N:=N
 s₀:=s
 H₀:=H
 env:=envOfC qual scope s.heap.objs.size f cd
 outer:=outer
 stack:=envOfC qual scope s.heap.objs.size f cd::outer
 ex:=[]
 calm:=true
 fn:=λ_=>true
 pn:=[]
 xe:=λe s'=>wpAny (model P w) (A.deeper<|envOfC qual scope s.heap.objs.size f cd) (leaving (envOfC qual scope s.heap.objs.size f cd) e) (λ_ s''=>CX outer H s E e s'') (λe' s''=>CX outer H s E e' s'') s'
def OC{f:Scope}{n}{x}(h:f.names.lookup x=some .cell):∃c,(cellsFrom n f.names []).lookup x=some c:=by
 exact Option.isSome_iff_exists.mp (PySem.W.cellsFrom_some f.names n []<|.inl h)
def Zh1{P}{w}{K}{mg}{base}{N ps}{qual}{scope}{f}{cd}{A}{outer}{s L}{H}{E}{us}{vs}(S:Xz N ps scope)(Y:A.handled=none)(l:Sd P w K mg base A outer s H)(hl:vs.length=ps.length)(r:Vals vs us)(x:InCallC s s.heap.objs.size (bindL (envOfC qual scope s.heap.objs.size f cd).kindOf (ps.zip us) λ_=>none) (cellsFrom (s.heap.objs.size+1) scope.names []) (bindC (envOfC qual scope s.heap.objs.size f cd).kindOf (ps.zip us) λ_=>none) L) :
  Inv (Ks CX P w K mg base N qual scope f cd A outer s H E) [] (start N vs) H L:=by
 have U:ps.length<=N.length:=by have:=QB List.length S.pre;rw[Qo]at this;lia
 obtain⟨J,tk,rfl,Q⟩:=x.done;have n:∀b,b∉(Ks CX P w K mg base N qual scope f cd A outer s H E).ex:=λb z=>absurd (show b∈([]:List Addr)from z) (by simp)
 refine⟨⟨l.mod,S.kind,rfl,rfl,WS _,λy z c J g=>?_,λy o=>?_,λy c _ h=>?_,λ_=>Y,Around.frames_deeper l.frames,.inr ⟨rfl,rfl⟩,λb z=>absurd z (n b),l.bs,l.bsz,λb _ _=>n b,λb z=>absurd z (n b),l.funs,l.frf⟩,
  rfl,l.bare,Un.kept Q,⟨_,x.toInCall.ns,λi y v J g h3=>?_⟩,λy c h=>⟨_,x.cell y c h⟩,l.hok.fresh (WS _),λy c h=>?_,λp C=>absurd (show p∈([]:ZY)from C) (by simp),l.hok.kept Q,?_⟩
 ·exact name_of_addr x.apart (V5 J) (V5 g)
 ·have o:=o;rcases o with o|o
  ·exact OC o
  ·exact absurd rfl (S.nofree _<|V5 o)
 ·exact Jf (x.above y c<|V5 h)
 ·have G:i<vs.length:=by
   unfold start at g;by_cases G:i<vs.length
   ·exact G
   ·rw[Qr (by simpa using G)]at g;rw[V2]at g;split at g<;>cases g
  have ha:vs[i]?=some v:=by
   unfold start at g;rw[Qv (by simpa using G),WV]at g;cases e:vs[i]? with
   |none=>rw[e]at g;cases g
   |some a=>rw[e]at g;cases g;rfl
  obtain⟨u,M,T⟩:=r.get ha
  have C:ps[i]?=some y:=by
   rw[←S.pre,Vs (by lia)];exact J
  have B:ps.Nodup:=by rw[←S.pre];exact S.nd.sublist (J4 _ _)
  refine⟨u,T,?_⟩;rcases S.par y (Qk C)with k|k
  ·exact .inl ⟨k,Ic B C M k⟩
  ·obtain⟨c,e⟩:=OC k;refine .inr ⟨.inl k,c,e,?_⟩;have q:=x.cell y c e;rw[Hm B C M (by show scope.names.lookup y≠_;rw[k];decide)]at q;exact q
 ·exact l.hok.fresh (Jf<|x.above y c<|V5 h)
 ·unfold start;show _=N.length;rw[WT,WH,List.length_replicate];lia
def Gj{K L base k f name qual params body scope dV kV G pm g ct oc an od U N ps sp}(lk:K.lookup f=some ⟨oc,od,.func (PySem.W.fnOf name qual params body scope dV kV G pm an g ct),U⟩)(hcd:PySem.W.codeIn K g qual=true)(S:Xz N ps scope)(len:∀vs H Q E,sp vs H Q E->vs.length=ps.length)
  (p:∀A outer s H vs Q E,XC k (A.deeper<|envOfC qual scope s.heap.objs.size f g)->sp vs H Q E->
   ∃t,PSs (Ks CX P w K L base N qual scope f g A outer s H E) body t/\t {nx:=λ_ H'=>Q .non H',rt:=Q} (start N vs) H) :
  Pj P w K L base CX (k+1) f (PySem.W.fnOf name qual params body scope dV kV G pm an g ct) ps sp:=by
 refine⟨len,λA outer s H args us vs Q E Y C hb r z=>?_⟩;have KX:=C.mod.kin.keeps λb o e=>(C.bs b o e).1
 have l:∀y∈ps.zip us,scope.names.lookup y.1=some .local\/(scope.names.lookup y.1=some .cell/\((cellsFrom (s.heap.objs.size+1) scope.names []).lookup y.1).isSome=true):=λ⟨n,v⟩ hy=>by
  rcases S.par n (List.of_mem_zip hy).1 with q|q
  ·exact .inl q
  ·exact .inr ⟨q,PySem.W.cellsFrom_some _ _ _ (.inl q)⟩
 refine codeAny_call_function Y.depth (KX _ _ lk) rfl S.co S.gen rfl (PySem.W.codeRec_of KX hcd) (hb _ _ _ _ ?_);refine wpAny_newFunctionEnv_cells S.kind l λenv he s1 x=>?_;subst he;refine⟨(C.mod.nolimit.keeps λb o e=>(C.bs b o e).1).keeps x.toInCall.keep,codeAny_func ?_⟩;obtain⟨t,ht,hq⟩:=p A outer s H vs Q E (Y.deeper _) z;have I:Inv (Ks CX P w K L base N qual scope f g A outer s H E) [] (start N vs) H s1:=Zh1 S Y.hd C (len _ _ _ _ z) r x;refine QH (ht [] s1 (start N vs) H _ I hq) (λfl M B=>?_) λe M B=>B
 have fin:∀{h:St} {H':Hp} {v:V} {u:Value},Inv (Ks CX P w K L base N qual scope f g A outer s H E) [] h H' M->RelV v u->Q v H'->CE outer P w H s Q u M:=
  λ{h H' v u} J T q=>⟨v,H',J.os,J.bare,J.base,J.hok,T,q⟩
 cases fl with
 |ret u=>
  obtain⟨v,h,H',J,T,q⟩:=B;exact fin J T q
 |next=>
  obtain⟨h,H',J,q⟩:=B;exact fin (v:=V.non) J rfl q
 |_=>
  obtain⟨_,_,_,q⟩:=B;exact False.elim q
section
variable {X:Cx}{x:Str}{p pos:Pos}{e:Expr}{es:Yf}{t:TA}{id T:String}{r:List V->Hp->VK->Prop}
noncomputable def tCB(r:List V->Hp->VK->Prop)(t:TA):TE:=λf H Q=>t f H λg h=>r g h Q
def K0(E:Kx X (.builtin id) r)(B:Gl X x)(A:X.mg x=none)(y:bootBuiltins x=some (.builtin id))(G:PA X (e::es) t)(z:autoParam (x≠"__name__") au_1)(g:autoParam ((x==("__debug__" : Str))=false) au_1)(C:autoParam (starEach (e::es) X.env=(false,eval e X.env)::starEach es X.env) au_0)(f:autoParam ((backTo pos<|starEach es X.env).any (·.1)=false) au_0):PE X (.Call (.Name x p) (e::es) [] pos) (tCB r t):=by
 intro pins s l H Q I h;refine Js (SO I B A y ?_ z g);exact PyProof.Rows.callWith_builtin1 (thn (G pos pins s l H _ I h) λo u ⟨n,L,J,v,w⟩=>E pins u l L n o Q J v w) C f
def KN(E:Kx X (.type T) r)(B:Gl X x)(A:X.mg x=none)(y:bootBuiltins x=some (.type T))(G:PA X (e::es) t)(z:autoParam (x≠"__name__") au_1)(g:autoParam ((x==("__debug__" : Str))=false) au_1)(C:autoParam (starEach (e::es) X.env=(false,eval e X.env)::starEach es X.env) au_0)(f:autoParam ((backTo pos<|starEach es X.env).any (·.1)=false) au_0):PE X (.Call (.Name x p) (e::es) [] pos) (tCB r t):=by
 intro pins s l H Q I h;refine Js (SO I B A y ?_ z g);exact VB (thn (G pos pins s l H _ I h) λo u ⟨n,L,J,v,w⟩=>E pins u l L n o Q J v w) C f
end
end L2
namespace HT
open PySem PyProof.Rows
section
variable {prog:Program}{w:World}{A:Around}{E:Ya}{s:Shared}
def Zpd(C:IsTup s.heap t vs.toArray)(G:IsTup s.heap b g.toArray)(v:vs≠[])(H:g=[]->Q (.ref t) s)(J:g≠[]->Q (.ref s.heap.objs.size) {s with heap:=s.heap.push {cls:=.type "tuple",data:=.seq (vs++g).toArray}})(hsz:vs.length+g.length<=sizeLine):wpAny (model prog w) A (binaryOp .Add (.ref t)<|.ref b) Q E s:=by
 obtain⟨⟨cls,z,data,sl⟩,r,y,n,x⟩:=id C;obtain⟨⟨B,p,data2,h⟩,f,o,u,l⟩:=id G;simp only at y x o l;subst y x o l;by_cases hw:g=[]
 ·exact concat_meets ⟨_,r,rfl⟩ ⟨_,f,rfl⟩ noFill_tuple_add seq_tuple_add J8 J0 (Jt _ _)
   (tuple_addW1 t b vs.toArray g.toArray n u z p sl h (by simpa using v)<|by simp[hw]) ⟨r,f,H hw⟩
 ·refine concat_meets ⟨_,r,rfl⟩ ⟨_,f,rfl⟩ noFill_tuple_add seq_tuple_add J8 J0 (Jt _ _)
   (tuple_addW2 t b vs.toArray g.toArray n u z p sl h (by simpa using v) (by simpa using hw)<|by omega) ⟨r,f,?_⟩
  grind
noncomputable def sIx(n d:Nat):Option Int->Nat
 |none=>d
 |some v=>if v<0 then(v+(n:Int)).toNat else min v.toNat n
def Zbt(n d:Nat):sIx n d none=d:=rfl
def Bp(n d k:Nat):sIx n d (some (k:Int))=min k n:=rfl
def Zvr(n d:Nat)(g:d<=n)(o:Option Int):sIx n d o<=n:=by
 cases o with
 |none=>trivial
 |some v=>
  show(if v<0 then(v+(n:Int)).toNat else min v.toNat n)<=n;by_cases f:v<0
  ·grind
  ·grind
def Ru(v:Int)(n d:Nat):(if v<0 then max (v+(n:Int)) 0 else min v (n:Int))=((sIx n d (some v):Nat):Int):=by
 show(if v<0 then max (v+(n:Int)) 0 else min v (n:Int))=(((if v<0 then(v+(n:Int)).toNat else min v.toNat n):Nat):Int);by_cases f:v<0
 ·grind
 ·grind
def Zse(lo f:Option Int)(n:Nat):Builtin.Slice.sliceAdjust lo f 1 (n:Int)=(((sIx n 0 lo:Nat):Int),((sIx n n f:Nat):Int)):=by
 refine Prod.ext ?_ ?_
 ·cases lo with
  |none=>rfl
  |some v=>exact Ru v n 0
 ·cases f with
  |none=>rfl
  |some v=>exact Ru v n n
def Ztv(i j:Nat):Builtin.Slice.slicePlaces (i:Int) (j:Int) 1=j-i:=by
 unfold Builtin.Slice.slicePlaces;lia
def Rl(p:IsPart v o)(h:Q o s):wpAny (model prog w) A (Builtin.Slice.slicePartIndex v) Q E s:=by
 cases p with
 |none=>exact slicePart_none h
 |int i t=>exact slicePart_int h
def Zoe{lo g n}{Q:Int×Int×Nat->Shared->Prop}(v:s.heap.IsSliceOf sl p o .none)(u:IsPart p lo)(r:IsPart o g)(h:Q (((sIx n 0 lo:Nat):Int),1,sIx n n g-sIx n 0 lo) s):wpAny (model prog w) A (Builtin.Slice.sliceApplied (.ref sl)<|pure (n:Int)) Q E s:=by
 obtain⟨os,f,y,l⟩:=id v;refine WG (WG<|Vj f l (x:=p) rfl<|WG<|Vj f l (x:=o) rfl<|WG<|Vj f l (x:=.none) rfl<|WJ ?_);refine WG (slicePart_none ?_);refine WG (Rl u<|WG<|Rl r<|WG<|WJ ?_);show wpAny _ _ (match Builtin.Slice.sliceAdjust lo g 1 (n:Int)with|(lo,g)=>pure (lo,(1:Int),Builtin.Slice.slicePlaces lo g 1)) _ _ s
 rw[Zse lo g n];show wpAny _ _ (pure (((sIx n 0 lo:Nat):Int),(1:Int),Builtin.Slice.slicePlaces ((sIx n 0 lo:Nat):Int) ((sIx n n g:Nat):Int) 1)) _ _ s;rw[Ztv];exact WJ h
def Zik(xs:Yj)(i k:Nat):((List.range k).filterMap λ(m:Nat)=>xs[((i:Int)+(m:Int)*1).toNat]?).toArray=((xs.toList.drop i).take k).toArray:=by
 have e:(λ(m:Nat)=>xs[((i:Int)+(m:Int)*1).toNat]?)=λm=>xs[i+m]?:=by grind
 have:=pick_run xs i k
 have f:((λx=>xs[x]?)∘λx=>i+x)=λm=>xs[i+m]?:=rfl
 grind
def Zd5{items v u lo g Q}(l:IsTup s.heap t items)(x:s.heap.IsSliceOf sl v u .none)(z:IsPart v lo)(y:IsPart u g)(hw:¬(sIx items.size 0 lo=0/\sIx items.size items.size g=items.size))(h:Q (.ref s.heap.objs.size) {s with heap:=s.heap.push {cls:=.type "tuple",data:=.seq ((items.toList.drop<|sIx items.size 0 lo).take (sIx items.size items.size g-sIx items.size 0 lo)).toArray}})(hsz:items.size<=sizeLine):wpAny (model prog w) A (getItem (.ref t)<|.ref sl) Q E s:=by
 have f:sizeOk (.seq ((items.toList.drop<|sIx items.size 0 lo).take (sIx items.size items.size g-sIx items.size 0 lo)).toArray):=by
  show((items.toList.drop<|sIx items.size 0 lo).take (sIx items.size items.size g-sIx items.size 0 lo)).toArray.size<=sizeLine;rw[Qn,Qo,List.length_drop,Q8];lia
 obtain⟨os,n,p,B⟩:=id x;have r:s.TypeIs (.ref sl) "slice":=⟨os,n,p⟩;unfold getItem
 try with_reducible refine QZ ?_
 refine WG (wpAny_sequenceKey l.typeIs (by decide) ?_)
 refine WG (Vh l.typeIs JL
  (QE JL l.typeIs entry_tuple_getitem ?_<|args_tuple_getitem _ _))
 show wpAny _ _ (Builtin.Tuple.tupleItemsOf (.ref t) >>= _) _ _ s;refine WG (tupleItemsOf_ l ?_);refine WG (JP r ?_);refine WG (Zoe x z y ?_)
 have o:¬((((sIx items.size 0 lo:Nat):Int)==0&&(1:Int)==1&&(sIx items.size items.size g-sIx items.size 0 lo)==items.size)=true):=by
  intro q;rw[Qz,Qz]at q;have G:=eq_of_beq q.1.1;have C:=eq_of_beq q.2;exact hw ⟨by lia,by lia⟩
 show wpAny _ _ (if (((sIx items.size 0 lo:Nat):Int)==0&&(1:Int)==1&&(sIx items.size items.size g-sIx items.size 0 lo)==items.size)=true then _ else _) _ _ s;rw[WN o,Zik]
 first
  |exact WG (Qq (WJ ⟨_,rfl,WJ h⟩) f)
  |exact WG (Qq (WG<|WJ<|WJ ⟨_,rfl,WJ h⟩) f)
  |exact WG (WG<|Qq (WJ<|WJ ⟨_,rfl,WJ h⟩) f)
  |exact WG (WG<|Qq (WJ ⟨_,rfl,WJ h⟩) f)
end
end HT
namespace L2
open PySem PySem.Spec PyProof.Rows
abbrev TO:=St->Hp->(Option Int->Hp->Prop)->Prop
def PO(X:Cx)(e:Option Expr)(t:TO):Prop:=
 ∀(pins:ZY) (s:Shared) (f:St) (H:Hp) (Q:Option Int->Hp->Prop),Inv X pins f H s->t f H Q->
  wpAny (model X.prog X.w) X.A (evalPart e X.env) (λu h=>∃o g,Inv X pins f g h/\IsPart u o/\Q o g) X.xe s
noncomputable def Lq:TO:=λ_ H Q=>Q none H
noncomputable def Zan(t:TE):TO:=λf H Q=>t f H λx g=>∃i,x=.int i/\Q (some i) g
def F9:∀{us:Yd},Vals (ns.map V.int) us->IntsAre us ns:=by
 induction ns with
 |nil=>intro us r;rw[List.map_nil]at r;cases r;exact .nil
 |cons n ns h=>
  intro us r;cases r with
  |cons g f=>
   obtain⟨t,e⟩:=g;subst e;exact .cons n t (h f)
section
variable {X:Cx}{e:Expr}{te:TE}{lo hi:Option Expr}{tl th:TO}{pos p2:Pos}
def DF:PO X none Lq:=by
 intro pins s f H Q I h;exact WJ ⟨none,H,I,.none,h⟩
def Fq(h:PE X e te):PO X (some e) (Zan te):=by
 intro pins s f H Q I hw;refine thn (h pins s f H _ I hw) ?_;rintro u p ⟨x,o,n,g,l⟩;obtain⟨i,rfl,q⟩:=l;obtain⟨t,rfl⟩:=g;exact⟨some i,o,n,.int i t,q⟩
def SlR(X:Cx)(r:V->Option Int->Option Int->Hp->VK->Prop):Prop:=
 ∀(pins:ZY) (s:Shared) (f:St) (H:Hp) (x:V) (v h g:Value) (lo hi:Option Int) (sl:Addr) (Q:VK),Inv X pins f H s->RelV x v->s.heap.IsSliceOf sl h g .none->IsPart h lo->IsPart g hi->r x lo hi H Q->
  ∃T id,typeLookup (.type T) "__getitem__"=pure (some<|.builtin id)/\s.TypeIs v T/\wpAny (model X.prog X.w) X.A (getItem v<|.ref sl) (EP X pins f Q) X.xe s
noncomputable def tSl(r:V->Option Int->Option Int->Hp->VK->Prop)(te:TE)(tl th:TO):TE:=λf H Q=>te f H λx n=>tl f n λl h=>th f h λu g=>r x l u g Q
def AO(M:SlR X r)(Y:PE X e te)(N:PO X lo tl)(J:PO X hi th):PE X (.Subscript e (.Slice lo hi none p2) pos) (tSl r te tl th):=by
 intro pins s f H Q I h;refine Subscript_ (thn (Y pins s f H _ I h) ?_);rintro v y ⟨x,H1,I1,z,C⟩;refine wpAny_Slice (thn (N pins y f H1 _ I1 C) ?_);rintro o w ⟨l,H2,I2,G,B⟩;refine thn (J pins w f H2 _ I2 B) ?_;rintro n g ⟨u,p,I3,E,A⟩;refine WJ ?_;have I4:Inv X pins f p {g with heap:=g.heap.push {cls:=.type "slice",data:=.fields #[o,n,.none]}}:=I3.kept λb ob q=>WM _ q
 obtain⟨T,id,hT,L,U⟩:=M pins {g with heap:=g.heap.push {cls:=.type "slice",data:=.fields #[o,n,.none]}} f p x v o n l u g.heap.objs.size Q I4 z (Heap.IsSliceOf.new ..) G E A
 exact tail_any L hT U rfl
noncomputable def N6(xs:List V)(lo hi:Option Int):List V:=(xs.drop<|HT.sIx xs.length 0 lo).take (HT.sIx xs.length xs.length hi-HT.sIx xs.length 0 lo)
def Me(xs:List V)(lo hi:Option Int):(N6 xs lo hi).length<=xs.length:=by
 unfold N6
 grind
def Ce(K:ZV):V->Option Int->Option Int->Hp->VK->Prop:=λx lo hi H Q=>∃a xs,x=.ref a/\SqT K H a xs/\
 ¬(HT.sIx xs.length 0 lo=0/\HT.sIx xs.length xs.length hi=xs.length)/\∀p,H p=none->Q (.ref p) (upd H p<|.tup<|N6 xs lo hi)
def Zl7:SlR X (Ce X.K):=by
 intro pins s y H x v A z lo hi sl Q I n w p o h;obtain⟨a,xs,rfl,hx,hw,q⟩:=h;cases n
 obtain⟨g,r,l,u⟩:=I.tuple hx;have f:g.toArray.size=xs.length:=by rw[Qn];exact r.length.symm
 refine⟨"tuple",_,PyProof.Rows.slot_tuple_getitem.lookup,l.typeIs,?_⟩;refine HT.Zd5 l w p o (by grind) ?_ (by lia);rw[f];refine⟨.ref s.heap.objs.size,_,I.laid (λb B q=>WM _ q) (WS _) ?_,rfl,q _ (I.hok.fresh<|WS _)⟩;exact⟨WW (Me xs lo hi) u,_,(r.drop<|HT.sIx xs.length 0 lo).take (HT.sIx xs.length xs.length hi-HT.sIx xs.length 0 lo),IsTup.new _ _⟩
noncomputable def Zlj(K:ZV):R2:=λx y H Q=>∃a b xs f,x=.ref a/\y=.ref b/\SqT K H a xs/\SqT K H b f/\xs≠[]/\xs.length+f.length<=sizeLine/\
 (f=[]->Q (.ref a) H)/\(f≠[]->∀p,H p=none->Q (.ref p) (upd H p<|.tup (xs++f)))
def Vals.nil_iff (r:Vals xs us):us=[]↔xs=[]:=by
 cases r with
 |_=>simp
def Zud:OpR X (binaryOp .Add) (Zlj X.K):=by
 intro pins s J H x y v u Q I p o h;obtain⟨a,b,xs,L,rfl,rfl,G,E,hx,n,A,r⟩:=h;cases p
 cases o
 obtain⟨C,g,B,_⟩:=I.tuple G;obtain⟨l,f,p2,_⟩:=I.tuple E;refine HT.Zpd B p2 (λz=>hx (g.nil_iff.mp z)) (λz=>⟨.ref a,H,I,rfl,A (f.nil_iff.mp z)⟩) (λz=>?_) (by rw[←g.length,←f.length];exact n);refine⟨.ref s.heap.objs.size,_,I.laid (λb M q=>WM _ q) (WS _) ?_,rfl,r (λw=>z (f.nil_iff.mpr w)) _ (I.hok.fresh<|WS _)⟩;exact⟨by rw[WT];exact n,_,g.append f,IsTup.new _ _⟩
end
noncomputable def ixN(n:Nat)(i:Int):Option Nat:=if 0<=i then(if i<n then some i.toNat else none)else if -(n:Int)<=i then some (i+n).toNat else none
noncomputable def atI{f:Type}(xs:List f)(i:Int):Option f:=(ixN xs.length i).bind λj=>xs[j]?
def M8(h:ixN n i=some j):seqIndex? i n=some j/\j<n/\-(n:Int)<=i/\i<n:=by
 unfold ixN at h;by_cases g:0<=i
 ·rw[WQ g]at h;by_cases f:i<n
  ·rw[WQ f]at h;have e:=Qb h;exact⟨by rw[seqIndex_of g f,e],by lia,by lia,f⟩
  ·grind
 ·rw[WN g]at h;by_cases f:-(n:Int)<=i
  ·rw[WQ f]at h;have e:=Qb h;exact⟨by rw[seqIndex_neg (by lia) f,e],by lia,f,by lia⟩
  ·grind
def OQ(h:atI xs i=some v):∃j,seqIndex? i xs.length=some j/\xs[j]?=some v/\j<xs.length/\-(xs.length:Int)<=i/\i<xs.length:=by
 unfold atI at h;cases e:ixN xs.length i with
 |none=>grind
 |some j=>
  obtain⟨n,l,g,f⟩:=M8 e
  grind
def TM{j:Nat}{v}(h:xs[j]?=some v):atI xs (j:Int)=some v:=by
 have e:ixN xs.length (j:Int)=some j:=by
  unfold ixN
  grind
 unfold atI;rw[e];exact h
def EW(b:Expr):Prop:=∀o i,subscripted b false o i=operate [o,i] (getItem o i)
def IxR(X:Cx)(r:R2):Prop:=
 ∀(value slice:Expr) (pins:ZY) (s:Shared) (f:St) (H:Hp) (x y:V) (v u:Value) (Q:VK),Inv X pins f H s->RelV x v->RelV y u->r x y H Q->
  subscripted slice false v u=operate [v,u] (getItem v u)->wpAny (model X.prog X.w) X.A (subscriptTail value slice v u) (EP X pins f Q) X.xe s
def MtR(X:Cx)(id:String)(r:V->List V->Hp->VK->Prop):Prop:=
 ∀(pins:ZY) (s:Shared) (f:St) (H:Hp) (x:V) (xs:List V) (v:Value) (g:Yd) (Q:VK),Inv X pins f H s->RelV x v->Vals xs g->r x xs H Q->
  wpAny (model X.prog X.w) X.A (call (.builtin id) (v::g)) (EP X pins f Q) X.xe s
section
variable {X:Cx}{a b:Expr}{ta tb:TE}{pos:Pos}
def IxR.or (h:IxR X r) (h':IxR X o):IxR X (λx y H Q=>r x y H Q\/o x y H Q):=by
 intro value slice pins s f H x y v u Q I l g q n;rcases q with q|q
 ·exact h value slice pins s f H x y v u Q I l g q n
 ·exact h' value slice pins s f H x y v u Q I l g q n
def Zcl(p:IxR X r)(z:PE X a ta)(w:PE X b tb)(o:EW b):PE X (.Subscript a b pos) (tOp r ta tb):=by
 intro pins s f H Q I h;exact Subscript_ (Dq z w I h λv u g x y B A n l q=>p a b pins g f B x y v u Q A n l q (o _ _))
noncomputable def Fp(K:ZV):R2:=λx y H Q=>∃p xs i v,x=.ref p/\y=.int i/\SqL K H p xs/\atI xs i=some v/\Q v H
noncomputable def Fh(K:ZV):R2:=λx y H Q=>∃p xs i v,x=.ref p/\y=.int i/\SqT K H p xs/\atI xs i=some v/\Q v H
def ix_list:IxR X (Fp X.K):=by
 intro value slice pins s E H x y v u Q I J G h A;obtain⟨p,xs,i,z,rfl,rfl,hq,M,q⟩:=h;cases J
 obtain⟨t,rfl⟩:=G;obtain⟨n,r,l,Y⟩:=I.list hq;obtain⟨j,f,U,h3,T,N⟩:=OQ M;obtain⟨w,C,g⟩:=r.get U;have L:=r.length;have hn:=Aa;have fin:EP X pins E Q w s:=⟨z,H,I,g,q⟩;by_cases B:0<=i
 ·have o:i.toNat=j:=by
   rw[seqIndex_of B N]at f;exact Qb f
  exact item_listR l.isList B (by lia) (by rw[o];simpa using C) fin A
 ·have o:(i+(n.toArray.size:Int)).toNat=j:=by
   rw[seqIndex_neg (by lia) T]at f;rw[Qn,←L];exact Qb f
  exact subscriptTail_builtinR l.isList.typeIs slot_list_getitem.lookup
   (wpAny_getItem_list_neg l.isList (by lia) (by rw[Qn]<;>lia) (by lia) (by rw[o];simpa using C) ⟨rfl,fin⟩) A
def Zdc:IxR X (Fh X.K):=by
 intro value slice pins s l H x y v u Q I o n h B;obtain⟨p,xs,i,z,rfl,rfl,hq,C,q⟩:=h;cases o
 obtain⟨t,rfl⟩:=n;obtain⟨A,r,g,J⟩:=I.tuple hq;obtain⟨j,G,E,T,N,M⟩:=OQ C;obtain⟨w,U,f⟩:=r.get E;have L:=Aa;have fin:EP X pins l Q w s:=⟨z,H,I,f,q⟩
 exact subscriptTail_builtinR g.typeIs slot_tuple_getitem.lookup
  (getItem_tuple g (by lia) (by lia) (by rw[Qn,←r.length];exact G) (by grind) ⟨rfl,fin⟩) B
def Ze3(f:Yd)(n j:Nat)(u:Value):Obj.mapSeq (·.setIfInBounds j u) {cls:=.type "list",data:=.seq f.toArray n}={cls:=.type "list",data:=.seq (f.set j u).toArray n}:=by
 simp[Obj.mapSeq]
def Inv.lst {g:St}{H}{s}{p}{xs} (I:Inv X pins g H s) (h:H p=some (.lst xs)) :
  ∃f n,Vals xs f/\s.heap.get? p=some {cls:=.type "list",data:=.seq f.toArray n}/\xs.length<=sizeLine:=by
 obtain⟨z,f,n,r,e⟩:=I.hok p _ h
 grind
def Inv.lstUpd {v:St}{H}{s}{p}{xs ys}{l g:Yd}{n o}{f} (I:Inv X pins v H s) (h:H p=some (.lst xs))
  (y:s.heap.get? p=some {cls:=.type "list",data:=.seq l.toArray n}) (w:f {cls:=.type "list",data:=.seq l.toArray n}={cls:=.type "list",data:=.seq g.toArray o}) (r:Vals ys g) (x:ys.length<=sizeLine) (t:Nat) :
  Inv X pins v (upd H p<|.lst ys) {s with heap:=s.heap.update p f,toks:=t}:=by
 have e:(s.heap.update p f).get? p=some {cls:=.type "list",data:=.seq g.toArray o}:=by
  rw[QC f y (by rw[w]<;>rfl),w]
 refine I.write (by rw[h];trivial) (.inl rfl) (λb u z q=>(QG _ _<|Ne.symm z).trans q) ⟨_,e⟩ ?_;exact⟨x,g,o,r,e⟩
def Zae:V->V->V->Hp->(Hp->Prop)->Prop:=λo i v H Q=>∃p xs k j,o=.ref p/\i=.int k/\H p=some (.lst xs)/\ixN xs.length k=some j/\Q (upd H p<|.lst<|xs.set j v)
def Zk6:Lc X Zae:=by
 intro pins s M H o i v N T u Q I G ri E h;obtain⟨p,xs,k,j,rfl,rfl,y,L,q⟩:=h;cases G
 obtain⟨t,rfl⟩:=ri;obtain⟨f,n,r,l,J⟩:=I.lst y;obtain⟨g,Y,A,z⟩:=M8 L;have w:=r.length;have U:=Aa
 have C:=
  I.lstUpd y l (Ze3 f n j u) (r.set E j) (by rw[QN];exact J) s.toks
 by_cases B:0<=k
 ·have x:k.toNat=j:=by
   rw[seqIndex_of B z]at g;exact Qb g
  exact PySem.W.ki_setAt l B (by lia) (by rw[Qn,←w];exact z) (by rw[x];exact⟨_,C,q⟩)
 ·have x:(k+(f.toArray.size:Int)).toNat=j:=by
   rw[seqIndex_neg (by lia) A]at g;rw[Qn,←w];exact Qb g
  exact PySem.W.ki_setBack l (by lia) (by rw[Qn,←w];exact A) (by lia) (by rw[x];exact⟨_,C,q⟩)
def Zl5(lo f:Option Int)(n:Nat):(sliceBounds lo f none n).1=((HT.sIx n 0 lo:Nat):Int)/\(sliceBounds lo f none n).2.1=((HT.sIx n n f:Nat):Int)/\(sliceBounds lo f none n).2.2=1:=by
 refine⟨?_,?_,rfl⟩
 ·cases lo with
  |none=>simp[sliceBounds,HT.sIx]
  |some i=>
   simp only[sliceBounds,HT.sIx,Option.getD_none,show(1:Int)>0 by decide,if_true];by_cases h:i<0
   ·grind
   ·simp only[h,Jl]<;>lia
 ·cases f with
  |none=>simp[sliceBounds,HT.sIx]
  |some i=>
   simp only[sliceBounds,HT.sIx,Option.getD_none,show(1:Int)>0 by decide,if_true];by_cases h:i<0
   ·simp only[h,if_true]<;>lia
   ·simp only[h,Jl]<;>lia
def Zq1(f:Yd)(lo g:Option Int):slicePick f.toArray lo g none=((f.drop<|HT.sIx f.length 0 lo).take (HT.sIx f.length f.length g-HT.sIx f.length 0 lo)).toArray:=by
 obtain⟨n,l,h⟩:=Zl5 lo g f.toArray.size;unfold slicePick;rw[n,l,h];simp only[sliceRange_one,pick_run,Qn]<;>rfl
def AZ(K:ZV):V->Option Int->Option Int->Hp->VK->Prop:=λx lo f H Q=>∃a xs,x=.ref a/\SqL K H a xs/\∀p,H p=none->Q (.ref p) (upd H p<|.lst<|N6 xs lo f)
def Zki:SlR X (AZ X.K):=by
 intro pins s z H x v B A lo l sl Q I n y p o h;obtain⟨a,xs,rfl,hx,q⟩:=h;cases n
 obtain⟨u,r,g,w⟩:=I.list hx;have f:=r.length;refine⟨"list",_,slot_list_getitem.lookup,g.isList.typeIs,?_⟩;refine wpAny_getItem_list_slice g.isList y p o .none (by simp) ?_ (by grind);rw[Zq1,←f];refine⟨.ref s.heap.objs.size,_,I.laid (λb C q=>WM _ q) (WS _) ?_,rfl,q _ (I.hok.fresh<|WS _)⟩;exact⟨WW (Me xs lo l) w,_,0,(r.drop<|HT.sIx xs.length 0 lo).take (HT.sIx xs.length xs.length l-HT.sIx xs.length 0 lo),WU _ rfl⟩
noncomputable def Px:V->Bool
 | .non=>true
 | .bl _=>true
 | .int _=>true
 | .str _=>true
 |_=>false
noncomputable def eqV:V->V->Bool
 | .non,.non=>true
 | .bl a,.bl b=>a==b
 | .bl a,.int b=>(if a then 1 else 0)==b
 | .int a,.bl b=>a==(if b then 1 else 0)
 | .int a,.int b=>a==b
 | .str a,.str b=>a==b
 |_,_=>false
def IM{y x u v}(h:RelV y u)(f:RelV x v)(fy:Px y=true)(l:Px x=true):SeqAt.EqAt A s u v (eqV y x):=by
 cases y with
 |non=>
  cases h
  cases x with
  |non=>cases f;exact SeqAt.EqAt.same _
  |bl b=>cases f;exact SeqAt.EqAt.none_bool b
  |int b=>obtain⟨t,rfl⟩:=f;exact SeqAt.EqAt.none_int b t
  |str b=>obtain⟨t,rfl⟩:=f;exact SeqAt.EqAt.none_str b t
  |_=>exact absurd l Qe
 |bl a=>
  cases h
  cases x with
  |non=>cases f;exact SeqAt.EqAt.bool_none a
  |bl b=>cases f;exact SeqAt.EqAt.bool_bool a b
  |int b=>obtain⟨t,rfl⟩:=f;exact SeqAt.EqAt.bool_int a b t
  |str b=>obtain⟨t,rfl⟩:=f;exact SeqAt.EqAt.bool_str a b t
  |_=>exact absurd l Qe
 |int a=>
  obtain⟨g,rfl⟩:=h;cases x with
  |non=>cases f;exact SeqAt.EqAt.int_none a g
  |bl b=>cases f;exact SeqAt.EqAt.int_bool a g b
  |int b=>obtain⟨t,rfl⟩:=f;exact SeqAt.EqAt.int_int a g b t
  |str b=>obtain⟨t,rfl⟩:=f;exact SeqAt.EqAt.int_str a g b t
  |_=>exact absurd l Qe
 |str a=>
  obtain⟨g,rfl⟩:=h;cases x with
  |non=>cases f;exact SeqAt.EqAt.str_none a g
  |bl b=>cases f;exact SeqAt.EqAt.str_bool a g b
  |int b=>obtain⟨t,rfl⟩:=f;exact SeqAt.EqAt.str_int a g b t
  |str b=>obtain⟨t,rfl⟩:=f;exact SeqAt.EqAt.str_str a g b t
  |_=>exact absurd l Qe
 |_=>exact absurd fy Qe
noncomputable def eqU(x:V)(u:Value):Bool:=match u with
 | .none=>eqV .non x
 | .bool b=>eqV (.bl b) x
 | .int i _=>eqV (.int i) x
 | .str z _=>eqV (.str z) x
 |_=>false
def LB{x y u}(r:RelV y u)(f:Px y=true):eqU x u=eqV y x:=by
 cases y with
 |non|bl b=>cases r;rfl
 |int i|str z=>obtain⟨t,rfl⟩:=r;rfl
 |_=>trivial
theorem Fi:∀{xs}{us:Yd},Vals xs us->xs.all Px=true->us.any (eqU x)=xs.any λy=>eqV y x
 |_,_,.nil,_=>rfl
 |y::xs,u::us,.cons r t,f=>by
  rw[JC,Qz]at f;rw[Jo,Jo,LB r f.1,Fi t f.2]
theorem BN{x v}(h:RelV x v)(l:Px x=true):∀{xs}{us:Yd},Vals xs us->xs.all Px=true->∀u∈us,SeqAt.EqAt A s u v (eqU x u)
 |_,_,.nil,_=>λu g=>by cases g
 |y::xs,u::us,.cons r t,f=>λn g=>by
  rw[JC,Qz]at f;rcases WZ.mp g with rfl|g
  ·rw[LB r f.1];exact IM r h f.1 l
  ·exact BN h l t f.2 n g
noncomputable def inV(x:V)(xs:List V):Bool:=xs.any λy=>eqV y x
noncomputable def rIn(K:ZV)(neg:Bool):R2:=λx y H Q=>∃p xs,y=.ref p/\(SqL K H p xs\/SqT K H p xs)/\Px x=true/\xs.all Px=true/\Q (.bl (if neg then !inV x xs else inV x xs)) H
def Zva:OpR X (compareOp .In) (rIn X.K false):=by
 intro pins s A H x y v u Q I l o h;obtain⟨p,xs,rfl,hq,n,fs,q⟩:=h;cases o
 rcases hq with hq|hq
 ·obtain⟨f,r,g,z⟩:=I.list hq;refine SeqAt.in_listAt (eqU x) g.isList (λw hw=>BN l n r fs w (by grind)) ⟨.bl _,H,I,rfl,?_⟩;rwa[show f.toArray.any (eqU x)=f.any (eqU x) by simp,Fi r fs]
 ·obtain⟨f,r,g,z⟩:=I.tuple hq;refine SeqAt.in_tupleAt (eqU x) g (λw hw=>BN l n r fs w (by simpa using hw)) ⟨.bl _,H,I,rfl,?_⟩;rwa[show f.toArray.any (eqU x)=f.any (eqU x) by simp,Fi r fs]
def Zuf:OpR X (compareOp .NotIn) (rIn X.K true):=by
 intro pins s A H x y v u Q I l o h;obtain⟨p,xs,rfl,hq,n,fs,q⟩:=h;cases o
 rcases hq with hq|hq
 ·obtain⟨f,r,g,z⟩:=I.list hq;refine SeqAt.notIn_listAt (eqU x) g.isList (λw hw=>BN l n r fs w (by grind)) ⟨.bl _,H,I,rfl,?_⟩;rwa[show f.toArray.any (eqU x)=f.any (eqU x) by simp,Fi r fs]
 ·obtain⟨f,r,g,z⟩:=I.tuple hq;refine SeqAt.notIn_tupleAt (eqU x) g (λw hw=>BN l n r fs w (by grind)) ⟨.bl _,H,I,rfl,?_⟩;rwa[show f.toArray.any (eqU x)=f.any (eqU x) by simp,Fi r fs]
def Zos:Kx X (.type "list") (λxs H Q=>∃p ys,xs=[.ref p]/\(SqL X.K H p ys\/SqT X.K H p ys)/\∀l,H l=none->Q (.ref l) (upd H l<|.lst ys)):=by
 intro pins s L H xs N Q I r h;obtain⟨p,ys,rfl,hq,q⟩:=h;obtain⟨u,rfl,M⟩:=vals1 r;cases M
 have fin:∀f,Vals ys f->ys.length<=sizeLine->∀g x,(∀b J,s.heap.get? b=some J->g.get? b=some J)->
   g.get? s.heap.objs.size=some {cls:=.type "list",dict:=none,data:=.seq f.toArray x,slots:=#[]}->EP X pins L Q (.ref s.heap.objs.size) {s with heap:=g}:=λf v z g x y e=>
  ⟨.ref s.heap.objs.size,_,I.laid y (WS _) (show ObjOk X.prog X.w _ g _ (.lst ys)from⟨z,f,x,v,e⟩),rfl,q _ (I.hok.fresh<|WS _)⟩
 rcases hq with hq|hq
 ·obtain⟨f,v,B,z⟩:=I.list hq;have A:=v.length;obtain⟨o,C,G,n,E⟩:=B.isList;exact call_list_seq p (.inl rfl) C G E (λg x y e=>fin f v z g x y e) (by grind)
 ·obtain⟨f,v,B,z⟩:=I.tuple hq;have A:=v.length;obtain⟨o,C,G,n,E⟩:=B;exact call_list_seq p (.inr rfl) C G E (λg x y e=>fin f v z g x y e) (by simp only[Qn]<;>lia)
def Zri:Kx X (.type "tuple") (λxs H Q=>∃p ys,xs=[.ref p]/\((SqL X.K H p ys/\∀l,H l=none->Q (.ref l) (upd H l<|.tup ys))\/(SqT X.K H p ys/\Q (.ref p) H))):=by
 intro pins s w H xs E Q I r h;obtain⟨p,ys,rfl,h⟩:=h;obtain⟨u,rfl,A⟩:=vals1 r;cases A
 rcases h with⟨hq,q⟩|⟨hq,q⟩
 ·obtain⟨f,n,v,x⟩:=I.list hq;have y:=n.length;refine call_tuple_list v.isList (λg B=>?_) (by grind);have z:Inv X pins w H {s with heap:=g}:=I.kept B
  have C:Inv X pins w (upd H g.objs.size<|.tup ys) {s with heap:=g.push {cls:=.type "tuple",data:=.seq f.toArray}}:=
   z.laid (λb o e=>WM _ e) (WS _) (⟨x,f,n,IsTup.new _ _⟩)
  exact⟨.ref g.objs.size,_,C,rfl,q _ (z.hok.fresh<|WS _)⟩
 ·obtain⟨f,n,v,x⟩:=I.tuple hq;exact call_tuple_same v ⟨.ref p,H,I,rfl,q⟩
def tyV(K:ZV)(T:String)(x:V)(H:Hp):Prop:=match x with
 | .str _=>T = "str"
 | .int _=>T = "int"
 | .ref p=>(T = "list"/\∃xs,SqL K H p xs)\/(T = "tuple"/\∃o,K.lookup p=some o/\o.cls=.type "tuple"/\o.dict=none)\/
   (T = "dict"/\((∃f,H p=some (.dK f))\/∃f,H p=some (.dT f)))\/(T = "set"/\∃S n,H p=some (.set S n))
 |_=>False
def Zaf{A:St}{H}{s}{T}{x}{v}(I:Inv X pins A H s)(r:RelV x v)(h:tyV X.K T x H) :
  s.TypeIs v T/\∀a,v=.ref a->∃ob,s.heap.get? a=some ob/\ob.dict=none:=by
 cases x with
 |str z=>
  obtain⟨t,rfl⟩:=r;cases h
  exact⟨typeIs_str s z t,λ_ e=>nomatch e⟩
 |int i=>
  obtain⟨t,rfl⟩:=r;cases h
  exact⟨typeIs_int s i t,λ_ e=>nomatch e⟩
 |ref p=>
  cases r
  rcases h with⟨rfl,xs,hq⟩|⟨rfl,o,f,C,u⟩|⟨rfl,f⟩|⟨rfl,S,n,f⟩
  ·obtain⟨B,_,y,_⟩:=I.list hq;refine⟨y.isList.typeIs,λa e=>?_⟩;cases e
   obtain⟨o,n,e,c,u,_⟩:=y;exact⟨o,e,u⟩
  ·refine⟨⟨o,I.kIn p o f,C⟩,λa e=>?_⟩;cases e
   exact⟨o,I.kIn _ o f,u⟩
  ·have z:∃o,s.heap.get? p=some o/\o.ExactDict:=by
    rcases f with⟨l,f⟩|⟨l,f⟩
    ·obtain⟨_,_,_,_,o,_,_,e,g,_⟩:=I.hok p _ f;exact⟨o,e,g⟩
    ·obtain⟨_,_,_,_,o,_,_,e,g,_⟩:=I.hok p _ f;exact⟨o,e,g⟩
   obtain⟨o,e,g⟩:=z;refine⟨⟨o,e,g.1⟩,λa w=>?_⟩;cases w
   exact⟨o,e,g.2.1⟩
  ·obtain⟨o,_,_,_,e,g,_⟩:=I.hok p _ f;refine⟨⟨o,e,g.1⟩,λa w=>?_⟩;cases w
   exact⟨o,e,g.2.1⟩
 |_=>exact False.elim h
noncomputable def BO(K:ZV)(T:String)(r:V->List V->Hp->VK->Prop)(h:TE):TE:=λg H Q=>h g H λx f=>tyV K T x f/\r x [] f Q
noncomputable def tBM(K:ZV)(T:String)(r:V->List V->Hp->VK->Prop)(h:TE)(t:TA):TE:=λf H Q=>h f H λx g=>tyV K T x g/\t f g λxs l=>r x xs l Q
variable {o e:Expr}{es:Yf}{to:TE}{t:TA}{name:Str}{apos cpos:Pos}{T id:String}{r:V->List V->Hp->VK->Prop}
def Fj(A:PlainAttrs T)(slot:Slot T name id)(l:typeOf (.builtin id)=pure (.type "method_descriptor"))(C:MtR X id r)(B:PE X o to)(g:autoParam (attributeBase o name X.env (eval o X.env)=eval o X.env) au_0)(f:autoParam ((apos.endLine==cpos.line)=true) au_0):PE X (.Call (.Attribute o name apos) [] [] cpos) (BO X.K T r to):=by
 intro pins s n H Q I h;refine wpAny_Call_method0_late g f (thn (B pins s n H _ I h) ?_);rintro v y ⟨x,J,u,p,w,z⟩;obtain⟨G,E⟩:=Zaf u p w;exact⟨T,id,A,slot,l,G,E,Calls.callWith_builtin rfl (PySem.evalArgs_none<|C pins y n J x [] v [] Q u p .nil z)⟩
def FV(N:PlainAttrs T)(slot:Slot T name id)(u:typeOf (.builtin id)=pure (.type "method_descriptor"))(hm:MtR X id r)(Y:PE X o to)(ha:PA X (e::es) t)(g:autoParam (attributeBase o name X.env (eval o X.env)=eval o X.env) au_0)
  (l:autoParam (((backTo cpos<|starEach (e::es) X.env).all (λx=>!x.1)&&(backToKw cpos<|keywordEach [] X.env).all (λx=>x.1.isSome)
   && decide ((e::es).length+([]:List Keyword).length+(if ([]:List Keyword).isEmpty then 0 else 1)<30))=true) au_0)
  (f:autoParam ((apos.endLine==cpos.line)=true) au_0) (U:autoParam (starEach (e::es) X.env=(false,eval e X.env)::starEach es X.env) au_0) (n:autoParam ((backTo cpos<|starEach es X.env).any (·.1)=false) au_0) :
  PE X (.Call (.Attribute o name apos) (e::es) [] cpos) (tBM X.K T r to t):=by
 intro pins s p H Q I h;refine wpAny_Call_method_late g l f rfl (thn (Y pins s p H _ I h) λv G ⟨x,H1,z,w,C,M⟩=>?_);obtain⟨h1,h2⟩:=Zaf z w C;refine⟨T,id,N,slot,u,h1,h2,?_⟩;have y:=ha cpos pins G p H1 _ z M;rw[U]at y ⊢;refine Calls.callWith_builtin (by grind) (Calls.evalArgs_plain ?_);exact thn y λB E ⟨A,H2,I2,J,L⟩=>hm pins E p H2 x A v B Q I2 w J L
end
def MtM(X:Cx)(id:String)(r:V->List V->Hp->VK->Prop):Prop:=
 ∀(pins:ZY) (s:Shared) (f:St) (H:Hp) (x:V) (xs:List V) (v:Value) (g:Yd) (Q:VK),Inv X pins f H s->RelV x v->Vals xs g->r x xs H Q->
  wpAny (model X.prog X.w) X.A (call (.builtin id) (v::g)) (EP X pins f Q) X.xe s
def Vals.one:∀{x}{us:Yd},Vals [x] us->∃u,us=[u]/\RelV x u:=by
 intro _ _ h;cases h with
 |cons r t=>
  cases t
  exact⟨_,rfl,r⟩
def Vals.zero:∀{us:Yd},Vals [] us->us=[]
 |_,.nil=>rfl
def Vals.dropLast (h:Vals xs us):Vals xs.dropLast us.dropLast:=by
 induction h with
 |nil=>exact .nil
 |cons r t f=>
  cases t with
  |nil=>grind
  |cons q g=>exact .cons r f
def Zvo{f:Type}(l:List f):l.eraseIdx (l.length-1)=l.dropLast:=by simp
section
variable {X:Cx}{pins:ZY}{σ:St}{H:Hp}{s:Shared}{l b:Addr}{xs ys zs:List V}
def Inv.lset {h g:Yd}{n}{f}{t'} (I:Inv X pins σ H s) (x:H l=some (.lst xs))
  (e:s.heap.get? l=some {cls:=.type "list",data:=.seq h.toArray n}) (v:f h.toArray=g.toArray) (p:Vals ys g) (o:ys.length<=sizeLine) :
  Inv X pins σ (upd H l<|.lst ys) {s with heap:=s.heap.update l (Obj.mapSeq f),toks:=t'}:=by
 have q:=PySem.IsL.update e f;rw[v]at q;refine I.write (by rw[x];exact trivial) (.inl rfl) (λy u w r=>(QG s.heap (Obj.mapSeq f)<|Ne.symm w).trans r) ⟨_,q⟩ ?_;exact⟨o,g,_,p,q⟩
def Inv.lnew (I:Inv X pins σ H s) (h:Vals ys f) (g:ys.length<=sizeLine) :
  Inv X pins σ (upd H s.heap.objs.size<|.lst ys) {s with heap:=s.heap.push {cls:=.type "list",data:=.seq f.toArray},toks:=t'}:=
 I.laid (λ_ _ q=>WM _ q) (WS _) ⟨g,f,0,h,WU _ rfl⟩
def Inv.fresh (I:Inv X pins σ H s):H s.heap.objs.size=none:=I.hok.fresh (WS _)
def Inv.lstM (I:Inv X pins σ H s) (g:H l=some (.lst xs)):xs.length<=sizeLine/\∃f n,Vals xs f/\xs.length=f.length/\s.heap.get? l=some {cls:=.type "list",data:=.seq f.toArray n}:=by
 obtain⟨z,f,n,r,e⟩:=I.hok l _ g;exact⟨z,f,n,r,r.length,e⟩
end
section
variable {X:Cx}
def Di:V->List V->Hp->VK->Prop:=λx f H Q=>∃l xs y,x=.ref l/\f=[y]/\H l=some (.lst xs)/\xs.length<sizeLine/\Q .non (upd H l<|.lst (xs++[y]))
def Fl:MtM X "list.append" Di:=by
 intro pins s A H x B v C Q I o p h;obtain⟨l,xs,y,rfl,rfl,g,E,q⟩:=h;cases o
 obtain⟨u,rfl,w⟩:=p.one;obtain⟨z,f,n,r,G,e⟩:=I.lstM g;refine call_meets F.slot_list_append ⟨_,e,rfl⟩ F.entry_list_append (F.args_list_append_2 _ _) (PySem.list_append l f.toArray n u<|by grind) ⟨e,?_⟩;refine⟨.non,_,I.lset g e (by simp) (r.append<|.cons w .nil) ?_,rfl,q⟩
 grind
def G8:V->List V->Hp->VK->Prop:=λx f H Q=>∃l xs y,x=.ref l/\f=[]/\H l=some (.lst xs)/\xs[xs.length-1]?=some y/\Q y (upd H l<|.lst xs.dropLast)
def A5:MtM X "list.pop" G8:=by
 intro pins s E H x G v J Q I w A h;obtain⟨l,xs,y,rfl,rfl,p,C,q⟩:=h;cases w
 have o:=A.zero;subst o;obtain⟨z,f,n,r,M,e⟩:=I.lstM p;obtain⟨u,L,B⟩:=r.get C;have g:f.toArray[f.toArray.size-1]?=some u:=by grind
 refine call_meets F.slot_list_pop ⟨_,e,rfl⟩ F.entry_list_pop (F.args_list_pop_1 _) (MeetsSeq.list_pop_last l f.toArray n u g<|by rw[Qn];lia) ⟨e,?_⟩;refine⟨y,_,I.lset p e ?_ r.dropLast ?_,B,q⟩
 ·simp
 ·grind
noncomputable def RT:R2:=λx y H Q=>∃l b xs f,x=.ref l/\y=.ref b/\H l=some (.lst xs)/\H b=some (.lst f)/\xs.length+f.length<=sizeLine/\∀p,H p=none->Q (.ref p) (upd H p<|.lst (xs++f))
def Pd:OpR X (binaryOp .Add) RT:=by
 intro pins s J H x y v u Q I p o h;obtain⟨l,b,xs,L,rfl,rfl,B,C,T,q⟩:=h;cases p
 cases o
 obtain⟨z,g,n,r,U,e⟩:=I.lstM B;obtain⟨M,f,N,w,A,G⟩:=I.lstM C;refine PySem.P.add_list e G ?_ (by grind);have E:g.toArray++f.toArray=(g++f).toArray:=by simp
 rw[E];exact⟨.ref _,_,I.lnew (r.append w) (by grind),rfl,q _ I.fresh⟩
end
end L2
namespace Att
open PySem PySem.W PySem.Calls PyProof.Rows
def Zr2:∀ns vs,WellAll P h vs (ns.map WData.int)->IntsAre vs ns:=by
 intro ns
 induction ns with
 |nil=>
  intro vs w;cases w
  exact .nil
 |cons n ns f=>
  intro vs w;cases w with
  |cons a b=>
   cases a
   exact .cons _ _ (f _ b)
def Zf4{l:OpenLaw}{n}(y:l.most=some n){P}{h}{args}{vals}(f:l.row.toRowW.claim.pre args=true)(p:WellAll P h vals args) :
  ∃a vs ns,vals=[Value.ref a]/\args=[WData.list (ns.map WData.int)]/\h.get? a=some {cls:=.type "list",data:=.seq vs.toArray}/\IntsAre vs ns/\ns.length<=n:=by
 have s:WShape.hasAll [] args [.list .int]=true:=(pre_splitW f).1;have z:l.pre.holds [] {args:=args}=true:=(pre_splitW f).2;obtain⟨d,r,rfl,C,B⟩:=hasAllW_cons s;obtain rfl:=hasAllW_nil B;obtain⟨xs,rfl,A⟩:=hasW_list C;obtain⟨ns,rfl⟩:=items_int A
 have g:ns.length<=n:=by
  have u:(WTm.not<|.lt (.lit<|.int (n:Int))<|.len<|.arg 0).holds [] {args:=[.list (ns.map .int)]}=true:=by
   have u:=(holds_andW z).1;rw[y]at u;lia
  have E:=condW_of u (w_not<|w_lt w_lit<|w_len_list<|w_arg rfl);simp_all
 cases p with
 |cons w v=>
  cases v
  cases w with
  |list x o=>exact⟨_,_,ns,rfl,rfl,x,Zr2 ns _ o,g⟩
def Zvg(l:OpenLaw)(args:List WData):l.row.toRowW.claim.post args (.bool true) args=true:=
 postW_of
  rfl
  (w_eq_bool (w_res rfl) w_lit) rfl
def Zs7{l:OpenLaw}{n}{q}{loose}{XP}{YP}{d}(T:l.most=some n)(H:d.params.defaults=[])
  (call:∀w s₀ g z B x o A cd p a vs ns,
   Ground q loose [] XP w s₀ z B g.heap->YP w g.heap->
   g.heap.get? x=some o->o.data=.func (docDef d.name d.params d.body d.scope A cd p)->g.heap.CodeRec cd d.name->z d.name=some (.ref x)->
   g.heap.get? a=some {cls:=.type "list",data:=.seq vs.toArray}->IntsAre vs ns->ns.length<=n->g.gens=#[]->
   codeAny (model l.prog w) callerA (.call (.ref x) ⟨[.ref a],[]⟩) (λr y=>r=.ok (.ret<|.bool true)/\OldK g.heap y.heap/\y.os=g.os/\AllBare y.gens) g) :
  WalkO q loose XP YP l.row.toRowW d [] (λf vs=>PySem.call f vs):=by
 intro w s₀ g z B G Y x o A cd p dV kV Q hd J M E hg args vals as s L N C hlo;obtain rfl:=Dflts.none M H;obtain rfl:=Dflts.noKw M;obtain⟨a,vs,ns,rfl,rfl,u,h,v⟩:=Zf4 T s C;refine enter_call (VH (call w s₀ g z B x o A cd p a vs ns G Y Q (fd_plain hd) J E u h v hg) λr y hq=>?_);obtain⟨rfl,h2,h3,h4⟩:=hq;exact⟨.inl ⟨.bool true,.bool true,[],rfl,λ_=>rfl,.bool true,Zvg l _,λ_=>⟨List.Pairwise.nil,λ_ U=>(nomatch U)⟩⟩,h2,h3,h4⟩
end Att
namespace L2
open PySem PySem.Spec PyProof.Rows
theorem BF:∀{vs}{ns:ZX},IntsAre vs ns->Vals (ns.map V.int) vs
 |_,_,.nil=>.nil
 |_,_,.cons n t h=>.cons ⟨t,rfl⟩ (BF h)
def FK(H:Hp):Prop:=∀b,H b=none\/∃o xs,H b=some (.frz o<|.lst xs)
def Zu4{K B U CX k fa a fd x sp f vs ns}(KX:K.In f.heap)(G:f.heap.Ns mainGlobals B)(g:f.heap.Ns builtinsNs U)(hbb:∀x:Str,x≠"__name__"->U x=bootBuiltins x)(J:f.heap.NoLimit)(hg:f.gens=#[])(M:f.heap.get? a=some {cls:=.type "list",data:=.seq vs.toArray})(hi:IntsAre vs ns)(hl:ns.length<=sizeLine)(hr:XC k callerA)(F:∀base,K.In base->base.Ns mainGlobals B->Pj P w K B base CX k fa fd [x] sp)(y:∀s u,BindsTo s fd ⟨[u],[]⟩ [(x,u)])(Y:∀H,FK H->SqL K H a (ns.map V.int)->sp [.ref a] H (λv _=>v=.bl true) λ_ _ _=>False)(hCX:∀H e l,CX [] H f (λ_ _ _=>False) e l->False) :
  codeAny (model P w) callerA (.call (.ref fa) ⟨[.ref a],[]⟩) (λr l=>r=.ok (.ret<|.bool true)/\OldK f.heap l.heap/\l.os=f.os/\AllBare l.gens) f:=by
 have rv:=BF hi
 have core:∀H,FK H->SqL K H a (ns.map V.int)->HOk P w H f.heap->(∀b,H b≠none->b=a)->(H a≠none->K.lookup a=none)->
   codeAny (model P w) callerA (.call (.ref fa) ⟨[.ref a],[]⟩) (λr l=>r=.ok (.ret<|.bool true)/\OldK f.heap l.heap/\l.os=f.os/\AllBare l.gens) f:=by
  intro H hO hS E hA hK;have base_of:∀{b:Addr} {o:Obj},f.heap.get? b=some o->H b=none->(NM f.heap H).get? b=some o:=λe n=>Ztz e n
  have T:∀{b:Addr} {o:Obj} {N:Array DictEntry} {Q:Nat},f.heap.get? b=some o->o.data=.dict N Q->H b=none:=λ{b o N Q} e d=>by
   cases q:H b with
   |none=>rfl
   |some u=>
    have e':=hA b (by rw[q];simp);subst e';rw[M]at e;cases e;cases d
  have p:∀{b:Addr} {m:ZZ},f.heap.Ns b m->(NM f.heap H).Ns b m:=λ{b m} ⟨o,N,Q,e,d,r⟩=>⟨o,N,Q,base_of e (T e d),d,r⟩
  have L:=λb o e=>base_of (KX b o e) (by
   cases q:H b with
   |none=>rfl
   |some u=>
    have e':=hA b (by rw[q];simp);subst e';rw[hK (by rw[q];simp)]at e;cases e)
  have hM:Mod K B (NM f.heap H):=⟨L,p G,⟨U,p g,hbb⟩,let ⟨mc,h1,h2⟩:=J;⟨mc,p h1,h2⟩⟩;have e0:Sd P w K B (NM f.heap H) callerA [] f H:=⟨rfl,hM,λb o e=>Zh6 e,Vr (Zqk _ _),trivial,λb g=>absurd (show b∈([]:List Addr)from g) (by simp),E,.of_eq hg⟩
  refine VH ((F _ L<|p G).run callerA [] f H ⟨[.ref a],[]⟩ [.ref a] [.ref a] _ _ hr e0 (y f<|.ref a) (.cons rfl .nil) (Y H hO hS)) λr l h=>?_;cases r with
  |error e=>exact(hCX H e l h).elim
  |ok fl=>
   cases fl with
   |ret u=>
    obtain⟨v,H',os,bare,un,C,r',q⟩:=h;subst q;obtain rfl:=r';refine⟨rfl,OldK.of_keep λb o e=>?_,os,bare⟩;cases q:H b with
    |none=>exact un.keep b o e q (by intro z;exact absurd (show b∈([]:List Addr)from z) (by simp)) (by simp)
    |some u=>
     rcases hO b with z|⟨ob,xs,z⟩
     ·rw[q]at z;cases z
     ·have z2:=un.frzs b ob _ z;obtain⟨e1,_⟩:=E b _ z;obtain⟨e2,_⟩:=C b _ z2;rw[e]at e1;cases e1;exact e2
   |_=>exact False.elim h
 cases hk:K.lookup a with
 |some o=>
  have e:=KX a o hk;rw[M]at e;cases e
  refine core (λ_=>none) (λ_=>.inl rfl) (.inr ⟨_,vs.toArray,_,hk,rfl,rfl,rfl,by rw[Qn,hi.length];exact hl,by simpa using rv⟩) (λb u z=>by have A:=z;cases A) (λb z=>absurd rfl z) λz=>absurd rfl z
 |none=>
  refine core (λb=>if b=a then some (.frz {cls:=.type "list",data:=.seq vs.toArray} (.lst<|ns.map V.int))else none) (λb=>?_) (.inl<|.inr ⟨{cls:=.type "list",data:=.seq vs.toArray},WQ rfl⟩) (λb u z=>?_) (λb z=>?_) λ_=>hk
  ·by_cases g:b=a
   ·exact .inr ⟨_,_,WQ g⟩
   ·exact .inl (WN g)
  ·by_cases g:b=a
   ·have A:=(WQ g).symm.trans z;cases A
    subst g;exact⟨M,by rw[WH];exact hl,vs,_,rv,M⟩
   ·have A:=(WN g).symm.trans z;cases A
  ·by_cases g:b=a
   ·exact g
   ·exact absurd (WN g) z
def Ztr{l:PySem.W.OpenLaw}{n k}{q}{loose}{XP}{YP}{d}{K:Params->ZV}{CX:World->CXT}{sp:World->Sp}{x}(hn:l.most=some n)(J:n<=sizeLine)(M:d.params.defaults=[])(hr:XC k callerA)(hY:∀w h,YP w h->(K w.params).In h)
  (F:∀w y B h,(K w.params).In h->h.Ns mainGlobals y->y d.name=some (.ref B)->
   ∃Q,(∀s u,BindsTo s Q ⟨[u],[]⟩ [(x,u)])/\
    ∀base,(K w.params).In base->base.Ns mainGlobals y->Pj l.prog w (K w.params) y base (CX w) k B Q [x] (sp w))
  (E:∀w H a (ns:ZX),ns.length<=n->FK H->SqL (K w.params) H a (ns.map V.int)->sp w [.ref a] H (λv _=>v=.bl true) λ_ _ _=>False)
  (N:∀w H s e C,CX w [] H s (λ_ _ _=>False) e C->False) :
  PySem.W.WalkO q loose XP YP l.row.toRowW d [] (λf vs=>PySem.call f vs):=by
 refine Att.Zs7 hn M λw U z y mb B o pm cd doc a vs ns G Y ho hd hcd L A r p hg=>?_;have KX:=hY w _ Y;obtain⟨Q,hb,hF⟩:=F w y B _ KX G.T.g L;exact Zu4 KX G.T.g G.T.b G.T.builtins G.T.nolimit hg A r (WW p J) hr hF hb (λH hO hS=>E w H a ns p hO hS) λH e C=>N w H z e C
def Zkx{l:PySem.W.OpenLaw}{n k}{q}{loose}{XP}{YP}{d}{K:Params->ZV}{CX}{sp:ZV->Sp}{x}(E:l.most=some n)(r:n<=sizeLine)(y:d.params.defaults=[])(C:XC k callerA)(G:∀w h,YP w h->(K w.params).In h)
  (F:∀w g B h,(K w.params).In h->h.Ns mainGlobals g->g d.name=some (.ref B)->
   ∃A,(∀s u,BindsTo s A ⟨[u],[]⟩ [(x,u)])/\
    ∀base,(K w.params).In base->base.Ns mainGlobals g->Pj l.prog w (K w.params) g base CX k B A [x] (sp<|K w.params))
  (p:∀K H a (ns:ZX),ns.length<=n->FK H->SqL K H a (ns.map V.int)->sp K [.ref a] H (λv _=>v=.bl true) λ_ _ _=>False)
  (z:∀H s e o,CX [] H s (λ_ _ _=>False) e o->False) :
  PySem.W.WalkO q loose XP YP l.row.toRowW d [] (λf vs=>PySem.call f vs):=
 Ztr E r y C G F (λw H a ns M L J=>p (K w.params) H a ns M L J) λ_ H s e o=>z H s e o
noncomputable def inClass(s:Stmt)(j:Nat):Stmt:=match s with
 | .ClassDef _ _ _ body _ _ _ _ _ _ _=>body.getD j (.Pass ⟨0,0,0,0⟩)
 |_=>.Pass ⟨0,0,0,0⟩
noncomputable def Ta(s:Stmt):Arguments:=match s with
 | .FunctionDef _ a _ _ _ _ _ _ _ _=>a
 |_=>{posonlyargs:=[],args:=[],vararg:=none,kwonlyargs:=[],kw_defaults:=[],kwarg:=none,defaults:=[]}
noncomputable def Km(s:Stmt):Yg:=match s with
 | .FunctionDef _ _ b _ _ _ _ _ _ _=>b
 |_=>[]
noncomputable def Xy(s:Stmt):Scope:=match s with
 | .FunctionDef _ _ _ _ _ _ f _ _ _=>f
 |_=>{kind:=.function,names:=[],isGenerator:=false,isCoroutine:=false}
noncomputable abbrev CX0:CXT:=λ_ _ _ _ _ _=>False
noncomputable abbrev E0:XK:=λ_ _ _=>False
def K4:PQ CX0 X E0:=λ_ _ _ _ _ _ _ h=>h.elim
structure Fun (K:ZV) (x qual:Str) (st:Stmt) (f:Addr) (fd:FuncData):Prop where
 ex:∃(oc:Value) (od:Yi) (kV doc pm:Value) (an:Yi) (cdv ct:Value) (osl:Array (Yh)),
  fd=PySem.W.fnOf x qual (Ta st) (Km st) (Xy st) .none kV doc pm an cdv ct/\K.lookup f=some ⟨oc,od,.func fd,osl⟩/\PySem.W.codeIn K cdv qual=true
 kp:PySem.W.keepIn K (.ref f)=true
section
variable {P:Program}{w:World}{K:ZV}{mg:ZZ}{base:Heap}
def Fun.ok {st f p N ps k sp} (F:Fun K x qual st f p) (S:Xz N ps (Xy st)) (len:∀vs H Q E,sp vs H Q E->vs.length=ps.length)
  (l:∀g A outer s H vs Q E,XC k (A.deeper<|envOfC qual (Xy st) s.heap.objs.size f g)->sp vs H Q E->
   ∃t,PSs (Ks CX0 P w K mg base N qual (Xy st) f g A outer s H E).nox (Km st) t/\t {nx:=λ_ H'=>Q .non H',rt:=Q} (start N vs) H):Pj P w K mg base CX0 (k+1) f p ps sp:=by
 obtain⟨oc,B,kV,y,z,G,g,C,r,rfl,u,o⟩:=F.ex;refine Gj u o S len λA outer s H vs Q E v n=>?_;obtain⟨t,h,q⟩:=l g A outer s H vs Q E v n;exact⟨t,h.nox,q⟩
def Fun.binds {st f p ps} (F:Fun K x qual st f p)
  (h:∀kV g n o l ct us,us.length=ps.length->bindArgs (PySem.W.fnOf x qual (Ta st) (Km st) (Xy st) .none kV g n o l ct) ⟨us,[]⟩=pure (ps.zip us)):Binds K p ps []:=by
 obtain⟨oc,u,kV,g,n,o,l,ct,r,rfl,v,s⟩:=F.ex;exact .all (h kV g n o l ct)
def AB{st f oc r p n kV h o g ct}(l:K.lookup f=some ⟨oc,r,.func (PySem.W.fnOf x qual (Ta st) (Km st) (Xy st) .none kV h o p g ct),n⟩)(c:PySem.W.codeIn K g qual=true)(k:PySem.W.keepIn K (.ref f)=true):Fun K x qual st f (PySem.W.fnOf x qual (Ta st) (Km st) (Xy st) .none kV h o p g ct):=⟨⟨oc,r,kV,h,o,p,g,ct,n,rfl,l,c⟩,k⟩
end
def K7{k}(f:XC k A):A.units+1<cLine:=Uc (Nat.add_le_add_left (by simp) _) f.units
def Zf1(h:n<=1000):n<sizeLine:=Uc h (by decide)
section
variable {X:Cx}
def pv(i:Nat){x pos}(l:autoParam (X.N[i]?=some x) au_0)(g:autoParam (Vis X.env.scope x) au_4)(h:autoParam ((x==("__debug__" : Str))=false) au_1)(f:autoParam ((x==("__classdict__" : Str))=false) au_1):PE X (.Name x pos) (Pf i):=Zdw l g h f
end
def Ki{A B:Prop}(h:B):if false=true then A else B:=by grind
def Kz{A B:Prop}(h:A):if true=true then A else B:=by grind
def X1{c A B:Prop}[Decidable c](g:c->A)(f:¬c->B):if c then A else B:=by grind
def An{c A B:Prop}[Decidable c](f:c)(h:B):if (!decide c)=true then A else B:=by grind
def Same(H H':Hp):Prop:=∀b o,H b=some o->H' b=some o
def Same.refl (H:Hp):Same H H:=λ_ _ h=>h
def Same.trans (a:Same H g) (b:Same g f):Same H f:=λc o h=>b c o (a c o h)
def Same.free (e:Same H H') {l} (h:H' l=Option.none):H l=Option.none:=by
 cases q:H l with
 |none=>rfl
 |some o=>
  rw[e l o q]at h;lia
def Same.seq {K H H'}{a xs} (e:Same H H') (h:SqL K H a xs):SqL K H' a xs:=by
 rcases h with(h|⟨o,h⟩)|h
 ·exact .inl (.inl<|e _ _ h)
 ·exact .inl (.inr ⟨o,e _ _ h⟩)
 ·exact .inr h
end L2
set_option maxHeartbeats 4000000
namespace L2
open PySem PySem.Spec PyProof.Rows
section
variable {κ:Type} [DecidableEq κ]
noncomputable def XA(f:List (κ×V))(k:κ):Option V:=(f.find? λg=>decide (g.1=k)).map (·.2)
noncomputable def putK(f:List (κ×V))(k:κ)(v:V):List (κ×V):=
 if (f.any λg=>decide (g.1=k))=true then f.map (λg=>if g.1=k then(g.1,v)else g)else f++[(k,v)]
def Tq{p:κ×V}{r:List (κ×V)}{k:κ}(e:p.1=k):XA (p::r) k=some p.2:=by simp[XA,VS,e]
def To{p:κ×V}{r:List (κ×V)}{k:κ}(e:¬p.1=k):XA (p::r) k=XA r k:=by simp[XA,VS,e]
theorem BU(k:κ):∀f:List (κ×V),(f.any λg=>decide (g.1=k))=(XA f k).isSome
 |[]=>rfl
 |p::r=>by
  rw[Jo];by_cases e:p.1=k
  ·simp only[Tq e,WL e,Bool.true_or,Option.isSome_some]
  ·rw[To e,Ql e,Bool.false_or];exact BU k r
theorem Zcr(k j:κ)(y:V):∀f:List (κ×V),XA (f.map λg=>if g.1=k then(g.1,y)else g) j=(XA f j).map λx=>if j=k then y else x
 |[]=>rfl
 |p::r=>by
  have l:=Zcr k j y r;rw[Qa];by_cases h:p.1=k
  ·rw[WQ h];by_cases e:p.1=j
   ·rw[Tq (p:=(p.1,y)) e,Tq e,JQ,WQ (e.symm.trans h)]
   ·rw[To (p:=(p.1,y)) e,To e,l]
  ·rw[WN h];by_cases e:p.1=j
   ·rw[Tq (p:=p) e,Tq e,JQ,WN (λz=>h (e.trans z))]
   ·rw[To (p:=p) e,To e,l]
theorem Zbc(k j:κ)(y:V):∀f:List (κ×V),XA f k=none->XA (f++[(k,y)]) j=if j=k then some y else XA f j
 |[],_=>by
  by_cases e:k=j
  ·rw[WQ e.symm];exact Tq (p:=(k,y)) e
  ·rw[WN (λz=>e z.symm)];exact To (p:=(k,y)) e
 |p::r,g=>by
  rw[Vb];have h:¬p.1=k:=λz=>by rw[Tq z]at g;cases g
  rw[To h]at g;have l:=Zbc k j y r g;by_cases e:p.1=j
  ·rw[Tq e,Tq e,WN (λz=>h (e.trans z))]
  ·rw[To e,To e,l]
def BS(f:List (κ×V))(k j:κ)(y:V):XA (putK f k y) j=if j=k then some y else XA f j:=by
 unfold putK;by_cases a:(f.any λg=>decide (g.1=k))=true
 ·rw[WQ a,Zcr];rw[BU]at a;by_cases e:j=k
  ·obtain⟨x,hx⟩:=Option.isSome_iff_exists.mp a;rw[WQ e,e,hx,JQ,WQ rfl]
  ·rw[WN e];cases XA f j with
   |none=>rfl
   |some x=>rw[JQ,WN e]
 ·rw[WN a];refine Zbc k j y f ?_;rw[BU]at a;cases q:XA f k with
  |none=>rfl
  |some x=>rw[q]at a;exact(a rfl).elim
def Fg(f:List (κ×V))(k:κ)(v:V):(putK f k v).length<=f.length+1:=by
 unfold putK;split
 ·rw[WH];omega
 ·rw[WT,Qi,JR];omega
def Lv{f:List (κ×V)}{k:κ}(v:V)(h:XA f k=none):putK f k v=f++[(k,v)]:=by
 unfold putK;rw[BU,h];exact WN (by decide)
def RelO.isSome_eq {o:Option V}{u:Yh} (r:RelO o u):o.isSome=u.isSome:=by
 cases o with
 |none=>cases u with
  |none=>rfl
  |some _=>exact(show False from r).elim
 |some _=>cases u with
  |none=>exact(show False from r).elim
  |some _=>rfl
def KV.val {f:List (κ×V)}{vs:List (κ×Value)} (r:KV f vs) (k:κ):RelO (XA f k) (valueAt vs k):=by
 unfold KV at r
 induction r with
 |nil=>exact True.intro
 | @cons p q u g h t o=>
  obtain⟨n,s⟩:=h;by_cases e:p.1=k
  ·have l:q.1=k:=n.symm.trans e;have b:valueAt (q::g) k=some q.2:=by simp[valueAt,VS,l]
   rw[Tq e,b];exact s
  ·have l:¬q.1=k:=λz=>e (n.trans z);have b:valueAt (q::g) k=valueAt g k:=by simp[valueAt,VS,l]
   rw[To e,b];exact o
def KV.any {f:List (κ×V)}{vs:List (κ×Value)} (r:KV f vs) (k:κ):(f.any λg=>decide (g.1=k))=vs.any λg=>decide (g.1=k):=by
 unfold KV at r
 induction r with
 |nil=>rfl
 |cons h t l=>rw[Jo,Jo,l,h.1]
def KV.repl {g:List (κ×V)}{vs:List (κ×Value)} (r:KV g vs) (k:κ) {y:V}{u:Value} (n:RelV y u) :
  KV (g.map λf=>if f.1=k then(f.1,y)else f) (vs.map λf=>if f.1=k then(f.1,u)else f):=by
 unfold KV at r ⊢
 induction r with
 |nil=>exact .nil
 | @cons p q w v h t o=>
  rw[Qa,Qa];refine .cons ?_ o;obtain⟨l,s⟩:=h;by_cases e:p.1=k
  ·rw[WQ e,WQ (l.symm.trans e)];exact⟨l,n⟩
  ·rw[WN e,WN (λz=>e (l.trans z))];exact⟨l,s⟩
def KV.put {f:List (κ×V)}{vs:List (κ×Value)} (r:KV f vs) (k:κ) {y:V}{u:Value} (g:RelV y u):KV (putK f k y) (stored vs k u):=by
 unfold putK stored;rw[r.any k];by_cases e:(vs.any λh=>decide (h.1=k))=true
 ·rw[WQ e,WQ e];exact r.repl k g
 ·rw[WN e,WN e];exact Paired.snoc r ⟨rfl,g⟩
def KV.length {f:List (κ×V)}{vs:List (κ×Value)} (r:KV f vs):f.length=vs.length:=Paired.length r
end
def Fu{P:Program}{w:World}{k:Key}{u:Value}(r:RelV (kV k) u):(PX P w).is k u=true:=by
 cases k with
 |inl i=>obtain⟨t,e⟩:=(show ∃t,u=Value.int i t from r);subst e;exact Zgb P w i t
 |inr x=>obtain⟨t,e⟩:=(show ∃t,u=Value.str x t from r);subst e;exact Zsd P w x t
theorem Rw{P:Program}{w:World}:∀{f:List Key}{us:Yd},Vals (f.map kV) us->ItemsAre (PX P w) f us
 |[],_,r=>by rw[List.map_nil]at r;cases r;exact .nil
 |k::f,_,r=>by
  rw[Qa]at r;cases r with
  |cons h t=>exact .cons (Fu h) (Rw t)
abbrev KT(H:Hp):List (List Key×V)->List (List Key×Addr×Value)->Prop:=Paired λp q=>p.1=q.1/\H q.2.1=some (.tup<|p.1.map kV)/\RelV p.2 q.2.2
def KT.val {H:Hp}{f:List (List Key×V)}{xs:List (List Key×Addr×Value)} (r:KT H f xs) (k:List Key):RelO (XA f k) ((atKey xs k).map (·.2)):=by
 induction r with
 |nil=>exact True.intro
 | @cons p q u g h t o=>
  obtain⟨n,_,s⟩:=h;by_cases e:p.1=k
  ·have l:q.1=k:=n.symm.trans e;have b:atKey (q::g) k=some q.2:=by simp[atKey,VS,l]
   rw[Tq e,b];exact s
  ·have l:¬q.1=k:=λz=>e (n.trans z);have b:atKey (q::g) k=atKey g k:=by simp[atKey,VS,l]
   rw[To e,b];exact o
def KT.repl {H:Hp}{f:List (List Key×V)}{xs:List (List Key×Addr×Value)} (r:KT H f xs) (k:List Key) {y:V}{u:Value} (o:RelV y u) :
  KT H (f.map λl=>if l.1=k then(l.1,y)else l) (xs.map<|putAt k u):=by
 induction r with
 |nil=>exact .nil
 | @cons p q x w h t s=>
  rw[Qa,Qa];refine .cons ?_ s;obtain⟨g,n,v⟩:=h;unfold putAt;by_cases e:p.1=k
  ·rw[WQ e,WQ (g.symm.trans e)];exact⟨g,n,o⟩
  ·rw[WN e,WN (λz=>e (g.trans z))];exact⟨g,n,v⟩
def KT.put {H:Hp}{f:List (List Key×V)}{xs:List (List Key×Addr×Value)} (r:KT H f xs) (k:List Key) {b:Addr}{y:V}{u:Value} (l:H b=some (.tup<|k.map kV)) (g:RelV y u) :
  KT H (putK f k y) (storedH xs k b u):=by
 have e:(f.any λh=>decide (h.1=k))=(atKey xs k).isSome:=by
  rw[BU,(r.val k).isSome_eq,Ue]
 unfold putK storedH;rw[e];by_cases q:(atKey xs k).isSome=true
 ·rw[WQ q,WQ q];exact r.repl k g
 ·rw[WN q,WN q];exact Paired.snoc r ⟨rfl,l,g⟩
def KT.keeps {H H':Hp}{f:List (List Key×V)}{xs:List (List Key×Addr×Value)} (r:KT H f xs) (g:∀b ys,H b=some (.tup ys)->H' b=some (.tup ys)):KT H' f xs:=
 Paired.mapP r λ_ _ z=>⟨z.1,g _ _ z.2.1,z.2.2⟩
section
variable {P:Program}{w:World}{H:Hp}{h:Heap}{a:Addr}
def R3{u:HO}(ok:HOk P w H h)(e:Rd H a u):ObjOk P w H h a u:=e.ok ok
def BR{f:List (Key×V)}(ok:HOk P w H h)(e:Rd H a (.dK f)):f.length<=sizeLine/\(a==sysModules)=false/\∃vs,KV f vs/\h.DictOf (PX P w) a vs:=
 show ObjOk P w H h a (.dK f)from R3 ok e
def Zm2{f:List (Key×V)}(ok:HOk P w H h)(e:H a=some (.dK f)):f.length<=sizeLine/\(a==sysModules)=false/\∃vs,KV f vs/\h.DictOf (PX P w) a vs:=BR ok (.inl e)
def Bq{f:List Key}(ok:HOk P w H h)(e:H a=some (.tup<|f.map kV)):(tupleKind<|PX P w).is h f a:=by
 obtain⟨_,g,r,o,s,p,n,l⟩:=(show ObjOk P w H h a (.tup<|f.map kV)from ok a _ e)
 exact⟨o,g.toArray,n,s,p,l,by simpa using Rw r⟩
def Fk{f:List (List Key×V)}(ok:HOk P w H h)(e:Rd H a (.dT f)):f.length<=sizeLine/\(a==sysModules)=false/\
  ∃xs,KT H f xs/\h.DictOfH (tupleKind<|PX P w) a xs:=by
 obtain⟨z,y,xs,r,o,B,C,A,v,u,s,n⟩:=(show ObjOk P w H h a (.dT f)from R3 ok e)
 refine⟨z,y,xs,r,o,B,C,A,v,u,s,λx hx=>?_,n⟩
 have all:∀{l:List (List Key×V)} {m:List (List Key×Addr×Value)},KT H l m->∀x∈m,(tupleKind<|PX P w).is h x.1 x.2.1:=by
  intro l m q
  induction q with
  |nil=>intro x hx;exact nomatch hx
  | @cons p q G E hq t g=>
   intro x hx;rcases WZ.mp hx with e|hx
   ·subst e;exact Bq ok (by rw[←hq.1];exact hq.2.1)
   ·exact g x hx
 exact all r x hx
def Az{f:List (List Key×V)}(ok:HOk P w H h)(e:H a=some (.dT f)):f.length<=sizeLine/\(a==sysModules)=false/\
  ∃xs,KT H f xs/\h.DictOfH (tupleKind<|PX P w) a xs:=Fk ok (.inl e)
end
def DGet(H:Hp)(a:Addr)(y:V)(r:Option V):Prop:=
 (∃f k,Rd H a (.dK f)/\y=kV k/\r=XA f k)\/∃f k b,Rd H a (.dT f)/\y=.ref b/\H b=some (.tup<|k.map kV)/\r=XA f k
def DPut(H:Hp)(a:Addr)(y v:V)(H':Hp):Prop:=
 (∃f k,H a=some (.dK f)/\y=kV k/\f.length<sizeLine/\H'=upd H a (.dK<|putK f k v))\/
 ∃f k b,H a=some (.dT f)/\y=.ref b/\H b=some (.tup<|k.map kV)/\f.length<sizeLine/\H'=upd H a (.dT<|putK f k v)
def DGet.k {H:Hp}{a:Addr}{f:List (Key×V)}{k:Key} (e:H a=some (.dK f)):DGet H a (kV k) (XA f k):=.inl ⟨f,k,.inl e,rfl,rfl⟩
def DGet.t {H:Hp}{a b:Addr}{f:List (List Key×V)}{k:List Key} (e:H a=some (.dT f)) (g:H b=some (.tup<|k.map kV)):DGet H a (.ref b) (XA f k):=.inr ⟨f,k,b,.inl e,rfl,g,rfl⟩
def DPut.k {H:Hp}{a:Addr}{f:List (Key×V)}{k:Key}{v:V} (e:H a=some (.dK f)) (g:f.length<sizeLine):DPut H a (kV k) v (upd H a<|.dK<|putK f k v):=.inl ⟨f,k,e,rfl,g,rfl⟩
def DPut.t {H:Hp}{a b:Addr}{f:List (List Key×V)}{k:List Key}{v:V} (e:H a=some (.dT f)) (h:H b=some (.tup<|k.map kV)) (g:f.length<sizeLine) :
  DPut H a (.ref b) v (upd H a<|.dT<|putK f k v):=.inr ⟨f,k,b,e,rfl,h,g,rfl⟩
section
variable {X:Cx}{pins:ZY}{σ:St}{H:Hp}{s:Shared}{a:Addr}{y v:V}{u r:Value}{o:Option V}{A:Around}{E:Ya}
def Inv.big (I:Inv X pins σ H s):sysModules<s.heap.objs.size:=by
 have h:mainGlobals<s.heap.objs.size:=(I.mod.glob.keeps I.bk).lt;exact Jg (by decide) h
def Zpb{Q:Ya}(M:A.units+1<cLine)(I:Inv X pins σ H s)(g:DGet H a y (some v))(J:RelV y u)(h:∀n G,Inv X pins σ H G->RelV v n->Q n G) :
  wpAny (model X.prog X.w) A (getItem (.ref a) u) Q E s:=by
 rcases g with⟨x,k,e,ey,l⟩|⟨x,k,b,e,ey,U,l⟩
 ·subst ey;obtain⟨z,T,L,rel,C⟩:=BR I.hok e;obtain⟨n,hw,f⟩:=RelO.some_of (v:=v) (o:=valueAt L k) (by rw[l];exact rel.val k);exact wpAny_getItem_of (Fu J) C.mapOf hw (h n _ (I.tok _) f)
 ·subst ey;cases (show u=Value.ref b from J)
  obtain⟨z,T,xs,rel,C⟩:=Fk I.hok e;obtain⟨n,hw,f⟩:=RelO.some_of (v:=v) (o:=(atKey xs k).map (·.2)) (by rw[l];exact rel.val k);obtain⟨p,N,B⟩:=Option.map_eq_some_iff.mp hw;refine wpAny_getItem_heap (Ju M) (Bq I.hok U) C N ?_;rw[B];exact h n _ (I.tok _) f
def Zmu{Q:Ya}(C:A.units+1<cLine)(I:Inv X pins σ H s)(g:DGet H a y o)(B:RelV y u)(h:∀x,Inv X pins σ H x->Q (.bool o.isSome) x) :
  wpAny (model X.prog X.w) A (compareOp .In u<|.ref a) Q E s:=by
 rcases g with⟨f,k,e,ey,l⟩|⟨f,k,b,e,ey,G,l⟩
 ·subst ey;obtain⟨z,n,J,rel,p⟩:=BR I.hok e;refine wpAny_in_of (Fu B) n p.mapOf ?_;rw[←(rel.val k).isSome_eq,←l];exact h _ (I.tok _)
 ·subst ey;cases (show u=Value.ref b from B)
  obtain⟨z,n,xs,rel,p⟩:=Fk I.hok e;refine wpAny_in_heap (Ju C) (Bq I.hok G) n p ?_;have q:=(rel.val k).isSome_eq;rw[Ue]at q;rw[←q,←l];exact h _ (I.tok _)
def Zga{Q:Ya}(C:A.units+1<cLine)(I:Inv X pins σ H s)(g:DGet H a y o)(B:RelV y u)(h:∀x,Inv X pins σ H x->Q (.bool (!o.isSome)) x) :
  wpAny (model X.prog X.w) A (compareOp .NotIn u<|.ref a) Q E s:=by
 rcases g with⟨f,k,e,ey,l⟩|⟨f,k,b,e,ey,G,l⟩
 ·subst ey;obtain⟨z,n,J,rel,p⟩:=BR I.hok e;refine wpAny_notIn_of (Fu B) n p.mapOf ?_;rw[←(rel.val k).isSome_eq,←l];exact h _ (I.tok _)
 ·subst ey;cases (show u=Value.ref b from B)
  obtain⟨z,n,xs,rel,p⟩:=Fk I.hok e;refine wpAny_notIn_heap (Ju C) (Bq I.hok G) n p ?_;have q:=(rel.val k).isSome_eq;rw[Ue]at q;rw[←q,←l];exact h _ (I.tok _)
def FF{h':Heap}{t':Nat}{ob:HO}(I:Inv X pins σ H s)(f:Mut (H a))(g:Heap.SameBut a s.heap h')(h:∃q,h'.get? a=some q)(new:ObjOk X.prog X.w (upd H a ob) h' a ob) :
  Inv X pins σ (upd H a ob) {s with heap:=h',toks:=t'}:=
 I.write (x:=a) (e:=a) f (.inl rfl) (λb q l z=>(g.2 b l).trans z) h new
def Ziz{P:Program}{w:World}{H':Hp}{h':Heap}{f:List (Key×V)}{vs:List (Key×Value)}(z:f.length<=sizeLine)(g:(a==sysModules)=false)(rel:KV f vs)(dd:h'.DictOf (PX P w) a vs) :
  ObjOk P w H' h' a (.dK f):=⟨z,g,vs,rel,dd⟩
def Zt8{H':Hp}{Q:Unit->Shared->Prop}(hu:A.units+1<cLine)(I:Inv X pins σ H s)(g:DPut H a y v H')(M:RelV y u)(rv:RelV v r)(h:∀L,Inv X pins σ H' L->Q () L) :
  wpAny (model X.prog X.w) A (setItem (.ref a) u r) Q E s:=by
 rcases g with⟨f,k,e,ey,l,G⟩|⟨f,k,b,e,ey,U,l,G⟩
 ·subst ey G;obtain⟨z,C,Y,rel,J⟩:=Zm2 I.hok e;have p:Y.length<=sizeLine:=by rw[←rel.length];exact z
  have B:(putK f k v).length<=sizeLine:=by have:=Fg f k v;omega
  refine wpAny_setItem_pairs (hsz:=p) (Fu M) J λN n x=>h _ ?_;have he:∃q,N.get? a=some q:=let ⟨q,_,_,hq,_⟩:=n;⟨q,hq⟩;exact FF I (by rw[e];exact True.intro) x he (Ziz B C (rel.put k rv) n)
 ·subst ey G;cases (show u=Value.ref b from M)
  obtain⟨z,C,xs,rel,J⟩:=Az I.hok e;have p:xs.length<=sizeLine:=by rw[←Paired.length rel];exact z
  have B:(putK f k v).length<=sizeLine:=by have:=Fg f k v;omega
  refine wpAny_setItem_heap (hsz:=p) (Ju hu) (Bq I.hok U) J λN n x=>h _ ?_;obtain⟨q,es,ep,hq,h2,h3,h4,_,h5⟩:=n;refine FF I (by rw[e];exact True.intro) x ⟨q,hq⟩ ⟨B,C,_,(rel.put k U rv).keeps λc ys T=>?_,q,es,ep,hq,h2,h3,h4,h5⟩;rw[XD (Gc T e (λz=>nomatch z))];exact T
end
def OB(i:Expr):Prop:=∀f g,subscripted i false f g=operate [f,g] (getItem f g)
def Zfg{prog:Program}{w:World}{A:Around}{E:Ya}{s:Shared}{env:Env}{value slice:Expr}{pos:Pos}{T id:String}{Q:Ya}(z:typeLookup (.type T) "__getitem__"=pure (some<|.builtin id))(y:OB slice)(h:wpAny (model prog w) A (eval value env) (λo n=>wpAny (model prog w) A (eval slice env) (λi f=>f.TypeIs o T/\wpAny (model prog w) A (getItem o i) Q E f) E n) E s) :
  wpAny (model prog w) A (eval (.Subscript value slice pos) env) Q E s:=by
 refine Subscript_ (QH h (λo n u=>QH u (λi f g=>?_) λ_ _ x=>x) λ_ _ x=>x);obtain⟨v,g⟩:=g;unfold subscriptTail;refine WG ?_;rw[getitemInPython_of_ne v.not_modules];refine WG (wpAny_specialOf v z ?_)
 have fin:wpAny (model prog w) A (subscripted slice false o i) (λr l=>wpAny (model prog w) A (letTemporaryGo value o r >>= λ_=>pure r) Q E l) E f:=by
  rw[y o i];exact wpAny_operating (QH g (λr l p=>WG (wpAny_letTemporaryGo<|WJ p)) λ_ _ x=>x)
 first
  |exact WJ (WG fin)
  |exact WG (WJ<|WG fin)
  |exact WG fin
def Zd2{X:Cx}{pins:ZY}{l:St}{H:Hp}{s:Shared}{a:Addr}{y:V}{o:Option V}(I:Inv X pins l H s)(g:DGet H a y o):s.TypeIs (.ref a) "dict":=by
 rcases g with⟨f,k,e,_,_⟩|⟨f,k,b,e,_,_,_⟩
 ·obtain⟨_,_,n,_,h⟩:=BR I.hok e;exact h.typeIs
 ·obtain⟨_,_,xs,_,h⟩:=Fk I.hok e;exact h.typeIs
noncomputable def DR(l h:TE):TE:=λf H Q=>l f H λx n=>h f n λy g=>∃a v,x=.ref a/\DGet g a y (some v)/\Q v g
noncomputable def IL(h l:TE):TE:=λf H Q=>h f H λy n=>l f n λx g=>∃a o,x=.ref a/\DGet g a y o/\Q (.bl o.isSome) g
noncomputable def EZ(h l:TE):TE:=λf H Q=>h f H λy n=>l f n λx g=>∃a o,x=.ref a/\DGet g a y o/\Q (.bl (!o.isSome)) g
noncomputable def Zal(n h l:TE):TS:=λD f H=>l f H λv r=>n f r λx p=>h f p λy o=>∃a g,x=.ref a/\DPut o a y v g/\D.nx f g
section
variable {X:Cx}{o i e value:Expr}{pos pos' tpos:Pos}{td ty tv:TE}
def TJ(C:X.A.units+1<cLine)(G:PE X o td)(J:PE X i ty)(E:OB i):PE X (.Subscript o i pos) (DR td ty):=by
 intro pins s l H Q I h;refine Zfg PySem.F.slot_dict_getitem.lookup E (thn (G pins s l H _ I h) ?_);rintro u p ⟨x,U,N,w,B⟩;refine thn (J pins p l U _ N B) ?_;rintro iv s2 ⟨y,T,n,r,a,v,L,g,z⟩;subst L;obtain rfl:u=Value.ref a:=w;exact⟨Zd2 n g,Zpb C n g r λY s3 M f=>⟨v,T,M,f,z⟩⟩
def HY(z:X.A.units+1<cLine)(C:PE X i ty)(B:PE X o td):PC X .In i o (IL ty td):=by
 intro pins s f H Q I h;refine thn (C pins s f H _ I h) ?_;rintro Y l ⟨y,N,L,n,v⟩;refine thn (B pins l f N _ L v) ?_;rintro u U ⟨x,M,J,p,a,w,E,g,r⟩;subst E;obtain rfl:u=Value.ref a:=p;exact Zmu z J g n λT G=>⟨.bl w.isSome,M,G,rfl,r⟩
def OO(z:X.A.units+1<cLine)(C:PE X i ty)(B:PE X o td):PC X .NotIn i o (EZ ty td):=by
 intro pins s f H Q I h;refine thn (C pins s f H _ I h) ?_;rintro Y l ⟨y,N,L,n,v⟩;refine thn (B pins l f N _ L v) ?_;rintro u U ⟨x,M,J,p,a,w,E,g,r⟩;subst E;obtain rfl:u=Value.ref a:=p;exact Zga z J g n λT G=>⟨.bl (!w.isSome),M,G,rfl,r⟩
def BW(J:X.A.units+1<cLine)(M:PE X o td)(N:PE X i ty)(G:PE X value tv)(L:swapsWith value (some<|.Subscript o i pos') pos.line X.env=pure false) :
  PS X (.Assign [.Subscript o i pos'] value pos) (Zal td ty tv):=by
 intro pins s f H D I h;refine wpAny_Assign_Subscript (thn (G pins s f H _ I h) ?_) L;rintro r n ⟨v,H1,I1,z,E⟩;refine thn (M pins n f H1 _ I1 E) ?_;rintro u l ⟨x,H2,Y,w,C⟩;refine thn (N pins l f H2 _ Y C) ?_;rintro iv s3 ⟨y,H3,U,p,a,H4,Q,g,B⟩;subst Q;obtain rfl:u=Value.ref a:=w;exact Zt8 J U g p z λs4 T=>⟨f,H4,T,B⟩
end
def Zsl{P:Program}{w:World}{H:Hp}(h:Heap)(f:sysModules<h.objs.size):ObjOk P w H (h.push {cls:=.type "dict",data:=.dict #[]}) h.objs.size (.dK []):=
 ⟨QV _,VN.mpr (Ne.symm<|Qj f),[],.nil,Heap.DictOf.new h⟩
def Zch{P:Program}{w:World}{H:Hp}(h:Heap)(f:sysModules<h.objs.size):ObjOk P w H (h.push {cls:=.type "dict",data:=.dict #[]}) h.objs.size (.dT []):=
 ⟨QV _,VN.mpr (Ne.symm<|Qj f),[],.nil,_,#[],0,WU _ rfl,⟨rfl,rfl,rfl⟩,rfl,rfl,V9⟩
noncomputable def Oi:TE:=λ_ H Q=>∀p,H p=none->Q (.ref p) (upd H p<|.dK [])
noncomputable def MM:TE:=λ_ H Q=>∀p,H p=none->Q (.ref p) (upd H p<|.dT [])
section
variable {X:Cx}{pos:Pos}
def OH:PE X (.Dict [] [] pos) Oi:=λpins s f H Q I h=>
 wpAny_Dict_empty ⟨.ref s.heap.objs.size,_,I.laid (a:=s.heap.objs.size) (o:=.dK []) (t':=s.toks) (λ_ _ q=>WM _ q) (WS _) (Zsl s.heap I.big),rfl,h _ (I.hok.fresh<|WS _)⟩
def L3:PE X (.Dict [] [] pos) MM:=λpins s f H Q I h=>
 wpAny_Dict_empty ⟨.ref s.heap.objs.size,_,I.laid (a:=s.heap.objs.size) (o:=.dT []) (t':=s.toks) (λ_ _ q=>WM _ q) (WS _) (Zch s.heap I.big),rfl,h _ (I.hok.fresh<|WS _)⟩
end
def Zah:List (TE×TE)->St->Hp->(List (V×V)->Hp->Prop)->Prop
 |[],_,H,Q=>Q [] H
 |(h,g)::r,f,H,Q=>h f H λx p=>g f p λy o=>Zah r f o λl n=>Q ((x,y)::l) n
abbrev VV:List (V×V)->List (Value×Value)->Prop:=Paired λp q=>RelV p.1 q.1/\RelV p.2 q.2
def PPs(X:Cx)(pos:Pos)(keys:List (Option Expr))(values:Yf)(g:List (TE×TE)):Prop:=
 ∀(pins:ZY) (s:Shared) (f:St) (H:Hp) (Q:List (V×V)->Hp->Prop),Inv X pins f H s->Zah g f H Q->
  wpAny (model X.prog X.w) X.A (evalPairs<|pairTrees keys values X.env pos) (λn o=>∃h l,Inv X pins f l o/\VV h n/\Q h l) X.xe s
def Zk7{X:Cx}{pos:Pos}:PPs X pos [] [] []:=λpins s f H Q I h=>pairTrees_nil_walk ⟨[],H,I,.nil,h⟩
def Zup{X:Cx}{pos:Pos}{k v:Expr}{o:List (Option Expr)}{vs:Yf}{n l:TE}{f:List (TE×TE)}(L:PE X k n)(G:PE X v l)(J:PPs X pos o vs f) :
  PPs X pos (some k::o) (v::vs) ((n,l)::f):=λpins s g H Q I h=>
 pairTrees_cons_walk (thn (L pins s g H _ I h) λu r ⟨x,H1,T,z,C⟩=>thn (G pins r g H1 _ T C) λw2 p ⟨y,Y,N,w,B⟩=>
  thn (J pins p g Y _ N B) λws s3 ⟨E,U,M,rel,A⟩=>⟨(x,y)::E,U,M,.cons ⟨z,w⟩ rel,A⟩)
end L2
set_option genInjectivity false
set_option genSizeOfSpec false
namespace Own
open PySem PySem.Spec PyProof.Rows L2
structure Def (K:ZV) (mg:ZZ) (x:Str) (st:Stmt) (ps:Ye):Prop where
 ex:∃f fd,Fun K x x st f fd/\mg x=some (.ref f)/\Binds K fd ps []
structure Callee (P:Program) (w:World) (K:ZV) (mg:ZZ) (base:Heap) (CX:CXT) (k:Nat) (x:Str) (ps:Ye) (sp:Sp):Prop where
 ex:∃f fd,Pj P w K mg base CX k f fd ps sp/\mg x=some (.ref f)/\PySem.W.keepIn K (.ref f)=true/\(∃o:Obj,K.lookup f=some o/\o.data=.func fd)/\Binds K fd ps []
section
variable {P:Program}{w:World}{K:ZV}{mg:ZZ}{base:Heap}
def Callee.at {st f g k ps sp} (C:Callee P w K mg base CX k x ps sp) (v:mg x=some (.ref f)) (F:Fun K x x st f g) (_:Def K mg x st ps):Pj P w K mg base CX k f g ps sp:=by
 obtain⟨z,n,E,l,_,y,_⟩:=C.ex;obtain⟨oc,s,kV,o,r,B,p,A,h,_,u,_⟩:=F.ex
 grind
def Def.ok {st N ps k sp} (D:Def K mg x st ps) (S:Xz N ps (Xy st)) (len:∀vs H Q E,sp vs H Q E->vs.length=ps.length)
  (l:∀f g A outer s H vs Q E,XC k (A.deeper<|envOfC x (Xy st) s.heap.objs.size f g)->sp vs H Q E->
   ∃t,PSs (Ks CX0 P w K mg base N x (Xy st) f g A outer s H E).nox (Km st) t/\t {nx:=λ_ H'=>Q .non H',rt:=Q} (start N vs) H):Callee P w K mg base CX0 (k+1) x ps sp:=by
 obtain⟨f,u,F,p,r⟩:=D.ex;refine⟨f,u,F.ok S len λg A outer s H vs Q E o h=>l f g A outer s H vs Q E o h,p,F.kp,?_,r⟩;obtain⟨oc,z,kV,v,y,G,g,C,n,_,B,_⟩:=F.ex
 grind
end
section
variable {X:Cx}{CX:CXT}{k:Nat}{ps:Ye}{sp:Sp}{E:XK}{x:Str}{p pos:Pos}{e:Expr}{es:Yf}{t:TA}
def SE(C:Callee X.prog X.w X.K X.mg X.base CX k x ps sp)(l:XC k X.A)(hx:PQ CX X E)(v:PA X (e::es) t)(r:autoParam (Gl X x) au_0)(h:autoParam ((x==("__debug__" : Str))=false) au_1)(s:autoParam (starEach (e::es) X.env=(false,eval e X.env)::starEach es X.env) au_0)(g:autoParam ((backTo pos<|starEach es X.env).any (·.1)=false) au_0) :
  PE X (.Call (.Name x p) (e::es) [] pos) (NX sp [] E t):=by
 obtain⟨f,y,F,n,o,_,u⟩:=C.ex;exact Zf5 F l r n o u .nil hx v h s g
def Zh4:Kx X (.builtin "isinstance") (λxs H Q=>∃x n t b,xs=[x,.ty n]/\P1 X.K H x t/\PySem.W.kitOne X.K t (.type n)=some b/\Q (.bl b) H):=by
 intro pins s w H xs y Q I o h;obtain⟨x,n,t,b,rfl,g,e,q⟩:=h;cases o with
 |cons r u=>
  cases u with
  |cons v f=>
   cases f
   obtain rfl:=v;exact Zjt I r g e λl=>⟨.bl b,H,I.tok l,rfl,q⟩
def Zqo:IxR X (λx y H Q=>Fp X.K x y H Q\/Fh X.K x y H Q):=ix_list.or Zdc
end
noncomputable def Ia(t u:TS):TS:=λD h H=>∃J:L2.St->Hp->Prop,t {D with nx:=J} h H/\∀f g,J f g->u D f g
def Zn8{st rest t u}(r:PS X st t)(p:PSs X rest u):PSs X (st::rest) (Ia t u):=by
 intro pins s n H D I h;obtain⟨J,h,k⟩:=h;refine wpAny_execs_cons (thn (r pins s n H {D with nx:=J} I h) λf o q=>?_)
 cases f with
 |next=>
  obtain⟨g,l,v,q⟩:=q;exact p pins o g l D v (k g l q)
 |_=>exact q
def Zqn(K:ZV)(n:String):PySem.W.kitOne K (.type n) (.type n)=some true:=by
 unfold PySem.W.kitOne;simp
def PJ{xs i v}(h:atI xs i=some v):atI (xs.map f) i=some (f v):=by
 unfold atI at h ⊢;cases e:ixN xs.length i with
 |_=>grind
def F2{i v}(f:0<=i)(h:xs[i.toNat]?=some v):atI xs i=some v:=by
 have:=TM h
 grind
def Kk(h:H a=none):Same H (upd H a o):=λb u e=>by rw[XD (Ky e h)];exact e
def Same.upd (S:Same H H') (h:H a=none):Same H (upd H' a o):=λb u e=>by rw[XD (Ky e h)];exact S b u e
def Same.new (S:Same H H') (h:H' a=none):Same H (L2.upd H' a o):=Own.Same.upd S (S.free h)
def Zkq(names:List (Str×NameKind))(g:∀x∈names,x.2=.free->∃c,env.cells.lookup x.1=some c):∀f,(∀x c,f.lookup x=some c->env.cells.lookup x=some c)->
  ∃l,(forIn names f (λx A=>if (x.2 == .free)=true then(do let c ←cellOf env x.1;pure (ForInStep.yield ((x.1,c)::A)))else pure (ForInStep.yield A)):Sem (List (Str×Addr)))=pure l/\
   (∀x c,l.lookup x=some c->env.cells.lookup x=some c)/\(∀x,(∃c,f.lookup x=some c)->∃c,l.lookup x=some c)/\∀x∈names,x.2=.free->∃c,l.lookup x.1=some c:=by
 induction names with
 |nil=>
  intro f s;exact⟨f,rfl,s,λ_ h=>h,λx hx=>by cases hx⟩
 |cons y r B=>
  intro f s;have o:=B λx hx=>g x (Qs _ hx);obtain⟨n,k⟩:=y;by_cases w:k=.free
  ·subst w;obtain⟨c,z⟩:=g (n,.free) Q9 rfl
   have C:∀x d,List.lookup x ((n,c)::f)=some d->env.cells.lookup x=some d:=λx d e=>by
    rw[Vl]at e;by_cases hx:x=n
    ·subst hx;simp at e;subst e;exact z
    ·have:(x==n)=false:=by simpa using hx
     rw[this]at e;exact s x d e
   obtain⟨l,e,v,p2,u⟩:=o ((n,c)::f) C;refine⟨l,?_,v,λx hx=>p2 x ?_,λx hx p=>?_⟩
   ·rw[List.forIn_cons];have E:cellOf env n=pure c:=by unfold cellOf;rw[z]
    rwa[E]
   ·rw[Vl];cases (x==n)
    ·exact hx
    ·exact⟨c,rfl⟩
   ·rcases WZ.mp hx with rfl|hx
    ·exact p2 n ⟨c,by simp[Vl]⟩
    ·exact u x hx p
  ·obtain⟨l,e,v,p2,u⟩:=o f s;refine⟨l,?_,v,p2,λx hx p=>?_⟩
   ·grind
   ·rcases WZ.mp hx with rfl|hx
    ·exact absurd p w
    ·exact u x hx p
def Zer{sc}(f:∀x∈sc.names,x.2=.free->∃c,env.cells.lookup x.1=some c) :
  ∃g,closureFor sc env=pure g/\(∀x c,g.lookup x=some c->env.cells.lookup x=some c)/\∀x∈sc.names,x.2=.free->∃c,g.lookup x.1=some c:=by
 obtain⟨g,e,n,_,l⟩:=Zkq sc.names f [] (λx c h=>by cases h);unfold closureFor
 grind
noncomputable def KG(X:Cx)(N':Ye)(h:Scope)(l:List (Str×Addr))(C:Addr)(f:Shared)(g:Hp)(ex:List Addr):Cx:=
 {X with N:=N',s₀:=f,H₀:=g,env:=compEnvC h l C X.env,outer:=X.stack,ex:=ex,fn:=λ_=>false,pn:=[],xe:=λ_ _=>False}
structure Be (X:Cx) (N':Ye) (φ:Yb) (sc:Scope):Prop where
 kind:sc.kind=.function
 okind:X.env.scope.kind=.function
 nocell:∀y∈sc.names,y.2≠.cell
 names:∀y∈sc.names,y.2=.local->sc.names.lookup y.1=some .local
 frees:∀y∈sc.names,y.2=.free->X.env.scope.names.lookup y.1=some .cell
 len:φ.length=N'.length
 pick:∀(i:Nat) (x:Str) (j:Nat),N'[i]?=some x->φ[i]?=some (some j)->X.N[j]?=some x/\sc.names.lookup x=some .free
noncomputable def atStart(φ:Yb)(f:L2.St):L2.St:=φ.map λo=>o.bind λj=>(f[j]?).join
def Sub(g f:L2.St):Prop:=f.length=g.length/\∀(i:Nat) (v:V),g[i]?=some (some v)->f[i]?=some (some v)
def Sub.refl:Sub f f:=⟨rfl,λ_ _ h=>h⟩
def Sub.skip (h:Sub g f):Sub (none::g) (x::f):=by
 refine⟨by simp[h.1],λi v e=>?_⟩;cases i with
 |zero=>grind
 |succ i=>simp at e ⊢;exact h.2 i v e
theorem Os{env:Env}(p:env.scope.kind=.function):∀{names:List (Str×NameKind)}{x:Str},names.lookup x=some .free->env.scope.names.lookup x=some .cell->
  (names.map λ(n,k)=>if (k==NameKind.free&&env.scope.kind == .function&&env.kindOf n==some .cell)then(n,NameKind.cell)else(n,k)).lookup x=some .cell
 |[],_,h,_=>by simp at h
 |(n,k)::r,x,h,g=>by
  have l:=@Os env p r x;show List.lookup x ((if (k==NameKind.free&&env.scope.kind == .function&&env.kindOf n==some .cell)=true then(n,NameKind.cell)else(n,k))::_)=_;cases hx:x==n with
  |true=>
   have o:env.kindOf x=some .cell:=g;simp_all
  |false=>
   simp only[Vl,hx]at h;by_cases f:(k==NameKind.free&&env.scope.kind == .function&&env.kindOf n==some .cell)=true
   ·rw[WQ f];simp only[Vl,hx];exact l h g
   ·rw[WN f];simp only[Vl,hx];exact l h g
theorem Gs{env:Env}:∀{names:List (Str×NameKind)}{x}{q:NameKind},
  (names.map λ(n,k)=>if (k==NameKind.free&&env.scope.kind == .function&&env.kindOf n==some .cell)then(n,NameKind.cell)else(n,k)).lookup x=some q->∃k,(x,k)∈names/\(q=k\/k=.free)
 |[],_,_,h=>by simp at h
 |(n,k)::r,x,q,h=>by
  have g:List.lookup x ((if (k==NameKind.free&&env.scope.kind == .function&&env.kindOf n==some .cell)=true then(n,NameKind.cell)else(n,k))::(r.map λ(n,k)=>if (k==NameKind.free&&env.scope.kind == .function&&env.kindOf n==some .cell)then(n,NameKind.cell)else(n,k)))=some q:=h;cases hx:x==n with
  |true=>
   have e:x=n:=by simpa using hx
   subst e;by_cases f:(k==NameKind.free&&env.scope.kind == .function&&env.kindOf x==some .cell)=true
   ·simp_all
   ·simp_all
  |false=>
   have p:List.lookup x (r.map λ(n,k)=>if (k==NameKind.free&&env.scope.kind == .function&&env.kindOf n==some .cell)then(n,NameKind.cell)else(n,k))=some q:=by
    by_cases f:(k==NameKind.free&&env.scope.kind == .function&&env.kindOf n==some .cell)=true
    ·rw[WQ f]at g;simp only[Vl,hx]at g;exact g
    ·rw[WN f]at g;simp only[Vl,hx]at g;exact g
   obtain⟨l,o,hq⟩:=(@Gs env r x q) p;exact⟨l,Qs _ o,hq⟩
def Znn{L target iter E scope pos N M env}(I:Nat->Shared->Prop)
  (turn:∀n s,I n s->wpAny (model prog w) A (pyNext N) (λr l=>match r with
   |none=>R (.ok .next) l
   |some v=>wpAny (model prog w) A (letOwnedTupleGo target N v) (λ_ g=>wpAny (model prog w) A (assign target env v) (λ_ y=>
     wpAny (model prog w) A (forIn E true λc r=>if r=true then do let ok ←isTrue c env (eval c env);pure (ForInStep.yield ok)else pure (ForInStep.yield r)) (λok f=>
      if ok=true then wpAny (model prog w) A (eval L env) (λx u=>
       wpAny (model prog w) A (call (.builtin "list.append") [M,x]) (λ_ p=>∃m,m<n/\I m p) (λ_ _=>False) u) (λ_ _=>False) f
      else ∃m,m<n/\I m f) (λ_ _=>False) y) (λ_ _=>False) g) (λ_ _=>False) l) (λ_ _=>False) s)
  (n:Nat) (h:I n s) :
  codeAny (model prog w) A (.compLoop (.ListComp L [⟨target,iter,E,0⟩] scope pos) 0 N M env) R s:=by
 refine codeAny_loop rfl I (λn s Q=>?_) n h;refine wpAny_noted ?_;rw[compTurn_list];refine WG (wpAny_standAt<|WG (QH (turn n s Q) (λr l B=>?_) λ_ _ o=>o.elim));cases r with
 |none=>exact WJ B
 |some v=>
  refine WG (QH B (λ_ g C=>?_) λ_ _ o=>o.elim);refine WG (QH C (λ_ y J=>WG (QH J (λok f z=>?_) λ_ _ o=>o.elim)) λ_ _ o=>o.elim);cases ok with
  |false=>exact WJ ⟨rfl,z⟩
  |true=>
   exact WG (WG (QH z (λx u H=>WG (QH H (λ_ p G=>WJ (WJ ⟨rfl,G⟩)) λ_ _ o=>o.elim)) λ_ _ o=>o.elim))
def Sr(X:Cx)(g:Yf)(t:TT):Prop:=
 ∀(pins:ZY) (s:Shared) (f:L2.St) (H:Hp) (Q:Bool->Hp->Prop),Inv X pins f H s->t f H Q->
  wpAny (model X.prog X.w) X.A (forIn g true λc r=>if r=true then do let ok ←isTrue c X.env (eval c X.env);pure (ForInStep.yield ok)else pure (ForInStep.yield r)) (TP X pins f Q) X.xe s
noncomputable def HQ:TT:=λ_ H Q=>Q true H
def Su:Sr X [] HQ:=λ_ _ _ H _ I h=>WJ ⟨H,I,h⟩
def Ag(g:PT X c t):Sr X [c] t:=by
 intro pins s f H Q I h;rw[List.forIn_cons];refine WG ?_;exact WG (thn (g pins s f H Q I h) λb l q=>WJ (WJ q))
noncomputable def Ff(φ:Yb)(v:TI)(g:TG)(tc:TT)(te:TE):TE:=λo H Q=>v o H λJ u=>∀D,u D=none->∃W:Nat->Nat->List V->Hp->Prop,(∃m,W 0 m [] (upd u D<|.lst []))/\
 ∀i m h n,W i m h n->(J.stop i n/\Q (.ref D) n)\/(J.go i n/\∀x s,J.yld i n x s->g x (atStart φ o) s λf w=>Sub (atStart φ o) f/\tc f w λb r=>
  if b=true then te f r λy p=>p D=some (.lst h)/\h.length<sizeLine/\∃l,l<m/\W (i+1) l (h++[y]) (upd p D<|.lst (h++[y]))else ∃l,l<m/\W (i+1) l h r)
def Inv.weak {g f:L2.St}{H}{s} (I:Inv X pins f H s) (S:Sub g f):Inv X pins g H s:=
 ⟨I.ok,I.os,I.bare,I.base,let ⟨m,h,l⟩:=I.loc;⟨m,h,λi x v p o n=>l i x v p (S.2 i v o) n⟩,I.cell,I.free,I.freeC,I.pin,I.hok,by rw[←S.1];exact I.len⟩
def Zbv{i:Nat}{v}(h:(atStart φ f)[i]?=some (some v)):∃j,φ[i]?=some (some j)/\f[j]?=some (some v):=by
 unfold atStart at h;cases e:φ[i]? with
 |none=>grind
 |some o=>
  cases o with
  |_=>grind
def CompEnd(X:Cx)(pins:ZY)(h:L2.St)(Q:VK)(use:Option (Value->Sem Unit))(l:Ya):Prop:=
 ∀(D C:Addr) (g:Hp) (f:Shared),Q (.ref D) g->Inv X pins h g f->(∃m,f.heap.Ns C m)->g C=none->C≠X.env.locals->X.s₀.heap.objs.size<=C->(∀x c,X.env.cells.lookup x=some c->c≠C)->(∀p∈X.pn++pins,p.1≠C)->C∉X.fs->
  compPost (model X.prog X.w) X.A X.xe use l (.ref D) C (.ok .next) f
def Zbo{elt iter tg}{ifs}{pos pos'}{wi}{g}{tc}{te}{use}{QQ}(hcalm:X.calm=true)(S:Be X N' φ G)(hi:PI X tg iter wi)(hin:∀U C s₃ H₃ ex,PG (KG X N' G U C s₃ H₃ ex) tg g/\Sr (KG X N' G U C s₃ H₃ ex) ifs tc/\PE (KG X N' G U C s₃ H₃ ex) elt te)(hs:∀x,foldedSetIterable iter X.env x=pure x){pins}{s}{σ:L2.St}{H}{Q}(I:Inv X pins σ H s)(h:Ff φ wi g tc te σ H Q)(fin:CompEnd X pins σ Q use QQ) :
  wpAny (model X.prog X.w) X.A (comprehension (.ListComp elt [⟨tg,iter,ifs,0⟩] G pos) G X.env pos' (newList []) false (eval iter X.env) use) QQ X.xe s:=by
 obtain⟨U,hcl,p1,p3⟩:=Zer λx hx hf=>I.ok.has x.1 (.inl<|S.frees x hx hf);refine wpAny_comprehension_free rfl hs hcl S.kind S.names ?_;refine thn (hi pins s σ H _ I h) λv s1 h1=>thn h1 λitv s2 h2=>?_;obtain⟨it,L,tn,J,H2,e,I2,T,st2,f2,hR⟩:=h2;subst e;refine Qq ?_;have hf:=I2.hok.fresh (WS _);obtain⟨W,⟨m0,w0⟩,turn⟩:=hR s2.heap.objs.size hf;generalize eD:s2.heap.objs.size=D at *
 have I3:Inv X pins σ (upd H2 D<|.lst []) {s2 with heap:=s2.heap.push {cls:=.type "list",dict:=none,data:=.seq ([]:Yd).toArray}}:=
  I2.laid (λb u e=>WM _ e) (Vr eD) ⟨QV _,[],0,.nil,by rw[←eD];exact WU _ rfl⟩
 have st3:tn 0 (s2.heap.push {cls:=.type "list",dict:=none,data:=.seq ([]:Yd).toArray}):=T.keep _ _ _ st2 λb _ o e=>WM _ e
 have hfpD:∀b∈L,b≠D:=λb f z=>by
  obtain⟨o,ho,_⟩:=T.obj _ _ st2 b f
  have:=WX ho
  rw[z,←eD]at this;exact Vc _ this
 have f3:∀b∈L,N1 X pins (upd H2 D<|.lst []) b:=λb f=>⟨by rw[XD (hfpD b f)];exact(f2 b f).1,(f2 b f).2⟩;generalize es3:({s2 with heap:=s2.heap.push {cls:=.type "list",dict:=none,data:=.seq ([]:Yd).toArray}}:Shared)=l at *
 have st3':tn 0 l.heap:=by rw[←es3];exact st3
 generalize eH3:upd H2 D (.lst [])=H3 at *;refine wpAny_newFunctionEnv S.nocell (by intro y hy;simp at hy) (λh₁ E B=>?_) S.kind;have hh3:l.heap=s2.heap.push {cls:=.type "list",dict:=none,data:=.seq ([]:Yd).toArray}:=by rw[←es3]
 rw[hh3]at E B;rw[←hh3]at E B;have old:=λb o e=>B.extBut b o (Qj<|WX e) (WM _ e)
 have hC0:l.heap.get? l.heap.objs.size=none:=by
  cases e:l.heap.get? l.heap.objs.size with
  |none=>rfl
  |some o=>exact absurd (WX e) (Vc _)
 generalize eC:l.heap.objs.size=C at *;have hH3C:=I3.hok.fresh (Vr eC)
 have OK:(KG X N' G U C l H3 L).Ok:=by
  refine⟨I.ok.mod,?_,I.ok.glob,I.ok.blt,Vr eC,λx y c h1 h2=>I.ok.inj x y c (p1 x c h1) (p1 y c h2),?_,(λx c hx=>by cases hx),I.ok.hd,I.ok.frames,.inl rfl,?_,I3.bs,WW I.ok.bsz I3.sz,?_,?_,I3.stack,I3.stkFree⟩
  ·exact S.kind
  ·intro x hx;have hx':=hx.imp Gs Gs
   have hfr:(x,NameKind.free)∈G.names:=by
    rcases hx' with⟨k,hm,rfl|rfl⟩|⟨k,hm,rfl|rfl⟩
    ·exact absurd rfl (S.nocell _ hm)
    ·exact hm
    ·exact hm
    ·exact hm
   exact p3 _ hfr rfl
  ·intro b f;refine⟨λz=>?_,λx c hx=>(f3 b f).2.2.2.2.1 x c (p1 x c hx)⟩;obtain⟨o,ho,_⟩:=T.obj _ _ st3' b f;have z':b=C:=z;rw[z',hC0]at ho;cases ho
  ·intro b o f hx;obtain⟨_,_,_,q,_,_⟩:=f3 b hx;rcases q with q|q
   ·exact I.ok.noex b o f q
   ·have:=Q2 (WX f) (WW I.ok.bsz q)
    exact Vc _ this
  ·intro b f hz;rcases WZ.mp (I.stkSub b hz)with q|q
   ·exact(f3 b f).2.1 q
   ·exact(f3 b f).2.2.1 q
 have hlen0:(atStart φ σ).length=N'.length:=by unfold atStart;rw[WH];exact S.len
 have I4:Inv (KG X N' G U C l H3 L) [] (atStart φ σ) H3 {l with heap:=h₁,toks:=l.toks+([]:List (Str×Value)).length}:=by
  refine⟨OK,rfl,I3.bare,Un.kept old,⟨_,E,λi x v h1 h2 h3=>?_⟩,λx c hx=>?_,hH3C,λx c hx=>I3.freeC x c (p1 x c hx),λp hp=>?_,I3.hok.kept old,hlen0⟩
  ·obtain⟨j,hj,hv⟩:=Zbv h2;obtain⟨hN,hfr⟩:=S.pick i x j h1 hj;obtain⟨m,_,hl⟩:=I3.loc;have hm:=V5 hfr;have M:=S.frees _ hm rfl;obtain⟨u,ru,lk⟩:=hl j x v hN hv (.inr<|.inl M);refine⟨u,ru,.inr ⟨.inl (Os S.okind hfr M),?_⟩⟩;obtain⟨c,hc⟩:=p3 _ hm rfl;rcases lk with⟨hk,_⟩|⟨_,c',hc',hcl'⟩
   ·have hk':X.env.scope.names.lookup x=some .local:=hk;rw[M]at hk';cases hk'
   ·have e:=p1 _ _ hc;rw[hc']at e;cases e
    obtain⟨o,ho,hd⟩:=hcl';exact⟨_,hc,o,old _ o ho,hd⟩
  ·obtain⟨v,hv⟩:=I3.cell x c (p1 x c hx);obtain⟨o,ho,hd⟩:=hv;exact⟨v,o,old _ o ho,hd⟩
  ·exact absurd hp (by simp[KG])
 have st4:=T.keep _ _ _ st3' λb _ o e=>old b o e
 have stat:∀{H':Hp},(∀b∈L,H' b=none)->∀b∈L,N1 (KG X N' G U C l H3 L) [] H' b:=λhn b f=>
  ⟨hn b f,(OK.exf b f).1,OK.exfs b f,.inl f,(OK.exf b f).2,λp hp=>absurd hp (by simp[KG])⟩
 obtain⟨hPG,hPI,hPE⟩:=hin U C l H3 L
 have loop:codeAny (model X.prog X.w) X.A (.compLoop (.ListComp elt [⟨tg,iter,ifs,0⟩] G pos) 0 (.ref it) (.ref D)<|compEnvC G U C X.env) (compPost (model X.prog X.w) X.A X.xe use QQ (.ref D) C) {l with heap:=h₁,toks:=l.toks+([]:List (Str×Value)).length}:=by
  refine Znn (λn s'=>∃i ys σ' H',Inv (KG X N' G U C l H3 L) [] σ' H' s'/\Sub (atStart φ σ) σ'/\tn i s'.heap/\(∀b∈L,H' b=none)/\W i n ys H') ?_ m0 ⟨0,[],_,_,I4,Sub.refl,st4,λb f=>(f3 b f).1,w0⟩;rintro n s5 ⟨i,ys,σ5,H5,I5,sub5,st5,fr5,w5⟩;have I5':=Own.Inv.weak I5 sub5;rcases turn i n ys H5 w5 with⟨stop,qn⟩|⟨go,step⟩
  ·refine thn (T.done (KG X N' G U C l H3 L) rfl rfl rfl hcalm i [] s5 _ H5 _ I5' (stat fr5) st5 stop) ?_;rintro r s6 ⟨hr,I6⟩;subst hr;obtain⟨m,hn,_⟩:=I6.loc;obtain⟨hh,gg,dd,tt,oo⟩:=s6;obtain rfl:=I6.os;have R:Inv X pins σ H5 {l with heap:=hh,gens:=gg,drawn:=dd,toks:=tt}:=I3.call I6.base I6.hok I6.bare λb f=>⟨(f3 b f).2.2.2.1,(f3 b f).2.1,(f3 b f).2.2.2.2.1,(f3 b f).2.2.2.2.2⟩
   have hC3:=Vr eC;obtain⟨q0,q1,q2,q3,q4,q5⟩:=I3.fpOk hC3 hH3C;refine fin D C H5 _ qn R ⟨m,hn⟩ I6.free q1 (WW I3.sz hC3) q4 q5 q2
  ·refine thn (T.item (KG X N' G U C l H3 L) rfl rfl rfl hcalm i [] s5 _ H5 _ I5' (stat fr5) st5 go) ?_;rintro r s6 ⟨u,hr,h6⟩;subst hr;refine thn h6 ?_;rintro _ s7 ⟨x,H7,I7,r7,y7,st7,fr7⟩;have I7':=I7.pinned (stat fr7) (T.obj _ _ st7);refine thn (hPG _ s7 _ H7 x u _ I7' r7<|step x H7 y7) ?_;rintro _ s8 ⟨σ8,H8,I8,sub8,q8⟩;refine thn (hPI _ s8 σ8 H8 _ I8 q8) ?_;rintro ok s9 ⟨H9,I9,q9⟩
   have again:∀{Y:Shared} {N:Hp} {ys':List V} {m':Nat},Inv (KG X N' G U C l H3 L) ([]++B4 L s7.heap) σ8 N Y->W (i+1) m' ys' N->∃i ys σ' H',Inv (KG X N' G U C l H3 L) [] σ' H' Y/\Sub (atStart φ σ) σ'/\tn i Y.heap/\(∀b∈L,H' b=none)/\W i m' ys H':=λ{Y N ys' m'} J10 w10=>by
    refine⟨i+1,ys',σ8,N,J10.unpinned,sub8,T.keep _ _ _ st7 λb f o e=>(J10.pin (b,o)<|Q1 _<|Q1 _<|AK f e).1,λb f=>?_,w10⟩;obtain⟨o,e,d⟩:=T.obj _ _ st7 b f;exact(J10.pin (b,o)<|Q1 _<|Q1 _<|AK f e).2.1
   cases ok with
   |false=>
    obtain⟨m',hm,w'⟩:=q9;exact⟨m',hm,again I9 w'⟩
   |true=>
    refine thn (hPE _ s9 σ8 H9 _ I9 q9) ?_;rintro xv Y ⟨y,N,I10,r10,hD,hl,m',hm,w'⟩;refine thn (Fl _ Y σ8 N (.ref D) [y] (.ref D) [xv] (λ_ H11=>H11=upd N D (.lst (ys++[y]))) I10 rfl (.cons r10 .nil) ⟨D,ys,y,rfl,rfl,hD,hl,rfl⟩) ?_;rintro _ s11 ⟨_,H11,I11,_,e11⟩;subst e11;exact⟨m',hm,again I11 w'⟩
 refine codeAny_compStart_list loop (T.self _ 0 _ _ _ st4 loop)
def CP{r iter v p pos z g tc te}(n:X.calm=true)(S:Be X N' φ u)(J:PI X v iter z)(w:∀y C f l ex,PG (KG X N' u y C f l ex) v g/\Sr (KG X N' u y C f l ex) p tc/\PE (KG X N' u y C f l ex) r te)(B:autoParam (∀x,foldedSetIterable iter X.env x=pure x) au_3):PE X (.ListComp r [⟨v,iter,p,0⟩] u pos) (Ff φ z g tc te):=by
 intro pins s σ H Q I h;refine Zbo n S J w B I h λD C H5 s6 q R G Y U T N M c5=>?_;obtain⟨m,E⟩:=G;exact⟨m,E,λh' A=>⟨.ref D,H5,R.turned (λb o L e=>A.extBut b o L e) Y U (.inr T) N M,rfl,q⟩⟩
def Zir{u iter A n pos spos py M g tc te i y}(hN:X.N.Nodup)(hy:X.N[i]?=some y)(Q:X.env.scope.names.lookup y=some .local)(r:X.calm=true)(S:Be X N' φ w)(hi:PI X A iter M)(G:∀L C f l ex,PG (KG X N' w L C f l ex) A g/\Sr (KG X N' w L C f l ex) n tc/\PE (KG X N' w L C f l ex) u te)(hs:autoParam (∀x,foldedSetIterable iter X.env x=pure x) au_3)(E:autoParam (swapsWith (.ListComp u [⟨A,iter,n,0⟩] w pos) (some<|.Name y py) spos.line X.env=pure true) au_0) :
  PS X (.Assign [.Name y py] (.ListComp u [⟨A,iter,n,0⟩] w pos) spos) (Sn (Ff φ M g tc te)<|Bx i):=by
 intro pins s Y H D0 I h;rw[exec_Assign_Name_used _ _ _ _ E];refine WG (wpAny_standAt<|WG ?_);refine WG (QH (Zbo r S hi G hs I h λD C U s6 q R hm c0 c1 c2 c3 c4 c5=>?_) (λ_ s' z=>WJ (WJ z)) λ_ _ e=>e);obtain⟨m,B,es,ep,hoC,J,rC⟩:=hm
 have R2:Inv X (pins++[(C,B)]) Y U s6:=R.pins_of λp hp=>(Qm.mp hp).elim (λz=>R.pin p (Q1 _ z)) λz=>by
  grind
 refine wpAny_assign_Name (Ax R2 hN hy (.inl Q) (v:=.ref D) rfl (λs7 T=>?_)<|.inr Q);refine⟨m,⟨B,es,ep,((T.pin (C,B)<|Q1 _<|Q1 _<|WR.mpr rfl).1),J,rC⟩,λh' sb=>?_⟩;exact⟨_,U,T.unpinned.turned (λb o hb e=>sb.extBut b o hb e) c0 c1 (.inr c2) c3 c4,q⟩
noncomputable def BE(sc f:Scope)(N N':Ye)(φ:Yb):Bool:=
 sc.kind == .function&&f.kind == .function&&(sc.names.all λy=>y.2 != .cell&&(y.2 != .local || sc.names.lookup y.1==some .local)&&(y.2 != .free || f.names.lookup y.1==some .cell)) &&
  φ.length==N'.length&&((N'.zip φ).all λp=>match p.2 with|none=>true|some j=>N[j]? == some p.1&&sc.names.lookup p.1==some .free)
def Be.of {N'}{φ g} (h:BE g X.env.scope X.N N' φ=true):Be X N' φ g:=by
 unfold BE at h;simp only[Qz,beq_iff_eq,VI,JS,bne_iff_ne,ne_eq]at h;obtain⟨⟨⟨⟨v,u⟩,s⟩,r⟩,p⟩:=h;refine⟨v,u,λy f=>(s y f).1.1,λy f w=>?_,λy f z=>?_,r,λi x j o n=>?_⟩
 ·grind
 ·grind
 ·have l:(N'.zip φ)[i]?=some (x,some j):=by rw[List.getElem?_zip_eq_some];exact⟨o,n⟩
  have:=p _ (Qk l)
  grind
end Own
namespace SetR
open PySem PySem.Spec PyProof.Rows L2
def Ris(xs:Array Nat):Prop:=∀i j,i<j->j<xs.size->xs.getD i 0<xs.getD j 0
def Zb7{xs:Array Nat}{i a b}(h:i<xs.size):xs.getD i a=xs.getD i b:=by grind
def Zgg(R:Ris xs)(j:Nat):∀fuel lo f,f-lo<=fuel->lo<=f->f<=xs.size->(∀k,k<lo->xs.getD k 0<j)->(∀k,f<=k->k<xs.size->j<=xs.getD k 0)->
  let r:=SetTable.below.go xs j fuel lo f
  r<=xs.size/\(∀k,k<r->xs.getD k 0<j)/\∀k,r<=k->k<xs.size->j<=xs.getD k 0:=by
 intro fuel
 induction fuel with
 |zero=>
  intro lo f x w n l h;have e:lo=f:=by lia
  subst e;exact⟨n,l,h⟩
 |succ fuel s=>
  intro lo f x w n l h;show(let r:=(if lo<f then(if xs.getD ((lo+f) / 2) j<j then SetTable.below.go xs j fuel ((lo+f) / 2+1) f else SetTable.below.go xs j fuel lo ((lo+f) / 2))else lo);r<=xs.size/\(∀k,k<r->xs.getD k 0<j)/\∀k,r<=k->k<xs.size->j<=xs.getD k 0);by_cases u:lo<f
  ·rw[WQ u];have o:(lo+f) / 2<xs.size:=by lia
   by_cases g:xs.getD ((lo+f) / 2) j<j
   ·rw[WQ g];refine s _ _ (by lia) (by lia) n (λk v=>?_) h;rw[Zb7 o]at g;by_cases e:k=(lo+f) / 2
    ·rw[e];exact g
    ·exact Jg (R k _ (by lia) o) g
   ·rw[WN g];refine s _ _ (by lia) (by lia) (by lia) l (λk v p=>?_);rw[Zb7 (b:=0) o]at g;by_cases e:k=(lo+f) / 2
    ·rw[e];lia
    ·have:=R _ k (show(lo+f) / 2<k by lia) p
     lia
  ·rw[WN u];have e:lo=f:=by lia
   subst e;exact⟨n,l,h⟩
def Hi(R:Ris xs)(j:Nat):SetTable.below xs j<=xs.size/\(∀k,k<SetTable.below xs j->xs.getD k 0<j)/\∀k,SetTable.below xs j<=k->k<xs.size->j<=xs.getD k 0:=
 Zgg R j xs.size 0 xs.size (by simp) (by simp) (by simp) (λk f=>by lia) (λk h g=>by lia)
def Zqu(R:Ris xs){i}(f:i<=xs.size){slot}(l:∀k,k<i->xs.getD k 0<slot)(g:∀k,i<=k->k<xs.size->slot<=xs.getD k 0):SetTable.below xs slot=i:=by
 obtain⟨a,b,c⟩:=Hi R slot;rcases Nat.lt_trichotomy (SetTable.below xs slot) i with h|h|h
 ·grind
 ·lia
 ·grind
def Rise(xs:Array Nat):Prop:=xs.toList.Pairwise (· < ·)
def Rise.ris (h:Rise xs):Ris xs:=by
 intro i j f g;have l:i<xs.size:=by lia
 have:=(Q7.mp h) i j (by omega) (by omega) f
 simp_all
def Zqq(h:Rise xs)(v:xs[SetTable.below xs j]?≠some j):Rise (SetTable.insertAt xs (SetTable.below xs j) j):=by
 obtain⟨a,b,c⟩:=Hi h.ris j;generalize SetTable.below xs j=p at *;unfold Rise;rw[SetTable.toList_insertAt];refine QY.mpr ⟨h.sublist (J4 _ _),QO.mpr ⟨λy g=>?_,h.sublist (List.drop_sublist _ _)⟩,λx hx y g=>?_⟩
 ·obtain⟨k,l,e⟩:=List.mem_drop_iff_getElem.mp g
  have f:p+k<xs.size:=by
   simp only[Q8]at l;lia
  have z:=c (p+k) (by lia) f;have u:xs.getD (p+k) 0=y:=by simpa [Array.getD,f]using e
  rcases Ui j y with s|s
  ·exact s
  ·have ey:y=j:=by lia
   exfalso;rcases Nat.eq_zero_or_pos k with rfl|w
   ·apply v;rw[QR (by lia)]
    have:xs[p]=y:=by simpa using e
    rw[this,ey]
   ·have B:=h.ris p (p+k) (by lia) f;have A:=c p (WS _) (by lia);lia
 ·have n:x<j:=by
   obtain⟨k,l,e⟩:=List.mem_take_iff_getElem.mp hx;have r:k<p:=by lia
   have o:k<xs.size:=by lia
   have:=b k r
   have u:xs.getD k 0=x:=by simpa [Array.getD,o]using e
   lia
  rcases WZ.mp g with rfl|g
  ·exact n
  ·obtain⟨k,l,e⟩:=List.mem_drop_iff_getElem.mp g
   have f:p+k<xs.size:=by
    simp only[Q8]at l;lia
   have z:=c (p+k) (by lia) f;have u:xs.getD (p+k) 0=y:=by simpa [Array.getD,f]using e
   lia
structure Tb (b:Bool) (t:SetTable):Prop where
 led:t.led=b
 dum:t.dummies=#[]
 ris:Rise t.place
def Zat(j:Nat):SetTable.has #[] j=false:=rfl
def Tb.fresh (b:Bool):Tb b (.fresh 0 0 b):=⟨rfl,rfl,List.Pairwise.nil⟩
def Zu3(n:Nat):Rise (Array.range n):=by
 unfold Rise;rw[Array.toList_range];exact List.pairwise_lt_range
def Tb.stand (h:Tb b t) (n:Nat):Tb b (t.standIn n):=⟨h.led,rfl,Zu3 n⟩
def Tb.orStand (h:Tb b t) (n:Nat):Tb b (t.orStandIn n):=by
 unfold SetTable.orStandIn;split
 ·lia
 ·exact h.stand n
def Tb.plainOff (h:Tb b t):Tb b {t with plain:=false}:=⟨h.led,h.dum,h.ris⟩
def Tb.put (h:Tb b t) {j} (f:t.place[SetTable.below t.place j]?≠some j):Tb b (t.put j).1:=by
 refine⟨h.led,?_,Zqq h.ris f⟩;show(if SetTable.has t.dummies j=true then _ else t.dummies)=#[];rw[h.dum,Zat];rfl
def Zni(h:Tb b t)(f:Nat->Int)(z:Int):∀fuel p j d,p.dummy=none->SetTable.probe.go t f z fuel p=some (.empty j d)->d=none/\t.place[SetTable.below t.place j]?≠some j:=by
 intro fuel
 induction fuel with
 |zero=>intro p j d _ e;cases e
 |succ fuel n=>
  intro p j d o e;unfold SetTable.probe.go at e
  have l:∀q,q.dummy=none->(t.advance q).dummy=none:=λq hq=>by
   unfold SetTable.advance;split
   ·exact hq
   ·exact hq
  cases g:t.slot p.j with
  |empty=>
   rw[g]at e;unfold SetTable.slot at g
   grind
  |dummy=>
   unfold SetTable.slot at g
   dsimp only at g
   split at g
   ·cases g
   ·rw[h.dum,Zat]at g;simp at g
  |live i=>
   rw[g]at e
   dsimp only at e
   split at e
   ·cases e
   ·exact n _ j d (l p o) e
def Tb.layNew (h:Tb b t) (es:Yk) (z:Int) (x:Value):Tb b (PySem.layNew t es z x).2.1:=by
 unfold PySem.layNew;split
 ·rename_i slot wasDummy e
  have f:t.place[SetTable.below t.place slot]?≠some slot:=by
   unfold SetTable.freeSlot SetTable.probe at e;split at e
   ·rename_i j dummy g;obtain⟨n,l⟩:=Zni h _ _ _ _ _ _ rfl g
    grind
   ·grind
  exact(h.put f).orStand _
 ·exact h.stand _
def Zpj(n:Nat)(f:Nat->Option Nat):((List.range n).filterMap λj=>(f j).map (j,·)).Pairwise (λa b=>a.1<b.1):=by
 refine List.Pairwise.filterMap _ ?_ List.pairwise_lt_range;intro a l h b o r g;cases e:f a with
 |none=>grind
 |some v=>
  cases p:f l with
  |_=>grind
def Tb.relayAll (h:Tb b t) (es:Yk) (n:Nat):Tb b (PySem.relayAll t es n).2.1:=by
 unfold PySem.relayAll;split
 ·rename_i l order e
  dsimp only
  split
  ·unfold SetTable.relaid SetTable.laid at e;cases f:SetTable.layClean (SetTable.sizeAbove n-1) (es.map (·.1))with
   |none=>grind
   |some owner=>
    rw[f]at e;have g:=QB Prod.fst (Qb e);subst g;refine⟨h.led,rfl,?_⟩;show(List.map (λx=>x.fst) ((List.range (SetTable.sizeAbove n-1+1)).filterMap λj=>(owner.getD j none).map (j,·))).toArray.toList.Pairwise (· < ·);rw[List.toList_toArray,QJ];exact Zpj _ _
  ·exact h.stand _
 ·exact h.stand _
noncomputable def keyOf(e:Int×Value):Int:=match e.2 with
 | .int k _=>k
 |_=>0
def Ent(e:Int×Value):Prop:=∃(k:Int) (t:Tok),e=(hashInt k,.int k t)
section
variable (prog:Program) (w:World)
noncomputable def Ti(w:World):Bool:=w.params.followText "set-order"
structure KI (h:Heap) (a:Addr) (js:ZX) (es:Yk) (ep:Nat) (t:SetTable):Prop where
 obj:∃o,h.get? a=some o/\o.ExactSet/\o.data=.set es ep t
 ent:∀e∈es.toList,Ent e
 per:(es.toList.map keyOf).Perm js
 nod:js.Nodup
 few:es.size<scanBound
 fit:t.fits es.size=true
 tab:Tb (!Ti w) t
def SetB(h:Heap)(a:Addr)(f:ZX):Prop:=∃g l t,KI w h a f g l t
end
section
variable {prog:Program}{w:World}{A:Around}{E:Ya}{s:Shared}
def Ent.elems (h:∀e∈l,Ent e):ElemsOf (intKind prog w) l:=λe f=>by
 obtain⟨k,t,rfl⟩:=h e f;exact⟨⟨k,intKind_is _ _ _ _,rfl⟩,rfl⟩
def Ip(h:Ent e)(k:Int):(intKind prog w).is k e.2=decide (k=keyOf e):=by
 obtain⟨f,t,rfl⟩:=h;show Value.isInt k (.int f t)=decide (k=f);by_cases e:k=f
 ·subst e;simp[Value.isInt]
 ·rw[Ql e];simp[Value.isInt];lia
def SetB.len (S:KI w h a f es ep t):es.size=f.length:=by
 have:=S.per.length_eq
 grind
def SetB.at {a l} (S:SetB w h a l) (k:∀o,h.get? a=some o->h'.get? a=some o):SetB w h' a l:=by
 obtain⟨p,u,t,⟨o,n,r⟩,b,c,d,e,f,g⟩:=S;exact⟨p,u,t,⟨o,k o n,r⟩,b,c,d,e,f,g⟩
def KI.store {es f}{ep t t'} (S:KI w h a z es ep t) (y:∀e∈f.toList,Ent e) (x:(f.toList.map keyOf).Perm g) (v:g.Nodup) (u:f.size<scanBound)
  (r:t'.fits f.size=true) (p:Tb (!Ti w) t'):KI w (h.update a<|Obj.putSet f t') a g f (ep+1) t':=by
 obtain⟨o,n,hx,l⟩:=S.obj;refine⟨⟨{o with data:=.set f (ep+1) t'},?_,hx,rfl⟩,y,x,v,u,r,p⟩
 have q:=QC (Obj.putSet f t') n (by rw[putSet_of f t' l];rfl);rwa[putSet_of f t' l]at q
def O8{g:Bool->Sem Unit}(U:∀b B L,L () B->wpAny (model prog w) A (g b) L E B){a N h}{es f}{ep t t'}(S:KI w s.heap a N es ep t)(J:∀e∈f.toList,Ent e)(H:(f.toList.map keyOf).Perm h)(G:h.Nodup)(r:f.size<scanBound)(h5:t'.fits f.size=true)(C:Tb (!Ti w) t'){d R}(fin:∀h',Heap.SameBut a s.heap h'->SetB w h' a h->R (some true) {s with heap:=h'}) :
  wpAny (model prog w) A (do
    storeSet a f t'
    if (!d&&t'.tooFull)=true then do
      g (relayAll t' f<|SetTable.grown f.size).2.2
      storeSet a (relayAll t' f<|SetTable.grown f.size).1 (relayAll t' f<|SetTable.grown f.size).2.1
      pure (some true)
     else pure (some true)) R E s:=by
 obtain⟨o,T,hx,hd⟩:=S.obj;have x:=S.store J H G r h5 C;obtain⟨o1,n,Q,p⟩:=x.obj;have M:=QI s.heap a (Obj.putSet f t');refine WG (wpAny_storeSet_of T hd ?_<|J5 r);split
 ·have l:=relayAll_perm t' f (SetTable.grown f.size);have u:=relayAll_fits t' f (SetTable.grown f.size);have tt:=C.relayAll f (SetTable.grown f.size);generalize relayAll t' f (SetTable.grown f.size)=y at l u tt ⊢;obtain⟨v,t2,g2⟩:=y
  dsimp only at l u tt ⊢
  have z:v.size=f.size:=by rw[←Q8,l.length_eq,Q8]
  refine WG (U _ _ _<|WG<|wpAny_storeSet_of n p ?_<|J5<|by lia);exact WJ (fin _ (M.trans<|QI _ a _) ⟨_,_,_,x.store (λe Y=>J e (l.mem_iff.mp Y)) ((l.map keyOf).trans H) G (by rw[z];exact r) u tt⟩)
 ·exact WJ (fin _ M ⟨_,_,_,x⟩)
noncomputable def KH(f:ZX)(k:Int):ZX:=if k∈f then f else f++[k]
def Zuy{R}(S:SetB w s.heap a l)(room:l.length+1<scanBound)(fin:∀r h',Heap.SameBut a s.heap h'->SetB w h' a (KH l k)->R r {s with heap:=h'}) :
  wpAny (model prog w) A (setAddHashed a (.int k p)<|hashInt k) R E s:=by
 obtain⟨h,ep,t,S⟩:=S;obtain⟨o,U,hx,hd⟩:=S.obj;have el:=Ent.elems (prog:=prog) (w:=w) S.ent;have L:=SetB.len S;refine QZ (WG<|VD U hd S.fit ?_)
 dsimp only
 rw[byScan_of rfl S.few el];simp only[↓reduceIte];unfold setAddByScan;refine WG (WG<|wpAny_rule<|WG<|wpAny_setScan_of (intKind_is _ _ _ _) U hd S.fit el ?_);have G:∀z,z∈l↔∃e∈h.toList,keyOf e=z:=λz=>by rw[←S.per.mem_iff,Qf]
 cases q:List.findIdx? (λe=>(intKind prog w).is k e.2) h.toList with
 |some j=>
  dsimp only
  obtain⟨Y,Q,_⟩:=List.findIdx?_eq_some_iff_getElem.mp q
  have J:k∈l:=by
   rw[Ip (S.ent _<|Qc Y)]at Q;exact(G k).mpr ⟨_,Qc Y,(WO Q).symm⟩
  refine WJ (WJ ?_);have f:=fin false s.heap (Heap.SameBut.refl a s.heap);unfold KH at f;rw[WQ J]at f;exact f ⟨_,_,_,S⟩
 |none=>
  dsimp only
  have J:¬k∈l:=λL=>by
   obtain⟨e,he,M⟩:=(G k).mp L
   have:=List.findIdx?_eq_none_iff.mp q e he
   rw[Ip (S.ent e he),WL M.symm]at this;cases this
  have P:=layNew_perm t h (hashInt k) (.int k p);have F:=layNew_fits t h (hashInt k) (.int k p);have T:=S.tab.layNew h (hashInt k) (.int k p);change wpAny (model prog w) A (match layNew t h (hashInt k) (.int k p)with|(h,t,wasDummy,gave)=>_) _ _ _
  generalize layNew t h (hashInt k) (.int k p)=y at P F T ⊢;obtain⟨n,t1,d1,g1⟩:=y
  dsimp only at P F T ⊢
  rw[Array.toList_push]at P
  have e1:∀e∈n.toList,Ent e:=λe he=>by
   rcases Qm.mp (P.mem_iff.mp he)with he|he
   ·exact S.ent e he
   ·rw[WR.mp he];exact⟨k,p,rfl⟩
  have e2:(n.toList.map keyOf).Perm (l++[k]):=by
   refine(P.map keyOf).trans ?_;rw[WY];exact S.per.append_right _
  have e3:(l++[k]).Nodup:=QK.mpr ⟨S.nod,by simp,λx hx y hy=>by rw[WR.mp hy];rintro rfl;exact J hx⟩
  have e4:n.size<scanBound:=by
   rwa[←Q8,P.length_eq,WT,Q8,L]
  have g:=λh' v C=>by
   have f:=fin true h' v;unfold KH at f;rw[WN J]at f;exact f C
  have N:∀b {B:Shared} {H:Unit->Shared->Prop},H () B->wpAny (model prog w) A (match b with|true=>rule "set.scan.the-table-gave-way" |false=>pure ()) H E B:=λb B H u=>by cases b<;>first|exact WJ u|exact wpAny_rule u
  refine WG (N _ ?_);split
  ·refine WG ?_;rw[hashByValue_scannable 8 rfl];refine WJ (O8 (λb B H u=>N b u) S e1 e2 e3 e4 ?_ ?_ λh' v C=>WJ (g h' v C))
   ·split
    ·exact F
    ·exact SetTable.fits_plain_off F
   ·split
    ·exact T
    ·exact T.plainOff
  ·refine WG (WJ ?_);simp only[↓reduceIte];exact O8 (λb B H u=>N b u) S e1 e2 e3 e4 F T λh' v C=>WJ (g h' v C)
def Zo2{I C u P St}{ns:ZX}(W:Walks prog w A.in1 I C u ns.length P St)(S:Addr)(y:S∉C)(J:∀i v,P i v->∃t,v=.int (ns.getD i 0) t)(room:ns.length+1<scanBound):∀k i s h,ns.length-i=k->i<=ns.length->St i s.heap->SetB w s.heap S h->h.length<=i->
   (∀h' l,(∀b o,b∉S::u->s.heap.get? b=some o->h'.get? b=some o)->SetB w h' S ((ns.drop i).foldl KH h)->R (.ok<|.ret .none) {s with heap:=h',toks:=l})->
   codeAny (model prog w) A (.builtin "set.update.loop" ⟨[.ref S,.ref I],[]⟩) R s:=by
 have n:=λz=>y (W.sub _ z);intro k
 induction k with
 |zero=>
  intro i s h L N st B M fin;have ei:i=ns.length:=by lia
  refine QX Jv ?_;show wpAny _ A.in1 (pyNext (.ref I) >>= _) _ _ s;refine WG (W.done s _ _ (ei▸st) λh' l keep=>?_);show wpAny _ A.in1 (ret Value.none) _ _ _;refine WJ (fin h' l (λb o g e=>keep b o (λz=>g (Qs _ z)) e) ?_);rw[ei,Uj];exact B.at λo e=>keep S o n e
 |succ k H=>
  intro i s h L N st B M fin;have f:i<ns.length:=by lia
  refine QX Jv ?_;rw[Vt Jw _];show wpAny _ A.in1 (pyNext (.ref I) >>= _) _ _ s;refine WG (W.item i s _ _ f st λv Q G pv p keep1=>?_);obtain⟨t,rfl⟩:=J i v pv;have B1:=B.at λo e=>keep1 S o n e;unfold setAdd;refine WG (QZ<|QZ<|WG ((intKind prog w).pyHash (intKind_is _ _ _ _) ?_));refine Zuy B1 (by lia) λr h2 x Y=>?_
  have T:(KH h<|ns.getD i 0).length<=i+1:=by
   unfold KH;split
   ·lia
   ·simp;lia
  refine WJ ⟨Jp Jw _,H (i+1) _ _ (by lia) f (W.frame _ Q _ p λb g o e=>?_) Y T λh' l keep B'=>?_⟩
  ·rw[x.2 b (λz=>y (by rw[←z];exact g))];exact e
  ·refine fin h' l (λb o g e=>keep b o g ?_) ?_
   ·rw[x.2 b (λz=>g (by rw[z];exact Q9))];exact keep1 b o (λz=>g (Qs _ z)) e
   ·have U:ns.drop i=ns.getD i 0::ns.drop (i+1):=by
     rw[Qw f,WK,WI f];rfl
    rwa[U]
def Zvb(a:Value){Q}(fin:Q (.ref s.heap.objs.size) {s with heap:=s.heap.push {cls:=.type "set",dict:=none,data:=.set #[] 0 (.fresh 0 0 (!Ti w))}}) :
  codeAny (model prog w) A (.call (.builtin "set.__new__") ⟨[.type "set",a],[]⟩) (wants Q E) s:=by
 refine codeAny_of_tree (?_);refine WG (JZ (F.newCall_set_1 a)<|WJ ⟨Jp F.plain_set_new _,QX F.entry_set_new ?_⟩);rw[(Vt (A:=A) F.plain_set_new ⟨[.type "set",a],[]⟩)];unfold Builtin.«set.__new__» Builtin.Frozenset.newClass;have f:=sub_set_self
 dsimp only
 wp_walk
 refine wpAny_askSetting (WJ<|?_)
 dsimp only
 simp only[newObj];exact WG (wpAny_alloc<|WJ<|WJ fin)
set_option maxHeartbeats 4000000 in
def Zlp{l:Addr}{f:Yj}{ns:ZX}{Q:Ya}(hh:A.handled=none)(hl:s.heap.IsList l f)(hi:IntsAre f.toList ns)(room:ns.length+1<scanBound)(fin:∀(h':Heap) (p:Nat),SetB w h' s.heap.objs.size (ns.foldl KH [])->(∀b o,b<s.heap.objs.size->s.heap.get? b=some o->h'.get? b=some o)->Q (.ref s.heap.objs.size) {s with heap:=h',toks:=p}) :
  wpAny (model prog w) A (call (.type "set") [.ref l]) Q E s:=by
 have hn:f.size=ns.length:=by have:=IntsAre.length hi;simpa using this
 obtain⟨mroC,mroT,mro⟩:=F.called_set.mro;have made:=F.called_set.made;have subs:=F.called_set.sub;refine wpAny_call (codeAny_of_tree<|show wpAny _ _ (callAny (.type "set") _) _ _ _ from ?_)
 refine WJ ⟨Code.quiet_builtin _ (by decide +kernel),QX F.entry_type_call ?_⟩;have wt:=Around.under_plain (A:=A) (weight_type_call_type "set" [.ref l] []) rfl;rw[wt];have nt:=F.called_set.notType;have cc:=F.called_set.canCreate;have tc:=F.typeCall_set_1 (.ref l)
 repeat (any_goals (first|assumption|wp_step))
 refine VH (Zvb (.ref l) (E:=E) (Q:=λobj U=>obj=.ref s.heap.objs.size/\U={s with heap:=s.heap.push {cls:=.type "set",dict:=none,data:=.set #[] 0 (.fresh 0 0 (!Ti w))}}) ⟨rfl,rfl⟩) λr U x=>?_
 cases r with
 |error e=>exact x
 |ok fl=>
  cases fl with
  |next=>exact x.elim
  |brk=>exact x.elim
  |cont=>exact x.elim
  |ret obj=>
   obtain⟨rfl,rfl⟩:=x;generalize H:s.heap.push {cls:=.type "set",dict:=none,data:=.set #[] 0 (.fresh 0 0 (!Ti w))}=h;have g1:h.get? s.heap.objs.size=some {cls:=.type "set",dict:=none,data:=.set #[] 0 (.fresh 0 0 (!Ti w))}:=by rw[←H];exact WU _ rfl
   have hT:Shared.TypeIs {s with heap:=h} (.ref s.heap.objs.size) "set":=⟨_,g1,rfl⟩
   have ini:=F.called_set.init.lookup;have inb:=F.called_set.init.bind (.ref s.heap.objs.size)
   repeat (any_goals (first|assumption|wp_step))
   refine VH (codeAny_call_builtin (R:=wants (λr T=>r=.none/\∃h' p,T={s with heap:=h',toks:=p}/\SetB w h' s.heap.objs.size (ns.foldl KH [])/\(∀b o,b<s.heap.objs.size->s.heap.get? b=some o->h'.get? b=some o)) E)
    F.called_set.init.plain F.entry_set_init (check_set_init_1 hT ?_)) λr2 T g=>?_
   ·obtain⟨ob,z,G,Y,C⟩:=hl;obtain⟨c1,d1,dt1,J⟩:=ob;simp only at G C;subst G;subst C;have y:h.get? l=some {cls:=.type "list",dict:=d1,data:=.seq f Y,slots:=J}:=by rw[←H];exact WM _ z
    have n:h.objs.size=s.heap.objs.size+1:=by rw[←H,Vn]
    have no1:=F.sub_list_set;have no2:=F.sub_list_frozenset;have no3:(Value.type "list" == Value.type "dict")=false:=by decide
    have L1:h.IsList l f:=⟨_,y,rfl,Y,rfl⟩;unfold Builtin.«set.__init__» noKeywords Builtin.Frozenset.updateFrom;generalize eP:pyIter=PI
    wp_walk
    subst eP;refine wpAny_pyIter_list L1 (WG<|JY ?_);have u:l<s.heap.objs.size:=WX z;have N:A.in1.in1.in1.handled=none:=by simp[hh]
    have M:l≠h.objs.size:=by rw[n];exact Qj (J6 u)
    have L:s.heap.objs.size∉[h.objs.size,l]:=by
     rw[n];simp only[WZ,JE,or_false,not_or];exact⟨Qj (V8 _),Vq u⟩
    have W0:=Walks.list (prog:=prog) (w:=w) N h.objs.size l M f;rw[hn]at W0;refine Zo2 (ns:=ns) W0 s.heap.objs.size L (λi v hv=>IntsAre.int_at hi i v (by rw[Va];exact hv)) room (ns.length-0) 0 _ [] rfl (QV _) ⟨⟨_,WU _ rfl,rfl,rfl⟩,L1.push _⟩ ?_ (QV _) λh' p keep B=>?_
    ·exact⟨#[],0,_,⟨_,WM _ g1,⟨rfl,rfl,rfl⟩,rfl⟩,λe he=>by simp at he,by simp,V9,by show(0:Nat)<4096;decide,rfl,Tb.fresh _⟩
    ·show wpAny _ _ _ _ _ _;refine WJ (show wpAny _ _ (ret Value.none) _ _ _ from WJ ⟨rfl,h',p,rfl,B,λb o hb e=>?_⟩)
     refine keep b o ?_ (WM _<|by rw[←H];exact WM _ e);rw[n];simp only[WZ,JE,or_false,not_or];exact⟨Qj hb,Qj (J6 hb)⟩
   ·cases r2 with
    |error e=>exact g
    |ok f2=>
     cases f2 with
     |next=>exact g.elim
     |brk=>exact g.elim
     |cont=>exact g.elim
     |ret r=>
      obtain⟨rfl,h',p,rfl,B,keep⟩:=g
      repeat (any_goals (first|assumption|wp_step))
      exact fin _ _ B keep
end
def si_slot:Slot "set_iterator" "__next__" "set_iterator.__next__":=
 Slot.of (owner:="set_iterator") (n:="__next__") (by rw[typeLookup_type,builtinLookup_eq_fast];kernel_rfl) (by decide +kernel) (by decide +kernel) (by decide +kernel)
  (by first|exact Or.inl (by decide +kernel)|exact Or.inr (by decide +kernel)) (by rw[isSubtype_type];kernel_rfl)
def Zmj:entryFor table "set_iterator.__next__"=some Builtin.«set_iterator.__next__»:=entryFor_of_tree rfl
def Zc0(a:Value):argsOk "set_iterator.__next__" ⟨[a],[]⟩:=by trivial
def Zmi:entryFor table "set.__iter__"=some Builtin.«frozenset.__iter__»:=entryFor_alias (id':="frozenset.__iter__") (by kernel_rfl) rfl (by decide +kernel) (by kernel_rfl)
def R5:Slot "set_iterator" "__iter__" "set_iterator.__iter__":=
 Slot.of (owner:="set_iterator") (n:="__iter__") (by rw[typeLookup_type,builtinLookup_eq_fast];kernel_rfl) (by decide +kernel) (by decide +kernel) (by decide +kernel)
  (by first|exact Or.inl (by decide +kernel)|exact Or.inr (by decide +kernel)) (by rw[isSubtype_type];kernel_rfl)
def Zsj:entryFor table "set_iterator.__iter__"=some Builtin.«dict_keyiterator.__iter__»:=entryFor_alias (id':="dict_keyiterator.__iter__") (by kernel_rfl) rfl (by decide +kernel) (by kernel_rfl)
def Ze6(a:Value):argsOk "set_iterator.__iter__" ⟨[a],[]⟩:=by unfold argsOk;kernel_rfl
def SI(h:Heap)(I a:Addr)(first:Value)(i n ep:Nat):Prop:=∃o,h.get? I=some o/\o.cls=.type "set_iterator"/\o.data=.fields #[first,.int i 0,.ref a,.int n 0,.int ep 0]
section
variable {prog:Program}{w:World}{A:Around}{E:Ya}{s:Shared}{I a:Addr}{first:Value}{i n ep:Nat}{js:ZX}{es:Yk}{t:SetTable}
def SI.typ (h:SI s.heap I a first i n ep):s.TypeIs (.ref I) "set_iterator":=let ⟨o,f,g,_⟩:=h;⟨o,f,g⟩
def SI.at (x:SI h I a first i n ep) (k:∀o,h.get? I=some o->h'.get? I=some o):SI h' I a first i n ep:=let ⟨o,f,r⟩:=x;⟨o,k o f,r⟩
noncomputable def F8(first:Value)(a I:Addr)(i ep:Int):Sem PySem.Fin:=
 match first with
 |Value.int slot _=>do
  match ←setNext a slot.toNat i.toNat ep.toNat with
  |some (x,next)=>
   setField (.ref I) 0 (rawInt next)
   setField (.ref I) 1 (rawInt (i+1))
   ret x
  |none=>
   setField (.ref I) 2 .none
   raiseNew (←newExc (.type "StopIteration") [])
 |_=>do
  let some places ←seqItems? first|unsupported "internal:set_iterator"
  match places[i.toNat]? with
  |some (.int place _)=>
   let x ←setNextDrawn a place.toNat ep.toNat
   setField (.ref I) 1 (rawInt (i+1))
   ret x
  |some _=>unsupported "internal:set_iterator"
  |none=>
   setField (.ref I) 0 (rawInt 0)
   setField (.ref I) 2 .none
   raiseNew (←newExc (.type "StopIteration") [])
def AA(f:SI s.heap I a first i es.size ep)(S:KI w s.heap a js es ep t)
  (body:wpAny (model prog w) A.in1 (F8 first a I i ep) (λfin l=>∃v,fin=.done (.ret v)/\Q (some v) l)
   (λe l=>wpAny (model prog w) A (isInstance e<|.type "StopIteration") (λb g=>b=true/\Q none g) E l) s) :
  wpAny (model prog w) A (pyNext<|.ref I) Q E s:=by
 obtain⟨o,u,C,x⟩:=id f;obtain⟨B,p,hx,r⟩:=S.obj;refine WG (JD<|Vh f.typ si_slot<|QE si_slot f.typ Zmj ?_<|Zc0 _);refine WG (WJ<|WG<|Jy u x ?_);refine WG (wpAny_setEntries_of p r S.fit ?_);rw[WN (by simp)];refine QH body (λfin l h=>?_) λe l h=>?_
 ·obtain⟨v,e,q⟩:=h;exact⟨v,e,WJ q⟩
 ·refine WG (QH h (λb g y=>?_) λ_ _ z=>z);obtain⟨rfl,q⟩:=y;exact WJ q
def Zau{Q:Yh->Shared->Prop}{o}{vs}(l:A.handled=none)(h:s.heap.get? I=some o)(p:o.data=.fields vs)(r:2<vs.size)(fin:∀h',Heap.ExtBut I s.heap h'->Q none {s with heap:=h'}){R:PySem.Fin->Shared->Prop} :
  wpAny (model prog w) A.in1 (do setField (.ref I) 2 .none;raiseNew (←newExc (.type "StopIteration") [])) R (λe g=>wpAny (model prog w) A (isInstance e<|.type "StopIteration") (λb f=>b=true/\Q none f) E g) s:=by
 refine WG (Vf h p r<|WG ?_);refine WG (Qq ?_<|by size_fits);refine WG (JZ (by first|rfl|(simp only[firstArgMember];rfl))<|Qq ?_<|by size_fits)
 simp only[raiseNew];refine WG (wpAny_handled ?_);rw[l];refine WG (WJ<|wpAny_throw ?_);refine JF ⟨_,WU _ rfl,rfl⟩ isSubtype_stop ?_;exact⟨rfl,fin _ (((QI ..).extBut.push _).push _)⟩
def SI.step1 {x:Value} (g:s.heap.get? I=some o) (h:o.cls=.type "set_iterator") (f:o.data=.fields #[first,.int i 0,.ref a,.int n 0,.int ep 0]) :
  SI (s.heap.update I<|Obj.mapFields (·.setIfInBounds 1 (rawInt ((i:Int)+1)))) I a first (i+1) n ep:=
 ⟨_,QC _ g (Vo<|QP f _),(J7 ..).trans h,by rw[QP f];simp[rawInt]⟩
def A4(h:Q (Ti w) s):wpAny (model prog w) A setsByText Q E s:=WG (wpAny_askSetting<|WJ h)
def Zg4(S:KI w s.heap a js es ep t)(l:Ti w=true)(h:Q (((pickOrder (w.params.setOrder a ep) es)[i]?).map λe=>(e.2,slot)) s) :
  wpAny (model prog w) A (setNext a slot i ep) Q E s:=by
 obtain⟨o,f,hx,g⟩:=S.obj;refine WG (VD f g S.fit<|WG<|A4 ?_);rw[l,WQ rfl,WN (by simp)];refine WG ?_;refine WG (VD f g S.fit<|WG<|A4 ?_);rw[l,WQ rfl];exact WG (wpAny_askSetting<|WJ<|WJ h)
def Zn9(S:KI w s.heap a js es ep t)(l:Ti w=false)(o:(!t.plain&&decide (es.size>1))=false)(h:Q (match es[SetTable.below t.place slot]?,t.place[SetTable.below t.place slot]? with|some (_,x),some j=>some (x,j+1)|_,_=>none) s):wpAny (model prog w) A (setNext a slot i ep) Q E s:=by
 obtain⟨r,f,hx,g⟩:=S.obj;refine WG (VD f g S.fit<|WG<|A4 ?_);rw[l,WN (by decide)];show wpAny _ _ (if (!t.plain&&decide (es.size>1))=true then _ else _) _ _ _;rw[o,WN (by decide)];refine WG (?_:wpAny _ _ (if (!t.led && !es.isEmpty)=true then unsupported "set:maker-not-led" else pure ()) _ _ _);have p:t.led=true:=by rw[S.tab.led,l];rfl
 rw[p,WN (by simp)];exact WJ (WJ h)
def Zog{p e}(S:KI w s.heap a js es ep t)(l:es[p]?=some e)(h:Q e.2 s):wpAny (model prog w) A (setNextDrawn a p ep) Q E s:=by
 obtain⟨o,f,hx,g⟩:=S.obj;refine WG (VD f g S.fit ?_)
 dsimp only
 rw[WN (by simp),l];exact WJ h
def Zta{m}(f:m≠0)(h:∀k d,k<m->Q k {s with drawn:=d}):wpAny (model prog w) A (choose g m) Q E s:=by
 intro Γ p l;exact⟨f,h _ _ (Nat.mod_lt _<|Nat.pos_of_ne_zero f)⟩
theorem Gh{f:Type}:∀(xs:List f) k h,(xs[k]::xs.eraseIdx k).Perm xs
 |x::r,0,_=>List.Perm.refl _
 |x::r,k+1,h=>by
  have g:k<r.length:=by grind
  exact(List.Perm.swap _ _ _).trans (List.Perm.cons _<|Gh r k g)
def Zkh:∀m xs s {Q:List u->Shared->Prop},xs.length=m->(∀ys d,ys.Perm xs->Q ys {s with drawn:=d})->wpAny (model prog w) A (drawOrder m xs) Q E s:=by
 intro m
 induction m with
 |zero=>
  intro xs s Q f h;have e:=VP.mp f;subst e;exact WJ (h [] s.drawn<|List.Perm.refl _)
 |succ m l=>
  intro xs s Q f h;cases xs with
  |nil=>grind
  |cons x r=>
   unfold drawOrder;refine WG (Zta (by simp) λk d g=>?_);rw[WI g];refine WG (l _ _ (by grind) λys p o=>WJ ?_);exact h _ p ((List.Perm.cons _ o).trans (Gh _ _ g))
def KI.keep (S:KI w h a js es ep t) (k:∀o,h.get? a=some o->h'.get? a=some o):KI w h' a js es ep t:=by
 obtain⟨⟨o,l,r⟩,b,c,d,e,f,g⟩:=S;exact⟨⟨o,k o l,r⟩,b,c,d,e,f,g⟩
def Ma(f:SI s.heap I a first i n ep)(h:Q (.ref I) s):wpAny (model prog w) A (pyIter<|.ref I) Q E s:=by
 refine Jb f.typ R5 (QE R5 f.typ Zsj ?_<|Ze6 _);exact WJ ⟨_,rfl, "set_iterator",_,f.typ,si_slot.lookup,h⟩
def RP(hh:A.handled=none)(I a:Addr)(hne:a≠I)(vs:Yd)(hl:vs.length=es.size)(sl:Nat->Nat)(nx:∀A E s i Q,i<=es.size->KI w s.heap a js es ep t->Q ((vs[i]?).map λv=>(v,sl (i+1))) s->wpAny (model prog w) A (setNext a (sl i) i ep) Q E s) :
  Walks prog w A I [I,a] [I] es.size (λi v=>vs[i]?=some v) (λi h=>SI h I a (.int (sl i) 0) i es.size ep/\KI w h a js es ep t) where
 sub:=λb hb=>by simp at hb;simp[hb]
 frame:=λ_ _ _ st k=>⟨st.1.at λo e=>k I (by simp) o e,st.2.keep λo e=>k a (by simp) o e⟩
 item:=λi s Q E hi st fin=>by
  obtain⟨o,ho,hc,hd⟩:=id st.1;refine AA st.1 st.2 ?_;unfold F8
  dsimp only
  rw[Qx,Qx,Qx];refine WG (nx _ _ s i _ (Jf hi) st.2 ?_);have hi2:i<vs.length:=by lia
  rw[WI hi2];refine WG (Vf ho hd (by simp) ?_);have g1:=QC (Obj.mapFields (·.setIfInBounds 0 (rawInt (sl (i+1):Int)))) ho (Vo<|QP hd _);have d1:(Obj.mapFields (·.setIfInBounds 0 (rawInt (sl (i+1):Int))) o).data=.fields #[.int (sl (i+1)) 0,.int i 0,.ref a,.int es.size 0,.int ep 0]:=by rw[QP hd];simp[rawInt]
  refine WG (Vf g1 d1 (by simp) ?_);have sb:=(QI s.heap I<|Obj.mapFields (·.setIfInBounds 0 (rawInt (sl (i+1):Int)))).trans (QI _ I<|Obj.mapFields (·.setIfInBounds 1 (rawInt ((i:Int)+1))));refine WJ ⟨_,rfl,fin vs[i] _ s.toks (WI hi2) ⟨?_,st.2.keep λo e=>sb.extBut a o hne e⟩ λb o hb e=>sb.extBut b o (λz=>hb (by simp[z])) e⟩;exact SI.step1 (x:=.none) g1 ((J7 ..).trans hc) d1
 done:=λs Q E st fin=>by
  obtain⟨o,ho,hc,hd⟩:=id st.1;refine AA st.1 st.2 ?_;unfold F8
  dsimp only
  rw[Qx,Qx,Qx];refine WG (nx _ _ s es.size _ (WS _) st.2 ?_);rw[QS (by lia)];exact Zau hh ho hd (by simp) λh' eb=>fin h' s.toks λb o hb e=>eb b o (λz=>hb (by simp[z])) e
 self:=λ_ _ _ _ st fin=>Ma st.1 fin
def Zl4(hh:A.handled=none)(I a T:Addr)(hne:a≠I)(hT:T≠I)(ps:Yc)(hl:ps.length=es.size)(hps:∀p∈ps,p<es.size)(vs:Yd)(hvs:vs=ps.map λp=>((es[p]?).map (·.2)).getD .none) :
  Walks prog w A I [I,a,T] [I] es.size (λi v=>vs[i]?=some v) (λi h=>SI h I a (.ref T) i es.size ep/\KI w h a js es ep t/\∃o,h.get? T=some o/\∃c,o.data=.seq (ps.map λ(p:Nat)=>rawInt p).toArray c) where
 sub:=λb hb=>by simp at hb;simp[hb]
 frame:=λ_ _ _ st k=>⟨st.1.at λo e=>k I (by simp) o e,st.2.1.keep λo e=>k a (by simp) o e,let ⟨o,ho,c⟩:=st.2.2;⟨o,k T (by simp) o ho,c⟩⟩
 item:=λi s Q E hi st fin=>by
  obtain⟨o,ho,hc,hd⟩:=id st.1;obtain⟨oT,hoT,c,hdT⟩:=st.2.2;refine AA st.1 st.2.1 ?_;unfold F8
  dsimp only
  refine WG (wpAny_seqItems hoT hdT ?_);have hi2:i<ps.length:=by lia
  have e1:(ps.map λ(p:Nat)=>rawInt p).toArray[(i:Int).toNat]?=some (.int ps[i] 0):=by
   rw[Qx,List.getElem?_toArray,WV,WI hi2];rfl
  have hp:=hps _ (Qc hi2)
  dsimp only
  rw[e1]
  dsimp only
  have e3:vs[i]?=some (es[ps[i]]).2:=by rw[hvs,WV,WI hi2];simp[hp]
  refine WG (Zog st.2.1 (QR hp)<|WG<|Vf ho hd (by simp) ?_);have sb:=QI s.heap I (Obj.mapFields (·.setIfInBounds 1 (rawInt ((i:Int)+1))));exact WJ ⟨_,rfl,fin _ _ s.toks e3 ⟨SI.step1 (x:=.none) ho hc hd,st.2.1.keep λo e=>sb.extBut a o hne e,oT,sb.extBut T oT hT hoT,c,hdT⟩ λb o hb e=>sb.extBut b o (λz=>hb (by simp[z])) e⟩
 done:=λs Q E st fin=>by
  obtain⟨o,ho,hc,hd⟩:=id st.1;obtain⟨oT,hoT,c,hdT⟩:=st.2.2;refine AA st.1 st.2.1 ?_;unfold F8
  dsimp only
  refine WG (wpAny_seqItems hoT hdT ?_)
  have e1:(ps.map λ(p:Nat)=>rawInt p).toArray[(es.size:Int).toNat]?=none:=by
   rw[Qx,List.getElem?_toArray,WV,QS (by lia)];rfl
  dsimp only
  rw[e1]
  dsimp only
  refine WG (Vf ho hd (by simp) ?_);refine Zau (s:={s with heap:=_}) hh (QC (Obj.mapFields (·.setIfInBounds 0 (rawInt 0))) ho<|Vo<|QP hd _) (QP hd _) (by simp) λh' eb=>fin h' s.toks λb o hb e=>eb b o (λz=>hb (by simp[z])) ((QI s.heap I<|Obj.mapFields (·.setIfInBounds 0 (rawInt 0))).extBut b o (λz=>hb (by simp[z])) e)
 self:=λ_ _ _ _ st fin=>Ma st.1 fin
def Zfl(nx:Nat->Nat):∀m k left (f:Array o),left.length=m->(pickOrder.go nx m k left f).toList.Perm (f.toList++left):=by
 intro m
 induction m with
 |zero=>
  intro k left f h;have e:=VP.mp h;subst e;show f.toList.Perm (f.toList++[]);simp
 |succ m l=>
  intro k left f h;have g:nx k % left.length<left.length:=Nat.mod_lt _ (by lia);unfold pickOrder.go;rw[WI g];refine(l _ _ _<|by grind).trans ?_;rw[Array.toList_push,Jc];exact(Gh left _ g).append_left _
def Zcm(nx:Nat->Nat)(xs:Array f):(pickOrder nx xs).toList.Perm xs.toList:=by
 have:=Zfl nx xs.size 0 xs.toList #[] rfl
 simpa [pickOrder]using this
noncomputable def slotAt(t:SetTable)(i:Nat):Nat:=if i=0 then 0 else t.place.getD (i-1) 0+1
def Hy(h:t.fits m=true):t.place.size=m:=by
 simp only[SetTable.fits,Qz,beq_iff_eq]at h
 grind
def Zf0(S:KI w s.heap a js es ep t){i}(o:i<=es.size):SetTable.below t.place (slotAt t i)=i:=by
 have h:=Hy S.fit;have R:=S.tab.ris.ris;refine Zqu R (by lia) (λk l=>?_) λk p f=>?_
 ·unfold slotAt;rw[WN (by lia)];by_cases e:k=i-1
  ·rw[e];lia
  ·have:=R k (i-1) (by lia) (by lia)
   lia
 ·unfold slotAt;by_cases g:i=0
  ·grind
  ·rw[WN g]
   have:=R (i-1) k (by lia) f
   lia
def Zcv{A'}(L:A'.handled=none)(S:KI w s.heap a js es ep t)
  (fin:∀I fp (vs:Yd) St M d1,Walks prog w A' I fp [I] es.size (λi v=>vs[i]?=some v) St->St 0 M->(∀b∈fp,b=a\/s.heap.get? b=none)->vs.length=es.size->vs.Perm (es.toList.map (·.2))->
   s.heap.get? I=none->(∀b o,s.heap.get? b=some o->M.get? b=some o)->Q (.ref I) {s with heap:=M,drawn:=d1}) :
  wpAny (model prog w) A (pyIter<|.ref a) Q E s:=by
 obtain⟨ob,g,hx,h⟩:=S.obj;have hT:s.TypeIs (.ref a) "set":=⟨ob,g,hx.1⟩;have ha:=WX g
 have new:∀b,s.heap.objs.size<=b->s.heap.get? b=none:=λb f=>by
  cases e:s.heap.get? b with
  |none=>rfl
  |some o=>exact absurd (WX e) (Uh.mpr f)
 refine Jb hT F.slot_set_iter (QE F.slot_set_iter hT Zmi ?_<|F.args_set_iter_1 _);unfold Builtin.«frozenset.__iter__»;show wpAny _ _ (Builtin.Frozenset.sizeOf a >>= _) _ _ s;unfold Builtin.Frozenset.sizeOf;refine WG (WG<|wpAny_setEntries_of g h S.fit<|WJ ?_);refine WG ?_;unfold setDrawn;refine WG (VD g h S.fit<|WG<|A4<|WJ ?_)
 dsimp only
 change wpAny _ _ (if (!Ti w&&(!t.plain&&decide (es.size>1)))=true then _ else _) _ _ _;cases hd:(!Ti w&&(!t.plain&&decide (es.size>1)))with
 |false=>
  rw[WN (by decide)];refine WG (WJ<|WG<|wpAny_setEpoch_of g h S.fit<|WG<|Qq<|WJ ⟨_,rfl, "set_iterator",_,⟨_,WU _ rfl,rfl⟩,si_slot.lookup,?_⟩);have z:=Qj ha;have S1:KI w (s.heap.push {cls:=.type "set_iterator",data:=.fields [rawInt 0,rawInt 0,.ref a,rawInt es.size,rawInt ep].toArray}) a js es ep t:=S.keep λo e=>WM _ e
  have lt:∀b∈[s.heap.objs.size,a],b=a\/s.heap.get? b=none:=λb f=>by
   rcases WZ.mp f with rfl|f
   ·exact .inr (new _<|WS _)
   ·exact .inl (WR.mp f)
  cases f:Ti w with
  |true=>
   have r:((pickOrder (w.params.setOrder a ep) es).toList.map (·.2)).length=es.size:=by
    rw[WH,(Zcm _ _).length_eq];simp
   refine fin _ _ _ _ _ s.drawn (RP L s.heap.objs.size a z ((pickOrder (w.params.setOrder a ep) es).toList.map (·.2)) r (λ_=>0) λA E s i Q Y C q=>Zg4 C f ?_) ⟨⟨_,WU _ rfl,rfl,rfl⟩,S1⟩ lt r ((Zcm _ _).map _) (new _<|WS _) λb o e=>WM _ e;rw[WV]at q;rw[←Va];cases e:(pickOrder (w.params.setOrder a ep) es).toList[i]? with
   |none=>rw[e]at q;exact q
   |some x=>rw[e]at q;exact q
  |false=>
   have u:(!t.plain&&decide (es.size>1))=false:=by rw[f]at hd;simpa using hd
   refine fin _ _ _ _ _ s.drawn (RP L s.heap.objs.size a z (es.toList.map (·.2)) (by simp) (slotAt t) λA E s i Q Y C q=>Zn9 C f u ?_) ⟨⟨_,WU _ rfl,rfl,rfl⟩,S1⟩ lt (by simp) (List.Perm.refl _) (new _<|WS _) λb o e=>WM _ e;rw[Zf0 C Y];have hz:=Hy C.fit;rw[WV]at q;by_cases J:i<es.size
   ·have B:=QR J;have e2:t.place[i]?=some t.place[i]:=QR (by lia);have T:es.toList[i]?=some es[i]:=by rw[Va];exact B
    rw[T]at q;rw[B,e2]
    have e4:slotAt t (i+1)=t.place[i]+1:=by
     unfold slotAt;rw[WN (by lia)]
     have:i<t.place.size:=by lia
     simp[Array.getD,this]
    have U:=q;rw[e4]at U;exact U
   ·have B:es[i]?=none:=VY (by lia);have T:es.toList[i]?=none:=by rw[Va];exact B
    rw[T]at q;rwa[B]
 |true=>
  rw[WQ rfl];refine WG (Zkh _ _ s (by simp) λl d u=>?_);have r:l.length=es.size:=by rw[u.length_eq];simp
  have H:∀p∈l,p<es.size:=λp hm=>Vd.mp (u.mem_iff.mp hm);refine WG (Qq ?_<|by show(l.map λ(i:Nat)=>rawInt i).toArray.size<=sizeLine;rw[Qn,WH,r];exact J5 S.few);have y:=WM {cls:=.type "tuple",data:=.seq (l.map λ(i:Nat)=>rawInt i).toArray} g;refine WG (wpAny_setEpoch_of y h S.fit<|WG<|Qq<|WJ ⟨_,rfl, "set_iterator",_,⟨_,WU _ rfl,rfl⟩,si_slot.lookup,?_⟩);have G:(s.heap.push {cls:=.type "tuple",data:=.seq (l.map λ(i:Nat)=>rawInt i).toArray}).objs.size=s.heap.objs.size+1:=Vn ..
  have N:(List.range es.size).map (λp=>((es[p]?).map (·.2)).getD Value.none)=es.toList.map (·.2):=by
   apply Ug;intro k;by_cases hk:k<es.size
   ·simp[hk]
   ·have:es.size<=k:=by lia
    simp[this]
  refine fin _ _ _ _ _ d (Zl4 L _ a s.heap.objs.size ?_ ?_ l r H _ rfl) ⟨⟨_,WU _ rfl,rfl,rfl⟩,S.keep λo e=>WM _ (WM _ e),_,WM _ (WU _ rfl),0,rfl⟩ (λb f=>?_) (by rw[WH];exact r) ?_ (new _ ?_) λb o e=>WM _ (WM _ e)
  ·show a≠_;rw[G];exact Qj (J6 ha)
  ·show s.heap.objs.size≠_;rw[G];exact Qj (V8 _)
  ·rcases WZ.mp f with rfl|f
   ·refine .inr (new _ ?_);show s.heap.objs.size<=_;rw[G];exact VA _
   ·rcases WZ.mp f with rfl|f
    ·exact .inl rfl
    ·rw[WR.mp f];exact .inr (new _<|WS _)
  ·rw[←N];exact u.map _
  ·show s.heap.objs.size<=_;rw[G];exact VA _
def Zlf(g:s.TypeIs (.ref a) "set")(h:Q false s):wpAny (model prog w) A (Builtin.List.listLengthHint<|.ref a) Q E s:=by
 refine WG (wpAny_specialOf g F.slot_set_len.lookup ?_);generalize f:("set.__len__" : String)=z
 wp_delta
 have l:splitId z=some ("set","__len__"):=by subst f;decide +kernel
 rw[l];subst f;refine WG (JF (b:=true) g (by rw[isSubtype_type];kernel_rfl) (wpAny_ite_split (λz=>absurd z (by decide)) λ_=>?_));exact wpAny_ite_split (λ_=>WG (JP g<|WJ h)) λz=>absurd (by decide +kernel) z
def Zs3(hh:A.handled=none)(S:KI w s.heap a js es ep t)(D:Addr)(c:Nat)(g:Value)(hD:s.heap.get? D=some {cls:=.type "list",data:=.seq #[] c})(G:D≠a)(fin:∀h' M d (vs:Yd) y,vs.Perm (es.toList.map (·.2))->h'.get? D=some {cls:=.type "list",dict:=none,data:=.seq vs.toArray y,slots:=#[]}->(∀b o,b≠D->s.heap.get? b=some o->h'.get? b=some o)->R (.ok<|.ret g) {s with heap:=h',toks:=M,drawn:=d}) :
  wpAny (model prog w) A.in1 (Builtin.List.listExtendWith (.ref D) (.ref a) g) (λf v=>match f with | .done f=>R (.ok f) v | .again y=>y.quiet=true/\codeAny (model prog w) A y R v) (λe v=>R (.error e) v) s:=by
 obtain⟨ob,C,hx,hdd⟩:=S.obj;have hT:s.TypeIs (.ref a) "set":=⟨ob,C,hx.1⟩;unfold Builtin.List.listExtendWith;refine WG (JP hT ?_);have n1:Builtin.List.listSameRef (.ref D) (.ref a)=false:=by simp[Builtin.List.listSameRef,G]
 have n2:(Value.type "set" == Value.type "list")=false:=by decide
 have n3:(Value.type "set" == Value.type "tuple")=false:=by decide
 simp only[n1,n2,n3,Bool.or_false,Jx,Jl];refine WG (Zcv (A':=A.in1) hh S λI fp vs St h1 d1 W Q flt hl hp Y keep=>?_);have hDI:D≠I:=λz=>by rw[←z,hD]at Y;cases Y
 have loop:∀h M c1,St 0 h->(∀b o,b≠D->s.heap.get? b=some o->h.get? b=some o)->h.get? D=some {cls:=.type "list",data:=.seq #[] c1}->D∉fp->
   codeAny (model prog w) A (.builtin "list.extend.loop" ⟨[.ref D,.ref I,g],[]⟩) R {s with heap:=h,toks:=M,drawn:=d1}:=λh M c1 st hk r p=>by
  refine codeAny_extend_loopS W.toS (J5 S.few) D p g es.size 0 _ #[] c1 rfl (QV _) st r (ItemsOf.nil _) λv x y N L u=>?_
  have ev:x.toList=vs:=by
   apply Ug;intro k;by_cases T:k<x.size
   ·have e1:=QR T;rw[Va,e1];exact(u.2 k _ e1).symm
   ·rw[Va,VY (by lia),QS (by have:=u.1;lia)]
  have e2:x=vs.toArray:=by rw[←ev]
  rw[e2]at L;rw[Moved.eq_with N];refine fin v.heap v.toks d1 vs y hp L λb o l e=>N.heap b o (λH=>?_) (hk b o l e);rcases WZ.mp H with z|z
  ·exact l z
  ·rw[WR.mp z,Y]at e;cases e
 have p:D∉fp:=λN=>by
  rcases flt D N with z|z
  ·exact G z
  ·rw[hD]at z;cases z
 have U:Shared.TypeIs {s with heap:=h1,drawn:=d1} (.ref a) "set":=⟨ob,keep _ _ C,hx.1⟩
 refine WG (QZ<|Zlf U ?_);have r:=keep _ _ hD;refine WG (wpAny_rule<|WG (?_:wpAny _ _ (updateSeq D (·.push .none) >>= λ_=>updateSeq D (·.pop)) _ _ _));refine WG (wpAny_updateSeq r rfl ?_);have J:=QC (Obj.mapSeq (·.push Value.none)) r rfl;refine wpAny_updateSeq J rfl ?_
 have B:∀b o,b≠D->h1.get? b=some o->((h1.update D<|Obj.mapSeq (·.push Value.none)).update D (Obj.mapSeq (·.pop))).get? b=some o:=λb o l e=>
  (QG _ _<|Ne.symm l).trans ((QG _ _<|Ne.symm l).trans e)
 exact WJ ⟨Jp F.plain_extend_loop _,loop _ _ _ (W.frame 0 _ _ Q λb l o e=>B b o (λz=>p (z▸l)) e) (λb o l e=>B b o l (keep b o e)) (QC (Obj.mapSeq (·.pop)) J rfl) p⟩
def Zep(B:A.handled=none)(S:KI w s.heap a js es ep t)(fin:∀h' g d vs,vs.Perm (es.toList.map (·.2))->(∀b o,s.heap.get? b=some o->h'.get? b=some o)->s.heap.objs.size<h'.objs.size->R vs {s with heap:=h',toks:=g,drawn:=d}) :
  wpAny (model prog w) A (collect<|.ref a) R E s:=by
 obtain⟨M,z,hx,C⟩:=S.obj;refine WG (JY<|QX entry_proto_collect' ?_);have J:=Vt (A:=A) PySem.F.plain_proto_collect ⟨[.ref a],[]⟩;refine(WG<|Qq<|WJ ⟨Jp VQ _,QX entry_list_iadd' ?_⟩);rw[(Vt (A:=A) VQ ⟨[.ref s.heap.objs.size,.ref a],[]⟩)];have G:(s.heap.push {cls:=.type "list",data:=.seq ([]:Yd).toArray}).get? s.heap.objs.size=some {cls:=.type "list",data:=.seq #[]}:=WU _ rfl
 have v:=Zs3 (prog:=prog) (s:={s with heap:=s.heap.push {cls:=.type "list",data:=.seq ([]:Yd).toArray}})
  (R:=λq u=>∃h' g d vs r,q=.ok (.ret<|.ref s.heap.objs.size)/\u={s with heap:=h',toks:=g,drawn:=d}/\vs.Perm (es.toList.map (·.2))/\(∀b o,s.heap.get? b=some o->h'.get? b=some o)/\
   h'.get? s.heap.objs.size=some {cls:=.type "list",dict:=none,data:=.seq vs.toArray r,slots:=#[]}) B (S.keep λo e=>WM _ e) s.heap.objs.size 0 (.ref s.heap.objs.size) G (Vq<|WX z)
  λh' g d vs r l h p=>⟨h',g,d,vs,r,rfl,rfl,l,λb o e=>p b o (Qj<|WX e) (WM _ e),h⟩
 refine QH v (λf u x=>?_) λe u x=>?_
 ·cases f with
  |done f=>
   obtain⟨h',g,d,vs,r,e,rfl,l,p,h⟩:=x;cases e
   refine(WG<|wpAny_load h<|WJ ?_);exact fin h' g d vs l p (WX h)
  |again N=>
   refine⟨x.1,VH x.2 λq L y=>?_⟩;obtain⟨h',g,d,vs,r,rfl,rfl,l,p,h⟩:=y;refine(WG<|wpAny_load h<|WJ ?_);exact fin h' g d vs l p (WX h)
 ·obtain⟨_,_,_,_,_,H,_⟩:=x;cases H
theorem Lr:∀{l:List (Int×Value)},(∀e∈l,Ent e)->IntsAre (l.map (·.2)) (l.map keyOf)
 |[],_=>.nil
 |e::r,h=>by
  obtain⟨k,t,rfl⟩:=h e Q9;exact .cons k t (Lr λx hx=>h x (Qs _ hx))
def Zq9{vs us}(p:vs.Perm us):∀{ns:ZX},IntsAre us ns->∃f,IntsAre vs f/\f.Perm ns:=by
 induction p with
 |cons x _ v=>
  intro ns h;cases h with
  |cons n t r=>
   obtain⟨f,B,z⟩:=v r;exact⟨n::f,.cons n t B,List.Perm.cons _ z⟩
 |swap x y l=>
  intro ns h;cases h with
  |cons n t r=>
   cases r with
   |cons g o u=>exact⟨g::n::_,.cons g o (.cons n t u),List.Perm.swap _ _ _⟩
 |_=>grind
def Zhp(H:A.handled=none)(B:SetB w s.heap a js)(x:js.length<64)
  (fin:∀l h' u d f ns e,IntsAre f ns->ns.Perm js->ns.Pairwise (·<=·)->s.heap.get? l=none->s.heap.objs.size<=l->h'.get? l=some {cls:=.type "list",data:=.seq f.toArray e}->
   (∀b o,s.heap.get? b=some o->h'.get? b=some o)->Q (.ref l) {s with heap:=h',toks:=u,drawn:=d}) :
  wpAny (model prog w) A (call (.builtin "sorted") [.ref a]) Q E s:=by
 obtain⟨es,ep,t,S⟩:=B;refine Calls.call_function_entry kind_sorted plain_sorted entry_sorted (args_sorted1 _) ?_;refine WG (WJ<|WG (Zep H S λp u d r C keep big=>?_));obtain⟨L,z,v⟩:=Zq9 C (Lr S.ent);have g:=v.trans S.per;have G:r.length<64:=by rw[IntsAre.length z,g.length_eq];exact x
 refine WG (wpAny_newList ?_<|by have:(64:Nat)<=sizeLine:=(by decide);lia);have y:(p.push<|seqObj "list" r.toArray 0).get? p.objs.size=some (seqObj "list" r.toArray 0):=WU _ rfl;refine WG (QZ<|QE slot_list_sort ⟨_,y,rfl⟩ entry_list_sort (list_sort_tree y z G λf ns a1 a2 a3=>⟨_,rfl,?_⟩)<|args_list_sort _);obtain⟨e,J⟩:=sortedHeap_at y;refine WJ ⟨_,rfl,fin p.objs.size _ u d f.toList ns e a1 (a2.trans g) a3 ?_ (Jf big) (by simpa [seqObj]using J) λb o q=>?_⟩
 ·cases q:s.heap.get? p.objs.size with
  |none=>rfl
  |some o=>exact absurd (WX<|keep _ _ q) (Vc _)
 ·have h:=WX (keep b o q);rw[sortedHeap_old (Qj h) (by rw[size_push'];exact J6 h)];exact WM _ (keep b o q)
end
end SetR
namespace Own
open PySem PySem.Spec PyProof.Rows L2
noncomputable def Sx(w:World)(l:Addr)(f:ZX):HO:=.ext λh=>SetR.SetB w h l f
section
variable {X:Cx}
def Zg9{w H h l f}(B:SetR.SetB w h l f):ObjOk P w H h l (Sx w l f):=by
 refine⟨B,?_,λr p g k=>g.at k⟩;obtain⟨s,u,t,S⟩:=B;obtain⟨o,n,_⟩:=S.obj
 grind
def Zt9(y:X.calm=true):Kx X (.type "set") (λxs H Q=>∃(p:Addr) (ns:ZX),xs=[.ref p]/\SqL X.K H p (ns.map V.int)/\ns.length+1<4096/\∀l,H l=none->Q (.ref l) (upd H l<|Sx X.w l<|ns.foldl SetR.KH [])):=by
 intro pins s A H xs C Q I f h;obtain⟨p,ns,rfl,z,x,q⟩:=h;obtain⟨u,rfl,g⟩:=f.one;obtain rfl:=g;obtain⟨v,r,n,_⟩:=I.list z;refine SetR.Zlp (I.ok.hd y) n.isList (by simpa using F9 r) x λG E B keep=>?_;exact⟨.ref s.heap.objs.size,upd H s.heap.objs.size (Sx X.w s.heap.objs.size _),I.laid (λb o e=>keep b o (WX e) e) (WS _) (Zg9 B),rfl,q _ (I.hok.fresh<|WS _)⟩
def MK(N:X.calm=true):Kx X (.builtin "sorted") (λxs H Q=>∃p g,xs=[.ref p]/\g.length<64/\(SqL X.K H p (g.map V.int)\/H p=some (Sx X.w p g))/\
  ∀l (ns:ZX),H l=none->ns.Perm g->ns.Pairwise (·<=·)->Q (.ref l) (upd H l<|.lst<|ns.map V.int)):=by
 intro pins s U H xs Y Q I G h;obtain⟨p,g,rfl,A,v,q⟩:=h;obtain⟨u,rfl,J⟩:=G.one;obtain rfl:=J
 have big:∀{ns:ZX},ns.Perm g->(ns.map V.int).length<=sizeLine:=λM=>by
  rw[WH,M.length_eq]
  have:(64:Nat)<=sizeLine:=by decide
  lia
 rcases v with v|v
 ·obtain⟨n,r,L,_⟩:=I.list v;have E:IntsAre n g:=by simpa using F9 r
  refine sorted_ints L.isList E (by rw[IntsAre.length E];exact A) λf ns a1 a2 a3=>?_;obtain⟨e,C⟩:=sortedAll_at s.heap n f;have x:=I.hok.fresh (VA _);refine⟨.ref (s.heap.objs.size+1),upd H (s.heap.objs.size+1) (.lst<|ns.map V.int),I.laid (λb o e=>sortedAll_old e) (VA _) ⟨big a2,f.toList,e,BF a1,?_⟩,rfl,q _ ns x a2 a3⟩;omega
 ·have B:=(I.hok p _ v).1;refine SetR.Zhp (I.ok.hd N) B A λl T tk d f ns e a1 a2 a3 nl y C keep=>?_;have x:=I.hok.fresh y;refine⟨.ref l,upd H l (.lst<|ns.map V.int),?_,rfl,q l ns x a2 a3⟩;have ok:HOk X.prog X.w (upd H l<|.lst<|ns.map V.int) T:=I.hok.laid keep y ⟨big a2,f,e,BF a1,C⟩;exact I.call (ch:=[]) (Un.laid keep y x) ok I.bare (λb z=>absurd z (by simp))
end
section
variable {X:Cx}{K:ZV}
def RL(f:autoParam (X.K=K) au_0):IxR X (λx y H Q=>Fp K x y H Q\/Fh K x y H Q):=by subst f;exact Zqo
def Zur(f:autoParam (X.K=K) au_0):Kx X (.builtin "len") (λxs H Q=>∃x n,xs=[x]/\AS K x H n/\Q (.int n) H):=by subst f;exact Zkf
def Znm(f:autoParam (X.K=K) au_0):OpR X (compareOp .In) (rIn K false):=by subst f;exact Zva
def Zsg(f:autoParam (X.K=K) au_0):OpR X (compareOp .NotIn) (rIn K true):=by subst f;exact Zuf
def B8{pos es k t n}(l:X.calm=true)(h:PGs X es t)(o:autoParam (X.K=K) au_0)(g:autoParam ((assignEach es X.env).length=n) au_0)(f:autoParam ((assignEach es X.env).findIdx? (·.1)=none) au_0):PG X (.Tuple es k pos) (Dc K n t):=by subst o;exact Ziw l h g f
end
section
variable {α:Type}{R:Hp->V->α->Prop}{φ:Yb}{g:TG}{tc:TT}{te:TE}{σ:L2.St}{H1:Hp}{F:Hp->Prop}{D:Addr}
def Zkk{K a xs}{ds:List α}(f:α->Option V)(v:SqL K H1 a xs)(E:xs.length=ds.length)(G:H1 D=none)(J:ds.length<=sizeLine)(turn:∀(i:Nat) x d l,xs[i]?=some x->ds[i]?=some d->Same H1 l->∀k:Option V->Hp->Prop,k (f d) l->g x (atStart φ σ) l λh w=>Sub (atStart φ σ) h/\tc h w λb r=>if b=true then te h r λy u=>k (some y) u else k none r)(done:F (upd H1 D<|.lst<|ds.filterMap f)) :
  ∃W:Nat->Nat->List V->Hp->Prop,(∃m,W 0 m [] (upd H1 D<|.lst []))/\
   ∀i m ys l,W i m ys l->((Itl K a).stop i l/\F l)\/((Itl K a).go i l/\∀x z,(Itl K a).yld i l x z->g x (atStart φ σ) z λh w=>Sub (atStart φ σ) h/\tc h w λb r=>
    if b=true then te h r λy u=>u D=some (.lst ys)/\ys.length<sizeLine/\∃n,n<m/\W (i+1) n (ys++[y]) (upd u D<|.lst (ys++[y]))else ∃n,n<m/\W (i+1) n ys r):=by
 refine⟨λi m ys l=>m=ds.length-i/\i<=ds.length/\ys=(ds.take i).filterMap f/\l=upd H1 D (.lst ys),⟨ds.length,by simp,QV _,by simp,rfl⟩,?_⟩;rintro i m ys l ⟨rfl,L,rfl,rfl⟩;have s:Same H1 (upd H1 D<|.lst ((ds.take i).filterMap f)):=Kk G;by_cases p:i<ds.length
 ·refine .inr ⟨⟨xs,xs[i]'(by lia),s.seq v,by simp[E,p]⟩,λx z y=>?_⟩;obtain⟨e,y⟩:=y;subst e
  refine turn i x ds[i] _ (y xs<|s.seq v) (WI p) s (λo A=>match o with
   |some y=>A D=some (.lst ((ds.take i).filterMap f))/\((ds.take i).filterMap f).length<sizeLine/\∃n,n<ds.length-i/\(n=ds.length-(i+1)/\i+1<=ds.length/\(ds.take i).filterMap f++[y]=(ds.take (i+1)).filterMap f/\upd A D (.lst ((ds.take i).filterMap f++[y]))=upd H1 D (.lst ((ds.take i).filterMap f++[y])))
   |none=>∃n,n<ds.length-i/\(n=ds.length-(i+1)/\i+1<=ds.length/\(ds.take i).filterMap f=(ds.take (i+1)).filterMap f/\A=upd H1 D (.lst ((ds.take i).filterMap f)))) ?_
  have B:=Qh p;cases C:f ds[i]with
  |some y=>
   refine⟨XZ,?_,ds.length-(i+1),by lia,rfl,p,?_,Zvc⟩
   ·have H:=List.length_filterMap_le f (ds.take i);rw[Qo]at H;lia
   ·rw[B,Jh];simp[C]
  |none=>
   refine⟨ds.length-(i+1),by lia,rfl,p,?_,rfl⟩;rw[B,Jh];simp[C]
 ·have e:i=ds.length:=by lia
  subst e;refine .inl ⟨⟨xs,s.seq v,by lia⟩,?_⟩;rwa[QF]
end
noncomputable def eqL(xs ys:List V):Bool:=decide (xs.length=ys.length)&&(List.range xs.length).all λj=>eqV (xs.getD j .non) (ys.getD j .non)
noncomputable def N4(K:ZV)(neg:Bool):R2:=λx y H Q=>∃(p q:Addr) (xs f:List V),x=.ref p/\y=.ref q/\SqL K H p xs/\SqL K H q f/\xs.all Px=true/\f.all Px=true/\Q (.bl (if neg then !eqL xs f else eqL xs f)) H
section
variable {X:Cx}
def B6{xs ys us f}(l:Vals xs us)(h:Vals ys f)(f1:xs.all Px=true)(x:ys.all Px=true)(j:Nat)(v:j<us.toArray.size)(r:j<f.toArray.size) :
  SeqAt.EqAt A s us.toArray[j] f.toArray[j] (eqV (xs.getD j .non)<|ys.getD j .non):=by
 have G:=l.length;have E:=h.length;have J:j<us.length:=by simpa using v
 have H:j<f.length:=by simpa using r
 have o:xs[j]?=some (xs[j]'(by lia)):=WI _;have n:ys[j]?=some (ys[j]'(by lia)):=WI _;obtain⟨u,M,p⟩:=l.get o;obtain⟨w,L,g⟩:=h.get n;have z:us.toArray[j]=u:=by grind
 have y:f.toArray[j]=w:=by grind
 have C:xs.getD j .non=xs[j]'(by lia):=by rw[WK,o];rfl
 have B:ys.getD j .non=ys[j]'(by lia):=by rw[WK,n];rfl
 rw[z,y,C,B];exact IM p g (VI.mp f1 _<|Qc _) (VI.mp x _<|Qc _)
def Zp0(r:X.A.units<cLine):OpR X (compareOp .Eq) (N4 X.K false):=by
 intro pins s J H x y v u Q I z w h;obtain⟨p,q,xs,f,rfl,rfl,B,hq,f1,G,k⟩:=h;obtain rfl:=z;obtain rfl:=w;obtain⟨M,l,n,_⟩:=I.list B;obtain⟨L,g,p2,_⟩:=I.list hq;have T:=l.length;have N:=g.length;have o:=k;by_cases e:xs.length=f.length
 ·refine SeqAt.eq_listAt n.isList p2.isList (by simp;lia) r (λj E C=>B6 l g f1 G j E C) ⟨.bl (eqL xs f),H,I,?_,o⟩;show _=Value.bool (eqL xs f);unfold eqL
  grind
 ·refine SeqAt.eq_list_lengthsAt n.isList p2.isList (by simp;lia) r ⟨.bl (eqL xs f),H,I,?_,o⟩;unfold eqL;rw[Ql e];rfl
def Zdd(r:X.A.units<cLine):OpR X (compareOp .NotEq) (N4 X.K true):=by
 intro pins s J H x y v u Q I z w h;obtain⟨p,q,xs,f,rfl,rfl,B,hq,f1,G,k⟩:=h;obtain rfl:=z;obtain rfl:=w;obtain⟨M,l,n,_⟩:=I.list B;obtain⟨L,g,p2,_⟩:=I.list hq;have T:=l.length;have N:=g.length;have o:=k;by_cases e:xs.length=f.length
 ·refine SeqAt.RcNeAt.lists n.isList p2.isList (by simp;lia) r (λj E C=>B6 l g f1 G j E C) _ _ _ _ ⟨.bl (!eqL xs f),H,I,?_,o⟩;show _=Value.bool (!eqL xs f);unfold eqL
  grind
 ·refine SeqAt.RcNeAt.lists_lengths n.isList p2.isList (by simp;lia) r _ _ _ _ ⟨.bl (!eqL xs f),H,I,?_,o⟩;unfold eqL;rw[Ql e];rfl
def Im{xs:ZX}{us}(r:Vals (xs.map V.int) us)(z:Int):∀j g (f:j<xs.length),Value.isInt z us[j]=(xs[j]==z):=by
 intro j g f;obtain⟨u,h,t,rfl⟩:=r.get (by rw[WV,WI f];rfl);rw[WI g]at h;rw[Qb h];rfl
def Zu1{xs:ZX}{us}(r:Vals (xs.map V.int) us)(z:Int)(t:Tok):∀y,y∈us.toArray->MeetsSeq.EqGives y (.int z t) (Value.isInt z y):=by
 intro y h;obtain⟨j,l,rfl⟩:=Q0.mp (by simpa using h:y∈us);have g:=r.length;rw[WH]at g;obtain⟨u,f,n,rfl⟩:=r.get (by rw[WV,WI (show j<xs.length by lia)];rfl);rw[WI l]at f;rw[Qb f];exact MeetsSeq.EqGives.int _ _ _ _
def EA(K:ZV):V->List V->Hp->VK->Prop:=λx f H Q=>∃(l:Addr) (xs:ZX) (z:Int),x=.ref l/\f=[.int z]/\SqL K H l (xs.map V.int)/\z∈xs/\Q (.int (xs.idxOf z:Nat)) H
def Zj9:MtM X "list.index" (EA X.K):=by
 intro pins s σ H x vs v us Q I M N h;obtain⟨l,xs,z,rfl,rfl,hS,U,q⟩:=h;cases M
 obtain⟨u,rfl,t,rfl⟩:=N.one;obtain⟨f,r,T,g⟩:=I.list hS;obtain⟨o,n,G,L,p,J⟩:=T;obtain⟨c1,d1,dt1,w⟩:=o;simp only at L p J;subst L p J;have E:=r.length;rw[WH]at E;have C:=List.idxOf_lt_length_iff.mpr U;have hb:xs.length<=2 ^ 24:=by rw[WH]at g;exact g
 refine call_meets VR ⟨_,G,rfl⟩ PySem.F.entry_list_index (PySem.F.args_list_index_2 _ _)
  (SeqAt.list_indexAt l f.toArray n none w (.int z t) (Value.isInt z) (xs.idxOf z) (by simpa [←E]using C) (by lia) ?_ ?_) ⟨G,λy Y=>(Zu1 r z t y Y).at _ _,⟨.int (xs.idxOf z:Nat),H,I.tok _,⟨_,rfl⟩,q⟩⟩
 ·have e:=Im r z (xs.idxOf z) (by lia) C;show Value.isInt z f[xs.idxOf z]=true;rw[e];simpa using List.getElem_idxOf C
 ·intro m hm B;have A:m<f.length:=by simpa using hm
  show Value.isInt z f[m]=false;rw[(Im r z m A<|by lia)]
  have:=List.not_of_lt_findIdx B
  simpa using this
end
noncomputable def Ite(K:ZV)(a:Addr):It:=
 ⟨λi H=>∃xs x,SqL K H a xs/\xs[i]?=some x,λi H x f=>∃T v,H T=none/\(∀xs,SqL K H a xs->xs[i]?=some v)/\x=.ref T/\f=upd H T (.tup [.int i,v]),λi H=>∃xs,SqL K H a xs/\xs.length<=i⟩
def Zhk{K elts k1 tp}(a e it:Addr)(hne:e≠it) :
  Turn P w K (.Tuple elts k1 tp) (Ite K a) [e,it] e (λi h=>∃old,IsEnum h e it i old/\h.IsListIter it a i) where
 mem:=by simp
 obj:=λi h st b hb=>by
  obtain⟨old,h1,o,h2,_,h3⟩:=st;rcases WZ.mp hb with rfl|hb
  ·exact⟨_,h1,λv z=>by cases z⟩
  ·rw[WR.mp hb];exact⟨o,h2,λv z=>by rw[h3]at z;cases z⟩
 keep:=λi h h' st k=>by
  obtain⟨old,h1,h2⟩:=st;exact⟨old,k e (by simp) _ h1,h2.at λo q=>k it (by simp) o q⟩
 item:=by
  intro X hP hw hK hc i pins s σ H E I hf st hg;subst hP hw hK;obtain⟨old,he,hit⟩:=st;obtain⟨xs,x,hq,hx⟩:=hg;obtain⟨its,rv,p,hz⟩:=I.list hq;obtain⟨u,hu,ru⟩:=rv.get hx;obtain⟨a0,a1,a2,a3,a4,a5⟩:=hf e (by simp);obtain⟨b0,b1,b2,b3,b4,b5⟩:=hf it (by simp);have hfr:=I.hok.fresh (WS _);have heL:=WX he;have hiL:it<s.heap.objs.size:=by obtain⟨o,ho,_⟩:=hit;exact WX ho
  refine wpAny_pyNext_enum_item he hit p.isList (by simpa using hu) hne λh1 eo it1 ht1 hz1 k1=>⟨_,rfl,?_⟩;refine wpAny_letOwnedTupleGo_enum eo λh2 e2 sb2=>?_;have keep2:∀b o,b∉[e,it]->s.heap.get? b=some o->h2.get? b=some o:=λb o hb q=>sb2.extBut b o (λz=>hb (by simp[z])) (k1 b o (λz=>hb (by simp[z])) (λz=>hb (by simp[z])) q)
  have n0:∀b,b∈[e,it]->H b=none:=λb hb=>by
   rcases WZ.mp hb with rfl|hb
   ·exact a0
   ·rw[WR.mp hb];exact b0
  have un:Un (frs X.stack) [e,it] H (upd H s.heap.objs.size<|.tup [.int i,x]) s.heap h2:=by
   refine⟨λb o q _ _ hx'=>keep2 b o hx' q,λb o q _ _ hx'=>⟨o.slots,keep2 b o hx' q⟩,λb o q n _=>by rw[XD (Qj<|WX q)];exact n,λb o q hx'=>⟨o,keep2 b o hx' q⟩,
    λb ys q=>by rw[XD (Ky q hfr)];exact q,λb o ys q=>by rw[XD (Ky q hfr)];exact q,λb ps q=>⟨#[],by rw[XD (Ky q hfr),q];simp⟩⟩
  have ok2:HOk X.prog X.w (upd H s.heap.objs.size<|.tup [.int i,x]) h2:=λb o q=>by
   by_cases hb:b=s.heap.objs.size
   ·subst hb;rw[XZ]at q;cases q
    exact⟨by show 2<=sizeLine;decide,[.int i s.toks,u],.cons ⟨_,rfl⟩ (.cons ru .nil),_,(sb2.extBut _ _ (Vq heL) ht1),rfl,_,rfl⟩
   ·rw[XD hb]at q;refine(I.hok b o q).stay (λc v hc' r=>keep2 c v (λz=>?_) r) (λc r=>by rw[XD (Ky r hfr)];exact r) λc ys r=>by rw[XD (Ky r hfr)];exact r
    have hcn:=n0 c z;rcases hc' with rfl|hc'
    ·rw[hcn]at q;cases q
    ·rw[hcn]at hc';cases hc'
  have I2:Inv X pins σ (upd H s.heap.objs.size<|.tup [.int i,x]) {s with heap:=h2,toks:=s.toks+1}:=I.call un ok2 I.bare λb hb=>by
   rcases WZ.mp hb with rfl|hb
   ·exact⟨a3,a1,a4,a5⟩
   ·rw[WR.mp hb];exact⟨b3,b1,b4,b5⟩
  refine⟨.ref s.heap.objs.size,_,I2,rfl,⟨_,x,hfr,λys hy=>by rw[I.list_inj hy hq];exact hx,rfl,rfl⟩,⟨u,?_,it1.at λo q=>sb2.extBut it o (Ne.symm hne) q⟩,λb hb=>?_⟩
  ·have:((i+1:Nat):Int)=(i:Int)+1:=by lia
   rwa[this]
  ·rw[XD]
   ·exact n0 b hb
   ·rcases WZ.mp hb with rfl|hb
    ·exact Qj heL
    ·rw[WR.mp hb];exact Qj hiL
 done:=by
  intro X hP hw hK hc i pins s σ H E I hf st hg;subst hP hw hK;obtain⟨old,he,hit⟩:=st;obtain⟨xs,hq,hx⟩:=hg;obtain⟨its,rv,p,hz⟩:=I.list hq;obtain⟨b0,b1,b2,b3,b4,b5⟩:=hf it (by simp);have l1:=rv.length;refine wpAny_pyNext_enum_end (I.ok.hd hc) he hit p.isList (by simp;lia) λh' eb=>⟨rfl,?_⟩;exact I.turned (λb o hb q=>eb b o hb q) b0 b1 b3 b4 b5
 self:=by
  intro A i s Q E st q;obtain⟨old,he,hit⟩:=st;have hT:s.TypeIs (.ref e) "enumerate":=⟨_,he,rfl⟩;refine Jb hT F.slot_enumerate_iter (QE F.slot_enumerate_iter hT F.entry_enumerate_iter ?_<|F.args_enumerate_iter_1 _);exact WJ ⟨_,rfl, "enumerate",_,hT,F.slot_enumerate_next.lookup,q⟩
noncomputable def Ll(K:ZV)(l:TA):TI:=λg H R=>l g H λh f=>∃a,h=[.ref a]/\(∃xs,SqL K f a xs)/\R (Ite K a) f
def Znz{a z p pos}(U:Gl X "enumerate")(Q:X.mg "enumerate"=none)(ha:PA X [a] z)(N:autoParam (starEach [a] X.env=[(false,eval a X.env)]) au_0) :
  PI X (.Tuple elts k1 tp) (.Call (.Name "enumerate" p) [a] [] pos) (Ll X.K z):=by
 intro pins s y H R I h;refine Call_ (SO I U Q boot_enumerate<|VB (thn (ha pos pins s y H _ I h) ?_) N rfl);rintro us f ⟨vs,B,g,E,G⟩;obtain⟨l,e1,⟨xs,hq⟩,q⟩:=G;subst e1;obtain⟨u,rfl,C⟩:=E.one;obtain rfl:=C;obtain⟨L,rv,J,hz⟩:=g.list hq;refine call_enumerate_list J.isList λn Y v M keep=>?_;have I2:Inv X pins y B {f with heap:=n}:=g.kept keep
 have r:f.heap.objs.size+1≠f.heap.objs.size:=Nat.succ_ne_self _;have tn:∃o,IsEnum n (f.heap.objs.size+1) f.heap.objs.size ((0:Nat):Int) o/\n.IsListIter f.heap.objs.size l 0:=⟨_,Y,v⟩;have T:=Zhk (P:=X.prog) (w:=X.w) (K:=X.K) (elts:=elts) (k1:=k1) (tp:=tp) l (f.heap.objs.size+1) f.heap.objs.size r;refine T.self X.A 0 {f with heap:=n} _ _ tn ⟨_,_,_,_,B,rfl,I2,T,tn,λb x=>?_,q⟩
 rcases WZ.mp x with rfl|x
 ·exact g.fpOk (VA _) (g.hok.fresh<|VA _)
 ·rw[WR.mp x];exact g.fpOk (WS _) (g.hok.fresh<|WS _)
section
variable {X:Cx}{K:ZV}
def GR(f:autoParam (X.K=K) au_0):MtM X "list.index" (EA K):=by subst f;exact Zj9
def AN{p t name apos cpos T id r}(s:PlainAttrs T)(slot:Slot T name id)(n:typeOf (.builtin id)=pure (.type "method_descriptor"))(w:MtM X id r)(v:PE X o p)(y:PA X (e::es) t)(z:autoParam (X.K=K) au_0)(h:autoParam (attributeBase o name X.env (eval o X.env)=eval o X.env) au_0)
  (l:autoParam (((backTo cpos<|starEach (e::es) X.env).all (λx=>!x.1)&&(backToKw cpos<|keywordEach [] X.env).all (λx=>x.1.isSome)
   && decide ((e::es).length+([]:List Keyword).length+(if ([]:List Keyword).isEmpty then 0 else 1)<30))=true) au_0)
  (g:autoParam ((apos.endLine==cpos.line)=true) au_0) (u:autoParam (starEach (e::es) X.env=(false,eval e X.env)::starEach es X.env) au_0) (f:autoParam ((backTo cpos<|starEach es X.env).any (·.1)=false) au_0) :
  PE X (.Call (.Attribute o name apos) (e::es) [] cpos) (tBM K T r p t):=by
 subst z;exact FV s slot n w v y h l g u f
end
def FY(xs ys:ZX):eqL (xs.map V.int) (ys.map V.int)=decide (xs=ys):=by
 unfold eqL;rw[WH,WH];by_cases e:xs=ys
 ·subst e;rw[WL rfl,WL rfl,Jq,VI];intro j n;have g:j<xs.length:=by simpa using n
  rw[WK,WV,WI g];show(xs[j]==xs[j])=true;simp
 ·rw[Ql e];by_cases h:xs.length=ys.length
  ·rw[WL h,Jq,Vx];intro f;apply e;apply Uk h;intro j l p
   have:=VI.mp f j (by simpa using l)
   rw[WK,WV,WI l,WK,WV,WI p]at this;have o:(xs[j]==ys[j])=true:=this;simpa using o
  ·grind
def Ts(xs:ZX):(xs.map V.int).all Px=true:=by
 rw[List.all_map];exact VI.mpr λ_ _=>rfl
end Own
namespace M
open PySem PySem.Spec PyProof.Rows L2 Own
def LV{f:Type}(R:Hp->V->f->Prop)(H:Hp)(vs:List V)(xs:List f):Prop:=
 vs.length=xs.length/\∀(i:Nat) (x:f),xs[i]?=some x->∃v,vs[i]?=some v/\R H v x
def LAt{f:Type}(R:Hp->V->f->Prop)(H:Hp)(l:Addr)(xs:List f):Prop:=∃g,H l=some (.lst g)/\LV R H g xs
def PR(H:Hp)(v:V)(q:Int×Int):Prop:=∃a,v=.ref a/\H a=some (.tup [.int q.1,.int q.2])
section
variable {α:Type}{R:Hp->V->α->Prop}{H H':Hp}{vs:List V}{xs:List α}{l:Addr}
def LV.get {i:Nat}{v} (h:LV R H vs xs) (e:vs[i]?=some v):∃x,xs[i]?=some x/\R H v x:=by
 have g:i<xs.length:=by rw[←h.1];exact(Qu.mp e).1
 obtain⟨f,n,r⟩:=h.2 i xs[i] (by simp)
 grind
end
def SD(m:ZX):Prop:=∃a b c d e:Int,m=[a,b,c,d,e]/\(1<=a/\a<=10)/\(1<=b/\b<=9/\(b=1\/b=3\/b=7\/b=9))/\(0<=c/\c<=9)/\(1<=d/\d<=1000)/\(1<=e/\e+d<=1001)
def Field(ps:ZW):Prop:=∀q∈ps,1<=q.1/\q.1<=10/\1<=q.2/\q.2<=1000
def Zr3(f:ZX)(k z:Int):z∈SetR.KH f k↔z∈f\/z=k:=by
 unfold SetR.KH;split
 ·grind
 ·simp
theorem Le:∀(ns f:ZX) z,z∈ns.foldl SetR.KH f↔z∈f\/z∈ns
 |[],f,z=>by simp
 |n::r,f,z=>by
  rw[List.foldl_cons,Le r,Zr3,WZ];constructor
  ·grind
  ·grind
def Ztu(k:Int)(h:f.Nodup):(SetR.KH f k).Nodup:=by
 unfold SetR.KH;split
 ·lia
 ·grind
theorem Mt:∀(ns:ZX) {f:ZX},f.Nodup->(ns.foldl SetR.KH f).Nodup
 |[],_,h=>h
 |n::r,f,h=>Mt r (Ztu n h)
theorem MC:∀(ns f:ZX),(ns.foldl SetR.KH f).length<=f.length+ns.length
 |[],f=>by simp
 |n::r,f=>by
  have h:=MC r (SetR.KH f n)
  have g:(SetR.KH f n).length<=f.length+1:=by
   unfold SetR.KH;split
   ·simp
   ·simp
  grind
def Cj{l:ZX}(h:l.Pairwise (·<=·))(n:l.Nodup):l.Pairwise (· < ·):=by
 have:=h.and n
 exact this.imp λ{a b} h=>by have:=h.1;have:=h.2;lia
def A3{g f:ZX}(n:g.Pairwise (· < ·))(l:f.Pairwise (· < ·))(h:∀z,z∈g↔z∈f):g=f:=by
 have p:g.Nodup:=n.imp λ{a b} h=>by lia
 have o:f.Nodup:=l.imp λ{a b} h=>by lia
 exact((Vk p o).mpr h).eq_of_pairwise (λa b _ _ x y=>by lia) n l
noncomputable def tenL:ZX:=[1,2,3,4,5,6,7,8,9,10]
def Zlb:z∈tenL↔1<=z/\z<=10:=by
 unfold tenL;constructor
 ·intro h;simp only[WZ,JE,or_false]at h;omega
 ·rintro⟨g,f⟩;simp only[WZ,JE,or_false];lia
noncomputable def X8(ps:ZW):ZX:=tenL.filter λh=>decide (h∈ps.map (·.1))
def TK(ps:ZW):(X8 ps).Pairwise (· < ·):=List.Pairwise.filter _ (by trivial)
def Bi(f:Field ps){z}:z∈X8 ps↔z∈ps.map (·.1):=by
 unfold X8;rw[Qg,Jd,Zlb];constructor
 ·grind
 ·intro h;obtain⟨q,hq,rfl⟩:=Qf.mp h
  have:=f q hq
  grind
def Sj(ps:ZW):(X8 ps).length<=10:=by
 have:=Q5 (λh=>decide (h∈ps.map (·.1))) tenL
 trivial
def Zg1(f:Field ps)(p:ns.Perm ((ps.map (·.1)).foldl SetR.KH []))(h:ns.Pairwise (·<=·)):ns=X8 ps:=by
 refine A3 (Cj h<|p.symm.nodup<|Mt _ V9) (TK ps) λz=>?_;rw[p.mem_iff,Le,Bi f];simp
def IC(z:Int)(xs:ZX):inV (.int z) (xs.map V.int)=decide (z∈xs):=by
 unfold inV
 induction xs with
 |nil=>rfl
 |cons x r f=>
  show((x==z) || _)=_;by_cases e:x=z
  ·grind
  ·grind
def Zhm:tenL=(List.range 10).map λ(i:Nat)=>(1:Int)+(i:Int):=rfl
def Zu6{os ns}(g:os.Perm (X8 ps))(n:ns.Perm os)(l:ns.Pairwise (·<=·)):ns=X8 ps:=by
 have f:(X8 ps).Nodup:=(TK ps).imp λ{a b} h=>by lia
 have p:=n.trans g;exact A3 (Cj l<|p.symm.nodup f) (TK ps) λz=>p.mem_iff
section
variable (ps:ZW)
noncomputable def tpM(y:Int):Nat->Int
 | 0=>0
 |j+1=>tpM y j+(if (ps.getD j (0,0)).1=y then(ps.getD j (0,0)).2 else 0)
noncomputable def pcM(x y:Int):Nat->Int
 | 0=>0
 |k+1=>pcM x y k+(if x≠y/\(ps.getD k (0,0)).1=x then tpM ps y k*(ps.getD k (0,0)).2 else 0)
noncomputable def Tr(n:Nat):ZX->Int
 |[]=>0
 |a::r=>(r.map λb=>pcM ps a b n).sum+Tr n r
noncomputable def Tw(n:Nat)(h:Int):ZX->Int
 |[]=>0
 |a::r=>if a=h then(r.map λb=>tpM ps b n).sum else Tw n h r
noncomputable def rsM(os:ZX)(h:Int):Nat->Int
 | 0=>0
 |j+1=>rsM os h j+(if os.idxOf h<os.idxOf (ps.getD j (0,0)).1 then(ps.getD j (0,0)).2 else 0)
noncomputable def Tg(os:ZX):Nat->Int
 | 0=>0
 |k+1=>Tg os k+rsM ps os (ps.getD k (0,0)).1 k*(ps.getD k (0,0)).2
end
def M2{r:ZX}(h:a≠b):(a::r).idxOf b=r.idxOf b+1:=by grind
def M9(f g:Int->Int)(l:ZX):(l.map λb=>f b+g b).sum=(l.map f).sum+(l.map g).sum:=by
 induction l with
 |nil=>rfl
 |cons b r h=>grind
def BI{f g:Int->Int}{l:ZX}(h:∀b∈l,f b=g b):(l.map f).sum=(l.map g).sum:=by
 rw[V6 h]
def HU(l:ZX):(l.map λ_=>(0:Int)).sum=0:=by
 induction l with
 |nil=>rfl
 |cons b r f=>grind
def Zi6(f:Int->Int)(w:Int)(l:ZX):(l.map λb=>f b*w).sum=(l.map f).sum*w:=by
 induction l with
 |nil=>simp
 |cons b r g=>grind
def Zsz{l:ZX}(h:Int)(w:Int)(f:l.Nodup):(l.map λb=>if h=b then w else 0).sum=if h∈l then w else 0:=by
 induction l with
 |nil=>rfl
 |cons b r g=>grind
section
variable {ps:ZW}
theorem Lk:∀{os:ZX},(ps.getD n (0,0)).1∉os->Tr ps (n+1) os=Tr ps n os
 |[],_=>rfl
 |a::r,h=>by
  have f:(ps.getD n (0,0)).1≠a:=λz=>h (by grind);simp only[Tr];rw[Lk (λz=>h (Qs _ z))];congr 1;apply BI;simp only[pcM];lia
theorem Of:∀{os:ZX},os.Nodup->(ps.getD n (0,0)).1∈os->Tr ps (n+1) os=Tr ps n os+Tw ps n (ps.getD n (0,0)).1 os*(ps.getD n (0,0)).2
 |[],_,h=>by cases h
 |a::r,p,h=>by
  obtain⟨g,o⟩:=Q3.mp p;simp only[Tr,Tw];by_cases e:a=(ps.getD n (0,0)).1
  ·rw[WQ e];have f:(ps.getD n (0,0)).1∉r:=by rw[←e];exact g
   rw[Lk f,←Zi6]
   have l:(r.map λb=>pcM ps a b (n+1)).sum=(r.map λb=>pcM ps a b n+tpM ps b n*(ps.getD n (0,0)).2).sum:=by
    apply BI;intro b s;simp only[pcM];rw[WQ ⟨λz=>g (by rw[z];exact s),e.symm⟩]
   rw[l,M9];lia
  ·rw[WN e];have f:(ps.getD n (0,0)).1∈r:=by grind
   rw[Of o f]
   have l:(r.map λb=>pcM ps a b (n+1)).sum=(r.map λb=>pcM ps a b n).sum:=by
    apply BI;simp only[pcM];lia
   lia
theorem O9:∀{os:ZX},(ps.getD n (0,0)).1∉os->Tw ps (n+1) h os=Tw ps n h os
 |[],_=>rfl
 |a::r,f=>by
  simp only[Tw];rw[O9 (λz=>f (Qs _ z))]
  have g:(r.map λb=>tpM ps b (n+1)).sum=(r.map λb=>tpM ps b n).sum:=by
   apply BI;simp only[tpM]
   grind
  lia
theorem IW{h}:∀{os:ZX},os.Nodup->h∈os->(ps.getD n (0,0)).1∈os->
  Tw ps (n+1) h os=Tw ps n h os+(if os.idxOf h<os.idxOf (ps.getD n (0,0)).1 then(ps.getD n (0,0)).2 else 0)
 |[],_,v,_=>by cases v
 |a::r,C,v,A=>by
  obtain⟨y,x⟩:=Q3.mp C;generalize o:(ps.getD n (0,0)).1=g at A ⊢;generalize B:(ps.getD n (0,0)).2=w at ⊢;simp only[Tw];by_cases e:a=h
  ·subst e;rw[WQ rfl,WQ rfl]
   have H:(r.map λb=>tpM ps b (n+1)).sum=(r.map λb=>tpM ps b n+(if g=b then w else 0)).sum:=by
    apply BI;intro b _;simp only[tpM];rw[o,B]
   rw[H,M9,Zsz g w x];have u:(a::r).idxOf a=0:=by simp
   by_cases l:g=a
   ·subst l;rw[u,WN y,WN (by lia)]
   ·grind
  ·rw[WN e,WN e]
   have E:h∈r:=by
    rcases WZ.mp v with z|z
    ·exact absurd z.symm e
    ·exact z
   have s:(a::r).idxOf h=r.idxOf h+1:=M2 e;by_cases l:g=a
   ·subst l;have u:(g::r).idxOf g=0:=by simp
    rw[O9 (by rw[o];exact y),u,WN (by lia)];lia
   ·have G:g∈r:=by
     rcases WZ.mp A with z|z
     ·exact absurd z l
     ·exact z
    have p:(a::r).idxOf g=r.idxOf g+1:=M2 (Ne.symm l);rw[IW x E (by rw[o];exact G),o,B,s,p];by_cases f:r.idxOf h<r.idxOf g
    ·rw[WQ f,WQ (by lia)]
    ·rw[WN f,WN (by lia)]
theorem OA{os h}(f:os.Nodup)(o:h∈os):∀n,(∀j,j<n->(ps.getD j (0,0)).1∈os)->Tw ps n h os=rsM ps os h n
 | 0,_=>by
  have:∀l,Tw ps 0 h l=0:=by
   intro l
   induction l with
   |nil=>rfl
   |cons a r p=>
    simp only[Tw,tpM];rw[HU,p];simp
  rw[this];rfl
 |n+1,g=>by
  rw[IW f o (g n<|by simp),OA f o n λj s=>g j (by lia)];rfl
theorem MG{os}(g:os.Nodup):∀n,(∀j,j<n->(ps.getD j (0,0)).1∈os)->Tr ps n os=Tg ps os n
 | 0,_=>by
  have:∀l,Tr ps 0 l=0:=by
   intro l
   induction l with
   |nil=>rfl
   |cons a r h=>
    simp only[Tr,pcM];rw[HU,h];rfl
  rw[this];rfl
 |n+1,f=>by
  rw[Of g (f n<|by simp),MG g n (λj o=>f j (by lia)),OA g (f n<|by simp) n λj o=>f j (by lia)];rfl
end
end M
namespace ExcR
open PySem PySem.Spec PyProof.Rows L2
structure P4 (fs ex:List Addr) (h h':Heap):Prop where
 keep:∀b o,h.get? b=some o->b∉fs->b∉ex->h'.get? b=some o
 slot:∀b o,h.get? b=some o->b∉ex->∃sl,h'.get? b=some {o with slots:=sl}
 size:h.objs.size<=h'.objs.size
def P4.trans (a:P4 fs ex l h) (b:P4 fs ex h g):P4 fs ex l g:=
 ⟨λc o e n m=>b.keep c o (a.keep c o e n m) n m,λc o e m=>by
  obtain⟨s,r⟩:=a.slot c o e m;obtain⟨f,p⟩:=b.slot c _ r m;exact⟨f,p⟩,WW a.size b.size⟩
def P4.mono {fs f ex g}{l h} (a:P4 fs ex l h) (p:∀b∈fs,b∈f) (hx:∀b∈ex,b∈g):P4 f g l h:=
 ⟨λc o e n m=>a.keep c o e (λz=>n (p c z)) (λz=>m (hx c z)),λc o e m=>a.slot c o e λz=>m (hx c z),a.size⟩
def Zl1(o:Obj)(f):(o.mapFields f).dict=o.dict:=by
 obtain⟨c,d,g,sl⟩:=o;cases g<;>rfl
structure Trc (h:Heap) (e T:Addr) (cls:Value×Yi) (fl:Value):Prop where
 ne:T≠e
 exc:∃oe vs,h.get? e=some oe/\(oe.cls,oe.dict)=cls/\oe.data=.fields vs/\vs[1]?=some (.ref T)
 ent:∃oT ts,h.get? T=some oT/\oT.data=.fields ts/\ts[3]?=some fl
section
variable {M:Model}{A:Around}{E:Ya}{s:Shared}{base:Heap}{env:Env}{outer:List Env}{L e:Addr}
def Ij{hadNext Q}(B:A.frames=some (env::outer))(N:s.heap.FunFrames base (env::outer))(hf:env.frame=some L)(U:s.heap.get? e=some v)(C:v.data=.fields vs)(hsz:1<vs.size)(h:∀h' T,s.heap.objs.size<=T->Trc h' e T (v.cls,v.dict) (rawInt L)->P4 (frs (env::outer)) [e] s.heap h'->Q () {s with heap:=h'}) :
  wpAny M A (do let a ←frameOf env;let u ←entryPlaceOf L hadNext;let b ←EntryCells.newEntry head a .none (rawInt L) .none u;setField (.ref e) 1 b) Q E s:=by
 have n:e∉frs (env::outer):=λhm=>by
  obtain⟨_,o,J,y⟩:=N.mem hm;rw[U]at J;cases J
  exact y vs C
 refine WG (wpAny_frameOf_fun B N hf λG g=>WG (wpAny_entryPlaceOf λu x=>?_));refine WG (Qq ?_<|x.sizeOk5 _ _ _ _ _);have r:=(g.2.1 e n).trans U;generalize Y:({cls:=.type "traceback",dict:=none,data:=.fields ([head,.ref L,.none,rawInt L,.none]++(if u.isEmpty then List.replicate 6 Value.none else u)).toArray}:Obj)=H;have p:=WM H r;refine Vf p C hsz (h _ G.objs.size (Vr g.1.symm) ?_ ?_)
 ·have l:=Vq (WX r);have d3:=QP C (·.setIfInBounds 1 (Value.ref G.objs.size));refine⟨l,⟨_,_,QC _ p (Vo d3),by rw[J7,Zl1],d3,by simp[hsz]⟩,H,_,?_,by rw[←Y],?_⟩
  ·exact(QG _ _<|Ne.symm l).trans (WU G<|by rw[←Y];rfl)
  ·rfl
 ·refine⟨λb o q nb w=>?_,λb o q w=>?_,?_⟩
  ·have f:b≠e:=λz=>w (by simp[z]);rw[QG _ _ (Ne.symm f)];exact WM _ ((g.2.1 b nb).trans q)
  ·have f:b≠e:=λz=>w (by simp[z]);obtain⟨sl,q1⟩:=g.2.2 b o q;exact⟨sl,by rw[QG _ _ (Ne.symm f)];exact WM _ q1⟩
  ·rw[Heap.size_update,Vn,g.1];exact VA _
def Zlz(g:A.frames=some (env::outer))(r:s.heap.FunFrames base (env::outer))(l:env.frame=some L)(n:s.heap.get? e=some f)(o:f.data=.fields vs)(p:vs[1]?=some .none)(h:∀h' T,s.heap.objs.size<=T->Trc h' e T (f.cls,f.dict) (rawInt L)->P4 (frs (env::outer)) [e] s.heap h'->Q () {s with heap:=h'}):wpAny M A (noteFrame (.ref e) env) Q E s:=by
 unfold noteFrame;simp only[l];refine WG (Vj n o p ?_);exact Ij g r l n o (Jr.mp p).1 h
def Hr(x:Trc s.heap e T cls U)(h:∀h',Trc h' e T cls .none->P4 [] [T] s.heap h'->Q () {s with heap:=h'}) :
  wpAny M A (setField (.ref T) 3 .none) Q E s:=by
 obtain⟨l,⟨v,u,H,G,C,B⟩,N,J,p,n,w⟩:=x;have r:=(Jr.mp w).1;refine Vf p n r (h _ ?_ ?_)
 ·have d3:=QP n (·.setIfInBounds 3 Value.none);exact⟨l,⟨v,u,(QG _ _ l).trans H,G,C,B⟩,_,_,QC _ p (Vo d3),d3,by simp[r]⟩
 ·have g:∀b,b≠T->(s.heap.update T<|Obj.mapFields (·.setIfInBounds 3 Value.none)).get? b=s.heap.get? b:=λb y=>QG _ _ (Ne.symm y);exact⟨λb o q _ f=>(g b λz=>f (by grind)).trans q,λb o q f=>⟨o.slots,(g b λz=>f (by grind)).trans q⟩,Vr (Heap.size_update ..).symm⟩
def Zgo(n:A.frames=some (env::outer))(Y:s.heap.FunFrames base (env::outer))(w:env.frame=some L)(x:Trc s.heap e T cls .none)(h:∀h' f,s.heap.objs.size<=f->Trc h' e f cls (rawInt L)->P4 (frs (env::outer)) [e,T] s.heap h'->Q () {s with heap:=h'}):wpAny M A (noteFrame (.ref e) env) Q E s:=by
 obtain⟨ne,⟨oe,vs,g1,g2,g3,g4⟩,oT,C,v,u,U⟩:=id x;unfold noteFrame;simp only[w];refine WG (Vj g1 g3 g4 ?_);refine WG (Vj v u U ?_);refine WG (Hr x λh1 y r=>?_)
 have l:=Y.of_keeps λb o q g=>⟨o,r.keep b o q (by simp) (λz=>by
  rw[WR.mp z,v]at q;cases q
  exact g C u),rfl⟩
 obtain⟨_,⟨N,B,J,p2,H,G⟩,_⟩:=id y;refine Ij n l w J H (Jr.mp G).1 λh2 f p x2 K2=>h h2 f (WW r.size p) (by grind) ?_;exact(r.mono (by simp)<|by simp).trans (K2.mono (λ_ z=>z)<|by simp)
def Zbe(x:Trc s.heap e T cls u)(h:∀h',Trc h' e T cls .none->P4 [] [T] s.heap h'->Q () {s with heap:=h'}) :
  wpAny M A (setFlight (.ref e) none) Q E s:=by
 obtain⟨p,⟨o,n,l,r,g,f⟩,_⟩:=id x;refine WG (Vj l g f ?_);exact Hr x h
def Zqb(l:A.frames=some (env::outer))(w:s.heap.FunFrames base (env::outer))(y:env.frame=some L)(B:s.heap.get? e=some f)(C:f.data=.fields vs)(H:vs[1]?=some .none)(h:∀h' T,s.heap.objs.size<=T->Trc h' e T (f.cls,f.dict) .none->P4 (frs (env::outer)) [e] s.heap h'->Q () {s with heap:=h'}):wpAny M A (leaving env<|.ref e) Q E s:=by
 unfold leaving;refine WG (Zlz l w y B C H λJ T n x K=>Zbe x λG r p=>h G T n r ?_);refine⟨λb o q v g=>p.keep b o (K.keep b o q v g) (by simp) (λz=>?_),λb o q g=>?_,WW K.size p.size⟩
 ·rw[WR.mp z]at q;exact absurd (WX q) (Uh.mpr n)
 ·obtain⟨sl,u⟩:=K.slot b o q g;exact⟨sl,p.keep b _ u (by simp) (λz=>by rw[WR.mp z]at q;exact absurd (WX q) (Uh.mpr n))⟩
def Zme(l:A.frames=some (env::outer))(y:s.heap.FunFrames base (env::outer))(B:env.frame=some L)(x:Trc s.heap e T cls .none)(h:∀h' f,s.heap.objs.size<=f->Trc h' e f cls .none->P4 (frs (env::outer)) [e,T] s.heap h'->Q () {s with heap:=h'}):wpAny M A (leaving env<|.ref e) Q E s:=by
 refine WG (Zgo l y B x λG f n u K=>Zbe u λC r p=>h C f n r ?_);refine⟨λb o q w g=>p.keep b o (K.keep b o q w g) (by simp) (λz=>?_),λb o q g=>?_,WW K.size p.size⟩
 ·rw[WR.mp z]at q;exact absurd (WX q) (Uh.mpr n)
 ·obtain⟨sl,v⟩:=K.slot b o q g;exact⟨sl,p.keep b _ v (by simp) (λz=>by rw[WR.mp z]at q;exact absurd (WX q) (Uh.mpr n))⟩
end
section
variable {P:Program}{w:World}{H H':Hp}{h h':Heap}{a:Addr}{o:HO}{fs ex:List Addr}
def has(x:ObjOk P w H h a o):∃u,h.get? a=some u:=by
 cases o with
 |lst xs=>exact let ⟨_,_,_,_,e⟩:=x;⟨_,e⟩
 |tup xs=>exact let ⟨_,_,_,u,e,_⟩:=x;⟨u,e⟩
 |dK f|dT f=>exact let ⟨_,_,_,_,u,_,_,e,_⟩:=x;⟨u,e⟩
 |set S n=>exact let ⟨u,_,_,_,e,_⟩:=x;⟨u,e⟩
 |ins C r fs=>exact let ⟨_,_,_,e,_⟩:=x;⟨_,e⟩
 |own y=>exact x
 |xd fs=>exact let ⟨_,⟨u,_,_,e,_⟩,_⟩:=x;⟨u,e⟩
 |rng lo p=>exact let ⟨_,_,_,e⟩:=x;⟨_,e⟩
 |frz l u=>exact⟨_,x.1⟩
 |ext g=>exact x.2.1
 |_=>exact⟨_,x⟩
def Zt4(ok:HOk P w H h)(e:h.get? a=none):H a=none:=by
 cases q:H a with
 |none=>rfl
 |some o=>
  obtain⟨u,z⟩:=has (ok a o q)
  grind
def HM(ok:HOk P w H h)(k:P4 fs ex h h')(g:∀b∈fs,H b=none)(hx:∀b∈ex,H b=none):HOk P w H h':=λa o e=>by
 refine(ok a o e).stay (λb u l q=>?_) (λ_ q=>q) (λ_ _ q=>q);have f:H b≠none:=by grind
 exact k.keep b u q (λz=>f (g b z)) λz=>f (hx b z)
end
structure XAt (P:Program) (w:World) (outer:List Env) (H H':Hp) (s s':Shared) (a T C:Addr) (dx:Yi):Prop where
 os:s'.os=s.os
 bare:AllBare s'.gens
 un:Un (frs outer) [] H H' s.heap s'.heap
 hok:HOk P w H' s'.heap
 na:s.heap.get? a=none
 nT:s.heap.get? T=none
 fa:H' a=none
 fT:H' T=none
 tr:Trc s'.heap a T (.ref C,dx) .none
noncomputable def CXe(P:Program)(w:World):CXT:=λouter H s E e h=>∃a T C f g,e=.ref a/\XAt P w outer H g s h a T C f/\E (.ref C) f g
section
variable {X:Cx}{pins:ZY}{σ:L2.St}{H H':Hp}{s s':Shared}{a T C:Addr}{dx:Yi}
def MO(I:Inv X pins σ H s)(hex:X.ex=[])(k:P4 (frs X.stack) ex s.heap h')(hx:∀b∈ex,X.s₀.heap.get? b=none):Un X.fs [] X.H₀ H X.s₀.heap h':=by
 have B:=I.base;rw[hex]at B;have f:∀b o,X.s₀.heap.get? b=some o->b∉ex:=λb o q z=>by rw[hx b z]at q;cases q
 have r:∀b o,X.s₀.heap.get? b=some o->b∉X.fs->b∉frs X.stack:=λb o q nf z=>by
  rcases WZ.mp (I.stkSub b z)with e|e
  ·have w:=WX q;have v:=I.ok.above
   grind
  ·exact nf e
 refine⟨λb o q n nf g=>k.keep b o (B.keep b o q n nf g) (r b o q nf) (f b o q),λb o q n u g=>?_,λb o q n g=>B.free b o q n g,λb o q g=>?_,B.tups,B.frzs,B.tbls⟩
 ·obtain⟨sl,l⟩:=B.slot b o q n u g;obtain⟨h,p⟩:=k.slot b _ l (f b o q)
  grind
 ·obtain⟨o1,l⟩:=B.there b o q g;obtain⟨h,p⟩:=k.slot b _ l (f b o q);exact⟨_,p⟩
def AD(I:Inv X pins σ H s)(hex:X.ex=[])(e:s.heap.get? b=none):X.s₀.heap.get? b=none:=by
 cases q:X.s₀.heap.get? b with
 |none=>rfl
 |some o=>
  obtain⟨u,z⟩:=I.base.there b o q (by grind)
  grind
variable {E:Ya}
def Ziq(I:Inv X pins σ H s)(hex:X.ex=[])(g:X.stack=X.env::X.outer)(l:X.env.frame=some X.env.locals)(x:XAt X.prog X.w X.stack H H' s s' a T C dx) :
  wpAny (model X.prog X.w) X.A (leaving X.env<|.ref a) (λ_ u=>∃n,XAt X.prog X.w X.outer X.H₀ H' X.s₀ u a n C dx) E s':=by
 have J:=I.call' x.os x.un x.hok x.bare λb z=>absurd z (by simp);have o:=J.stack;have p:=J.ok.frames;rw[g]at o p;refine Zme p o l x.tr λv n h r k=>⟨n,J.os,J.bare,?_,?_,AD I hex x.na,?_,x.fa,x.hok.fresh h,r⟩
 ·exact MO J hex (by rw[g];exact k) λb f=>by
   rcases WZ.mp f with rfl|f
   ·exact AD I hex x.na
   ·rw[WR.mp f];exact AD I hex x.nT
 ·refine HM x.hok k (λb f=>J.stkFree b (by grind)) λb f=>?_;rcases WZ.mp f with rfl|f
  ·exact x.fa
  ·rw[WR.mp f];exact x.fT
 ·exact JM (WW J.sz h)
def Ztm(J:Inv X pins σ H s)(hex:X.ex=[])(f:X.stack=X.env::X.outer)(n:X.env.frame=some X.env.locals)(r:X.s₀.heap.get? a=none)(x:H a=none)(B:s.heap.get? a=some l)(L:l.cls=.ref C)(o:l.dict=dx)(G:l.data=.fields vs)(M:vs[1]?=some .none) :
  wpAny (model X.prog X.w) X.A (leaving X.env<|.ref a) (λ_ z=>∃p,XAt X.prog X.w X.outer X.H₀ H X.s₀ z a p C dx) E s:=by
 have u:=J.stack;have v:=J.ok.frames;rw[f]at u v;refine Zqb v u n B G M λN p g y k=>⟨p,J.os,J.bare,?_,?_,r,?_,x,J.hok.fresh g,by rw[←L,←o];exact y⟩
 ·exact MO J hex (by rw[f];exact k) λb h=>by rw[WR.mp h];exact r
 ·exact HM J.hok k (λb h=>J.stkFree b (by grind)) λb h=>by rw[WR.mp h];exact x
 ·exact JM (WW J.sz g)
def Zf8{f vs}(I:Inv X pins σ H s)(hex:X.ex=[])(g:X.stack=X.env::X.outer)(h:X.env.frame=some X.env.locals)(keeps:∀b o,s.heap.get? b=some o->h'.get? b=some o)(new:s.heap.get? a=none)(p:h'.get? a=some f)(u:f.cls=.ref C)(l:f.dict=dx)(r:f.data=.fields vs)(v:vs[1]?=some .none) :
  wpAny (model X.prog X.w) X.A (leaving X.env<|.ref a) (λ_ n=>∃x,XAt X.prog X.w X.outer X.H₀ H X.s₀ n a x C dx) E {s with heap:=h'}:=
 Ztm (s:={s with heap:=h'}) (I.call' (ch:=[]) rfl (Un.kept keeps) (I.hok.kept keeps) I.bare λb z=>absurd z (by simp)) hex g h (AD I hex new) (Zt4 I.hok new) p u l r v
end
structure AH (K:ZV) (C:Addr):Prop where
 q:PySem.W.excIn K C [.type "ValueError",.type "Exception",.type "BaseException",.type "object"] "ValueError.__new__"=true
def AH.obj {K C h} (c:AH K C) (k:K.In h):∃f N nm q bs hdct sn sub ab col dd k0 k1 k2 k3 k5 p,h.get? C=some (excClassObj nm q C N bs f hdct sn sub ab col dd k0 k1 k2 k3 k5 "ValueError.__new__")/\h.Ns N p/\p "__init__"=none/\
  OwnTail h [.type "ValueError",.type "Exception",.type "BaseException",.type "object"] f:=by
 have e:=c.q;unfold PySem.W.excIn at e;split at e
 next dd L sl A=>
  split at e
  next M f k0 k1 k2 k3 n k5 s r=>
   simp only[Qz,beq_iff_eq,Vy]at e;obtain⟨⟨⟨⟨⟨H,G⟩,w⟩,E⟩,o⟩,v⟩:=e;subst H G;have u:=k _ _ A;cases L with
   |mk nm bs z y x B sn sub ab col J=>
    simp only at s w o v
    have g:sl=#[k0,k1,k2,k3,some (.builtin "ValueError.__new__"),k5]:=by
     cases sl with
     |mk l=>simp only at r;rw[r]
    rw[s,w,g]at u;exact⟨f,y,nm,x,bs,B,sn,sub,ab,col,dd,k0,k1,k2,k3,k5,_,u,.of_isNs (PySem.W.isNs_of_in k o),PySem.W.nsMap_none_of_in k o v,PySem.W.tail_of_in k E⟩
  next=>cases e
 next=>cases e
abbrev TF:=L2.St->Hp->Str->(Str->Hp->Prop)->Prop
def PF(X:Cx)(es:Yf)(t:TF):Prop:=
 ∀(pins:ZY) (s:Shared) (g:L2.St) (H:Hp) (f:Str) (Q:Str->Hp->Prop),Inv X pins g H s->t g H f Q->
  wpAny (model X.prog X.w) X.A (joinParts f<|evalEach es X.env) (λu l=>∃x h,Inv X pins g h l/\RelV (.str x) u/\Q x h) X.xe s
section
variable {X:Cx}{e e1 e2:Expr}{es:Yf}{t:TF}{tv:TE}{pos:Pos}
noncomputable def R6:TF:=λ_ H f Q=>f.length<=sizeLine/\Q f H
noncomputable def OY(x:Str)(t:TF):TF:=λg H f Q=>(f++x).length<=sizeLine/\t g H (f++x) Q
noncomputable def L8(tv:TE)(t:TF):TF:=λg H f Q=>tv g H λv h=>(∃i:Int,v=.int i/\i.natAbs.log2<1920/\(f++(Str.ofString<|toString i)).length<=sizeLine/\t g h (f++Str.ofString (toString i)) Q)\/
 ∃x:Str,v=.str x/\x.length<=sizeLine/\(f++x).length<=sizeLine/\t g h (f++x) Q
def NG:PF X [] R6:=λpins s g H f Q I h=>joinParts_nilE (joinParts_nil ⟨f,H,I.tok _,⟨_,rfl⟩,h.2⟩ h.1)
def PL(h:PF X es t):PF X (.Constant (.str x) j pos::es) (OY x t):=λpins s f H g Q I q=>
 joinParts_consE (joinParts_cons<|Calls.Constant_str ⟨q.1,h pins _ f H _ Q (I.tok _) q.2⟩)
def NO(A:PE X e tv)(h:PF X es t):PF X (.FormattedValue e (-1) none pos::es) (L8 tv t):=λpins s f H z Q I q=>by
 refine joinParts_consE (joinParts_cons<|FormattedValue_plain<|thn (A pins s f H _ I q) ?_);rintro u E ⟨v,o,n,r,y⟩;rcases y with⟨i,rfl,B,l,g⟩|⟨x,rfl,hx,l,g⟩
 ·obtain⟨w,rfl⟩:=r;exact formatField_int_small B ⟨l,h pins _ f o _ Q (n.tok _) g⟩
 ·obtain⟨w,rfl⟩:=r;exact formatField_str (λC p=>⟨l,h pins _ f o _ Q (n.tok _) g⟩) hx
noncomputable def tF(t:TF):TE:=λf H Q=>t f H Str.empty λx g=>Q (.str x) g
def NN(h:PF X (e1::e2::es) t):PE X (.JoinedStr (e1::e2::es) pos) (tF t):=λpins s f H Q I q=>
 JoinedStr_many (thn (h pins s f H _ _ I q) λu o ⟨x,n,l,r,g⟩=>⟨.str x,n,l,r,g⟩)
end
def Df(X:Cx)(E:XK):Prop:=∀(pins:ZY) (g:L2.St) (H:Hp) (s:Shared) (C a:Addr) (f:Heap) (args:Yd),Inv X pins g H s->Heap.MadeExcOf s.heap f a (.ref C) args->E (.ref C) none H->X.xe (.ref a) {s with heap:=f}
noncomputable def Oh(C:Addr)(E:XK)(t:TA):TS:=λ_ f H=>t f H λg h=>g.length<=sizeLine/\E (.ref C) none h
section
variable {X:Cx}{x:Str}{C:Addr}{E:XK}{e:Expr}{es:Yf}{t:TA}{p cpos pos:Pos}
def Zet(c:AH X.K C)(L:X.mg x=some (.ref C))(U:Df X E)(Q:X.calm=true)(T:PA X (e::es) t)(M:autoParam (Gl X x) au_0)(r:autoParam ((x==("__debug__" : Str))=false) au_1)(v:autoParam (starEach (e::es) X.env=(false,eval e X.env)::starEach es X.env) au_0)(l:autoParam ((backTo cpos<|starEach es X.env).any (·.1)=false) au_0):PS X (.Raise (some<|.Call (.Name x p) (e::es) [] cpos) none pos) (Oh C E t):=by
 intro pins s u H D I h;obtain⟨bm,N,nm,q,bs,hdct,sn,sub,ab,col,dd,k0,k1,k2,k3,k5,mN,hC,Y,n,w⟩:=c.obj I.ok.mod.kin
 have f:(backTo cpos<|starEach (e::es) X.env).any (·.1)=false:=by
  rw[v];show(false || (backTo cpos<|starEach es X.env).any (·.1))=false;rw[l];rfl
 refine wpAny_Raise_call_subU (nm:=nm) (q:=q) (N:=N) (bs:=bs) (hdct:=hdct) (sn:=sn) (sub:=sub) (ab:=ab) (col:=col) (dd:=dd) (k0:=k0) (k1:=k1) (k2:=k2) (k3:=k3) (k5:=k5)
  PySem.F.excBase_ValueError (by decide +kernel) PySem.F.excBase_ValueError (w.hasType<|by decide +kernel) (I.ok.hd Q) f n (A8 I M L ⟨rfl,?_⟩ r)
 have y:=T cpos pins s u H _ I h;rw[v]at y ⊢;refine Calls.evalArgs_plain (thn y ?_);rintro z A ⟨vs,H2,g,B,J,G⟩;refine⟨rfl,by rw[←B.length];exact J,g.bk _ _ hC,Y.keeps g.bk,w.keeps g.bk,λh' a o=>?_⟩;exact U pins u H2 A C a h' z g o G
end
section
variable {P:Program}{w:World}{K:ZV}{mg:ZZ}{base:Heap}{N ps:Ye}{qual x:Str}{scope:Scope}{f:Addr}{cd:Value}{A:Around}{outer:List Env}{s:Shared}{H:Hp}{E:XK}
def Pe:Df (Ks (CXe P w) P w K mg base N qual scope f cd A outer s H E) E:=by
 intro pins n l p C a r args I m q;obtain⟨t,g,_,_⟩:=m.there;exact QH (Zf8 I rfl rfl rfl m.keeps m.new g rfl rfl rfl rfl) (λ_ o ⟨h,y⟩=>⟨a,h,C,none,l,rfl,y,q⟩) λ_ _ z=>z
def Kr:PQ (CXe P w) (Ks (CXe P w) P w K mg base N qual scope f cd A outer s H E) E:=by
 rintro pins n u r e p I ⟨a,T,C,g,l,rfl,y,q⟩;exact QH (Ziq I rfl rfl rfl y) (λ_ o ⟨h,z⟩=>⟨a,h,C,g,l,rfl,z,q⟩) λ_ _ z=>z
def Lg:PassesOwn (model P w) (Ks (CXe P w) P w K mg base N qual scope f cd A outer s H E).A (Ks (CXe P w) P w K mg base N qual scope f cd A outer s H E).env (Ks (CXe P w) P w K mg base N qual scope f cd A outer s H E).xe:=PassesOwn.leaving
def Def.okX {st k sp} (D:Own.Def K mg x st ps) (S:Xz N ps (Xy st)) (len:∀vs H Q E,sp vs H Q E->vs.length=ps.length)
  (h:∀f g A outer s H vs Q E,XC k (A.deeper<|envOfC x (Xy st) s.heap.objs.size f g)->sp vs H Q E->
   ∃t,PSs (Ks (CXe P w) P w K mg base N x (Xy st) f g A outer s H E) (Km st) t/\t {nx:=λ_ H'=>Q .non H',rt:=Q} (start N vs) H):Own.Callee P w K mg base (CXe P w) (k+1) x ps sp:=by
 obtain⟨f,C,F,u,v⟩:=D.ex;obtain⟨oc,B,kV,y,z,J,g,G,p,rfl,o,n⟩:=F.ex;exact⟨f,_,Gj o n S len λA outer s H vs Q E r l=>h f g A outer s H vs Q E r l,u,F.kp,⟨_,o,rfl⟩,v⟩
end
end ExcR
namespace ExcR
open PySem PySem.Spec PyProof.Rows L2
open Sem (wp)
structure KU (K:ZV) (C:Addr):Prop where
 c:AH K C
 ga:PySem.W.findIn K (.ref C) "__getattribute__"=some (some<|.builtin "BaseException.__getattribute__")
 gt:PySem.W.findIn K (.ref C) "__getattr__"=some none
 cl:PySem.W.findIn K (.ref C) "__class__"=some (some<|.builtin "object.__class__")
 is:(PySem.W.clsIn K C).isSome=true
end ExcR
namespace ExcR
open PySem PySem.Spec PyProof.Rows L2
noncomputable def ER(a C:Addr)(g:Yi):HO:=.ext λh=>∃o,h.get? a=some o/\(o.cls,o.dict)=(.ref C,g)/\∃f,o.data=.fields f
noncomputable abbrev Zm6(a C:Addr):HO:=ER a C none
noncomputable def Zoy(i:Nat)(D:Ends):Ends:={nx:=λf H=>D.nx (f.set i none) H,rt:=D.rt,bk:=λf H=>D.bk (f.set i none) H,ct:=λf H=>D.ct (f.set i none) H}
noncomputable def hx(K:ZV)(l:Addr)(i:Nat)(g:TS)(D:Ends):L2.St->XK:=λf c h H=>∃C,c=.ref C/\PySem.W.exmOne K (.ref C) (.ref l)=some true/\
 ∀a,H a=none->g (Zoy i D) (f.set i<|some<|.ref a) (upd H a<|ER a C h)
noncomputable def X9(f:ZZ)(x:Str):Addr:=match f x with
 |some (.ref C)=>C
 |_=>0
def RM(h:f x=some (.ref C)):X9 f x=C:=by unfold X9;rw[h]
def P5{v pos}(h:∃u,X.mg x=some u/\RelV v u)(f:autoParam (Gl X x) au_0)(g:autoParam ((x==("__debug__" : Str))=false) au_1):PE X (.Name x pos) (tC v):=by
 obtain⟨u,n,l⟩:=h;exact Zn3 f n l g
end ExcR
namespace Own
open PySem PySem.Spec PyProof.Rows L2 M
section
variable {X:Cx}{pins:ZY}{σ:L2.St}{H:Hp}{s:Shared}
def M1{p:Int×Int}{its}(r:Vals [V.int p.1,V.int p.2] its):∃g f,its=[.int p.1 g,.int p.2 f]:=by
 cases r with
 |cons o h=>
  cases h with
  |cons n l=>
   cases l
   obtain⟨g,rfl⟩:=o;obtain⟨f,rfl⟩:=n
   grind
def Zl8{x y p q u v}(I:Inv X pins σ H s)(U:A.units<cLine)(L:RelV x u)(J:RelV y v)(Y:PR H x p)(hq:PR H y q):SeqAt.EqAt A s u v (decide (p=q)):=by
 obtain⟨a,rfl,C⟩:=Y;obtain⟨b,rfl,l⟩:=hq;obtain rfl:=L;obtain rfl:=J;by_cases n:a=b
 ·subst n;rw[C]at l
  have e:p=q:=by
   injection l with l;injection l with l;injection l with g f;injection f with f _;exact Prod.ext (V.int.inj g) (V.int.inj f)
  rw[WL e];exact SeqAt.EqAt.same _
 ·obtain⟨_,T,N,G⟩:=(I.hok a _ C);obtain⟨_,Q,M,E⟩:=(I.hok b _ l);obtain⟨B,w,rfl⟩:=M1 N;obtain⟨r,o,rfl⟩:=M1 M
  have h:=SeqAt.RcAt.tuples (e:=λj=>if j=0 then p.1==q.1 else p.2==q.2) G E U (λj g f=>by
   have hj:j=0\/j=1:=by
    have h1':j<2:=g;lia
   rcases hj with rfl|rfl
   ·exact SeqAt.EqAt.int_int _ _ _ _
   ·exact SeqAt.EqAt.int_int _ _ _ _)
  have e:((List.range (min ([Value.int p.1 B,Value.int p.2 w].toArray).size ([Value.int q.1 r,Value.int q.2 o].toArray).size)).all (λj=>if j=0 then p.1==q.1 else p.2==q.2)&&([Value.int p.1 B,Value.int p.2 w].toArray).size==([Value.int q.1 r,Value.int q.2 o].toArray).size)=decide (p=q):=by
   show((List.range 2).all (λj=>if j=0 then p.1==q.1 else p.2==q.2)&&true)=decide (p=q);rw[Bool.and_true];have e2:(List.range 2).all (λj=>if j=0 then p.1==q.1 else p.2==q.2)=((p.1==q.1)&&(p.2==q.2)):=by simp[List.range,List.range.loop]
   rw[e2];by_cases g:p.1=q.1
   ·by_cases f:p.2=q.2
    ·rw[WL (Prod.ext g f)];simp[g,f]
    ·rw[Ql (λz=>f (by rw[z]))];simp[f]
   ·rw[Ql (λz=>g (by rw[z]))];simp[g]
  rw[e]at h;exact SeqAt.EqAt.of_refs n h
noncomputable def eP(H:Hp)(q:Int×Int)(u:Value):Bool:=match u with
 | .ref a=>(match H a with
  |some (.tup [.int i,.int j])=>decide ((i,j)=q)
  |_=>false)
 |_=>false
def Io{p q}(h:PR H v p)(r:RelV v u):eP H q u=decide (p=q):=by
 obtain⟨a,rfl,f⟩:=h;obtain rfl:=r;unfold eP;simp_all
theorem Ck:∀{vs us}{ps:ZW},Vals vs us->LV PR H vs ps->us.any (eP H q)=decide (q∈ps)
 |_,_,[],.nil,_=>rfl
 |_,_,_::_,.nil,h|v::vs,u::us,[],.cons _ _,h=>absurd h.1 (by simp)
 |v::vs,u::us,p::ps,.cons r t,h=>by
  obtain⟨l,e,f⟩:=h.2 0 p rfl;cases e
  have g:LV PR H vs ps:=⟨by simpa using h.1,λi x e=>h.2 (i+1) x e⟩;rw[Jo,Io f r,Ck t g];by_cases n:p=q
  ·grind
  ·grind
noncomputable def Ft(neg:Bool):R2:=λx y H Q=>∃(l:Addr) (f:ZW) (q:Int×Int),y=.ref l/\PR H x q/\LAt PR H l f/\Q (.bl (if neg then !decide (q∈f)else decide (q∈f))) H
theorem Ex{x v q}(I:Inv X pins σ H s)(l:A.units<cLine)(g:RelV x v)(hx:PR H x q):∀{vs us}{ps:ZW},Vals vs us->LV PR H vs ps->∀u∈us,SeqAt.EqAt A s u v (eP H q u)
 |_,_,_,.nil,_,u,f=>by cases f
 |w::vs,u::us,[],.cons _ _,h,_,_=>absurd h.1 (by simp)
 |w::vs,u::us,p::ps,.cons r t,h,n,f=>by
  obtain⟨y,e,hw⟩:=h.2 0 p rfl;cases e
  have o:LV PR H vs ps:=⟨by simpa using h.1,λi x e=>h.2 (i+1) x e⟩;rcases WZ.mp f with rfl|f
  ·rw[Io hw r];exact Zl8 I l r g hw hx
  ·exact Ex I l g hx t o n f
def Zrp(z:X.A.in1.units<cLine):OpR X (compareOp .In) (Ft false):=by
 intro pins s σ H x y v u Q I o n h;obtain⟨l,E,q,rfl,hx,⟨C,B,g⟩,k⟩:=h;cases n
 obtain⟨f,r,p,G⟩:=I.list (SqL.of B);refine SeqAt.in_listAt (eP H q) p.isList (λw hw=>Ex I z o hx r g w (by grind)) ⟨.bl _,H,I,rfl,?_⟩;rwa[show f.toArray.any (eP H q)=f.any (eP H q) by simp,Ck r g]
def Zql(z:X.A.in1.units<cLine):OpR X (compareOp .NotIn) (Ft true):=by
 intro pins s σ H x y v u Q I o n h;obtain⟨l,E,q,rfl,hx,⟨C,B,g⟩,k⟩:=h;cases n
 obtain⟨f,r,p,G⟩:=I.list (SqL.of B);refine SeqAt.notIn_listAt (eP H q) p.isList (λw hw=>Ex I z o hx r g w (by grind)) ⟨.bl _,H,I,rfl,?_⟩;rwa[show f.toArray.any (eP H q)=f.any (eP H q) by simp,Ck r g]
end
end Own
namespace M
open PySem PySem.Spec PyProof.Rows L2 Own
section
variable {α:Type}{R:Hp->V->α->Prop}{H:Hp}
noncomputable def pick(c:α->Bool)(d:V×α):Option V:=if c d.2=true then some d.1 else none
end
end M
namespace Own
open PySem PySem.Spec PyProof.Rows L2 M
section
variable {X:Cx}
def Ei:Kx X (.type "range") (λxs H Q=>∃i j,xs=[.int i,.int j]/\∀r,H r=none->Q (.ref r) (upd H r<|.rng i j)):=by
 intro pins s p H xs u Q I l h;obtain⟨i,j,rfl,q⟩:=h;cases l with
 |cons r f=>
  cases f with
  |cons n f=>
   cases f
   obtain⟨t,rfl⟩:=r;obtain⟨g,rfl⟩:=n;refine call_range_2 ⟨.ref s.heap.objs.size,upd H s.heap.objs.size (.rng i j),?_,rfl,q _ (I.hok.fresh<|WS _)⟩;exact I.laid (λb o e=>WM _ e) (WS _) ⟨t,g,s.toks,WU _ rfl⟩
noncomputable def X0(i:Int)(n:Nat):ZX:=(List.range n).map λ(k:Nat)=>i+(k:Int)
def Zca:∀n us,us.length=n->(∀(j:Nat) v,us[j]?=some v->∃t,v=Value.int (i+(j:Int)*1) t)->Vals ((X0 i n).map V.int) us:=by
 intro n us p h
 have f:∀us o,(∀j v,us[j]?=some v->∃t,v=Value.int (i+((o+j:Nat):Int)) t)->Vals (((List.range' o us.length).map λ(k:Nat)=>i+(k:Int)).map V.int) us:=by
  intro us
  induction us with
  |nil=>intro o _;exact .nil
  |cons u us l=>
   intro o h;obtain⟨t,e⟩:=h 0 u rfl;refine .cons ⟨t,by rw[e];simp⟩ (l (o+1) λj v g=>?_);obtain⟨r,s⟩:=h (j+1) v g
   grind
 have:=f us 0 (λj v g=>by obtain⟨t,e⟩:=h j v g;exact⟨t,by rw[e];congr 1<;>lia⟩)
 unfold X0;rw[List.range_eq_range',←p];lia
def HF(A:X.calm=true):Kx X (.type "list") (λxs H Q=>∃r i j,xs=[.ref r]/\H r=some (.rng i j)/\(-(2 ^ 62)<=i/\i<2 ^ 62/\-(2 ^ 62)<=j/\j<2 ^ 62)/\(j-i).toNat<=1000000/\
  ∀l,H l=none->Q (.ref l) (upd H l<|.lst ((X0 i (j-i).toNat).map V.int))):=by
 intro pins s J H xs L Q I o h;obtain⟨r,i,j,rfl,y,⟨b1,G,E,C⟩,g,q⟩:=h;obtain⟨u,rfl,p⟩:=o.one;obtain rfl:=p;obtain⟨t,u,v,e⟩:=(I.hok r _ y);refine call_list_range (I.ok.hd A) e (small_one b1 G E C) (rangeSize_nat i j) (WW g<|by simp) λN M f c z B n=>?_;refine⟨.ref s.heap.objs.size,upd H s.heap.objs.size (.lst ((X0 i (j-i).toNat).map V.int)),?_,rfl,q _ (I.hok.fresh<|WS _)⟩;have x:Vals ((X0 i (j-i).toNat).map V.int) f.toList:=Zca _ _ (by rw[Q8];exact n.1) λk w hw=>n.2 k w (by grind);refine I.laid z (WS _) ⟨?_,f.toList,c,x,by simpa using B⟩;rw[WH];unfold X0;rw[WH,Je];exact WW g (by decide)
end
end Own
namespace Own
open PySem PySem.Spec PyProof.Rows L2
section
variable {X:Cx}{K:ZV}
def GQ(y:X.calm=true)(A:autoParam (X.K=K) au_0):Kx X (.builtin "sum") (λxs H Q=>∃(p:Addr) (ns:ZX),xs=[.ref p]/\SqL K H p (ns.map V.int)/\Q (.int ns.sum) H):=by
 subst A;intro pins s E H xs G Q I o h;obtain⟨p,ns,rfl,z,q⟩:=h;obtain⟨u,rfl,v⟩:=o.one;obtain rfl:=v;obtain⟨g,r,w,_⟩:=I.list z;have n:IntsAre g ns:=by simpa using F9 r
 obtain⟨f,hx⟩:=n.allInts.items;have l:=w.isList;rw[hx]at l;refine sum_intListG (I.ok.hd y) l λM J L x=>?_
 have C:ns=f.toList.map (·.1):=by
  rw[←nums_intItems,←hx];exact n.numsOf.symm
 have B:preSum (numAt f) f.size=ns.sum:=by
  rw[preSum_eq,List.take_of_length_le (by simp),C]
 rw[B];exact⟨.int ns.sum,H,I.kept x,⟨_,rfl⟩,q⟩
def M0(L:X.calm=true)(T:autoParam (X.K=K) au_0):Kx X (.builtin "min") (λxs H Q=>∃(p:Addr) (ns:ZX),xs=[.ref p]/\SqL K H p (ns.map V.int)/\0<ns.length/\∀M,M∈ns->(∀a∈ns,M<=a)->Q (.int M) H):=by
 subst T;intro pins s Y H xs us Q I A h;obtain⟨p,ns,rfl,N,o,q⟩:=h;obtain⟨u,rfl,B⟩:=A.one;obtain rfl:=B;obtain⟨l,r,C,_⟩:=I.list N;have x:IntsAre l ns:=by simpa using F9 r
 obtain⟨g,e⟩:=x.allInts.items;have w:=C.isList;rw[e]at w;have f:ns=g.toList.map (·.1):=by rw[←x.numsOf,←nums_intItems,←e]
 have n:0<g.size:=by
  have z:=o;rw[f,WH,Q8]at z;exact z
 refine min_intList (I.ok.hd L) w n λv h' tk E G=>?_;obtain⟨t,rfl⟩:=intItems_at E;obtain⟨h1,U⟩:=argBest_lt (numAt g) (g.size-1);refine⟨.int _,H,I.kept G,⟨_,rfl⟩,q _ ?_ λa y=>?_⟩
 ·rw[f,numAt_eq];exact getD_mem (by rw[WH,Q8];lia)
 ·rw[f]at y;obtain⟨j,J,rfl⟩:=Q0.mp y;rw[WH,Q8]at J
  have:=U j (by lia)
  rw[numAt_eq g j]at this
  grind
theorem Zbg:∀{bs}{us:Yd},Vals (bs.map V.bl) us->LSm.BoolsAre us bs
 |[],_,.nil=>.nil
 |b::r,_,.cons h t=>by
  cases h
  exact .cons b (Zbg t)
def Zad(B:X.calm=true)(E:autoParam (X.K=K) au_0):Kx X (.builtin "any") (λxs H Q=>∃(p:Addr) (bs:List Bool),xs=[.ref p]/\SqL K H p (bs.map V.bl)/\Q (.bl<|bs.any id) H):=by
 subst E;intro pins s G H xs J Q I w h;obtain⟨p,bs,rfl,C,q⟩:=h;obtain⟨u,rfl,x⟩:=w.one;obtain rfl:=x;obtain⟨f,r,y,_⟩:=I.list C;have n:=Zbg r;have l:=y.isList;have g:p<s.heap.objs.size:=by obtain⟨_,e,_⟩:=l;exact WX e
 refine call_any_walk (wpAny_pyIter_list l ?_)
 refine⟨s.heap.objs.size,[s.heap.objs.size,p],[s.heap.objs.size],f.toArray.size,_,_,λi=>(bs[i]?).getD false,rfl,Walks.list (A:=X.A.in1) (I.ok.hd B) _ p (Qj g) f.toArray,
  ⟨⟨_,WU _ rfl,rfl,rfl⟩,l.push _⟩,λi v M U Y N o=>?_,λT L z=>?_⟩
 ·obtain⟨b,e,rfl⟩:=n.get i v (by grind);simp only[e,Option.getD_some]at o;exact Vw o
 ·have e:((List.range f.toArray.size).any λi=>(bs[i]?).getD false)=bs.any id:=by
   rw[Qn,n.length];exact LSm.range_any bs
  rw[e];exact⟨.bl (bs.any id),H,I.kept (LSm.kept_iter z),rfl,q⟩
noncomputable def Hf(K:ZV)(neg:Bool):R2:=λx y H Q=>∃(p q:Addr) (xs:List V),x=.ref p/\y=.ref q/\SqL K H p xs/\SqL K H q []/\Q (.bl (if neg then !xs.isEmpty else xs.isEmpty)) H
def LJ(l:X.A.units<cLine)(E:autoParam (X.K=K) au_0):OpR X (compareOp .Eq) (Hf K false):=by
 subst E;intro pins s J H x y v u Q I w o h;obtain⟨p,q,xs,rfl,rfl,C,hq,k⟩:=h;obtain rfl:=w;obtain rfl:=o;obtain⟨L,B,f,_⟩:=I.list C;obtain⟨n,z,p2,_⟩:=I.list hq;have N:=B.length;have M:0=n.length:=z.length;have g:=k;by_cases e:xs.length=0
 ·refine SeqAt.eq_listAt (e:=λ_=>true) f.isList p2.isList (by simp;lia) l (λj T G=>by simp at G;lia) ⟨.bl xs.isEmpty,H,I,?_,g⟩;show _=Value.bool xs.isEmpty
  grind
 ·refine SeqAt.eq_list_lengthsAt f.isList p2.isList (by simp;lia) l ⟨.bl xs.isEmpty,H,I,?_,g⟩;cases xs with
  |nil=>exact absurd rfl e
  |cons a r=>rfl
def Zkr(l:X.A.units<cLine)(E:autoParam (X.K=K) au_0):OpR X (compareOp .NotEq) (Hf K true):=by
 subst E;intro pins s J H x y v u Q I w o h;obtain⟨p,q,xs,rfl,rfl,C,hq,k⟩:=h;obtain rfl:=w;obtain rfl:=o;obtain⟨L,B,f,_⟩:=I.list C;obtain⟨n,z,p2,_⟩:=I.list hq;have N:=B.length;have M:0=n.length:=z.length;have g:=k;by_cases e:xs.length=0
 ·refine SeqAt.RcNeAt.lists (e:=λ_=>true) f.isList p2.isList (by simp;lia) l (λj T G=>by simp at G;lia) _ _ _ _ ⟨.bl (!xs.isEmpty),H,I,?_,g⟩;show _=Value.bool (!xs.isEmpty)
  grind
 ·refine SeqAt.RcNeAt.lists_lengths f.isList p2.isList (by simp;lia) l _ _ _ _ ⟨.bl (!xs.isEmpty),H,I,?_,g⟩;cases xs with
  |nil=>exact absurd rfl e
  |cons a r=>rfl
end
end Own
namespace M
open PySem PySem.Spec PyProof.Rows L2 Own
noncomputable def N7(g:ZW)(f:ZX):ZW:=g.filter λq=>decide (q.1∈f)&&decide (q.2∈f)
noncomputable def Tc(g:ZW)(f:ZX):ZX:=f.filter λh=>decide (h∈(N7 g f).map (·.2))
noncomputable def Kh(f:ZW)(g:ZX):Nat->ZX
 | 0=>g
 |n+1=>Tc f (Kh f g n)
def EM(f:ZW)(r:ZX):Prop:=∀(i:Nat) (x y:Int),r[i]?=some x->r[i+1]?=some y->(x,y)∈f
structure Ring (hs:ZX) (ws:ZW) (r:ZX):Prop where
 two:2<=r.length
 nodup:r.Nodup
 sub:∀x∈r,x∈hs
 chain:EM ws r
 last:∀x y,r[0]?=some x->r[r.length-1]?=some y->(y,x)∈ws
def Ring.ahead (R:Ring h g r) {x} (hx:x∈r):∃y∈r,(y,x)∈g:=by
 obtain⟨i,l,e⟩:=Q0.mp hx;cases i with
 |zero=>
  have f:r.length-1<r.length:=by lia
  exact⟨r[r.length-1],Qc f,R.last x _ (by grind) (WI f)⟩
 |succ i=>
  have f:i<r.length:=by lia
  exact⟨r[i],Qc f,R.chain i _ x (WI f) (by grind)⟩
def mem_peel:x∈Tc g f↔x∈f/\∃y∈f,(y,x)∈g:=by
 unfold Tc N7;rw[Qg];constructor
 ·grind
 ·rintro⟨l,y,n,h⟩;refine⟨l,WL (Qf.mpr ⟨(y,x),Qg.mpr ⟨h,?_⟩,rfl⟩)⟩
  grind
theorem D1(R:Ring l f r):∀n x,x∈r->x∈Kh f l n
 | 0,x,hx=>R.sub x hx
 |n+1,x,hx=>by
  obtain⟨y,g,h⟩:=R.ahead hx;exact mem_peel.mpr ⟨D1 R n x hx,y,D1 R n y g,h⟩
def EY(g:ZW)(f:ZX):(Tc g f).Sublist f:=JW
theorem Rg(f:ZW)(g:ZX):∀n,(Kh f g n).Sublist g
 | 0=>List.Sublist.refl _
 |n+1=>(EY f _).trans (Rg f g n)
theorem Zbq(f:ZW)(g:ZX):∀n,(∃k,k<n/\Tc f (Kh f g k)=Kh f g k)\/(Kh f g n).length+n<=g.length
 | 0=>.inr (WS _)
 |n+1=>by
  rcases Zbq f g n with⟨k,p,e⟩|h
  ·grind
  ·by_cases e:Tc f (Kh f g n)=Kh f g n
   ·grind
   ·have o:(Tc f<|Kh f g n).length<(Kh f g n).length:=by
     have r:=(EY f<|Kh f g n).length_le;rcases Ui (Tc f<|Kh f g n).length (Kh f g n).length with l|l
     ·exact l
     ·exact absurd ((EY f<|Kh f g n).eq_of_length (by lia)) e
    refine .inr ?_;show(Tc f<|Kh f g n).length+(n+1)<=g.length;lia
theorem Ra(f:ZW)(g:ZX){k}(e:Tc f (Kh f g k)=Kh f g k):∀n,Kh f g (k+n)=Kh f g k
 | 0=>rfl
 |n+1=>by
  show Tc f (Kh f g (k+n))=_;rw[Ra f g e n,e]
theorem Gx:∀{xs ys:ZX},xs.Nodup->(∀x∈xs,x∈ys)->xs.length<=ys.length
 |[],_,_,_=>QV _
 |x::xs,ys,g,h=>by
  obtain⟨n,l⟩:=Q3.mp g;have o:=Gx l λz f=>(List.mem_erase_of_ne (λe:z=x=>n (e▸f))).mpr (h z<|Qs _ f)
  grind
def HW(G:∀q∈s,q.1≠q.2)(w:g≠[])(h:∀x∈g,∃y∈g,(y,x)∈s):∃r,Ring g s r:=by
 have grow:∀n r,r≠[]->r.Nodup->(∀x∈r,x∈g)->EM s r->g.length<r.length+n->∃r,Ring g s r:=by
  intro n
  induction n with
  |zero=>
   intro r B u sub A H
   have:=Gx u sub
   lia
  |succ n E=>
   intro r B u sub A H;cases r with
   |nil=>exact absurd rfl B
   |cons x t=>
    obtain⟨y,v,hw⟩:=h x (sub x (Q9 ..));by_cases C:y∈x::t
    ·obtain⟨i,M,e⟩:=Q0.mp C
     have L:i≠0:=λz=>by
      subst z;exact G _ hw e.symm
     have p:((x::t).take (i+1)).length=i+1:=by
      rw[Qo];lia
     refine⟨(x::t).take (i+1),by lia,u.sublist (J4 _ _),λz o=>sub z (Jm o),λk a b l f=>?_,λa b l f=>?_⟩
     ·have J:k+1<i+1:=by
       have:=(Qu.mp f).1
       lia
      rw[Vs (by lia)]at l;rw[Vs J]at f;exact A k a b l f
     ·rw[p,Vp,Vs (by lia),WI M,e]at f;cases l
      cases f
      exact hw
    ·refine E (y::x::t) (by simp) (Q3.mpr ⟨C,u⟩) (λz o=>?_) (λk a b l f=>?_) (by rw[Qi];lia)
     ·rcases WZ.mp o with rfl|o
      ·exact v
      ·exact sub z o
     ·cases k with
      |zero=>
       cases l
       cases f
       exact hw
      |succ k=>exact A k a b l f
 obtain⟨x,hx⟩:=List.exists_mem_of_ne_nil g w;exact grow (g.length+1) [x] (by simp) (by simp) (λy v=>by rw[WR.mp v];exact hx) (λi a b l f=>by simp at f) (by show g.length<1+(g.length+1);lia)
def Zba(o:∀q∈g,q.1≠q.2):Kh g f f.length=[]↔¬ ∃r,Ring f g r:=by
 constructor
 ·rintro h ⟨r,R⟩;have two:=R.two;have p:0<r.length:=by lia
  have:=D1 R f.length r[0] (Qc p)
  grind
 ·intro h;rcases Zbq g f f.length with⟨k,u,e⟩|s
  ·have n:=Ra g f e (f.length-k);rw[show k+(f.length-k)=f.length by lia]at n;rw[n];by_cases l:Kh g f k=[]
   ·exact l
   ·obtain⟨r,R⟩:=HW o l (λx hx=>by
     rw[←e]at hx;exact(mem_peel.mp hx).2)
    exact absurd ⟨r,R.two,R.nodup,λx hx=>(Rg g f k).subset (R.sub x hx),R.chain,R.last⟩ h
  ·exact VP.mp (by lia)
end M
namespace M
def sl:ZX->ZX->Prop
 |x::xs,y::f=>x<y\/(x=y/\sl xs f)
 |_,_=>False
def sl_cons:sl (l::a) (l::b)↔sl a b:=by
 show(l<l\/(l=l/\sl a b))↔sl a b;constructor
 ·simp
 ·simp
noncomputable def Kj(g:Int):ZX->Int
 |[]=>g
 |x::t=>Kj x t
theorem Sq(g:Int):∀a b,Kj g (a++b)=Kj (Kj g a) b
 |[],b=>rfl
 |x::a,b=>Sq x a b
theorem DM(g:Int):∀t,(g::t)[t.length]?=some (Kj g t)
 |[]=>rfl
 |x::t=>by
  exact DM x t
def Path(C:Int->Prop)(f:ZW):Int->ZX->Prop
 |_,[]=>True
 |g,x::t=>C x/\(g,x)∈f/\Path C f x t
section
variable {C:Int->Prop}{ws:ZW}
theorem path_app:∀{g}{a b:ZX},Path C ws g (a++b)↔Path C ws g a/\Path C ws (Kj g a) b
 |g,[],b=>⟨λh=>⟨trivial,h⟩,λh=>h.2⟩
 |g,x::a,b=>by
  constructor
  ·rintro⟨n,l,f⟩
   have:=path_app.mp f
   exact⟨⟨n,l,this.1⟩,this.2⟩
  ·rintro⟨⟨n,l,f⟩,o⟩;exact⟨n,l,path_app.mpr ⟨f,o⟩⟩
theorem LX:∀{g}{t:ZX},Path C ws g t->∀x∈t,C x
 |g,[],_,x,h=>by cases h
 |g,y::t,⟨l,_,f⟩,x,h=>by
  rcases WZ.mp h with rfl|h
  ·lia
  ·exact LX f x h
theorem Za1:∀{g}{t:ZX},Path C ws g t->EM ws (g::t)
 |g,[],_=>λi x y o f=>by simp at f
 |g,z::t,⟨o,f,n⟩=>λi x y l h=>by
  cases i with
  |zero=>grind
  |succ i=>exact Za1 n i x y l h
end
def Gr(f:ZX)(l:Int):Int->Prop:=λx=>x∈f/\l<x
def SY(g:ZX)(f:ZW)(l:Int)(t:ZX):Prop:=Path (Gr g l) f l t/\(Kj l t,l)∈f
theorem Hu:∀{t:ZX},¬t.Nodup->∃a x b c,t=a++x::(b++x::c)
 |[],h=>absurd V9 h
 |y::t,h=>by
  by_cases f:y∈t
  ·obtain⟨b,c,e⟩:=List.append_of_mem f;exact⟨[],y,b,c,by rw[e];rfl⟩
  ·obtain⟨a,x,b,c,e⟩:=Hu λz=>h (Q3.mpr ⟨f,z⟩)
   grind
def La{h l t}(w:∀q∈h,q.1≠q.2)(A:l∈n)(f:SY n h l t)(r:∀u,SY n h l u->t.length<=u.length):Ring n h (l::t):=by
 have p:t≠[]:=λz=>by
  have g:=f.2;rw[z]at g;exact w _ g rfl
 have s:=LX f.1;refine⟨by have:=VO.mpr p;simp;lia,Q3.mpr ⟨λz=>absurd (s l z).2 (by lia),?_⟩,λx hx=>?_,Za1 f.1,λx y o g=>?_⟩
 ·refine Qp λz=>?_;obtain⟨a,x,b,c,e⟩:=Hu z;have o:=f.1;rw[e]at o;obtain⟨v,p2⟩:=path_app.mp o
  have C:SY n h l (a++x::c):=by
   refine⟨path_app.mpr ⟨v,p2.1,p2.2.1,((path_app (a:=x::b)).mp p2).2.2.2⟩,?_⟩
   have B:Kj l (a++x::c)=Kj l t:=by
    rw[e,Sq,Sq];show Kj x c=Kj x (b++x::c);rw[Sq];rfl
   rw[B];exact f.2
  grind
 ·rcases WZ.mp hx with rfl|hx
  ·exact A
  ·exact(s x hx).1
 ·cases o
  simp only[Qi,Vp]at g;rw[(DM l t)]at g;cases g
  exact f.2
def TL(f:ZW):Prop:=f.length<=20/\f.Nodup/\∀q∈f,(1<=q.1/\q.1<=10/\1<=q.2/\q.2<=10)/\q.1≠q.2
open Own
noncomputable def exM(ps:ZW)(ns:ZX)(p:Nat):Int:=(ps.getD (ns.getD (p-1) 0-1).toNat (0,0)).2*(ps.getD (ns.getD p 0-1).toNat (0,0)).2
noncomputable def Kq(ns:ZX)(p:Nat):ZX:=ns.take (p-1)++[ns.getD p 0,ns.getD (p-1) 0]++ns.drop (p+1)
noncomputable def TQ(ps:ZW):ZX->ZX×Int->Option (ZX×Int)
 |[],st=>some st
 |p::r,st=>if p<1\/(ps.length:Int)<=p then none else TQ ps r (Kq st.1 p.toNat,st.2+exM ps st.1 p.toNat)
def Em{p}(o:1<=p)(h:p<ns.length):(Kq ns p).Perm ns:=by
 unfold Kq;have n:ns.getD p 0=ns[p]:=by grind
 have l:ns.getD (p-1) 0=ns[p-1]'(by lia):=by grind
 rw[n,l]
 have e:ns=ns.take (p-1)++[ns[p-1]'(by lia),ns[p]]++ns.drop (p+1):=by
  have f:ns.drop (p-1)=ns[p-1]'(by lia)::ns.drop (p-1+1):=Qw (by lia);have g:p-1+1=p:=by lia
  rw[g,(Qw h)]at f
  calc ns=ns.take (p-1)++ns.drop (p-1):=(JH _ _).symm
   _=_:=by rw[f];simp
 refine List.Perm.trans ?_ (List.Perm.of_eq e.symm);exact List.Perm.append_right _ (List.Perm.append_left _<|List.Perm.swap _ _ _)
def runI_mem:x∈X0 1 n↔1<=x/\x<=n:=by
 unfold X0;rw[Qf];constructor
 ·grind
 ·intro h;exact⟨(x-1).toNat,Vd.mpr (by lia),by lia⟩
def KM(n:Nat):(X0 1 n).length=n:=by unfold X0;rw[WH,Je]
def FD(ps:ZW)(st:ZX×Int):TQ ps [] st=some st:=rfl
def FZ(ps:ZW)(p:Int)(r:ZX)(st:ZX×Int):TQ ps (p::r) st=if p<1\/(ps.length:Int)<=p then none else TQ ps r (Kq st.1 p.toNat,st.2+exM ps st.1 p.toNat):=rfl
def Zdl{f:Type}(a b:List f)(x y:f):((a++x::y::b).set a.length y).set (a.length+1) x=a++y::x::b:=by simp
def Zm0{p:Nat}(r:1<=p)(l:p<ns.length):(ns.set (p-1) ns[p]).set p (ns[p-1]'(by lia))=Kq ns p:=by
 have h:ns.drop (p-1)=ns[p-1]'(by lia)::ns.drop (p-1+1):=Qw (by lia);have g:p-1+1=p:=by lia
 rw[g,(Qw l)]at h;have e:ns=ns.take (p-1)++ns[p-1]'(by lia)::ns[p]::ns.drop (p+1):=by rw[←h,JH]
 have o:ns.getD p 0=ns[p]:=by rw[WK,WI l];rfl
 have n:ns.getD (p-1) 0=ns[p-1]'(by lia):=by rw[WK,WI (by lia)];rfl
 have f:(ns.take (p-1)).length=p-1:=by rw[Qo];lia
 unfold Kq;rw[o,n];generalize ns[p-1]'(by lia)=x at e;generalize ns[p]=y at e;generalize ns.take (p-1)=a at e f;generalize ns.drop (p+1)=b at e
 have:=Zdl a b x y
 rw[f,g,←e]at this;rw[this];simp
end M
namespace Pu
open PySem PySem.Spec PyProof.Rows L2 Own
inductive D where
 |int (i:Int)|bl (b:Bool)|non|str (x:Str)|ty (n:String)|tup (ds:List D)|lst (ds:List D)|scr (ns:ZX)|dK (kvs:List (Key×V))|dT (kvs:List (List Key×V))|loc (a:Addr) (d:D)|err (C:Addr)|ref (a:Addr)|ins (C:Addr) (xs:Ye) (ds:List D)|dF (kvs:List (List Key×V))|erM (C:Addr) (r:ZX)|fL (ns:ZX)
mutual
inductive Rp (K:ZV) (H:Hp):D->V->Prop
 |int (i:Int):Rp K H (.int i) (.int i)
 |bl (b:Bool):Rp K H (.bl b) (.bl b)
 |non:Rp K H .non .non
 |str (x:Str):Rp K H (.str x) (.str x)
 |ty (n:String):Rp K H (.ty n) (.ty n)
 |tup {ds:List D} {vs:List V} {a:Addr}:H a=some (.tup vs)->Rps K H ds vs->Rp K H (.tup ds) (.ref a)
 |lst {ds:List D} {vs:List V} {a:Addr}:H a=some (.lst vs)->Rps K H ds vs->Rp K H (.lst ds) (.ref a)
 |scr {ns:ZX} {a:Addr}:SqL K H a (ns.map V.int)->Rp K H (.scr ns) (.ref a)
 |dK {kvs:List (Key×V)} {a:Addr}:H a=some (.dK kvs)->Rp K H (.dK kvs) (.ref a)
 |dT {kvs:List (List Key×V)} {a:Addr}:H a=some (.dT kvs)->Rp K H (.dT kvs) (.ref a)
 |dF {kvs:List (List Key×V)} {o:Obj} {a:Addr}:H a=some (.frz o<|.dT kvs)->Rp K H (.dF kvs) (.ref a)
 |loc {d:D} {a:Addr}:Rp K H d (.ref a)->Rp K H (.loc a d) (.ref a)
 |err {C a:Addr}:H a=some (ExcR.Zm6 a C)->Rp K H (.err C) (.ref a)
 |ref (a:Addr):Rp K H (.ref a) (.ref a)
 |erM {C a dx l:Addr} {o:Obj} {r:ZX}:H a=some (ExcR.ER a C<|some dx)->H dx=some (.xd [("members",.ref l)])->H l=some (.frz o<|.lst<|r.map V.int)->Rp K H (.erM C r) (.ref a)
 |fL {a:Addr} {o:Obj} {ns:ZX}:H a=some (.frz o<|.lst<|ns.map V.int)->Rp K H (.fL ns) (.ref a)
 |ins {C a dx:Addr} {xs:Ye} {ds:List D} {vs:List V}:H a=some (.ins C dx<|xs.zip vs)->xs.length=vs.length->Rps K H ds vs->Rp K H (.ins C xs ds) (.ref a)
inductive Rps (K:ZV) (H:Hp):List D->List V->Prop
 |nil:Rps K H [] []
 |cons {d:D} {v:V} {ds:List D} {vs:List V}:Rp K H d v->Rps K H ds vs->Rps K H (d::ds) (v::vs)
end
section
variable {K:ZV}{H H':Hp}
def Rp.mono (S:Same H H') {d:D}{v:V}:Rp K H d v->Rp K H' d v:=
 Rp.rec (motive_1:=λd v _=>Rp K H' d v) (motive_2:=λg f _=>Rps K H' g f) .int .bl .non .str .ty (λh _ r=>.tup (S _ _ h) r) (λh _ r=>.lst (S _ _ h) r) (λh=>.scr (S.seq h)) (λh=>.dK (S _ _ h)) (λh=>.dT (S _ _ h)) (λh=>.dF (S _ _ h)) (λ_ h=>.loc h) (λh=>.err (S _ _ h)) .ref (λa b c=>.erM (S _ _ a) (S _ _ b) (S _ _ c)) (λh=>.fL (S _ _ h)) (λh e _ r=>.ins (S _ _ h) e r) .nil λ_ _=>.cons
def Rps.mono (S:Same H H') {ds:List D}:∀{vs:List V},Rps K H ds vs->Rps K H' ds vs:=by
 induction ds with
 |nil=>intro _ h;cases h;exact .nil
 |cons _ _ f=>intro _ h;cases h with|cons a b=>exact .cons (Rp.mono S a) (f b)
def Rps.len:∀{ds}{vs:List V},Rps K H ds vs->vs.length=ds.length:=by
 intro ds
 induction ds with
 |nil=>
  intro _ h;cases h
  rfl
 |cons _ _ f=>
  intro _ h;cases h with
  |cons h r=>
   exact QB (· + 1) (f r)
def Rps.get:∀{ds vs}{i:Nat}{d:D},Rps K H ds vs->ds[i]?=some d->∃v,vs[i]?=some v/\Rp K H d v:=by
 intro ds
 induction ds with
 |nil=>
  intro _ i _ h e;simp at e
 |cons _ _ f=>
  intro _ i d h e;cases h with
  |cons h r=>
   cases i with
   |zero=>
    simp at e;subst e;exact⟨_,rfl,h⟩
   |succ i=>
    obtain⟨v,l,g⟩:=f r (by simpa using e);exact⟨v,by simpa using l,g⟩
def Rps.append:∀{ds es}{vs us:List V},Rps K H ds vs->Rps K H es us->Rps K H (ds++es) (vs++us):=by
 intro ds
 induction ds with
 |nil=>
  intro _ _ _ h s;cases h
  exact s
 |cons _ _ f=>
  intro _ _ _ h s;cases h with
  |cons h r=>
   exact .cons h (f r s)
theorem Rps.drop:∀{ds vs} n,Rps K H ds vs->Rps K H (ds.drop n) (vs.drop n)
 |_,_,0,r=>r
 |_,_,_+1,.nil=>.nil
 |_,_,n+1,.cons _ r=>Rps.drop n r
theorem Rps.take:∀{ds vs} n,Rps K H ds vs->Rps K H (ds.take n) (vs.take n)
 |_,_,0,_|_,_,_+1,.nil=>.nil
 |_,_,n+1,.cons h r=>.cons h (Rps.take n r)
end
mutual
noncomputable def imm:D->Bool
 | .tup f=>Pb f
 | .lst _=>false
 | .scr _=>false
 | .dK _=>false
 | .dT _=>false
 | .loc _ _=>false
 | .err _=>false
 | .erM _ _=>false
 | .ins _ _ _=>false
 |_=>true
noncomputable def Pb:List D->Bool
 |[]=>true
 |d::r=>imm d&&Pb r
end
open Classical in
noncomputable def off(Z:Addr->Prop)(H:Hp):Hp:=λb=>if Z b then none else H b
section
variable {K:ZV}{H H':Hp}{Z Z':Addr->Prop}
def Tz(h:off Z H b=some o):H b=some o/\¬Z b:=by
 unfold off at h;by_cases z:Z b
 ·grind
 ·grind
def Kg(h:H b=some o)(z:¬Z b):off Z H b=some o:=by
 unfold off
 grind
def XB(S:Same H H')(g:∀b o,H b=some o->¬Z b->¬Z' b):Same (off Z H) (off Z' H'):=λb o h=>by
 obtain⟨f,l⟩:=Tz h;exact Kg (S b o f) (g b o f l)
def off_sub:Same (off Z H) H:=λ_ _ h=>(Tz h).1
def Rp.off (s:∀b,Z b->Mut (H b)) {d:D}{v:V}:Rp K H d v->imm d=true->Rp K (off Z H) d v:=by
 have g:∀{a o},H a=some o->¬Mut (some o)->Pu.off Z H a=some o:=λh n=>Kg h λz=>n (h▸s _ z);have f:∀{d} {P:Prop},imm d=false->imm d=true->P:=λh e=>by rw[h]at e;cases e
 exact Rp.rec (motive_1:=λd v _=>imm d=true->Rp K (Pu.off Z H) d v) (motive_2:=λl p _=>Pb l=true->Rps K (Pu.off Z H) l p) (λi _=>.int i) (λb _=>.bl b) (λ_=>.non) (λx _=>.str x) (λn _=>.ty n) (λh _ r e=>.tup (g h id) (r<|by unfold imm at e;exact e)) (λ_ _ _=>f (by unfold imm;rfl)) (λ_=>f (by unfold imm;rfl)) (λ_=>f (by unfold imm;rfl)) (λ_=>f (by unfold imm;rfl)) (λh _=>.dF (g h id)) (λ_ _=>f (by unfold imm;rfl)) (λ_=>f (by unfold imm;rfl)) (λa _=>.ref a) (λ_ _ _=>f (by unfold imm;rfl)) (λh _=>.fL (g h id)) (λ_ _ _ _=>f (by unfold imm;rfl)) (λ_=>.nil) (λ_ _ a b e=>by
  unfold Pb at e;rw[Qz]at e;exact .cons (a e.1) (b e.2))
def Rps.off (g:∀b,Z b->Mut (H b)) {ds:List D}:∀{vs:List V},Rps K H ds vs->Pb ds=true->Rps K (off Z H) ds vs:=by
 induction ds with
 |nil=>intro _ h _;cases h;exact .nil
 |cons _ _ f=>
  intro _ h e;unfold Pb at e;rw[Qz]at e;cases h with|cons a b=>exact .cons (Rp.off g a e.1) (f b e.2)
end
inductive O where
 |lst (ds:List D)|dK (kvs:List (Key×V))|dT (kvs:List (List Key×V))|ins (a C:Addr) (xs:Ye) (cs:List (Addr×List D))|lsA (a:Addr) (ds:List D)|nst (cs:List (Addr×List D))|nsl (a:Addr) (cs:List (Addr×List D))
instance:Coe (List D) O:=⟨O.lst⟩
noncomputable def O.d:O->D
 | .lst h=>.lst h | .dK f=>.dK f | .dT f=>.dT f | .ins _ C xs g=>.ins C xs (g.map λc=>.lst c.2) | .lsA _ h=>.lst h | .nst g=>.tup (g.map λc=>.lst c.2) | .nsl _ g=>.lst (g.map λc=>.lst c.2)
def O.adr (a:Addr):O->Addr->Prop
 | .lst _=>λb=>b=a
 | .dK _=>λb=>b=a
 | .dT _=>λb=>b=a
 | .ins x _ _ f=>λb=>b=x\/∃c∈f,b=c.1
 | .lsA x _=>λb=>b=x
 | .nst f=>λb=>∃c∈f,b=c.1
 | .nsl x f=>λb=>b=x\/∃c∈f,b=c.1
def OR(K:ZV)(F H:Hp)(a:Addr):O->Prop
 | .lst l=>∃f,H a=some (.lst f)/\Rps K F l f
 | .dK h=>H a=some (.dK h)
 | .dT h=>H a=some (.dT h)
 | .lsA x l=>a=x/\∃f,H a=some (.lst f)/\Rps K F l f
 | .ins x C xs g=>a=x/\xs.length=g.length/\(∃n,H a=some (.ins C n<|xs.zip (g.map λc=>V.ref c.1)))/\(∀c∈g,∃f,H c.1=some (.lst f)/\Rps K F c.2 f)/\(g.map (·.1)).Nodup
 | .nsl x g=>a=x/\H a=some (.lst (g.map λc=>V.ref c.1))/\(∀c∈g,∃f,H c.1=some (.lst f)/\Rps K F c.2 f)/\(x::g.map (·.1)).Nodup
 | .nst g=>F a=some (.tup (g.map λc=>V.ref c.1))/\(∀c∈g,∃f,H c.1=some (.lst f)/\Rps K F c.2 f)/\(g.map (·.1)).Nodup
def OR.mono {K F z H H'}{a o} (s:Same F z) (r:∀b,o.adr a b->∀x,H b=some x->H' b=some x) (h:OR K F H a o):OR K z H' a o:=by
 cases o with
 |lst B=>obtain⟨f,n,g⟩:=h;exact⟨f,r _ rfl _ n,Rps.mono s g⟩
 |lsA x B=>obtain⟨rfl,f,n,g⟩:=h;exact⟨rfl,f,r _ rfl _ n,Rps.mono s g⟩
 |nsl x y=>
  obtain⟨e,n,g,w⟩:=h;exact⟨e,r _ (.inl e) _ n,λc p=>let ⟨f,v,u⟩:=g c p;⟨f,r _ (.inr ⟨c,p,rfl⟩) _ v,Rps.mono s u⟩,w⟩
 |nst y=>
  obtain⟨n,g,w⟩:=h;exact⟨s _ _ n,λc p=>let ⟨f,v,u⟩:=g c p;⟨f,r _ ⟨c,p,rfl⟩ _ v,Rps.mono s u⟩,w⟩
 |ins x C xs y=>
  obtain⟨e,l,⟨A,n⟩,g,w⟩:=h;exact⟨e,l,⟨A,r _ (.inl e) _ n⟩,λc p=>let ⟨f,v,u⟩:=g c p;⟨f,r _ (.inr ⟨c,p,rfl⟩) _ v,Rps.mono s u⟩,w⟩
 |_=>exact r _ rfl _ h
theorem ND{K F}:∀{f:List (Addr×List D)},(∀c∈f,∃vs,F c.1=some (.lst vs)/\Rps K F c.2 vs)->Rps K F (f.map λc=>.lst c.2) (f.map λc=>V.ref c.1)
 |[],_=>.nil
 |c::f,h=>let ⟨_,l,g⟩:=h c Q9;.cons (.lst l g) (ND λo n=>h o (Qs _ n))
def OR.rpIn {K F y H a o} (s:Same F y) (n:∀b,o.adr a b->∀x,H b=some x->y b=some x) (h:OR K F H a o):Rp K y o.d (.ref a):=by
 cases o with
 |lst B=>obtain⟨r,g,f⟩:=h;exact .lst (n _ rfl _ g) (Rps.mono s f)
 |dK w=>exact .dK (n _ rfl _ h)
 |dT w=>exact .dT (n _ rfl _ h)
 |lsA x B=>obtain⟨rfl,r,g,f⟩:=h;exact .lst (n _ rfl _ g) (Rps.mono s f)
 |nsl x A=>
  obtain⟨e,g,f,z⟩:=h;exact .lst (n _ (.inl e) _ g) (ND λc p=>let ⟨r,v,u⟩:=f c p;⟨r,n _ (.inr ⟨c,p,rfl⟩) _ v,Rps.mono s u⟩)
 |nst A=>
  obtain⟨g,f,z⟩:=h;exact .tup (s _ _ g) (ND λc p=>let ⟨r,v,u⟩:=f c p;⟨r,n _ ⟨c,p,rfl⟩ _ v,Rps.mono s u⟩)
 |ins x C xs A=>
  obtain⟨e,l,⟨E,g⟩,f,z⟩:=h;exact .ins (n _ (.inl e) _ g) (by grind) (ND λc p=>let ⟨r,v,u⟩:=f c p;⟨r,n _ (.inr ⟨c,p,rfl⟩) _ v,Rps.mono s u⟩)
def OR.rp {K F H a o} (f:Same F H) (h:OR K F H a o):Rp K H o.d (.ref a):=h.rpIn f λ_ _ _ e=>e
def OR.mut {K F H a o} (h:OR K F H a o):∀b,o.adr a b->Mut (H b):=by
 cases o with
 |lst y=>obtain⟨u,g,p⟩:=h;intro b e;rw[show b=a from e,g];trivial
 |dK n=>intro b e;rw[show b=a from e,show H a=some (.dK n)from h];trivial
 |dT n=>intro b e;rw[show b=a from e,show H a=some (.dT n)from h];trivial
 |lsA x y=>obtain⟨rfl,u,g,p⟩:=h;intro b e;rw[show b=a from e,g];trivial
 |nsl x w=>
  obtain⟨e,g,p,v⟩:=h;intro b f;rcases f with f|⟨c,s,f⟩
  ·rw[show b=a from f.trans e.symm,g];trivial
  ·obtain⟨u,r,_⟩:=p c s;rw[f,r];trivial
 |nst w=>
  obtain⟨g,p,v⟩:=h;rintro b ⟨c,s,f⟩;obtain⟨u,r,_⟩:=p c s;rw[f,r];trivial
 |ins x C xs w=>
  obtain⟨e,l,⟨z,g⟩,p,v⟩:=h;intro b f;rcases f with f|⟨c,s,f⟩
  ·rw[show b=a from f.trans e.symm,g];trivial
  ·obtain⟨u,r,_⟩:=p c s;rw[f,r];trivial
inductive S where
 |bor (d:D)|sh (d:D)|own (o:O)|view (o:O)|tmp (d:D)
abbrev Γ:=List (Option S)
noncomputable def D.strip:D->D
 | .loc _ d=>d|d=>d
def Rp.strip {K H d v} (h:Rp K H d v):Rp K H d.strip v:=by
 cases h with
 |loc h=>exact h
 |int i=>exact .int i
 |bl b=>exact .bl b
 |non=>exact .non
 |str x=>exact .str x
 |ty n=>exact .ty n
 |tup h r=>exact .tup h r
 |lst h r=>exact .lst h r
 |scr h=>exact .scr h
 |dK h=>exact .dK h
 |dT h=>exact .dT h
 |dF h=>exact .dF h
 |err h=>exact .err h
 |ref a=>exact .ref a
 |erM l g f=>exact .erM l g f
 |fL h=>exact .fL h
 |ins h e r=>exact .ins h e r
noncomputable def S.d:S->D
 | .bor d=>d.strip | .sh d=>d | .own o=>o.d | .view o=>o.d | .tmp d=>d
noncomputable def arg(d:D):S:=match imm d with|true=>.sh d|false=>.bor d
noncomputable def KS(d:D):S:=match imm d with|true=>.sh d|false=>.tmp d
noncomputable def S.sub:S->D->S
 | .bor _,e=>arg e | .tmp _,e=>KS e | .own (.nst _),e=>KS e | .view (.nst _),e=>KS e | .own (.nsl _ _),e=>KS e | .view (.nsl _ _),e=>KS e|_,e=>.sh e
noncomputable def S.shd:S->Option D
 | .sh d=>some d | .own o=>some o.d
 | .bor d=>match imm d with|true=>some d|false=>none
 | .tmp d=>match imm d with|true=>some d|false=>none
 | .view _=>none
noncomputable def S.slot:S->Option S
 | .view _=>none | .bor d=>some (.bor d) | .sh d=>some (.sh d) | .own f=>some (.own f)
 | .tmp d=>match imm d with|true=>some (.sh d)|false=>none
def Ze8(h:Γ)(g:L2.St)(b:Addr):Prop:=∃(i:Nat) (f:O) (a:Addr),h[i]?=some (some<|.own f)/\g[i]?=some (some<|.ref a)/\f.adr a b
def zof(B:Addr->Prop)(g:Γ)(f:L2.St):Addr->Prop:=λb=>B b\/Ze8 g f b
def SV(K:ZV)(Z:Addr->Prop)(f H:Hp):S->V->Prop
 | .bor d,v=>Rp K f d v
 | .sh d,v=>Rp K (off Z H) d v
 | .own o,v=>∃a,v=.ref a/\(∀b,o.adr a b->f b=none)/\OR K (off Z H) H a o
 |_,_=>False
def TV(K:ZV)(Z:Addr->Prop)(f H H':Hp):S->V->Prop
 | .bor d,v=>Rp K f d v
 | .sh d,v=>Rp K (off Z H') d v
 | .own o,v=>∃a,v=.ref a/\(∀b,o.adr a b->H b=none)/\OR K (off (λb=>Z b\/o.adr a b) H') H' a o
 | .view o,v=>∃a,v=.ref a/\OR K (off Z H') H' a o
 | .tmp d,v=>Rp K H' d v
structure X4 (K:ZV) (H0:Hp) (B:Addr->Prop) (H:Hp) (σ:L2.St) (γ:Γ):Prop where
 same:Same H0 H
 len:σ.length=γ.length
 bm:∀b,B b->Mut (H b)
 own:∀(i j:Nat) (a a':Addr) (ds es:O) (b:Addr),γ[i]?=some (some<|.own ds)->γ[j]?=some (some<|.own es)->σ[i]?=some (some<|.ref a)->σ[j]?=some (some<|.ref a')->ds.adr a b->es.adr a' b->i=j
 slot:∀(i:Nat) (s:S),γ[i]?=some (some s)->∃v,σ[i]?=some (some v)/\SV K (zof B γ σ) H0 H s v
section
variable {K:ZV}{H0 H H1 H':Hp}{B Z Z':Addr->Prop}{σ:L2.St}{γ:Γ}
def Tn(S:Same H H'){b}(h:Mut (H b)):Mut (H' b):=by
 cases e:H b with
 |none=>rw[e]at h;exact h.elim
 |some o=>rw[S b o e,←e];exact h
def Np(h:Mut (H b)):∃o,H b=some o:=by
 cases e:H b with
 |none=>rw[e]at h;exact h.elim
 |some o=>grind
def X4.grow (E:X4 K H0 B H σ γ) (S:Same H H'):X4 K H0 B H' σ γ where
 same:=E.same.trans S
 len:=E.len
 bm b h:=Tn S (E.bm b h)
 own:=E.own
 slot i s h:=by
  obtain⟨v,h1,h2⟩:=E.slot i s h;refine⟨v,h1,?_⟩;cases s with
  |bor d=>trivial
  |sh d=>exact Rp.mono (XB S λ_ _ _ z=>z) h2
  |own ds=>
   obtain⟨a,e1,e3,e4⟩:=h2;exact⟨a,e1,e3,e4.mono (XB S λ_ _ _ z=>z) λb _ x=>S b x⟩
  |_=>exact h2
def X4.zm (E:X4 K H0 B H σ γ):∀b,zof B γ σ b->Mut (H b):=λb h=>by
 rcases h with h|⟨i,s,x,n,l,g⟩
 ·exact E.bm b h
 ·obtain⟨v,f,a,p,r,o⟩:=E.slot i _ n;rw[l]at f;cases f
  cases p
  exact o.mut b g
def TV.rp (f:Same H0 H') (h:TV K Z H0 H H' s v):Rp K H' s.d v:=by
 cases s with
 |bor d=>exact(Rp.mono f h).strip
 |sh d=>exact Rp.mono off_sub h
 |own g=>
  obtain⟨a,rfl,_,r⟩:=h;exact r.rp off_sub
 |view g=>
  obtain⟨a,rfl,r⟩:=h;exact r.rp off_sub
 |tmp d=>exact h
def TV.grow (f:Same H' H1) (h:TV K Z H0 H H' s v):TV K Z H0 H H1 s v:=by
 cases s with
 |bor d=>exact h
 |sh d=>exact Rp.mono (XB f λ_ _ _ z=>z) h
 |own l=>
  obtain⟨a,rfl,g,r⟩:=h;exact⟨a,rfl,g,r.mono (XB f λ_ _ _ z=>z) λb _ x=>f b x⟩
 |view l=>
  obtain⟨a,rfl,r⟩:=h;exact⟨a,rfl,r.mono (XB f λ_ _ _ z=>z) λb _ x=>f b x⟩
 |tmp d=>exact Rp.mono f h
def TV.weak (o:Same H H1) (f:∀b,Z b->Z' b) (h:TV K Z' H0 H1 H' s v):TV K Z H0 H H' s v:=by
 cases s with
 |sh d=>exact Rp.mono (XB (Same.refl _) λb _ _ z y=>z (f b y)) h
 |own n=>
  obtain⟨a,rfl,l,r⟩:=h;exact⟨a,rfl,λb g=>o.free (l b g),r.mono (XB (Same.refl _) λb _ _ z y=>z (y.imp (f b) id)) λ_ _ _ q=>q⟩
 |view n=>
  obtain⟨a,rfl,r⟩:=h;exact⟨a,rfl,r.mono (XB (Same.refl _) λb _ _ z y=>z (f b y)) λ_ _ _ q=>q⟩
 |_=>exact h
def TV.shd (o:Same H0 H') (l:∀b,Z b->Mut (H b)) (w:Same H H') (h:TV K Z H0 H H' s v) (e:s.shd=some d):Rp K (off Z H') d v:=by
 have f:=λb z=>Tn w (l b z);cases s with
 |bor g=>
  unfold S.shd at e;cases q:imm g with
  |false=>simp_all
  |true=>
   simp[q]at e;subst e;exact Rp.off f (Rp.mono o h) q
 |sh g=>cases e;exact h
 |own u=>
  cases e
  obtain⟨a,rfl,p,r⟩:=h;exact r.rpIn (XB (Same.refl _) λb _ _ z y=>z (.inl y)) λb n x e=>Kg e λz=>by have:=l _ z;rw[p b n]at this;exact this
 |view u=>cases e
 |tmp g=>
  unfold S.shd at e;cases q:imm g with
  |false=>simp[q]at e
  |true=>
   simp[q]at e;subst e;exact Rp.off f h q
def SQ(f:∀b,Z b->Mut (H' b))(g:Same H0 H')(h:Rp K H0 d v):TV K Z H0 H H' (arg d) v:=by
 unfold arg;cases q:imm d with
 |true=>exact Rp.off f (Rp.mono g h) q
 |false=>exact h
def T3(f:∀b,Z b->Mut (H' b))(h:Rp K H' d v):TV K Z H0 H H' (KS d) v:=by
 unfold KS;cases q:imm d with
 |true=>exact Rp.off f h q
 |false=>exact h
def Rp.lst_inv (h:Rp K H (.lst ds) v):∃a vs,v=.ref a/\H a=some (.lst vs)/\Rps K H ds vs:=by
 cases h with
 |lst h r=>grind
def Rp.tup_inv (h:Rp K H (.tup ds) v):∃a vs,v=.ref a/\H a=some (.tup vs)/\Rps K H ds vs:=by
 cases h with
 |tup h r=>grind
def TV.part (E:Same H0 H') (N:∀b,Z b->Mut (H b)) (Q:Same H H') (h:TV K Z H0 H H' s v) :
  (∀ds,s.d=.lst ds->∃a vs,v=.ref a/\H' a=some (.lst vs)/\vs.length=ds.length/\∀(i:Nat) d,ds[i]?=some d->∃u,vs[i]?=some u/\TV K Z H0 H H' (s.sub d) u)/\
  (∀ds,s.d=.tup ds->∃a vs,v=.ref a/\H' a=some (.tup vs)/\vs.length=ds.length/\∀(i:Nat) d,ds[i]?=some d->∃u,vs[i]?=some u/\TV K Z H0 H H' (s.sub d) u):=by
 have l:=λb z=>Tn Q (N b z);cases s with
 |bor d=>
  have h:=Rp.strip h;refine⟨λds e=>?_,λds e=>?_⟩<;>rw[show d.strip=_ from e]at h
  ·obtain⟨a,vs,rfl,h,r⟩:=Rp.lst_inv h;exact⟨_,_,rfl,E _ _ h,r.len,λi d e=>let ⟨u,g,f⟩:=r.get e;⟨u,g,SQ l E f⟩⟩
  ·obtain⟨a,vs,rfl,h,r⟩:=Rp.tup_inv h;exact⟨_,_,rfl,E _ _ h,r.len,λi d e=>let ⟨u,g,f⟩:=r.get e;⟨u,g,SQ l E f⟩⟩
 |sh d=>
  refine⟨λds e=>?_,λds e=>?_⟩<;>(have L:=e;subst L)
  ·obtain⟨a,vs,rfl,h,r⟩:=Rp.lst_inv h;exact⟨_,_,rfl,off_sub _ _ h,r.len,λi d e=>r.get e⟩
  ·obtain⟨a,vs,rfl,h,r⟩:=Rp.tup_inv h;exact⟨_,_,rfl,off_sub _ _ h,r.len,λi d e=>r.get e⟩
 |own w=>
  cases w with
  |lst w=>
   refine⟨λds e=>?_,λds e=>by cases e⟩;cases e
   obtain⟨a,rfl,J,vs,e,r⟩:=h;exact⟨a,vs,rfl,e,r.len,λi d e=>let ⟨u,g,f⟩:=r.get e;⟨u,g,Rp.mono (XB (Same.refl _) λb _ _ z y=>z (.inl y)) f⟩⟩
  |lsA x w=>
   refine⟨λds e=>?_,λds e=>by cases e⟩;cases e
   obtain⟨a,rfl,J,_,vs,e,r⟩:=h;exact⟨a,vs,rfl,e,r.len,λi d e=>let ⟨u,g,f⟩:=r.get e;⟨u,g,Rp.mono (XB (Same.refl _) λb _ _ z y=>z (.inl y)) f⟩⟩
  |nsl x M=>
   refine⟨λds e=>?_,λds e=>by cases e⟩;cases e
   obtain⟨a,rfl,J,_,C,A,G⟩:=h;have r:=ND λc p=>let ⟨vs,o,n⟩:=A c p;⟨vs,o,Rps.mono off_sub n⟩;exact⟨a,_,rfl,C,r.len,λi d e=>let ⟨u,g,f⟩:=r.get e;⟨u,g,T3 l f⟩⟩
  |nst M=>
   refine⟨(λds e=>by cases e),λds e=>?_⟩;cases e
   obtain⟨a,rfl,J,C,A,G⟩:=h;have r:=ND λc p=>let ⟨vs,o,n⟩:=A c p;⟨vs,o,Rps.mono off_sub n⟩;exact⟨a,_,rfl,off_sub _ _ C,r.len,λi d e=>let ⟨u,g,f⟩:=r.get e;⟨u,g,T3 l f⟩⟩
  |_=>exact⟨(λds e=>by cases e),(λds e=>by cases e)⟩
 |view w=>
  cases w with
  |lst w=>
   refine⟨λds e=>?_,λds e=>by cases e⟩;cases e
   obtain⟨a,rfl,vs,e,r⟩:=h;exact⟨a,vs,rfl,e,r.len,λi d e=>r.get e⟩
  |lsA x w=>
   refine⟨λds e=>?_,λds e=>by cases e⟩;cases e
   obtain⟨a,rfl,_,vs,e,r⟩:=h;exact⟨a,vs,rfl,e,r.len,λi d e=>r.get e⟩
  |nsl x M=>
   refine⟨λds e=>?_,λds e=>by cases e⟩;cases e
   obtain⟨a,rfl,_,C,A,G⟩:=h;have r:=ND λc p=>let ⟨vs,o,n⟩:=A c p;⟨vs,o,Rps.mono off_sub n⟩;exact⟨a,_,rfl,C,r.len,λi d e=>let ⟨u,g,f⟩:=r.get e;⟨u,g,T3 l f⟩⟩
  |nst M=>
   refine⟨(λds e=>by cases e),λds e=>?_⟩;cases e
   obtain⟨a,rfl,C,A,G⟩:=h;have r:=ND λc p=>let ⟨vs,o,n⟩:=A c p;⟨vs,o,Rps.mono off_sub n⟩;exact⟨a,_,rfl,off_sub _ _ C,r.len,λi d e=>let ⟨u,g,f⟩:=r.get e;⟨u,g,T3 l f⟩⟩
  |_=>exact⟨(λds e=>by cases e),(λds e=>by cases e)⟩
 |tmp d=>
  refine⟨λds e=>?_,λds e=>?_⟩<;>(have L:=e;subst L)
  ·obtain⟨a,vs,rfl,h,r⟩:=Rp.lst_inv h;exact⟨_,_,rfl,h,r.len,λi d e=>let ⟨u,g,f⟩:=r.get e;⟨u,g,T3 l f⟩⟩
  ·obtain⟨a,vs,rfl,h,r⟩:=Rp.tup_inv h;exact⟨_,_,rfl,h,r.len,λi d e=>let ⟨u,g,f⟩:=r.get e;⟨u,g,T3 l f⟩⟩
def Fr(B:Addr->Prop)(H:Hp)(σ:L2.St)(γ:Γ)(H':Hp)(f:L2.St)(g:Γ):Prop:=∀b o,H b=some o->¬zof B γ σ b->H' b=some o/\¬zof B g f b
def Fr.refl:Fr B H σ γ H σ γ:=λ_ _ h z=>⟨h,z⟩
def Fr.trans {H1 p g f n l} (a:Fr B H σ γ H1 g n) (b:Fr B H1 g n p f l):Fr B H σ γ p f l:=λx o h z=>let ⟨s,r⟩:=a x o h z;b x o s r
def Fr.grow (f:Same H H'):Fr B H σ γ H' σ γ:=λ_ _ h z=>⟨f _ _ h,z⟩
def Fr.off {H'}{σ'}{γ'} (f:Fr B H σ γ H' σ' γ'):Same (off (zof B γ σ) H) (Pu.off (zof B γ' σ') H'):=λb o h=>by
 obtain⟨p,n⟩:=Tz h;obtain⟨l,g⟩:=f b o p n;exact Kg l g
def Ko{f:Type}{l:List f}{i j}{x y}(h:(l.set i x)[j]?=some y):(j=i/\x=y/\i<l.length)\/(j≠i/\l[j]?=some y):=by grind
def FJ{f:Type}{l:List f}{i}{x}(h:i<l.length):(l.set i x)[i]?=some x:=by grind
def Sl{f:Type}{l:List f}{i j}{x}(h:j≠i):(l.set i x)[j]?=l[j]?:=by grind
def X4.drop (E:X4 K H0 B H σ γ) (i:Nat):X4 K H0 B H σ (γ.set i none)/\Fr B H σ γ H σ (γ.set i none):=by
 have p:∀b,zof B (γ.set i none) σ b->zof B γ σ b:=λb z=>z.imp id λ⟨j,l,a,g,f,u⟩=>by
  rcases Ko g with⟨_,e,_⟩|⟨_,e⟩
  ·grind
  ·exact⟨j,l,a,e,f,u⟩
 refine⟨⟨E.same,by rw[QN];exact E.len,E.bm,λk j a G l w b g f=>?_,λk s h=>?_⟩,λb o h z=>⟨h,λy=>z (p b y)⟩⟩
 ·rcases Ko g with⟨_,e,_⟩|⟨_,n⟩
  ·cases e
  ·rcases Ko f with⟨_,e,_⟩|⟨_,C⟩
   ·cases e
   ·exact E.own k j a G l w b n C
 ·rcases Ko h with⟨_,e,_⟩|⟨_,e⟩
  ·cases e
  ·obtain⟨v,g,f⟩:=E.slot k s e;refine⟨v,g,?_⟩;have r:Same (Pu.off (zof B γ σ) H) (Pu.off (zof B (γ.set i none) σ) H):=XB (Same.refl _) λb _ _ z y=>z (p b y);cases s with
   |sh d=>exact Rp.mono r f
   |own l=>
    obtain⟨a,n,A,x⟩:=f;exact⟨a,n,A,x.mono r λ_ _ _ q=>q⟩
   |_=>exact f
def X4.put {s L}{v} (E:X4 K H0 B H σ γ) (S1:Same H H') (h:TV K (zof B γ σ) H0 H H' s v) (e:s.slot=some L) (hi:i<γ.length) :
  X4 K H0 B H' (σ.set i<|some v) (γ.set i<|some L)/\Fr B H σ γ H' (σ.set i<|some v) (γ.set i<|some L):=by
 have n:i<σ.length:=by rw[E.len];exact hi
 have E':=E.grow S1
 have isown:∀f,L=.own f->s=.own f:=λf q=>by
  subst q;cases s with
  |own J=>cases e;rfl
  |tmp d=>unfold S.slot at e;cases q:imm d<;>simp[q]at e
  |_=>cases e
 have l:∀b,zof B (γ.set i<|some L) (σ.set i<|some v) b->zof B γ σ b\/∃f a,s=.own f/\v=.ref a/\f.adr a b:=λb z=>by
  rcases z with z|⟨j,f,a,h1,G,A⟩
  ·exact .inl (.inl z)
  ·rcases Ko h1 with⟨Y,g,_⟩|⟨T,g⟩
   ·subst Y;rw[FJ n]at G
    have:=Qb g
    exact .inr ⟨f,a,isown f this,Qb (Qb G),A⟩
   ·rw[Sl T]at G;exact .inl (.inr ⟨j,f,a,g,G,A⟩)
 have fresh:∀f a b,s=.own f->v=.ref a->f.adr a b->H b=none:=λf a b J ev p=>by
  subst J;obtain⟨a',g,e0,_⟩:=h;rw[ev]at g;cases g
  exact e0 b p
 have hz:∀b o,H b=some o->¬zof B γ σ b->¬zof B (γ.set i<|some L) (σ.set i<|some v) b:=λb o p z y=>by
  rcases l b y with y|⟨f,a,y1,y2,y3⟩
  ·exact z y
  ·rw[fresh f a b y1 y2 y3]at p;cases p
 have So:=XB S1 hz;refine⟨⟨E'.same,by rw[QN,QN];exact E.len,E'.bm,λk j a a' f J b h1 G A M h5 h6=>?_,λk u hk=>?_⟩,λb o p z=>⟨S1 b o p,hz b o p z⟩⟩
 ·have Q:∀(k:Nat) f a b,γ[k]?=some (some<|.own f)->σ[k]?=some (some<|.ref a)->f.adr a b->∃o,H b=some o:=λk f a b g C e3=>by
   obtain⟨u,q1,a',N,_,q3⟩:=E.slot k _ g;rw[C]at q1;cases q1
   cases N
   exact Np (q3.mut b e3)
  rcases Ko h1 with⟨ek,g,_⟩|⟨nk,g⟩
  ·rcases Ko G with⟨Y,C,_⟩|⟨T,C⟩
   ·rw[ek,Y]
   ·subst ek;rw[FJ n]at A;rw[Sl T]at M;obtain⟨o,U⟩:=Q j J a' b C M h6;rw[fresh f a b (isown f<|Qb g) (Qb<|Qb A) h5]at U;cases U
  ·rcases Ko G with⟨Y,C,_⟩|⟨T,C⟩
   ·subst Y;rw[FJ n]at M;rw[Sl nk]at A;obtain⟨o,U⟩:=Q k f a b g A h5;rw[fresh J a' b (isown J<|Qb C) (Qb<|Qb M) h6]at U;cases U
   ·rw[Sl nk]at A;rw[Sl T]at M;exact E.own k j a a' f J b g C A M h5 h6
 ·rcases Ko hk with⟨ek,g,_⟩|⟨nk,g⟩
  ·subst ek
   have:=(Qb g).symm
   subst this;refine⟨v,FJ n,?_⟩;cases s with
   |own f=>
    cases e
    obtain⟨a,rfl,e0,r⟩:=h;refine⟨a,rfl,λb p=>E.same.free (e0 b p),r.mono (XB (Same.refl _) λb o _ z y=>?_) λ_ _ _ q=>q⟩;rcases l b y with y|⟨_,_,y1,y,y2⟩
    ·exact z (.inl y)
    ·cases y;cases y1;exact z (.inr y2)
   |sh d=>
    cases e
    refine Rp.mono (XB (Same.refl _) λb o _ z y=>?_) h;rcases l b y with y|⟨_,_,y,_⟩
    ·exact z y
    ·cases y
   |bor d=>cases e;exact h
   |view d=>cases e
   |tmp d=>
    unfold S.slot at e;cases q:imm d with
    |false=>simp[q]at e
    |true=>
     simp[q]at e;subst e;refine Rp.off (λb y=>?_) h q;rcases l b y with y|⟨_,_,y,_⟩
     ·exact Tn S1 (E.zm b y)
     ·cases y
  ·obtain⟨w,q1,N⟩:=E.slot k u g;refine⟨w,by rw[Sl nk];exact q1,?_⟩;cases u with
   |sh d=>exact Rp.mono So N
   |own f=>
    obtain⟨a,g,e3,e4⟩:=N;exact⟨a,g,e3,e4.mono So λb _ x=>S1 b x⟩
   |_=>exact N
noncomputable def frz(i:Nat)(γ:Γ):Γ:=match γ[i]? with
 |some (some<|.own o)=>γ.set i (some<|.sh o.d)
 |_=>γ
def X4.frz (E:X4 K H0 B H σ γ) (hB:∀b,B b->∃o,H0 b=some o) (i:Nat):X4 K H0 B H σ (frz i γ)/\Fr B H σ γ H σ (Pu.frz i γ):=by
 unfold Pu.frz;split
 ·rename_i p J
  have G:∀b,zof B (γ.set i<|some<|.sh p.d) σ b->zof B γ σ b:=λb z=>z.imp id λ⟨j,l,a,g,f,L⟩=>by
   rcases Ko g with⟨_,e,_⟩|⟨_,e⟩
   ·cases e
   ·exact⟨j,l,a,e,f,L⟩
  have C:Same (Pu.off (zof B γ σ) H) (Pu.off (zof B (γ.set i<|some<|.sh p.d) σ) H):=XB (Same.refl _) λb _ _ z y=>z (G b y);refine⟨⟨E.same,by rw[QN];exact E.len,E.bm,λk j a A l r b g f=>?_,λk s h=>?_⟩,λb o h z=>⟨h,λy=>z (G b y)⟩⟩
  ·rcases Ko g with⟨_,e,_⟩|⟨_,n⟩
   ·cases e
   ·rcases Ko f with⟨_,e,_⟩|⟨_,w⟩
    ·cases e
    ·exact E.own k j a A l r b n w
  ·rcases Ko h with⟨T,e,_⟩|⟨Y,e⟩
   ·subst T
    have:=Qb e
    subst this;obtain⟨v,g,a,rfl,L,Q⟩:=E.slot k _ J;refine⟨_,g,Q.rpIn C λb N x f=>Kg f λz=>?_⟩;rcases z with z|⟨j,l,A,n,w,u⟩
    ·grind
    ·rcases Ko n with⟨_,q,_⟩|⟨M,q⟩
     ·cases q
     ·exact M (E.own j k A a l p b q J w g u N)
   ·obtain⟨v,g,f⟩:=E.slot k s e;refine⟨v,g,?_⟩;cases s with
    |sh d=>exact Rp.mono C f
    |own p=>
     obtain⟨a,n,u,U⟩:=f;exact⟨a,n,u,U.mono C λ_ _ _ q=>q⟩
    |_=>exact f
 ·exact⟨E,Fr.refl⟩
def X4.change {o o'} (E:X4 K H0 B H σ γ) (M:γ[i]?=some (some<|.own o)) (A:σ[i]?=some (some<|.ref a))
  (N:∀b x,H b=some x->¬o.adr a b->H' b=some x) (hm:∀b,o.adr a b->Mut (H' b)) (l:∀b,o'.adr a b->o.adr a b\/H b=none) (r:OR K (Pu.off (zof B (γ.set i<|some<|.own o') σ) H') H' a o') :
  X4 K H0 B H' σ (γ.set i<|some<|.own o')/\Fr B H σ γ H' σ (γ.set i<|some<|.own o'):=by
 obtain⟨v,h1,a',rfl,h3,h4⟩:=E.slot i _ M;rw[A]at h1;cases h1
 have za:∀b,o.adr a b->zof B γ σ b:=λb C=>.inr ⟨i,o,a,M,A,C⟩
 have hz:∀b x,H b=some x->zof B (γ.set i<|some<|.own o') σ b->zof B γ σ b:=λb x hx z=>by
  rcases z with z|⟨j,fs,a',U,p,n⟩
  ·exact .inl z
  ·rcases Ko U with⟨T,q,_⟩|⟨_,e⟩
   ·subst T;cases q
    rw[A]at p;cases p
    rcases l b n with k|k
    ·exact za b k
    ·rw[k]at hx;cases hx
   ·exact .inr ⟨j,fs,a',e,p,n⟩
 have S1:=λb x h=>by
  obtain⟨g,f⟩:=Tz h;exact Kg (N b x g λk=>f (za b k)) λz=>f (hz b x g z)
 have J:∀(k:Nat) ds a b,γ[k]?=some (some<|.own ds)->σ[k]?=some (some<|.ref a)->ds.adr a b->∃o,H b=some o:=λk ds a b U p n=>by
  obtain⟨u,g,a',f,_,q3⟩:=E.slot k _ U;rw[p]at g;cases g
  cases f
  exact Np (q3.mut b n)
 refine⟨⟨λb x h=>?_,by rw[QN];exact E.len,λb C=>?_,λk j x x' fs Q b U p n G e5 e6=>?_,λk s h=>?_⟩,λb x h z=>⟨?_,λy=>z (hz b x h y)⟩⟩
 ·exact N b x (E.same b x h) λk=>by rw[h3 b k]at h;cases h
 ·by_cases k:o.adr a b
  ·exact hm b k
  ·have:=E.bm b C
   obtain⟨x,hx⟩:=Np this;rwa[N b x hx k,←hx]
 ·rcases Ko U with⟨Y,g,_⟩|⟨nk,g⟩
  ·rcases Ko p with⟨T,_,_⟩|⟨nj,f⟩
   ·rw[Y,T]
   ·subst Y;cases g
    rw[A]at n;cases n
    rcases l b e5 with w|w
    ·exact E.own k j _ _ _ _ b M f A G w e6
    ·obtain⟨u,L⟩:=J j Q x' b f G e6;rw[w]at L;cases L
  ·rcases Ko p with⟨T,f,_⟩|⟨nj,f⟩
   ·subst T;cases f
    rw[A]at G;cases G
    rcases l b e6 with w|w
    ·exact E.own k j _ _ _ _ b g M n A e5 w
    ·obtain⟨u,L⟩:=J k fs x b g n e5;rw[w]at L;cases L
   ·exact E.own k j x x' fs Q b g f n G e5 e6
 ·rcases Ko h with⟨Y,e,_⟩|⟨nk,e⟩
  ·subst Y
   have:=Qb e
   subst this;exact⟨_,A,a,rfl,λb C=>(l b C).elim (h3 b) λw=>E.same.free w,r⟩
  ·obtain⟨v,g,f⟩:=E.slot k s e;refine⟨v,g,?_⟩;cases s with
   |sh d=>exact Rp.mono S1 f
   |own fs=>
    obtain⟨x,rfl,n,G⟩:=f;exact⟨x,rfl,n,G.mono S1 λb C y p=>N b y p λw=>nk (E.own k i x a fs o b e M g A C w)⟩
   |_=>exact f
 ·exact N b x h λk=>z (za b k)
def X4.mutate {i:Nat}{a:Addr}{ds es:O}{us:HO} (E:X4 K H0 B H σ γ) (u:γ[i]?=some (some<|.own ds)) (f:σ[i]?=some (some<|.ref a)) (w:Mut (some us)) (r:∀F H':Hp,Same (Pu.off (zof B γ σ) H) F->H' a=some us->OR K F H' a es)
  (k1:autoParam (ds.adr a=λb=>b=a) au_0) (k2:autoParam (es.adr a=λb=>b=a) au_0) :
  X4 K H0 B (upd H a us) σ (γ.set i<|some<|.own es)/\Fr B H σ γ (upd H a us) σ (γ.set i<|some<|.own es):=by
 refine E.change (o:=ds) (o':=es) u f (λb x h n=>by rw[XD (λz=>n (by rw[k1];exact z))];exact h) (λb h=>by rw[k1]at h;rw[show b=a from h,XZ];exact w) (λb h=>.inl (by rw[k1];rw[k2]at h;exact h)) (r _ _ ?_ XZ)
 intro b x h;obtain⟨v,p⟩:=Tz h;have s:b≠a:=λz=>p (.inr ⟨i,ds,a,u,f,by rw[k1];exact z⟩);refine Kg (by rw[XD s];exact v) λz=>p ?_;rcases z with z|⟨j,fs,C,A,l,g⟩
 ·exact .inl z
 ·rcases Ko A with⟨y,q,_⟩|⟨_,e⟩
  ·subst y;cases q
   rw[f]at l;cases l
   rw[k2]at g;exact absurd g s
  ·exact .inr ⟨j,fs,C,e,l,g⟩
end
end Pu
namespace Pu
open PySem PySem.Spec PyProof.Rows L2 Own
abbrev XR:=Str->Prop
noncomputable def dI(n:Nat):Int:=if n % 2=0 then .ofNat (n / 2)else .negSucc (n / 2)
noncomputable def Zvf:Yc->Option (ZX)
 | 0::t=>some (t.map dI)
 |_=>none
noncomputable def Ac(x:Str):Option (ZX):=Zvf x.cps.toList
def XE(f:ZZ)(E:XK)(c:Str)(H':Hp):Prop:=match Ac c with
 |none=>E (.ref<|ExcR.X9 f c) none H'
 |some r=>∀(g l:Addr) (o:Obj),H' g=some (.xd [("members",.ref l)])->H' l=some (.frz o<|.lst<|r.map V.int)->E (.ref<|ExcR.X9 f "Ringed") (some g) H'
def XE.plain {c H'} (g:Ac c=none) (h:XE f E c H'):E (.ref<|ExcR.X9 f c) none H':=by
 unfold XE at h;simp_all
abbrev PTE:=Γ->(S->Prop)->XR->Prop
abbrev PTT:=Γ->(Bool->Prop)->XR->Prop
abbrev PTA:=Γ->(List S->Prop)->XR->Prop
abbrev PTO:=Γ->(Option Int->Prop)->XR->Prop
structure NK where
 nx:Γ->Prop
 rt:S->Prop
 ex:Γ->Str->Prop
 bk:Γ->Prop:=λ_=>False
 ct:Γ->Prop:=λ_=>False
 rv:Γ->D->Prop:=λ_ _=>False
abbrev PTS:=NK->Γ->Prop
abbrev PTG:=S->Γ->(Γ->Prop)->Prop
abbrev Bf:=List S->Γ->(Γ->Prop)->Prop
inductive TVs (K:ZV) (Z:Addr->Prop) (H0 H H':Hp):List S->List V->Prop
 |nil:TVs K Z H0 H H' [] []
 |cons {s:S} {v:V} {ss:List S} {vs:List V}:TV K Z H0 H H' s v->TVs K Z H0 H H' ss vs->TVs K Z H0 H H' (s::ss) (v::vs)
section
variable (K:ZV) (mg:ZZ) (E:L2.St->XK)
def Xx(t:TE)(p:PTE):Prop:=∀(l:Hp) (B:Addr->Prop) (H:Hp) (g:L2.St) (h:Γ) (R:S->Prop) (X:XR) (Q:VK),X4 K l B H g h->p h R X->
 (∀s v f,R s->Same H f->TV K (zof B h g) l H f s v->Q v f)->(∀c f,X c->Same H f->XE mg (E g) c f)->t g H Q
def KP(t:TT)(p:PTT):Prop:=∀(l:Hp) (B:Addr->Prop) (H:Hp) (g:L2.St) (h:Γ) (R:Bool->Prop) (X:XR) (Q:Bool->Hp->Prop),X4 K l B H g h->p h R X->
 (∀b f,R b->Same H f->Q b f)->(∀c f,X c->Same H f->XE mg (E g) c f)->t g H Q
def XO(t:TA)(p:PTA):Prop:=∀(o:Hp) (B:Addr->Prop) (H:Hp) (g:L2.St) (h:Γ) (R:List S->Prop) (X:XR) (Q:List V->Hp->Prop),X4 K o B H g h->p h R X->
 (∀n l f,R n->Same H f->TVs K (zof B h g) o H f n l->Q l f)->(∀c f,X c->Same H f->XE mg (E g) c f)->t g H Q
def Nz(t:TO)(p:PTO):Prop:=∀(l:Hp) (B:Addr->Prop) (H:Hp) (g:L2.St) (h:Γ) (R:Option Int->Prop) (X:XR) (Q:Option Int->Hp->Prop),X4 K l B H g h->p h R X->
 (∀o f,R o->Same H f->Q o f)->(∀c f,X c->Same H f->XE mg (E g) c f)->t g H Q
structure Ap (H0:Hp) (B:Addr->Prop) (H:Hp) (σ:L2.St) (γ:Γ) (R:NK) (D:Ends):Prop where
 nx:∀σ' γ' H',R.nx γ'->X4 K H0 B H' σ' γ'->Fr B H σ γ H' σ' γ'->D.nx σ' H'
 rt:∀s v H',R.rt s->Same H0 H'->TV K B H0 H0 H' s v->D.rt v H'
 ex:∀σ' γ' c H',R.ex γ' c->X4 K H0 B H' σ' γ'->Fr B H σ γ H' σ' γ'->XE mg (E σ') c H'
 bk:∀σ' γ' H',R.bk γ'->X4 K H0 B H' σ' γ'->Fr B H σ γ H' σ' γ'->D.bk σ' H'
 ct:∀σ' γ' H',R.ct γ'->X4 K H0 B H' σ' γ'->Fr B H σ γ H' σ' γ'->D.ct σ' H'
 rv:∀σ' γ' d v H',R.rv γ' d->X4 K H0 B H' σ' γ'->Fr B H σ γ H' σ' γ'->Rp K (off (zof B γ' σ') H') d v->D.rt v H'
def XF(t:TS)(p:PTS):Prop:=∀(h:Hp) (B:Addr->Prop) (H:Hp) (f:L2.St) (g:Γ) (R:NK) (D:Ends),(∀b,B b->∃o,h b=some o)->X4 K h B H f g->p R g->Ap K mg E h B H f g R D->t D f H
end
section
variable {K:ZV}{mg:ZZ}{E:L2.St->XK}{H0 H H1 H':Hp}{B Z Z':Addr->Prop}{σ:L2.St}{γ:Γ}
def TVs.weakG {H1 g}:∀{ss}{vs:List V},Same H H1->TVs K Z H0 H1 g ss vs->TVs K Z H0 H g ss vs:=by
 intro ss
 induction ss with
 |nil=>
  intro _ _ h;cases h
  exact .nil
 |cons _ _ l=>
  intro _ f h;cases h with
  |cons h r=>
   exact .cons (TV.weak f (λ_ z=>z) h) (l f r)
def TVs.rps (g:Same H0 H'):∀{ss}{vs:List V},TVs K Z H0 H H' ss vs->Rps K H' (ss.map S.d) vs:=by
 intro ss
 induction ss with
 |nil=>
  intro _ h;cases h
  exact .nil
 |cons _ _ f=>
  intro _ h;cases h with
  |cons h r=>
   exact .cons (h.rp g) (f r)
theorem TVs.shd {ds:List D} (l:Same H0 H') (g:∀b,Z b->Mut (H b)) (n:Same H H'):∀{f vs}{ds:List D},TVs K Z H0 H H' f vs->f.map S.shd=ds.map some->Rps K (off Z H') ds vs
 |_,_,[],.nil,_=>.nil
 |_,_,_::_,.nil,e|_,_,[],.cons _ _,e=>by cases e
 |_,_,d::ds,.cons h r,e=>by
  rw[Qa,Qa,JT]at e;exact .cons (h.shd l g n e.1) (TVs.shd (ds:=ds) l g n r e.2)
def Rp.int_inv (h:Rp K H (.int i) v):v=.int i:=by cases h;rfl
def Rp.bl_inv (h:Rp K H (.bl b) v):v=.bl b:=by cases h;rfl
def Rp.str_inv (h:Rp K H (.str x) v):v=.str x:=by cases h;rfl
def Rp.non_inv (h:Rp K H .non v):v=.non:=by cases h;rfl
def Rp.ty_inv (h:Rp K H (.ty n) v):v=.ty n:=by cases h;rfl
noncomputable def G1(i:Nat):PTE:=λγ R _=>match γ[i]? with
 |some (some<|.own f)=>R (.view f)
 |some (some s)=>R s
 |_=>False
def Xw(i:Nat):Xx K mg E (Pf i) (G1 i):=by
 intro H0 B H σ γ R X Q f h q _;unfold G1 at h;split at h
 ·rename_i o e;obtain⟨v,g,a,rfl,r,n⟩:=f.slot i _ e;exact⟨_,g,q _ _ H h (Same.refl _) ⟨a,rfl,n⟩⟩
 ·rename_i s p e;obtain⟨v,g,l⟩:=f.slot i _ e;refine⟨v,g,q _ _ H h (Same.refl _) ?_⟩;cases s with
  |bor d|sh d=>exact l
  |own o=>grind
  |_=>exact l.elim
 ·grind
noncomputable def pC(d:D):PTE:=λ_ R _=>R (.sh d)
def F5(h:∀H,Rp K H d v):Xx K mg E (tC v) (pC d):=by
 intro H0 B H σ γ R X Q f p q _;exact q _ _ H p (Same.refl _) (h _)
def X2:Xx K mg E (tC<|.int i) (pC<|.int i):=F5 λ_=>.int i
def Nu:Xx K mg E (tC<|.bl b) (pC<|.bl b):=F5 λ_=>.bl b
def Zh0:Xx K mg E (tC .non) (pC .non):=F5 λ_=>.non
def NV:Xx K mg E (tC<|.str x) (pC<|.str x):=F5 λ_=>.str x
def Bv:Xx K mg E (tC<|.ty n) (pC<|.ty n):=F5 λ_=>.ty n
noncomputable def p2(a b:PTE)(f:S->S->(S->Prop)->Prop):PTE:=λγ R X=>a γ (λx=>b γ (λy=>f x y R) X) X
def Pv{A w a b f}(Y:Xx K mg E A a)(U:Xx K mg E w b)(N:∀H0 H h Z x y v u R Q,Same H0 h->Same H h->(∀b,Z b->Mut (H b))->TV K Z H0 H h x v->TV K Z H0 H h y u->f x y R->(∀s z H',R s->Same h H'->TV K Z H0 H H' s z->Q z H')->r v u h Q) :
  Xx K mg E (tOp r A w) (p2 a b f):=by
 intro H0 B H σ γ R X Q l p q C;refine Y H0 B H σ γ _ X _ l p (λx v H1 h1 n L=>?_) C;have g:=l.grow n;refine U H0 B H1 σ γ _ X _ g h1 (λy u h h2 o J=>?_) λc H' T S'=>C c H' T (n.trans S');exact N H0 H h _ x y v u R Q (g.same.trans o) (n.trans o) l.zm (L.grow o) (TV.weak n (λ_ z=>z) J) h2 λs z H' M S3 G=>q s z H' M ((n.trans o).trans S3) G
def fI0(g:Int->Int->D):S->S->(S->Prop)->Prop:=λx y R=>match x.d,y.d with
 | .int i,.int j=>R (.sh<|g i j)
 |_,_=>False
def fI(C:Int->Int->Prop)(g:Int->Int->D):S->S->(S->Prop)->Prop:=λx y R=>match x.d,y.d with
 | .int i,.int j=>C i j/\R (.sh<|g i j)
 |_,_=>False
def Fe{g'}{l f a b}(w:∀H i j,Rp K H (g' i j) (g i j))(A:Xx K mg E l a)(z:Xx K mg E f b):Xx K mg E (tOp (rI0 g) l f) (p2 a b<|fI0 g'):=by
 refine Pv A z λH0 H J Z x y v u R Q n L M s r h q=>?_;unfold fI0 at h;have p:=s.rp n;have o:=r.rp n;split at h
 ·rename_i i j G C;rw[G]at p;rw[C]at o;exact⟨i,j,p.int_inv,o.int_inv,q _ _ J h (Same.refl _) (w _ i j)⟩
 ·grind
def FM{g r}{l f a b}(z:∀H i j,Rp K H (r i j) (g i j))(G:Xx K mg E l a)(A:Xx K mg E f b):Xx K mg E (tOp (rI C g) l f) (p2 a b<|fI C r):=by
 refine Pv G A λH0 H M Z x y v u R Q n N T w s h q=>?_;unfold fI at h;have p:=w.rp n;have o:=s.rp n;split at h
 ·rename_i i j L J;rw[L]at p;rw[J]at o;exact⟨i,j,p.int_inv,o.int_inv,h.1,q _ _ M h.2 (Same.refl _) (z _ i j)⟩
 ·grind
section
variable {ta tb tc:TE}{a b c:PTE}
def XJ(g:Xx K mg E ta a)(f:Xx K mg E tb b):Xx K mg E (tOp (rI0 λi j=>.int (i+j)) ta tb) (p2 a b (fI0 λi j=>.int (i+j))):=Fe (λ_ _ _=>.int _) g f
def XW(g:Xx K mg E ta a)(f:Xx K mg E tb b):Xx K mg E (tOp (rI0 λi j=>.int (i-j)) ta tb) (p2 a b (fI0 λi j=>.int (i-j))):=Fe (λ_ _ _=>.int _) g f
def Na(g:Xx K mg E ta a)(f:Xx K mg E tb b):Xx K mg E (tOp (rI CMul λi j=>.int (i*j)) ta tb) (p2 a b (fI CMul λi j=>.int (i*j))):=FM (λ_ _ _=>.int _) g f
def KB(g:Xx K mg E ta a)(f:Xx K mg E tb b):Xx K mg E (tOp (rI GM λi j=>.int (i / j)) ta tb) (p2 a b (fI GM λi j=>.int (i / j))):=FM (λ_ _ _=>.int _) g f
def XT(g:Xx K mg E ta a)(f:Xx K mg E tb b):Xx K mg E (tOp (rI (λ_ j=>0<j) λi j=>.int (i % j)) ta tb) (p2 a b (fI (λ_ j=>0<j) λi j=>.int (i % j))):=FM (λ_ _ _=>.int _) g f
def De(g:Xx K mg E ta a)(f:Xx K mg E tb b):Xx K mg E (tOp (rI Ge λi j=>.int (i ^ j.toNat)) ta tb) (p2 a b (fI Ge λi j=>.int (i ^ j.toNat))):=FM (λ_ _ _=>.int _) g f
def Pp(g:Xx K mg E ta a)(f:Xx K mg E tb b):Xx K mg E (tOp (rI0 λi j=>.bl (decide (i<j))) ta tb) (p2 a b (fI0 λi j=>.bl (decide (i<j)))):=Fe (λ_ _ _=>.bl _) g f
def KL(g:Xx K mg E ta a)(f:Xx K mg E tb b):Xx K mg E (tOp (rI0 λi j=>.bl (decide (j<i))) ta tb) (p2 a b (fI0 λi j=>.bl (decide (j<i)))):=Fe (λ_ _ _=>.bl _) g f
def Ba(g:Xx K mg E ta a)(f:Xx K mg E tb b):Xx K mg E (tOp (rI0 λi j=>.bl (decide (j<=i))) ta tb) (p2 a b (fI0 λi j=>.bl (decide (j<=i)))):=Fe (λ_ _ _=>.bl _) g f
def fEq(neg:Bool):S->S->(S->Prop)->Prop:=λx y R=>match x.d,y.d with
 | .int i,.int j=>R (.sh<|.bl (if neg then !decide (i=j)else decide (i=j)))
 | .str i,.str j=>R (.sh<|.bl (if neg then !decide (i=j)else decide (i=j)))
 | .bl i,.bl j=>R (.sh<|.bl (if neg then !decide (i=j)else decide (i=j)))
 |_,_=>False
def Bt{g h:Type}[DecidableEq g][DecidableEq h]{f:g->h}(l:∀a b,f a=f b->a=b)(a b:g):decide (f a=f b)=decide (a=b):=by grind
def fIx:S->S->(S->Prop)->Prop:=λx y R=>match x.d,y.d with
 | .lst g,.int k=>∃d,atI g k=some d/\R (x.sub d)
 | .tup g,.int k=>∃d,atI g k=some d/\R (x.sub d)
 | .scr f,.int k=>∃i,atI f k=some i/\R (.sh<|.int i)
 | .fL f,.int k=>∃i,atI f k=some i/\R (.sh<|.int i)
 |_,_=>False
def IF{P:D->V->Prop}(f:vs.length=ds.length)(h:∀(i:Nat) d,ds[i]?=some d->∃u,vs[i]?=some u/\P d u)(e:atI ds k=some d):∃u,atI vs k=some u/\P d u:=by
 unfold atI at e ⊢;cases q:ixN ds.length k with
 |_=>grind
def XS(ha:Xx K mg E ta a)(hb:Xx K mg E tb b):Xx K mg E (tOp (λx y H Q=>Fp K x y H Q\/Fh K x y H Q) ta tb) (p2 a b fIx):=by
 refine Pv ha hb λH0 H s Z x y v u R Q r s1 hm A Y h q=>?_;unfold fIx at h;have f:=Y.rp r;obtain⟨pl,pt⟩:=A.part r hm s1;split at h
 ·rename_i U k o n;rw[n]at f;obtain⟨d,T,g⟩:=h;obtain⟨l,w,rfl,M,L,J⟩:=pl U o;obtain⟨z,C,tz⟩:=IF L J T;exact .inl ⟨l,w,k,z,rfl,f.int_inv,SqL.of M,C,q _ _ s g (Same.refl _) tz⟩
 ·rename_i U k o n;rw[n]at f;obtain⟨d,T,g⟩:=h;obtain⟨l,w,rfl,M,L,J⟩:=pt U o;obtain⟨z,C,tz⟩:=IF L J T;exact .inr ⟨l,w,k,z,rfl,f.int_inv,SqT.of M,C,q _ _ s g (Same.refl _) tz⟩
 ·rename_i ns k o n;rw[n]at f;obtain⟨i,N,g⟩:=h;have p:=A.rp r;rw[o]at p;cases p with
  |scr G=>exact .inl ⟨_,_,k,.int i,rfl,f.int_inv,G,PJ N,q _ _ s g (Same.refl _) (.int i)⟩
 ·rename_i ns k o n;rw[n]at f;obtain⟨i,N,g⟩:=h;have p:=A.rp r;rw[o]at p;cases p with
  |fL G=>exact .inl ⟨_,_,k,.int i,rfl,f.int_inv,.inl (.inr ⟨_,G⟩),PJ N,q _ _ s g (Same.refl _) (.int i)⟩
 ·exact h.elim
noncomputable def Zky(a b:PTE):PTE:=λγ R X=>a γ (λx=>match x.d with | .bl c=>if c=true then b γ R X else R (.sh<|.bl false)|_=>False) X
noncomputable def Zfh(a b:PTE):PTE:=λγ R X=>a γ (λx=>match x.d with | .bl c=>if c=true then R (.sh<|.bl true)else b γ R X|_=>False) X
noncomputable def Il(a:PTE):PTE:=λγ R X=>a γ (λx=>match x.d with | .bl c=>R (.sh<|.bl (!c))|_=>False) X
def BZ(C:Xx K mg E ta a)(A:Xx K mg E tb b):Xx K mg E (O3 ta tb) (Zky a b):=by
 intro H0 B H σ γ R X Q h p q r;refine C H0 B H σ γ _ X _ h p (λx v H1 n l w=>?_) r;have f:=h.grow l;have o:=w.rp f.same;split at n
 ·rename_i c J;rw[J]at o;refine⟨c,o.bl_inv,?_⟩;split at n
  ·rename_i g;rw[WQ g];exact A H0 B H1 σ γ _ X _ f n (λy u N G L s=>q y u N G (l.trans L) (TV.weak l (λ_ z=>z) s)) λc H' g M=>r c H' g (l.trans M)
  ·rename_i g;rw[WN g];exact q _ _ H1 n l (.bl _)
 ·grind
def Zlo(C:Xx K mg E ta a)(A:Xx K mg E tb b):Xx K mg E (Zbx ta tb) (Zfh a b):=by
 intro H0 B H σ γ R X Q h p q r;refine C H0 B H σ γ _ X _ h p (λx v H1 n l w=>?_) r;have f:=h.grow l;have o:=w.rp f.same;split at n
 ·rename_i c J;rw[J]at o;refine⟨c,o.bl_inv,?_⟩;split at n
  ·rename_i g;rw[WQ g];exact q _ _ H1 n l (.bl _)
  ·rename_i g;rw[WN g];exact A H0 B H1 σ γ _ X _ f n (λy u N G L s=>q y u N G (l.trans L) (TV.weak l (λ_ z=>z) s)) λc H' g M=>r c H' g (l.trans M)
 ·grind
def Oj(r:Xx K mg E ta a):Xx K mg E (Lz ta) (Il a):=by
 intro H0 B H σ γ R X Q f p q o;refine r H0 B H σ γ _ X _ f p (λx v H1 h l n=>?_) o;have g:=n.rp (f.grow l).same;split at h
 ·rename_i c s;rw[s]at g;exact⟨c,g.bl_inv,q _ _ H1 h l (.bl _)⟩
 ·grind
noncomputable def Zrm(a:PTE):PTE:=λγ R X=>a γ (λx=>match x.d with | .int i=>R (.sh<|.int (-i))|_=>False) X
def KY(r:Xx K mg E ta a):Xx K mg E (tUn (rU λi=>.int (-i)) ta) (Zrm a):=by
 intro H0 B H σ γ R X Q f p q o;refine r H0 B H σ γ _ X _ f p (λx v H1 h l n=>?_) o;have g:=n.rp (f.grow l).same;split at h
 ·rename_i c s;rw[s]at g;exact⟨c,g.int_inv,q _ _ H1 h l (.int _)⟩
 ·grind
noncomputable def S4(a:PTE):PTT:=λγ R X=>a γ (λx=>match x.d with | .bl c=>R c|_=>False) X
def Tj(r:Xx K mg E ta a):KP K mg E (FL ta) (S4 a):=by
 intro H0 B H σ γ R X Q f p q o;refine r H0 B H σ γ _ X _ f p (λx v H1 h l n=>?_) o;have g:=n.rp (f.grow l).same;split at h
 ·rename_i c s;rw[s]at g;exact⟨c,g.bl_inv,q _ H1 h l⟩
 ·grind
def B5(f:Xx K mg E ta a):KP K mg E (tB ta) (S4 a):=Tj f
variable {sa sb:TT}{pa pb:PTT}
noncomputable def IX(a b:PTT):PTT:=λγ R X=>a γ (λc=>if c=true then b γ R X else R false) X
noncomputable def pOr(a b:PTT):PTT:=λγ R X=>a γ (λc=>if c=true then R true else b γ R X) X
noncomputable def Mj(a:PTT):PTT:=λγ R X=>a γ (λc=>R (!c)) X
def Zfv(r:KP K mg E sa pa)(o:KP K mg E sb pb):KP K mg E (LN sa sb) (IX pa pb):=by
 intro H0 B H σ γ R X Q f p q l;refine r H0 B H σ γ _ X _ f p (λc H1 n h=>?_) l;split at n
 ·rename_i g;rw[WQ g];exact o H0 B H1 σ γ _ X _ (f.grow h) n (λy w s u=>q y w s (h.trans u)) λc H' g v=>l c H' g (h.trans v)
 ·grind
def Zju(r:KP K mg E sa pa)(o:KP K mg E sb pb):KP K mg E (tOr sa sb) (pOr pa pb):=by
 intro H0 B H σ γ R X Q f p q l;refine r H0 B H σ γ _ X _ f p (λc H1 n h=>?_) l;split at n
 ·grind
 ·rename_i g;rw[WN g];exact o H0 B H1 σ γ _ X _ (f.grow h) n (λy w s u=>q y w s (h.trans u)) λc H' g v=>l c H' g (h.trans v)
def Zd7(h:KP K mg E sa pa):KP K mg E (EC sa) (Mj pa):=by
 intro H0 B H σ γ R X Q f p q g;exact h H0 B H σ γ _ X _ f p (λc H1 l n=>q _ H1 l n) g
end
noncomputable def Nt:PTA:=λ_ R _=>R []
noncomputable def PH(a:PTE)(r:PTA):PTA:=λγ R X=>a γ (λs=>r γ (λf=>R (s::f)) X) X
def Ka:XO K mg E P7 Nt:=by
 intro H0 B H σ γ R X Q f p q _;exact q _ _ H p (Same.refl _) .nil
def Pn{a r}(y:Xx K mg E te a)(w:XO K mg E n r):XO K mg E (KF te n) (PH a r):=by
 intro H0 B H σ γ R X Q f p q h;refine y H0 B H σ γ _ X _ f p (λs v H1 A g u=>?_) h;refine w H0 B H1 σ γ _ X _ (f.grow g) A (λL J G z l o=>?_) λc H' x C=>h c H' x (g.trans C);exact q _ _ G z (g.trans l) (.cons (u.grow l)<|TVs.weakG g o)
noncomputable def B0:List S->Option (List D)
 |[]=>some []
 |s::r=>match s.shd,B0 r with
  |some d,some f=>some (d::f)
  |_,_=>none
theorem E8:∀{ss}{ds:List D},B0 ss=some ds->ss.map S.shd=ds.map some
 |[],ds,h=>by cases h;rfl
 |s::r,ds,h=>by
  unfold B0 at h;split at h
  ·rename_i d l g f;cases h
   rw[Qa,Qa,g,E8 f]
  ·grind
noncomputable def Zb6(r:PTA):PTE:=λγ R X=>r γ (λg=>match B0 g with|some f=>f.length<=1000/\R (.sh<|.tup f)|none=>False) X
noncomputable def Zcs(r:PTA):PTE:=λγ R X=>r γ (λg=>match B0 g with|some f=>f.length<=1000/\R (.own f)|none=>False) X
def DZ(h:n<=1000):n<=sizeLine:=Jf (Zf1 h)
def PB(A:XO K mg E w r):Xx K mg E (RD w) (Zb6 r):=by
 intro H0 B H σ γ R X Q g p q y;refine A H0 B H σ γ _ X _ g p (λC v H1 h n x=>?_) y;split at h
 ·rename_i ds e;have f:=g.grow n;have rp:=x.shd (ds:=ds) f.same g.zm n (E8 e);refine⟨by rw[rp.len];exact DZ h.1,λl s=>?_⟩;have u:=Kk (o:=.tup v) s;refine q _ _ _ h.2 (n.trans u) (.tup (Kg XZ λz=>?_)<|Rps.mono (XB u λ_ _ _ z=>z) rp)
  have:=f.zm l z
  rw[s]at this;exact this
 ·grind
def Nq{H H1 l vs ds}(h:Same H H1)(f:H1 l=none)(rp:Rps K (off Z H1) ds vs):TV K Z H0 H (upd H1 l<|.lst vs) (.own ds) (.ref l):=
 ⟨l,rfl,(λ_ e=>e▸h.free f),vs,XZ,Rps.mono (XB (Kk f) λb o g z y=>y.elim z λe=>by rw[e,f]at g;cases g) rp⟩
def Nv(v:XO K mg E o r):Xx K mg E (Om o) (Zcs r):=by
 intro H0 B H σ γ R X Q f p q u;refine v H0 B H σ γ _ X _ f p (λx w H1 h g s=>?_) u;split at h
 ·rename_i ds e;have rp:=s.shd (ds:=ds) (f.grow g).same f.zm g (E8 e);refine⟨by rw[rp.len];exact DZ h.1,λl n=>?_⟩;exact q _ _ _ h.2 (g.trans<|Kk n) (Nq g n rp)
 ·grind
abbrev Pc:=List D->(S->Prop)->XR->Prop
noncomputable def X3(mg:ZZ)(c:Pc)(K:ZV):Sp:=λg H Q E=>∃f R X,Rps K H f g/\c f R X/\(∀s v H',R s->Same H H'->TV K (λb=>Mut (H b)) H H H' s v->Q v H')/\∀e H',X e->Same H H'->XE mg E e H'
noncomputable def S.back:S->S
 | .bor d=>KS d | .view o=>.tmp o.d|s=>s
def TV.back (env:X4 K H0 B H1 σ γ) (o:Same H H1) (f:Same H1 H') (h:TV K (λb=>Mut (H1 b)) H1 H1 H' s v):TV K (zof B γ σ) H0 H H' s.back v:=by
 cases s with
 |bor d=>exact T3 (λb z=>Tn f (env.zm b z)) (Rp.mono f h)
 |sh d=>exact Rp.mono (XB (Same.refl _) λb _ _ z y=>z (env.zm b y)) h
 |own n=>
  obtain⟨a,rfl,l,r⟩:=h;exact⟨a,rfl,(λb g=>o.free (l b g)),r.mono (XB (Same.refl _) λb _ _ z y=>z (y.imp (env.zm b) id)) λ_ _ _ q=>q⟩
 |view n=>
  obtain⟨a,rfl,r⟩:=h;exact r.rp off_sub
 |tmp d=>exact h
noncomputable def MV(c:Pc)(r:PTA):PTE:=λγ R X=>r γ (λf=>c (f.map S.d) (λs=>R s.back) λ_=>False) X
noncomputable def MB(c:Pc)(r:PTA):PTE:=λγ R X=>r γ (λf=>c (f.map S.d) (λs=>R s.back) X) X
def Pm{l r}(y:XO K mg E l r):Xx K mg E (NX (X3 mg c K) [] E0 l) (MV c r):=by
 intro H0 B H σ γ R X Q g p q w;refine y H0 B H σ γ _ X _ g p (λG C H1 A h u=>?_) w;rw[QA];have f:=g.grow h;exact⟨_,_,_,u.rps f.same,A,λs v H' x n o=>q _ _ H' x (h.trans n) (o.back f h n),λ_ _ z=>z.elim⟩
def Zj7{o r n}(z:XO K mg (λ_=>n) o r):Xx K mg (λ_=>n) (NX (X3 mg c K) [] n o) (MB c r):=by
 intro H0 B H σ γ R X Q g p q u;refine z H0 B H σ γ _ X _ g p (λJ G H1 C l x=>?_) u;rw[QA];have f:=g.grow l;exact⟨_,_,X,x.rps f.same,C,λs v H' y h w=>q _ _ H' y (l.trans h) (w.back f l h),λe H' A h=>u e H' A (l.trans h)⟩
def X4.set {s f}{v} (l:X4 K H0 B H σ γ) (g:Same H H') (h:TV K (zof B γ σ) H0 H H' s v) (e:s.slot=some f) :
  X4 K H0 B H' (σ.set i<|some v) (γ.set i<|some f)/\Fr B H σ γ H' (σ.set i<|some v) (γ.set i<|some f):=by
 by_cases n:i<γ.length
 ·exact l.put g h e n
 ·rw[List.set_eq_of_length_le (by rw[l.len];lia),List.set_eq_of_length_le (by lia)];exact⟨l.grow g,Fr.grow g⟩
def Upd(g:Yc)(σ f:L2.St):Prop:=(∀j,j∉g->f[j]?=σ[j]?)/\f.length=σ.length
def N5(K:ZV)(h:Yc)(t:TG)(p:PTG):Prop:=∀(H0:Hp) (B:Addr->Prop) (H H':Hp) (σ:L2.St) (γ:Γ) (s:S) (v:V) (R:Γ->Prop) (Q:L2.St->Hp->Prop),X4 K H0 B H σ γ->Same H H'->TV K (zof B γ σ) H0 H H' s v->p s γ R->
 (∀f g,R g->X4 K H0 B H' f g->Fr B H σ γ H' f g->Upd h σ f->Q f H')->t v σ H' Q
noncomputable def Fw(i:Nat):PTG:=λs γ R=>match s.slot with|some f=>R (γ.set i<|some f)|none=>False
def KE(i:Nat):N5 K [i] (Bx i) (Fw i):=by
 intro H0 B H H' σ γ s v R Q f n g p q;unfold Fw at p;split at p
 ·rename_i o e;obtain⟨l,f1⟩:=f.set n g e;exact q _ _ p l f1 ⟨λj h=>Sl λz=>h (by grind),QN⟩
 ·grind
noncomputable def HP:Bf:=λf γ R=>match f with|[]=>R γ|_=>False
noncomputable def RK(g:PTG)(r:Bf):Bf:=λh γ R=>match h with|s::t=>g s γ λf=>r t f R|[]=>False
def TV.notown {σ'}{γ'}{Hb} (f:Fr B H σ γ H' σ' γ') (g:Same H H') (n:∀ds,s≠.own ds) (l:∀ds,s≠.view ds) (h:TV K (zof B γ σ) H0 Hb H s v):TV K (zof B γ' σ') H0 H' H' s v:=by
 cases s with
 |bor d=>exact h
 |sh d=>exact Rp.mono f.off h
 |tmp d=>exact Rp.mono g h
 |_=>grind
def TVs.notown (f:Fr B H σ γ H g l):∀{ss}{vs:List V},(∀s∈ss,∀ds,s≠.own ds/\s≠.view ds)->TVs K (zof B γ σ) H0 u H ss vs->TVs K (zof B l g) H0 H H ss vs:=by
 intro ss
 induction ss with
 |nil=>
  intro _ _ h;cases h
  exact .nil
 |cons _ _ o=>
  intro _ n h;cases h with
  |cons h r=>
   exact .cons (h.notown f (Same.refl _) (λds=>(n _ Q9 ds).1) λds=>(n _ Q9 ds).2) (o (λs p=>n s (Qs _ p)) r)
def DO(d:D):arg d=.sh d\/arg d=.bor d:=by unfold arg;cases imm d<;>simp
def L5(d:D):KS d=.sh d\/KS d=.tmp d:=by unfold KS;cases imm d<;>simp
def Mm(s:S)(d:D):∀ds,s.sub d≠.own ds/\s.sub d≠.view ds:=λds=>by
 cases s with
 |bor b=>rcases DO d with e|e<;>(show arg d≠_/\arg d≠_;rw[e];exact⟨(λz=>by cases z),(λz=>by cases z)⟩)
 |tmp b=>rcases L5 d with e|e<;>(show KS d≠_/\KS d≠_;rw[e];exact⟨(λz=>by cases z),(λz=>by cases z)⟩)
 |sh b=>exact⟨(λz=>by cases z),(λz=>by cases z)⟩
 |own b|view b=>
  cases b with
  |nst f|nsl a f=>rcases L5 d with e|e<;>(show KS d≠_/\KS d≠_;rw[e];exact⟨(λz=>by cases z),(λz=>by cases z)⟩)
  |_=>exact⟨(λz=>by cases z),(λz=>by cases z)⟩
def FA(K:ZV)(o:Yc)(t:TGs)(p:Bf):Prop:=∀(H0:Hp) (B:Addr->Prop) (H:Hp) (σ:L2.St) (γ:Γ) (h:List S) (l:List V) (R:Γ->Prop) (Q:L2.St->Hp->Prop),X4 K H0 B H σ γ->TVs K (zof B γ σ) H0 H H h l->(∀s∈h,∀n,s≠.own n/\s≠.view n)->p h γ R->
 (∀f g,R g->X4 K H0 B H f g->Fr B H σ γ H f g->Upd o σ f->Q f H)->t l σ H Q
def Ah:FA K [] Zbd HP:=by
 intro H0 B H σ γ l h R Q f g n p q;cases g with
 |nil=>exact⟨rfl,q _ _ p f Fr.refl ⟨λ_ _=>rfl,rfl⟩⟩
 |cons _ _=>exact p.elim
def Sk{g r x w}(U:N5 K N g x)(T:FA K M r w):FA K (N++M) (IG g r) (RK x w):=by
 intro H0 B H σ γ ss vs R Q v J y p q;cases J with
 |nil=>exact p.elim
 |cons h t=>
  refine⟨_,_,rfl,U H0 B H H σ γ _ _ _ _ v (Same.refl _) h p λl o L e1 f1 C=>?_⟩;refine T H0 B H l o _ _ _ _ e1 (TVs.notown f1 (λs u=>y s (Qs _ u)) t) (λs u=>y s (Qs _ u)) L λf n p2 e2 Y A=>?_;exact q f n p2 e2 (f1.trans Y) ⟨λj G=>(A.1 j λz=>G (Q1 _ z)).trans (C.1 j λz=>G (Ve _ z)),A.2.trans C.2⟩
noncomputable def G7(n:Nat)(r:Bf):PTG:=λs γ R=>match s.d with | .tup f=>f.length=n/\r (f.map s.sub) γ R|_=>False
theorem TVs.of_part {ds:List D}{s:S}:∀{vs}{ds:List D},vs.length=ds.length->(∀(i:Nat) d,ds[i]?=some d->∃u,vs[i]?=some u/\TV K Z H0 H H' (s.sub d) u)->TVs K Z H0 H H' (ds.map s.sub) vs
 |[],[],_,_=>.nil
 |[],_::_,e,_|_::_,[],e,_=>by cases e
 |v::vs,d::ds,e,h=>by
  obtain⟨u,g,f⟩:=h 0 d rfl;cases g
  exact .cons f (TVs.of_part (ds:=ds) (by grind) λi l n=>by simpa using h (i+1) l (by grind))
def AC{y r x}(J:FA K y r x):N5 K y (Dc K n r) (G7 n x):=by
 intro H0 B H H' σ γ s v R Q g u A p q;unfold G7 at p;have f:=g.grow u;obtain⟨_,pt⟩:=A.part f.same g.zm u;split at p
 ·rename_i ds e;obtain⟨a,w,rfl,M,z,L⟩:=pt ds e;refine⟨a,w,rfl,SqT.of M,z.trans p.1,?_⟩;refine J H0 B H' σ γ _ w R Q f (TVs.notown (Fr.refl) (λC o ds=>?_)<|TVs.of_part (ds:=ds) z L) (λC o ds=>?_) p.2 λh l N T f1 G=>q h l N T (Fr.trans (Fr.grow u) f1) G
  ·obtain⟨d,_,rfl⟩:=Qf.mp o;exact Mm s d ds
  ·obtain⟨d,_,rfl⟩:=Qf.mp o;exact Mm s d ds
 ·grind
def Ap.from {D p r} (e:Ap K mg E H0 B H σ γ R D) (f:Fr B H σ γ H1 p r):Ap K mg E H0 B H1 p r R D:=
 ⟨λg h H' o n l=>e.nx g h H' o n (f.trans l),e.rt,λg h c H' o n l=>e.ex g h c H' o n (f.trans l),λg h H' o n l=>e.bk g h H' o n (f.trans l),λg h H' o n l=>e.ct g h H' o n (f.trans l),λg h d v H' o n l=>e.rv g h d v H' o n (f.trans l)⟩
variable {te:TE}{a:PTE}{tt:TT}{c:PTT}{t u:TS}{p q:PTS}
noncomputable def Md:PTS:=λR γ=>R.nx γ
def B7:XF K mg E Oy Md:=λ_ _ _ _ _ _ _ _ f h e=>e.nx _ _ _ h f Fr.refl
noncomputable def OX(p q:PTS):PTS:=λR γ=>p {R with nx:=q R} γ
def Zhz(o:XF K mg E t p)(hq:XF K mg E u q):XF K mg E (M7 t u) (OX p q):=by
 intro H0 B H σ γ R D n l h e;refine o H0 B H σ γ _ _ n l h ⟨λf g H' r s f1=>?_,e.rt,e.ex,e.bk,e.ct,e.rv⟩;exact hq H0 B H' f g R D n s r (e.from f1)
structure IV (p q:PTS) (R:NK) (γ:Γ):Prop where
 w:∃J:Γ->Prop,p {R with nx:=J} γ/\∀γ',J γ'->q R γ'
noncomputable def Od(p q:PTS):PTS:=λR γ=>IV p q R γ
def Zc2(s:XF K mg E t p)(hq:XF K mg E u q):XF K mg E (Ia t u) (Od p q):=by
 intro H0 B H σ γ R D r n h e;obtain⟨J,h,k⟩:=h.w;refine⟨λg H'=>∃f,J f/\X4 K H0 B H' g f/\Fr B H σ γ H' g f,s H0 B H σ γ _ _ r n h ⟨λg f H' l o f1=>⟨f,l,o,f1⟩,e.rt,e.ex,e.bk,e.ct,e.rv⟩,?_⟩;rintro g H' ⟨f,l,o,f1⟩;exact hq H0 B H' g f R D r o (k f l) (e.from f1)
noncomputable def Hk(i:Nat)(p:PTS):PTS:=λR γ=>p R (frz i γ)
def Zs1(i:Nat)(l:XF K mg E t p):XF K mg E t (Hk i p):=by
 intro H0 B H σ γ R D g f h e;obtain⟨n,f1⟩:=f.frz g i;exact l H0 B H σ _ R D g n h (e.from f1)
noncomputable def GA(a:PTE)(g:PTG):PTS:=λR γ=>a γ (λs=>g s γ R.nx) (R.ex γ)
def TH(z:Xx K mg E te a)(x:N5 K M g w):XF K mg E (Sn te g) (GA a w):=by
 intro H0 B H σ γ R D N f h e;refine z H0 B H σ γ _ _ _ f h (λs v H1 C L r=>?_) λc H' y o=>e.ex σ γ c H' y (f.grow o) (Fr.grow o);exact x H0 B H H1 σ γ s v _ _ f L r C λl n A J G _=>e.nx l n H1 A J G
noncomputable def DQ(i:Nat)(f:Int->Int->Int)(a:PTE):PTS:=λR γ=>match γ[i]? with
 |some (some<|.sh<|.int x)=>a γ (λy=>match y.d with | .int j=>R.nx (γ.set i<|some<|.sh<|.int<|f x j)|_=>False) (R.ex γ)
 |_=>False
def Zpf(A:Xx K mg E te a):XF K mg E (HL i te<|ipI f) (DQ i f a):=by
 intro H0 B H σ γ R D M g h e;unfold DQ at h;split at h
 ·rename_i x hx;obtain⟨v,G,C⟩:=g.slot i _ hx;refine⟨v,G,A H0 B H σ γ _ _ _ g h (λy u H1 n o w=>?_) λc H' z r=>e.ex σ γ c H' z (g.grow r) (Fr.grow r)⟩;have l:=w.rp (g.grow o).same;split at n
  ·rename_i j J;rw[J]at l;refine⟨x,j,Rp.int_inv C,l.int_inv,?_⟩;obtain⟨L,f1⟩:=g.set (s:=.sh (.int<|f x j)) o (.int _) rfl;exact e.nx _ _ H1 n L f1
  ·grind
 ·grind
noncomputable def Lh(a:PTE):PTS:=λR γ=>a γ R.rt (R.ex γ)
def AR(o:Xx K mg E te a):XF K mg E (SA te) (Lh a):=by
 intro H0 B H σ γ R D x f h e;refine o H0 B H σ γ _ _ _ f h (λs v H1 r w l=>?_) λc H' n g=>e.ex σ γ c H' n (f.grow g) (Fr.grow g);exact e.rt s v H1 r (f.same.trans w) (TV.weak f.same (λb z=>.inl z) l)
noncomputable def CL(i:Nat):PTS:=λR γ=>match γ[i]? with|some (some s)=>R.rt s|_=>False
def Zhw(i:Nat):XF K mg E (SA<|Pf i) (CL i):=by
 intro H0 B H σ γ R D C f h e;unfold CL at h;split at h
 ·rename_i s n;obtain⟨v,o,g⟩:=f.slot i _ n;refine⟨v,o,e.rt s v H h f.same ?_⟩;cases s with
  |bor d=>exact g
  |sh d=>exact Rp.mono (XB (Same.refl _) λb _ _ z y=>z (.inl y)) g
  |own r=>
   obtain⟨l,rfl,A,x⟩:=g;exact⟨l,rfl,A,x.mono (XB (Same.refl _) λb _ _ z y=>z (y.elim .inl λw=>.inr ⟨i,r,l,n,o,w⟩)) λ_ _ _ q=>q⟩
  |view r=>exact g.elim
  |tmp d=>trivial
 ·grind
noncomputable def RX(c:PTT)(p q:PTS):PTS:=λR γ=>c γ (λb=>if b=true then p R γ else q R γ) (R.ex γ)
def Zln(l:KP K mg E tt c)(v:XF K mg E t p)(hq:XF K mg E u q):XF K mg E (Ds tt t u) (RX c p q):=by
 intro H0 B H σ γ R D r f h e;refine l H0 B H σ γ _ _ _ f h (λb H1 o g=>?_) λc H' l s=>e.ex σ γ c H' l (f.grow s) (Fr.grow s);split at o
 ·rename_i n;rw[WQ n];exact v H0 B H1 σ γ R D r (f.grow g) o (e.from<|Fr.grow g)
 ·rename_i n;rw[WN n];exact hq H0 B H1 σ γ R D r (f.grow g) o (e.from<|Fr.grow g)
noncomputable def Zbl(a:PTE):PTS:=λR γ=>a γ (λ_=>R.nx γ) (R.ex γ)
def SJ(o:Xx K mg E te a):XF K mg E (Ay te) (Zbl a):=by
 intro H0 B H σ γ R D x f h e;exact o H0 B H σ γ _ _ _ f h (λs v H1 r g w=>e.nx σ γ H1 r (f.grow g) (Fr.grow g)) λc H' n l=>e.ex σ γ c H' n (f.grow l) (Fr.grow l)
noncomputable def Zo7:PTS:=λ_ _=>False
def Znx:XF K mg E RO Zo7:=λ_ _ _ _ _ _ _ _ _ h _=>h
noncomputable def M4(x:Str)(r:PTA):PTS:=λR γ=>r γ (λf=>f.length<=1000/\R.ex γ x) (R.ex γ)
def TVs.len:∀{ss}{vs:List V},TVs K Z H0 H H' ss vs->vs.length=ss.length:=by
 intro ss
 induction ss with
 |nil=>
  intro _ h;cases h
  rfl
 |cons _ _ f=>
  intro _ h;cases h with
  |cons h r=>
   exact QB (· + 1) (f r)
def Zpg{l r g}(w:XO K mg (λ_=>g) l r)(hx:autoParam (Ac x=none) au_0):XF K mg (λ_=>g) (ExcR.Oh (ExcR.X9 mg x) g l) (M4 x r):=by
 intro H0 B H σ γ R D C f h e;refine w H0 B H σ γ _ _ _ f h (λA z H1 n o v=>⟨?_,?_⟩) λc H' y s=>e.ex σ γ c H' y (f.grow s) (Fr.grow s)
 ·rw[v.len];exact DZ n.1
 ·exact(e.ex σ γ x H1 n.2 (f.grow o)<|Fr.grow o).plain hx
def Zvq(i j:Nat)(γ:Γ)(R:Γ->Prop):List S->Prop
 |[.sh d,.sh e]=>R ((γ.set i<|some<|.sh d).set j (some<|.sh e))
 |_=>False
noncomputable def clr:Yc->Γ->Γ
 |[],γ=>γ
 |i::r,γ=>clr r (γ.set i none)
theorem X4.clr:∀f {γ:Γ},X4 K H0 B H σ γ->X4 K H0 B H σ (clr f γ)/\Fr B H σ γ H σ (Pu.clr f γ)
 |[],_,e=>⟨e,Fr.refl⟩
 |i::r,γ,e=>by
  obtain⟨l,f1⟩:=e.drop i;obtain⟨h,g⟩:=X4.clr r l;exact⟨h,f1.trans g⟩
def Later(H0:Hp)(Z:Addr->Prop)(H1:Hp)(Z':Addr->Prop)(H':Hp):Prop:=Same H0 H'/\(∀b,Z' b->Mut (H' b))/\∀b o,H1 b=some o->¬Z b->H' b=some o/\¬Z' b
def Later.of (e:X4 K H0 B H' g h) (f:Fr B H1 σ γ H' g h):Later H0 (zof B γ σ) H1 (zof B h g) H':=⟨e.same,e.zm,f⟩
def Later.off (l:Later H0 Z H1 Z' H'):Same (off Z H1) (Pu.off Z' H'):=λb o h=>by
 obtain⟨r,n⟩:=Tz h;obtain⟨g,f⟩:=l.2.2 b o r n;exact Kg g f
structure Zcg (K:ZV) (H0:Hp) (B:Addr->Prop) (H1:Hp) (σ:L2.St) (γ:Γ) (J:It) (n:Nat) (item:Nat->S):Prop where
 go:∀(i:Nat) (H':Hp) (Z':Addr->Prop),i<n->Later H0 (zof B γ σ) H1 Z' H'->J.go i H'/\∀x H'',J.yld i H' x H''->Same H' H''/\TV K Z' H0 H' H'' (item i) x
 stop:∀(H':Hp) (Z':Addr->Prop),Later H0 (zof B γ σ) H1 Z' H'->J.stop n H'
abbrev PTI:=Γ->(Nat->(Nat->S)->Prop)->XR->Prop
def SndI(K:ZV)(mg:ZZ)(E:L2.St->XK)(f:TI)(g:PTI):Prop:=∀(H0:Hp) (B:Addr->Prop) (H:Hp) (σ:L2.St) (γ:Γ) (R:Nat->(Nat->S)->Prop) (X:XR) (Q:It->Hp->Prop),X4 K H0 B H σ γ->g γ R X->
 (∀n item J H1,R n item->Same H H1->Zcg K H0 B H1 σ γ J n item->Q J H1)->(∀c H',X c->Same H H'->XE mg (E σ) c H')->f σ H Q
structure FE (js:Yc) (γ:Γ) (g:PTG) (body:PTS) (R:NK) (n:Nat) (item:Nat->S):Prop where
 w:∃inv:Nat->Γ->Prop,inv 0 (clr js γ)/\
 (∀i γ',i<n->inv i γ'->g (item i) γ' λγ2=>body {R with nx:=λγ3=>inv (i+1) (clr js γ3),ct:=λγ3=>inv (i+1) (clr js γ3),bk:=R.nx} γ2)/\∀γ',inv n γ'->R.nx γ'
noncomputable def Zcd(f:Yc)(h:PTI)(g:PTG)(body:PTS):PTS:=λR γ=>h γ (λn item=>FE f γ g body R n item) (R.ex γ)
def Zmn{wi g it pg}(M:Yc)(hi:SndI K mg E wi it)(hg:N5 K is g pg)(hb:XF K mg E t p):XF K mg E (OG wi g t) (Zcd M it pg p):=by
 intro H0 B H σ γ R D hB Q h e;refine hi H0 B H σ γ _ _ _ Q h (λn item J H1 h1 S1 ok=>?_) λc H' hc S'=>e.ex σ γ c H' hc (Q.grow S') (Fr.grow S');obtain⟨Y,h0,hs,hd⟩:=h1.w;have L:=Q.grow S1;refine⟨λi m z H'=>m=n-i/\i<=n/\∃f,Y i f/\X4 K H0 B H' z f/\Fr B H1 σ γ H' z f,⟨n,by simp,QV _,_,h0,(L.clr M).1,(L.clr M).2⟩,?_⟩;rintro i m z H' ⟨rfl,hin,f,hi',e',f'⟩;by_cases N:i<n
 ·obtain⟨go,yl⟩:=ok.go i H' _ N (Later.of e' f');refine .inr ⟨go,λs H2=>∃r,Y (i+1) r/\X4 K H0 B H2 s r/\Fr B H1 σ γ H2 s r,λs H2 ⟨r,a1,a2,a3⟩=>⟨n-(i+1),by lia,rfl,N,r,a1,a2,a3⟩,λx U y=>?_⟩;obtain⟨S2,tv⟩:=yl x U y;refine hg H0 B H' U z f _ _ _ _ e' S2 tv (hs i f N hi') λs r q2 e2 f2 _=>?_;have fall:=f'.trans f2;refine hb H0 B U s r _ _ hB e2 q2 ⟨λl o T C A G=>?_,e.rt,λl o c T C A G=>e.ex l o c T C A ((Fr.grow S1).trans (fall.trans G)),λl o T C A G=>e.nx l o T C A ((Fr.grow S1).trans (fall.trans G)),λl o T C A G=>?_,λl o d v T C A G=>e.rv l o d v T C A ((Fr.grow S1).trans (fall.trans G))⟩
  ·exact⟨_,C,(A.clr M).1,(fall.trans G).trans (A.clr M).2⟩
  ·exact⟨_,C,(A.clr M).1,(fall.trans G).trans (A.clr M).2⟩
 ·have:i=n:=by lia
  subst this;exact .inl ⟨ok.stop H' _ (Later.of e' f'),e.nx z f H' (hd f hi') e' ((Fr.grow S1).trans f')⟩
noncomputable def S.fix:S->Bool
 | .bor _=>true | .sh _=>true | .own (.nsl _ _)=>false | .own _=>true|_=>false
noncomputable def pIL(a:PTE):PTI:=λγ R X=>a γ (λs=>match s.d with
 | .lst g=>s.fix=true/\R g.length λi=>s.sub (g.getD i .non)
 | .scr f=>s.fix=true/\R f.length λi=>.sh (.int<|f.getD i 0)
 |_=>False) X
def TV.last (env:X4 K H0 B H σ γ) (L:Same H H1) (f:TV K (zof B γ σ) H0 H H1 s v) (G:s.fix=true) (o:s.d=.lst ds):∃l vs,v=.ref l/\vs.length=ds.length/\
  ∀H' Z',Later H0 (zof B γ σ) H1 Z' H'->H' l=some (.lst vs)/\∀(i:Nat) d,ds[i]?=some d->∃u,vs[i]?=some u/\TV K Z' H0 H' H' (s.sub d) u:=by
 have g:∀{s:S},(∀d,s.sub d=.sh d)->Rp K (Pu.off (zof B γ σ) H1) (.lst ds) v->∃l vs,v=.ref l/\vs.length=ds.length/\
   ∀H' Z',Later H0 (zof B γ σ) H1 Z' H'->H' l=some (.lst vs)/\∀i d,ds[i]?=some d->∃u,vs[i]?=some u/\TV K Z' H0 H' H' (s.sub d) u:=λM h=>by
  obtain⟨l,vs,rfl,z,n⟩:=Rp.lst_inv h;refine⟨l,vs,rfl,n.len,λH' Z' lt=>⟨off_sub _ _ (lt.off _ _ z),λi d r=>?_⟩⟩;obtain⟨u,y,w⟩:=n.get r;refine⟨u,y,?_⟩;rw[M];exact Rp.mono lt.off w
 cases s with
 |bor d=>
  have f:=Rp.strip f;rw[show d.strip=.lst ds from o]at f
  obtain⟨l,vs,rfl,z,n⟩:=Rp.lst_inv f;refine⟨l,vs,rfl,n.len,λH' Z' lt=>⟨lt.1 _ _ z,λi d r=>?_⟩⟩;obtain⟨u,y,w⟩:=n.get r;exact⟨u,y,SQ lt.2.1 lt.1 w⟩
 |sh d=>
  have:=o
  subst this;exact g (λ_=>rfl) f
 |own A=>
  cases A with
  |dK A|dT A|ins x C xs J|nst J=>cases o
  |nsl a J=>cases G
  |_=>
   cases o
   exact g (λ_=>rfl) (f.shd (env.grow L).same env.zm L rfl)
 |_=>cases G
def Zsn(ha:Xx K mg E te a):SndI K mg E (Aj K te) (pIL a):=by
 intro H0 B H σ γ R X Q n h q qx;refine ha H0 B H σ γ _ X _ n h (λs v H1 r M o=>?_) qx;have f:=n.grow M;split at r
 ·rename_i Y C;obtain⟨l,G,rfl,hn,g⟩:=o.last n M r.1 C;obtain⟨N,_⟩:=g H1 _ (Later.of f Fr.refl);refine⟨l,rfl,⟨G,SqL.of N⟩,q _ _ _ H1 r.2 M ⟨λi H' Z' L lt=>?_,λH' Z' lt=>?_⟩⟩
  ·obtain⟨w,k2⟩:=g H' Z' lt;have hd:Y[i]?=some (Y.getD i .non):=by rw[WK,WI L];rfl
   obtain⟨u,z,tu⟩:=k2 i _ hd;refine⟨⟨G,u,SqL.of w,z⟩,λx T y=>?_⟩;obtain⟨rfl,y⟩:=y
   have:=y G (SqL.of w)
   rw[z]at this;cases this
   exact⟨Same.refl _,tu⟩
  ·exact⟨G,SqL.of (g H' Z' lt).1,by lia⟩
 ·rename_i J C
  have A:∃l,v=.ref l/\∀H' Z',Later H0 (zof B γ σ) H1 Z' H'->SqL K H' l (J.map V.int):=by
   cases s with
   |bor d=>
    have o:=Rp.strip o;rw[show d.strip=.scr J from C]at o
    cases o with
    |scr A=>exact⟨_,rfl,λH' Z' lt=>lt.1.seq A⟩
   |sh d=>
    have:=C
    subst this;cases o with
    |scr A=>exact⟨_,rfl,λH' Z' lt=>off_sub.seq (lt.off.seq A)⟩
   |own U|view U=>cases U<;>cases C
   |tmp d=>cases r.1
  obtain⟨l,rfl,g⟩:=A;refine⟨l,rfl,⟨_,g H1 _ (Later.of f Fr.refl)⟩,q _ _ _ H1 r.2 M ⟨λi H' Z' L lt=>?_,λH' Z' lt=>?_⟩⟩
  ·have w:=g H' Z' lt
   have z:(J.map V.int)[i]?=some (.int<|J.getD i 0):=by
    rw[WV,WI L,WK,WI L];rfl
   refine⟨⟨_,_,w,z⟩,λx T y=>?_⟩;obtain⟨rfl,y⟩:=y
   have:=y _ w
   rw[z]at this;cases this
   exact⟨Same.refl _,.int _⟩
  ·exact⟨_,g H' Z' lt,by rw[WH];exact WS _⟩
 ·exact r.elim
def fR1(R:Nat->(Nat->S)->Prop):List D->Prop
 |[.int j]=>(-(2 ^ 62)<=j/\j<2 ^ 62)/\R j.toNat λi=>.sh (.int (0+(i:Int)))
 |_=>False
def fR2(R:Nat->(Nat->S)->Prop):List D->Prop
 |[.int i,.int j]=>(-(2 ^ 62)<=i/\i<2 ^ 62/\-(2 ^ 62)<=j/\j<2 ^ 62)/\R (j-i).toNat λk=>.sh (.int (i+(k:Int)))
 |_=>False
noncomputable def Iy(r:PTA):PTI:=λγ R X=>r γ (λf=>fR1 R (f.map S.d)) X
noncomputable def ME(r:PTA):PTI:=λγ R X=>r γ (λf=>fR2 R (f.map S.d)) X
def Rps.one_inv (h:Rps K H [d] vs):∃v,vs=[v]/\Rp K H d v:=by
 cases h with
 |cons h r=>cases r;exact⟨_,rfl,h⟩
def Rps.two_inv (h:Rps K H [d,e] vs):∃v u,vs=[v,u]/\Rp K H d v/\Rp K H e u:=by
 cases h with
 |cons h r=>cases r with|cons f r=>cases r;exact⟨_,_,rfl,h,f⟩
def Iu{lo n}:Zcg K H0 B H1 σ γ (Itr lo n) n λi=>.sh (.int (lo+(i:Int))):=by
 refine⟨λi H' Z' f lt=>⟨f,λx g y=>?_⟩,λH' Z' lt=>WS _⟩;obtain⟨e,y⟩:=y;subst e y;exact⟨Same.refl _,.int _⟩
def Zde(y:XO K mg E o r):SndI K mg E (Hx o) (Iy r):=by
 intro H0 B H σ γ R X Q g h q x;refine y H0 B H σ γ _ X _ g h (λC A H1 f n s=>?_) x;have l:=s.rps (g.grow n).same;unfold fR1 at f;split at f
 ·rename_i j z;rw[z]at l;obtain⟨v,rfl,w⟩:=l.one_inv;rw[w.int_inv];exact⟨j,rfl,f.1.1,f.1.2,q _ _ _ H1 f.2 n Iu⟩
 ·grind
def Zm8(z:XO K mg E o r):SndI K mg E (M5 o) (ME r):=by
 intro H0 B H σ γ R X Q f h q y;refine z H0 B H σ γ _ X _ f h (λG C H1 g n s=>?_) y;have l:=s.rps (f.grow n).same;unfold fR2 at g;split at g
 ·rename_i i j A;rw[A]at l;obtain⟨v,u,rfl,x,w⟩:=l.two_inv;rw[x.int_inv,w.int_inv];exact⟨i,j,rfl,g.1,q _ _ _ H1 g.2 n Iu⟩
 ·grind
structure LZ (js:Yc) (γ:Γ) (c:PTT) (body:PTS) (R:NK):Prop where
 w:∃(inv:Γ->Prop) (μ:Γ->Nat),inv (clr js γ)/\∀γ',inv γ'->c γ' (λb=>if b=true then
  body {R with nx:=λγ3=>inv (clr js γ3)/\μ (clr js γ3)<μ γ',ct:=λγ3=>inv (clr js γ3)/\μ (clr js γ3)<μ γ',bk:=R.nx} γ' else R.nx γ') (R.ex γ')
noncomputable def Ls(f:Yc)(c:PTT)(body:PTS):PTS:=λR γ=>LZ f γ c body R
def Zuk(z:Yc)(L:KP K mg E tt c)(hb:XF K mg E t p):XF K mg E (Ri tt t) (Ls z c p):=by
 intro H0 B H σ γ R D hB G h e;obtain⟨C,J,h0,hs⟩:=h.w;refine⟨λm l H'=>∃f,m=J f/\C f/\X4 K H0 B H' l f/\Fr B H σ γ H' l f,⟨_,_,rfl,h0,(G.clr z).1,(G.clr z).2⟩,?_⟩;rintro m l H' ⟨f,rfl,hi,M,U⟩;refine L H0 B H' l f _ _ _ M (hs f hi) (λb H1 T S1=>?_) λc Q L S'=>e.ex l f c Q L (M.grow S') (U.trans<|Fr.grow S');have Y:=M.grow S1;have f1:=U.trans (Fr.grow S1);cases b with
 |false=>
  exact e.nx l f H1 T Y f1
 |true=>
  refine⟨λy N=>∃o,J o<J f/\C o/\X4 K H0 B N y o/\Fr B H σ γ N y o,λy N ⟨o,k,a1,a2,a3⟩=>⟨_,k,o,rfl,a1,a2,a3⟩,?_⟩;refine hb H0 B H1 l f _ _ hB Y T ⟨λg n A r s x=>?_,e.rt,λg n c A r s x=>e.ex g n c A r s (f1.trans x),λg n A r s x=>e.nx g n A r s (f1.trans x),λg n A r s x=>?_,λg n d v A r s x=>e.rv g n d v A r s (f1.trans x)⟩
  ·exact⟨_,r.2,r.1,(s.clr z).1,(f1.trans x).trans (s.clr z).2⟩
  ·exact⟨_,r.2,r.1,(s.clr z).1,(f1.trans x).trans (s.clr z).2⟩
end
section
variable {K:ZV}{mg:ZZ}{E:L2.St->XK}{H0 H H1 H':Hp}{B Z Z':Addr->Prop}{σ:L2.St}{γ:Γ}
noncomputable def PY(N:Ye)(ds:List D):Γ:=ds.map (λd=>some (arg d))++List.replicate (N.length-ds.length) none
def Zr0{ds vs}(r:Rps K H ds vs)(x:ds.length<=N.length):X4 K H (λb=>Mut (H b)) H (start N vs) (PY N ds):=by
 have get:∀i s,(PY N ds)[i]?=some (some s)->∃d,ds[i]?=some d/\s=arg d:=λi s h=>by
  unfold PY at h;by_cases g:i<ds.length
  ·rw[Qv (by rw[WH];exact g),WV,WI g]at h;exact⟨_,WI g,(Qb<|Qb h).symm⟩
  ·rw[Qr (by rw[WH];lia),V2]at h;split at h<;>cases h
 have noown:∀(i:Nat) f,(PY N ds)[i]?≠some (some<|.own f):=λi f h=>by
  obtain⟨d,_,e⟩:=get i _ h;rcases DO d with q|q<;>rw[q]at e<;>cases e
 refine⟨Same.refl _,?_,λb h=>h,λi j a y f w b h=>absurd h (noown i f),λi s h=>?_⟩
 ·unfold L2.start PY;simp[r.len]
 ·obtain⟨d,u,rfl⟩:=get i s h;obtain⟨v,n,o⟩:=r.get u;refine⟨v,?_,?_⟩
  ·unfold L2.start;rw[Qv (by rw[WH];exact(Qu.mp n).1),WV,n];rfl
  ·have l:=SQ (Z:=zof (λb=>Mut (H b)) (PY N ds) (start N vs)) (H:=H) (λb z=>z.elim id λ⟨k,f,_,p,_⟩=>absurd p (noown k f)) (Same.refl _) o;rcases DO d with q|q<;>rw[q]at l ⊢<;>exact l
def Zd4{t p vs Q y n}(h:X3 mg c K vs H Q y)(o:XF K mg (λ_=>y) t p)(L:n<=N.length)(u:∀ds R X,c ds R X->ds.length=n/\p {nx:=λ_=>R (.sh .non),rt:=R,ex:=λ_ e=>X e} (PY N ds)):t {nx:=λ_ H'=>Q .non H',rt:=Q} (start N vs) H:=by
 obtain⟨ds,R,X,r,C,x,G⟩:=h;obtain⟨e,u⟩:=u ds R X C;refine o H (λb=>Mut (H b)) H _ _ _ _ (λb z=>Np z) (Zr0 r<|by lia) u ⟨λg l H' f w f1=>x _ _ H' f w.same .non,λs v H' f J A=>x s v H' f J A,λg l c H' f w f1=>G c H' f w.same,λ_ _ _ z=>z.elim,λ_ _ _ z=>z.elim,λ_ _ _ _ _ z=>z.elim⟩
def Zf3(h:X3 mg c K vs H Q l)(f:∀ds R X,c ds R X->ds.length=n):vs.length=n:=by
 obtain⟨ds,R,X,r,g,_⟩:=h;rw[r.len]
 grind
noncomputable def atP(φ:Yb)(γ:Γ):Γ:=φ.map λo=>o.bind λj=>(γ[j]?).join
structure Ga (φ:Yb) (γ:Γ) (g:PTG) (c:PTT) (e:PTE) (n:Nat) (item:Nat->S) (R:S->Prop):Prop where
 w:n<=100000/\∃f:Nat->Option D,(∀i,i<n->g (item i) (atP φ γ) λγ2=>c γ2 (λb=>if b=true then e γ2 (λs=>∃d,s.shd=some d/\f i=some d) (λ_=>False)else f i=none) (λ_=>False))/\R (.own ((List.range n).filterMap f))
noncomputable def E3(φ:Yb)(f:PTI)(g:PTG)(c:PTT)(e:PTE):PTE:=λγ R X=>f γ (λn item=>Ga φ γ g c e n item R) X
def Ao{i:Nat}{s}(h:(atP φ γ)[i]?=some (some s)):∃j,φ[i]?=some (some j)/\γ[j]?=some (some s):=by
 unfold atP at h;cases e:φ[i]? with
 |none=>grind
 |some o=>
  cases o with
  |_=>grind
theorem GC:∀{φ:Yb},(φ.filterMap id).Nodup->∀(i j k:Nat),φ[i]?=some (some k)->φ[j]?=some (some k)->i=j
 |[],_,i,_,_,h,_=>by simp at h
 |none::r,n,i,j,k,g,f=>by
  cases i with
  |zero=>simp at g
  |succ i=>
   cases j with
   |zero=>simp at f
   |succ j=>exact QB (· + 1) (GC (by simpa using n) i j k (by simpa using g)<|by simpa using f)
 |some m::r,n,i,j,k,g,f=>by
  have l:m∉r.filterMap id/\(r.filterMap id).Nodup:=by simpa using n
  have o:∀{j:Nat},r[j]?=some (some k)->k∈r.filterMap id:=λh=>Ua.mpr ⟨some k,Qk h,rfl⟩;cases i with
  |zero=>
   cases j with
   |zero=>rfl
   |succ j=>simp_all
  |succ i=>
   cases j with
   |zero=>simp_all
   |succ j=>exact QB (· + 1) (GC l.2 i j k (by simpa using g)<|by simpa using f)
def Ae{i j:Nat}(g:φ[i]?=some (some j)){v}(f:σ[j]?=some (some v)):(atStart φ σ)[i]?=some (some v):=by
 unfold atStart
 grind
def Zbn{L}(env:X4 K H0 B H σ γ)(s:H L=none):∀b o,H b=some o->¬zof B γ σ b->¬zof (λb=>zof B γ σ b\/b=L) (atP φ γ) (atStart φ σ) b:=λb o v z y=>by
 rcases y with(y|y)|⟨u,r,x,n,f,l⟩
 ·grind
 ·grind
 ·obtain⟨m,p,h⟩:=Ao n;obtain⟨w,g,_⟩:=env.slot m _ h;rw[Ae p g]at f;exact z (.inr ⟨m,r,x,h,by rw[g];exact QB some (Qb f),l⟩)
def Zub{L}(env:X4 K H0 B H σ γ)(n:Same H H')(M:H L=none)(N:∃ys,H' L=some (.lst ys))(r:(φ.filterMap id).Nodup) :
  X4 K H0 (λb=>zof B γ σ b\/b=L) H' (atStart φ σ) (atP φ γ):=by
 refine⟨env.same.trans n,by unfold atStart atP;simp,λb z=>?_,λi j a a' G es b h1 Y U C T Q=>?_,λi s h=>?_⟩
 ·rcases z with z|rfl
  ·exact Tn n (env.zm b z)
  ·obtain⟨ys,e⟩:=N;rw[e];trivial
 ·obtain⟨k,g,f⟩:=Ao h1;obtain⟨l,A,y⟩:=Ao Y;obtain⟨v,p,_⟩:=env.slot k _ f;obtain⟨u,w,_⟩:=env.slot l _ y;rw[Ae g p]at U;rw[Ae A w]at C
  have:=env.own k l a a' G es b f y (by grind) (by rw[w];exact QB some (Qb C)) T Q
  subst this;exact GC r i j k g A
 ·obtain⟨k,g,f⟩:=Ao h;obtain⟨v,p,o⟩:=env.slot k _ f;have J:Same (off (zof B γ σ) H) (off (zof (λb=>zof B γ σ b\/b=L) (atP φ γ)<|atStart φ σ) H'):=XB n (Zbn env M);refine⟨v,Ae g p,?_⟩;cases s with
  |sh d=>exact Rp.mono J o
  |own G=>
   obtain⟨a,e1,e3,e4⟩:=o;exact⟨a,e1,e3,e4.mono J λb _ x=>n b x⟩
  |_=>exact o
def Sub.of {g:Yc} (h:f.length=σ.length) (n:∀j,j∉g->f[j]?=σ[j]?) (o:∀j∈g,∀v,σ[j]?≠some (some v)):Sub σ f:=⟨h,λi v e=>by
 by_cases l:i∈g
 ·grind
 ·rw[n i l];exact e⟩
structure Zjl (K:ZV) (H0:Hp) (B:Addr->Prop) (H1:Hp) (σ:L2.St) (γ:Γ) (J:It) (n:Nat) (item:Nat->S):Prop where
 go:∀(i:Nat) (H':Hp) (Z':Addr->Prop),i<n->Same H1 H'->Later H0 (zof B γ σ) H1 Z' H'->J.go i H'/\∀x H'',J.yld i H' x H''->Same H' H''/\TV K Z' H0 H' H'' (item i) x
 stop:∀(H':Hp) (Z':Addr->Prop),Same H1 H'->Later H0 (zof B γ σ) H1 Z' H'->J.stop n H'
def BQ(K:ZV)(mg:ZZ)(E:L2.St->XK)(f:TI)(g:PTI):Prop:=∀(H0:Hp) (B:Addr->Prop) (H:Hp) (σ:L2.St) (γ:Γ) (R:Nat->(Nat->S)->Prop) (X:XR) (Q:It->Hp->Prop),X4 K H0 B H σ γ->g γ R X->
 (∀n item J H1,R n item->Same H H1->Zjl K H0 B H1 σ γ J n item->Q J H1)->(∀c H',X c->Same H H'->XE mg (E σ) c H')->f σ H Q
def SndI.c (h:SndI K mg E g o):BQ K mg E g o:=λH0 B H σ γ R X Q f p q l=>
 h H0 B H σ γ R X Q f p (λn item J H1 s u ok=>q n item J H1 s u ⟨λi H' Z' r _ lt=>ok.go i H' Z' r lt,λH' Z' _ lt=>ok.stop H' Z' lt⟩) l
noncomputable def Rc(a:PTE):PTI:=λγ R X=>a γ (λs=>match s.d with
 | .lst f=>R f.length λi=>s.sub (f.getD i .non)
 | .tup f=>False
 | .scr g=>R g.length λi=>.sh (.int<|g.getD i 0)
 |_=>False) X
def Bs(ha:Xx K mg E te a):BQ K mg E (Aj K te) (Rc a):=by
 intro H0 B H σ γ R X Q env h q qx;refine ha H0 B H σ γ _ X _ env h (λs v H1 h1 S1 A=>?_) qx;have M:=env.grow S1;split at h1
 ·rename_i ds G;have Y:=A.rp M.same;rw[G]at Y;obtain⟨l,U,rfl,f,r1⟩:=Y.lst_inv;refine⟨l,rfl,⟨U,SqL.of f⟩,q _ _ _ H1 h1 S1 ⟨λi H' Z' hi J lt=>?_,λH' Z' J lt=>⟨U,SqL.of (J _ _ f),by rw[r1.len];exact WS _⟩⟩⟩;have N:ds[i]?=some (ds.getD i .non):=by rw[WK,WI hi];rfl
  have hi':∃u,U[i]?=some u/\TV K Z' H0 H' H' (s.sub<|ds.getD i .non) u:=by
   cases s with
   |bor d=>
    have A:=Rp.strip A;rw[show d.strip=.lst ds from G]at A
    obtain⟨T,o,w,r,p⟩:=Rp.lst_inv A;cases w
    rw[M.same _ _ r]at f;cases f
    obtain⟨u,n,g⟩:=p.get N;exact⟨u,n,SQ lt.2.1 lt.1 g⟩
   |sh d=>
    have:=G
    subst this;obtain⟨T,o,w,r,p⟩:=Rp.lst_inv A;cases w
    rw[off_sub _ _ r]at f;cases f
    obtain⟨u,n,g⟩:=p.get N;exact⟨u,n,Rp.mono lt.off g⟩
   |own L=>
    cases L with
    |dK L|dT L|ins x C xs cs|nst cs=>cases G
    |nsl x cs=>
     obtain⟨u,n,g⟩:=r1.get N;exact⟨u,n,T3 lt.2.1 (Rp.mono J g)⟩
    |lsA x L=>
     cases G
     obtain⟨T,w,h0,_,o,r,p⟩:=A;cases w
     rw[r]at f;cases f
     obtain⟨u,n,g⟩:=p.get N;exact⟨u,n,Rp.mono lt.off (Rp.mono (XB (Same.refl _) λb _ _ z y=>z (.inl y)) g)⟩
    |lst L=>
    cases G
    obtain⟨T,w,h0,o,r,p⟩:=A;cases w
    rw[r]at f;cases f
    obtain⟨u,n,g⟩:=p.get N;exact⟨u,n,Rp.mono lt.off (Rp.mono (XB (Same.refl _) λb _ _ z y=>z (.inl y)) g)⟩
   |view L=>
    cases L with
    |dK L|dT L|ins x C xs cs|nst cs=>cases G
    |nsl x cs=>
     obtain⟨u,n,g⟩:=r1.get N;exact⟨u,n,T3 lt.2.1 (Rp.mono J g)⟩
    |lsA x L=>
     cases G
     obtain⟨T,w,_,o,r,p⟩:=A;cases w
     rw[r]at f;cases f
     obtain⟨u,n,g⟩:=p.get N;exact⟨u,n,Rp.mono lt.off g⟩
    |lst L=>
    cases G
    obtain⟨T,w,o,r,p⟩:=A;cases w
    rw[r]at f;cases f
    obtain⟨u,n,g⟩:=p.get N;exact⟨u,n,Rp.mono lt.off g⟩
   |tmp d=>
    have:=G
    subst this;obtain⟨T,o,w,r,p⟩:=Rp.lst_inv A;cases w
    rw[r]at f;cases f
    obtain⟨u,n,g⟩:=p.get N;exact⟨u,n,T3 lt.2.1 (Rp.mono J g)⟩
  obtain⟨u,hu,tu⟩:=hi';refine⟨⟨U,u,SqL.of (J _ _ f),hu⟩,λx H'' y=>?_⟩;obtain⟨rfl,y⟩:=y
  have:=y U (SqL.of<|J _ _ f)
  rw[hu]at this;cases this
  exact⟨Same.refl _,tu⟩
 ·exact h1.elim
 ·rename_i ns G;have Y:=A.rp M.same;rw[G]at Y;cases Y with
  |scr hs=>
   refine⟨_,rfl,⟨_,hs⟩,q _ _ _ H1 h1 S1 ⟨λi H' Z' hi J lt=>?_,λH' Z' J lt=>⟨_,J.seq hs,by rw[WH];exact WS _⟩⟩⟩
   have hu:(ns.map V.int)[i]?=some (.int<|ns.getD i 0):=by
    rw[WV,WI hi,WK,WI hi];rfl
   refine⟨⟨_,_,J.seq hs,hu⟩,λx H'' y=>?_⟩;obtain⟨rfl,y⟩:=y
   have:=y _ (J.seq hs)
   rw[hu]at this;cases this
   exact⟨Same.refl _,.int _⟩
 ·exact h1.elim
def Nf{φ is wi g tc te it pg c a}(hi:BQ K mg E wi it)(hg:N5 K is g pg)(hc:KP K mg E tc c)(he:Xx K mg E te a)(h1:autoParam ((φ.filterMap id).Nodup) au_1)(h2:autoParam (∀j∈is,φ[j]?=some none) au_1):Xx K mg E (Ff φ wi g tc te) (E3 φ it pg c a):=by
 intro H0 B H σ γ R X Q env h q qx;refine hi H0 B H σ γ _ X _ env h (λn item J H1 h1' S1 ok=>?_) qx;obtain⟨hn,f,hf,hR⟩:=h1'.w;have l:=env.grow S1;have hbig:n<=sizeLine:=WW hn (by decide);intro L U;refine⟨λi m G C=>m=n-i/\i<=n/\Same H1 C/\C L=some (.lst G)/\Rps K (off (λb=>zof B γ σ b\/b=L) C) ((List.range i).filterMap f) G,⟨n,by simp,QV _,Kk U,XZ,.nil⟩,?_⟩;rintro i m G C ⟨rfl,hin,u,hL,p⟩;have A:=l.grow u;by_cases r:i<n
 ·have envI2:=Zub l u U ⟨G,hL⟩ h1;obtain⟨go,yl⟩:=ok.go i C _ r u ⟨A.same,envI2.zm,λb o Y z=>⟨u _ _ Y,Zbn l U b o Y z⟩⟩;refine .inr ⟨go,λx H3 y=>?_⟩;obtain⟨S3,tv⟩:=yl x H3 y;refine hg H0 _ C H3 _ _ _ _ _ _ envI2 S3 tv (hf i r) λN T p2 e2 f2 k2=>⟨?_,?_⟩
  ·refine Sub.of k2.2 k2.1 λj hj v z=>?_;obtain⟨k,k1,_⟩:=Zbv z;rw[h2 j hj]at k1;cases k1
  ·refine hc H0 _ H3 N T _ _ _ e2 p2 (λb H5 q5 S5=>?_) λ_ _ z=>z.elim;have e5:=e2.grow S5;cases b with
   |false=>
    rw[WN Qe]at q5 ⊢;refine⟨n-(i+1),by lia,rfl,r,(u.trans S3).trans S5,(S3.trans S5) _ _ hL,?_⟩;rw[List.range_succ,Jh];simp only[V4,q5,List.filterMap_nil,QA];exact Rps.mono (XB (S3.trans S5) λ_ _ _ z=>z) p
   |true=>
    refine he H0 _ H5 N T _ _ _ e5 q5 (λs v H6 q6 S6 t6=>?_) λ_ _ z=>z.elim;obtain⟨d,hd,hfd⟩:=q6;have M:=(S3.trans S5).trans S6
    have hlen:G.length<=i:=by
     rw[p.len];exact WW (List.length_filterMap_le _ _) (by rw[Je];exact WS _)
    refine⟨M _ _ hL,by lia,n-(i+1),by lia,rfl,r,λb o Y=>?_,XZ,?_⟩
    ·rw[XD (Ky Y U)];exact M _ _ (u _ _ Y)
    ·rw[List.range_succ,Jh];have ef:[i].filterMap f=[d]:=by simp[hfd]
     rw[ef]
     have So:Same (off (λb=>zof B γ σ b\/b=L) H6) (off (λb=>zof B γ σ b\/b=L)<|upd H6 L<|.lst (G++[v])):=λb o h=>by
      obtain⟨a1,a2⟩:=Tz h;refine Kg ?_ a2;rwa[XD λz=>a2 (.inr z)]
     refine Rps.append (Rps.mono So<|Rps.mono (XB M λ_ _ _ z=>z) p) (.cons (Rp.mono So<|Rp.mono (XB (Same.refl _) λb _ _ z y=>z (.inl y)) (t6.shd (e5.grow S6).same e5.zm S6 hd)) .nil)
 ·have:i=n:=by lia
  subst this;exact .inl ⟨ok.stop C _ u (Later.of A<|Fr.grow u),q _ _ C hR (S1.trans u) ⟨L,rfl,(λ_ e=>e▸S1.free U),G,hL,p⟩⟩
noncomputable def Zao:PTT:=λ_ R _=>R true
def SS:KP K mg E HQ Zao:=λ_ _ H _ _ _ _ _ _ p q _=>q _ H p (Same.refl _)
def Zt5{g h:Type}(xs:List g)(f:g->Option h):(List.range xs.length).filterMap (λi=>(xs[i]?).bind f)=xs.filterMap f:=by
 induction xs with
 |nil=>rfl
 |cons x r l=>
  rw[Qi,List.range_succ_eq_map,V4,List.filterMap_map,V4];have e:(λi=>((x::r)[i]?).bind f)∘Nat.succ=λi=>(r[i]?).bind f:=rfl;rw[e,l];rfl
end
open M
section
variable {K:ZV}{mg:ZZ}{E:L2.St->XK}{H0 H H1 H':Hp}{B Z Z':Addr->Prop}{σ:L2.St}{γ:Γ}
noncomputable def pCB(f:List S->(S->Prop)->Prop)(r:PTA):PTE:=λγ R X=>r γ (λg=>f g R) X
def Td{f o r}(A:XO K mg E o r)(h:∀H0 H H1 Z l vs R Q,Same H0 H1->Same H H1->(∀b,Z b->Mut (H b))->TVs K Z H0 H H1 l vs->f l R->(∀s z H',R s->Same H1 H'->TV K Z H0 H H' s z->Q z H')->w vs H1 Q) :
  Xx K mg E (tCB w o) (pCB f r):=by
 intro H0 B H σ γ R X Q g p q x;refine A H0 B H σ γ _ X _ g p (λl vs H1 C n v=>?_) x;exact h H0 H H1 _ l vs R Q (g.grow n).same n g.zm v C λs z H' y G u=>q s z H' y (n.trans G) u
noncomputable def S.free:S->List D->Bool
 | .bor _,f=>Pb f | .tmp _,f=>Pb f | .view (.nst _),f=>Pb f | .view (.nsl _ _),f=>Pb f|_,_=>true
def TVs.one_inv (h:TVs K Z H0 H H' [s] vs):∃v,vs=[v]/\TV K Z H0 H H' s v:=by
 cases h with
 |cons h r=>cases r;exact⟨_,rfl,h⟩
def TVs.two_inv (h:TVs K Z H0 H H' [s,t] vs):∃v u,vs=[v,u]/\TV K Z H0 H H' s v/\TV K Z H0 H H' t u:=by
 cases h with
 |cons h r=>cases r with|cons f r=>cases r;exact⟨_,_,rfl,h,f⟩
def TV.items (n:Same H0 H') (u:∀b,Z b->Mut (H b)) (C:Same H H') (h:TV K Z H0 H H' s v) (p:s.free ds=true) :
  (s.d=.lst ds->∃a vs,v=.ref a/\H' a=some (.lst vs)/\Rps K (off Z H') ds vs)/\(s.d=.tup ds->∃a vs,v=.ref a/\H' a=some (.tup vs)/\Rps K (off Z H') ds vs):=by
 have g:=λb z=>Tn C (u b z);cases s with
 |bor d=>
  have h:=Rp.strip h;refine⟨λe=>?_,λe=>?_⟩<;>rw[show d.strip=_ from e]at h
  ·obtain⟨a,vs,rfl,f,r⟩:=Rp.lst_inv h;exact⟨a,vs,rfl,n _ _ f,Rps.off g (Rps.mono n r) p⟩
  ·obtain⟨a,vs,rfl,f,r⟩:=Rp.tup_inv h;exact⟨a,vs,rfl,n _ _ f,Rps.off g (Rps.mono n r) p⟩
 |sh d=>
  refine⟨λe=>?_,λe=>?_⟩<;>(have w:=e;subst w)
  ·obtain⟨a,vs,rfl,f,r⟩:=Rp.lst_inv h;exact⟨a,vs,rfl,off_sub _ _ f,r⟩
  ·obtain⟨a,vs,rfl,f,r⟩:=Rp.tup_inv h;exact⟨a,vs,rfl,off_sub _ _ f,r⟩
 |own o=>
  cases o with
  |nsl x A=>
   refine⟨λe=>?_,λe=>by cases e⟩;have l:=h.shd n u C rfl;cases e
   obtain⟨a,vs,rfl,f,r⟩:=Rp.lst_inv l;exact⟨a,vs,rfl,off_sub _ _ f,r⟩
  |nst A=>
   refine⟨(λe=>by cases e),λe=>?_⟩;have l:=h.shd n u C rfl;cases e
   obtain⟨a,vs,rfl,f,r⟩:=Rp.tup_inv l;exact⟨a,vs,rfl,off_sub _ _ f,r⟩
  |lst o=>
   refine⟨λe=>?_,λe=>by cases e⟩;cases e
   obtain⟨a,rfl,G,vs,e,r⟩:=h;exact⟨a,vs,rfl,e,Rps.mono (XB (Same.refl _) λb _ _ z y=>z (.inl y)) r⟩
  |lsA x o=>
   refine⟨λe=>?_,λe=>by cases e⟩;cases e
   obtain⟨a,rfl,G,_,vs,e,r⟩:=h;exact⟨a,vs,rfl,e,Rps.mono (XB (Same.refl _) λb _ _ z y=>z (.inl y)) r⟩
  |_=>exact⟨(λe=>by cases e),(λe=>by cases e)⟩
 |view o=>
  cases o with
  |nsl x A=>
   refine⟨λe=>?_,λe=>by cases e⟩;have l:=h.rp n;rw[e]at l;obtain⟨a,vs,rfl,f,r⟩:=Rp.lst_inv l;exact⟨a,vs,rfl,f,Rps.off g r p⟩
  |nst A=>
   refine⟨(λe=>by cases e),λe=>?_⟩;have l:=h.rp n;rw[e]at l;obtain⟨a,vs,rfl,f,r⟩:=Rp.tup_inv l;exact⟨a,vs,rfl,f,Rps.off g r p⟩
  |lst o=>
   refine⟨λe=>?_,λe=>by cases e⟩;cases e
   obtain⟨a,rfl,vs,e,r⟩:=h;exact⟨a,vs,rfl,e,r⟩
  |lsA x o=>
   refine⟨λe=>?_,λe=>by cases e⟩;cases e
   obtain⟨a,rfl,_,vs,e,r⟩:=h;exact⟨a,vs,rfl,e,r⟩
  |_=>exact⟨(λe=>by cases e),(λe=>by cases e)⟩
 |tmp d=>
  refine⟨λe=>?_,λe=>?_⟩<;>(have w:=e;subst w)
  ·obtain⟨a,vs,rfl,f,r⟩:=Rp.lst_inv h;exact⟨a,vs,rfl,f,Rps.off g r p⟩
  ·obtain⟨a,vs,rfl,f,r⟩:=Rp.tup_inv h;exact⟨a,vs,rfl,f,Rps.off g r p⟩
def GI:List S->(S->Prop)->Prop
 |[s],R=>(match s.d with
  | .lst g=>R (.sh<|.int g.length) | .tup g=>R (.sh<|.int g.length) | .scr f=>R (.sh<|.int f.length) | .fL f=>R (.sh<|.int f.length) | .str x=>x.length<=sizeLine/\R (.sh<|.int x.length)|_=>False)
 |_,_=>False
def Ni(C:XO K mg E w r):Xx K mg E (tCB (λxs H Q=>∃x n,xs=[x]/\AS K x H n/\Q (.int n) H) w) (pCB GI r):=by
 refine Td C λH0 H H1 Z L J R Q z M N u h q=>?_;unfold GI at h;split at h
 ·rename_i s;obtain⟨v,rfl,y⟩:=u.one_inv;have f:=y.rp z;split at h
  ·rename_i G e;rw[e]at f;obtain⟨a,g,rfl,p,l⟩:=f.lst_inv;exact⟨_,_,rfl,.inl ⟨g,SqL.of p,rfl⟩,by rw[l.len];exact q _ _ H1 h (Same.refl _) (.int _)⟩
  ·rename_i G e;rw[e]at f;obtain⟨a,g,rfl,p,l⟩:=f.tup_inv;exact⟨_,_,rfl,.inr ⟨g,SqT.of p,rfl⟩,by rw[l.len];exact q _ _ H1 h (Same.refl _) (.int _)⟩
  ·rename_i A e;rw[e]at f;cases f with
   |scr o=>exact⟨_,_,rfl,.inl ⟨_,o,rfl⟩,by rw[WH];exact q _ _ H1 h (Same.refl _) (.int _)⟩
  ·rename_i A e;rw[e]at f;cases f with
   |fL o=>exact⟨_,_,rfl,.inl ⟨_,.inl (.inr ⟨_,o⟩),rfl⟩,by rw[WH];exact q _ _ H1 h (Same.refl _) (.int _)⟩
  ·rename_i x e;rw[e]at f;rw[f.str_inv];exact⟨_,_,rfl,⟨h.1,rfl⟩,q _ _ H1 h.2 (Same.refl _) (.int _)⟩
  ·exact h.elim
 ·exact h.elim
def Zai:List S->(S->Prop)->Prop
 |[s],R=>(match s.d with
  | .lst f=>s.free f=true/\R (.own f) | .tup f=>s.free f=true/\R (.own f)|_=>False)
 |_,_=>False
def NF(C:XO K mg E A r):Xx K mg E (tCB (λxs H Q=>∃p ys,xs=[.ref p]/\(SqL K H p ys\/SqT K H p ys)/\∀l,H l=none->Q (.ref l) (upd H l<|.lst ys)) A) (pCB Zai r):=by
 refine Td C λH0 H H1 Z L J R Q x g y z h q=>?_;unfold Zai at h;split at h
 ·rename_i s;obtain⟨v,rfl,w⟩:=z.one_inv;split at h
  ·rename_i G e;obtain⟨a,n,rfl,u,o⟩:=(w.items x y g h.1).1 e;exact⟨a,n,rfl,.inl (SqL.of u),λl f=>q _ _ _ h.2 (Kk f) (Nq g f o)⟩
  ·rename_i G e;obtain⟨a,n,rfl,u,o⟩:=(w.items x y g h.1).2 e;exact⟨a,n,rfl,.inr (SqT.of u),λl f=>q _ _ _ h.2 (Kk f) (Nq g f o)⟩
  ·grind
 ·grind
def IQ:List S->(S->Prop)->Prop
 |[s],R=>(match s.d with
  | .lst f=>s.free f=true/\R (.sh<|.tup f) | .tup f=>s.free f=true/\R (.sh<|.tup f)|_=>False)
 |_,_=>False
def Dz(J:XO K mg E G r):Xx K mg E (tCB (λxs H Q=>∃p ys,xs=[.ref p]/\((SqL K H p ys/\∀l,H l=none->Q (.ref l) (upd H l<|.tup ys))\/(SqT K H p ys/\Q (.ref p) H))) G) (pCB IQ r):=by
 refine Td J λH0 H H1 Z N M R Q A o x C h q=>?_;have f:=λb z=>Tn o (x b z);unfold IQ at h;split at h
 ·rename_i s;obtain⟨v,rfl,y⟩:=C.one_inv;split at h
  ·rename_i L e;obtain⟨a,n,rfl,g,u⟩:=(y.items A x o h.1).1 e;refine⟨a,n,rfl,.inl ⟨SqL.of g,λl w=>q _ _ _ h.2 (Kk w) (.tup (Kg XZ λz=>?_)<|Rps.mono (XB (Kk w) λ_ _ _ z=>z) u)⟩⟩
   have:=f l z
   rw[w]at this;exact this
  ·rename_i L e;obtain⟨a,n,rfl,g,u⟩:=(y.items A x o h.1).2 e;refine⟨a,n,rfl,.inr ⟨SqT.of g,q _ _ _ h.2 (Same.refl _) (.tup (Kg g λz=>?_) u)⟩⟩
   have:=f a z
   rw[g]at this;exact this
  ·grind
 ·exact h.elim
theorem Rps.ints:∀{f:ZX}{vs:List V},Rps K H (f.map D.int) vs->vs=f.map V.int
 |[],_,.nil=>rfl
 |j::r,_,.cons h t=>by rw[Rp.int_inv h,Rps.ints t];rfl
theorem Rps.of_ints:∀(f:ZX),Rps K H (f.map D.int) (f.map V.int)
 |[]=>.nil
 |j::r=>.cons (.int j) (Rps.of_ints r)
def Zbz:List S->(S->Prop)->Prop
 |[s],R=>∃g:ZX,s.d=.lst (g.map D.int)/\g.length<64/\∀f:ZX,f.Perm g->f.Pairwise (·<=·)->R (.own<|f.map D.int)
 |_,_=>False
def DH{g r}(L:XO K mg E g r):Xx K mg E (tCB (λxs H Q=>∃p f,xs=[.ref p]/\f.length<64/\(SqL K H p (f.map V.int)\/H p=some (Sx w p f))/\
  ∀l (ns:ZX),H l=none->ns.Perm f->ns.Pairwise (·<=·)->Q (.ref l) (upd H l<|.lst<|ns.map V.int)) g) (pCB Zbz r):=by
 refine Td L λH0 H H1 Z U N R Q A z Y x h q=>?_;unfold Zbz at h;split at h
 ·rename_i s;obtain⟨v,rfl,y⟩:=x.one_inv;obtain⟨f,e,G,k⟩:=h;have n:=y.rp A;rw[e]at n;obtain⟨a,T,rfl,u,C⟩:=n.lst_inv;rw[C.ints]at u;exact⟨a,f,rfl,G,.inl (SqL.of u),λl ns o M J=>q _ _ _ (k ns M J) (Kk o) (Nq z o<|Rps.of_ints ns)⟩
 ·grind
def O1:List S->(S->Prop)->Prop
 |[s,t],R=>(match s.d,t.d with | .int i,.int j=>R (.sh<|.int (if j>i then j else i))|_,_=>False)
 |_,_=>False
def EB(w:XO K mg E o r):Xx K mg E (tCB (λxs H Q=>∃i j,xs=[.int i,.int j]/\Q (.int (if j>i then j else i)) H) o) (pCB O1 r):=by
 refine Td w λH0 H H1 Z A z R Q f C G n h q=>?_;unfold O1 at h;split at h
 ·obtain⟨v,u,rfl,s,p⟩:=n.two_inv;have l:=s.rp f;have g:=p.rp f;split at h
  ·rename_i i j y x;rw[y]at l;rw[x]at g;rw[l.int_inv,g.int_inv];exact⟨i,j,rfl,q _ _ H1 h (Same.refl _) (.int _)⟩
  ·grind
 ·grind
def Zvn:List S->(S->Prop)->Prop
 |[s],R=>(match s.d with | .int i=>R (.sh<|.int (if i<0 then -i else i))|_=>False)
 |_,_=>False
noncomputable def tyD:D->Option String
 | .int _=>some "int" | .bl _=>some "bool" | .non=>some "NoneType" | .str _=>some "str" | .tup _=>some "tuple" | .lst _=>some "list" | .fL _=>some "list" | .dK _=>some "dict" | .dT _=>some "dict" |_=>none
inductive KW:String->String->Bool->Prop
 |same (n:String):KW n n true
 |ib:KW "int" "bool" false
 |bi:KW "bool" "int" true
 |tl:KW "tuple" "list" false
 |lt:KW "list" "tuple" false
 |it:KW "int" "tuple" false
 |il:KW "int" "list" false
 |bt:KW "bool" "tuple" false
 |bL:KW "bool" "list" false
 |ti:KW "tuple" "int" false
 |li:KW "list" "int" false
 |si:KW "str" "int" false
 |is:KW "int" "str" false
 |ni:KW "NoneType" "int" false
 |nl:KW "NoneType" "list" false
 |nt:KW "NoneType" "tuple" false
def KW.kit (h:KW m n b):PySem.W.kitOne K (.type m) (.type n)=some b:=by
 cases h with
 |same=>exact Zqn K _
 |_=>rfl
def Ii:List S->(S->Prop)->Prop
 |[s,t],R=>(match tyD s.d,t.d with|some m,.ty n=>∃b,KW m n b/\R (.sh<|.bl b)|_,_=>False)
 |_,_=>False
def Zfe(h:Rp K H d v)(e:tyD d=some m):P1 K H v (.type m):=by
 cases h with
 |int i=>cases e;exact .int i
 |bl b=>cases e;exact .bl b
 |non=>cases e;exact .non
 |str x=>cases e;exact .str x
 |tup h r=>cases e;exact .tup h
 |lst h r=>cases e;exact .lst h
 |dK h=>cases e;exact .dK h
 |dT h=>cases e;exact .dT h
 |fL h=>cases e;exact .frz h
 |_=>cases e
def Br(w:XO K mg E o r):Xx K mg E (tCB (λxs H Q=>∃x n t b,xs=[x,.ty n]/\P1 K H x t/\PySem.W.kitOne K t (.type n)=some b/\Q (.bl b) H) o) (pCB Ii r):=by
 refine Td w λH0 H H1 Z G C R Q f J L l h q=>?_;unfold Ii at h;split at h
 ·obtain⟨v,u,rfl,s,p⟩:=l.two_inv;have g:=p.rp f;split at h
  ·rename_i m n A z;rw[z]at g;rw[g.ty_inv];obtain⟨b,k,y⟩:=h;exact⟨v,n,_,b,rfl,Zfe (s.rp f) A,k.kit,q _ _ H1 y (Same.refl _) (.bl _)⟩
  ·grind
 ·grind
def Zcj:List S->(S->Prop)->Prop
 |[s,t],R=>(match s.d,t.d with | .int i,.int j=>(-(2 ^ 62)<=i/\i<2 ^ 62/\-(2 ^ 62)<=j/\j<2 ^ 62)/\(j-i).toNat<=1000000/\R (.own ((X0 i (j-i).toNat).map D.int))|_,_=>False)
 |_,_=>False
abbrev Zhh:List V->Hp->VK->Prop:=λxs H Q=>∃(r:Addr) (i j:Int),xs=[.ref r]/\H r=some (.rng i j)/\(-(2 ^ 62)<=i/\i<2 ^ 62/\-(2 ^ 62)<=j/\j<2 ^ 62)/\(j-i).toNat<=1000000/\∀l,H l=none->Q (.ref l) (upd H l<|.lst ((X0 i (j-i).toNat).map V.int))
def R1(M:XO K mg E C r):Xx K mg E (tCB Zhh<|KF (tCB (λxs H Q=>∃i j,xs=[.int i,.int j]/\∀r,H r=none->Q (.ref r) (upd H r<|.rng i j)) C) P7) (pCB Zcj r):=by
 intro H0 B H σ γ R X Q g p q J;refine M H0 B H σ γ _ X _ g p (λY U H1 f s G=>?_) J;have w:=(g.grow s).same;unfold Zcj at f;split at f
 ·obtain⟨v,u,rfl,n,h⟩:=G.two_inv;have y:=n.rp w;have x:=h.rp w;split at f
  ·rename_i i j T N;rw[T]at y;rw[N]at x;rw[y.int_inv,x.int_inv];refine⟨i,j,rfl,λa L=>⟨a,i,j,rfl,XZ,f.1,f.2.1,λl z=>?_⟩⟩;have A:=Kk (o:=.rng i j) L;exact q _ _ _ f.2.2 ((s.trans A).trans (Kk z)) (Nq (s.trans A) z<|Rps.of_ints _)
  ·grind
 ·exact f.elim
noncomputable def pBM(f:S->List S->(S->Prop)->Prop)(a:PTE)(r:PTA):PTE:=λγ R X=>a γ (λs=>(∃h,s.d=.lst h)/\r γ (λg=>f s g R) X) X
def Zus{f te y a r}(ha:Xx K mg E te a)(U:XO K mg E y r)(h:∀H0 H H1 Z s v u vs R Q,Same H0 H1->Same H H1->(∀b,Z b->Mut (H b))->TV K Z H0 H H1 s v->TVs K Z H0 H H1 u vs->f s u R->(∀s z H',R s->Same H1 H'->TV K Z H0 H H' s z->Q z H')->N v vs H1 Q) :
  Xx K mg E (tBM K "list" N te y) (pBM f a r):=by
 intro H0 B H σ γ R X Q n p q G;refine ha H0 B H σ γ _ X _ n p (λs v H1 x o A=>?_) G;have g:=n.grow o;obtain⟨⟨ds,ed⟩,x⟩:=x;have C:=A.rp g.same;rw[ed]at C;obtain⟨l,J,rfl,Y,_⟩:=C.lst_inv;refine⟨.inl ⟨rfl,J,SqL.of Y⟩,U H0 B H1 σ γ _ X _ g x (λu vs H2 h2 w M=>?_) λc H' hc S'=>G c H' hc (o.trans S')⟩;exact h H0 H H2 _ s _ u vs R Q (g.grow w).same (o.trans w) n.zm (A.grow w) (TVs.weakG o M) h2 λs z H' T S3 L=>q s z H' T ((o.trans w).trans S3) L
def OL:S->List S->(S->Prop)->Prop:=λs f R=>match f with
 |[t]=>(match t.d with | .int z=>∃xs:ZX,s.d=.lst (xs.map D.int)/\z∈xs/\R (.sh<|.int (xs.idxOf z:Nat))|_=>False)
 |_=>False
def Cw{a r}(G:Xx K mg E te a)(C:XO K mg E w r):Xx K mg E (tBM K "list" (EA K) te w) (pBM OL a r):=by
 refine Zus G C λH0 H H1 Z s v T M R Q n U Y y x h q=>?_;unfold OL at h;split at h
 ·obtain⟨u,rfl,g⟩:=x.one_inv;have o:=g.rp n;split at h
  ·rename_i z e;rw[e]at o;obtain⟨xs,L,A,J⟩:=h;have f:=y.rp n;rw[L]at f;obtain⟨l,N,rfl,p,f⟩:=f.lst_inv;rw[f.ints]at p;exact⟨l,xs,z,rfl,by rw[o.int_inv],SqL.of p,A,q _ _ H1 J (Same.refl _) (.int _)⟩
  ·grind
 ·exact h.elim
noncomputable def prD(p:Int×Int):D:=.tup [.int p.1,.int p.2]
inductive InR:D->D->Bool->Prop
 |li (i:Int) (hs:ZX):InR (.int i) (.lst<|hs.map D.int) (decide (i∈hs))
 |ti (i:Int) (hs:ZX):InR (.int i) (.tup<|hs.map D.int) (decide (i∈hs))
 |lp (q:Int×Int) (ps:ZW):InR (prD q) (.lst<|ps.map prD) (decide (q∈ps))
def fIn(neg:Bool):S->S->(S->Prop)->Prop:=λx y R=>∃b,InR x.d y.d b/\R (.sh<|.bl (if neg then !b else b))
def Rp.pair (h:Rp K H (prD q) v):PR H v q:=by
 obtain⟨a,n,rfl,f,r⟩:=Rp.tup_inv h;obtain⟨x,y,rfl,l,g⟩:=r.two_inv;rw[l.int_inv,g.int_inv]at f;exact⟨a,rfl,f⟩
def Rps.lv {vs} (h:Rps K H (ps.map prD) vs):LV PR H vs ps:=by
 refine⟨by rw[h.len,WH],λi p f=>?_⟩;obtain⟨v,l,g⟩:=h.get (by rw[WV,f];rfl);exact⟨v,l,g.pair⟩
def AL{C A a b}(U:Xx K mg E C a)(T:Xx K mg E A b):Xx K mg E (tOp (λx y H Q=>rIn K neg x y H Q\/Ft neg x y H Q) C A) (p2 a b<|fIn neg):=by
 refine Pv U T λH0 H z Z x y v u R Q G Y hm L J h q=>?_;obtain⟨k,s,w⟩:=h;have n:=L.rp G;have g:=J.rp G;generalize ex:x.d=dx at s n;generalize ey:y.d=dy at s g;cases s with
 |li i N=>
  obtain⟨l,o,rfl,f,r⟩:=g.lst_inv;rw[r.ints]at f;rw[n.int_inv];refine .inl ⟨l,_,rfl,.inl (SqL.of f),rfl,Ts _,?_⟩;rw[IC];exact q _ _ z w (Same.refl _) (.bl _)
 |ti i N=>
  obtain⟨l,o,rfl,f,r⟩:=g.tup_inv;rw[r.ints]at f;rw[n.int_inv];refine .inl ⟨l,_,rfl,.inr (SqT.of f),rfl,Ts _,?_⟩;rw[IC];exact q _ _ z w (Same.refl _) (.bl _)
 |lp p M=>
  obtain⟨l,o,rfl,f,r⟩:=g.lst_inv;exact .inr ⟨l,M,p,rfl,n.pair,⟨o,f,r.lv⟩,q _ _ z w (Same.refl _) (.bl _)⟩
def SN(neg:Bool):S->S->(S->Prop)->Prop:=λx y R=>match x.d,y.d with
 | .lst h,.lst g=>∃xs f:ZX,h=xs.map D.int/\g=f.map D.int/\R (.sh<|.bl (if neg then !decide (xs=f)else decide (xs=f)))
 |_,_=>fEq neg x y R
def NJ{a b}(T:Xx K mg E L a)(N:Xx K mg E J b):Xx K mg E (tOp (λx y H Q=>rEq x y H Q\/N4 K false x y H Q) L J) (p2 a b<|SN false):=by
 refine Pv T N λH0 H p Z x y v u R Q w s1 s G C h q=>?_;have g:=G.rp w;have f:=C.rp w;unfold SN at h;split at h
 ·rename_i ds es o n;obtain⟨xs,Y,rfl,rfl,U⟩:=h;rw[o]at g;rw[n]at f;obtain⟨l,us,rfl,A,r⟩:=g.lst_inv;obtain⟨m,ws,rfl,s,M⟩:=f.lst_inv;rw[r.ints]at A;rw[M.ints]at s;refine .inr ⟨l,m,_,_,rfl,rfl,SqL.of A,SqL.of s,Ts _,Ts _,?_⟩;rw[FY];exact q _ _ p U (Same.refl _) (.bl _)
 ·refine .inl ?_;unfold fEq at h;split at h
  ·rename_i i j o n;rw[o]at g;rw[n]at f;rw[g.int_inv,f.int_inv];refine⟨rfl,?_⟩;rw[Bt λ_ _ z=>V.int.inj z];exact q _ _ p h (Same.refl _) (.bl _)
  ·rename_i i j o n;rw[o]at g;rw[n]at f;rw[g.str_inv,f.str_inv];refine⟨rfl,?_⟩;rw[Bt λ_ _ z=>V.str.inj z];exact q _ _ p h (Same.refl _) (.bl _)
  ·rename_i i j o n;rw[o]at g;rw[n]at f;rw[g.bl_inv,f.bl_inv];refine⟨rfl,?_⟩;rw[Bt λ_ _ z=>V.bl.inj z];exact q _ _ p h (Same.refl _) (.bl _)
  ·exact h.elim
def DJ{a b}(T:Xx K mg E L a)(N:Xx K mg E J b):Xx K mg E (tOp (λx y H Q=>rNe x y H Q\/N4 K true x y H Q) L J) (p2 a b<|SN true):=by
 refine Pv T N λH0 H p Z x y v u R Q w s1 s G C h q=>?_;have g:=G.rp w;have f:=C.rp w;unfold SN at h;split at h
 ·rename_i ds es o n;obtain⟨xs,Y,rfl,rfl,U⟩:=h;rw[o]at g;rw[n]at f;obtain⟨l,us,rfl,A,r⟩:=g.lst_inv;obtain⟨m,ws,rfl,s,M⟩:=f.lst_inv;rw[r.ints]at A;rw[M.ints]at s;refine .inr ⟨l,m,_,_,rfl,rfl,SqL.of A,SqL.of s,Ts _,Ts _,?_⟩;rw[FY];exact q _ _ p U (Same.refl _) (.bl _)
 ·refine .inl ?_;unfold fEq at h;split at h
  ·rename_i i j o n;rw[o]at g;rw[n]at f;rw[g.int_inv,f.int_inv];refine⟨rfl,?_⟩;rw[Bt λ_ _ z=>V.int.inj z];exact q _ _ p h (Same.refl _) (.bl _)
  ·rename_i i j o n;rw[o]at g;rw[n]at f;rw[g.str_inv,f.str_inv];refine⟨rfl,?_⟩;rw[Bt λ_ _ z=>V.str.inj z];exact q _ _ p h (Same.refl _) (.bl _)
  ·rename_i i j o n;rw[o]at g;rw[n]at f;rw[g.bl_inv,f.bl_inv];refine⟨rfl,?_⟩;rw[Bt λ_ _ z=>V.bl.inj z];exact q _ _ p h (Same.refl _) (.bl _)
  ·exact h.elim
noncomputable abbrev DA(K:ZV)(f:TE):TT:=λσ H Q=>f σ H λx H'=>∃k,AG K x H' k/\Q k H'
noncomputable def OM(a:PTE):PTT:=λγ R X=>a γ (λx=>match x.d with
 | .bl b=>R b | .lst f=>R (!f.isEmpty) | .tup f=>R (!f.isEmpty) | .int i=>R (i != 0) | .non=>R false|_=>False) X
def Af{g f:Type}{l:List g}{m:List f}(h:l.length=m.length):l.isEmpty=m.isEmpty:=by
 cases l<;>cases m<;>simp at h ⊢
def IB(y:Xx K mg E te a):KP K mg E (DA K te) (OM a):=by
 intro H0 B H σ γ R X Q o p q w;refine y H0 B H σ γ _ X _ o p (λx v H1 g h u=>?_) w;have f:=u.rp (o.grow h).same;split at g
 ·rename_i b e;rw[e]at f;rw[f.bl_inv];exact⟨b,rfl,q _ H1 g h⟩
 ·rename_i z e;rw[e]at f;obtain⟨l,n,rfl,s,r⟩:=f.lst_inv;exact⟨!n.isEmpty,.inl ⟨n,SqL.of s,rfl⟩,by rw[Af r.len];exact q _ H1 g h⟩
 ·rename_i z e;rw[e]at f;obtain⟨l,n,rfl,s,r⟩:=f.tup_inv;exact⟨!n.isEmpty,.inr (.inl ⟨n,SqT.of s,rfl⟩),by rw[Af r.len];exact q _ H1 g h⟩
 ·rename_i i e;rw[e]at f;rw[f.int_inv];exact⟨_,rfl,q _ H1 g h⟩
 ·rename_i e;rw[e]at f;rw[f.non_inv];exact⟨_,rfl,q _ H1 g h⟩
 ·exact g.elim
noncomputable def cutD{f:Type}(xs:List f)(lo g:Option Int):List f:=(xs.drop<|HT.sIx xs.length 0 lo).take (HT.sIx xs.length xs.length g-HT.sIx xs.length 0 lo)
noncomputable def MF:PTO:=λ_ R _=>R none
noncomputable def OP(a:PTE):PTO:=λγ R X=>a γ (λs=>match s.d with | .int i=>R (some i)|_=>False) X
def DL:Nz K mg E Lq MF:=λ_ _ H _ _ _ _ _ _ p q _=>q _ H p (Same.refl _)
def BP(r:Xx K mg E te a):Nz K mg E (Zan te) (OP a):=by
 intro H0 B H σ γ R X Q f p q o;refine r H0 B H σ γ _ X _ f p (λx v H1 h l n=>?_) o;have g:=n.rp (f.grow l).same;split at h
 ·rename_i i e;rw[e]at g;exact⟨i,g.int_inv,q _ H1 h l⟩
 ·grind
noncomputable def pSl(a:PTE)(l u:PTO):PTE:=λγ R X=>a γ (λs=>l γ (λlo=>u γ (λg=>match s.d with | .lst f=>s.free f=true/\R (.own<|cutD f lo g)|_=>False) X) X) X
def Rps.cut {lo f} (r:Rps K H ds vs):Rps K H (cutD ds lo f) (N6 vs lo f):=by
 unfold cutD N6;rw[r.len];exact Rps.take _ (Rps.drop _ r)
def Zqy{a l u}(U:Xx K mg E te a)(N:Nz K mg E G l)(M:Nz K mg E J u):Xx K mg E (tSl (AZ K) te G J) (pSl a l u):=by
 intro H0 B H σ γ R X Q f p q o;refine U H0 B H σ γ _ X _ f p (λx v H1 h1 h L=>?_) o;refine N H0 B H1 σ γ _ X _ (f.grow h) h1 (λlo H2 Y n=>?_) λc H' s y=>o c H' s (h.trans y);refine M H0 B H2 σ γ _ X _ ((f.grow h).grow n) Y (λhi H3 w A=>?_) λc H' s y=>o c H' s ((h.trans n).trans y);have g:=(h.trans n).trans A;split at w
 ·rename_i ds e;obtain⟨b,C,rfl,T,r⟩:=((L.grow<|n.trans A).items (f.grow g).same f.zm g w.1).1 e;exact⟨b,C,rfl,SqL.of T,λm z=>q _ _ _ w.2 (g.trans<|Kk z) (Nq g z r.cut)⟩
 ·grind
def Zaw:S->S->(S->Prop)->Prop:=λx y R=>match x.d,y.d with
 | .lst g,.lst f=>x.free g=true/\y.free f=true/\g.length+f.length<=100000/\R (.own (g++f))
 |_,_=>False
def Pi{a b}(U:Xx K mg E L a)(T:Xx K mg E J b):Xx K mg E (tOp RT L J) (p2 a b Zaw):=by
 refine Pv U T λH0 H H2 Z x y v u R Q s f A G C h q=>?_;unfold Zaw at h;split at h
 ·rename_i ds es e1 Y;obtain⟨l,o,rfl,N,r⟩:=(G.items s A f h.1).1 e1;obtain⟨m,n,rfl,g,w⟩:=(C.items s A f h.2.1).1 Y;have M:o.length+n.length<=sizeLine:=by rw[r.len,w.len];exact WW h.2.2.1 (by decide)
  exact⟨l,m,o,n,rfl,rfl,N,g,M,λp z=>q _ _ _ h.2.2.2 (Kk z) (Nq f z<|r.append w)⟩
 ·grind
noncomputable def EE(i:Nat)(a:PTE):PTS:=λR γ=>match γ[i]? with
 |some (some<|.own<|.lst f)=>a γ (λs=>match s.shd with
  |some d=>f.length<10000000/\R.nx (γ.set i<|some<|.own (f++[d]))
  |none=>False) (R.ex γ)
 |some (some<|.own<|.lsA x f)=>a γ (λs=>match s.shd with
  |some d=>f.length<10000000/\R.nx (γ.set i<|some<|.own<|.lsA x (f++[d]))
  |none=>False) (R.ex γ)
 |_=>False
def Zs2(i:Nat){te a}(T:Xx K mg E te a):XF K mg E (Ay<|tBM K "list" Di (Pf i)<|KF te P7) (EE i a):=by
 intro H0 B H σ γ R D U f h e;unfold EE at h;split at h
 ·rename_i N w;obtain⟨v,r,b,rfl,J,us,y,p⟩:=f.slot i _ w;refine⟨_,r,.inl ⟨rfl,us,SqL.of y⟩,T H0 B H σ γ _ _ _ f h (λs u H1 n l C=>?_) λc H' G A=>e.ex σ γ c H' G (f.grow A) (Fr.grow A)⟩;have g:=f.grow l;split at n
  ·rename_i d o;refine⟨b,us,u,rfl,rfl,l _ _ y,by rw[p.len];exact Jg n.1 (by decide),?_⟩;obtain⟨o,M⟩:=g.mutate (es:=.lst (N++[d])) (us:=.lst (us++[u])) w r trivial λF H' Q L=>⟨_,L,Rps.mono Q (Rps.append (Rps.mono (XB l λ_ _ _ z=>z) p)<|.cons (C.shd g.same f.zm l o) .nil)⟩;exact e.nx _ _ _ n.2 o ((Fr.grow l).trans M)
  ·exact n.elim
 ·rename_i x N w;obtain⟨v,r,b,rfl,J,rfl,us,y,p⟩:=f.slot i _ w;refine⟨_,r,.inl ⟨rfl,us,SqL.of y⟩,T H0 B H σ γ _ _ _ f h (λs u H1 n l C=>?_) λc H' G A=>e.ex σ γ c H' G (f.grow A) (Fr.grow A)⟩;have g:=f.grow l;split at n
  ·rename_i d o;refine⟨b,us,u,rfl,rfl,l _ _ y,by rw[p.len];exact Jg n.1 (by decide),?_⟩;obtain⟨o,M⟩:=g.mutate (es:=.lsA b (N++[d])) (us:=.lst (us++[u])) w r trivial λF H' Q L=>⟨rfl,_,L,Rps.mono Q (Rps.append (Rps.mono (XB l λ_ _ _ z=>z) p)<|.cons (C.shd g.same f.zm l o) .nil)⟩;exact e.nx _ _ _ n.2 o ((Fr.grow l).trans M)
  ·exact n.elim
 ·exact h.elim
end
section
variable {X:Cx}{K:ZV}
def D6(f:X.A.in1.units<cLine)(g:autoParam (X.K=K) au_0):OpR X (compareOp .In) (λx y H Q=>rIn K false x y H Q\/Ft false x y H Q):=(Znm g).or (Zrp f)
def Zkb(f:X.A.in1.units<cLine)(g:autoParam (X.K=K) au_0):OpR X (compareOp .NotIn) (λx y H Q=>rIn K true x y H Q\/Ft true x y H Q):=(Zsg g).or (Zql f)
def NS(f:X.A.units<cLine)(g:autoParam (X.K=K) au_0):OpR X (compareOp .Eq) (λx y H Q=>rEq x y H Q\/N4 K false x y H Q):=by subst g;exact op_eq.or (Zp0 f)
def Mh(f:X.A.units<cLine)(g:autoParam (X.K=K) au_0):OpR X (compareOp .NotEq) (λx y H Q=>rNe x y H Q\/N4 K true x y H Q):=by subst g;exact op_ne.or (Zdd f)
def SG(g:PE X e te)(h:autoParam (X.K=K) au_0)(f:autoParam (∀whole,isTrue e X.env whole=(do let v ←whole;standAt e.pos;holding [v] (truthy v))) au_3):PT X e (DA K te):=by
 subst h;exact Zqj g f
def NI(f:autoParam (X.K=K) au_0):Kx X (.type "list") (λxs H Q=>∃p ys,xs=[.ref p]/\(SqL K H p ys\/SqT K H p ys)/\∀l,H l=none->Q (.ref l) (upd H l<|.lst ys)):=by subst f;exact Zos
def GU(f:autoParam (X.K=K) au_0):Kx X (.type "tuple") (λxs H Q=>∃p ys,xs=[.ref p]/\((SqL K H p ys/\∀l,H l=none->Q (.ref l) (upd H l<|.tup ys))\/(SqT K H p ys/\Q (.ref p) H))):=by subst f;exact Zri
def SX(f:autoParam (X.K=K) au_0):Kx X (.builtin "isinstance") (λxs H Q=>∃x n t b,xs=[x,.ty n]/\P1 K H x t/\PySem.W.kitOne K t (.type n)=some b/\Q (.bl b) H):=by subst f;exact Zh4
def I0(f:autoParam (X.K=K) au_0):SlR X (AZ K):=by subst f;exact Zki
def DP(g:X.calm=true){w}(h:autoParam (X.K=K) au_0)(hw:autoParam (X.w=w) au_0):Kx X (.builtin "sorted") (λxs H Q=>∃p f,xs=[.ref p]/\f.length<64/\(SqL K H p (f.map V.int)\/H p=some (Sx w p f))/\
  ∀l (ns:ZX),H l=none->ns.Perm f->ns.Pairwise (·<=·)->Q (.ref l) (upd H l<|.lst<|ns.map V.int)):=by subst h;subst hw;exact MK g
def S7{g l f}(h:PE X l f)(n:autoParam (X.K=K) au_0):PI X g l (Aj K f):=by subst n;exact Rk h
end
section
variable {P:Program}{w:World}{K:ZV}{mg:ZZ}{base:Heap}{H H':Hp}
def Zka(C:Callee P w K mg base CX k x ps sp)(h:∀ds R X vs H Q E,Rps K H ds vs->c ds R X->(∀s v H',R s->Same H H'->TV K (λb=>Mut (H b)) H H H' s v->Q v H')->(∀e H',X e->Same H H'->XE mg E e H')->sp vs H Q E) :
  Callee P w K mg base CX k x ps (X3 mg c K):=by
 obtain⟨f,o,F,rest⟩:=C.ex;exact⟨f,o,F.imp λvs H Q E ⟨ds,R,X,r,g,n,l⟩=>h ds R X vs H Q E r g n l,rest⟩
def Rp.scr_inv (h:Rp K H (.scr ns) v):∃a,v=.ref a/\SqL K H a (ns.map V.int):=by
 cases h with
 |scr h=>grind
def Rp.ints_inv {ns:ZX}{v} (h:Rp K H (.lst<|ns.map D.int) v):∃a,v=.ref a/\H a=some (.lst<|ns.map V.int):=by
 obtain⟨a,g,rfl,f,r⟩:=h.lst_inv;rw[r.ints]at f
 grind
def Rp.pairs_inv {v} (h:Rp K H (.lst<|ps.map prD) v):∃a,v=.ref a/\LAt PR H a ps:=by
 obtain⟨a,f,rfl,g,r⟩:=h.lst_inv;exact⟨a,rfl,f,g,r.lv⟩
def Zn0{ns:ZX}(n:H a=none)(h:H' a=some (.lst<|ns.map V.int)):TV K (λb=>Mut (H b)) H H H' (.own<|ns.map D.int) (.ref a):=⟨a,rfl,(λ_ e=>e▸n),_,h,Rps.of_ints ns⟩
theorem N3:∀(ns:ZX),Pb (ns.map D.int)=true
 |[]=>rfl
 |n::r=>by rw[Qa];unfold Pb;rw[N3 r];unfold imm;rfl
def Zja(p:Int×Int):imm (prD p)=true:=rfl
theorem TU:∀(ps:ZW),Pb (ps.map prD)=true
 |[]=>rfl
 |p::r=>by rw[Qa];unfold Pb;rw[TU r,Zja];rfl
def Zvp{g:Type}{f:g->D}{xs:List g}{i}(h:i<xs.length):(xs.map f).getD i .non=f xs[i]:=by grind
def PU{g:Type}{f:g->D}{xs:List g}{i}(l:0<=i)(h:i<(xs.length:Int)):atI (xs.map f) i=some (f (xs[i.toNat]'(by lia))):=by
 have n:i.toNat<xs.length:=by lia
 exact PJ (F2 l<|WI n)
def Ak{g:Type}{f:g->D}{xs:List g}{i}(h:i<xs.length):atI (xs.map f) (i:Int)=some (f xs[i]):=PJ (TM<|WI h)
def Ku{l:Type}{φ}{γ}{g}{c}{e}{s:S}{R}{xs:List l}{emb}(f:l->Option D)(n:xs.length<=100000)(turn:∀x∈xs,g (s.sub<|emb x) (atP φ γ) λh=>c h (λb=>if b=true then e h (λs=>∃d,s.shd=some d/\f x=some d) (λ_=>False)else f x=none) λ_=>False)(done:R (.own<|xs.filterMap f)) :
  Ga φ γ g c e (xs.map emb).length (λi=>s.sub ((xs.map emb).getD i .non)) R:=by
 rw[WH];refine⟨⟨n,λi=>(xs[i]?).bind f,λi o=>?_,by rw[Zt5];exact done⟩⟩;simp_all
def BA{g c e item R n}(f:Nat->Option D)(o:n<=100000)(turn:∀i,i<n->g (item i) (atP φ l) λh=>c h (λb=>if b=true then e h (λs=>∃d,s.shd=some d/\f i=some d) (λ_=>False)else f i=none) λ_=>False)(done:R (.own ((List.range n).filterMap f))) :
  Ga φ l g c e n item R:=⟨⟨o,f,turn,done⟩⟩
def KQ{p:Type}{js}{γ}{g}{body}{s:S}{R}{xs:List p}{emb}(l:Nat->Γ->Prop)(u:l 0 (clr js γ))(turn:∀i r f,l i f->g (s.sub (emb xs[i])) f λo=>body {R with nx:=λn=>l (i+1) (clr js n),ct:=λn=>l (i+1) (clr js n),bk:=R.nx} o)(done:∀f,l xs.length f->R.nx f) :
  FE js γ g body R (xs.map emb).length (λi=>s.sub ((xs.map emb).getD i .non)):=by
 refine⟨⟨l,u,λi f r h=>?_,λf h=>?_⟩⟩
 ·grind
 ·grind
def TX{n item}(f:Nat->Γ->Prop)(s:f 0 (clr p r))(turn:∀i h,i<n->f i h->g (item i) h λo=>body {R with nx:=λl=>f (i+1) (clr p l),ct:=λl=>f (i+1) (clr p l),bk:=R.nx} o)(done:∀h,f n h->R.nx h):FE p r g body R n item:=⟨⟨f,s,turn,done⟩⟩
def Ai(h:Γ->Prop)(l:Γ->Nat)(p:h (clr n o))(turn:∀f,h f->c f (λb=>if b=true then body {R with nx:=λg=>h (clr n g)/\l (clr n g)<l f,ct:=λg=>h (clr n g)/\l (clr n g)<l f,bk:=R.nx} f else R.nx f) (R.ex f)):LZ n o c body R:=⟨⟨h,l,p,turn⟩⟩
def NY(J:Γ->Prop)(l:p {R with nx:=J} g)(h:∀f,J f->q R f):IV p q R g:=⟨⟨J,l,h⟩⟩
theorem Pz{f:Type}(c:f->Bool)(emb:f->D):∀g:List f,g.filterMap (λq=>if c q=true then some (emb q)else none)=(g.filter c).map emb
 |[]=>rfl
 |q::r=>by
  by_cases h:c q=true
  ·rw[List.filterMap_cons_some (by rw[WQ h]),J1 h,Qa,Pz c emb r]
  ·rw[List.filterMap_cons_none (by grind),J2 h,Pz c emb r]
def T5{f:Type}(emb:f->D)(g:List f):g.filterMap (λq=>some (emb q))=g.map emb:=by simp
def TC(f:h->D)(xs:List h)(lo g:Option Int):cutD (xs.map f) lo g=(cutD xs lo g).map f:=by
 unfold cutD;simp
def BJ(xs:List f){n}(h:0<=n):cutD xs none (some n)=xs.take n.toNat:=by
 unfold cutD;have e:n=(n.toNat:Int):=by lia
 rw[HT.Zbt,e,HT.Bp,List.drop_zero,Nat.sub_zero,Qx];by_cases c:n.toNat<=xs.length
 ·simp
 ·simp
def SH(xs:List f){n}(h:0<=n):cutD xs (some n) none=xs.drop n.toNat:=by
 unfold cutD;have e:n=(n.toNat:Int):=by lia
 rw[HT.Zbt,e,HT.Bp,Qx];by_cases c:n.toNat<=xs.length
 ·grind
 ·rw[Nat.min_eq_right (by lia),VZ (WS _),VZ (by lia)];simp
noncomputable def EH(K:ZV):Sp:=λf H Q _=>∃(a:Addr) (g:ZX),f=[.ref a]/\SqL K H a (g.map V.int)/\∀H',Q (.bl true) H'
noncomputable def Lo:Pc:=λg R _=>∃f:ZX,g=[.scr f]/\R (.sh<|.bl true)
def Zfx(h:EH K vs H Q n):X3 mg Lo K vs H Q n:=by
 obtain⟨a,f,rfl,l,q⟩:=h;refine⟨[.scr f],λs=>s=.sh (.bl true),λ_=>False,.cons (.scr l) .nil,⟨f,rfl,rfl⟩,λs v H' e o g=>?_,λ_ _ z=>z.elim⟩;subst e;cases g
 grind
end
section
variable {K:ZV}{mg:ZZ}{E:L2.St->XK}{H0 H H1 H':Hp}{B Z Z':Addr->Prop}{σ:L2.St}{γ:Γ}
noncomputable def A6:D->Option V
 | .int i=>some (.int i) | .bl b=>some (.bl b) | .non=>some .non | .str x=>some (.str x)|_=>none
noncomputable def vD:V->D
 | .int i=>.int i | .bl b=>.bl b | .str x=>.str x|_=>.non
noncomputable def SK:V->Bool
 | .int _=>true | .bl _=>true | .str _=>true | .non=>true|_=>false
def Fs(h:SK v=true):Rp K H (vD v) v:=by
 cases v with
 |int i=>exact .int i
 |bl b=>exact .bl b
 |str x=>exact .str x
 |non=>exact .non
 |_=>cases h
def Dj(h:Rp K H d v)(e:A6 d=some u):v=u:=by
 cases h with
 |int i|bl b|non|str x=>cases e;rfl
 |_=>cases e
noncomputable def B3:D->Option Key
 | .int i=>some (.inl i) | .str x=>some (.inr x)|_=>none
noncomputable def SU:List D->Option (List Key)
 |[]=>some []
 |d::r=>match B3 d,SU r with
  |some k,some f=>some (k::f)
  |_,_=>none
noncomputable def N8:D->Option (List Key)
 | .tup f=>SU f
 |_=>none
def Fy(h:Rp K H d v)(e:B3 d=some k):v=kV k:=by
 cases h with
 |int i|str x=>cases e;rfl
 |_=>cases e
def Zjo:∀{ds vs}{f:List Key},Rps K H ds vs->SU ds=some f->vs=f.map kV:=by
 intro ds
 induction ds with
 |nil=>
  intro _ _ h e;cases h
  cases e
  rfl
 |cons _ _ g=>
  intro _ f h e;cases h with
  |cons h r=>
   unfold SU at e;split at e
   ·rename_i k o n l;cases e
    rw[Fy h n,g r l];rfl
   ·grind
def Se(h:Rp K H d v)(e:N8 d=some f):∃b,v=.ref b/\H b=some (.tup<|f.map kV):=by
 cases h with
 |tup h r=>
  rw[Zjo r e]at h
  grind
 |_=>cases e
def Rp.dK_inv (h:Rp K H (.dK f) v):∃a,v=.ref a/\H a=some (.dK f):=by
 cases h with
 |dK h=>grind
def Rp.dT_inv (h:Rp K H (.dT f) v):∃a,v=.ref a/\H a=some (.dT f):=by
 cases h with
 |dT h=>grind
noncomputable def Zfr:PTE:=λ_ R _=>R (.own<|.dK [])
noncomputable def Znj:PTE:=λ_ R _=>R (.own<|.dT [])
def Zaq:Xx K mg E Oi Zfr:=by
 intro H0 B H σ γ R X Q g p q _ l f;exact q _ _ _ p (Kk f) ⟨l,rfl,(λ_ e=>e▸f),XZ⟩
def MT:Xx K mg E MM Znj:=by
 intro H0 B H σ γ R X Q g p q _ l f;exact q _ _ _ p (Kk f) ⟨l,rfl,(λ_ e=>e▸f),XZ⟩
def LA:S->S->(S->Prop)->Prop:=λx y R=>match x.d with
 | .dK f=>∃k v,B3 y.d=some k/\XA f k=some v/\SK v=true/\R (.sh<|vD v)
 | .dT f=>∃k v,N8 y.d=some k/\XA f k=some v/\SK v=true/\R (.sh<|vD v)
 |_=>False
def Sm{a b}(N:Xx K mg E M a)(p:Xx K mg E g b):Xx K mg E (DR M g) (p2 a b LA):=by
 refine Pv N p λH0 H J Z x y v u R Q C T U L g h q=>?_;have f:=L.rp C;have G:=g.rp C;unfold LA at h;split at h
 ·rename_i n e;rw[e]at f;obtain⟨l,rfl,o⟩:=f.dK_inv;obtain⟨k,w,A,z,s,r⟩:=h;refine⟨l,w,rfl,?_,q _ _ J r (Same.refl _) (Fs s)⟩;rw[Fy G A,←z];exact DGet.k o
 ·rename_i n e;rw[e]at f;obtain⟨l,rfl,o⟩:=f.dT_inv;obtain⟨k,w,A,z,s,r⟩:=h;obtain⟨b,rfl,p⟩:=Se G A;refine⟨l,w,rfl,?_,q _ _ J r (Same.refl _) (Fs s)⟩;rw[←z];exact DGet.t o p
 ·grind
def As(neg:Bool):S->S->(S->Prop)->Prop:=λy x R=>match x.d with
 | .dK f=>∃k,B3 y.d=some k/\R (.sh<|.bl (if neg then !(XA f k).isSome else(XA f k).isSome))
 | .dT f=>∃k,N8 y.d=some k/\R (.sh<|.bl (if neg then !(XA f k).isSome else(XA f k).isSome))
 |_=>False
def Oc{w f a b}(J:Xx K mg E f a)(p:Xx K mg E w b):Xx K mg E (IL f w) (p2 a b<|As false):=by
 refine Pv J p λH0 H C Z y x u v R Q z L M f G h q=>?_;have g:=G.rp z;have A:=f.rp z;unfold As at h;split at h
 ·rename_i n e;rw[e]at g;obtain⟨l,rfl,o⟩:=g.dK_inv;obtain⟨k,s,r⟩:=h;refine⟨l,_,rfl,?_,q _ _ C r (Same.refl _) (.bl _)⟩;rw[Fy A s];exact DGet.k o
 ·rename_i n e;rw[e]at g;obtain⟨l,rfl,o⟩:=g.dT_inv;obtain⟨k,s,r⟩:=h;obtain⟨b,rfl,p⟩:=Se A s;exact⟨l,_,rfl,DGet.t o p,q _ _ C r (Same.refl _) (.bl _)⟩
 ·grind
def Zmy{w f a b}(J:Xx K mg E f a)(p:Xx K mg E w b):Xx K mg E (EZ f w) (p2 a b<|As true):=by
 refine Pv J p λH0 H C Z y x u v R Q z L M f G h q=>?_;have g:=G.rp z;have A:=f.rp z;unfold As at h;split at h
 ·rename_i n e;rw[e]at g;obtain⟨l,rfl,o⟩:=g.dK_inv;obtain⟨k,s,r⟩:=h;refine⟨l,_,rfl,?_,q _ _ C r (Same.refl _) (.bl _)⟩;rw[Fy A s];exact DGet.k o
 ·rename_i n e;rw[e]at g;obtain⟨l,rfl,o⟩:=g.dT_inv;obtain⟨k,s,r⟩:=h;obtain⟨b,rfl,p⟩:=Se A s;exact⟨l,_,rfl,DGet.t o p,q _ _ C r (Same.refl _) (.bl _)⟩
 ·grind
noncomputable def Zcb(i:Nat)(b a:PTE):PTS:=λR γ=>match γ[i]? with
 |some (some<|.own<|.dK f)=>a γ (λs=>b γ (λy=>∃k u,B3 y.d=some k/\A6 s.d=some u/\f.length<100000/\R.nx (γ.set i<|some<|.own<|.dK<|putK f k u)) (R.ex γ)) (R.ex γ)
 |some (some<|.own<|.dT f)=>a γ (λs=>b γ (λy=>∃k u,N8 y.d=some k/\A6 s.d=some u/\f.length<100000/\R.nx (γ.set i<|some<|.own<|.dT<|putK f k u)) (R.ex γ)) (R.ex γ)
 |_=>False
def BL(i:Nat){ty tv a b}(hb:Xx K mg E ty b)(ha:Xx K mg E tv a):XF K mg E (Zal (Pf i) ty tv) (Zcb i b a):=by
 intro H0 B H σ γ R D hB n h e;have hx:=λc H' G x=>e.ex σ γ c H' G (n.grow x) (Fr.grow x);unfold Zcb at h;split at h
 ·rename_i o C;obtain⟨v,A,l,rfl,Y,U⟩:=n.slot i _ C;refine ha H0 B H σ γ _ _ _ n h (λs u H1 h1 p L=>⟨_,A,?_⟩) hx;have f:=n.grow p;refine hb H0 B H1 σ γ _ _ _ f h1 (λy w H2 h2 r J=>?_) λc H' G x=>hx c H' G (p.trans x);obtain⟨k,z,T,Q,N,M⟩:=h2;have g:=f.grow r;have eu:=Dj (L.rp f.same) Q;have ew:=Fy (J.rp g.same) T;subst eu ew;refine⟨l,_,rfl,DPut.k (r _ _<|p _ _ U) (Jg N<|by decide),?_⟩;obtain⟨e2,f2⟩:=g.mutate (es:=.dK (putK o k u)) (us:=.dK (putK o k u)) C A trivial λF H' SF hF=>hF;exact e.nx _ _ _ M e2 ((Fr.grow<|p.trans r).trans f2)
 ·rename_i o C;obtain⟨v,A,l,rfl,Y,U⟩:=n.slot i _ C;refine ha H0 B H σ γ _ _ _ n h (λs u H1 h1 p L=>⟨_,A,?_⟩) hx;have f:=n.grow p;refine hb H0 B H1 σ γ _ _ _ f h1 (λy w H2 h2 r J=>?_) λc H' G x=>hx c H' G (p.trans x);obtain⟨k,z,T,Q,N,M⟩:=h2;have g:=f.grow r;have eu:=Dj (L.rp f.same) Q;obtain⟨b',rfl,hb'⟩:=Se (J.rp g.same) T;subst eu;refine⟨l,_,rfl,DPut.t (r _ _<|p _ _ U) hb' (Jg N<|by decide),?_⟩;obtain⟨e2,f2⟩:=g.mutate (es:=.dT (putK o k u)) (us:=.dT (putK o k u)) C A trivial λF H' SF hF=>hF;exact e.nx _ _ _ M e2 ((Fr.grow<|p.trans r).trans f2)
 ·exact h.elim
noncomputable def Zbm(a:PTE):PTS:=λR γ=>a γ (λs=>match s.shd with|some d=>R.rt (.sh d)|none=>False) (R.ex γ)
def Zee(u:Xx K mg E te a):XF K mg E (SA te) (Zbm a):=by
 intro H0 B H σ γ R D w f h e;refine u H0 B H σ γ _ _ _ f h (λs v H1 l g o=>?_) λc H' r n=>e.ex σ γ c H' r (f.grow n) (Fr.grow n);split at l
 ·rename_i d p;exact e.rt (.sh d) v H1 l (f.same.trans g) (Rp.mono (XB (Same.refl _) λb _ _ z y=>z (.inl y)) (o.shd (f.grow g).same f.zm g p))
 ·grind
noncomputable def Zbf(i:Nat)(γ:Γ):Nat:=match γ[i]? with
 |some (some<|.own<|.lst f)=>f.length
 |_=>0
noncomputable def pIE(r:PTA):PTI:=λγ R X=>r γ (λg=>match g with
 |[s]=>(match s.d with
  | .lst f=>s.fix=true/\Pb f=true/\R f.length λi=>.sh (.tup [.int i,f.getD i .non])
  |_=>False)
 |_=>False) X
theorem Ro:∀{ds}{i:Nat}{d:D},Pb ds=true->ds[i]?=some d->imm d=true
 |[],i,d,_,e=>by simp at e
 |a::r,0,d,h,e=>by
  unfold Pb at h
  grind
 |a::r,i+1,d,h,e=>by
  exact Ro (Qz _ _▸h).2 (by trivial)
def Znp{s:S}{d}(h:imm d=true):(s.sub d).shd=some d:=by
 cases s with
 |bor b=>show(arg d).shd=_;unfold arg;rw[h];rfl
 |tmp b=>show(KS d).shd=_;unfold KS;rw[h];rfl
 |sh b=>rfl
 |own b|view b=>
  cases b with
  |nst f|nsl a f=>show(KS d).shd=_;unfold KS;rw[h];rfl
  |_=>rfl
def Zu7(hr:XO K mg E U r):SndI K mg E (Ll K U) (pIE r):=by
 intro H0 B H σ γ R X Q g h q qx;refine hr H0 B H σ γ _ X _ g h (λss n H1 f C Y=>?_) qx;split at f
 ·rename_i s;obtain⟨v,rfl,o⟩:=Y.one_inv;split at f
  ·rename_i M ed;obtain⟨l,n,rfl,hn,A⟩:=o.last g C f.1 ed;obtain⟨w,_⟩:=A H1 _ (Later.of (g.grow C) Fr.refl);refine⟨l,rfl,⟨n,SqL.of w⟩,q _ _ _ H1 f.2.2 C ⟨λi H' Z' hi lt=>?_,λH' Z' lt=>?_⟩⟩
   ·obtain⟨G,k2⟩:=A H' Z' lt;have L:M[i]?=some (M.getD i .non):=by grind
    obtain⟨u,J,N⟩:=k2 i _ L;refine⟨⟨n,u,SqL.of G,J⟩,λx H'' y=>?_⟩;obtain⟨T,v,p,hv,rfl,rfl⟩:=y
    have:=hv n (SqL.of G)
    rw[J]at this;cases this
    refine⟨Kk p,.tup (Kg XZ λz=>?_) (.cons (.int _)<|.cons (Rp.mono (XB (Kk p) λ_ _ _ z=>z)<|N.shd lt.1 lt.2.1 (Same.refl _)<|Znp<|Ro f.2.1 L) .nil)⟩
    have:=lt.2.1 T z
    rw[p]at this;exact this
   ·exact⟨n,SqL.of (A H' Z' lt).1,by lia⟩
  ·exact f.elim
 ·exact f.elim
def Zel{p:Type}{js}{γ}{g}{body}{R}{xs:List p}{emb}(l:Nat->Γ->Prop)(s:l 0 (clr js γ))(turn:∀i r f,l i f->g (.sh<|.tup [.int i,emb xs[i]]) f λo=>body {R with nx:=λn=>l (i+1) (clr js n),ct:=λn=>l (i+1) (clr js n),bk:=R.nx} o)(done:∀f,l xs.length f->R.nx f) :
  FE js γ g body R (xs.map emb).length (λi=>.sh (.tup [.int i,(xs.map emb).getD i .non])):=by
 refine⟨⟨l,s,λi f r h=>?_,λf h=>?_⟩⟩
 ·grind
 ·grind
def P0(d:f)(ds:List f):atI (d::ds) 0=some d:=F2 (by simp) rfl
noncomputable def em(l:Int)(p:ZX):D:=.lst ((l::p).map D.int)
def Gp(l:Int)(p:ZX):atI ((l::p).map D.int) (-1)=some (.int<|Kj l p):=by
 refine PJ ?_;unfold atI ixN;rw[WN (by lia),WQ (by grind)];have e:(-1+((l::p).length:Int)).toNat=p.length:=by grind
 rw[e];exact DM l p
def LC:List S->(S->Prop)->Prop
 |[s],R=>∃f:ZX,s.d=.lst (f.map D.int)/\R (.sh<|.int f.sum)
 |_,_=>False
def Ez(s:XO K mg E l r):Xx K mg E (tCB (λxs H Q=>∃(p:Addr) (ns:ZX),xs=[.ref p]/\SqL K H p (ns.map V.int)/\Q (.int ns.sum) H) l) (pCB LC r):=by
 refine Td s λH0 H H1 Z y x R Q o z A g h q=>?_;unfold LC at h;split at h
 ·obtain⟨v,rfl,n⟩:=g.one_inv;obtain⟨ns,e,w⟩:=h;have f:=n.rp o;rw[e]at f;obtain⟨a,rfl,u⟩:=f.ints_inv;exact⟨a,ns,rfl,SqL.of u,q _ _ H1 w (Same.refl _) (.int _)⟩
 ·grind
def Oe:List S->(S->Prop)->Prop
 |[s],R=>∃f:ZX,s.d=.lst (f.map D.int)/\0<f.length/\∀m,m∈f->(∀a∈f,m<=a)->R (.sh<|.int m)
 |_,_=>False
def RV(u:XO K mg E n r):Xx K mg E (tCB (λxs H Q=>∃(p:Addr) (ns:ZX),xs=[.ref p]/\SqL K H p (ns.map V.int)/\0<ns.length/\∀M,M∈ns->(∀a∈ns,M<=a)->Q (.int M) H) n) (pCB Oe r):=by
 refine Td u λH0 H H1 Z C A R Q s G J l h q=>?_;unfold Oe at h;split at h
 ·obtain⟨v,rfl,o⟩:=l.one_inv;obtain⟨ns,e,f,x⟩:=h;have g:=o.rp s;rw[e]at g;obtain⟨a,rfl,w⟩:=g.ints_inv;exact⟨a,ns,rfl,SqL.of w,f,λm z y=>q _ _ H1 (x m z y) (Same.refl _) (.int _)⟩
 ·grind
def O6:List S->(S->Prop)->Prop
 |[s],R=>∃bs:List Bool,s.d=.lst (bs.map D.bl)/\R (.sh<|.bl<|bs.any id)
 |_,_=>False
theorem Rps.bls:∀{f:List Bool}{vs:List V},Rps K H (f.map D.bl) vs->vs=f.map V.bl
 |[],_,.nil=>rfl
 |j::r,_,.cons h t=>by rw[Rp.bl_inv h,Rps.bls t];rfl
def RB(w:XO K mg E n r):Xx K mg E (tCB (λxs H Q=>∃(p:Addr) (bs:List Bool),xs=[.ref p]/\SqL K H p (bs.map V.bl)/\Q (.bl<|bs.any id) H) n) (pCB O6 r):=by
 refine Td w λH0 H H1 Z A y R Q s C G l h q=>?_;unfold O6 at h;split at h
 ·obtain⟨v,rfl,o⟩:=l.one_inv;obtain⟨bs,e,x⟩:=h;have f:=o.rp s;rw[e]at f;obtain⟨a,z,rfl,g,u⟩:=f.lst_inv;rw[u.bls]at g;exact⟨a,bs,rfl,SqL.of g,q _ _ H1 x (Same.refl _) (.bl _)⟩
 ·grind
def HA(neg:Bool):S->S->(S->Prop)->Prop:=λx y R=>match x.d,y.d with
 | .lst f,.lst []=>R (.sh<|.bl (if neg then !f.isEmpty else f.isEmpty))
 |_,_=>False
def Gf{n g a b}(L:Xx K mg E n a)(J:Xx K mg E g b):Xx K mg E (tOp (Hf K neg) n g) (p2 a b<|HA neg):=by
 refine Pv L J λH0 H T Z x y v u R Q o Y hm A z h q=>?_;have s:=A.rp o;have p:=z.rp o;unfold HA at h;split at h
 ·rename_i ds N M;rw[N]at s;rw[M]at p;obtain⟨l,w,rfl,G,r⟩:=s.lst_inv;obtain⟨m,U,rfl,f,C⟩:=p.lst_inv;cases C
  refine⟨l,m,w,rfl,rfl,SqL.of G,SqL.of f,?_⟩;rw[Af r.len];exact q _ _ T h (Same.refl _) (.bl _)
 ·grind
def GL(x y:Int){k}(h:k=0\/k=1):atI [D.int x,D.int y] k=some (.int (if k=0 then x else y)):=by
 rcases h with rfl|rfl
 ·rfl
 ·rfl
def Nb(xs:List g)(lo f:Option Int):(cutD xs lo f).Sublist xs:=(J4 _ _).trans (List.drop_sublist _ _)
noncomputable def Hc(i:Nat)(b a:PTE):PTS:=λR γ=>match γ[i]? with
 |some (some<|.own<|.lst f)=>a γ (λs=>b γ (λy=>match y.d with
   | .int k=>∃j d,ixN f.length k=some j/\s.shd=some d/\R.nx (γ.set i<|some<|.own<|.lst<|f.set j d)
   |_=>False) (R.ex γ)) (R.ex γ)
 |some (some<|.own<|.lsA x f)=>a γ (λs=>b γ (λy=>match y.d with
   | .int k=>∃j d,ixN f.length k=some j/\s.shd=some d/\R.nx (γ.set i<|some<|.own<|.lsA x<|f.set j d)
   |_=>False) (R.ex γ)) (R.ex γ)
 |_=>False
theorem Rps.set (h:Rp K H d v):∀{ds vs} j,Rps K H ds vs->Rps K H (ds.set j d) (vs.set j v)
 |_,_,_,.nil=>.nil
 |_,_,0,.cons _ r=>.cons h r
 |_,_,j+1,.cons k r=>.cons k (Rps.set h j r)
def Zj4(i:Nat){tb te a b}(hb:Xx K mg E tb b)(ha:Xx K mg E te a):XF K mg E (Sn te<|Zam (Pf i) tb Zae) (Hc i b a):=by
 intro H0 B H σ γ R D hB g h e;have hx:=λc H' M A=>e.ex σ γ c H' M (g.grow A) (Fr.grow A);unfold Hc at h;split at h
 ·rename_i ds L;obtain⟨v,J,l,rfl,Y,us,U,G⟩:=g.slot i _ L;refine ha H0 B H σ γ _ _ _ g h (λs u H1 h1 o Q=>⟨_,J,?_⟩) hx;have f:=g.grow o;refine hb H0 B H1 σ γ _ _ _ f h1 (λy w H2 r p N=>?_) λc H' M A=>hx c H' M (o.trans A);have n:=f.grow p;have C:=N.rp n.same;split at r
  ·rename_i k ek;rw[ek]at C;obtain⟨j,d,h3,h4,h5⟩:=r;have T:=Rp.mono (XB p λ_ _ _ z=>z) (Q.shd f.same g.zm o h4);refine⟨l,us,k,j,rfl,C.int_inv,(o.trans p) _ _ U,by rw[G.len];exact h3,?_⟩;obtain⟨e2,f2⟩:=n.mutate (es:=.lst (ds.set j d)) (us:=.lst (us.set j u)) L J trivial λF H' SF hF=>⟨_,hF,Rps.mono SF (Rps.set T j<|Rps.mono (XB (o.trans p) λ_ _ _ z=>z) G)⟩;exact e.nx _ _ _ h5 e2 ((Fr.grow<|o.trans p).trans f2)
  ·exact r.elim
 ·rename_i x ds L;obtain⟨v,J,l,rfl,Y,rfl,us,U,G⟩:=g.slot i _ L;refine ha H0 B H σ γ _ _ _ g h (λs u H1 h1 o Q=>⟨_,J,?_⟩) hx;have f:=g.grow o;refine hb H0 B H1 σ γ _ _ _ f h1 (λy w H2 r p N=>?_) λc H' M A=>hx c H' M (o.trans A);have n:=f.grow p;have C:=N.rp n.same;split at r
  ·rename_i k ek;rw[ek]at C;obtain⟨j,d,h3,h4,h5⟩:=r;have T:=Rp.mono (XB p λ_ _ _ z=>z) (Q.shd f.same g.zm o h4);refine⟨l,us,k,j,rfl,C.int_inv,(o.trans p) _ _ U,by rw[G.len];exact h3,?_⟩;obtain⟨e2,f2⟩:=n.mutate (es:=.lsA l (ds.set j d)) (us:=.lst (us.set j u)) L J trivial λF H' SF hF=>⟨rfl,_,hF,Rps.mono SF (Rps.set T j<|Rps.mono (XB (o.trans p) λ_ _ _ z=>z) G)⟩;exact e.nx _ _ _ h5 e2 ((Fr.grow<|o.trans p).trans f2)
  ·exact r.elim
 ·exact h.elim
end
end Pu
namespace PySem
open Sem (wp)
structure Zov {K:Type} (es:List DictEntry) (kvs:List (K×Value)):Prop where
 length:es.length=kvs.length
 get?:∀{i:Nat} {e:DictEntry} {k:K} {v:Value},es[i]?=some e->kvs[i]?=some (k,v)->True/\e.val=v
def VDict{K:Type}(h:Heap)(a:Addr)(f:List (K×Value))(ep:Nat):Prop:=
 ∃o g,h.get? a=some o/\o.ExactDict/\o.data=.dict g ep/\True/\Zov g.toList f/\True
section
variable {prog:Program}{w:World}{K:Type}{A:Around}{E:Ya}{s:Shared}
def Zlu(d:Addr)(g:(d==sysModules)=false) :
  MeetsIn prog w (Builtin.«dict.values» ⟨[.ref d],[]⟩) (λ_ R s=>s.TypeIs (.ref d) "dict"/\
   R (.ok<|.ret<|.ref s.heap.objs.size) {s with heap:=s.heap.push {cls:=.type "dict_values",data:=.fields #[.ref d]}}):=
 .of_wp λA R s ⟨f,h⟩=>by
  refine WG ?_;unfold Builtin.Dict.noArgs;refine WG (wpAny_notOrdered_dict f ?_);show wpAny _ _ (pure d) _ _ s;refine WJ ?_;show wpAny _ _ (Builtin.Dict.showsAll d >>= _) _ _ s;unfold Builtin.Dict.showsAll;rw[WN (by rw[g];exact Qe)];refine WG (WJ ?_);exact WG (Qq<|WJ ⟨_,rfl,h⟩)
def Zr4{v d:Addr}{g:List (K×Value)}{ep:Nat}{Q:Ya}(l:s.heap.IsValuesView v d)(z:VDict s.heap d g ep)(C:Q (.ref s.heap.objs.size) {s with heap:=s.heap.push {cls:=.type "dict_valueiterator",data:=.fields #[.ref d,.int 0 0,.int g.length 0,.int ep 0]}}) :
  wpAny (model prog w) A (pyIter<|.ref v) Q E s:=by
 obtain⟨H,p,B,r⟩:=id l;obtain⟨o,G,u,M,f,L,y,J⟩:=id z;refine Jb l.typeIs F.slot_dict_values_iter (QE F.slot_dict_values_iter l.typeIs F.entry_dict_values_iter ?_<|F.args_dict_values_iter_1 _);unfold Builtin.«dict_values.__iter__»;refine WG (WJ ?_);refine WG ?_;unfold Builtin.Dict_items.dictOf;refine WG (Vj p r (x:=.ref d) rfl<|WJ ?_);refine WG ?_;unfold Builtin.Dict_items.newIterator;refine WG (VE u f ?_);refine WG (VT u f ?_);have n:G.size=g.length:=by rw[←y.length];simp
 have h:Builtin.Dict_items.ownsTuple "dict_valueiterator"=false:=by decide
 simp only[h,Jx,Jl];refine Qq (WJ ⟨_,rfl, "dict_valueiterator",_,⟨_,WU _ rfl,rfl⟩,F.slot_dict_valueiterator_next.lookup,?_⟩);simpa [rawInt,n]using C
def Zfd{n d:Addr}{i ep:Nat}{f:List (K×Value)}{k:K}{v:Value}{Q:Yh->Shared->Prop}(g:s.heap.IsValIter n d i f.length ep)(L:VDict s.heap d f ep)(hx:f[i]?=some (k,v))(T:∀h',h'.IsValIter n d (i+1) f.length ep->Heap.SameBut n s.heap h'->Q (some v) {s with heap:=h'}) :
  wpAny (model prog w) A (pyNext<|.ref n) Q E s:=by
 obtain⟨o,G,N,C⟩:=id g;obtain⟨U,B,y,M,z,hk,J,Y⟩:=id L;unfold pyNext
 refine WG (JD (Vh (name:=Str.ofString "__next__") g.typeIs Vu
  (QE Vu g.typeIs F.entry_dict_valueiterator_next ?_<|F.args_dict_valueiterator_next_1 _)))
 refine WG (WJ ?_);refine WG ?_;refine WG ?_
 first|refine WG (V0 g.typeIs<|WJ ?_)|refine WG (VJ g.typeIs<|WJ ?_)
 refine WG (Jy G C ?_);have x:Builtin.Dict_items.ownsTuple "dict_valueiterator"=false:=by decide
 simp only[x,Jx,Jl];show wpAny _ _ (if (Value.ref d==Value.none)=true then _ else _) _ _ s;rw[WN (show ¬((Value.ref d==Value.none)=true)from Qe)]
 refine WG (WJ ?_);refine WG (VE y z ?_);have u:B.size=f.length:=by rw[←J.length];simp
 rw[WN (by rw[u];simp)];refine WG (WJ ?_);refine WG (VT y z ?_);rw[WN (by simp)];refine WJ ?_
 have H:i<f.length:=by
  rcases Ui i f.length with h|h
  ·exact h
  ·simp[QS h]at hx
 have p:i<B.size:=by rw[u];exact H
 have r:B[i].val=v:=(J.get? (e:=B[i]) (by simp[p]) hx).2;simp only[show ¬((i:Int)<0)from by omega,Jl,Qx,QR p]
 refine WG ?_
 first|refine WG (V0 g.typeIs<|WJ ?_)|refine WG (VJ g.typeIs<|WJ ?_)
 refine WG (JI g.typeIs ?_);show wpAny _ _ (setField (.ref n) 1 (rawInt ((i:Int)+1)) >>= _) _ _ s;refine WG (Vf G C (by simp) ?_)
 have l:(s.heap.update n<|Obj.mapFields (·.setIfInBounds 1 (rawInt ((i:Int)+1)))).IsValIter n d (i+1) f.length ep:=
  ⟨_,QC _ G (Vo<|QP C _),(J7 ..).trans N,by rw[QP C];simp[rawInt]⟩
 refine WG (QZ ?_);refine WG (JI (s:={s with heap:=s.heap.update n (Obj.mapFields (·.setIfInBounds 1 (rawInt ((i:Int)+1))))}) l.typeIs ?_)
 refine WG (JI (s:={s with heap:=s.heap.update n (Obj.mapFields (·.setIfInBounds 1 (rawInt ((i:Int)+1))))}) l.typeIs ?_)
 show wpAny _ _ (pure B[i].val) _ _ _;exact WJ (WJ ⟨_,rfl,WJ (r▸T _ l (QI ..))⟩)
def Zqe{r d:Addr}{i ep:Nat}{g:List (K×Value)}{Q:Yh->Shared->Prop}(C:A.handled=none)(f:s.heap.IsValIter r d i g.length ep)(B:VDict s.heap d g ep)(hx:g[i]?=none)(H:∀h',Heap.ExtBut r s.heap h'->Q none {s with heap:=h'}):wpAny (model prog w) A (pyNext<|.ref r) Q E s:=by
 obtain⟨o,v,N,x⟩:=id f;obtain⟨J,y,n,G,p,M,z,L⟩:=id B;unfold pyNext
 refine WG (JD (Vh (name:=Str.ofString "__next__") f.typeIs Vu
  (QE Vu f.typeIs F.entry_dict_valueiterator_next ?_<|F.args_dict_valueiterator_next_1 _)))
 refine WG (WJ ?_);refine WG ?_;refine WG ?_
 first|refine WG (V0 f.typeIs<|WJ ?_)|refine WG (VJ f.typeIs<|WJ ?_)
 refine WG (Jy v x ?_);have l:Builtin.Dict_items.ownsTuple "dict_valueiterator"=false:=by decide
 simp only[l,Jx,Jl];show wpAny _ _ (if (Value.ref d==Value.none)=true then _ else _) _ _ s;rw[WN (show ¬((Value.ref d==Value.none)=true)from Qe)]
 refine WG (WJ ?_);refine WG (VE n p ?_);have h:y.size=g.length:=by rw[←z.length];simp
 rw[WN (by rw[h];simp)];refine WG (WJ ?_);refine WG (VT n p ?_);rw[WN (by simp)];refine WJ ?_;have u:y.size<=i:=by rw[h];simpa using hx
 simp only[show ¬((i:Int)<0)from by omega,Jl,Qx,VY u]
 refine WG ?_
 first|refine WG (V0 f.typeIs<|WJ ?_)|refine WG (VJ f.typeIs<|WJ ?_)
 show wpAny _ _ (setField (.ref r) 0 .none >>= _) _ _ s;refine WG (Vf v x (by simp) ?_);show wpAny _ _ (newExc (.type "StopIteration") [] >>= _) _ _ _;refine WG ?_;simp only[newExc,newTuple];refine WG (Qq ?_<|by size_fits);refine WG (m:=firstArgMember _ _) (JZ (a:=Value.none) (by first|rfl|(simp only[firstArgMember];rfl)) ?_)
 refine Qq ?_ (by size_fits);simp only[raiseNew];refine WG (wpAny_handled ?_);rw[show A.in1.handled=none from C]
 refine WG (WJ<|wpAny_throw ?_);refine WG (JF (T:="StopIteration") (b:=true) ⟨_,WU _ rfl,rfl⟩ isSubtype_stop ?_);exact WJ (H _ (((QI ..).extBut.push _).push _))
end
end PySem
namespace Own
open PySem PySem.Spec PyProof.Rows L2
noncomputable def Mw(K:ZV):R2:=λx y H Q=>∃a b xs f,x=.ref a/\y=.ref b/\SqT K H a xs/\SqT K H b f/\xs.length+f.length<=sizeLine/\
 (xs=[]->Q (.ref b) H)/\(xs≠[]->f=[]->Q (.ref a) H)/\(xs≠[]->f≠[]->∀p,H p=none->Q (.ref p) (upd H p<|.tup (xs++f)))
section
variable {X:Cx}{K:ZV}
def FI(hK:autoParam (X.K=K) au_0):OpR X (binaryOp .Add) (Mw K):=by
 subst hK;intro pins s J H x y v u Q I N M h;obtain⟨a,b,xs,L,rfl,rfl,E,C,hz,q0,Y,U⟩:=h;cases N
 cases M
 by_cases hx:xs=[]
 ·obtain⟨r,T,p1,_⟩:=I.tuple E;obtain⟨f,r2,p2,_⟩:=I.tuple C;have e:=T.nil_iff.mpr hx;obtain⟨⟨cls,dd,data,sl⟩,z,B,n,A⟩:=id p1;obtain⟨⟨G,w,data2,p⟩,g,o,n2,l⟩:=id p2;simp only at B A o l;subst B A o l
  exact concat_meets ⟨_,z,rfl⟩ ⟨_,g,rfl⟩ noFill_tuple_add seq_tuple_add J8 J0 (Jt _ _)
   (tuple_addW0 a b r.toArray f.toArray n n2 dd w sl p<|by grind) ⟨z,g,⟨.ref b,H,I,rfl,q0 hx⟩⟩
 ·exact Zud pins s J H (.ref a) (.ref b) _ _ Q I rfl rfl ⟨a,b,xs,L,rfl,rfl,E,C,hx,hz,Y hx,U hx⟩
def Zmx(h:VV [(.ref b,x)] f):∃r,f=[(.ref b,r)]/\RelV x r:=by
 cases h with
 |cons h t=>
  cases t
  rename_i y;obtain⟨u,r⟩:=y;obtain⟨g,l⟩:=h;cases g
  grind
noncomputable def Ib(n l:TE):TE:=λg H Q=>∀p,H p=none->n g (upd H p<|.dT []) λy o=>l g o λx f=>f p=some (.dT [])/\∃b h,y=.ref b/\f b=some (.tup<|h.map kV)/\Q (.ref p) (upd f p<|.dT [(h,x)])
def Zgi{r p pos}(M:X.A.units+1<cLine)(T:PE X k r)(L:PE X v p):PE X (.Dict [some k] [v] pos) (Ib r p):=by
 intro pins s C H Q I q
 refine wpAny_Dict_any rfl rfl (by simp) (by simp) (thn ((Zup T L Zk7) pins _ C _ (λw l=>match w with
  |[(y,x)]=>l s.heap.objs.size=some (.dT [])/\∃b g,y=.ref b/\l b=some (.tup<|g.map kV)/\Q (.ref s.heap.objs.size) (upd l s.heap.objs.size<|.dT [(g,x)])
  |_=>False) (I.laid (t':=s.toks) (λ_ _ q=>WM _ q) (WS _)<|Zch s.heap I.big)<|q _<|I.hok.fresh<|WS s.heap.objs.size) λws s2 ⟨w,l,o,rel,h⟩=>?_)
 split at h
 ·rename_i y x;obtain⟨e,b,g,ey,B,J⟩:=h;subst ey;obtain⟨E,ew,G⟩:=Zmx rel;subst ew;obtain⟨z,U,xs,f,dd⟩:=Az o.hok e;cases f
  unfold storeAll;rw[List.forIn_cons];refine WG (WG (wpAny_dictSet_heap (Nat.lt_of_succ_lt M) (Bq o.hok B) dd λh' n N=>WJ ?_))
  dsimp only
  refine WJ ?_;obtain⟨u,es,ep,hq,h,h3,h4,_,Y⟩:=n;refine⟨.ref s.heap.objs.size,_,FF (ob:=.dT [(g,x)]) o (by rw[e];exact True.intro) N ⟨u,hq⟩ ⟨(by show 1<=sizeLine;decide),U,[(g,b,E)],?_,u,es,ep,hq,h,h3,h4,Y⟩,rfl,J⟩;refine .cons ⟨rfl,?_,G⟩ .nil;rwa[XD (Gc B e (λz=>nomatch z))]
 ·exact h.elim
end
section
variable {prog:Program}{w:World}{A:Around}{K:Type}{d r:Addr}{kvs:List (K×Value)}{ep:Nat}{h h':Heap}
def VDict.at (x:VDict h d kvs ep) (e:∀o,h.get? d=some o->h'.get? d=some o):VDict h' d kvs ep:=let ⟨o,g,f,r⟩:=x;⟨o,g,e _ f,r⟩
def VDict.lt (x:VDict h d kvs ep):d<h.objs.size:=let ⟨_,_,f,_⟩:=x;WX f
def Zim(hh:A.handled=none)(I d:Addr)(hne:d≠I)(kvs:List (K×Value))(ep:Nat) :
  Walks prog w A I [I,d] [I] kvs.length (λi v=>∃k,kvs[i]?=some (k,v)) (λi h=>h.IsValIter I d i kvs.length ep/\VDict h d kvs ep) where
 sub:=λb hb=>by simp at hb;simp[hb]
 frame:=λ_ _ _ st hk=>⟨st.1.at λo e=>hk I (by simp) o e,VDict.at st.2 λo e=>hk d (by simp) o e⟩
 item:=λi s Q E hi st hQ=>by
  refine Zfd (k:=(kvs[i]).1) (v:=(kvs[i]).2) st.1 st.2 (by grind) λh' hit' hs'=>?_;exact hQ _ h' s.toks ⟨(kvs[i]).1,by simp[hi]⟩ ⟨hit',VDict.at st.2 λo e=>hs'.extBut d o hne e⟩ λb o hb e=>hs'.extBut b o (λh=>hb (by grind)) e
 done:=λs Q E st hQ=>Zqe hh st.1 st.2 (by simp) λh' he'=>hQ h' s.toks λb o hb e=>he' b o (λh=>hb (by grind)) e
 self:=λ_ _ _ _ st hQ=>wpAny_pyIter_valiter st.1 hQ
def Zst:PySem.W.KdlSrc prog w "dict_values" r d kvs.length (λi v=>∃k,kvs[i]?=some (k,v)) (λh=>h.IsValuesView r d/\VDict h d kvs ep) where
 type:=λ_ hm=>hm.1.typeIs
 there:=λ_ hm=>⟨let ⟨_,ho,_⟩:=hm.1;WX ho,VDict.lt hm.2⟩
 keep:=λ_ _ hm hk=>⟨let ⟨o,ho,x⟩:=hm.1;⟨o,hk r (.inl rfl) o ho,x⟩,VDict.at hm.2 λo e=>hk d (.inr rfl) o e⟩
 notList:=by decide
 notTuple:=by decide
 hint:=λ_ _ _ _ hm hq=>PySem.W.kdl_hint_values hm.1.typeIs hq
 iter:=λ_ _ hh hm=>⟨_,_,(λ_ _ hq=>Zr4 hm.1 hm.2 hq),Zim hh _ d (Qj<|VDict.lt hm.2) kvs ep,⟨⟨_,WU _ rfl,rfl,rfl⟩,VDict.at hm.2 λo e=>WM _ e⟩⟩
end
noncomputable def F1(v d:Addr):HO:=.ext λh=>h.IsValuesView v d
def Eo:V->List V->Hp->VK->Prop:=λx g H Q=>∃d f,x=.ref d/\g=[]/\H d=some (.dT f)/\∀v,H v=none->Q (.ref v) (upd H v<|F1 v d)
section
variable {X:Cx}
def Zm1:MtR X "dict.values" Eo:=by
 intro pins s y H x xs v A Q I l n h;obtain⟨d,p,rfl,rfl,u,q⟩:=h;cases l
 have g:=n.zero;subst g;obtain⟨z,lo,xs,rel,w⟩:=Az I.hok u;obtain⟨o,E,G,f,hx,_⟩:=id w;refine call_meetsIn PySem.F.slot_dict_values ⟨o,f,hx.1⟩ PySem.F.entry_dict_values (PySem.F.args_dict_values_1 _) (Zlu d lo) ⟨⟨o,f,hx.1⟩,?_⟩;refine⟨.ref s.heap.objs.size,_,I.laid (o:=F1 s.heap.objs.size d) (λ_ _ q=>WM _ q) (WS _) ⟨⟨_,WU _ rfl,rfl,rfl⟩,⟨_,WU _ rfl⟩,λC B ⟨o,f,r⟩ e=>⟨o,e o f,r⟩⟩,rfl,q _ (I.hok.fresh<|WS _)⟩
def Zgz{K}{o}{to}{name:Str}{apos cpos}(h:PE X o to)(n:autoParam (X.K=K) au_0)(l:autoParam (name = "values") au_0)(g:autoParam (attributeBase o name X.env (eval o X.env)=eval o X.env) au_0)(f:autoParam ((apos.endLine==cpos.line)=true) au_0):PE X (.Call (.Attribute o name apos) [] [] cpos) (BO K "dict" Eo to):=by
 subst n l;exact Fj PySem.F.plainAttrs_dict PySem.F.slot_dict_values PySem.F.type_dict_values Zm1 h g f
def Zab:∀{kvs}{xs:List (List Key×Addr×Value)},KT H kvs xs->Vals (kvs.map (·.2)) (xs.map (·.2.2)):=by
 intro g
 induction g with
 |nil=>
  intro _ h;cases h
  exact .nil
 |cons _ _ f=>
  intro _ h;cases h with
  |cons h r=>
   exact .cons h.2.2 (f r)
def Zec(T:X.calm=true):Kx X (.type "list") (λxs H Q=>∃v d f,xs=[.ref v]/\H v=some (F1 v d)/\H d=some (.dT f)/\∀l,H l=none->Q (.ref l) (upd H l<|.lst<|f.map (·.2))):=by
 intro pins s σ H xs us Q I C h;obtain⟨v,d,f,rfl,G,N,q⟩:=h;obtain⟨u,rfl,E⟩:=C.one;obtain rfl:=E;obtain⟨z,lo,xs,rel,dd⟩:=Az I.hok N;obtain⟨o,Y,ep,L,hx,p,A,y,hn⟩:=id dd;have hl:xs.length=f.length:=by simpa using(Zab rel).length.symm
 have B:VDict s.heap d (xs.map λx=>((),x.2.2)) ep:=by
  refine⟨o,Y,L,hx,p,trivial,⟨by rw[A,WH,WH],λ{i e k v} w r=>⟨trivial,?_⟩⟩,trivial⟩;rw[A,WV]at w;rw[WV]at r;cases M:xs[i]? with
  |none=>grind
  |some x=>
   rw[M]at w r;cases w
   cases r
   rfl
 refine PySem.W.kdl_call Zst (I.ok.hd T) ⟨((I.hok v _ G).1),B⟩ (by rw[WH];lia) λh' tk n c' y U g=>?_;refine⟨.ref s.heap.objs.size,upd H s.heap.objs.size (.lst<|f.map (·.2)),?_,rfl,q _ (I.hok.fresh<|WS _)⟩;refine I.laid y (WS _) ⟨by rw[WH];exact z,n.toList,c',?_,by simpa using U⟩;rw[(PySem.W.kdl_vals_eq n.toList (by rw[Q8];exact g.1) λj u J=>g.2 j u (by rw[←J,Va])),Qt];exact Zab rel
end
end Own
namespace Pu
open PySem PySem.Spec PyProof.Rows L2 Own M
section
variable {K:ZV}{mg:ZZ}{E:L2.St->XK}{H0 H H1 H':Hp}{B Z Z':Addr->Prop}{σ:L2.St}{γ:Γ}
noncomputable def Si:Option D->Option (List D)
 |some (.tup f)=>some f|_=>none
def CN(h:Si o=some ds):o=some (.tup ds):=by
 unfold Si at h;split at h
 ·grind
 ·grind
def Zi8:S->S->(S->Prop)->Prop:=λx y R=>∃g f,Si x.shd=some g/\Si y.shd=some f/\g.length+f.length<=100000/\R (.sh<|.tup (g++f))
def Al{a b}(Y:Xx K mg E M a)(U:Xx K mg E L b):Xx K mg E (tOp (Mw K) M L) (p2 a b Zi8):=by
 refine Pv Y U λH0 H H2 Z x y v u R Q s f r J G h q=>?_;obtain⟨ds,es,e1,e2,T,h⟩:=h;have N:=J.shd s r f (CN e1);have w:=G.shd s r f (CN e2);obtain⟨l,C,rfl,h1,o⟩:=Rp.tup_inv N;obtain⟨m,A,rfl,h2,n⟩:=Rp.tup_inv w;refine⟨l,m,C,A,rfl,rfl,SqT.of (off_sub _ _ h1),SqT.of (off_sub _ _ h2),by rw[o.len,n.len];exact WW T (by decide),λe=>?_,λ_ e=>?_,λ_ _ p g=>?_⟩
 ·subst e;cases o
  exact q _ _ _ h (Same.refl _) w
 ·subst e;cases n
  refine q _ _ _ h (Same.refl _) ?_;rw[QA];trivial
 ·refine q _ _ _ h (Kk g) (.tup (Kg XZ λz=>?_)<|Rps.mono (XB (Kk g) λ_ _ _ z=>z)<|o.append n)
  have:=(λb z=>Tn f (r b z)) p z
  rw[g]at this;exact this
noncomputable def pIT(a:PTE):PTI:=λγ R X=>a γ (λs=>∃f,Si s.shd=some f/\R f.length λi=>.sh (f.getD i .non)) X
def NA(M:Xx K mg E te a):SndI K mg E (CV K te) (pIT a):=by
 intro H0 B H σ γ R X Q f h q G;refine M H0 B H σ γ _ X _ f h (λs v H1 o p C=>?_) G;obtain⟨z,N,o⟩:=o;obtain⟨l,g,rfl,n,r⟩:=Rp.tup_inv (C.shd (f.grow p).same f.zm p (CN N));refine⟨l,rfl,⟨g,SqT.of (off_sub _ _ n)⟩,q _ _ _ H1 o p ⟨λi H' Z' J lt=>?_,λH' Z' lt=>?_⟩⟩
 ·have L:z[i]?=some (z.getD i .non):=by rw[WK,WI J];rfl
  obtain⟨u,w,A⟩:=r.get L;have k:=off_sub _ _ (lt.off _ _ n);refine⟨⟨g,u,SqT.of k,w⟩,λx T y=>?_⟩;obtain⟨rfl,y⟩:=y
  have:=y g (SqT.of k)
  rw[w]at this;cases this
  exact⟨Same.refl _,Rp.mono lt.off A⟩
 ·exact⟨g,SqT.of (off_sub _ _<|lt.off _ _ n),by rw[r.len];exact WS _⟩
noncomputable def T1:List (List Key×V)->Bool
 |[]=>true
 |p::r=>SK p.2&&T1 r
theorem Za0:∀{f:List (List Key×V)},T1 f=true->Rps K H (f.map λp=>vD p.2) (f.map (·.2))
 |[],_=>.nil
 |p::r,h=>by
  unfold T1 at h;rw[Qz]at h;exact .cons (Fs h.1) (Za0 h.2)
def Zjh:List V->Hp->VK->Prop:=λxs H Q=>∃(v d:Addr) (f:List (List Key×V)),xs=[.ref v]/\H v=some (F1 v d)/\H d=some (.dT f)/\∀l,H l=none->Q (.ref l) (upd H l<|.lst<|f.map (·.2))
noncomputable def Zsc(a:PTE):PTE:=λγ R X=>a γ (λs=>∃f,s.d=.dT f/\T1 f=true/\R (.own<|.lst (f.map λp=>vD p.2))) X
def Zp7(C:Xx K mg E te a):Xx K mg E (tCB Zjh<|KF (BO K "dict" Eo te) P7) (Zsc a):=by
 intro H0 B H σ γ R X Q g h q z;refine C H0 B H σ γ _ X _ g h (λs v H1 J o y=>?_) z;obtain⟨f,e,A,G⟩:=J;have r:=y.rp (g.grow o).same;rw[e]at r;obtain⟨l,rfl,n⟩:=r.dT_inv;refine⟨.inr (.inr<|.inl ⟨rfl,.inr ⟨f,n⟩⟩),l,f,rfl,rfl,n,λp u=>?_⟩;refine⟨p,l,f,rfl,XZ,by rw[XD (Ky n u)];exact n,λm w=>?_⟩;have x:Same H1 (upd H1 p<|F1 p l):=Kk u;exact q _ _ _ G ((o.trans x).trans (Kk w)) ⟨m,rfl,(λ_ e=>e▸(o.trans x).free w),_,XZ,Za0 A⟩
noncomputable def Znt(a b:PTE):PTE:=λγ R X=>a γ (λy=>b γ (λx=>∃f u,N8 y.d=some f/\A6 x.d=some u/\R (.own<|.dT [(f,u)])) X) X
def Zna{a b}(ha:Xx K mg E L a)(hb:Xx K mg E J b):Xx K mg E (Ib L J) (Znt a b):=by
 intro H0 B H σ γ R X Q A h q G p s;have r:Same H (upd H p<|.dT []):=Kk s;have env0:=A.grow r;refine ha H0 B _ σ γ _ X _ env0 h (λy v H1 h1 n N=>?_) λc H' g C=>G c H' g (r.trans C);have f:=env0.grow n;refine hb H0 B H1 σ γ _ X _ f h1 (λx w H2 h2 l M=>?_) λc H' g C=>G c H' g ((r.trans n).trans C);obtain⟨T,u,k1,Y,U⟩:=h2;have eu:=Dj (M.rp (f.grow l).same) Y;obtain⟨b',rfl,z⟩:=Se (Rp.mono l<|N.rp f.same) k1;subst eu;refine⟨l _ _ (n _ _ XZ),b',T,rfl,z,q _ _ _ U (λc o g=>?_) ⟨p,rfl,(λ_ e=>e▸s),XZ⟩⟩
 have:c≠p:=λe=>by subst e;rw[s]at g;cases g
 rw[XD this];exact l _ _ (n _ _<|r _ _ g)
end
section
variable {X:Cx}{K:ZV}
def NT{g l f}(h:PE X l f)(n:autoParam (X.K=K) au_0):PI X g l (CV K f):=by subst n;exact Zdp h
end
end Pu
namespace M
open PySem PySem.Spec PyProof.Rows L2 Own Pu
noncomputable def tD(f:ZX):D:=.tup (f.map D.int)
noncomputable def kT(f:ZX):List Key:=f.map Sum.inl
def DN(f:ZX):arg (tD f)=.sh (tD f):=by
 unfold arg tD imm;rw[N3]
def Sw:PY N (tD f::ds)=some (.sh<|tD f)::(ds.map (λd=>some (arg d))++List.replicate (N.length-(ds.length+1)) none):=by
 unfold PY;rw[Qa,DN];rfl
def Nr(f:ZX):N8 (tD f)=some (kT f):=by
 show SU (f.map D.int)=some (f.map Sum.inl)
 induction f with
 |nil=>rfl
 |cons m r g=>
  rw[Qa,Qa];unfold SU;rw[g];rfl
def Zuc(f:ZX):Si (some<|tD f)=some (f.map D.int):=rfl
def Zrw(f:ZX):imm (tD f)=true:=N3 f
noncomputable def XG(f:ZX)(h:Int):ZX:=f.filter λm=>decide (m≠h)
noncomputable def Nx(f:ZW)(g:ZX)(h:Int):Bool:=!(f.any λq=>decide (q.1=h)&&decide (q.2∈g))
noncomputable def firstM(f:ZW)(g:ZX)(h:Int):Bool:=!(f.any λq=>decide (q.2=h)&&decide (q.1∈g))
noncomputable def XY(f:ZX):List (ZX):=f.foldl (λS h=>S++S.map (·++[h])) [[]]
def Sb(f:ZX)(h:Int):XY (f++[h])=XY f++(XY f).map (·++[h]):=by
 unfold XY;simp
def TN{P:ZX->Prop}(n:P [])(g:∀r h,P r->P (r++[h]))(l:ZX):P l:=by
 have f:∀r:ZX,P r.reverse:=λr=>by
  induction r with
  |_=>grind
 rw[←List.reverse_reverse l]
 grind
def HI(f:ZX):(XY f).length=2 ^ f.length:=by
 refine TN (P:=λf=>(XY f).length=2 ^ f.length) rfl (λr h g=>?_) f;rw[Sb,WT,WH,g,WT,QT,Nat.pow_succ];lia
def By(g:ZX):∀f∈XY g,f.Sublist g:=by
 refine TN (P:=λg=>∀f∈XY g,f.Sublist g) (λf h=>?_) (λr h l f hm=>?_) g
 ·have:f=[]:=by simpa [XY]using h
  grind
 ·rw[Sb,Qm]at hm;rcases hm with hm|hm
  ·grind
  ·grind
noncomputable def oc(c:Int->Int->Int):ZX->Int
 |[]=>0
 |a::r=>(r.map<|c a).sum+oc c r
def Keeps(f:ZW)(o:ZX):Prop:=o.Pairwise λa b=>(b,a)∉f
structure P9 (ws:ZW) (c:Int->Int->Int) (ms:ZX) (v:Int):Prop where
 is:∃o:ZX,o.Perm ms/\Keeps ws o/\oc c o=v
 le:∀o:ZX,o.Perm ms->Keeps ws o->v<=oc c o
theorem FP(c:Int->Int->Int)(l:Int):∀o,oc c (o++[l])=oc c o+(o.map (c · l)).sum
 |[]=>by simp[oc]
 |a::r=>by
  rw[Vb];unfold oc;rw[FP c l r]
  grind
def NU{f:Int->Int}{xs ys:ZX}(h:xs.Perm ys):(xs.map f).sum=(ys.map f).sum:=by
 induction h with
 |nil=>rfl
 |trans _ _ l g=>lia
 |_=>grind
def Nm{f:ZX}{h}(g:f.Nodup)(l:h∈f):f.Perm (h::XG f h):=by
 have e:XG f h=f.erase h:=by
  unfold XG;rw[g.erase_eq_filter]
  grind
 grind
def less_sub:(XG f h).Sublist f:=JW
def lastM_iff:Nx f g h=true↔∀b∈g,(h,b)∉f:=by
 unfold Nx;constructor
 ·grind
 ·grind
def firstM_iff:firstM f g h=true↔∀b∈g,(b,h)∉f:=by
 unfold firstM;constructor
 ·grind
 ·grind
def Zro{ms}{vs:Int->Int}{M}(s:ms.Nodup)(hw:∀q∈h,q.1≠q.2)(w:∀l∈ms,P9 h c (XG ms l) (vs l))(E:∃l∈ms,Nx h ms l=true/\M=vs l+((XG ms l).map (c · l)).sum)(C:∀l∈ms,Nx h ms l=true->M<=vs l+((XG ms l).map (c · l)).sum):P9 h c ms M:=by
 constructor
 ·obtain⟨l,g,f,e⟩:=E;obtain⟨o,o1,n,x⟩:=(w l g).is;refine⟨o++[l],?_,?_,?_⟩
  ·exact(List.perm_append_singleton l o).trans (((List.Perm.cons l o1)).trans (Nm s g).symm)
  ·refine QY.mpr ⟨n,Vi _ _,λa B b v=>?_⟩;rw[WR.mp v];exact lastM_iff.mp f a (less_sub.subset<|o1.mem_iff.mp B)
  ·rw[FP,x,e,NU o1]
 ·intro o o1 n;rcases QD o with rfl|⟨p,l,rfl⟩
  ·grind
  ·rw[QU]at o1 n ⊢;have g:l∈ms:=o1.mem_iff.mp (by simp);obtain⟨A,_,y⟩:=QY.mp n
   have r:p.Perm (XG ms l):=by
    have:=((List.perm_append_singleton l p).symm.trans o1).trans (Nm s g)
    exact this.cons_inv
   have f:=lastM_iff.mpr λb v=>by
    rcases WZ.mp ((Nm s g).mem_iff.mp v)with e|u
    ·subst e;exact λz=>hw _ z rfl
    ·exact y b (r.mem_iff.mpr u) l (WR.mpr rfl)
   have a1:=C l g f;have a2:=(w l g).le p r A;rw[FP,NU r];lia
def IH(a b:ZX)(l:Int):XG (a++b) l=XG a l++XG b l:=List.filter_append ..
def On(h:l∉a):XG a l=a:=List.filter_eq_self.mpr λm f=>WL λe=>h (e▸f)
def Zgd(f:ZX):∃T,XY f=[]::T:=by
 refine TN (P:=λf=>∃T,XY f=[]::T) ⟨[],rfl⟩ (λr h ⟨T,e⟩=>?_) f;rw[Sb,e]
 grind
def Re(f:ZX):(XY f).getLast?=some f:=by
 refine TN (P:=λf=>(XY f).getLast?=some f) rfl (λr h e=>?_) f;rw[Sb,List.getLast?_append,List.getLast?_map,e];rfl
def O2:f.Nodup->(XY f).Nodup:=by
 refine TN (P:=λf=>f.Nodup->(XY f).Nodup) (λ_=>by simp[XY]) (λr h n o=>?_) f;obtain⟨l,_,p⟩:=QK.mp o;rw[Sb];refine QK.mpr ⟨n l,?_,λa u b s e=>?_⟩
 ·exact List.Pairwise.map _ (λa b g e=>g (List.append_cancel_right e)) (n l)
 ·obtain⟨c,v,rfl⟩:=Qf.mp s;subst e;exact p h ((By r _ u).subset (by simp)) h (by simp) rfl
def Lu:g.Nodup->∀k f,(XY g)[k]?=some f->∀l∈f,∃j:Nat,j<k/\(XY g)[j]?=some (XG f l):=by
 refine TN (P:=λg=>g.Nodup->∀k f,(XY g)[k]?=some f->∀l∈f,∃j,j<k/\(XY g)[j]?=some (XG f l)) (λ_ k f e l s=>?_) (λr h y A k f e l s=>?_) g
 ·have:f=[]:=by
   have:=Qk e
   simpa [XY]using this
  subst this;cases s
 ·obtain⟨x,_,B⟩:=QK.mp A;rw[Sb]at e ⊢;by_cases C:k<(XY r).length
  ·rw[Qv C]at e;obtain⟨j,o,p⟩:=y x k f e l s;exact⟨j,o,by rw[Qv (by lia)];exact p⟩
  ·rw[Qr (by lia),WV]at e;cases q:(XY r)[k-(XY r).length]? with
   |none=>rw[q]at e;cases e
   |some n=>
    rw[q]at e;cases e
    have E:=λz=>B h ((By r n<|Qk q).subset z) h (by simp) rfl;by_cases v:l=h
    ·subst v
     have w:XG (n++[l]) l=n:=by
      rw[IH,On E];simp[XG]
     obtain⟨j,o,p⟩:=Q0.mp (Qk q);refine⟨j,by lia,?_⟩;rw[Qv o,w,WI o,p]
    ·have u:l∈n:=by
      rcases Qm.mp s with z|z
      ·exact z
      ·exact absurd (WR.mp z) v
     have w:XG (n++[h]) l=XG n l++[h]:=by
      rw[IH];congr 1;exact On λz=>v (WR.mp z)
     obtain⟨j,o,p⟩:=y x _ n q l u;refine⟨(XY r).length+j,by lia,?_⟩;rw[Qr (by lia),WV,Nat.add_sub_cancel_left,p,w];rfl
def Bh(h:kT a=kT b):a=b:=List.map_inj_right (λ_ _=>Sum.inl.inj) |>.mp h
def Rm(h:ZX)(g:ZW):Prop:=∀f:ZX,f.Sublist h->f≠[]->∃l∈f,∀b∈f,(l,b)∉g
structure Tab (ws:ZW) (c:Int->Int->Int) (S:List (ZX)) (kvs:List (List Key×V)):Prop where
 keys:kvs.map (·.1)=S.map kT
 val:∀ms∈S,∃v,XA kvs (kT ms)=some (.int v)/\P9 ws c ms v
def Zum(f:ZW)(c:Int->Int->Int):Tab f c [[]] [([],.int 0)]:=by
 refine⟨rfl,λl h=>?_⟩;rw[WR.mp h];refine⟨0,rfl,⟨[],.refl _,.nil,rfl⟩,λo g _=>?_⟩;rw[g.eq_nil];exact J9 _
def Tab.put {S f h v} (T:Tab l c S f) (s:h∉S) (L:P9 l c h v):Tab l c (S++[h]) (putK f (kT h)<|.int v):=by
 have p:XA f (kT h)=none:=by
  cases e:XA f (kT h)with
  |none=>rfl
  |some u=>
   unfold XA at e;cases q:f.find? (λr=>decide (r.1=kT h))with
   |none=>rw[q]at e;cases e
   |some x=>
    have w:=List.find?_some q;have o:x.1∈f.map (·.1):=Qf.mpr ⟨x,(List.mem_of_find?_eq_some q),rfl⟩;rw[T.keys,WO w]at o;obtain⟨n,g,y⟩:=Qf.mp o;rw[Bh y]at g;exact absurd g s
 constructor
 ·rw[Lv _ p,WY,WY,T.keys];rfl
 ·intro n g;rw[BS];by_cases e:n=h
  ·grind
  ·rw[WN λz=>e (Bh z)];rcases Qm.mp g with z|z
   ·exact T.val n z
   ·exact absurd (WR.mp z) e
open Classical in
def RG{n:ZX}{P:Int->Int->Prop}(h:∀l∈n,∃v,P l v):∃f:Int->Int,∀l∈n,P l (f l):=
 ⟨λl=>if g:l∈n then Classical.choose (h l g)else 0,λl g=>by
  simp only[dif_pos g];exact Classical.choose_spec (h l g)⟩
def Zin{r}(R:Ring o (l.map λq=>(q.2,q.1)) r):Ring o l r.reverse:=by
 have n:∀{x y:Int},(x,y)∈(l.map λq=>(q.2,q.1))->(y,x)∈l:=λh=>by
  obtain⟨q,hq,e⟩:=Qf.mp h;cases e
  exact hq
 refine⟨by rw[JX];exact R.two,List.pairwise_reverse.mpr (R.nodup.imp λh=>Ne.symm h),λx hx=>R.sub x (List.mem_reverse.mp hx),λi x y g f=>?_,λx y g f=>?_⟩
 ·have p:i+1<r.length:=by
   have:=(Qu.mp f).1
   rw[JX]at this;exact this
  rw[JJ (by lia)]at g f;exact n (R.chain (r.length-1-(i+1)) y x f<|by rw[←g];congr 1;lia)
 ·have two:=R.two;rw[JJ (by lia)]at g;rw[JX,JJ (by lia)]at f;exact n (R.last y x (by rw[←f];congr 1;lia)<|by rw[←g];congr 1)
def Iz{ws}(l:∀q∈ws,q.1≠q.2)(h:¬ ∃r,Ring n ws r):Rm n ws:=λg s f=>by
 refine Qp λz=>h ?_
 have u:∀x∈g,∃y∈g,(y,x)∈(ws.map λq=>(q.2,q.1)):=λx hx=>by
  grind
 obtain⟨r,R⟩:=HW (λq hq=>by
  obtain⟨p,o,e⟩:=Qf.mp hq;subst e;exact λe=>l p o e.symm) f u
 have F:=Zin R;exact⟨_,F.two,F.nodup,λx hx=>s.subset (F.sub x hx),F.chain,F.last⟩
theorem Cb:∀{f:List (List Key×V)},(f.map (·.1)).Nodup->∀p∈f,XA f p.1=some p.2
 |[],_,p,h=>by cases h
 |q::r,g,p,h=>by
  rw[Qa,Q3]at g;rcases WZ.mp h with e|h
  ·rw[e];exact Tq rfl
  ·rw[To λe=>g.1 (Qf.mpr ⟨p,h,e.symm⟩)];exact Cb g.2 p h
def IE(g:ZW)(c:Int->Int->Int)(S:List (ZX))(vs:ZX):Prop:=vs.length=S.length/\∀(i:Nat) (f:ZX) (v:Int),S[i]?=some f->vs[i]?=some v->P9 g c f v
def Tab.vals {S f} (T:Tab s c S f) (z:S.Nodup):∃vs,f.map (·.2)=vs.map V.int/\IE s c S vs:=by
 have y:(f.map (·.1)).Nodup:=by
  rw[T.keys];exact List.Pairwise.map _ (λa b r e=>r (Bh e)) z
 have x:∀p∈f,∃g∈S,p.1=kT g/\∃v,p.2=.int v/\P9 s c g v:=λp l=>by
  have o:p.1∈f.map (·.1):=Qf.mpr ⟨p,l,rfl⟩;rw[T.keys]at o;obtain⟨g,w,e⟩:=Qf.mp o;obtain⟨v,h,n⟩:=T.val g w;rw[e,Cb y p l]at h;exact⟨g,w,e.symm,v,Qb h,n⟩
 have C:f.length=S.length:=by
  have:=QB List.length T.keys
  rw[WH,WH]at this;exact this
 refine⟨f.map λp=>match p.2 with | .int v=>v|_=>0,?_,by rw[WH,C],λi g v o h=>?_⟩
 ·rw[Qt];refine V6 λp l=>?_;obtain⟨g,_,_,v,e,_⟩:=x p l;show p.2=V.int (match p.2 with | .int v=>v|_=>0)
  rw[e]
 ·rw[WV]at h;cases q:f[i]? with
  |none=>rw[q]at h;cases h
  |some p=>
   obtain⟨A,B,E,u,H,L⟩:=x p (Qk q);have n:(f.map (·.1))[i]?=some p.1:=by rw[WV,q];rfl
   rw[T.keys,WV,o]at n;have G:=Bh ((Qb n).trans E);simp_all
theorem Hj:∀{kvs}{vs:ZX},kvs.map (·.2)=vs.map V.int->T1 kvs=true/\kvs.map (λp=>vD p.2)=vs.map D.int
 |[],[],_=>⟨rfl,rfl⟩
 |p::r,v::vs,h=>by
  rw[Qa,Qa,JT]at h;obtain⟨g,f⟩:=Hj h.2;unfold T1;rw[g,Qa,Qa,f,h.1];trivial
structure N2 (ws:ZW) (c:Int->Int->Int) (ms o:ZX):Prop where
 perm:o.Perm ms
 keeps:Keeps ws o
 le:∀p:ZX,p.Perm ms->Keeps ws p->oc c o<=oc c p
 first:∀p:ZX,p.Perm ms->Keeps ws p->oc c p=oc c o->o=p\/sl o p
def Zmd(g:ZW)(c:Int->Int->Int):N2 g c [] []:=by
 refine⟨.refl _,.nil,λp f _=>?_,λp f _ _=>.inl f.eq_nil.symm⟩;simp_all
def Lw{ms}{vs:Int->Int}{V g}{p}(r:ms.Nodup)(A:∀q∈n,q.1≠q.2)(v:∀l∈ms,P9 n c (XG ms l) (vs l))(G:P9 n c ms V)(w:(g::p).Perm ms)(B:Keeps n (g::p))(e:oc c (g::p)=V):g∈ms/\firstM n ms g=true/\vs g+((XG ms g).map (c g)).sum=V/\p.Perm (XG ms g)/\oc c p=vs g:=by
 have h:=w.mem_iff.mp (Q9 ..);have u:=(w.trans<|Nm r h).cons_inv;obtain⟨M,y⟩:=QO.mp B
 have C:=firstM_iff.mpr λb s=>by
  rcases WZ.mp ((Nm r h).mem_iff.mp s)with e|E
  ·subst e;exact λz=>A _ z rfl
  ·grind
 have a1:=(v g h).le p u y;obtain⟨o,o1,x,L⟩:=(v g h).is;have a2:=G.le (g::o) ((List.Perm.cons g o1).trans (Nm r h).symm) (QO.mpr ⟨λb s=>firstM_iff.mp C b (less_sub.subset<|o1.mem_iff.mp s),x⟩);have Q:oc c (g::p)=(p.map<|c g).sum+oc c p:=rfl;have N:oc c (g::o)=(o.map<|c g).sum+oc c o:=rfl;have J:=NU (f:=c g) u;have H:=NU (f:=c g) o1
 grind
def Zgh{h o}{vs:Int->Int}{V f}(w:h.Nodup)(H:∀q∈n,q.1≠q.2)(s:∀l∈h,P9 n c (XG h l) (vs l))(x:P9 n c h V)(u:f∈h)(N:firstM n h f=true)(U:vs f+((XG h f).map (c f)).sum=V)(M:∀g∈h,firstM n h g=true->vs g+((XG h g).map (c g)).sum=V->f<=g)(B:N2 n c (XG h f) o):N2 n c h (f::o):=by
 have Q:oc c o=vs f:=by
  obtain⟨p,r,p2,v⟩:=(s f u).is
  have:=(s f u).le o B.perm B.keeps
  have:=B.le p r p2
  lia
 have Y:=NU (f:=c f) B.perm
 have e:oc c (f::o)=V:=by
  show(o.map<|c f).sum+oc c o=V;lia
 refine⟨(List.Perm.cons f B.perm).trans (Nm w u).symm,QO.mpr ⟨λb L=>firstM_iff.mp N b (less_sub.subset<|B.perm.mem_iff.mp L),B.keeps⟩,λp r p2=>?_,λp r p2 v=>?_⟩
 ·rw[e];exact x.le p r p2
 ·cases p with
  |nil=>grind
  |cons g p=>
   obtain⟨G,E,C,A,y⟩:=Lw w H s x r p2 (v.trans e);have J:=M g G E C;by_cases T:f=g
   ·subst T;rcases B.first p A (QO.mp p2).2 (y.trans Q.symm)with z|z
    ·exact .inl (by rw[z])
    ·exact .inr (sl_cons.mpr z)
   ·exact .inr (.inl<|by lia)
end M
namespace Own
open PySem PySem.Spec PyProof.Rows L2 PySem.SeqAt PySem.MeetsSeq PySem.MeetsSeq2 PySem.MeetsSeq3 PySem.SeqRoads2
open AutoSeq1 (wpAny_loadPart')
noncomputable def leF(e c:Nat->Bool):Nat->Nat->Bool
 | 0,_=>true
 |k+1,i=>if e i=true then leF e c k (i+1)else c i
end Own
namespace Pu
open PySem PySem.Spec PyProof.Rows L2 Own
section
variable {K:ZV}{mg:ZZ}{E:L2.St->XK}{H0 H H1 H':Hp}{B Z Z':Addr->Prop}{σ:L2.St}{γ:Γ}
def O.from:O->O->Prop
 | .ins x _ _ h,.ins f _ _ g=>f=x/\∀c∈h,∃l∈g,l.1=c.1
 | .lsA x _,.lsA f _=>f=x
 |_,_=>False
def O.from_adr {o o':O}{a} (h:o.from o'):∀b,o.adr a b->o'.adr a b:=by
 unfold O.from at h
 split at h
 ·intro b f;rcases f with f|⟨c,n,f⟩
  ·exact .inl (f.trans h.1.symm)
  ·obtain⟨p,l,g⟩:=h.2 c n;exact .inr ⟨p,l,f.trans g.symm⟩
 ·intro b f;exact f.trans h.symm
 ·grind
def O.from_at {a l}{F n H H'} (h:o.from o') (g:OR K F H a o) (f:OR K n H' l o'):l=a:=by
 unfold O.from at h
 split at h
 ·exact f.1.trans (h.1.trans g.1.symm)
 ·exact f.1.trans (h.trans g.1.symm)
 ·grind
abbrev Pw:=O->List S->(O->D->Prop)->(O->Str->Prop)->Prop
noncomputable def S.pass:S->Option S
 | .sh d=>some (.sh d) | .own o=>some (.sh o.d)
 | .bor d=>match imm d with|true=>some (.sh d)|false=>some (.bor d)
 | .tmp d=>match imm d with|true=>some (.sh d)|false=>none
 | .view _=>none
def S.flat:S->Prop
 | .sh _=>True | .bor _=>True|_=>False
noncomputable def passes:List S->Option (List S)
 |[]=>some []
 |s::r=>match s.pass,passes r with|some f,some g=>some (f::g)|_,_=>none
structure After (K:ZV) (B:Addr->Prop) (H:Hp) (a:Addr) (o o':O) (H':Hp):Prop where
 same:Same (off (o.adr a) H) H'
 old:∀b,o.adr a b->o'.adr a b
 new:∀b,o'.adr a b->o.adr a b\/H b=none
 at_:OR K (off (λb=>B b\/o'.adr a b) H') H' a o'
noncomputable def spW(mg:ZZ)(c:Pw)(K:ZV):Sp:=λl H Q E=>∃(o:O) (a:Addr) (g:List S) (h:List V) (B:Addr->Prop) (R:O->D->Prop) (X:O->Str->Prop),
 l=.ref a::h/\(∀b,B b->Mut (H b)/\¬o.adr a b)/\OR K (off (λb=>B b\/o.adr a b) H) H a o/\TVs K (λb=>B b\/o.adr a b) (off (o.adr a) H) H H g h/\(∀s∈g,s.flat)/\c o g R X/\
 (∀f d v H',R f d->After K B H a o f H'->Rp K (off (λb=>B b\/f.adr a b) H') d v->Q v H')/\∀f e H',X f e->After K B H a o f H'->XE mg E e H'
def TVs.get:∀{f vs}{i:Nat}{s:S},TVs K Z H0 H H' f vs->f[i]?=some s->∃v,vs[i]?=some v/\TV K Z H0 H H' s v:=by
 intro o
 induction o with
 |nil=>
  intro _ i _ h e;simp at e
 |cons _ _ g=>
  intro _ i d h e;cases h with
  |cons h r=>
   cases i with
   |zero=>
    simp at e;subst e;exact⟨_,rfl,h⟩
   |succ i=>
    obtain⟨v,n,l⟩:=g r (by simpa using e);exact⟨v,by simpa using n,l⟩
noncomputable def NL(N:Ye)(o:O)(f:List S):Γ:=some (.own o)::(f.map some++List.replicate (N.length-(f.length+1)) none)
def Zht{o a f us}(T:∀b,B b->Mut (H b)/\¬o.adr a b)(M:OR K (off (λb=>B b\/o.adr a b) H) H a o)(r:TVs K (λb=>B b\/o.adr a b) (off (o.adr a) H) H H f us)(L:∀s∈f,s.flat)(hn:f.length+1<=N.length) :
  X4 K (off (o.adr a) H) B H (start N (.ref a::us)) (NL N o f):=by
 have get:∀i s,(NL N o f)[i+1]?=some (some s)->f[i]?=some s:=λi s h=>by
  unfold NL at h;rw[QL]at h;by_cases p:i<f.length
  ·rw[Qv (by rw[WH];exact p),WV,WI p]at h;rw[WI p];exact QB some (Qb<|Qb h)
  ·rw[Qr (by rw[WH];lia),V2]at h;split at h<;>cases h
 have noown:∀i g,(NL N o f)[i+1]?≠some (some<|.own g):=λi g h=>L _ (Qk<|get i _ h)
 have n:(start N (V.ref a::us))[0]?=some (some<|.ref a):=by
  unfold L2.start;rfl
 have C:∀b,zof B (NL N o f) (start N (V.ref a::us)) b->B b\/o.adr a b:=λb z=>by
  rcases z with z|⟨i,g,a',l,u,U⟩
  ·exact .inl z
  ·cases i with
   |zero=>
    cases u
    have:o=g:=by
     cases l
     rfl
    subst this;exact .inr U
   |succ i=>exact absurd l (noown i g)
 refine⟨off_sub,?_,λb h=>(T b h).1,λi j x Y g w b l u _ _ _ _=>?_,λi s h=>?_⟩
 ·unfold L2.start NL;simp[r.len]
 ·cases i with
  |succ i=>exact absurd l (noown i g)
  |zero=>
   cases j with
   |zero=>rfl
   |succ j=>exact absurd u (noown j w)
 ·cases i with
  |zero=>
   have h:=h;cases h
   refine⟨_,n,a,rfl,λb Q=>?_,M.mono (XB (Same.refl _) λb _ _ z y=>z (C b y)) λ_ _ _ q=>q⟩;unfold off;rw[WQ Q]
  |succ i=>
   have J:=get i s h;obtain⟨v,G,A⟩:=r.get J;refine⟨v,?_,?_⟩
   ·unfold L2.start;rw[Qv (by rw[WH,Qi];have:=(Qu.mp G).1;lia),WV,QL,G];rfl
   ·have:=L s (Qk J)
    cases s with
    |bor d=>exact A
    |sh d=>exact Rp.mono (XB (Same.refl _) λb _ _ z y=>z (C b y)) A
    |_=>exact this.elim
def O4(o:O)(R:O->D->Prop)(γ:Γ)(d:D):Prop:=∃f,γ[0]?=some (some<|.own f)/\o.from f/\R f d
def Zom(o:O)(X:O->Str->Prop)(γ:Γ)(e:Str):Prop:=∃f,γ[0]?=some (some<|.own f)/\o.from f/\X f e
noncomputable def RN(o:O)(R:O->D->Prop)(X:O->Str->Prop):NK:={nx:=λγ=>O4 o R γ .non,rt:=λ_=>False,ex:=Zom o X,rv:=O4 o R}
def DS{σ'}{γ'}(n:OR K (off (λb=>B b\/o.adr a b) H) H a o)(e:X4 K (off (o.adr a) H) B H' σ' γ')(h:γ'[0]?=some (some<|.own o'))(k:o.from o'):After K B H a o o' H'/\∀b,B b\/o'.adr a b->zof B γ' σ' b:=by
 obtain⟨v,s,f,rfl,r,l⟩:=e.slot 0 _ h;have u:=O.from_at k n l;subst u;have g:∀b,B b\/o'.adr f b->zof B γ' σ' b:=λb z=>z.imp id λz=>⟨0,o',f,h,s,z⟩;refine⟨⟨e.same,O.from_adr k,λb p=>?_,l.mono (XB (Same.refl _) λb _ _ z y=>z (g b y)) λ_ _ _ q=>q⟩,g⟩
 have:=r b p
 unfold off at this;by_cases q:o.adr f b
 ·exact .inl q
 ·grind
def Zld{t p vs Q Y n}(h:spW mg c K vs H Q Y)(L:XF K mg (λ_=>Y) t p)(hn:n+1<=N.length)(M:∀o u R X,c o u R X->u.length=n/\p (RN o R X) (NL N o u)):t {nx:=λ_ H'=>Q .non H',rt:=Q} (start N vs) H:=by
 obtain⟨o,a,u,us,B,R,X,rfl,U,J,r,hf,hc,T,hX⟩:=h;obtain⟨e,M⟩:=M o u R X hc;refine L _ B H _ _ _ _ (λb z=>?_) (Zht U J r hf<|by rw[e];exact hn) M ⟨λl s H' C G f1=>?_,λ_ _ _ z=>z.elim,λl s c H' C G f1=>?_,λ_ _ _ z=>z.elim,λ_ _ _ z=>z.elim,λl s d v H' C G f1 rd=>?_⟩
 ·obtain⟨g,f⟩:=U b z;obtain⟨x,hx⟩:=Np g;exact⟨x,Kg hx f⟩
 ·obtain⟨A,g,f,w⟩:=C;exact T A .non .non H' w (DS J G g f).1 .non
 ·obtain⟨A,g,f,w⟩:=C;exact hX A c H' w (DS J G g f).1
 ·obtain⟨A,g,f,w⟩:=C;obtain⟨k1,k2⟩:=DS J G g f;exact T A d v H' w k1 (Rp.mono (XB (Same.refl _) λb _ _ z y=>z (k2 b y)) rd)
def Zhi(h:spW mg c K vs H Q s)(g:∀o f R X,c o f R X->f.length=n):vs.length=n+1:=by
 obtain⟨o,a,f,p,B,R,X,rfl,_,_,r,_,l,_⟩:=h;rw[Qi,r.len,g o f R X l]
abbrev PTW:=Γ->(Γ->D->Prop)->(Γ->Str->Prop)->Prop
def Tp(K:ZV)(mg:ZZ)(E:L2.St->XK)(t:TE)(p:PTW):Prop:=∀(H0:Hp) (B:Addr->Prop) (H:Hp) (σ:L2.St) (γ:Γ) (R:Γ->D->Prop) (X:Γ->Str->Prop) (Q:VK),(∀b,B b->∃o,H0 b=some o)->X4 K H0 B H σ γ->p γ R X->
 (∀f d v H',R f d->X4 K H0 B H' σ f->Fr B H σ γ H' σ f->Rp K (off (zof B f σ) H') d v->Q v H')->(∀f c H',X f c->X4 K H0 B H' σ f->Fr B H σ γ H' σ f->XE mg (E σ) c H')->t σ H Q
variable {te:TE}{w:PTW}
noncomputable def Zqp(w:PTW)(g:PTG):PTS:=λR γ=>w γ (λf d=>g (.sh d) f R.nx) R.ex
def Zty(hw:Tp K mg E te w)(s:N5 K M g r):XF K mg E (Sn te g) (Zqp w r):=by
 intro H0 B H σ γ R D x o h e;refine hw H0 B H σ γ _ _ _ x o h (λf d v H1 z J f1 p=>?_) λf c H' u L C=>e.ex σ f c H' u L C;exact s H0 B H1 H1 σ f (.sh d) v _ _ J (Same.refl _) p z λl n y G A _=>e.nx l n H1 y G (f1.trans A)
noncomputable def Zdr(w:PTW):PTS:=λR γ=>w γ (λf _=>R.nx f) R.ex
def S9(hw:Tp K mg E te w):XF K mg E (Ay te) (Zdr w):=by
 intro H0 B H σ γ R D n g h e;exact hw H0 B H σ γ _ _ _ n g h (λf d v H1 o r f1 _=>e.nx σ f H1 o r f1) λf c H' l s p=>e.ex σ f c H' l s p
noncomputable def Zr7(w:PTW):PTS:=λR γ=>w γ R.rv R.ex
def T6(hw:Tp K mg E te w):XF K mg E (SA te) (Zr7 w):=by
 intro H0 B H σ γ R D o g h e;exact hw H0 B H σ γ _ _ _ o g h (λf d v H1 p s f1 l=>e.rv σ f d v H1 p s f1 l) λf c H' n u r=>e.ex σ f c H' n u r
noncomputable def Zp8(a:PTE):PTS:=λR γ=>a γ (λs=>match s.shd with|some d=>R.rv γ d|none=>False) (R.ex γ)
def Bg(r:Xx K mg E te a):XF K mg E (SA te) (Zp8 a):=by
 intro H0 B H σ γ R D x f h e;refine r H0 B H σ γ _ _ _ f h (λs v H1 l g o=>?_) λc H' p n=>e.ex σ γ c H' p (f.grow n) (Fr.grow n);split at l
 ·rename_i d u;exact e.rv σ γ d v H1 l (f.grow g) (Fr.grow g) (o.shd (f.grow g).same f.zm g u)
 ·grind
def Zvj{s f:S}(h:s.pass=some f):f.flat:=by
 cases s with
 |bor d=>unfold S.pass at h;cases q:imm d<;>simp[q]at h<;>subst h<;>trivial
 |tmp d=>
  unfold S.pass at h;cases q:imm d<;>simp[q]at h
  subst h;trivial
 |view o=>cases h
 |_=>cases h;trivial
theorem BC:∀{g f:List S},passes g=some f->∀s∈f,s.flat
 |[],_,h=>by cases h;simp
 |s::r,_,h=>by
  unfold passes at h;split at h
  ·rename_i o p n l;cases h
   intro x hx;rcases WZ.mp hx with rfl|hx
   ·exact Zvj n
   ·exact BC l x hx
  ·grind
def TV.pass {v P W f} (r:Same H0 H') (n:∀b,Z b->Mut (H b)) (x:Same H H') (p:Same H0 (off P f)) (l:Same (off Z H') (off W f)) (h:TV K Z H0 H H' s v) (e:s.pass=some g):TV K W (off P f) f f g v:=by
 have shd:∀d,s.shd=some d->Rp K (off W f) d v:=λd u=>Rp.mono l (h.shd r n x u);cases s with
 |view o=>cases e
 |tmp d=>
  unfold S.pass at e;cases q:imm d with
  |false=>simp_all
  |true=>simp[q]at e;subst e;exact shd d (by unfold S.shd;simp[q])
 |bor d=>
  unfold S.pass at e;cases q:imm d with
  |false=>simp[q]at e;subst e;exact Rp.mono p h
  |true=>simp[q]at e;subst e;exact shd d (by unfold S.shd;simp[q])
 |_=>cases e;exact shd _ rfl
theorem TVs.pass {HB} (p:Same H0 H') (n:∀b,Z b->Mut (H b)) (s:Same H H') (o:Same H0 (off P HB)) (l:Same (off Z H') (off W HB)):∀{g f}{vs:List V},TVs K Z H0 H H' g vs->passes g=some f->TVs K W (off P HB) HB HB f vs
 |_,_,_,.nil,e=>by cases e;exact .nil
 |_,_,_,.cons h r,e=>by
  unfold passes at e;split at e
  ·rename_i x y v u;cases e
   exact .cons (h.pass p n s o l v) (TVs.pass p n s o l r u)
  ·grind
def EN{c:Pw}{i:Nat}{o:O}{a:Addr}{ss l:List S}{us:List V}{R:Γ->D->Prop}{X:Γ->Str->Prop}{Q:VK}{Ec:XK}(env:X4 K H0 B H σ γ)(hB:∀b,B b->∃o,H0 b=some o)(U:Same H H1)(L:γ[i]?=some (some<|.own o))(G:σ[i]?=some (some<|.ref a))(t1:TVs K (zof B γ σ) H0 H H1 ss us)(hp:passes ss=some l)(hc:c o l (λo' d=>R (γ.set i<|some<|.own o') d) (λo' e=>X (γ.set i<|some<|.own o') e))(q:∀f d v H',R f d->X4 K H0 B H' σ f->Fr B H σ γ H' σ f->Rp K (off (zof B f σ) H') d v->Q v H')(qx:∀f c H',X f c->X4 K H0 B H' σ f->Fr B H σ γ H' σ f->XE mg Ec c H'):spW mg c K (.ref a::us) H1 Q Ec:=by
 have g:=env.grow U;obtain⟨v,h1,T,ev,h3,h4⟩:=g.slot i _ L;rw[G]at h1;cases h1
 cases ev
 have Y:∀b,o.adr a b->zof B γ σ b:=λb p=>.inr ⟨i,o,a,L,G,p⟩
 have J:∀o' H',After K (λb=>zof B γ σ b/\¬o.adr a b) H1 a o o' H'->X4 K H0 B H' σ (γ.set i<|some<|.own o')/\Fr B H σ γ H' σ (γ.set i<|some<|.own o')/\∀b x,H' b=some x->¬((zof B γ σ b/\¬o.adr a b)\/o'.adr a b)->¬zof B (γ.set i<|some<|.own o') σ b:=λo' H' A=>by
  have C:∀b x,H' b=some x->¬((zof B γ σ b/\¬o.adr a b)\/o'.adr a b)->¬zof B (γ.set i<|some<|.own o') σ b:=λb x _ n z=>by
   rcases z with z|⟨j,fs,T,e1,M,N⟩
   ·refine n (.inl ⟨.inl z,λw=>?_⟩);obtain⟨u,hu⟩:=hB b z;rw[h3 b w]at hu;cases hu
   ·rcases Ko e1 with⟨ej,q,_⟩|⟨nj,q⟩
    ·subst ej;cases q
     rw[G]at M;cases M
     exact n (.inr N)
    ·exact n (.inl ⟨.inr ⟨j,fs,T,q,M,N⟩,λw=>nj (env.own j i T a fs o b q L M G N w)⟩)
  obtain⟨s,r⟩:=g.change (o':=o') (H':=H') L G (λb x hx n=>A.same b x (Kg hx n)) (λb p=>A.at_.mut b (A.old b p)) A.new (A.at_.mono (XB (Same.refl _) λb x hx z=>C b x hx z) λ_ _ _ q=>q);exact⟨s,(Fr.grow U).trans r,C⟩
 refine⟨o,a,l,us,λb=>zof B γ σ b/\¬o.adr a b,_,_,rfl,λb p=>⟨g.zm b p.1,p.2⟩,h4.mono (XB (Same.refl _) λb _ _ z y=>z (y.elim (λy=>y.1)<|Y b)) λ_ _ _ q=>q,?_,BC hp,hc,λo' d v H' hR A rd=>?_,λo' e H' hX A=>?_⟩
 ·refine t1.pass g.same env.zm U (λb x hx=>Kg (g.same b x hx) λw=>?_) (XB (Same.refl _) λb _ _ z y=>z (y.elim (λy=>y.1)<|Y b)) hp;rw[h3 b w]at hx;cases hx
 ·obtain⟨s,r,k3⟩:=J o' H' A;exact q _ d v H' hR s r (Rp.mono (λb x h=>let ⟨p1,p2⟩:=Tz h;Kg p1 (k3 b x p1 p2)) rd)
 ·obtain⟨s,r,_⟩:=J o' H' A;exact qx _ e H' hX s r
noncomputable def Zvm(i:Nat)(c:Pw)(r:PTA):PTW:=λγ R X=>match γ[i]? with
 |some (some<|.own o)=>r γ (λh=>match passes h with|some f=>c o f (λg d=>R (γ.set i<|some<|.own g) d) (λg e=>X (γ.set i<|some<|.own g) e)|none=>False) (X γ)
 |_=>False
noncomputable def HN(i:Nat)(c:Pw)(r:PTA):PTW:=λγ R X=>match γ[i]? with
 |some (some<|.own o)=>r γ (λg=>match passes g with|some f=>c o f (λh d=>R (γ.set i<|some<|.own h) d) (λ_ _=>False)|none=>False) (X γ)
 |_=>False
def Zi4(i:Nat){c g r}(C:XO K mg E g r):Tp K mg E (NX (spW mg c K) [] E0<|KF (Pf i) g) (HN i c r):=by
 intro H0 B H σ γ R X Q J f h q A;unfold HN at h;split at h
 ·rename_i o n;obtain⟨v,l,a,rfl,_,_⟩:=f.slot i _ n;refine⟨_,l,C H0 B H σ γ _ _ _ f h (λN u H1 p M x=>?_) λc H' G s=>A γ c H' G (f.grow s) (Fr.grow s)⟩;show spW mg c K ((V.ref a::u)++[]) H1 Q E0;rw[QA];split at p
  ·rename_i y L;exact EN (X:=λ_ _=>False) f J M n l x L p q λ_ _ _ z=>z.elim
  ·grind
 ·grind
def Zco(C:Addr)(xs:Ye)(j:Nat):S->(S->Prop)->Prop
 | .view (.ins _ g f l),R=>g=C/\f=xs/\∃c,l[j]?=some c/\R (.view<|.lst c.2)
 | .bor (.ins g f h),R=>g=C/\f=xs/\∃d,h[j]?=some d/\R (arg d)
 |_,_=>False
noncomputable def Zop(C:Addr)(xs:Ye)(j:Nat)(a:PTE):PTE:=λγ R X=>a γ (λs=>Zco C xs j s R) X
def Rp.ins_inv (h:Rp K H (.ins C xs ds) v):∃a f vs,v=.ref a/\H a=some (.ins C f<|xs.zip vs)/\xs.length=vs.length/\Rps K H ds vs:=by
 cases h with
 |ins h e r=>grind
def FldAt(f:Str)(xs:Ye)(j:Nat):Prop:=∀g:List V,xs.length=g.length->(xs.zip g).lookup f=g[j]?
def F4(j:Nat){a}(L:Cls K C)(G:NoAttr K C f)(J:FldAt f xs j)(ha:Xx K mg E te a):Xx K mg E (FR K te f) (Zop C xs j a):=by
 intro H0 B H σ γ R X Q l p q qx;refine ha H0 B H σ γ _ X _ l p (λs v H1 h z A=>?_) qx;have g:=l.grow z;unfold Zco at h;split at h
 ·rename_i x C' n cs;obtain⟨rfl,rfl,c,M,o⟩:=h;obtain⟨b,rfl,T,N,⟨y,r⟩,e4,e5⟩:=A;obtain⟨U,u1,Y⟩:=e4 c (Qk M);refine⟨b,_,y,_,_,rfl,r,L,G,?_,q _ _ H1 o z ⟨c.1,rfl,U,u1,Y⟩⟩;rw[J _ (by grind),WV,M];rfl
 ·rename_i C' n ds;obtain⟨rfl,rfl,d,ed,o⟩:=h;obtain⟨b,y,vs,rfl,T,N,r⟩:=Rp.ins_inv A;obtain⟨u,hu,ru⟩:=r.get ed;refine⟨b,_,y,_,u,rfl,g.same _ _ T,L,G,by rw[J _ N];exact hu,q _ _ H1 o z (SQ g.zm g.same ru)⟩
 ·exact h.elim
noncomputable def LF(C:Addr)(xs:Ye)(c:Pc)(a:PTE)(r:PTA):PTE:=λγ R X=>a γ (λs=>match s.d with
 | .ins g f l=>g=C/\f=xs/\r γ (λh=>c (.ins g f l::h.map S.d) (λs=>R s.back) X) X
 |_=>False) X
def NoFld(m:Str)(xs:Ye):Prop:=∀f:List V,(xs.zip f).lookup m=none
noncomputable def IP(C:Addr)(m:Str)(sp:Sp)(E:L2.St->XK)(g:TE)(t:TA):TE:=λσ H Q=>g σ H λx H1=>∃a h fs,x=.ref a/\H1 a=some (.ins C h fs)/\fs.lookup m=none/\t σ H1 λf l=>sp (x::(f++[])) l Q (E σ)
def Zuv{m xs c z a r}(hx:NoFld m xs)(ha:Xx K mg E te a)(T:XO K mg E z r):Xx K mg E (IP C m (X3 mg c K) E te z) (LF C xs c a r):=by
 intro H0 B H σ γ R X Q h p q y;refine ha H0 B H σ γ _ X _ h p (λs v H1 o n M=>?_) y;have f:=h.grow n;split at o
 ·rename_i C' A ds ed;obtain⟨rfl,rfl,o⟩:=o;have x:=M.rp f.same;rw[ed]at x;obtain⟨b,dx,G,rfl,e1,e2,e3⟩:=Rp.ins_inv x;refine⟨b,dx,_,rfl,e1,hx G,T H0 B H1 σ γ _ X _ f o (λss us H2 h2 l L=>?_) λc H' Y S'=>y c H' Y (n.trans S')⟩;have g:=f.grow l;rw[QA];refine⟨_,_,X,Rps.cons (Rp.mono l x) (L.rps g.same),h2,λs v H' N u J=>q _ _ H' N ((n.trans l).trans u) (J.back g (n.trans l) u),λe H' U u=>y e H' U ((n.trans l).trans u)⟩
 ·grind
def F3{m xs c g a r f}(hx:NoFld m xs)(l:Xx K mg (λ_=>f) te a)(h:XO K mg (λ_=>f) g r):Xx K mg (λ_=>f) (NR C m (X3 mg c K) [] f te g) (LF C xs c a r):=Zuv hx l h
noncomputable def Zmf(C:Addr)(xs:Ye)(c:Pc)(a:PTE)(r:PTA):PTE:=λγ R X=>a γ (λs=>match s.d with
 | .ins g f l=>g=C/\f=xs/\r γ (λh=>c (.ins g f l::h.map S.d) (λs=>R s.back) λ_=>False) X
 |_=>False) X
def Pa{m xs c x a r}(hx:NoFld m xs)(ha:Xx K mg E te a)(U:XO K mg E x r):Xx K mg E (NR C m (X3 mg c K) [] E0 te x) (Zmf C xs c a r):=by
 intro H0 B H σ γ R X Q h p q y;refine ha H0 B H σ γ _ X _ h p (λs v H1 l o N=>?_) y;have f:=h.grow o;split at l
 ·rename_i C' G ds ed;obtain⟨rfl,rfl,l⟩:=l;have u:=N.rp f.same;rw[ed]at u;obtain⟨b,dx,J,rfl,e1,e2,e3⟩:=Rp.ins_inv u;refine⟨b,dx,_,rfl,e1,hx J,U H0 B H1 σ γ _ X _ f l (λss us H2 h2 n M=>?_) λc H' Y S'=>y c H' Y (o.trans S')⟩;have g:=f.grow n;rw[QA];exact⟨_,_,_,Rps.cons (Rp.mono n u) (M.rps g.same),h2,λs v H' T A L=>q _ _ H' T ((o.trans n).trans A) (L.back g (o.trans n) A),λ_ _ z=>z.elim⟩
 ·grind
noncomputable def EK(i:Nat)(C:Addr)(xs:Ye)(c:Pw)(r:PTA):PTW:=λγ R X=>match γ[i]? with
 |some (some<|.own<|.ins x l f o)=>l=C/\f=xs/\r γ (λn=>match passes n with|some g=>c (.ins x l f o) g (λh d=>R (γ.set i<|some<|.own h) d) (λh e=>X (γ.set i<|some<|.own h) e)|none=>False) (X γ)
 |_=>False
def Zl3(i:Nat){C m xs c g r}(hx:NoFld m xs)(A:XO K mg E g r):Tp K mg E (IP C m (spW mg c K) E (Pf i) g) (EK i C xs c r):=by
 intro H0 B H σ γ R X Q J f h q l;unfold EK at h;split at h
 ·rename_i x C' u cs o;obtain⟨rfl,rfl,h⟩:=h;obtain⟨v,n,a,rfl,_,e1,e2,⟨N,M⟩,e4⟩:=f.slot i _ o;refine⟨_,n,a,N,_,rfl,M,hx _,A H0 B H σ γ _ _ _ f h (λY U H1 p T y=>?_) λc H' G s=>l γ c H' G (f.grow s) (Fr.grow s)⟩;rw[QA];split at p
  ·rename_i z L;exact EN f J T o n y L p q l
  ·grind
 ·grind
def BK(i:Nat){C m xs c g r f}(hx:NoFld m xs)(h:XO K mg (λ_=>f) g r):Tp K mg (λ_=>f) (NR C m (spW mg c K) [] f (Pf i) g) (EK i C xs c r):=Zl3 i hx h
noncomputable def Zbh(i:Nat)(C:Addr)(xs:Ye)(c:Pw)(r:PTA):PTW:=λγ R X=>match γ[i]? with
 |some (some<|.own<|.ins x h f o)=>h=C/\f=xs/\r γ (λl=>match passes l with|some g=>c (.ins x h f o) g (λn d=>R (γ.set i<|some<|.own n) d) (λ_ _=>False)|none=>False) (X γ)
 |_=>False
def SR(i:Nat){C m xs c g r}(hx:NoFld m xs)(G:XO K mg E g r):Tp K mg E (NR C m (spW mg c K) [] E0 (Pf i) g) (Zbh i C xs c r):=by
 intro H0 B H σ γ R X Q L f h q A;unfold Zbh at h;split at h
 ·rename_i x C' s cs n;obtain⟨rfl,rfl,h⟩:=h;obtain⟨v,l,a,rfl,_,e1,e2,⟨T,N⟩,e4⟩:=f.slot i _ n;refine⟨_,l,a,T,_,rfl,N,hx _,G H0 B H σ γ _ _ _ f h (λss Y H1 o U u=>?_) λc H' J p=>A γ c H' J (f.grow p) (Fr.grow p)⟩;rw[QA];split at o
  ·rename_i y M;exact EN (X:=λ_ _=>False) f L U n l u M o q λ_ _ _ z=>z.elim
  ·grind
 ·grind
theorem LY{g:Type}:∀{l:List g}{i j:Nat}{x:g},l.Nodup->l[i]?=some x->l[j]?=some x->i=j
 |[],_,_,_,_,h,_=>by simp at h
 |y::r,0,0,_,_,_,_=>rfl
 |y::r,0,j+1,x,f,o,n|y::r,i+1,0,x,f,o,n=>by
  grind
 |y::r,i+1,j+1,x,f,o,n=>QB (· + 1) (LY (Q3.mp f).2 (by trivial)<|by grind)
def X4.cell {f b ds es us} (env:X4 K H0 B H σ γ) (L:γ[i]?=some (some<|.own<|.ins x C xs f)) (s:f[j]?=some (b,ds)) (r:Rps K (off (zof B γ σ) H) es us) :
  X4 K H0 B (upd H b<|.lst us) σ (γ.set i<|some<|.own<|.ins x C xs<|f.set j (b,es))/\Fr B H σ γ (upd H b<|.lst us) σ (γ.set i<|some<|.own<|.ins x C xs<|f.set j (b,es)):=by
 obtain⟨v,Y,a,rfl,e0,e1,e2,⟨dx,e3⟩,e4,e5⟩:=env.slot i _ L;subst e1;have l:=Qk s
 have M:a≠b:=λz=>by
  obtain⟨T,o,_⟩:=e4 _ l;rw[←show a=b from z,e3]at o
  cases o
 have em:(f.set j (b,es)).map (·.1)=f.map (·.1):=by
  apply Ug;intro k;rw[WV,WV,List.getElem?_set];by_cases e:j=k
  ·subst e;rw[WQ rfl,WQ ((Qu.mp s).1),s];rfl
  ·rw[WN e]
 have N:(f.set j (b,es)).map (λc=>V.ref c.1)=f.map λc=>V.ref c.1:=by
  have:=QB (List.map V.ref) em
  rw[Qt,Qt]at this;exact this
 have adr:∀c,(O.ins a C xs<|f.set j (b,es)).adr a c->(O.ins a C xs f).adr a c:=λc g=>by
  rcases g with g|⟨d,hd,g⟩
  ·exact .inl g
  ·have:d.1∈(f.set j (b,es)).map (·.1):=List.mem_map_of_mem hd
   rw[em]at this;obtain⟨d',A,p⟩:=Qf.mp this;exact .inr ⟨d',A,g.trans p.symm⟩
 have y:∀c,(O.ins a C xs f).adr a c->zof B γ σ c:=λc g=>.inr ⟨i,_,a,L,Y,g⟩
 have So:Same (off (zof B γ σ) H) (off (zof B (γ.set i<|some<|.own<|.ins a C xs<|f.set j (b,es)) σ)<|upd H b<|.lst us):=λc u h=>by
  obtain⟨A,p⟩:=Tz h;have G:=λz=>p (y c<|.inr ⟨_,l,z⟩);refine Kg (by rw[XD G];exact A) λz=>p ?_;rcases z with z|⟨k,fs,a',k1,k2,U⟩
  ·exact .inl z
  ·rcases Ko k1 with⟨Q,q,_⟩|⟨_,q⟩
   ·subst Q;cases q
    exact y c (adr c U)
   ·exact .inr ⟨k,fs,a',q,k2,U⟩
 refine env.change L Y (λc u hu n=>?_) (λc g=>?_) (λc g=>.inl (adr c g)) ⟨rfl,by rw[QN];exact e2,⟨dx,?_⟩,λc g=>?_,by rw[em];exact e5⟩
 ·rw[XD λz=>n (.inr ⟨_,l,z⟩)];exact hu
 ·by_cases z:c=b
  ·rw[z,XZ];trivial
  ·rw[XD z];exact env.zm c (y c g)
 ·rw[XD M,N];exact e3
 ·obtain⟨k,hk,Q⟩:=V7 g;have J:(f.set j (b,es))[k]?=some c:=by rw[WI hk,Q]
  rcases Ko J with⟨_,q,_⟩|⟨nk,q⟩
  ·subst q;exact⟨us,XZ,Rps.mono So r⟩
  ·obtain⟨T,o,w2⟩:=e4 c (Qk q)
   have G:=λz=>nk (by
    have h1:(f.map (·.1))[k]?=some b:=by rw[WV,q];exact QB some z
    have h2:(f.map (·.1))[j]?=some b:=by rw[WV,s];rfl
    exact LY e5 h1 h2)
   exact⟨T,by rw[XD G];exact o,Rps.mono So w2⟩
noncomputable def Zbw(i j:Nat)(C:Addr)(xs:Ye)(a:PTE):PTW:=λγ R X=>match γ[i]? with
 |some (some<|.own<|.ins x h f g)=>h=C/\f=xs/\∃c,g[j]?=some c/\a γ (λs=>match s.shd with
  |some d=>c.2.length<10000000/\R (γ.set i<|some<|.own<|.ins x h f<|g.set j (c.1,c.2++[d])) .non
  |none=>False) (X γ)
 |_=>False
def Ci(i j:Nat){C f xs a}(p:Cls K C)(hn:NoAttr K C f)(hj:FldAt f xs j)(ha:Xx K mg E te a):Tp K mg E (tBM K "list" Di (FR K (Pf i) f)<|KF te P7) (Zbw i j C xs a):=by
 intro H0 B H σ γ R X Q hB g h q T;unfold Zbw at h;split at h
 ·rename_i x C' M cs J;obtain⟨rfl,rfl,c,r,h⟩:=h;obtain⟨v,hv,b,rfl,_,e1,e2,⟨dx,e3⟩,e4,e5⟩:=g.slot i _ J;obtain⟨y,G,A⟩:=e4 c (Qk r);refine⟨_,hv,b,_,dx,_,V.ref c.1,rfl,e3,p,hn,?_,.inl ⟨rfl,y,SqL.of G⟩,ha H0 B H σ γ _ _ _ g h (λs u H1 o n N=>?_) λc H' p L=>T γ c H' p (g.grow L) (Fr.grow L)⟩
  ·rw[hj _ (by grind),WV,r];rfl
  ·have l:=g.grow n;split at o
   ·rename_i d ed;refine⟨c.1,y,u,rfl,rfl,n _ _ G,by rw[A.len];exact Jg o.1 (by decide),?_⟩;obtain⟨Y,U⟩:=l.cell J r (Rps.append (Rps.mono (XB n λ_ _ _ z=>z) A)<|.cons (N.shd l.same g.zm n ed) .nil);exact q _ _ _ _ o.2 Y ((Fr.grow n).trans U) .non
   ·exact o.elim
 ·exact h.elim
noncomputable def HV(i j:Nat)(C:Addr)(xs:Ye):PTW:=λγ R _=>match γ[i]? with
 |some (some<|.own<|.ins x h f g)=>h=C/\f=xs/\∃c d,g[j]?=some c/\c.2[c.2.length-1]?=some d/\R (γ.set i<|some<|.own<|.ins x h f<|g.set j (c.1,c.2.dropLast)) d
 |_=>False
def Rps.dropLast:∀{ds}{vs:List V},Rps K H ds vs->Rps K H ds.dropLast vs.dropLast:=by
 intro ds
 induction ds with
 |nil=>
  intro _ h;cases h
  exact .nil
 |cons _ _ f=>
  intro _ h;cases h with
  |cons h r=>
   cases r with
   |nil=>exact .nil
   |cons c e=>exact .cons h (f<|.cons c e)
def D7(i j:Nat){C f xs}(N:Cls K C)(L:NoAttr K C f)(M:FldAt f xs j):Tp K mg E (BO K "list" G8<|FR K (Pf i) f) (HV i j C xs):=by
 intro H0 B H σ γ R X Q hB g h q qx;unfold HV at h;split at h
 ·rename_i x C' y cs s;obtain⟨rfl,rfl,c,d,n,T,h⟩:=h;obtain⟨v,G,b,rfl,_,e1,e2,⟨dx,Y⟩,U,e5⟩:=g.slot i _ s;obtain⟨o,p,l⟩:=U c (Qk n);obtain⟨u,J,z⟩:=l.get T;refine⟨_,G,b,_,dx,_,V.ref c.1,rfl,Y,N,L,?_,.inl ⟨rfl,o,SqL.of p⟩,c.1,o,u,rfl,rfl,p,by rw[l.len];exact J,?_⟩
  ·rw[M _ (by grind),WV,n];rfl
  ·obtain⟨A,r⟩:=g.cell s n (Rps.dropLast l);exact q _ _ _ _ h A r (Rp.mono r.off z)
 ·grind
def PutAt(f:Str)(xs:Ye):Prop:=∀(g:List V) (y:V),xs.length=g.length->Pg f y (xs.zip g)=(xs++[f]).zip (g++[y])
noncomputable def Zry(i:Nat)(C:Addr)(f:Str)(xs:Ye)(a:PTE):PTS:=λR γ=>a γ (λs=>match s with
 | .own (.lst l)=>(match γ[i]? with
  |some (some<|.own<|.ins x h g n)=>h=C/\g=xs/\xs.length<1000/\∀b,R.nx (γ.set i<|some<|.own<|.ins x h (xs++[f]) (n++[(b,l)]))
  |_=>False)
 |_=>False) (R.ex γ)
def DB(i:Nat){C f xs a}(g:Cls K C)(hn:NoAttr K C f)(hp:PutAt f xs)(ha:Xx K mg E te a):XF K mg E (Zax K (Pf i) te f) (Zry i C f xs a):=by
 intro H0 B H σ γ R D hB p h e;refine ha H0 B H σ γ _ _ _ p h (λs v H1 G Q t1=>?_) λc H' g S'=>e.ex σ γ c H' g (p.grow S') (Fr.grow S');split at G
 ·rename_i ds;split at G
  ·rename_i x M o r hi;obtain⟨rfl,rfl,hl,G⟩:=G;obtain⟨u,hv,b,rfl,e0,e1,e2,⟨dx,e3⟩,e4,e5⟩:=p.slot i _ hi;subst e1;obtain⟨l,rfl,L,vs,l1,l2⟩:=t1;have L:=L l rfl;refine⟨_,hv,b,_,dx,_,rfl,Q _ _ e3,g,hn,?_,?_⟩
   ·rw[List.length_zip,WH];lia
   ·rw[hp _ _ (by rw[WH];exact e2)]
    have nl:∀c∈r,c.1≠l:=λc g=>by
     obtain⟨ws,J,_⟩:=e4 c g;exact Ky J L
    have nb:∀c∈r,c.1≠b:=λc g z=>by
     obtain⟨ws,J,_⟩:=e4 c g;rw[z,e3]at J;cases J
    have T:∀c,(O.ins b M o r).adr b c->zof B γ σ c:=λc g=>.inr ⟨i,_,b,hi,hv,g⟩
    have key:∀c u,H1 c=some u->¬(zof B γ σ c\/c=l)->¬zof B (γ.set i<|some<|.own<|.ins b M (o++[f]) (r++[(l,ds)])) σ c:=λc u _ n z=>by
     rcases z with z|⟨k,fs,a',k1,N,A⟩
     ·exact n (.inl<|.inl z)
     ·rcases Ko k1 with⟨ek,q,_⟩|⟨_,q⟩
      ·subst ek;cases q
       rw[hv]at N;cases N
       rcases A with A|⟨d,hd,A⟩
       ·exact n (.inl<|T c<|.inl A)
       ·rcases Qm.mp hd with hd|hd
        ·exact n (.inl<|T c<|.inr ⟨d,hd,A⟩)
        ·rw[WR]at hd;subst hd;exact n (.inr A)
      ·exact n (.inl<|.inr ⟨k,fs,a',q,N,A⟩)
    have So:Same (off (λc=>zof B γ σ c\/c=l) H1) (off (zof B (γ.set i<|some<|.own<|.ins b M (o++[f]) (r++[(l,ds)])) σ)<|upd H1 b<|.ins M dx ((o++[f]).zip ((r.map λc=>V.ref c.1)++[.ref l]))):=λc u h=>by
     obtain⟨Y,U⟩:=Tz h;exact Kg (by rw[XD λz=>U (.inl<|T c<|.inl z)];exact Y) (key c u Y U)
    have S0:Same (off (zof B γ σ) H) (off (λc=>zof B γ σ c\/c=l) H1):=XB Q λc u g z y=>y.elim z λy=>by rw[y,L]at g;cases g
    obtain⟨k1,N⟩:=p.change (o':=.ins b M (o++[f]) (r++[(l,ds)])) (H':=upd H1 b (.ins M dx ((o++[f]).zip ((r.map λc=>V.ref c.1)++[.ref l])))) hi hv
     (λc u hu n=>by rw[XD λz=>n (.inl z)];exact Q _ _ hu)
     (λc g=>by
      by_cases z:c=b
      ·rw[z,XZ];trivial
      ·rw[XD z];exact(p.grow Q).zm c (T c g))
     (λc g=>by
      rcases g with g|⟨d,hd,g⟩
      ·exact .inl (.inl g)
      ·rcases Qm.mp hd with hd|hd
       ·exact .inl (.inr ⟨d,hd,g⟩)
       ·rw[WR]at hd;subst hd;exact .inr (by rw[show c=l from g];exact L))
     ⟨rfl,by rw[WT,WT,e2];rfl,⟨dx,by rw[XZ,WY];rfl⟩,λc g=>by
      rcases Qm.mp g with g|g
      ·obtain⟨ws,J,w2⟩:=e4 c g;exact⟨ws,by rw[XD (nb c g)];exact Q _ _ J,Rps.mono So (Rps.mono S0 w2)⟩
      ·rw[WR]at g;subst g;exact⟨vs,by rw[XD (λz=>(Ky e3 L) z.symm)];exact l1,Rps.mono So l2⟩,by
      rw[WY,QK]
      exact⟨e5,by simp,λc g d hd z=>by
       obtain⟨c',Y,U⟩:=Qf.mp g
       have:d=l:=by simpa using hd
       exact nl c' Y (U.trans<|z.trans this)⟩⟩
    exact e.nx _ _ _ (G l) k1 N
  ·exact G.elim
 ·exact G.elim
def Zt3{c}{M l}{us}{R:S->Prop}{X:XR}{Q:VK}{Ec}(env:X4 K H0 B H σ γ)(p:Same H H1)(N:TVs K (zof B γ σ) H0 H H1 M us)(ep:passes M=some l)(h1:∀x,c (.ins x C [] []) l (λo' d=>d=.non/\R (.own o')) (λ_ e=>X e))(q:∀s v H',R s->Same H H'->TV K (zof B γ σ) H0 H H' s v->Q v H')(U:∀c H',X c->Same H H'->XE mg Ec c H') :
  ∀x h,H1 x=none->H1 h=none->h≠x->spW mg c K (.ref x::us) (upd (upd H1 h<|.own x) x<|.ins C h []) (λv H2=>v=.non/\Q (.ref x) H2) Ec:=by
 have f:=env.grow p;intro x h n J Y
 have u:Same H1 (upd (upd H1 h<|.own x) x<|.ins C h []):=λb o e=>by
  rwa[XD (Ky e n),XD (Ky e J)]
 have r:∀o' H',After K (zof B γ σ) (upd (upd H1 h<|.own x) x<|.ins C h []) x (.ins x C [] []) o' H'->Same H1 H'/\∀b,o'.adr x b->H b=none:=λo' H' A=>by
  refine⟨λb o e=>A.same b o (Kg (u b o e) λz=>?_),λb G=>?_⟩
  ·rcases z with z|⟨c,g,_⟩
   ·rw[z,n]at e;cases e
   ·cases g
  ·rcases A.new b G with(z|⟨c,g,_⟩)|z
   ·rw[z];exact p.free n
   ·cases g
   ·exact p.free (u.free z)
 refine⟨.ins x C [] [],x,l,us,zof B γ σ,_,_,rfl,λb G=>⟨Tn u (f.zm b G),λz=>?_⟩,⟨rfl,rfl,⟨h,XZ⟩,(λc g=>by cases g),V9⟩,?_,BC ep,h1 x,λo' d v H' L A T=>?_,λo' e H' hX A=>?_⟩
 ·rcases z with z|⟨c,g,_⟩
  ·have:=f.zm b G
   rw[z,n]at this;exact this
  ·cases g
 ·refine N.pass f.same env.zm p (λb o e=>Kg (u _ _<|f.same b o e) λz=>?_) (XB u λb o e z y=>?_) ep
  ·rcases z with z|⟨c,g,_⟩
   ·rw[z,(f.same).free n]at e;cases e
   ·cases g
  ·rcases y with y|y|⟨c,g,_⟩
   ·exact z y
   ·rw[y,n]at e;cases e
   ·cases g
 ·obtain⟨rfl,L⟩:=L;obtain⟨k1,k2⟩:=r o' H' A;exact⟨Rp.non_inv T,q _ _ H' L (p.trans k1) ⟨x,rfl,k2,A.at_⟩⟩
 ·exact U e H' hX (p.trans (r o' H' A).1)
noncomputable def Zmh(C:Addr)(c:Pw)(r:PTA):PTE:=λγ R X=>r γ (λg=>match passes g with|some f=>∀x,c (.ins x C [] []) f (λh d=>d=.non/\R (.own h)) (λ_ _=>False)|none=>False) X
def Zhq{g r}(s:XO K mg E g r):Xx K mg E (G3 C (spW mg c K) [] E0 g) (Zmh C c r):=by
 intro H0 B H σ γ R X Q f p q o;refine s H0 B H σ γ _ X _ f p (λy x H1 h v l=>?_) o;split at h
 ·rename_i n u;rw[QA];exact Zt3 f v l u h q λ_ _ z=>z.elim
 ·grind
end
def BY{f:Type}{us:List f}(h:us.length=1):∃a,us=[a]:=List.length_eq_one_iff.mp h
def AE{f:Type}{us:List f}(h:us.length=2):∃a b,us=[a,b]:=by
 cases us with
 |nil=>grind
 |cons a r=>obtain⟨b,rfl⟩:=BY (by simpa using h);exact⟨a,b,rfl⟩
def Am{f:Type}{us:List f}(h:us.length=3):∃a b c,us=[a,b,c]:=by
 cases us with
 |nil=>grind
 |cons a r=>obtain⟨b,c,rfl⟩:=AE (by simpa using h);exact⟨a,b,c,rfl⟩
def DG{f:Type}{us:List f}(h:us.length=4):∃a b c d,us=[a,b,c,d]:=by
 cases us with
 |nil=>grind
 |cons a r=>obtain⟨b,c,d,rfl⟩:=Am (by simpa using h);exact⟨a,b,c,d,rfl⟩
def Ztg{f:Type}{us:List f}(h:us.length=5):∃a b c d e,us=[a,b,c,d,e]:=by
 cases us with
 |nil=>grind
 |cons a r=>obtain⟨b,c,d,e,rfl⟩:=DG (by simpa using h);exact⟨a,b,c,d,e,rfl⟩
structure Kb (K:ZV) (W:Addr->Prop) (x q:Str) (st:Stmt) (ps:Ye):Prop where
 ex:∃f fd,Fun K x q st f fd/\W f/\Binds K fd ps []
structure Tv (P:Program) (w:World) (K:ZV) (mg:ZZ) (base:Heap) (CX:CXT) (k:Nat) (W:Addr->Prop) (ps:Ye) (sp:Sp):Prop where
 ex:∃f fd,Pj P w K mg base CX k f fd ps sp/\W f/\Binds K fd ps []
section
variable {P:Program}{w:World}{K:ZV}{mg:ZZ}{base:Heap}{W:Addr->Prop}
def Kb.ok {st N ps k sp} (D:Kb K W x q st ps) (S:Xz N ps (Xy st)) (len:∀vs H Q E,sp vs H Q E->vs.length=ps.length)
  (l:∀f g A outer s H vs Q E,XC k (A.deeper<|envOfC q (Xy st) s.heap.objs.size f g)->sp vs H Q E->
   ∃t,PSs (Ks CX0 P w K mg base N q (Xy st) f g A outer s H E).nox (Km st) t/\t {nx:=λ_ H'=>Q .non H',rt:=Q} (start N vs) H):Tv P w K mg base CX0 (k+1) W ps sp:=by
 obtain⟨f,r,F,o,p⟩:=D.ex;exact⟨f,r,F.ok S len λg A outer s H vs Q E n h=>l f g A outer s H vs Q E n h,o,p⟩
def Kb.okX {st N ps k sp} (D:Kb K W x q st ps) (S:Xz N ps (Xy st)) (len:∀vs H Q E,sp vs H Q E->vs.length=ps.length)
  (h:∀f g A outer s H vs Q E,XC k (A.deeper<|envOfC q (Xy st) s.heap.objs.size f g)->sp vs H Q E->
   ∃t,PSs (Ks (ExcR.CXe P w) P w K mg base N q (Xy st) f g A outer s H E) (Km st) t/\t {nx:=λ_ H'=>Q .non H',rt:=Q} (start N vs) H):Tv P w K mg base (ExcR.CXe P w) (k+1) W ps sp:=by
 obtain⟨f,C,F,u,v⟩:=D.ex;obtain⟨oc,B,kV,y,z,J,g,G,o,rfl,p,n⟩:=F.ex;exact⟨f,_,Gj p n S len λA outer s H vs Q E r l=>h f g A outer s H vs Q E r l,u,v⟩
def SZ:PQ (ExcR.CXe P w) X E0:=λ_ _ _ _ _ _ _ h=>by
 obtain⟨a,T,C,f,g,_,_,z⟩:=h
 grind
end
section
variable {X:Cx}{CX:CXT}{k:Nat}{Cc:Addr}{ps:Ye}{sp:Sp}{E:XK}{ES:L2.St->XK}{x m:Str}{p pos apos:Pos}{e o:Expr}{es:Yf}{ta:TE}{t:TA}
def TR{pl}(C:Tv X.prog X.w X.K X.mg X.base CX k (Kc X.K Cc m) ps sp)(c:Cls X.K Cc)(r:XC k X.A)(hx:PQ CX X E)(u:PE X o ta)(y:PA X (e::es) t)(g:autoParam (starEach (e::es) X.env=(false,eval e X.env)::starEach es X.env) au_0)(h:autoParam ((backTo pos<|starEach es X.env).any (·.1)=false) au_0)
  (n:autoParam (eval (.Call (.Attribute o m apos) (e::es) [] pos) X.env=(do
   let l ←eval o X.env
   standAt apos.atName
   let (f,first) ←holding [l] (getMethod l m pl)
   callWith pos f first (backTo pos<|starEach (e::es) X.env) (backToKw pos<|keywordEach [] X.env))) au_0) :
  PE X (.Call (.Attribute o m apos) (e::es) [] pos) (NR Cc m sp [] E ta t):=by
 obtain⟨f,z,F,s,v⟩:=C.ex;exact Zoh u c s F r v .nil hx y g h n
def K9(C:Tv X.prog X.w X.K X.mg X.base CX k (Kc X.K Cc m) ps sp)(c:Cls X.K Cc)(l:XC k X.A)(hx:PQ CX X E)(r:PE X o ta)
  (h:autoParam (eval (.Call (.Attribute o m apos) [] [] pos) X.env=(do
   let g ←eval o X.env
   standAt apos.atName
   let (f,first) ←holding [g] (getMethod g m u)
   callWith pos f first (backTo pos<|starEach [] X.env) (backToKw pos<|keywordEach [] X.env))) au_0) :
  PE X (.Call (.Attribute o m apos) [] [] pos) (NR Cc m sp [] E ta P7):=by
 obtain⟨f,v,F,n,s⟩:=C.ex;exact Zfa r c n F l s .nil hx h
def Zm7(C:Tv X.prog X.w X.K X.mg X.base CX k (Mk X.K Cc) ps sp)(n:X.mg x=some (.ref Cc))(l:XC (k+1) X.A)(hx:PQ CX X E)(v:PA X (e::es) t)(r:autoParam (Gl X x) au_0)(h:autoParam ((x==("__debug__" : Str))=false) au_1)(s:autoParam (starEach (e::es) X.env=(false,eval e X.env)::starEach es X.env) au_0)(g:autoParam ((backTo pos<|starEach es X.env).any (·.1)=false) au_0) :
  PE X (.Call (.Name x p) (e::es) [] pos) (G3 Cc sp [] E t):=by
 obtain⟨f,y,F,M,u⟩:=C.ex;exact Zh3 M F l r n u .nil hx v h s g
end
abbrev PTF:=Γ->Str->(Str->Prop)->XR->Prop
section
variable {K:ZV}{mg:ZZ}{E:L2.St->XK}{t:ExcR.TF}{p:PTF}{te:TE}{a:PTE}
def SC(K:ZV)(mg:ZZ)(E:L2.St->XK)(t:ExcR.TF)(p:PTF):Prop:=∀(n:Hp) (B:Addr->Prop) (H:Hp) (h:L2.St) (l:Γ) (f:Str) (R:Str->Prop) (X:XR) (Q:Str->Hp->Prop),X4 K n B H h l->p l f R X->
 (∀x g,R x->Same H g->Q x g)->(∀c g,X c->Same H g->XE mg (E h) c g)->t h H f Q
noncomputable def Zrh:PTF:=λ_ f R _=>f.length<=sizeLine/\R f
def N9:SC K mg E ExcR.R6 Zrh:=λo B H l n f R X Q g h q _=>⟨h.1,q _ H h.2 (Same.refl _)⟩
noncomputable def Zcz(x:Str)(p:PTF):PTF:=λg f R X=>(f++x).length<=sizeLine/\p g (f++x) R X
def PV(h:SC K mg E t p):SC K mg E (ExcR.OY x t) (Zcz x p):=λs B H l n r R X Q f g q o=>⟨g.1,h s B H l n _ R X Q f g.2 q o⟩
noncomputable def Zj6(a:PTE)(p:PTF):PTF:=λg f R X=>a g (λs=>match s.d with
 | .int i=>i.natAbs.log2<1920/\(f++(Str.ofString<|toString i)).length<=sizeLine/\p g (f++Str.ofString (toString i)) R X
 | .str x=>x.length<=sizeLine/\(f++x).length<=sizeLine/\p g (f++x) R X
 |_=>False) X
def NB(N:Xx K mg E te a)(h:SC K mg E t p):SC K mg E (ExcR.L8 te t) (Zj6 a p):=λC B H w y L R X Q o M q z=>by
 refine N C B H w y _ X _ o M (λs v G g r J=>?_) z;have f:=o.grow r;have u:=J.rp f.same;split at g
 ·rename_i i ei;rw[ei]at u;exact .inl ⟨i,u.int_inv,g.1,g.2.1,h C B G w y _ R X Q f g.2.2 (λx n hx l=>q x n hx (r.trans l)) λc n A l=>z c n A (r.trans l)⟩
 ·rename_i x T;rw[T]at u;exact .inr ⟨x,u.str_inv,g.1,g.2.1,h C B G w y _ R X Q f g.2.2 (λx n hx l=>q x n hx (r.trans l)) λc n A l=>z c n A (r.trans l)⟩
 ·grind
noncomputable def pF(p:PTF):PTE:=λf R X=>p f Str.empty (λx=>R (.sh<|.str x)) X
def NH(h:SC K mg E t p):Xx K mg E (ExcR.tF t) (pF p):=λs B H g l R X Q f o q n=>
 h s B H g l _ _ X _ f o (λx u hx r=>q _ _ u hx r (.str x)) n
end
open M
noncomputable abbrev plD(f:ZW):D:=.lst (f.map prD)
noncomputable abbrev dD(q:Str×ZX):D:=.tup (.str q.1::q.2.map D.int)
noncomputable abbrev vF:Ye:=["book","fields","wished"]
noncomputable abbrev vO(C x b1 b2 g:Addr)(bk:List (Str×ZX))(fs f:List (ZW)):O:=.ins x C vF [(b1,bk.map dD),(b2,fs.map plD),(g,f.map plD)]
noncomputable abbrev Bm(C:Addr)(bk:List (Str×ZX))(fs f:List (ZW)):D:=.ins C vF [.lst (bk.map dD),.lst (fs.map plD),.lst (f.map plD)]
def Fc{g:Type}(f:g->D)(xs:List g)(x:g):atI ((xs++[x]).map f) (-1)=some (f x):=by
 refine PJ ?_;unfold atI ixN;rw[WN (by lia),WQ (by grind)];show(xs++[x])[_]?=some x;have e:((-1:Int)+((xs++[x]).length:Int)).toNat=xs.length:=by grind
 rw[e,Qr (WS _),Nat.sub_self];rfl
def Kv(e:Option Str)(X:Str->Prop)(R:Prop):Prop:=match e with|some c=>X c|none=>R
noncomputable def Bc(h:Int):Option Str:=if 1<=h/\h<=10 then none else some "BadHolder"
noncomputable def NP:ZW->Option Str
 |[]=>none
 |q::r=>if ¬(1<=q.1/\q.1<=10)then some "BadHolder" else if ¬(1<=q.2/\q.2<=1000)then some "BadWidth" else NP r
noncomputable def Bu(ps:ZW):Option Str:=if 40<ps.length then some "TooManyStrips" else NP ps
theorem Hq:∀{ps:ZW},Field ps->NP ps=none
 |[],_=>rfl
 |q::r,h=>by
  obtain⟨n,l,g,f⟩:=h q Q9;unfold NP;rw[WN (λz=>z ⟨n,l⟩),WN (λz=>z ⟨g,f⟩)];exact Hq λx hx=>h x (Qs _ hx)
def Zo6(h:Field ps)(f:ps.length<=40):Bu ps=none:=by
 unfold Bu;rw[WN (by lia)];exact Hq h
noncomputable def Aq(ps:ZW)(p:Int):Option Str:=if p<1\/(ps.length:Int)<p then some "NoStrip" else none
noncomputable def X6(ps:ZW)(p:Int):Int×Int:=ps.getD (p-1).toNat (0,0)
noncomputable def P3(ps:ZW)(p h:Int):Option Str:=if p<1\/(ps.length:Int)<p then some "NoStrip" else if ¬(1<=h/\h<=10)then some "BadHolder" else if (X6 ps p).1=h then some "OwnStrip" else none
noncomputable def Nc(ps:ZW)(p h:Int):ZW:=ps.set (p-1).toNat (h,(X6 ps p).2)
def Ho{ps:ZW}{p:Int}{x}(g:1<=p)(f:p<=ps.length):cutD (ps.map prD) none (some (p-1))++[prD x]++cutD (ps.map prD) (some p) none=(ps.set (p-1).toNat x).map prD:=by
 rw[TC,TC,BJ ps (by lia),SH ps (by lia)];have e:p.toNat=(p-1).toNat+1:=by lia
 rw[e,List.set_eq_take_append_cons_drop,WQ (by lia),WY,Qa,Jc];rfl
def PD{p}(g:1<=p)(f:p<=ps.length):atI (ps.map prD) (p-1)=some (prD<|X6 ps p):=by
 rw[PU (by lia) (by lia)];unfold X6;rw[WK,WI (by lia)];rfl
def Rz(ps:ZW)(p h:Int):(Nc ps p h).length=ps.length:=QN ..
def Zhe(f:Field ps)(e:P3 ps p h=none):Field (Nc ps p h):=by
 unfold P3 at e;split at e
 ·cases e
 ·split at e
  ·cases e
  ·rename_i r o;have g:(p-1).toNat<ps.length:=by lia
   intro q hq;rcases List.mem_or_eq_of_mem_set hq with hq|rfl
   ·exact f q hq
   ·have:X6 ps p∈ps:=by
     unfold X6;rw[WK,WI g]
     grind
    obtain⟨_,_,n,l⟩:=f _ this;lia
def Zjx(q:Int×Int)(r:ZW):NP (q::r)=if ¬(1<=q.1/\q.1<=10)then some ("BadHolder" : Str)else if ¬(1<=q.2/\q.2<=1000)then some ("BadWidth" : Str)else NP r:=rfl
noncomputable def KD(ps:ZW)(p w:Int):Option Str:=if p<1\/(ps.length:Int)<p then some "NoStrip" else if w<1\/(X6 ps p).2<=w then some "BadPart" else if 40<=ps.length then some "TooManyStrips" else none
noncomputable def PZ(ps:ZW)(p w:Int):ZW:=ps.take (p-1).toNat++[((X6 ps p).1,w),((X6 ps p).1,(X6 ps p).2-w)]++ps.drop p.toNat
noncomputable def BD(ps:ZW)(p w:Int):List Bool:=if p<1\/(ps.length:Int)<p then[true,true,false,false]else if w<1\/(X6 ps p).2<=w then[true,false,true,false]else if 40<=ps.length then[true,false,false,true]else[]
def RW(ps:ZW)(p w:Int):(KD ps p w=some ("NoStrip" : Str)/\BD ps p w=[true,true,false,false])\/(KD ps p w=some ("BadPart" : Str)/\BD ps p w=[true,false,true,false])\/(KD ps p w=some ("TooManyStrips" : Str)/\BD ps p w=[true,false,false,true])\/
  (KD ps p w=none/\BD ps p w=[]/\1<=p/\p<=ps.length/\1<=w/\w<(X6 ps p).2/\ps.length<40):=by
 unfold KD BD;by_cases c:p<1\/(ps.length:Int)<p
 ·grind
 ·grind
def Sf{p}(h:1<=p)(g:p<=ps.length):X6 ps p∈ps:=by
 have f:(p-1).toNat<ps.length:=by lia
 unfold X6;rw[WK,WI f]
 grind
def Oo{p w}(f:1<=p):cutD (ps.map prD) none (some (p-1))++[prD ((X6 ps p).1,w),prD ((X6 ps p).1,(X6 ps p).2-w)]++cutD (ps.map prD) (some p) none=(PZ ps p w).map prD:=by
 rw[TC,TC,BJ ps (by lia),SH ps (by lia)];unfold PZ
 grind
def RU{p w}(g:1<=p)(f:p<=ps.length):(PZ ps p w).length=ps.length+1:=by
 unfold PZ
 grind
def Zdi{p w:Int}(f:Field ps)(h:1<=p)(g:p<=ps.length)(n:1<=w)(l:w<(X6 ps p).2):Field (PZ ps p w):=by
 obtain⟨a1,a2,a3,a4⟩:=f _ (Sf h g);intro q hq;rcases Qm.mp hq with hq|hq
 ·rcases Qm.mp hq with hq|hq
  ·exact f q (Jm hq)
  ·grind
 ·exact f q (List.mem_of_mem_drop hq)
noncomputable def nextM(f r:ZX):List (ZX):=(f.filter λh=>!decide (h∈r)).map λh=>r++[h]
noncomputable def PP(f:ZX):Nat->List (ZX)
 | 0=>[[]]
 |k+1=>(PP f k).flatMap (nextM f)
def next_mem:o∈nextM f r↔∃h,h∈f/\h∉r/\o=r++[h]:=by
 unfold nextM;constructor
 ·grind
 ·grind
theorem rows_mem:∀{k}{r:ZX},r∈PP f k↔r.length=k/\r.Nodup/\∀x∈r,x∈f
 | 0,r=>by
  unfold PP;constructor
  ·intro h;rw[WR]at h;subst h;exact⟨rfl,V9,by simp⟩
  ·rintro⟨h,_⟩;rw[VP.mp h];exact WR.mpr rfl
 |k+1,r=>by
  unfold PP;rw[List.mem_flatMap];constructor
  ·rintro⟨p,g,l⟩;obtain⟨h,s,o,rfl⟩:=next_mem.mp l;obtain⟨a,b,c⟩:=rows_mem.mp g
   ·rw[QK]
    grind
  ·rintro⟨a,b,c⟩;rcases QD r with rfl|⟨p,h,rfl⟩
   ·cases a
   ·rw[QU]at a b c ⊢;rw[QK]at b;obtain⟨b1,_,n⟩:=b;refine⟨p,rows_mem.mpr ⟨by rw[WT]at a;simpa using a,b1,λx hx=>c x (Ve _ hx)⟩,next_mem.mpr ⟨h,c h (by simp),λz=>n h z h (by simp) rfl,rfl⟩⟩
theorem Ot:∀{a b} x y,sl a b->sl (a++x) (b++y)
 |[],_,_,_,h|_::_,[],_,_,h=>by cases h
 |a::r,b::t,x,y,h=>by
  rcases h with h|⟨e,h⟩
  ·exact .inl h
  ·exact .inr ⟨e,Ot x y h⟩
theorem Hn:∀r {a b:Int},a<b->sl (r++[a]) (r++[b])
 |[],_,_,h=>.inl h
 |c::r,_,_,h=>.inr ⟨rfl,Hn r h⟩
theorem G5(f:l.Pairwise (· < ·)):∀k,(PP l k).Pairwise sl
 | 0=>by unfold PP;exact Vi _ _
 |k+1=>by
  unfold PP;rw[List.pairwise_flatMap];refine⟨λr _=>?_,(G5 f k).imp λ{a b} h x hx y g=>?_⟩
  ·unfold nextM;rw[QJ];exact(f.filter _).imp λh=>Hn r h
  ·obtain⟨_,_,_,rfl⟩:=next_mem.mp hx;obtain⟨_,_,_,rfl⟩:=next_mem.mp g;exact Ot _ _ h
def Ar(l:g.Nodup):r∈PP g g.length↔r.Perm g:=by
 rw[rows_mem];constructor
 ·rintro⟨p,o,n⟩;rw[Vk o l];refine λx=>⟨n x,λhx=>?_⟩;by_cases c:x∈r
  ·lia
  ·have:=List.Nodup.length_le_of_subset (Q3.mpr ⟨c,o⟩) (by
    intro y f;rcases WZ.mp f with rfl|f
    ·exact hx
    ·exact n y f)
   grind
 ·intro h;exact⟨h.length_eq,h.nodup_iff.mpr l,λx hx=>h.mem_iff.mp hx⟩
theorem Cy:∀{a b:ZX},sl a b->¬sl b a
 |[],_,h,_|_::_,[],h,_=>by cases h
 |a::r,b::t,h,k=>by
  rcases h with h|⟨e,h⟩
  ·rcases k with k|⟨e,_⟩<;>lia
  ·rcases k with k|⟨_,k⟩
   ·lia
   ·exact Cy h k
noncomputable def wdM(ps:ZW)(x:Int):Int:=(X6 ps x).2
noncomputable def Pt(ps:ZW)(r:ZX)(x:Int):Int:=wdM ps x*(((X0 1 (x-1).toNat).filter λy=>!decide (y∈r)).map (wdM ps)).sum
noncomputable def stD(q:ZX×Int):D:=.tup [tD q.1,.int q.2]
noncomputable def T4(ps:ZW)(q:ZX×Int):List (ZX×Int):=((X0 1 ps.length).filter λx=>!decide (x∈q.1)).map λx=>(q.1++[x],q.2+Pt ps q.1 x)
def Zf6(q:ZX×Int):imm (stD q)=true:=by
 unfold stD imm Pb;rw[Zrw];rfl
def GV(q:ZX×Int):arg (stD q)=.sh (stD q):=by
 unfold arg;rw[Zf6]
def run_mem:x∈X0 1 n↔1<=x/\x<=n:=by
 unfold X0;rw[Qf];constructor
 ·grind
 ·rintro⟨g,f⟩;exact⟨(x-1).toNat,Vd.mpr (by lia),by lia⟩
def Zps(ps:ZW)(q:ZX×Int):(T4 ps q).length<=ps.length:=by
 unfold T4;rw[WH]
 have:=Q5 (λx=>!decide (x∈q.1)) (X0 1 ps.length)
 rwa[KM]at this
theorem Ha(h:ps.length<=7):∀S:List (ZX×Int),(S.flatMap<|T4 ps).length<=S.length*7
 |[]=>by simp
 |q::t=>by
  rw[List.flatMap_cons,WT,Qi,Nat.succ_mul];have g:=Zps ps q;have f:=Ha h t;lia
noncomputable def Kf(ps:ZW):Nat->List (ZX×Int)
 | 0=>[([],0)]
 |k+1=>(Kf ps k).flatMap (T4 ps)
theorem Ld:∀{k}{q:ZX×Int},q∈Kf ps k->q.1.length=k
 | 0,q,h=>by
  unfold Kf at h
  grind
 |k+1,q,h=>by
  obtain⟨p,f,hq⟩:=List.mem_flatMap.mp h;obtain⟨x,_,rfl⟩:=Qf.mp hq;rw[WT,Ld f];rfl
theorem HZ(h:ps.length<=7):∀k,(Kf ps k).length<=7 ^ k
 | 0=>by unfold Kf;simp
 |k+1=>by
  exact WW (Ha h _) (Nat.mul_le_mul_right _<|HZ h k)
noncomputable def Tf(ps:ZW):ZX->ZX->Int
 |_,[]=>0
 |pre,x::t=>Pt ps pre x+Tf ps (pre++[x]) t
theorem RY(ps:ZW)(x:Int):∀t pre,Tf ps pre (t++[x])=Tf ps pre t+Pt ps (pre++t) x
 |[],pre=>by
  show Pt ps pre x+0=0+Pt ps (pre++[]) x;simp
 |y::t,pre=>by
  show Pt ps pre y+Tf ps (pre++[y]) (t++[x])=Pt ps pre y+Tf ps (pre++[y]) t+Pt ps (pre++y::t) x;rw[RY ps x t (pre++[y]),Jc]
  grind
theorem Sy(ps:ZW):∀k,Kf ps k=(PP (X0 1 ps.length) k).map λr=>(r,Tf ps [] r)
 | 0=>rfl
 |k+1=>by
  unfold Kf PP;rw[Sy ps k,List.flatMap_map,List.map_flatMap];congr 1;funext r;unfold T4 nextM;rw[Qt];apply V6;intro x _;show(r++[x],Tf ps [] r+Pt ps r x)=(r++[x],Tf ps [] (r++[x]));rw[RY,List.nil_append]
noncomputable def XH(ps:ZW):ZX->Int
 |[]=>0
 |x::t=>wdM ps x*((t.filter λy=>decide (y<x)).map (wdM ps)).sum+XH ps t
def T9(n:Nat):(X0 1 n).Nodup:=by
 unfold X0;rw[List.Nodup,QJ];exact List.nodup_range.imp λh z=>h (by lia)
def BB(n:Nat):(X0 1 n).Pairwise (· < ·):=by
 unfold X0;rw[QJ];exact List.pairwise_lt_range.imp λh=>by lia
theorem Bz:∀{t pre:ZX},(pre++t).Perm (X0 1 ps.length)->Tf ps pre t=XH ps t
 |[],_,_=>rfl
 |x::t,pre,h=>by
  have g:=h.nodup_iff.mpr (T9 _)
  have l:∀y,y∈pre\/y=x\/y∈t↔1<=y/\y<=ps.length:=λy=>by
   rw[←run_mem,←h.mem_iff,Qm,WZ]
  rw[QK]at g;obtain⟨r,o,p⟩:=g;have n:=Q3.mp o
  have f:((X0 1 (x-1).toNat).filter λy=>!decide (y∈pre)).Perm (t.filter λy=>decide (y<x)):=by
   rw[Vk ((T9 _).filter _) (n.2.filter _)];intro y;rw[Qg,Qg,run_mem];constructor
   ·grind
   ·grind
  show Pt ps pre x+Tf ps (pre++[x]) t=wdM ps x*_+XH ps t;rw[Bz (by simp_all)];unfold Pt;rw[NU f]
theorem F7{x y}(h:x<y)(b:ZX):∀a,XH ps (a++y::x::b)=XH ps (a++x::y::b)+wdM ps x*wdM ps y
 |[]=>by
  show wdM ps y*(((x::b).filter λz=>decide (z<y)).map (wdM ps)).sum+(wdM ps x*((b.filter λz=>decide (z<x)).map (wdM ps)).sum+XH ps b)=wdM ps x*(((y::b).filter λz=>decide (z<x)).map (wdM ps)).sum+(wdM ps y*((b.filter λz=>decide (z<y)).map (wdM ps)).sum+XH ps b)+wdM ps x*wdM ps y
  grind
 |c::a=>by
  show wdM ps c*(((a++y::x::b).filter λz=>decide (z<c)).map (wdM ps)).sum+XH ps (a++y::x::b)=wdM ps c*(((a++x::y::b).filter λz=>decide (z<c)).map (wdM ps)).sum+XH ps (a++x::y::b)+wdM ps x*wdM ps y;rw[F7 h b a,NU (List.Perm.filter _<|List.Perm.append_left a<|List.Perm.swap x y b)];lia
theorem IR:∀{r:ZX},r.Nodup->(∀a x y b,r=a++x::y::b->¬y<x)->r.Pairwise (· < ·)
 |[],_,_=>List.Pairwise.nil
 |[x],_,_=>Vi _ _
 |x::y::t,l,h=>by
  have g:=IR (Q3.mp l).2 λa u v b e=>h (x::a) u v b (by grind)
  have n:x<y:=by
   have o:=h [] x y t rfl
   grind
  refine QO.mpr ⟨λz f=>?_,g⟩;rcases WZ.mp f with rfl|f
  ·lia
  ·have:=(QO.mp g).1 z f
   lia
def DW{r}(h:r.Perm (X0 1 n))(f:r≠X0 1 n):∃a x y b,r=a++x::y::b/\y<x:=by
 by_cases c:∃a x y b,r=a++x::y::b/\y<x
 ·omega
 ·refine absurd ?_ f;exact A3 (IR (h.nodup_iff.mpr<|T9 n) λa x y b e z=>c ⟨a,x,y,b,e,z⟩) (BB n) λz=>h.mem_iff
end Pu
namespace Pu
open PySem PySem.Spec PyProof.Rows L2 Own
section
variable {K:ZV}{mg:ZZ}{E:L2.St->XK}
noncomputable def Zlg(a:PTE)(l u:PTO):PTE:=λg R X=>a g (λs=>l g (λlo=>u g (λh=>∃f,Si s.shd=some f/\¬(HT.sIx f.length 0 lo=0/\HT.sIx f.length f.length h=f.length)/\R (.sh<|.tup<|cutD f lo h)) X) X) X
def LG{a l u}(ha:Xx K mg E te a)(hl:Nz K mg E T l)(hu:Nz K mg E U u):Xx K mg E (tSl (Ce K) te T U) (Zlg a l u):=by
 intro J B H o s R X Q f p q w;refine ha J B H o s _ X _ f p (λx v H1 h1 h Y=>?_) w;refine hl J B H1 o s _ X _ (f.grow h) h1 (λlo H2 h2 n=>?_) λc L A G=>w c L A (h.trans G);refine hu J B H2 o s _ X _ ((f.grow h).grow n) h2 (λhi H3 h3 M=>?_) λc L A G=>w c L A ((h.trans n).trans G);have g:=(h.trans n).trans M;obtain⟨ds,e,hn,hR⟩:=h3;cases C:x.shd with
 |none=>rw[C]at e;cases e
 |some d=>
  rw[C]at e;cases d with
  |tup ds'=>
   cases e
   obtain⟨b,N,rfl,hb,r⟩:=Rp.tup_inv ((Y.grow<|n.trans M).shd (f.grow g).same f.zm g C);refine⟨b,N,rfl,SqT.of (off_sub _ _ hb),by rw[r.len];exact hn,λm y=>q _ _ _ hR (g.trans<|Kk y) ?_⟩;refine .tup (Kg XZ λz=>?_) (Rps.mono (XB (Kk y) λ_ _ _ z=>z) r.cut)
   have:=Tn g (f.zm m z)
   rw[y]at this;exact this
  |_=>cases e
def Ie(f:autoParam (X.K=K) au_0):SlR X (Ce K):=by subst f;exact Zl7
noncomputable def Zb2(K:ZV):R2:=λx y H Q=>∃(p q:Addr) (xs f:List V),x=.ref p/\y=.ref q/\SqT K H p xs/\SqT K H q f/\xs.all Px=true/\f.all Px=true/\Q (.bl<|eqL xs f) H
def Zmv(w:X.A.units<cLine)(B:autoParam (X.K=K) au_0):OpR X (compareOp .Eq) (Zb2 K):=by
 subst B;intro pins s L H x y v u Q I o n h;obtain⟨p,q,xs,f,rfl,rfl,z,hq,f1,J,k⟩:=h;obtain rfl:=o;obtain rfl:=n;obtain⟨N,l,r,_⟩:=I.tuple z;obtain⟨M,g,p2,_⟩:=I.tuple hq;have U:=l.length;have T:=g.length;refine SeqAt.eq_tupleAt r p2 w (λj G C=>B6 l g f1 J j G C) ⟨.bl (eqL xs f),H,I,?_,k⟩;show _=Value.bool (eqL xs f);unfold eqL;by_cases e:xs.length=f.length
 ·grind
 ·grind
def Zdv:S->S->(S->Prop)->Prop:=λx y R=>∃xs f:ZX,x.d=.tup (xs.map D.int)/\y.d=.tup (f.map D.int)/\R (.sh<|.bl<|decide (xs=f))
def Zoc{a b}(J:Xx K mg E z a)(G:Xx K mg E w b):Xx K mg E (tOp (Zb2 K) z w) (p2 a b Zdv):=by
 refine Pv J G λH0 H T Z x y v u R Q g s1 hm s r h q=>?_;obtain⟨xs,U,N,M,L⟩:=h;have n:=s.rp g;have l:=r.rp g;rw[N]at n;rw[M]at l;obtain⟨p,us,rfl,o,B⟩:=Rp.tup_inv n;obtain⟨C,Y,rfl,f,A⟩:=Rp.tup_inv l;rw[B.ints]at o;rw[A.ints]at f;refine⟨p,C,_,_,rfl,rfl,SqT.of o,SqT.of f,Ts _,Ts _,?_⟩;rw[FY];exact q _ _ T L (Same.refl _) (.bl _)
end
end Pu
namespace Own
open PySem PySem.Spec PyProof.Rows L2 PySem.SeqAt PySem.MeetsSeq PySem.MeetsSeq2 PySem.MeetsSeq3 PySem.SeqRoads2
open AutoSeq1 (wpAny_loadPart')
def Zem(A:Around)(s:Shared)(y x:Value)(b:Bool):Prop:=
 ∀(prog:Program) (w:World) (E:Ya) (Q:Ya),Q (.bool b) s->wpAny (model prog w) A (richCompare .GtE y x) Q E s
def Zfs(p q:Addr)(us ws:Yj)(m m2:Nat)(da db:Yi)(sa sb:Array (Yh))(hsz:us.size=ws.size)(e c:Nat->Bool) :
  Meets (Builtin.«tuple.__ge__» ⟨[.ref p,.ref q],[]⟩)
   (λA R s=>s.heap.get? p=some {cls:=.type "tuple",dict:=da,data:=.seq us m,slots:=sa}/\s.heap.get? q=some {cls:=.type "tuple",dict:=db,data:=.seq ws m2,slots:=sb}/\
    (∀j a (b:j<ws.size),EqAt A.in1 s us[j] ws[j] (e j)/\Zem A.in1 s us[j] ws[j] (c j))/\
    R (.ok<|.ret<|.bool<|leF e c us.size 0) s):=
 .of_wp λprog w A R s h=>by
  obtain⟨hp,ge,dr,tk,os⟩:=s;obtain⟨h1,h2,both,hR⟩:=h;have sub:=AutoSeq1.sub_tuple_tuple;have hZ:(us.toList.zip ws.toList).length=us.size:=by simp;lia
  wp_walk using wpAny_loadPart' h1,wpAny_loadPart' h2,wpAny_forIn_list _ (λrest b s'=>b.1=none/\s'=⟨hp,ge,dr,tk,os⟩/\∃i,i<=us.size/\rest=(us.toList.zip ws.toList).drop i/\
   R (.ok<|.ret<|.bool<|leF e c (us.size-i) i) ⟨hp,ge,dr,tk,os⟩) _
  case turn=>
   rintro⟨y,x⟩ rest b s' ⟨hn,rfl,i,hi,hz,hr⟩
   have lt:i<(us.toList.zip ws.toList).length:=by
    by_cases z:i<(us.toList.zip ws.toList).length
    ·exact z
    ·rw[VZ (by lia)]at hz;cases hz
   have a1:i<us.size:=by lia
   have a2:i<ws.size:=by lia
   rw[Qw lt]at hz;obtain⟨yx,tl⟩:=List.cons.inj hz;obtain rfl:y=us[i]:=by simpa using QB Prod.fst yx
   obtain rfl:x=ws[i]:=by simpa using QB Prod.snd yx
   have sk:us.size-i=(us.size-(i+1))+1:=by lia
   rw[sk]at hr;unfold leF at hr;refine WG ((both i a1 a2).1 prog w _ _ ?_);cases ei:e i with
   |true=>
    rw[ei,WQ rfl]at hr
    wp_walk
    exact⟨rfl,rfl,i+1,by lia,tl,hr⟩
   |false=>
    rw[ei,WN Qe]at hr;have gc:∀{F:Ya} {P:Ya},P (.bool<|c i) ⟨hp,ge,dr,tk,os⟩->wpAny (model prog w) A.in1 (richCompare .GtE us[i] ws[i]) P F ⟨hp,ge,dr,tk,os⟩:=λhQ=>(both i a1 a2).2 prog w _ _ hQ
    wp_walk using gc
    exact⟨_,rfl,hr⟩
  case fin=>
   rintro⟨b1,b2⟩ s' ⟨hn,rfl,i,hi,hz,hr⟩;simp only at hn;subst hn
   have ge':us.size<=i:=by
    by_cases z:i<(us.toList.zip ws.toList).length
    ·rw[Qw z]at hz;cases hz
    ·lia
   rw[show us.size-i=0 by lia]at hr
   wp_walk
   exact⟨_,rfl,by simpa [Builtin.Tuple.tupleCompareSizes,leF,hsz]using hr⟩
  case h=>
   exact⟨rfl,rfl,0,QV _,rfl,by simpa using hR⟩
noncomputable def geI:ZX->ZX->Bool
 |a::r,b::t=>if a=b then geI r t else decide (b<=a)
 |_,_=>true
theorem MR{xs ys:ZX}{e c}(n:xs.length=ys.length)(l:∀j g (f:j<ys.length),e j=decide (xs[j]=ys[j])/\c j=decide (ys[j]<=xs[j])) :
  ∀k i,xs.length-i=k->leF e c k i=geI (xs.drop i) (ys.drop i)
 | 0,i,h=>by
  rw[VZ (by lia)];rfl
 |k+1,i,h=>by
  have g:i<xs.length:=by lia
  have f:i<ys.length:=by lia
  rw[Qw g,Qw f];unfold leF geI;rw[(l i g f).1,(l i g f).2,MR n l k (i+1) (by lia)];by_cases z:xs[i]=ys[i]
  ·simp
  ·simp
noncomputable def Ou(K:ZV):R2:=λx y H Q=>∃(p q:Addr) (xs f:ZX),x=.ref p/\y=.ref q/\SqT K H p (xs.map V.int)/\SqT K H q (f.map V.int)/\xs.length=f.length/\Q (.bl<|geI xs f) H
section
variable {X:Cx}{K:ZV}
def Zpy(hu:X.A.units<cLine)(hK:autoParam (X.K=K) au_0):OpR X (compareOp .GtE) (Ou K):=by
 subst hK;intro pins s σ H x y v u Q I rx ry h;obtain⟨p,q,xs,f,rfl,rfl,hp,hq,hl,k⟩:=h;obtain rfl:=rx;obtain rfl:=ry;obtain⟨C,N,p1,_⟩:=I.tuple hp;obtain⟨G,M,p2,_⟩:=I.tuple hq;have Y:=N.length;have l2:=M.length;rw[WH]at Y l2;obtain⟨⟨cls,dd,data,sl⟩,ho,hc,n,hd⟩:=id p1;obtain⟨⟨cls2,U,data2,J⟩,g,o,n2,l⟩:=id p2;simp only at hc hd o l;subst hc hd o l
 have T:leF (λj=>eqV ((xs.map V.int).getD j .non) ((f.map V.int).getD j .non)) (λj=>decide (f.getD j 0<=xs.getD j 0)) C.toArray.size 0=geI xs f:=by
  rw[Qn,←Y];refine(MR hl (λj B r=>⟨?_,?_⟩) xs.length 0<|by lia)
  ·rw[WK,WK,WV,WV,WI B,WI r];show eqV (V.int xs[j]) (V.int f[j])=_;show(xs[j]==f[j])=decide (xs[j]=f[j]);by_cases z:xs[j]=f[j]<;>simp[z]
  ·rw[WK,WK,WI B,WI r];rfl
 show wpAny _ _ (richCompare .GtE (.ref p)<|.ref q) _ _ s
 refine richCompare_meets_room ⟨_,ho,rfl⟩ ⟨_,g,rfl⟩ PySem.F.slot_tuple_ge PySem.F.entry_tuple_ge (PySem.F.args_tuple_ge_2 _ _)
  (Zfs p q C.toArray G.toArray n n2 dd U sl J (by simp;lia) (λj=>eqV ((xs.map V.int).getD j .non) ((f.map V.int).getD j .non)) (λj=>decide (f.getD j 0<=xs.getD j 0)))
  ⟨ho,g,λj B r=>⟨B6 N M (Ts _) (Ts _) j B r,?_⟩,?_⟩ hu
 ·have g1:j<C.length:=by simpa using B
  have g2:j<G.length:=by simpa using r
  have k1:(xs.map V.int)[j]?=some (.int (xs[j]'(by lia))):=by rw[WV,WI (by lia)];rfl
  have k2:(f.map V.int)[j]?=some (.int (f[j]'(by lia))):=by rw[WV,WI (by lia)];rfl
  obtain⟨u,eu,t,ru⟩:=N.get k1;obtain⟨w,ew,t',L⟩:=M.get k2
  have e1:C.toArray[j]=.int (xs[j]'(by lia)) t:=by
   rw[WI g1,ru]at eu;simpa using eu
  have e2:G.toArray[j]=.int (f[j]'(by lia)) t':=by
   rw[WI g2,L]at ew;simpa using ew
  rw[e1,e2];intro prog w E Q hQ;show wpAny _ _ (compareOp .GtE _ _) _ _ _;refine ge_int ?_;rw[WK,WK,WI (by lia),WI (by lia)]at hQ;exact hQ
 ·rw[T];exact⟨(λx=>nomatch x),.bl (geI xs f),H,I,rfl,k⟩
end
end Own
namespace Pu
open PySem PySem.Spec PyProof.Rows L2 Own M
section
variable {K:ZV}{mg:ZZ}{E:L2.St->XK}
def Zok:S->S->(S->Prop)->Prop:=λx y R=>∃xs f:ZX,x.d=.tup (xs.map D.int)/\y.d=.tup (f.map D.int)/\xs.length=f.length/\R (.sh<|.bl<|geI xs f)
def Zf7{a b}(L:Xx K mg E z a)(J:Xx K mg E w b):Xx K mg E (tOp (Ou K) z w) (p2 a b Zok):=by
 refine Pv L J λH0 H U Z x y v u R Q g s1 hm s r h q=>?_;obtain⟨xs,Y,T,N,G,M⟩:=h;have n:=s.rp g;have l:=r.rp g;rw[T]at n;rw[N]at l;obtain⟨p,us,rfl,o,B⟩:=Rp.tup_inv n;obtain⟨C,ws,rfl,f,A⟩:=Rp.tup_inv l;rw[B.ints]at o;rw[A.ints]at f;exact⟨p,C,_,_,rfl,rfl,SqT.of o,SqT.of f,G,q _ _ U M (Same.refl _) (.bl _)⟩
theorem Iq:∀{a b:ZX},sl a b->geI a b=false
 |[],_,h|_::_,[],h=>by cases h
 |x::r,y::t,h=>by
  unfold geI;rcases h with h|⟨e,h⟩
  ·grind
  ·rw[WQ e];exact Iq h
end
end Pu
namespace Own
open PySem PySem.Spec PyProof.Rows L2
section
variable {prog:Program}{w:World}{A:Around}{s:Shared}{E:Ya}
noncomputable def Tu(f:Heap)(vs:Yd):Heap:=
 (f.push (seqObj "list" #[] 0)).update f.objs.size
  (Obj.mapSeq (·++vs.toArray))
def Ztw{Q}(l:s.heap.IsTuple p vs.toArray)(h:Q vs {s with heap:=Tu s.heap vs})(v:vs.length<=sizeLine) :
  wpAny (model prog w) A (collect<|.ref p) Q E s:=by
 obtain⟨f,g0,u,n,r⟩:=id l;unfold collect
 refine WG (JY
  (QX entry_proto_collect' ?_))
 refine WG (wpAny_newList (WJ
  ⟨Code.quiet_builtin _ (by decide +kernel),QX entry_list_iadd' ?_⟩))
 show wpAny _ _ (Builtin.List.listExtendWith (.ref s.heap.objs.size)
  (.ref p) (.ref s.heap.objs.size)) _ _ {s with heap:=s.heap.push (seqObj "list" #[] 0)}
 unfold Builtin.List.listExtendWith
 have g:(s.heap.push (seqObj "list" #[] 0)).get? p=some f:=
  WM _ g0
 refine WG (JP ⟨f,g,u⟩ ?_);have tt:(Value.type "tuple" == Value.type "tuple")=true:=by decide +kernel
 rw[WQ (by rw[tt,Bool.or_true])];refine WG (listItems_at g r ?_)
 refine WG (listItems_at
  (WU _ rfl) rfl ?_)
 rw[WN (by simp)]
 refine WG (listUpdate_at
  (WU _ rfl) rfl ?_ (QV _)
  (by show(#[]++vs.toArray).size<=sizeLine+1;simp only[Array.size_append,Qn,JR];lia))
 refine WJ ?_
 show wpAny (model prog w) A (do
   let o ←load s.heap.objs.size
   match o.data with
   | .seq xs _=>pure xs.toList
   |_=>unsupported "internal:collect") Q E {s with heap:=Tu s.heap vs}
 refine WG (wpAny_load (get?_update_seq
  (WU _ rfl) _) ?_)
 show wpAny _ _ (pure ((#[]:Yj)++vs.toArray).toList)
  Q E _
 rw[show((#[]:Yj)++vs.toArray).toList
  = vs by simp]
 exact WJ h
def Zrn(f:Heap)(vs:Yd):(Tu f vs).objs.size=f.objs.size+1:=by
 unfold Tu;simp
def Zsu{o}(g:f.get? b=some o):(Tu f vs).get? b=some o:=by
 unfold Tu;rw[Heap.get?_update_ne _ _ _ _ (Qj<|WX g)];exact WM _ g
def Zsr(n:s.heap.IsTuple p vs.toArray)(o:IntsAre vs ns)(l:vs.length<64)
  (h:∀f g,IntsAre f.toList g->g.Perm ns->g.Pairwise (·<=·)->
   Q (.ref (Tu s.heap vs).objs.size) {s with heap:=sortedHeap ((Tu s.heap vs).push (seqObj "list" vs.toArray 0)) (Tu s.heap vs).objs.size vs f}) :
  wpAny (model prog w) A (call (.builtin "sorted") [.ref p]) Q E s:=by
 refine Calls.call_function_entry kind_sorted
  plain_sorted entry_sorted (args_sorted1 _) ?_
 refine WG
  (WJ ?_)
 refine WG (Ztw n ?_<|WW (Jf l)<|by decide);refine WG (wpAny_newList ?_);have at_:((Tu s.heap vs).push (seqObj "list" vs.toArray 0)).get? (Tu s.heap vs).objs.size=some (seqObj "list" vs.toArray 0):=WU _ rfl
 refine WG (QZ (QE slot_list_sort ⟨_,at_,rfl⟩
  entry_list_sort (list_sort_tree at_ o l λf g a1 a2 a3=>⟨_,rfl,?_⟩) (args_list_sort _)))
 exact WJ ⟨_,rfl,h f g a1 a2 a3⟩
end
section
variable {X:Cx}{K:ZV}
def Zpm(L:autoParam (X.K=K) au_0):Kx X (.builtin "sorted") (λxs H Q=>∃p w,xs=[.ref p]/\w.length<64/\SqT K H p (w.map V.int)/\
  ∀l (ns:ZX),H l=none->ns.Perm w->ns.Pairwise (·<=·)->Q (.ref l) (upd H l<|.lst<|ns.map V.int)):=by
 subst L;intro pins s M H xs N Q I B h;obtain⟨p,w,rfl,E,J,q⟩:=h;obtain⟨u,rfl,C⟩:=B.one;obtain rfl:=C;obtain⟨f,r,pt,_⟩:=I.tuple J;have z:IntsAre f w:=by simpa using F9 r
 refine Zsr pt z (by rw[IntsAre.length z];exact E) λv ns a1 a2 a3=>?_;generalize A:Tu s.heap f=n;have keep:∀b o,s.heap.get? b=some o->n.get? b=some o:=λb o g=>A▸Zsu g;have le:s.heap.objs.size<=n.objs.size:=by rw[←A,Zrn];lia
 have at_:(n.push<|seqObj "list" f.toArray 0).get? n.objs.size=some (seqObj "list" f.toArray 0):=WU _ rfl;obtain⟨e,G⟩:=sortedHeap_at at_
 have x:∀b o,s.heap.get? b=some o->(sortedHeap (n.push<|seqObj "list" f.toArray 0) n.objs.size f v).get? b=some o:=λb o g=>by
  have y:=keep b o g;rw[sortedHeap_old (Qj<|WX y) (WX<|WM _ y)];exact WM _ y
 have big:(ns.map V.int).length<=sizeLine:=by
  rw[WH,a2.length_eq]
  grind
 refine⟨.ref n.objs.size,upd H n.objs.size (.lst<|ns.map V.int),I.laid x le ⟨big,v.toList,e,BF a1,?_⟩,rfl,q _ ns (I.hok.fresh le) a2 a3⟩;simpa [seqObj]using G
end
end Own
namespace Pu
open PySem PySem.Spec PyProof.Rows L2 Own M
section
variable {K:ZV}{mg:ZZ}{E:L2.St->XK}
def RZ:List S->(S->Prop)->Prop
 |[s],R=>∃g:ZX,s.d=.tup (g.map D.int)/\g.length<64/\∀f:ZX,f.Perm g->f.Pairwise (·<=·)->R (.own<|f.map D.int)
 |_,_=>False
def Zlv(C:XO K mg E x r):Xx K mg E (tCB (λxs H Q=>∃p f,xs=[.ref p]/\f.length<64/\SqT K H p (f.map V.int)/\
  ∀l (ns:ZX),H l=none->ns.Perm f->ns.Pairwise (·<=·)->Q (.ref l) (upd H l<|.lst<|ns.map V.int)) x) (pCB RZ r):=by
 refine Td C λU H T Z M J R Q z y N w h q=>?_;unfold RZ at h;split at h
 ·rename_i s;obtain⟨v,rfl,g⟩:=w.one_inv;obtain⟨f,e,B,G⟩:=h;have n:=g.rp z;rw[e]at n;obtain⟨p,L,rfl,u,A⟩:=Rp.tup_inv n;rw[A.ints]at u;exact⟨p,f,rfl,B,SqT.of u,λl ns o a b=>q _ _ _ (G ns a b) (Kk o) (Nq y o<|Rps.of_ints ns)⟩
 ·grind
end
noncomputable def K5(f:ZW)(a b:Int):Option Str:=if ¬(1<=a/\a<=10)then some "BadHolder" else if ¬(1<=b/\b<=10)then some "BadHolder" else if a=b then some "LikeHolders" else if (a,b)∈f then some "WishStands" else if 20<=f.length then some "TooManyWishes" else none
noncomputable def K6(f:ZW)(a b:Int):Option Str:=if (a,b)∈f then none else some "NoWish"
noncomputable def Nd(f:ZW)(a b:Int):ZW:=f.filter λq=>!decide (q=(a,b))
noncomputable def Kt(ps:ZW)(p:Int):Option Str:=if p<1\/(ps.length:Int)<=p then some "NoStrip" else if ¬(X6 ps p).1=(X6 ps (p+1)).1 then some "UnlikeHolders" else if 1000<(X6 ps p).2+(X6 ps (p+1)).2 then some "TooWide" else none
noncomputable def Te(ps:ZW)(p:Int):ZW:=ps.take (p-1).toNat++[((X6 ps p).1,(X6 ps p).2+(X6 ps (p+1)).2)]++ps.drop (p+1).toNat
def RR{p}(f:1<=p):cutD (ps.map prD) none (some (p-1))++[prD ((X6 ps p).1,(X6 ps p).2+(X6 ps (p+1)).2)]++cutD (ps.map prD) (some (p+1)) none=(Te ps p).map prD:=by
 rw[TC,TC,BJ ps (by lia),SH ps (by lia)];unfold Te
 grind
def Rb{p}(g:1<=p)(f:p<ps.length):(Te ps p).length+1=ps.length:=by
 unfold Te
 grind
def Zq6(f:Field ps)(e:Kt ps p=none):Field (Te ps p):=by
 unfold Kt at e;split at e
 ·grind
 split at e
 ·cases e
 split at e
 ·cases e
 obtain⟨a1,a2,a3,a4⟩:=f _ (Sf (p:=p) (by lia)<|by lia);obtain⟨b1,l,h,g⟩:=f _ (Sf (p:=p+1) (by lia)<|by lia);intro q hq;rcases Qm.mp hq with hq|hq
 ·rcases Qm.mp hq with hq|hq
  ·exact f q (Jm hq)
  ·grind
 ·exact f q (List.mem_of_mem_drop hq)
def Zrd(h:TL f)(e:K5 f a b=none):TL (f++[(a,b)]):=by
 unfold K5 at e;split at e
 ·cases e
 split at e
 ·cases e
 split at e
 ·cases e
 split at e
 ·cases e
 split at e
 ·cases e
 rename_i v u s n r;obtain⟨p,l,o⟩:=h;refine⟨by rw[WT,QT];lia,?_,λq hq=>?_⟩
 ·rw[QK];exact⟨l,by simp,λx hx y g z=>by rw[WR]at g;subst g;exact n (z▸hx)⟩
 ·grind
def Zrb(h:TL f):TL (Nd f a b):=
 ⟨WW (Q5 _ _) h.1,h.2.1.filter _,λq hq=>h.2.2 q (Qg.mp hq).1⟩
def Zl9:TL []:=by trivial
noncomputable def Zmz(m:ZX)(k:Int):Int:=1+(k*m.getD 1 0+m.getD 2 0) % 10
noncomputable def FU(ps:ZW)(os:ZX):Option Str:=if os.isPerm (X8 ps)=true then none else some "BadOrder"
def Zhc{os}(h:os.Perm (X8 ps)):FU ps os=none:=by
 unfold FU;rw[WQ (List.isPerm_iff.mpr h)]
def Zey{os ns}(f:ns.Perm os)(g:ns.Pairwise (·<=·)):(ns=X8 ps)↔os.isPerm (X8 ps)=true:=by
 rw[List.isPerm_iff];exact⟨λz=>z▸f.symm,λz=>Zu6 z f g⟩
noncomputable def BX(ps:ZW)(p:Int):List Bool:=if p<1\/(ps.length:Int)<=p then[true,true,false,false]else if ¬(X6 ps p).1=(X6 ps (p+1)).1 then[true,false,true,false]else if 1000<(X6 ps p).2+(X6 ps (p+1)).2 then[true,false,false,true]else[]
def L0(ps:ZW)(p:Int):(Kt ps p=some ("NoStrip" : Str)/\BX ps p=[true,true,false,false])\/(Kt ps p=some ("UnlikeHolders" : Str)/\BX ps p=[true,false,true,false])\/(Kt ps p=some ("TooWide" : Str)/\BX ps p=[true,false,false,true])\/
  (Kt ps p=none/\BX ps p=[]/\1<=p/\p<ps.length):=by
 unfold Kt BX;by_cases c:p<1\/(ps.length:Int)<=p
 ·grind
 ·grind
def Zq7{p}(g:1<=p)(f:p<ps.length):atI (ps.map prD) p=some (prD<|X6 ps (p+1)):=by
 have:=PD (ps:=ps) (p:=p+1) (by lia) (by lia)
 grind
noncomputable abbrev d3(k:Str)(a b:Int):D:=.tup [.str k,.int a,.int b]
end Pu
namespace M
open PySem PySem.Spec PyProof.Rows L2 Own Pu
theorem Zk4(c:Int->Int->Int):∀o,oc c o.reverse=oc (λx y=>c y x) o
 |[]=>rfl
 |a::r=>by
  rw[List.reverse_cons,FP,Zk4 c r,NU (List.reverse_perm r)];simp only[oc];lia
theorem LR(ps:ZW):∀o,oc (λx y=>pcM ps x y ps.length) o=Tr ps ps.length o
 |[]=>rfl
 |a::r=>by
  unfold oc Tr;rw[LR ps r]
def LO(g:Field ps)(h:o.Perm (X8 ps)):oc (λx y=>pcM ps x y ps.length) o=Tg ps o ps.length:=by
 rw[LR];refine MG (h.nodup_iff.mpr ((TK ps).imp (λh=>Ji h))) ps.length λj f=>?_;rw[WK,WI f];exact h.mem_iff.mpr ((Bi g).mpr (Qf.mpr ⟨_,Qc f,rfl⟩))
def Zua{o:ZX}(g:Field ps)(h:o.Perm (X8 ps)):∀p∈ps,p.1∈o:=λp f=>h.mem_iff.mpr ((Bi g).mpr (Qf.mpr ⟨p,f,rfl⟩))
def Rq(g:Keeps f o){a b}(n:a∈o)(l:b∈o.take (o.idxOf a)):(a,b)∉f:=by
 obtain⟨j,h,e⟩:=Q0.mp l;rw[Qo]at h
 have:=Q7.mp g j (o.idxOf a) (by lia) (List.idxOf_lt_length_iff.mpr n) (by lia)
 grind
end M
namespace Pu
open PySem PySem.Spec PyProof.Rows L2 Own
section
variable {K:ZV}{mg:ZZ}{E:L2.St->XK}
noncomputable def MN(K:ZV):R2:=λx y H Q=>∃(p q:Addr) (xs f:List V),x=.ref p/\y=.ref q/\SqT K H p xs/\SqT K H q f/\xs.all Px=true/\f.all Px=true/\Q (.bl (!eqL xs f)) H
def Lb(w:X.A.units<cLine)(B:autoParam (X.K=K) au_0):OpR X (compareOp .NotEq) (MN K):=by
 subst B;intro pins s L H x y v u Q I o n h;obtain⟨p,q,xs,f,rfl,rfl,z,hq,f1,J,k⟩:=h;obtain rfl:=o;obtain rfl:=n;obtain⟨N,l,r,_⟩:=I.tuple z;obtain⟨M,g,p2,_⟩:=I.tuple hq;have U:=l.length;have T:=g.length;refine SeqAt.RcNeAt.tuples r p2 w (λj G C=>B6 l g f1 J j G C) _ _ _ _ ⟨.bl (!eqL xs f),H,I,?_,k⟩;show _=Value.bool (!eqL xs f);unfold eqL;by_cases e:xs.length=f.length
 ·grind
 ·grind
def Dr:S->S->(S->Prop)->Prop:=λx y R=>∃xs f:ZX,x.d=.tup (xs.map D.int)/\y.d=.tup (f.map D.int)/\R (.sh<|.bl (!decide (xs=f)))
def RE{a b}(J:Xx K mg E z a)(G:Xx K mg E w b):Xx K mg E (tOp (MN K) z w) (p2 a b Dr):=by
 refine Pv J G λH0 H T Z x y v u R Q g s1 hm s r h q=>?_;obtain⟨xs,U,N,M,L⟩:=h;have n:=s.rp g;have l:=r.rp g;rw[N]at n;rw[M]at l;obtain⟨p,us,rfl,o,B⟩:=Rp.tup_inv n;obtain⟨C,Y,rfl,f,A⟩:=Rp.tup_inv l;rw[B.ints]at o;rw[A.ints]at f;refine⟨p,C,_,_,rfl,rfl,SqT.of o,SqT.of f,Ts _,Ts _,?_⟩;rw[FY];exact q _ _ T L (Same.refl _) (.bl _)
def OV:List S->(S->Prop)->Prop
 |[s],R=>(match s.d with | .int i=>R (.sh<|.int i) | .bl k=>R (.sh<|.int (if k then 1 else 0))|_=>False)
 |_,_=>False
def Ziy(u:XO K mg E n r):Xx K mg E (tCB (λxs H Q=>(∃i,xs=[.int i]/\Q (.int i) H)\/∃k,xs=[.bl k]/\Q (.int (if k then 1 else 0)) H) n) (pCB OV r):=by
 refine Td u λA H g Z x w R Q p y z l h q=>?_;unfold OV at h;split at h
 ·rename_i s;obtain⟨v,rfl,o⟩:=l.one_inv;have f:=o.rp p;split at h
  ·rename_i i e;rw[e]at f;exact .inl ⟨i,by rw[f.int_inv],q _ _ g h (Same.refl _) (.int _)⟩
  ·rename_i k e;rw[e]at f;exact .inr ⟨k,by rw[f.bl_inv],q _ _ g h (Same.refl _) (.int _)⟩
  ·grind
 ·exact h.elim
def Znc(p q:Int×Int):decide ([p.1,p.2]=[q.1,q.2])=decide (p=q):=by grind
def Zru{R}(h:R (.sh<|.bl (!decide (p=q)))):Dr (.sh<|prD p) (.sh<|prD q) R:=by
 refine⟨[p.1,p.2],[q.1,q.2],rfl,rfl,?_⟩;have e:decide ([p.1,p.2]=[q.1,q.2])=decide (p=q):=by grind
 rw[e];omega
end
structure DI (K:ZV) (x:Str) (st:Stmt):Prop where
 ex:∃f fd,PySem.W.nsIn K mainGlobals x=some (some<|.ref f)/\Fun K x x st f fd
structure MI (K:ZV) (C:Addr) (m q:Str) (st:Stmt):Prop where
 ex:∃f fd,PySem.W.findIn K (.ref C) m=some (some<|.ref f)/\PySem.W.isFn K (.ref f)=true/\Fun K m q st f fd
section
variable {K:ZV}{h:Heap}{mg:ZZ}
def di{st f oc r s n kV o p g ct}(a:PySem.W.nsIn K mainGlobals x=some (some<|.ref f))(l:K.lookup f=some ⟨oc,r,.func (PySem.W.fnOf x x (Ta st) (Km st) (Xy st) .none kV o p s g ct),n⟩)(c:PySem.W.codeIn K g x=true)(k:PySem.W.keepIn K (.ref f)=true):DI K x st:=⟨f,_,a,AB l c k⟩
def mi{st f oc r s n kV o p g ct}(a:PySem.W.findIn K (.ref C) m=some (some<|.ref f))(i:PySem.W.isFn K (.ref f)=true)(l:K.lookup f=some ⟨oc,r,.func (PySem.W.fnOf m q (Ta st) (Km st) (Xy st) .none kV o p s g ct),n⟩)(c:PySem.W.codeIn K g q=true)(k:PySem.W.keepIn K (.ref f)=true):MI K C m q st:=⟨f,_,a,i,AB l c k⟩
def DI.d {st ps} (D:DI K x st) (X:K.In h) (o:h.Ns mainGlobals mg)
  (b:∀kV f l n g ct us,us.length=ps.length->bindArgs (PySem.W.fnOf x x (Ta st) (Km st) (Xy st) .none kV f l n g ct) ⟨us,[]⟩=pure (ps.zip us)):Def K mg x st ps:=
 let ⟨_,_,a,F⟩:=D.ex
 ⟨_,_,F,QM X o a,F.binds b⟩
def MI.d {m q st ps} (D:MI K C m q st) (e:o=C)
  (b:∀kV f l n g ct us,us.length=ps.length->bindArgs (PySem.W.fnOf m q (Ta st) (Km st) (Xy st) .none kV f l n g ct) ⟨us,[]⟩=pure (ps.zip us)):Kb K (Kc K o m) m q st ps:=
 let ⟨_,_,a,i,F⟩:=D.ex
 ⟨_,_,F,by rw[e];exact⟨a,i,F.kp⟩,F.binds b⟩
def MI.i {q st ps} (D:MI K C "__init__" q st) (e:p=C) (mk:PySem.W.makesIn K C=true) (n:PySem.W.keepIn K (.ref C)=true)
  (b:∀kV f l o g ct us,us.length=ps.length->bindArgs (PySem.W.fnOf "__init__" q (Ta st) (Km st) (Xy st) .none kV f l o g ct) ⟨us,[]⟩=pure (ps.zip us)):Kb K (Mk K p) "__init__" q st ps:=
 let ⟨_,_,a,i,F⟩:=D.ex
 ⟨_,_,F,by rw[e];exact⟨mk,a,i,n⟩,F.binds b⟩
end
def fs{N P f}(r:autoParam (f.kind=.function) au_0)(p:autoParam (f.isCoroutine=false) au_0)(o:autoParam (f.isGenerator=false) au_0)(n:autoParam (N.Nodup) au_5)(l:autoParam (N.take P.length=P) au_0)(h:autoParam (∀x∈P,f.names.lookup x=some .local\/f.names.lookup x=some .cell) au_5)(g:autoParam (∀y∈f.names,y.2≠.free) au_5):Xz N P f:=⟨r,p,o,n,l,h,g⟩
def pz{pos x e te f}(i:Nat)(o:X.N.Nodup)(n:PE X e te)(h:autoParam (X.N[i]?=some x) au_0)(hx:autoParam (Loc X.env.scope x) au_6)(g:autoParam (swapsWith e (some<|.Name x f) pos.line X.env=pure false) au_0)(l:autoParam (X.fn x=true\/X.env.scope.names.lookup x=some .local) au_2) :
  PS X (.Assign [.Name x f] e pos) (Sn te<|Bx i):=Zeo o h hx n g l
section
variable {K:ZV}{mg:ZZ}{E:L2.St->XK}{H0 H H1 H':Hp}{B Z Z':Addr->Prop}{σ:L2.St}{γ:Γ}
def X4.named (env:X4 K H0 B H σ γ) (f:γ[i]?=some (some<|.own<|.lst ds)) (g:σ[i]?=some (some<|.ref a)):X4 K H0 B H σ (γ.set i<|some<|.own<|.lsA a ds)/\Fr B H σ γ H σ (γ.set i<|some<|.own<|.lsA a ds):=by
 obtain⟨v,l,b,rfl,u,p,n,r⟩:=env.slot i _ f;rw[g]at l;cases l
 have s:∀b,zof B (γ.set i<|some<|.own<|.lsA a ds) σ b->zof B γ σ b:=λb z=>by
  rcases z with z|⟨j,fs,C,A,x,o⟩
  ·exact .inl z
  ·rcases Ko A with⟨w,q,_⟩|⟨_,e⟩
   ·subst w;cases q
    exact .inr ⟨j,_,a,f,g,o⟩
   ·exact .inr ⟨j,fs,C,e,x,o⟩
 exact env.change f g (λ_ _ h _=>h) (λb h=>by rw[show b=a from h,n];trivial) (λb h=>.inl h) ⟨rfl,p,n,Rps.mono (XB (Same.refl _) λb _ _ z y=>z (s b y)) r⟩
noncomputable def pNm(i:Nat)(p:PTS):PTS:=λR γ=>match γ[i]? with
 |some (some<|.own<|.lst f)=>∀a,p R (γ.set i<|some<|.own<|.lsA a f)
 |_=>p R γ
def Zq3(i:Nat){t p}(g:XF K mg E t p):XF K mg E t (pNm i p):=by
 intro H0 B H σ γ R D n f h e;unfold pNm at h;split at h
 ·rename_i y l;obtain⟨v,o,b,rfl,r,u,x,w⟩:=f.slot i _ l;obtain⟨s,f1⟩:=f.named l o;exact g H0 B H σ _ R D n s (h b) (e.from f1)
 ·exact g H0 B H σ γ R D n f h e
def X4.change2 {o1 p Y g} (E:X4 K H0 B H σ γ) (hij:i≠j) (hi:γ[i]?=some (some<|.own o1)) (hj:γ[j]?=some (some<|.own Y)) (A:σ[i]?=some (some<|.ref a1)) (r:σ[j]?=some (some<|.ref a2))
  (hH:∀b x,H b=some x->¬o1.adr a1 b->¬Y.adr a2 b->H' b=some x) (hm:∀b,o1.adr a1 b\/Y.adr a2 b->Mut (H' b)) (n1:∀b,p.adr a1 b->o1.adr a1 b\/H b=none) (n2:∀b,g.adr a2 b->Y.adr a2 b\/H b=none) (ap:∀b,p.adr a1 b->¬g.adr a2 b)
  (r1:OR K (Pu.off (zof B ((γ.set i<|some<|.own p).set j (some<|.own g)) σ) H') H' a1 p) (r2:OR K (Pu.off (zof B ((γ.set i<|some<|.own p).set j (some<|.own g)) σ) H') H' a2 g) :
  X4 K H0 B H' σ ((γ.set i<|some<|.own p).set j (some<|.own g))/\Fr B H σ γ H' σ ((γ.set i<|some<|.own p).set j (some<|.own g)):=by
 generalize eg:(γ.set i<|some<|S.own p).set j (some<|.own g)=γ2 at r1 r2 ⊢
 have get:∀k s,γ2[k]?=some (some s)->(k=j/\s=.own g)\/(k=i/\k≠j/\s=.own p)\/(k≠i/\k≠j/\γ[k]?=some (some s)):=λk s h=>by
  rw[←eg]at h;rcases Ko h with⟨G,C,_⟩|⟨G,C⟩
  ·exact .inl ⟨G,(Qb C).symm⟩
  ·rcases Ko C with⟨f1,f2,_⟩|⟨f1,f2⟩
   ·exact .inr (.inl ⟨f1,G,(Qb f2).symm⟩)
   ·exact .inr (.inr ⟨f1,G,f2⟩)
 obtain⟨v1,T,x1,rfl,h1,k1⟩:=E.slot i _ hi;rw[A]at T;cases T
 obtain⟨v2,U,x2,rfl,h2,k2⟩:=E.slot j _ hj;rw[r]at U;cases U
 have za:∀b,o1.adr a1 b\/Y.adr a2 b->zof B γ σ b:=λb M=>M.elim (λM=>.inr ⟨i,o1,a1,hi,A,M⟩) λM=>.inr ⟨j,Y,a2,hj,r,M⟩
 have hz:∀b x,H b=some x->zof B γ2 σ b->zof B γ σ b:=λb x hx z=>by
  rcases z with z|⟨k,fs,a',G,C,f⟩
  ·exact .inl z
  ·rcases get k _ G with⟨J,N⟩|⟨J,_,N⟩|⟨_,_,e⟩
   ·subst J;cases N;rw[r]at C;cases C;rcases n2 b f with w|w
    ·exact za b (.inr w)
    ·rw[w]at hx;cases hx
   ·subst J;cases N;rw[A]at C;cases C;rcases n1 b f with w|w
    ·exact za b (.inl w)
    ·rw[w]at hx;cases hx
   ·exact .inr ⟨k,fs,a',e,C,f⟩
 have hH':∀b x,H b=some x->¬(o1.adr a1 b\/Y.adr a2 b)->H' b=some x:=λb x hx n=>hH b x hx (λz=>n (.inl z)) λz=>n (.inr z)
 have S1:=λb x h=>by
  obtain⟨T,U⟩:=Tz h;exact Kg (hH' b x T λk=>U (za b k)) λz=>U (hz b x T z)
 have old:∀(k:Nat) L a b,γ[k]?=some (some<|.own L)->σ[k]?=some (some<|.ref a)->L.adr a b->∃o,H b=some o:=λk L a b G C f=>by
  obtain⟨u,T,a',U,_,q3⟩:=E.slot k _ G;rw[C]at T;cases T
  cases U
  exact Np (q3.mut b f)
 have apart1:∀k L a b,k≠i->γ[k]?=some (some<|.own L)->σ[k]?=some (some<|.ref a)->L.adr a b->¬p.adr a1 b:=λk L a b nk G C f w=>by
  rcases n1 b w with w|w
  ·exact nk (E.own k i a a1 L o1 b G hi C A f w)
  ·obtain⟨u,hu⟩:=old k L a b G C f;rw[w]at hu;cases hu
 have apart2:∀k L a b,k≠j->γ[k]?=some (some<|.own L)->σ[k]?=some (some<|.ref a)->L.adr a b->¬g.adr a2 b:=λk L a b nk G C f w=>by
  rcases n2 b w with w|w
  ·exact nk (E.own k j a a2 L Y b G hj C r f w)
  ·obtain⟨u,hu⟩:=old k L a b G C f;rw[w]at hu;cases hu
 refine⟨⟨λb x h=>?_,by rw[←eg,QN,QN];exact E.len,λb M=>?_,λk l x x' fs fs' b G C f Q e5 e6=>?_,λk s h=>?_⟩,λb x h z=>⟨?_,λy=>z (hz b x h y)⟩⟩
 ·exact hH' b x (E.same b x h) λk=>by
   rcases k with k|k
   ·rw[h1 b k]at h;cases h
   ·rw[h2 b k]at h;cases h
 ·by_cases k:o1.adr a1 b\/Y.adr a2 b
  ·exact hm b k
  ·have:=E.bm b M
   obtain⟨x,hx⟩:=Np this;rwa[hH' b x hx k,←hx]
 ·rcases get k _ G with⟨J,N⟩|⟨J,nk,N⟩|⟨nk,nk',e⟩<;>rcases get l _ C with⟨el,et⟩|⟨el,nl,et⟩|⟨nl,nl',e'⟩
  ·rw[J,el]
  ·subst J el;cases N;cases et;rw[r]at f;cases f;rw[A]at Q;cases Q;exact absurd e5 (ap b e6)
  ·subst J;cases N;rw[r]at f;cases f;exact absurd e5 (apart2 l fs' x' b nl' e' Q e6)
  ·subst J el;cases N;cases et;rw[A]at f;cases f;rw[r]at Q;cases Q;exact absurd e6 (ap b e5)
  ·rw[J,el]
  ·subst J;cases N;rw[A]at f;cases f;exact absurd e5 (apart1 l fs' x' b nl e' Q e6)
  ·subst el;cases et;rw[r]at Q;cases Q;exact absurd e6 (apart2 k fs x b nk' e f e5)
  ·subst el;cases et;rw[A]at Q;cases Q;exact absurd e6 (apart1 k fs x b nk e f e5)
  ·exact E.own k l x x' fs fs' b e e' f Q e5 e6
 ·rcases get k s h with⟨J,N⟩|⟨J,_,N⟩|⟨nk,nk',e⟩
  ·subst J N;exact⟨_,r,a2,rfl,λb M=>(n2 b M).elim (h2 b) λw=>E.same.free w,r2⟩
  ·subst J N;exact⟨_,A,a1,rfl,λb M=>(n1 b M).elim (h1 b) λw=>E.same.free w,r1⟩
  ·obtain⟨v,T,U⟩:=E.slot k s e;refine⟨v,T,?_⟩;cases s with
   |sh d=>exact Rp.mono S1 U
   |own fs=>
    obtain⟨x,rfl,f,Q⟩:=U;exact⟨x,rfl,f,Q.mono S1 λb M y C=>hH b y C (λw=>nk (E.own k i x a1 fs o1 b e hi T A M w)) λw=>nk' (E.own k j x a2 fs Y b e hj T r M w)⟩
   |_=>exact U
 ·exact hH' b x h λk=>z (za b k)
abbrev Pw2:=O->O->List S->(O->O->D->Prop)->(O->O->Str->Prop)->Prop
def two(o1 f:O)(a1 a2:Addr):Addr->Prop:=λb=>o1.adr a1 b\/f.adr a2 b
structure FG (K:ZV) (B:Addr->Prop) (H:Hp) (a1 a2:Addr) (o1 o2 o1' o2':O) (H':Hp):Prop where
 same:Same (off (two o1 o2 a1 a2) H) H'
 old1:∀b,o1.adr a1 b->o1'.adr a1 b
 old2:∀b,o2.adr a2 b->o2'.adr a2 b
 new1:∀b,o1'.adr a1 b->o1.adr a1 b\/H b=none
 new2:∀b,o2'.adr a2 b->o2.adr a2 b\/H b=none
 apart:∀b,o1'.adr a1 b->¬o2'.adr a2 b
 at1:OR K (off (λb=>B b\/two o1' o2' a1 a2 b) H') H' a1 o1'
 at2:OR K (off (λb=>B b\/two o1' o2' a1 a2 b) H') H' a2 o2'
noncomputable def NC(mg:ZZ)(c:Pw2)(K:ZV):Sp:=λo H Q E=>∃(o1 h:O) (a1 a2:Addr) (l:List S) (n:List V) (B:Addr->Prop) (R:O->O->D->Prop) (X:O->O->Str->Prop),
 o=.ref a1 :: .ref a2::n/\(∀b,B b->Mut (H b)/\¬two o1 h a1 a2 b)/\(∀b,o1.adr a1 b->¬h.adr a2 b)/\OR K (off (λb=>B b\/two o1 h a1 a2 b) H) H a1 o1/\OR K (off (λb=>B b\/two o1 h a1 a2 b) H) H a2 h/\
 TVs K (λb=>B b\/two o1 h a1 a2 b) (off (two o1 h a1 a2) H) H H l n/\(∀s∈l,s.flat)/\c o1 h l R X/\
 (∀g f d v H',R g f d->FG K B H a1 a2 o1 h g f H'->Rp K (off (λb=>B b\/two g f a1 a2 b) H') d v->Q v H')/\∀g f e H',X g f e->FG K B H a1 a2 o1 h g f H'->XE mg E e H'
noncomputable def TB(N:Ye)(o1 g:O)(f:List S):Γ:=some (.own o1)::some (.own g)::(f.map some++List.replicate (N.length-(f.length+2)) none)
def Zdu{o1 f a1 a2 n us}(hB:∀b,B b->Mut (H b)/\¬two o1 f a1 a2 b)(ap:∀b,o1.adr a1 b->¬f.adr a2 b)(Q:OR K (off (λb=>B b\/two o1 f a1 a2 b) H) H a1 o1)(M:OR K (off (λb=>B b\/two o1 f a1 a2 b) H) H a2 f)(r:TVs K (λb=>B b\/two o1 f a1 a2 b) (off (two o1 f a1 a2) H) H H n us)(hf:∀s∈n,s.flat)(hn:n.length+2<=N.length) :
  X4 K (off (two o1 f a1 a2) H) B H (start N (.ref a1 :: .ref a2::us)) (TB N o1 f n):=by
 have get:∀i s,(TB N o1 f n)[i+2]?=some (some s)->n[i]?=some s:=λi s h=>by
  unfold TB at h;rw[QL,QL]at h;by_cases T:i<n.length
  ·rw[Qv (by rw[WH];exact T),WV,WI T]at h;rw[WI T];exact QB some (Qb<|Qb h)
  ·rw[Qr (by rw[WH];lia),V2]at h;split at h<;>cases h
 have noown:∀i C,(TB N o1 f n)[i+2]?≠some (some<|.own C):=λi C h=>hf _ (Qk<|get i _ h)
 have w:(start N (V.ref a1::V.ref a2::us))[0]?=some (some<|.ref a1):=by
  unfold L2.start;rfl
 have u:(start N (V.ref a1::V.ref a2::us))[1]?=some (some<|.ref a2):=by
  unfold L2.start;rfl
 have g0:∀s,(TB N o1 f n)[0]?=some (some s)->s=.own o1:=λs h=>by
  have h:some (some<|S.own o1)=some (some s):=h;cases h
  rfl
 have L:∀s,(TB N o1 f n)[1]?=some (some s)->s=.own f:=λs h=>by
  have h:some (some<|S.own f)=some (some s):=h;cases h
  rfl
 have hz:∀b,zof B (TB N o1 f n) (start N (V.ref a1::V.ref a2::us)) b->B b\/two o1 f a1 a2 b:=λb z=>by
  rcases z with z|⟨i,C,a',l,g,p⟩
  ·exact .inl z
  ·match i,l,g with
   | 0,l,g=>
    rw[w]at g;cases g
    cases g0 _ l
    exact .inr (.inl p)
   | 1,l,g=>
    rw[u]at g;cases g
    cases L _ l
    exact .inr (.inr p)
   |i+2,l,_=>exact absurd l (noown i C)
 have G:∀{o:O} {a:Addr},OR K (off (λb=>B b\/two o1 f a1 a2 b) H) H a o->OR K (off (zof B (TB N o1 f n)<|start N (V.ref a1::V.ref a2::us)) H) H a o:=λh=>h.mono (XB (Same.refl _) λb _ _ z y=>z (hz b y)) λ_ _ _ q=>q;refine⟨off_sub,?_,λb h=>(hB b h).1,λi j x x' C J b l g p A h5 h6=>?_,λi s h=>?_⟩
 ·unfold L2.start TB;simp[r.len]
 ·match i,j,l,g,p,A with
  | 0,0,_,_,_,_=>rfl
  | 1,1,_,_,_,_=>rfl
  | 0,1,l,g,p,A=>
   cases g0 _ l
   cases L _ g
   rw[w]at p;cases p
   rw[u]at A;cases A
   exact absurd h6 (ap b h5)
  | 1,0,l,g,p,A=>
   cases L _ l
   cases g0 _ g
   rw[u]at p;cases p
   rw[w]at A;cases A
   exact absurd h5 (ap b h6)
  |i+2,_,l,_,_,_=>exact absurd l (noown i C)
  | 0,j+2,_,g,_,_=>exact absurd g (noown j J)
  | 1,j+2,_,g,_,_=>exact absurd g (noown j J)
 ·match i,h with
  | 0,h=>
   cases g0 _ h
   refine⟨_,w,a1,rfl,λb U=>?_,G Q⟩;unfold off;rw[WQ (.inl U)]
  | 1,h=>
   cases L _ h
   refine⟨_,u,a2,rfl,λb U=>?_,G M⟩;unfold off;rw[WQ (.inr U)]
  |i+2,h=>
   have hs:=get i s h;obtain⟨v,hv,Y⟩:=r.get hs;refine⟨v,?_,?_⟩
   ·unfold L2.start;rw[Qv (by rw[WH,Qi,Qi];have:=(Qu.mp hv).1;lia),WV,QL,QL,hv];rfl
   ·have:=hf s (Qk hs)
    cases s with
    |bor d=>exact Y
    |sh d=>exact Rp.mono (XB (Same.refl _) λb _ _ z y=>z (hz b y)) Y
    |own _=>exact this.elim
    |view _=>exact this.elim
    |tmp _=>exact this.elim
def Hv(o1 h:O)(R:O->O->D->Prop)(γ:Γ)(d:D):Prop:=∃g f,γ[0]?=some (some<|.own g)/\γ[1]?=some (some<|.own f)/\o1.from g/\h.from f/\R g f d
def Zod(o1 h:O)(X:O->O->Str->Prop)(γ:Γ)(e:Str):Prop:=∃g f,γ[0]?=some (some<|.own g)/\γ[1]?=some (some<|.own f)/\o1.from g/\h.from f/\X g f e
noncomputable def RJ(o1 f:O)(R:O->O->D->Prop)(X:O->O->Str->Prop):NK:={nx:=λγ=>Hv o1 f R γ .non,rt:=λ_=>False,ex:=Zod o1 f X,rv:=Hv o1 f R}
def D2{o1 l g f}{σ'}{γ'}(u:OR K (off (λb=>B b\/two o1 l a1 a2 b) H) H a1 o1)(s:OR K (off (λb=>B b\/two o1 l a1 a2 b) H) H a2 l)(e:X4 K (off (two o1 l a1 a2) H) B H' σ' γ')(x:γ'[0]?=some (some<|.own g))(v:γ'[1]?=some (some<|.own f))(k1:o1.from g)(k2:l.from f) :
  FG K B H a1 a2 o1 l g f H'/\∀b,B b\/two g f a1 a2 b->zof B γ' σ' b:=by
 obtain⟨T,G,p,rfl,N,L⟩:=e.slot 0 _ x;obtain rfl:=O.from_at k1 u L;obtain⟨Q,C,n,rfl,p2,J⟩:=e.slot 1 _ v;obtain rfl:=O.from_at k2 s J
 have M:∀b,B b\/two g f p n b->zof B γ' σ' b:=λb z=>by
  rcases z with z|z|z
  ·exact .inl z
  ·exact .inr ⟨0,g,p,x,G,z⟩
  ·exact .inr ⟨1,f,n,v,C,z⟩
 have A:∀b,g.adr p b->¬f.adr n b:=λb z y=>absurd (e.own 0 1 p n g f b x v G C z y) (by decide);have fromZ:∀{o:O} {a:Addr},OR K (off (zof B γ' σ') H') H' a o->OR K (off (λb=>B b\/two g f p n b) H') H' a o:=λh=>h.mono (XB (Same.refl _) λb _ _ z y=>z (M b y)) λ_ _ _ q=>q
 have free:∀b,off (two o1 l p n) H b=none->two o1 l p n b\/H b=none:=λb w=>by
  unfold off at w;by_cases q:two o1 l p n b
  ·exact .inl q
  ·rw[WN q]at w;exact .inr w
 refine⟨⟨e.same,O.from_adr k1,O.from_adr k2,λb r=>?_,λb r=>?_,A,fromZ L,fromZ J⟩,M⟩
 ·rcases free b (N b r)with(w|w)|w
  ·exact .inl w
  ·exact absurd (O.from_adr k2 b w) (A b r)
  ·exact .inr w
 ·rcases free b (p2 b r)with(w|w)|w
  ·exact absurd r (A b<|O.from_adr k1 b w)
  ·exact .inl w
  ·exact .inr w
def Ztj{t p vs Q Ec n}(h:NC mg c K vs H Q Ec)(Y:XF K mg (λ_=>Ec) t p)(hn:n+2<=N.length)(hp:∀o1 M C R X,c o1 M C R X->C.length=n/\p (RJ o1 M R X) (TB N o1 M C)):t {nx:=λ_ H'=>Q .non H',rt:=Q} (start N vs) H:=by
 obtain⟨o1,M,a1,a2,C,us,B,R,X,rfl,hB,ap,o,l,r,hf,hc,hQ,hX⟩:=h;obtain⟨e,hp⟩:=hp o1 M C R X hc;refine Y _ B H _ _ _ _ (λb z=>?_) (Zdu hB ap o l r hf<|by rw[e];exact hn) hp ⟨λw A H' T U f1=>?_,λ_ _ _ z=>z.elim,λw A c H' T U f1=>?_,λ_ _ _ z=>z.elim,λ_ _ _ z=>z.elim,λw A d v H' T U f1 rd=>?_⟩
 ·obtain⟨u,s⟩:=hB b z;obtain⟨x,hx⟩:=Np u;exact⟨x,Kg hx s⟩
 ·obtain⟨g,f,u,s,L,J,G⟩:=T;exact hQ g f .non .non H' G (D2 o l U u s L J).1 .non
 ·obtain⟨g,f,u,s,L,J,G⟩:=T;exact hX g f c H' G (D2 o l U u s L J).1
 ·obtain⟨g,f,u,s,L,J,G⟩:=T;obtain⟨k1,k2⟩:=D2 o l U u s L J;exact hQ g f d v H' G k1 (Rp.mono (XB (Same.refl _) λb _ _ z y=>z (k2 b y)) rd)
def Zcy(h:NC mg c K vs H Q s)(l:∀o1 g f R X,c o1 g f R X->f.length=n):vs.length=n+2:=by
 obtain⟨o1,g,a1,a2,f,p,B,R,X,rfl,_,_,_,_,r,_,o,_⟩:=h;rw[Qi,Qi,r.len,l o1 g f R X o]
def Ziu{i j}{o1 r}{a1 a2}{ss L}{us}{R:Γ->D->Prop}{X:Γ->Str->Prop}{Q}{Ec}(env:X4 K H0 B H σ γ)(hB:∀b,B b->∃o,H0 b=some o)(S1:Same H H1)(hij:i≠j)(hi:γ[i]?=some (some<|.own o1))(Y:γ[j]?=some (some<|.own r))(G:σ[i]?=some (some<|.ref a1))(C:σ[j]?=some (some<|.ref a2))(t1:TVs K (zof B γ σ) H0 H H1 ss us)(hp:passes ss=some L)(hc:c o1 r L (λg f d=>R ((γ.set i<|some<|.own g).set j (some<|.own f)) d) (λg f e=>X ((γ.set i<|some<|.own g).set j (some<|.own f)) e))(q:∀p d v H',R p d->X4 K H0 B H' σ p->Fr B H σ γ H' σ p->Rp K (off (zof B p σ) H') d v->Q v H')(qx:∀p c H',X p c->X4 K H0 B H' σ p->Fr B H σ γ H' σ p->XE mg Ec c H'):NC mg c K (.ref a1 :: .ref a2::us) H1 Q Ec:=by
 have l:=env.grow S1;obtain⟨v1,h1,x1,e1,h3,h4⟩:=l.slot i _ hi;rw[G]at h1;cases h1
 cases e1
 obtain⟨v2,h2,x2,J,h5,h6⟩:=l.slot j _ Y;rw[C]at h2;cases h2
 cases J
 have za:∀b,two o1 r a1 a2 b->zof B γ σ b:=λb s=>s.elim (λs=>.inr ⟨i,o1,a1,hi,G,s⟩) λs=>.inr ⟨j,r,a2,Y,C,s⟩;have h0:∀b,two o1 r a1 a2 b->H0 b=none:=λb s=>s.elim (h3 b) (h5 b);have down:∀{o:O} {a:Addr},OR K (off (zof B γ σ) H1) H1 a o->OR K (off (λb=>(zof B γ σ b/\¬two o1 r a1 a2 b)\/two o1 r a1 a2 b) H1) H1 a o:=λh=>h.mono (XB (Same.refl _) λb _ _ z y=>z (y.elim (λy=>y.1)<|za b)) λ_ _ _ q=>q
 have aft:∀g f H',FG K (λb=>zof B γ σ b/\¬two o1 r a1 a2 b) H1 a1 a2 o1 r g f H'->X4 K H0 B H' σ ((γ.set i<|some<|.own g).set j (some<|.own f))/\Fr B H σ γ H' σ ((γ.set i<|some<|.own g).set j (some<|.own f))/\∀b x,H' b=some x->¬((zof B γ σ b/\¬two o1 r a1 a2 b)\/two g f a1 a2 b)->¬zof B ((γ.set i<|some<|.own g).set j (some<|.own f)) σ b:=λg f H' A=>by
  have U:∀b x,H' b=some x->¬((zof B γ σ b/\¬two o1 r a1 a2 b)\/two g f a1 a2 b)->¬zof B ((γ.set i<|some<|.own g).set j (some<|.own f)) σ b:=λb x _ n z=>by
   rcases z with z|⟨k,fs,a',e1,J,e3⟩
   ·refine n (.inl ⟨.inl z,λw=>?_⟩);obtain⟨u,hu⟩:=hB b z;rw[h0 b w]at hu;cases hu
   ·rcases Ko e1 with⟨ek,q,_⟩|⟨nk,q⟩
    ·subst ek;cases q
     rw[C]at J;cases J
     exact n (.inr<|.inr e3)
    ·rcases Ko q with⟨ek,M,_⟩|⟨nk',M⟩
     ·subst ek;cases M
      rw[G]at J;cases J
      exact n (.inr<|.inl e3)
     ·refine n (.inl ⟨.inr ⟨k,fs,a',M,J,e3⟩,λw=>?_⟩);rcases w with w|w
      ·exact nk' (env.own k i a' a1 fs o1 b M hi J G e3 w)
      ·exact nk (env.own k j a' a2 fs r b M Y J C e3 w)
  have up:∀{o:O} {a:Addr},OR K (off (λb=>(zof B γ σ b/\¬two o1 r a1 a2 b)\/two g f a1 a2 b) H') H' a o->OR K (off (zof B ((γ.set i<|some<|.own g).set j (some<|.own f)) σ) H') H' a o:=λh=>h.mono (XB (Same.refl _) λb x hx z=>U b x hx z) λ_ _ _ q=>q;obtain⟨T,N⟩:=l.change2 hij hi Y G C (λb x hx n1 n2=>A.same b x (Kg hx λw=>w.elim n1 n2)) (λb s=>s.elim (λs=>A.at1.mut b (A.old1 b s)) λs=>A.at2.mut b (A.old2 b s)) A.new1 A.new2 A.apart (up A.at1) (up A.at2);exact⟨T,(Fr.grow S1).trans N,U⟩
 refine⟨o1,r,a1,a2,L,us,λb=>zof B γ σ b/\¬two o1 r a1 a2 b,_,_,rfl,λb s=>⟨l.zm b s.1,s.2⟩,(λb z y=>hij (env.own i j a1 a2 o1 r b hi Y G C z y)),down h4,down h6,?_,BC hp,hc,λg f d v H' hR A rd=>?_,λg f e H' hX A=>?_⟩
 ·refine t1.pass l.same env.zm S1 (λb x hx=>Kg (l.same b x hx) λw=>?_) (XB (Same.refl _) λb _ _ z y=>z (y.elim (λy=>y.1)<|za b)) hp;rw[h0 b w]at hx;cases hx
 ·obtain⟨T,N,k3⟩:=aft g f H' A;exact q _ d v H' hR T N (Rp.mono (λb x h=>let ⟨p1,p2⟩:=Tz h;Kg p1 (k3 b x p1 p2)) rd)
 ·obtain⟨T,N,_⟩:=aft g f H' A;exact qx _ e H' hX T N
noncomputable def Zvl(i j:Nat)(c:Pw2)(r:PTA):PTW:=λγ R X=>match γ[i]?,γ[j]? with
 |some (some<|.own o1),some (some<|.own n)=>r γ (λl=>match passes l with|some h=>c o1 n h (λg f d=>R ((γ.set i<|some<|.own g).set j (some<|.own f)) d) (λg f e=>X ((γ.set i<|some<|.own g).set j (some<|.own f)) e)|none=>False) (X γ)
 |_,_=>False
noncomputable def R8(i j:Nat)(c:Pw2)(r:PTA):PTW:=λγ R X=>match γ[i]?,γ[j]? with
 |some (some<|.own o1),some (some<|.own n)=>r γ (λl=>match passes l with|some f=>c o1 n f (λh g d=>R ((γ.set i<|some<|.own h).set j (some<|.own g)) d) (λ_ _ _=>False)|none=>False) (X γ)
 |_,_=>False
def AJ(i j:Nat)(n:i≠j){c o r}(C:XO K mg E o r):Tp K mg E (NX (NC mg c K) [] E0<|KF (Pf i)<|KF (Pf j) o) (R8 i j c r):=by
 intro H0 B H σ γ R X Q J f h q A;unfold R8 at h;split at h
 ·rename_i o1 Y s p;obtain⟨T,l,a1,rfl,_,_⟩:=f.slot i _ s;obtain⟨N,g,a2,rfl,_,_⟩:=f.slot j _ p;refine⟨_,l,_,g,C H0 B H σ γ _ _ _ f h (λU w H1 u M x=>?_) λc H' G v=>A γ c H' G (f.grow v) (Fr.grow v)⟩;show NC mg c K ((V.ref a1::V.ref a2::w)++[]) H1 Q E0;rw[QA];split at u
  ·rename_i y L;exact Ziu (X:=λ_ _=>False) f J M n s p l g x L u q λ_ _ _ z=>z.elim
  ·grind
 ·grind
abbrev PTV:=Γ->(Γ->Bool->Prop)->(Γ->Str->Prop)->Prop
def Ab(K:ZV)(mg:ZZ)(E:L2.St->XK)(t:TT)(p:PTV):Prop:=∀(H0:Hp) (B:Addr->Prop) (H:Hp) (σ:L2.St) (γ:Γ) (R:Γ->Bool->Prop) (X:Γ->Str->Prop) (Q:Bool->Hp->Prop),(∀b,B b->∃o,H0 b=some o)->X4 K H0 B H σ γ->p γ R X->
 (∀f b H',R f b->X4 K H0 B H' σ f->Fr B H σ γ H' σ f->Q b H')->(∀f c H',X f c->X4 K H0 B H' σ f->Fr B H σ γ H' σ f->XE mg (E σ) c H')->t σ H Q
noncomputable def pVW(w:PTW):PTV:=λγ R X=>w γ (λf d=>match d with | .bl c=>R f c|_=>False) X
def AW(hw:Tp K mg E te w):Ab K mg E (DA K te) (pVW w):=by
 intro H0 B H σ γ R X Q p f h q o;refine hw H0 B H σ γ _ _ _ p f h (λl d v H' g r f1 n=>?_) o;split at g
 ·rw[n.bl_inv];exact⟨_,rfl,q _ _ _ g r f1⟩
 ·grind
noncomputable def Ztp(p:PTV):PTV:=λγ R X=>p γ (λf b=>R f (!b)) X
def FN(n:Ab K mg E t p):Ab K mg E (EC t) (Ztp p):=by
 intro H0 B H σ γ R X Q o g h q l;exact n H0 B H σ γ _ _ _ o g h (λf b H' r s f1=>q f (!b) H' r s f1) l
noncomputable def Zjb(c:PTV)(p q:PTS):PTS:=λR γ=>c γ (λf b=>if b=true then p R f else q R f) R.ex
def AQ{p q}(s:Ab K mg E tt c)(r:XF K mg E t p)(hq:XF K mg E u q):XF K mg E (Ds tt t u) (Zjb c p q):=by
 intro H0 B H σ γ R D l n h e;refine s H0 B H σ γ _ _ _ l n h (λf b H' o g f1=>?_) λf c H' o g f1=>e.ex _ _ _ _ o g f1;cases b with
 |true=>
  exact r H0 B H' σ f R D l g (by grind) (e.from f1)
 |false=>
  exact hq H0 B H' σ f R D l g (by grind) (e.from f1)
noncomputable def IZ(i:Nat):PTW:=λγ R _=>match γ[i]? with
 |some (some<|.own<|.lsA x f)=>∃d,f[f.length-1]?=some d/\R (γ.set i<|some<|.own<|.lsA x f.dropLast) d
 |some (some<|.own<|.lst f)=>∃d,f[f.length-1]?=some d/\R (γ.set i<|some<|.own<|.lst f.dropLast) d
 |_=>False
def Zif(i:Nat):Tp K mg E (BO K "list" G8<|Pf i) (IZ i):=by
 intro H0 B H σ γ R X Q L f h q J;unfold IZ at h;split at h
 ·rename_i x C n;obtain⟨d,z,h⟩:=h;obtain⟨v,l,b,rfl,w,rfl,us,o,g⟩:=f.slot i _ n;obtain⟨u,s,r⟩:=g.get z;refine⟨_,l,.inl ⟨rfl,us,SqL.of o⟩,b,us,u,rfl,rfl,o,by rw[g.len];exact s,?_⟩;obtain⟨A,p⟩:=f.mutate (es:=.lsA b C.dropLast) (us:=.lst us.dropLast) n l trivial λF H' G y=>⟨rfl,_,y,Rps.mono G (Rps.dropLast g)⟩;exact q _ _ _ _ h A p (Rp.mono p.off r)
 ·rename_i C n;obtain⟨d,z,h⟩:=h;obtain⟨v,l,b,rfl,w,us,o,g⟩:=f.slot i _ n;obtain⟨u,s,r⟩:=g.get z;refine⟨_,l,.inl ⟨rfl,us,SqL.of o⟩,b,us,u,rfl,rfl,o,by rw[g.len];exact s,?_⟩;obtain⟨A,p⟩:=f.mutate (es:=.lst C.dropLast) (us:=.lst us.dropLast) n l trivial λF H' G y=>⟨_,y,Rps.mono G (Rps.dropLast g)⟩;exact q _ _ _ _ h A p (Rp.mono p.off r)
 ·grind
abbrev Pq:=List S->(S->Prop)->(Str->Prop)->Prop
noncomputable def spS(mg:ZZ)(c:Pq)(K:ZV):Sp:=λg H Q E=>∃(f:List S) (B:Addr->Prop) (R:S->Prop) (X:Str->Prop),(∀b,B b->Mut (H b))/\TVs K B H H H f g/\(∀s∈f,s.flat)/\c f R X/\
 (∀s v H',R s->Same H H'->TV K B H H H' s v->Q v H')/\∀e H',X e->Same H H'->XE mg E e H'
noncomputable def NW(N:Ye)(f:List S):Γ:=f.map some++List.replicate (N.length-f.length) none
def Zpk{f us}(C:∀b,B b->Mut (H b))(r:TVs K B H H H f us)(w:∀s∈f,s.flat)(L:f.length<=N.length):X4 K H B H (start N us) (NW N f):=by
 have get:∀i s,(NW N f)[i]?=some (some s)->f[i]?=some s:=λi s h=>by
  unfold NW at h;by_cases l:i<f.length
  ·rw[Qv (by rw[WH];exact l),WV,WI l]at h;rw[WI l];exact QB some (Qb<|Qb h)
  ·grind
 have noown:∀(i:Nat) g,(NW N f)[i]?≠some (some<|.own g):=λi g h=>w _ (Qk<|get i _ h)
 have A:∀b,zof B (NW N f) (start N us) b->B b:=λb z=>by
  rcases z with z|⟨i,g,T,n,Q,M⟩
  ·exact z
  ·exact absurd n (noown i g)
 refine⟨Same.refl _,?_,C,λi j x J g G b n _ _ _ _ _=>absurd n (noown i g),λi s h=>?_⟩
 ·unfold L2.start NW;simp[r.len]
 ·have u:=get i s h;obtain⟨v,p,o⟩:=r.get u;refine⟨v,?_,?_⟩
  ·unfold L2.start;rw[Qv (by rw[WH];exact(Qu.mp p).1),WV,p];rfl
  ·have:=w s (Qk u)
   cases s with
   |bor d=>exact o
   |sh d=>exact Rp.mono (XB (Same.refl _) λb _ _ z y=>z (A b y)) o
   |_=>exact this.elim
def Zo4{t p vs Q C n}(h:spS mg c K vs H Q C)(u:XF K mg (λ_=>C) t p)(U:n<=N.length)(w:∀f R X,c f R X->f.length=n/\p {nx:=λ_=>R (.sh .non),rt:=R,ex:=λ_ e=>X e} (NW N f)):t {nx:=λ_ H'=>Q .non H',rt:=Q} (start N vs) H:=by
 obtain⟨f,B,R,X,A,r,J,L,y,M⟩:=h;obtain⟨e,w⟩:=w f R X L;exact u H B H _ _ _ _ (λb z=>Np (A b z)) (Zpk A r J<|by lia) w ⟨λl o H' g x f1=>y _ _ H' g x.same .non,λs v H' g T G=>y s v H' g T G,λl o c H' g x f1=>M c H' g x.same,λ_ _ _ z=>z.elim,λ_ _ _ z=>z.elim,λ_ _ _ _ _ z=>z.elim⟩
def Zge(h:spS mg c K vs H Q o)(g:∀f R X,c f R X->f.length=n):vs.length=n:=by
 obtain⟨f,B,R,X,_,r,_,l,_⟩:=h;rw[r.len]
 grind
def TV.backS (env:X4 K H0 B H1 σ γ) (o:Same H H1) (f:Same H1 H') (h:TV K (zof B γ σ) H1 H1 H' s v):TV K (zof B γ σ) H0 H H' s.back v:=by
 cases s with
 |bor d=>exact T3 (λb z=>Tn f (env.zm b z)) (Rp.mono f h)
 |own n=>
  obtain⟨a,rfl,l,r⟩:=h;exact⟨a,rfl,(λb g=>o.free (l b g)),r⟩
 |view n=>
  obtain⟨a,rfl,r⟩:=h;exact r.rp off_sub
 |_=>exact h
def TV.passS {v} (env:X4 K H0 B H1 σ γ) (g:∀b,zof B γ σ b->Mut (H b)) (n:Same H H1) (h:TV K (zof B γ σ) H0 H H1 s v) (e:s.pass=some f):TV K (zof B γ σ) H1 H1 H1 f v:=by
 have shd:∀d,s.shd=some d->Rp K (off (zof B γ σ) H1) d v:=λd l=>h.shd env.same g n l;cases s with
 |view o=>cases e
 |tmp d=>
  unfold S.pass at e;cases q:imm d with
  |false=>simp_all
  |true=>simp[q]at e;subst e;exact shd d (by unfold S.shd;simp[q])
 |bor d=>
  unfold S.pass at e;cases q:imm d with
  |false=>simp[q]at e;subst e;exact Rp.mono env.same h
  |true=>simp[q]at e;subst e;exact shd d (by unfold S.shd;simp[q])
 |_=>cases e;exact shd _ rfl
theorem TVs.passS (env:X4 K H0 B H1 σ γ) (l:∀b,zof B γ σ b->Mut (H b)) (n:Same H H1):∀{g f}{vs:List V},TVs K (zof B γ σ) H0 H H1 g vs->passes g=some f->TVs K (zof B γ σ) H1 H1 H1 f vs
 |_,_,_,.nil,e=>by cases e;exact .nil
 |_,_,_,.cons h r,e=>by
  unfold passes at e;split at e
  ·rename_i s u p o;cases e
   exact .cons (h.passS env l n p) (TVs.passS env l n r o)
  ·grind
noncomputable def Zkl(c:Pq)(r:PTA):PTE:=λγ R X=>r γ (λg=>match passes g with|some f=>c f (λs=>R s.back) (λ_=>False)|none=>False) X
def Du{n r}(G:XO K mg E n r):Xx K mg E (NX (spS mg c K) [] E0 n) (Zkl c r):=by
 intro H0 B H σ γ R X Q g p q A;refine G H0 B H σ γ _ X _ g p (λL J H1 o h y=>?_) A;rw[QA];have f:=g.grow h;split at o
 ·rename_i l u;exact⟨l,zof B γ σ,_,_,f.zm,y.passS f g.zm h u,BC u,o,λs v H' C w x=>q _ _ H' C (h.trans w) (x.backS f h w),λ_ _ z=>z.elim⟩
 ·grind
noncomputable def Zgv(a:PTE)(l u:PTO):PTE:=λγ R X=>a γ (λs=>l γ (λlo=>u γ (λg=>match s.d with | .scr f=>R (.own ((cutD f lo g).map D.int))|_=>False) X) X) X
def Zfp(ns:ZX)(lo f:Option Int):N6 (ns.map V.int) lo f=(cutD ns lo f).map V.int:=by
 unfold N6 cutD;simp
def Zoi{a l u}(T:Xx K mg E te a)(M:Nz K mg E C l)(L:Nz K mg E G u):Xx K mg E (tSl (AZ K) te C G) (Zgv a l u):=by
 intro H0 B H σ γ R X Q f p q o;refine T H0 B H σ γ _ X _ f p (λx v H1 Y h J=>?_) o;refine M H0 B H1 σ γ _ X _ (f.grow h) Y (λlo H2 U n=>?_) λc H' r s=>o c H' r (h.trans s);refine L H0 B H2 σ γ _ X _ ((f.grow h).grow n) U (λhi H3 z A=>?_) λc H' r s=>o c H' r ((h.trans n).trans s);have g:=(h.trans n).trans A;split at z
 ·rename_i ns e;have w:=(J.grow<|n.trans A).rp (f.grow g).same;rw[e]at w;obtain⟨b,rfl,N⟩:=w.scr_inv;refine⟨b,_,rfl,N,λm y=>?_⟩;rw[Zfp];exact q _ _ _ z (g.trans<|Kk y) (Nq g y<|Rps.of_ints _)
 ·grind
end
section
variable {K:ZV}{mg:ZZ}{E:L2.St->XK}{H:Hp}
noncomputable def isN:D->Bool
 | .non=>true
 |_=>false
def Rp.isN (h:Rp K H d v):decide (v=V.non)=isN d:=by
 cases h<;>first|rfl|exact Ql (λz=>by cases z)
noncomputable def Zpu(a:PTE):PTE:=λf R X=>a f (λx=>R (.sh<|.bl<|isN x.d)) X
def Zol(r:Xx K mg E te a):Xx K mg E (Zav te) (Zpu a):=by
 intro w B H h l R X Q f p q o;refine r w B H h l _ X _ f p (λx v u s g n=>?_) o;rw[(n.rp (f.grow g).same).isN];exact q _ _ u s g (.bl _)
end
open M
inductive Dd where
 |sell (p h:Int)|part (p w:Int)|unite (p:Int)|wish (a b:Int)|drop (a b:Int)
noncomputable def Dd.q:Dd->Str×ZX
 | .sell p h=>("sell",[p,h]) | .part p w=>("part",[p,w]) | .unite p=>("unite",[p]) | .wish a b=>("wish",[a,b]) | .drop a b=>("drop",[a,b])
noncomputable def Dd.land:Dd->Bool
 | .sell _ _=>true | .part _ _=>true | .unite _=>true|_=>false
noncomputable def Dd.err (f w:ZW):Dd->Option Str
 | .sell p h=>P3 f p h | .part p v=>KD f p v | .unite p=>Kt f p | .wish a b=>K5 w a b | .drop a b=>K6 w a b
noncomputable def Dd.fld (f:ZW):Dd->ZW
 | .sell p h=>Nc f p h | .part p v=>PZ f p v | .unite p=>Te f p|_=>f
noncomputable def Dd.wsh (w:ZW):Dd->ZW
 | .wish a b=>w++[(a,b)] | .drop a b=>Nd w a b|_=>w
noncomputable def codeN:Option Str->Int
 |none=>0
 |some c=>if c=("NoStrip" : Str)then 1 else if c=("BadHolder" : Str)then 2 else if c=("OwnStrip" : Str)then 3 else if c=("BadPart" : Str)then 4 else if c=("TooManyStrips" : Str)then 5 else if c=("UnlikeHolders" : Str)then 6 else if c=("TooWide" : Str)then 7 else if c=("LikeHolders" : Str)then 8 else if c=("WishStands" : Str)then 9 else if c=("TooManyWishes" : Str)then 10 else 11
def EX:codeN (some "NoStrip")=1:=rfl
def AU:codeN (some "BadHolder")=2:=rfl
def RF:codeN (some "OwnStrip")=3:=rfl
def Eb:codeN (some "BadPart")=4:=rfl
def OS:codeN (some "TooManyStrips")=5:=rfl
def Rh:codeN (some "UnlikeHolders")=6:=rfl
def Zby:codeN (some "TooWide")=7:=rfl
def Za2:codeN (some "LikeHolders")=8:=rfl
def Li:codeN (some "WishStands")=9:=rfl
def MS:codeN (some "TooManyWishes")=10:=rfl
def LD:codeN (some "NoWish")=11:=rfl
noncomputable def Dd.fld' (f:ZW) (x:Dd):ZW:=if x.err f []=none then x.fld f else f
noncomputable def Dd.wsh' (w:ZW) (x:Dd):ZW:=if x.err [] w=none then x.wsh w else w
noncomputable def Dd.nf (f w:ZW) (x:Dd):ZW:=if x.err f w=none then x.fld f else f
noncomputable def Dd.nw (f w:ZW) (x:Dd):ZW:=if x.err f w=none then x.wsh w else w
def Dd.err_land {x:Dd} (h:x.land=true) (f w u:ZW):x.err f w=x.err f u:=by
 cases x<;>first|rfl|cases h
def Dd.err_wish {x:Dd} (h:x.land=false) (f g w:ZW):x.err f w=x.err g w:=by
 cases x<;>first|rfl|cases h
def Dd.err_cases (f w : ZW) (x : Dd) : x.err f w = none ∨ x.err f w = some ("NoStrip" : Str) ∨ x.err f w = some ("BadHolder" : Str) ∨ x.err f w = some ("OwnStrip" : Str) ∨ x.err f w = some ("BadPart" : Str) ∨ x.err f w = some ("TooManyStrips" : Str) ∨ x.err f w = some ("UnlikeHolders" : Str) ∨ x.err f w = some ("TooWide" : Str) ∨ x.err f w = some ("LikeHolders" : Str) ∨ x.err f w = some ("WishStands" : Str) ∨ x.err f w = some ("TooManyWishes" : Str) ∨ x.err f w = some ("NoWish" : Str) := by
  cases x with
  | sell p h => show P3 f p h = _ ∨ P3 f p h = _ ∨ P3 f p h = _ ∨ P3 f p h = _ ∨ _; unfold P3; repeat' split
                all_goals simp
  | part p h => show KD f p h = _ ∨ KD f p h = _ ∨ KD f p h = _ ∨ KD f p h = _ ∨ KD f p h = _ ∨ KD f p h = _ ∨ _; unfold KD; repeat' split
                all_goals simp
  | unite p => show Kt f p = _ ∨ Kt f p = _ ∨ Kt f p = _ ∨ Kt f p = _ ∨ Kt f p = _ ∨ Kt f p = _ ∨ Kt f p = _ ∨ Kt f p = _ ∨ _; unfold Kt; repeat' split
               all_goals simp
  | wish a b => show K5 w a b = _ ∨ K5 w a b = _ ∨ K5 w a b = _ ∨ K5 w a b = _ ∨ K5 w a b = _ ∨ K5 w a b = _ ∨ K5 w a b = _ ∨ K5 w a b = _ ∨ K5 w a b = _ ∨ K5 w a b = _ ∨ K5 w a b = _ ∨ _; unfold K5; repeat' split
                all_goals simp
  | drop a b => show K6 w a b = _ ∨ K6 w a b = _ ∨ K6 w a b = _ ∨ K6 w a b = _ ∨ K6 w a b = _ ∨ K6 w a b = _ ∨ K6 w a b = _ ∨ K6 w a b = _ ∨ K6 w a b = _ ∨ K6 w a b = _ ∨ K6 w a b = _ ∨ K6 w a b = _; unfold K6; repeat' split
                all_goals simp
abbrev Ke:=List (Dd×ZW×ZW)
noncomputable def bkH(f:Ke):List (Str×ZX):=f.map λh=>h.1.q
noncomputable def fsH(f0:ZW)(f:Ke):List (ZW):=f0::f.map λh=>h.2.1
noncomputable def wsH(f:Ke):List (ZW):=[]::f.map λh=>h.2.2
noncomputable def Gu(h:Dd×ZW×ZW):D:=.tup [plD h.2.1,plD h.2.2,dD h.1.q]
noncomputable def Zsf(f0:ZW):D:=.tup [plD f0,.lst [],.tup []]
noncomputable def Kl(f0:ZW)(f:Ke):List D:=Zsf f0::f.map Gu
noncomputable def X7(f0:ZW)(f:Ke):ZW:=match f.getLast? with|some h=>h.2.1|none=>f0
noncomputable def XQ(f:Ke):ZW:=match f.getLast? with|some h=>h.2.2|none=>[]
def FO(f0:ZW)(f:Ke):∃fs,fsH f0 f=fs++[X7 f0 f]/\fs.length=f.length:=by
 unfold fsH X7;rcases QD f with rfl|⟨h,x,rfl⟩
 ·exact⟨[],rfl,rfl⟩
 ·refine⟨f0::h.map λh=>h.2.1,?_,by simp⟩;simp
def Gi(f:Ke):∃g,wsH f=g++[XQ f]/\g.length=f.length:=by
 unfold wsH XQ;rcases QD f with rfl|⟨h,x,rfl⟩
 ·exact⟨[],rfl,rfl⟩
 ·refine⟨[]::h.map λh=>h.2.2,?_,by simp⟩;simp
def Av(f0:ZW)(g:Ke):∃d,atI (Kl f0 g) (-1)=some (.tup [plD (X7 f0 g),plD (XQ g),d]):=by
 have f:∀l (x:D),l≠[]->l[l.length-1]?=some x->atI l (-1)=some x:=λl x n h=>by
  have o:=VO.mpr n;unfold atI ixN;rw[WN (by lia),WQ (by lia)];show l[_]?=_;rw[show((-1:Int)+(l.length:Int)).toNat=l.length-1 by lia];lia
 unfold Kl X7 XQ;rcases QD g with rfl|⟨h,x,rfl⟩
 ·exact⟨.tup [],f _ _ (by simp) rfl⟩
 ·refine⟨dD x.1.q,f _ _ (by simp) ?_⟩;rw[QU,Jn,Qi,WH,WT,QT,Vp,QL,WY,Qr (by simp),WH,Nat.sub_self];rfl
def ET(f:Ke)(h:Dd×ZW×ZW):bkH (f++[h])=bkH f++[h.1.q]:=by unfold bkH;rw[WY];rfl
def Bl(f0:ZW)(f:Ke)(h:Dd×ZW×ZW):fsH f0 (f++[h])=fsH f0 f++[h.2.1]:=by unfold fsH;rw[WY];rfl
def AF(f:Ke)(h:Dd×ZW×ZW):wsH (f++[h])=wsH f++[h.2.2]:=by unfold wsH;rw[WY];rfl
def AX(f0:ZW)(f:Ke)(h:Dd×ZW×ZW):Kl f0 (f++[h])=Kl f0 f++[Gu h]:=by unfold Kl;rw[WY];rfl
def DU(f:Ke):(bkH f).length=f.length:=WH ..
def Zgu(f0:ZW)(f:Ke):(fsH f0 f).length=f.length+1:=by unfold fsH;rw[Qi,WH]
def Zi1(f:Ke):(wsH f).length=f.length+1:=by unfold wsH;rw[Qi,WH]
def A0(f0:ZW)(f:Ke):(Kl f0 f).length=f.length+1:=by unfold Kl;rw[Qi,WH]
end Pu
namespace Pu
@[irreducible] def mixP (c k:Int):Int:=((c % 2147483647+7919*k+1)*48271 % 2147483647+104729*k+11)*69621 % 2147483647
open L2 M Own PyProof.Rows PySem PySem.Spec
def Dd.fld_ok {d:Dd} (g:Field f) (o:f.length<=40) (e:d.err f w=none):Field (d.fld f)/\(d.fld f).length<=40:=by
 cases d with
 |sell p h=>exact⟨Zhe g e,by rw[show(Dd.sell p h).fld f=Nc f p h from rfl,Rz];exact o⟩
 |part p v=>
  have e:KD f p v=none:=e;rcases RW f p v with⟨z,_⟩|⟨z,_⟩|⟨z,_⟩|⟨_,_,n,l,s,r,u⟩
  ·grind
  ·rw[e]at z;cases z
  ·rw[e]at z;cases z
  ·exact⟨Zdi g n l s r,by rw[show(Dd.part p v).fld f=PZ f p v from rfl,RU n l];lia⟩
 |unite p=>
  have e:Kt f p=none:=e;rcases L0 f p with⟨z,_⟩|⟨z,_⟩|⟨z,_⟩|⟨_,_,n,l⟩
  ·rw[e]at z;cases z
  ·rw[e]at z;cases z
  ·rw[e]at z;cases z
  ·exact⟨Zq6 g e,by rw[show(Dd.unite p).fld f=Te f p from rfl];have:=Rb n l;lia⟩
 |_=>exact⟨g,o⟩
def Dd.wsh_ok {f w}{d:Dd} (g:TL w) (e:d.err f w=none):TL (d.wsh w):=by
 cases d with
 |wish a b=>exact Zrd g e
 |drop a b=>exact Zrb g
 |_=>trivial
def FineH(f0:ZW)(f:Ke):Prop:=(∀g∈fsH f0 f,Field g/\g.length<=40)/\∀g∈wsH f,TL g
def FineH.cur (h:FineH f0 f):(Field (X7 f0 f)/\(X7 f0 f).length<=40)/\TL (XQ f):=by
 obtain⟨fs,n,_⟩:=FO f0 f;obtain⟨g,l,_⟩:=Gi f;exact⟨h.1 _ (by grind),h.2 _ (by grind)⟩
def FineH.nil (l:Field f0) (h:f0.length<=40):FineH f0 []:=
 ⟨λg f=>by rw[show fsH f0 []=[f0]from rfl,WR]at f;subst f;exact⟨l,h⟩,λg f=>by rw[show wsH []=[[]]from rfl,WR]at f;subst f;exact Zl9⟩
def FineH.snoc (h:FineH f0 l) (o:Field x.2.1/\x.2.1.length<=40) (n:TL x.2.2):FineH f0 (l++[x]):=
 ⟨λg f=>by rw[Bl]at f;rcases Qm.mp f with f|f;{exact h.1 g f};{rw[WR]at f;subst f;exact o},λg f=>by rw[AF]at f;rcases Qm.mp f with f|f;{exact h.2 g f};{rw[WR]at f;subst f;exact n}⟩
def FineH.init (h:FineH f0 (l++[x])):FineH f0 l:=
 ⟨λg f=>h.1 g (by rw[Bl];exact Ve _ f),λg f=>h.2 g (by rw[AF];exact Ve _ f)⟩
def FineH.back (h:FineH f0 f):FineH f0 f.dropLast:=by
 rcases QD f with rfl|⟨l,x,rfl⟩
 ·grind
 ·rw[QU]at h ⊢;rw[Vg];exact h.init
noncomputable def Ph(f0:ZW)(f:Ke)(d:Dd):Ke:=if d.err (X7 f0 f) (XQ f)=none then f++[(d,d.fld (X7 f0 f),d.wsh (XQ f))]else f
def OT(f0:ZW)(f:Ke)(d:Dd):(Ph f0 f d).length<=f.length+1:=by
 unfold Ph;split
 ·simp
 ·simp
def FineH.add (h:FineH f0 f) (d:Dd):FineH f0 (Ph f0 f d):=by
 unfold Ph;split
 ·rename_i e;obtain⟨⟨n,l⟩,g⟩:=h.cur;exact h.snoc (Dd.fld_ok n l e) (Dd.wsh_ok g e)
 ·lia
def Dd.code_pos {x:Dd} (h:¬x.err f w=none):0<codeN (x.err f w):=by
 rcases x.err_cases f w with e|e|e|e|e|e|e|e|e|e|e|e<;>rw[e]at h ⊢
 ·grind
 ·trivial
 ·rw[AU];decide
 ·rw[RF];decide
 ·rw[Eb];decide
 ·rw[OS];decide
 ·rw[Rh];decide
 ·rw[Zby];decide
 ·rw[Za2];decide
 ·rw[Li];decide
 ·rw[MS];decide
 ·rw[LD];decide
def Dd.not_back (d:Dd):¬d.q.1=("back" : Str):=by
 cases d with
 |sell p h=>exact(by decide +kernel:¬("sell" : Str) = "back")
 |part p h=>exact(by decide +kernel:¬("part" : Str) = "back")
 |unite p=>exact(by decide +kernel:¬("unite" : Str) = "back")
 |wish p h=>exact(by decide +kernel:¬("wish" : Str) = "back")
 |drop p h=>exact(by decide +kernel:¬("drop" : Str) = "back")
noncomputable def Sz(ds:List D):Nat:=match ds.getLast? with
 |some (.tup (_ :: .lst w::_))=>w.length
 |_=>0
noncomputable def Zrg(f:List (Option Pu.S)):Nat:=match f[1]? with
 |some (some<|Pu.S.own<|Pu.O.lsA _ g)=>Sz g
 |_=>0
def Zqw(ds:List D)(x:D):Sz (ds++[x])=Sz [x]:=by
 unfold Sz;simp
def RQ(f0:ZW)(f:Ke):Sz (Kl f0 f)=(XQ f).length:=by
 rcases QD f with rfl|⟨l,x,rfl⟩
 ·rfl
 ·rw[QU,AX,Zqw];unfold XQ;rw[Jn];show(List.map prD x.2.2).length=_
  grind
def Zn4(h:(a,b)∈w):(Nd w a b).length<w.length:=by
 unfold Nd;simp_all
def Zvd{f a b}(h:(a,b)∈XQ f):Ph f0 f (.drop a b)=f++[(.drop a b,X7 f0 f,Nd (XQ f) a b)]:=by
 unfold Ph;rw[WQ]
 ·rfl
 ·show K6 (XQ f) a b=none;unfold K6
  grind
def Zaj(f:Ke)(x:Dd×ZW×ZW):XQ (f++[x])=x.2.2:=by unfold XQ;rw[Jn]
def Zit(f0:ZW)(f:Ke)(x:Dd×ZW×ZW):X7 f0 (f++[x])=x.2.1:=by unfold X7;rw[Jn]
def Zjy{g:Type}(f:g->D){xs}(h:xs≠[]):∃x∈xs,atI (xs.map f) (-1)=some (f x):=by
 rcases QD xs with rfl|⟨l,x,rfl⟩
 ·grind
 ·rw[QU];exact⟨x,by simp,Fc f l x⟩
def Zgy(h:Ring f [] r):False:=by
 have g:=h.two
 have:=h.last r[0] (r[r.length-1]'(by lia)) (WI<|by lia) (WI<|by lia)
 grind
end Pu
namespace Own
open PySem PySem.Spec PyProof.Rows L2
section
variable {prog:Program}{w:World}{A:Around}{E:Ya}{s:Shared}{l:Addr}{xs:Array (Int×Tok)}
def Zo1(x:A.handled=none)(p:s.heap.IsTuple l (intItems xs))(g:0<xs.size)(h:∀v h' f,(intItems xs)[argBest (λi j=>decide (numAt xs i<numAt xs j)) (xs.size-1)]?=some v->(∀b o,s.heap.get? b=some o->h'.get? b=some o)->Q v {s with heap:=h',toks:=f}) :
  wpAny (model prog w) A (call (.builtin "min") [.ref l]) Q E s:=by
 have n:l<s.heap.objs.size:=by obtain⟨_,e,_⟩:=p;exact WX e
 refine call_min_walk (wpAny_pyIter_tuple p ?_);refine⟨_,[_,l],[_],_,_,_,_,rfl,Walks.tuple (A:=A.in1) x _ l (Qj n) (intItems xs),⟨⟨_,WU _ rfl,rfl,rfl⟩,p.push _⟩,λc r=>?_,by simpa [intItems]using g,CmpOf.ints_lt (numAt xs) (λ_ _=>intItems_at),λv h' f y u=>?_⟩
 ·show c<(s.heap.push _).objs.size;rw[Vn];rcases WZ.mp r with rfl|r
  ·exact V8 _
  ·grind
 ·refine h v h' f (by simpa [intItems]using y) λb o e=>u b o (λhm=>?_) (WM _ e);rcases WZ.mp hm with z|hm
  ·exact absurd (z▸WX e) (Vc _)
  ·cases hm
def Zu2(x:A.handled=none)(p:s.heap.IsTuple l (intItems xs))(g:0<xs.size)(h:∀v h' f,(intItems xs)[argBest (λi j=>decide (numAt xs i>numAt xs j)) (xs.size-1)]?=some v->(∀b o,s.heap.get? b=some o->h'.get? b=some o)->Q v {s with heap:=h',toks:=f}) :
  wpAny (model prog w) A (call (.builtin "max") [.ref l]) Q E s:=by
 have n:l<s.heap.objs.size:=by obtain⟨_,e,_⟩:=p;exact WX e
 refine call_max_walk (wpAny_pyIter_tuple p ?_);refine⟨_,[_,l],[_],_,_,_,_,rfl,Walks.tuple (A:=A.in1) x _ l (Qj n) (intItems xs),⟨⟨_,WU _ rfl,rfl,rfl⟩,p.push _⟩,λc r=>?_,by simpa [intItems]using g,CmpOf.ints_gt (numAt xs) (λ_ _=>intItems_at),λv h' f y u=>?_⟩
 ·show c<(s.heap.push _).objs.size;rw[Vn];rcases WZ.mp r with rfl|r
  ·exact V8 _
  ·grind
 ·refine h v h' f (by simpa [intItems]using y) λb o e=>u b o (λhm=>?_) (WM _ e);rcases WZ.mp hm with z|hm
  ·exact absurd (z▸WX e) (Vc _)
  ·cases hm
end
section
variable {X:Cx}{K:ZV}
def Zut(E:X.calm=true)(L:autoParam (X.K=K) au_0):Kx X (.builtin "min") (λxs H Q=>∃p a b,xs=[.ref p]/\SqT K H p [.int a,.int b]/\Q (.int (if b<a then b else a)) H):=by
 subst L;intro pins s M H xs N Q I w h;obtain⟨p,a,b,rfl,G,q⟩:=h;obtain⟨u,rfl,x⟩:=w.one;obtain rfl:=x;obtain⟨B,r,A,_⟩:=I.tuple G;cases r with
 |cons z r=>
  cases r with
  |cons y r=>
   cases r
   obtain⟨g,rfl⟩:=z;obtain⟨f,rfl⟩:=y;have C:s.heap.IsTuple p (intItems #[(a,g),(b,f)]):=by have this:s.heap.IsTuple p _:=A;simpa [intItems]using this
   refine Zo1 (I.ok.hd E) C (by simp) λv U T J o=>?_;have n:(intItems #[(a,g),(b,f)])[argBest (λi j=>decide (numAt #[(a,g),(b,f)] i<numAt #[(a,g),(b,f)] j)) 1]?=some v:=J;by_cases l:b<a
   ·have e:argBest (λi j=>decide (numAt #[(a,g),(b,f)] i<numAt #[(a,g),(b,f)] j)) 1=1:=by simp[argBest,numAt,l]
    rw[e]at n;obtain rfl:Value.int b f=v:=by simpa [intItems]using n
    rw[WQ l]at q;exact⟨.int b,H,I.kept o,⟨_,rfl⟩,q⟩
   ·have e:argBest (λi j=>decide (numAt #[(a,g),(b,f)] i<numAt #[(a,g),(b,f)] j)) 1=0:=by simp[argBest,numAt,l]
    rw[e]at n;obtain rfl:Value.int a g=v:=by simpa [intItems]using n
    rw[WN l]at q;exact⟨.int a,H,I.kept o,⟨_,rfl⟩,q⟩
def Zlw(E:X.calm=true)(L:autoParam (X.K=K) au_0):Kx X (.builtin "max") (λxs H Q=>∃p a b,xs=[.ref p]/\SqT K H p [.int a,.int b]/\Q (.int (if b>a then b else a)) H):=by
 subst L;intro pins s M H xs N Q I w h;obtain⟨p,a,b,rfl,G,q⟩:=h;obtain⟨u,rfl,x⟩:=w.one;obtain rfl:=x;obtain⟨B,r,A,_⟩:=I.tuple G;cases r with
 |cons z r=>
  cases r with
  |cons y r=>
   cases r
   obtain⟨g,rfl⟩:=z;obtain⟨f,rfl⟩:=y;have C:s.heap.IsTuple p (intItems #[(a,g),(b,f)]):=by have this:s.heap.IsTuple p _:=A;simpa [intItems]using this
   refine Zu2 (I.ok.hd E) C (by simp) λv U T J o=>?_;have n:(intItems #[(a,g),(b,f)])[argBest (λi j=>decide (numAt #[(a,g),(b,f)] i>numAt #[(a,g),(b,f)] j)) 1]?=some v:=J;by_cases l:b>a
   ·have e:argBest (λi j=>decide (numAt #[(a,g),(b,f)] i>numAt #[(a,g),(b,f)] j)) 1=1:=by simp[argBest,numAt,l]
    rw[e]at n;obtain rfl:Value.int b f=v:=by simpa [intItems]using n
    rw[WQ l]at q;exact⟨.int b,H,I.kept o,⟨_,rfl⟩,q⟩
   ·have e:argBest (λi j=>decide (numAt #[(a,g),(b,f)] i>numAt #[(a,g),(b,f)] j)) 1=0:=by simp[argBest,numAt,l]
    rw[e]at n;obtain rfl:Value.int a g=v:=by simpa [intItems]using n
    rw[WN l]at q;exact⟨.int a,H,I.kept o,⟨_,rfl⟩,q⟩
end
end Own
namespace Pu
open PySem PySem.Spec PyProof.Rows L2 Own
section
variable {K:ZV}{mg:ZZ}{E:L2.St->XK}
def Zb4:List S->(S->Prop)->Prop
 |[s],R=>(match s.d with | .tup [.int a,.int b]=>R (.sh<|.int (if b<a then b else a))|_=>False)
 |_,_=>False
def Ow:List S->(S->Prop)->Prop
 |[s],R=>(match s.d with | .tup [.int a,.int b]=>R (.sh<|.int (if b>a then b else a))|_=>False)
 |_,_=>False
def Zn7(B:XO K mg E n r):Xx K mg E (tCB (λxs H Q=>∃p a b,xs=[.ref p]/\SqT K H p [.int a,.int b]/\Q (.int (if b<a then b else a)) H) n) (pCB Zb4 r):=by
 refine Td B λT H C Z L G R Q u M N l h q=>?_;unfold Zb4 at h;split at h
 ·rename_i s;obtain⟨v,rfl,o⟩:=l.one_inv;have f:=o.rp u;split at h
  ·rename_i a b e;rw[e]at f;obtain⟨p,J,rfl,g,w⟩:=Rp.tup_inv f;obtain⟨x,y,rfl,A,z⟩:=w.two_inv;rw[A.int_inv,z.int_inv]at g;exact⟨p,a,b,rfl,SqT.of g,q _ _ C h (Same.refl _) (.int _)⟩
  ·exact h.elim
 ·exact h.elim
def Zo9(B:XO K mg E n r):Xx K mg E (tCB (λxs H Q=>∃p a b,xs=[.ref p]/\SqT K H p [.int a,.int b]/\Q (.int (if b>a then b else a)) H) n) (pCB Ow r):=by
 refine Td B λT H C Z L G R Q u M N l h q=>?_;unfold Ow at h;split at h
 ·rename_i s;obtain⟨v,rfl,o⟩:=l.one_inv;have f:=o.rp u;split at h
  ·rename_i a b e;rw[e]at f;obtain⟨p,J,rfl,g,w⟩:=Rp.tup_inv f;obtain⟨x,y,rfl,A,z⟩:=w.two_inv;rw[A.int_inv,z.int_inv]at g;exact⟨p,a,b,rfl,SqT.of g,q _ _ C h (Same.refl _) (.int _)⟩
  ·grind
 ·grind
end
end Pu
namespace M
open PySem PySem.Spec PyProof.Rows L2 Own Pu
noncomputable def ltS(k:Int):ZW->Int
 |[]=>0
 |q::l=>(if q.1<k then q.2 else 0)+ltS k l
noncomputable def gtS(k:Int):ZW->Int
 |[]=>0
 |q::l=>(if k<q.1 then q.2 else 0)+gtS k l
noncomputable def Kp:ZW->Int
 |[]=>0
 |p::l=>ltS p.1 l*p.2+Kp l
theorem Mf(k:Int)(a b:Int×Int)(B:ZW):∀A,ltS k (A++a::b::B)=ltS k (A++b::a::B)
 |[]=>by simp only[List.nil_append,ltS];lia
 |q::A=>by simp only[Vb,ltS];rw[Mf k a b B A]
theorem BG(a b:Int×Int)(B:ZW):∀A,Kp (A++a::b::B)+(if a.1<b.1 then a.2*b.2 else 0)=Kp (A++b::a::B)+(if b.1<a.1 then a.2*b.2 else 0)
 |[]=>by
  simp only[List.nil_append,Kp,ltS];by_cases f:a.1<b.1
  ·grind
  ·grind
 |q::A=>by
  simp only[Vb,Kp];rw[Mf q.1 a b B A]
  have:=BG a b B A
  lia
theorem OF:∀{l:ZW},(∀q∈l,k<=q.1)->ltS k l=0
 |[],_=>rfl
 |q::l,h=>by
  unfold ltS;rw[WN (by grind),OF λx hx=>h x (Qs _ hx)];rfl
theorem GK:∀{l:ZW},l.Pairwise (λx y=>x.1<=y.1)->Kp l=0
 |[],_=>rfl
 |p::l,h=>by
  obtain⟨g,f⟩:=QO.mp h;unfold Kp;rw[OF g,GK f,Int.zero_mul];rfl
theorem Mr(k:Int)(p:Int×Int):∀l,ltS k (l++[p])=ltS k l+(if p.1<k then p.2 else 0)
 |[]=>by simp[ltS]
 |q::l=>by simp only[Vb,ltS];rw[Mr k p l];lia
theorem Rn(k:Int)(p:Int×Int):∀l,gtS k (l++[p])=gtS k l+(if k<p.1 then p.2 else 0)
 |[]=>by simp[gtS]
 |q::l=>by simp only[Vb,gtS];rw[Rn k p l];lia
theorem Zb1(p:Int×Int):∀l,Kp (l++[p])=Kp l+gtS p.1 l*p.2
 |[]=>by simp[Kp,ltS,gtS]
 |q::l=>by
  simp only[Vb,Kp,gtS];rw[Mr,Zb1 p l,Int.add_mul,Int.add_mul];by_cases h:p.1<q.1
  ·grind
  ·grind
noncomputable def TZ(os:ZX)(ps:ZW):ZW:=ps.map λq=>((os.idxOf q.1:Nat),q.2)
theorem Zaa(ps:ZW)(os:ZX)(h:Int):∀n,n<=ps.length->rsM ps os h n=gtS (os.idxOf h:Nat) (TZ os<|ps.take n)
 | 0,_=>by simp[rsM,gtS,TZ]
 |n+1,f=>by
  unfold rsM TZ;rw[Zaa ps os h n (by lia),Qh (by lia),WY,VU,Rn,WK,WI (by lia)];show _+(if os.idxOf h<os.idxOf ps[n].1 then ps[n].2 else 0)=_+(if ((os.idxOf h:Nat):Int)<((os.idxOf ps[n].1:Nat):Int)then ps[n].2 else 0);by_cases c:os.idxOf h<os.idxOf ps[n].1
  ·rw[WQ c,WQ (by lia)];rfl
  ·rw[WN c,WN (by lia)];rfl
theorem LL(ps:ZW)(os:ZX):∀n,n<=ps.length->Tg ps os n=Kp (TZ os<|ps.take n)
 | 0,_=>by simp[Tg,Kp,TZ]
 |n+1,f=>by
  unfold Tg;rw[LL ps os n (by lia),Zaa ps os _ n (by lia),WK,WI (by lia),Qh (by lia)];show _=Kp (List.map _ (ps.take n++[ps[n]]));rw[WY,VU,Zb1];rfl
def Lm(ps:ZW)(os:ZX):Tg ps os ps.length=Kp (TZ os ps):=by
 rw[LL ps os _ (WS _),QF]
noncomputable def wdN(ps:ZW)(m:Int):Int:=(ps.getD (m-1).toNat (0,0)).2
noncomputable def hdN(ps:ZW)(m:Int):Int:=(ps.getD (m-1).toNat (0,0)).1
noncomputable def KC(ps:ZW)(f:Int->Int)(ns:ZX):ZW:=ns.map λm=>(f m,wdN ps m)
def Sg{p}(o:1<=p)(g:p<ns.length):∃A x y B,ns=A++x::y::B/\A.length+1=p/\Kq ns p=A++y::x::B/\ns.getD (p-1) 0=x/\ns.getD p 0=y:=by
 have f:ns.drop (p-1)=ns[p-1]'(by lia)::ns.drop (p-1+1):=Qw (by lia);have n:p-1+1=p:=by lia
 rw[n,(Qw g)]at f;have l:ns.getD p 0=ns[p]:=by rw[WK,WI g];rfl
 have h:ns.getD (p-1) 0=ns[p-1]'(by lia):=by grind
 refine⟨ns.take (p-1),ns[p-1]'(by lia),ns[p],ns.drop (p+1),by rw[←f,JH],by rw[Qo];lia,?_,h,l⟩;unfold Kq;rw[l,h];simp
def AI(f:Field ps)(m:Int):0<=wdN ps m:=by
 unfold wdN;rw[WK];by_cases h:(m-1).toNat<ps.length
 ·rw[WI h]
  have:=f _ (Qc h)
  grind
 ·rw[QS (by lia)]
  grind
def Ad{x y}(hx:ns.getD (p-1) 0=x)(f:ns.getD p 0=y):exM ps ns p=wdN ps x*wdN ps y:=by
 unfold exM wdN
 grind
def Ln{p}(g:1<=p)(f:p<ns.length):(Kq ns p).length=ns.length:=(Em g f).length_eq
def Zkj(g:Field ps)(f:Int->Int){ns p}(l:1<=p)(h:p<ns.length):Kp (KC ps f ns)<=Kp (KC ps f<|Kq ns p)+exM ps ns p:=by
 obtain⟨A,x,y,B,e,_,o,n,ey⟩:=Sg l h;rw[o,Ad n ey,e];unfold KC;rw[WY,Qa,Qa,WY,Qa,Qa];have k:=BG (f x,wdN ps x) (f y,wdN ps y) (B.map λm=>(f m,wdN ps m)) (A.map λm=>(f m,wdN ps m));have hw:=Int.mul_nonneg (AI g x) (AI g y);simp only at k;lia
def Zqf(f:Int->Int){ns p}(l:1<=p)(g:p<ns.length)(h:f (ns.getD p 0)<f (ns.getD (p-1) 0)):Kp (KC ps f ns)=Kp (KC ps f<|Kq ns p)+exM ps ns p:=by
 obtain⟨A,x,y,B,e,_,o,n,ey⟩:=Sg l g;rw[o,Ad n ey];unfold KC;have k:=BG (f x,wdN ps x) (f y,wdN ps y) (B.map λm=>(f m,wdN ps m)) (A.map λm=>(f m,wdN ps m))
 grind
theorem MX(g:Field ps)(f:Int->Int):∀o ns c st,ns.length=ps.length->TQ ps o (ns,c)=some st->Kp (KC ps f ns)+c<=Kp (KC ps f st.1)+st.2
 |[],ns,c,st,_,h=>by
  rw[FD]at h
  grind
 |p::r,ns,c,st,s,h=>by
  rw[FZ]at h;split at h
  ·grind
  ·rename_i u;have n:1<=p.toNat:=by lia
   have l:p.toNat<ns.length:=by lia
   have:=MX g f r _ _ st (by show(Kq ns p.toNat).length=_;rw[Ln n l];exact s) h
   have:=Zkj g f n l
   grind
def Ol(ps:ZW)(os:ZX):KC ps (λm=>(os.idxOf (hdN ps m):Nat)) (X0 1 ps.length)=TZ os ps:=by
 unfold KC TZ X0;refine Uk (by simp) λi h g=>?_;have f:i<ps.length:=by grind
 simp only[Vm,List.getElem_range,hdN,wdN]
 grind
theorem Zb8(ps:ZW)(p:Int):∀g st f,TQ ps g st=some f->TQ ps (g++[p]) st=TQ ps [p] f
 |[],st,f,h=>by rw[FD]at h;cases h;rfl
 |q::r,st,f,h=>by
  rw[Vb,FZ];rw[FZ]at h;split at h
  ·grind
  ·rename_i c;rw[WN c];exact Zb8 ps p r _ f h
noncomputable def rkN(ps:ZW)(o:ZX)(m:Int):Int:=(o.idxOf (hdN ps m):Nat)
def Zgx(A B:ZX)(x y:Int):Kq (A++y::x::B) (A.length+1)=A++x::y::B:=by
 have f:A.length+1<(A++y::x::B).length:=by simp
 obtain⟨h,a,b,p,e,o,n,_,_⟩:=Sg (by simp) f;have g:h.length=A.length:=by lia
 obtain⟨rfl,l⟩:=List.append_inj e g.symm
 grind
def Zez(n:Nat):(X0 1 n).Pairwise (· < ·):=by
 unfold X0;rw[QJ];exact List.pairwise_lt_range.imp λ{a b} h=>by lia
def Zjs(g:Field ps){o G f c}(p:G.Pairwise λx y=>rkN ps o x<=rkN ps o y)(hw:TQ ps f (X0 1 ps.length,0)=some (G,c)):Tg ps o ps.length<=c:=by
 have h:=MX g (rkN ps o) f _ _ _ (KM _) hw
 have n:Kp (KC ps (rkN ps o) G)=0:=by
  refine GK ?_;unfold KC
  grind
 have l:KC ps (rkN ps o) (X0 1 ps.length)=TZ o ps:=Ol ps o;rw[l,←Lm,n]at h;lia
def FW(f:ZX)(p:Nat):Prop:=(∀q,1<=q->q<(if p=0 then f.length else p)->f.getD (q-1) 0<=f.getD q 0)/\(p=0\/(1<=p/\p<f.length/\f.getD p 0<f.getD (p-1) 0))
abbrev Mo:=Int×Int×Int×Int
inductive Mv (ps:ZW) (f:Int->Int):ZX->List Mo->Prop
 |done (ns:ZX):FW (ns.map f) 0->Mv ps f ns []
 |step (ns:ZX) (p:Nat) (ms:List Mo):FW (ns.map f) p->p≠0->Mv ps f (Kq ns p) ms->Mv ps f ns (((p:Int),ns.getD (p-1) 0,ns.getD p 0,exM ps ns p)::ms)
def Nl{f:Int->Int}{ns:ZX}{i}(h:i<ns.length):(ns.map f).getD i 0=f (ns.getD i 0):=by grind
noncomputable def E4(ps:ZW)(ns:ZX):ZW:=ns.map λm=>ps.getD (m-1).toNat (0,0)
def Zc1(ps:ZW):E4 ps (X0 1 ps.length)=ps:=by
 unfold E4 X0;refine Uk (by simp) λi g f=>?_;simp only[Vm,List.getElem_range]
 grind
def Zgr(h:ns.Perm (X0 1 ps.length)):(E4 ps ns).Perm ps:=by
 have:=h.map λm=>ps.getD (m-1).toNat (0,0)
 rw[show(X0 1 ps.length).map (λm=>ps.getD (m-1).toNat (0,0))=ps from Zc1 ps]at this
 trivial
noncomputable def P8(f:Int->Int)(ns:ZX):Int:=Kp (ns.map λm=>(f m,1))
def Zcq(f:Int->Int){ns p}(l:1<=p)(g:p<ns.length)(h:f (ns.getD p 0)<f (ns.getD (p-1) 0)):P8 f ns=P8 f (Kq ns p)+1:=by
 obtain⟨A,x,y,B,e,_,o,n,ey⟩:=Sg l g;rw[n,ey]at h;rw[o,e];unfold P8;rw[WY,Qa,Qa,WY,Qa,Qa];have k:=BG (f x,1) (f y,1) (B.map λm=>(f m,1)) (A.map λm=>(f m,1));lia
theorem IA(f:Int->Int)(k:Int):∀l:ZX,0<=ltS k (l.map λm=>(f m,1))/\ltS k (l.map λm=>(f m,1))<=l.length
 |[]=>⟨J9 0,J9 0⟩
 |m::l=>by
  have:=IA f k l
  rw[Qa,Qi];unfold ltS;lia
theorem SM(f:Int->Int):∀l,0<=P8 f l/\P8 f l<=(l.length:Int)*l.length
 |[]=>⟨J9 0,J9 0⟩
 |m::l=>by
  have g:=SM f l;have h:=IA f (f m) l;unfold P8 at g ⊢;rw[Qa,Qi];unfold Kp
  grind
noncomputable def toI:D->Int
 | .int i=>i
 |_=>0
noncomputable def mvN(f:List (Option Pu.S)):Nat:=match f[2]?,f[3]? with
 |some (some<|Pu.S.own<|Pu.O.lst g),some (some<|Pu.S.own<|Pu.O.lst h)=>(P8 (λm=>(g.map toI).getD (m-1).toNat 0)<|h.map toI).toNat
 |_,_=>0
def DX(xs:ZX):(xs.map D.int).map toI=xs:=by
 rw[Qt];exact List.map_id _
end M
namespace Pu
open PySem PySem.Spec PyProof.Rows L2 Own M
noncomputable abbrev mvD(m:Mo):D:=.tup [.int m.1,.int m.2.1,.int m.2.2.1,.int m.2.2.2]
end Pu
namespace M
open PySem PySem.Spec PyProof.Rows L2 Own Pu
def Mv.len (h:Mv ps f ns l):(l.length:Int)<=P8 f ns:=by
 induction h with
 |done ns hw=>exact(SM f ns).1
 |step ns p l o s v u=>
  obtain⟨r,g,n⟩:=o.2.resolve_left s;rw[WH]at g;rw[Nl g,Nl (by lia)]at n
  have:=Zcq f r g n
  grind
end M
namespace Pu
open PySem PySem.Spec PyProof.Rows L2 Own
section
variable {X:Cx}{k j:Nat}{x:Str}{ps:Ye}{sp:Sp}{e a b c:Expr}{es:Yf}{t:TA}{te tf tg:TE}{p pos:Pos}
def fz(C:Callee X.prog X.w X.K X.mg X.base CX0 k x ps sp)(h:XC j X.A)(r:PA X (e::es) t)(l:autoParam (k<=j) au_1)(n:autoParam (Gl X x) au_0)(g:autoParam ((x==("__debug__" : Str))=false) au_1)(o:autoParam (starEach (e::es) X.env=(false,eval e X.env)::starEach es X.env) au_0)(f:autoParam ((backTo pos<|starEach es X.env).any (·.1)=false) au_0) :
  PE X (.Call (.Name x p) (e::es) [] pos) (NX sp [] E0 t):=SE C (h.mono l) K4 r n g o f
def jx(K:ZV)(h:PE X a te)(g:PE X b tf)(l:autoParam (X.K=K) au_0)(f:autoParam (EW b) au_7):PE X (.Subscript a b pos) (tOp (λx y H Q=>Fp K x y H Q\/Fh K x y H Q) te tf):=Zcl (RL l) h g f
def ln(K:ZV)(h:X.mg "len"=none)(o:PE X a te)(r:autoParam (X.K=K) au_0)(l:autoParam (Gl X "len") au_0)(g:autoParam (starEach [a] X.env=(false,eval a X.env)::starEach [] X.env) au_0)(f:autoParam ((backTo pos<|starEach [] X.env).any (·.1)=false) au_0) :
  PE X (.Call (.Name "len" p) [a] [] pos) (tCB (λxs H Q=>∃x n,xs=[x]/\AS K x H n/\Q (.int (n:Nat)) H)<|KF te P7):=K0 (Zur r) l h PySem.boot_len (Kw o Pr g) (by decide) rfl g f
def cq(K:ZV)(f:XC j X.A)(h:PE X a te)(g:PE X b tf)(l:autoParam (X.K=K) au_0):PT X (.Compare a [.Eq] [b] pos) (FL<|tOp (λx y H Q=>rEq x y H Q\/N4 K false x y H Q) te tf):=T7 (NS f.units0 l) h g (KO _)
def cn(K:ZV)(f:XC j X.A)(h:PE X a te)(g:PE X b tf)(l:autoParam (X.K=K) au_0):PT X (.Compare a [.NotEq] [b] pos) (FL<|tOp (λx y H Q=>rNe x y H Q\/N4 K true x y H Q) te tf):=T7 (Mh f.units0 l) h g (KO _)
def az(f:PE X a te)(g:autoParam (starEach [a] X.env=(false,eval a X.env)::starEach [] X.env) au_0):PA X [a] (KF te P7):=Kw f Pr g
def bz(g:PE X a te)(f:PE X b tf)(l:autoParam (starEach [a,b] X.env=(false,eval a X.env)::starEach [b] X.env) au_0)(h:autoParam (starEach [b] X.env=(false,eval b X.env)::starEach [] X.env) au_0):PA X [a,b] (KF te<|KF tf P7):=Kw g (Kw f Pr h) l
def dz(h:PE X a te)(g:PE X b tf)(f:PE X c tg)(o:autoParam (starEach [a,b,c] X.env=(false,eval a X.env)::starEach [b,c] X.env) au_0)(n:autoParam (starEach [b,c] X.env=(false,eval b X.env)::starEach [c] X.env) au_0)(l:autoParam (starEach [c] X.env=(false,eval c X.env)::starEach [] X.env) au_0):PA X [a,b,c] (KF te<|KF tf<|KF tg P7):=Kw h (Kw g (Kw f Pr l) n) o
end
section
variable {K:ZV}{mg:ZZ}{E:L2.St->XK}{ta tb tc:TE}{a b c:PTE}
def sz(f:Xx K mg E ta a):XO K mg E (KF ta P7) (PH a Nt):=Pn f Ka
def tz(g:Xx K mg E ta a)(f:Xx K mg E tb b):XO K mg E (KF ta<|KF tb P7) (PH a<|PH b Nt):=Pn g (sz f)
def uz(h:Xx K mg E ta a)(g:Xx K mg E tb b)(f:Xx K mg E tc c):XO K mg E (KF ta<|KF tb<|KF tc P7) (PH a<|PH b<|PH c Nt):=Pn h (tz g f)
end
section
variable {K:ZV}{h:Heap}{mg:ZZ}{C C':Addr}{x m q:Str}{st:Stmt}{ps:Ye}
abbrev Bd(x q:Str)(st:Stmt)(ps:Ye):Prop:=∀(kV g n:Value) (p:Yi) (l o:Value) (f:Yd),f.length=ps.length->bindArgs (PySem.W.fnOf x q (Ta st) (Km st) (Xy st) .none kV g n p l o) ⟨f,[]⟩=pure (ps.zip f)
def DI.e (D:DI K x st) (X:K.In h) (g:h.Ns mainGlobals mg) (b:Bd x x st ps:=by
  intro _ _ _ _ _ _ us f
  first
   |(obtain⟨_,rfl⟩:=Pu.BY f;rfl)
   |(obtain⟨_,_,rfl⟩:=Pu.AE f;rfl)
   |(obtain⟨_,_,_,rfl⟩:=Pu.Am f;rfl)
   |(obtain⟨_,_,_,_,rfl⟩:=Pu.DG f;rfl)
   |(obtain⟨_,_,_,_,_,rfl⟩:=Pu.Ztg f;rfl)):Def K mg x st ps:=D.d X g b
def MI.e (D:MI K C m q st) (e:C'=C) (b:Bd m q st ps:=by
  intro _ _ _ _ _ _ us f
  first
   |(obtain⟨_,rfl⟩:=Pu.BY f;rfl)
   |(obtain⟨_,_,rfl⟩:=Pu.AE f;rfl)
   |(obtain⟨_,_,_,rfl⟩:=Pu.Am f;rfl)
   |(obtain⟨_,_,_,_,rfl⟩:=Pu.DG f;rfl)):Kb K (Kc K C' m) m q st ps:=D.d e b
def MI.j (D:MI K C "__init__" q st) (e:C'=C) (mk:PySem.W.makesIn K C=true) (g:PySem.W.keepIn K (.ref C)=true) (b:Bd "__init__" q st ps:=by
  intro _ _ _ _ _ _ us f
  first
   |(obtain⟨_,rfl⟩:=Pu.BY f;rfl)
   |(obtain⟨_,_,rfl⟩:=Pu.AE f;rfl)
   |(obtain⟨_,_,_,rfl⟩:=Pu.Am f;rfl)):Kb K (Mk K C') "__init__" q st ps:=D.i e mk g b
end
section
variable {P:Program}{w:World}{K:ZV}{mg:ZZ}{base:Heap}{N ps:Ye}{sp:Sp}{p:PTS}{x q:Str}{st:Stmt}{k:Nat}{W:Addr->Prop}
structure Uz (K:ZV) (mg:ZZ) (N ps:Ye) (sp:Sp) (p:PTS):Prop where
 len:∀vs H Q E,sp vs H Q E->vs.length=ps.length
 run:∀vs H Q E t,sp vs H Q E->XF K mg (λ_=>E) t p->t {nx:=λ_ H'=>Q .non H',rt:=Q} (start N vs) H
def Uz.a (f:∀ds R X,c ds R X->ds.length=ps.length/\p {nx:=λ_=>R (.sh .non),rt:=R,ex:=λ_ e=>X e} (PY N ds)) (g:autoParam (ps.length<=N.length) au_1):Uz K mg N ps (X3 mg c K) p:=
 ⟨λ_ _ _ _ h=>Zf3 h λds R X z=>(f ds R X z).1,λ_ _ _ _ _ h s=>Zd4 h s g f⟩
def Uz.b (g:∀f R X,c f R X->f.length=ps.length/\p {nx:=λ_=>R (.sh .non),rt:=R,ex:=λ_ e=>X e} (NW N f)) (l:autoParam (ps.length<=N.length) au_1):Uz K mg N ps (spS mg c K) p:=
 ⟨λ_ _ _ _ h=>Zge h λn R X z=>(g n R X z).1,λ_ _ _ _ _ h s=>Zo4 h s l g⟩
def Uz.c {c y} (g:∀o f R X,c o f R X->f.length=ps.length/\p (RN o R X) (NL N o f)) (l:autoParam (ps.length+1<=N.length) au_1):Uz K mg N (y::ps) (spW mg c K) p:=
 ⟨λ_ _ _ _ h=>Zhi h λo n R X z=>(g o n R X z).1,λ_ _ _ _ _ h s=>Zld h s l g⟩
def Uz.d {c y z} (l:∀o1 f g R X,c o1 f g R X->g.length=ps.length/\p (RJ o1 f R X) (TB N o1 f g)) (n:autoParam (ps.length+2<=N.length) au_1):Uz K mg N (y::z::ps) (NC mg c K) p:=
 ⟨λ_ _ _ _ h=>Zcy h λo1 f o R X z=>(l o1 f o R X z).1,λ_ _ _ _ _ h s=>Ztj h s n l⟩
def _root_.Own.Def.oz (D:Def K mg x st ps) (S:Xz N ps (Xy st))
  (l:∀f g A outer s H E,XC k (A.deeper<|envOfC x (Xy st) s.heap.objs.size f g)->
   ∃t,PSs (Ks CX0 P w K mg base N x (Xy st) f g A outer s H E).nox (Km st) t/\XF K mg (λ_=>E) t p) (u:Uz K mg N ps sp p):Callee P w K mg base CX0 (k+1) x ps sp:=
 D.ok S u.len λf g A outer s H o Q E n h=>(l f g A outer s H E n).elim λt z=>⟨t,z.1,u.run _ _ _ _ _ h z.2⟩
def _root_.Own.Def.ox (D:Def K mg x st ps) (S:Xz N ps (Xy st))
  (l:∀f g A outer s H E,XC k (A.deeper<|envOfC x (Xy st) s.heap.objs.size f g)->
   ∃t,PSs (Ks (ExcR.CXe P w) P w K mg base N x (Xy st) f g A outer s H E) (Km st) t/\XF K mg (λ_=>E) t p) (u:Uz K mg N ps sp p):Callee P w K mg base (ExcR.CXe P w) (k+1) x ps sp:=
 ExcR.Def.okX D S u.len λf g A outer s H o Q E n h=>(l f g A outer s H E n).elim λt z=>⟨t,z.1,u.run _ _ _ _ _ h z.2⟩
def Kb.oz (D:Kb K W x q st ps) (S:Xz N ps (Xy st))
  (l:∀f g A outer s H E,XC k (A.deeper<|envOfC q (Xy st) s.heap.objs.size f g)->
   ∃t,PSs (Ks CX0 P w K mg base N q (Xy st) f g A outer s H E).nox (Km st) t/\XF K mg (λ_=>E) t p) (u:Uz K mg N ps sp p):Tv P w K mg base CX0 (k+1) W ps sp:=
 D.ok S u.len λf g A outer s H o Q E n h=>(l f g A outer s H E n).elim λt z=>⟨t,z.1,u.run _ _ _ _ _ h z.2⟩
def Kb.ox (D:Kb K W x q st ps) (S:Xz N ps (Xy st))
  (l:∀f g A outer s H E,XC k (A.deeper<|envOfC q (Xy st) s.heap.objs.size f g)->
   ∃t,PSs (Ks (ExcR.CXe P w) P w K mg base N q (Xy st) f g A outer s H E) (Km st) t/\XF K mg (λ_=>E) t p) (u:Uz K mg N ps sp p):Tv P w K mg base (ExcR.CXe P w) (k+1) W ps sp:=
 D.okX S u.len λf g A outer s H o Q E n h=>(l f g A outer s H E n).elim λt z=>⟨t,z.1,u.run _ _ _ _ _ h z.2⟩
end
section
variable {K:ZV}{h:Heap}{mg:ZZ}{x:Str}{C:Addr}
structure EI (K:ZV) (x:Str) (C:Addr):Prop where
 a:PySem.W.nsIn K mainGlobals x=some (some<|.ref C)
 g:ExcR.KU K C
def ei(a:PySem.W.nsIn K mainGlobals x=some (some<|.ref C))(q:PySem.W.excIn K C [.type "ValueError",.type "Exception",.type "BaseException",.type "object"] "ValueError.__new__"=true)(g:PySem.W.findIn K (.ref C) "__getattribute__"=some (some<|.builtin "BaseException.__getattribute__"))(f:PySem.W.findIn K (.ref C) "__getattr__"=some none)(l:PySem.W.findIn K (.ref C) "__class__"=some (some<|.builtin "object.__class__"))(i:PySem.W.clsIn K C=some d):EI K x C:=⟨a,⟨⟨q⟩,g,f,l,by rw[i];rfl⟩⟩
def EI.c (y:EI K x C) (X:K.In h) (f:h.Ns mainGlobals mg):ExcR.X9 mg x=C:=ExcR.RM (QM X f y.a)
def EI.m (y:EI K x C) (X:K.In h) (f:h.Ns mainGlobals mg):mg x=some (.ref<|ExcR.X9 mg x):=by rw[y.c X f];exact QM X f y.a
def EI.k (y:EI K x C) (X:K.In h) (f:h.Ns mainGlobals mg):ExcR.KU K (ExcR.X9 mg x):=by rw[y.c X f];exact y.g
end
end Pu
namespace M
open PySem PySem.Spec PyProof.Rows L2 Own Pu
def IS{ns:ZX}(h:FW (ns.map f) 0):ns.Pairwise λx y=>f x<=f y:=by
 have n:∀d i j g (l:i<ns.length),j=i+d->f ns[i]<=f ns[j]:=λd=>by
  induction d with
  |zero=>grind
  |succ d p=>
   intro i j g l e;have o:=h.1 j (by lia) (by grind);rw[Nl (by lia),Nl g,WK,WI (by lia),WK,WI g]at o;exact Int.le_trans (p i (j-1) (by lia) l<|by lia) o
 rw[Q7];intro i j l g r;exact n (j-i) i j g l (by lia)
def Mv.step_of (h:Mv ps f ns (m::l)):∃p:Nat,m=((p:Int),ns.getD (p-1) 0,ns.getD p 0,exM ps ns p)/\FW (ns.map f) p/\p≠0/\1<=p/\p<ns.length/\f (ns.getD p 0)<f (ns.getD (p-1) 0)/\Mv ps f (Kq ns p) l:=by
 cases h with
 |step _ p _ n r s=>
  obtain⟨u,g,o⟩:=n.2.resolve_left r;rw[WH]at g;rw[Nl g,Nl (by lia)]at o
  grind
def Zgl{A B}{x y:Int}(h:(A++x::y::B).Pairwise R)(f:R y x):(A++y::x::B).Pairwise R:=by
 rw[QY]at h ⊢;obtain⟨n,p,l⟩:=h;refine⟨n,?_,λa g b o=>l a g b ?_⟩
 ·simp_all
 ·grind
def F0(ps:ZW)(o:ZX)(x y:Int):Prop:=rkN ps o x<rkN ps o y\/(rkN ps o x=rkN ps o y/\x<y)
def Zj1{o ns:ZX}(g:FW (ns.map<|rkN ps o) 0)(f:ns.Pairwise λx y=>rkN ps o x=rkN ps o y->x<y):ns.Pairwise (F0 ps o):=
 ((IS g).and f).imp λ{x y} h=>by
  unfold F0;by_cases e:rkN ps o x=rkN ps o y
  ·lia
  ·lia
end M
namespace PySem
open Sem (wp)
structure Zo3 (es:List DictEntry) (kvs:List (Value×Value)):Prop where
 length:es.length=kvs.length
 get?:∀{i:Nat} {e:DictEntry} {k v:Value},es[i]?=some e->kvs[i]?=some (k,v)->e.key=k/\e.val=v
def BV(h:Heap)(a:Addr)(f:List (Value×Value))(ep:Nat):Prop:=
 ∃o g,h.get? a=some o/\o.ExactDict/\o.data=.dict g ep/\True/\Zo3 g.toList f/\True
section
variable {prog:Program}{w:World}{A:Around}{E:Ya}{s:Shared}
def Zun(d:Addr)(g:(d==sysModules)=false) :
  MeetsIn prog w (Builtin.«dict.items» ⟨[.ref d],[]⟩) (λ_ R s=>s.TypeIs (.ref d) "dict"/\
   R (.ok<|.ret<|.ref s.heap.objs.size) {s with heap:=s.heap.push {cls:=.type "dict_items",data:=.fields #[.ref d]}}):=
 .of_wp λA R s ⟨f,h⟩=>by
  unfold Builtin.«dict.items»;refine WG ?_;unfold Builtin.Dict.noArgs;refine WG (wpAny_notOrdered_dict f ?_);show wpAny _ _ (pure d) _ _ s;refine WJ ?_;show wpAny _ _ (Builtin.Dict.showsAll d >>= _) _ _ s;unfold Builtin.Dict.showsAll;rw[WN (by rw[g];exact Qe)];refine WG (WJ ?_);exact WG (Qq<|WJ ⟨_,rfl,h⟩)
def Zeh{v d:Addr}{g:List (Value×Value)}{ep:Nat}{Q:Ya}(l:s.heap.IsItemsView v d)(z:BV s.heap d g ep)(C:Q (.ref s.heap.objs.size) {s with heap:=s.heap.push {cls:=.type "dict_itemiterator",data:=.fields #[.none,.bool false,.ref d,.int 0 0,.int g.length 0,.int ep 0,.none,.none]}}) :
  wpAny (model prog w) A (pyIter<|.ref v) Q E s:=by
 obtain⟨H,p,B,r⟩:=id l;obtain⟨o,G,u,M,f,L,y,J⟩:=id z;refine Jb l.typeIs F.slot_dict_items_iter (QE F.slot_dict_items_iter l.typeIs F.entry_dict_items_iter ?_<|F.args_dict_items_iter_1 _);unfold Builtin.«dict_items.__iter__»;refine WG (WJ ?_);refine WG ?_;unfold Builtin.Dict_items.dictOf;refine WG (Vj p r (x:=.ref d) rfl<|WJ ?_);refine WG ?_;unfold Builtin.Dict_items.newIterator;refine WG (VE u f ?_);refine WG (VT u f ?_);have n:G.size=g.length:=by rw[←y.length];simp
 have h:Builtin.Dict_items.ownsTuple "dict_itemiterator"=true:=by decide
 simp only[h,if_true]
 refine Qq (WJ ⟨_,rfl, "dict_itemiterator",_,⟨_,WU _ rfl,rfl⟩,F.slot_dict_itemiterator_next.lookup,?_⟩)
  (by simp only[sizeOk,Builtin.Dict_items.ownedTupleFields,Qn,WT,Qi,JR,sizeLine_eq];omega)
 simpa [rawInt,n,Builtin.Dict_items.ownedTupleFields]using C
def Zg3{C d:Addr}{i ep:Nat}{f:List (Value×Value)}{k:Value}{v ok ov:Value}{Q:Yh->Shared->Prop}(hit:IsItemIter s.heap C d i f.length ep ok ov)(hm:BV s.heap d f ep)(hx:f[i]?=some (k,v))
  (hQ:∀key h',key=k->IsItemIterOut h' C d (i+1) f.length ep key v s.heap.objs.size->
   h'.get? s.heap.objs.size=some {cls:=.type "tuple",data:=.seq #[key,v]}->h'.objs.size=s.heap.objs.size+1->
   (∀b o,b≠C->s.heap.get? b=some o->h'.get? b=some o)->Q (some<|.ref s.heap.objs.size) {s with heap:=h'}) :
  wpAny (model prog w) A (pyNext<|.ref C) Q E s:=by
 obtain⟨hp,g,dr,tk,os⟩:=s;obtain⟨od,J,hod,hcd,hdd,hk,hpr,hn⟩:=id hm;have hT:Shared.TypeIs ⟨hp,g,dr,tk,os⟩ (.ref C) "dict_itemiterator":=⟨_,hit,rfl⟩;unfold pyNext
 refine WG (JD (Vh (name:=Str.ofString "__next__") hT V1
  (QE V1 hT F.entry_dict_itemiterator_next ?_<|F.args_dict_itemiterator_next_1 _)))
 refine WG (WJ ?_);refine WG ?_;refine WG ?_
 first|refine WG (Vv hT<|WJ ?_)|refine WG (VG hT<|WJ ?_)
 refine WG (Jy hit rfl ?_);have hown:Builtin.Dict_items.ownsTuple "dict_itemiterator"=true:=by decide
 simp only[hown,if_true];show wpAny _ _ (if (Value.ref d==Value.none)=true then _ else _) _ _ _;rw[WN (show ¬((Value.ref d==Value.none)=true)from Qe)]
 refine WG (WJ ?_);refine WG (VE hod hdd ?_);have hsz:J.size=f.length:=by rw[←hpr.length];simp
 rw[WN (by rw[hsz];simp)];refine WG (WJ ?_);refine WG (VT hod hdd ?_);rw[WN (by simp)];refine WJ ?_
 have hlt:i<f.length:=by
  rcases Ui i f.length with h|h
  ·exact h
  ·simp[QS h]at hx
 have hlt':i<J.size:=by rw[hsz];exact hlt
 obtain⟨hkey,hval⟩:=hpr.get? (e:=J[i]) (by simp[hlt']) hx;simp only[show ¬((i:Int)<0)from by omega,Jl,Qx,QR hlt']
 refine WG ?_
 first|refine WG (Vv hT<|WJ ?_)|refine WG (VG hT<|WJ ?_)
 refine WG (JA hT ?_);show wpAny _ _ (setField (.ref C) 3 (rawInt ((i:Int)+1)) >>= _) _ _ ⟨hp,g,dr,tk,os⟩;refine WG (VW hit (by simp) λl B y=>?_)
 replace y:Heap.SameBut C hp l:=y
 replace B:IsItemIter l C d (i+1) f.length ep ok ov:=by
  have e:((i+1:Nat):Int)=(i:Int)+1:=by omega
  unfold IsItemIter;rw[e];simpa [rawInt]using B
 have Y:Shared.TypeIs ⟨l,g,dr,tk,os⟩ (.ref C) "dict_itemiterator":=⟨_,B,rfl⟩;refine WG (QZ ?_);refine WG (JA Y ?_);refine WG (JA Y ?_);show wpAny _ _ (Builtin.Dict_items.pairFromOwner (.ref C) 6 J[i].key J[i].val) _ _ ⟨l,g,dr,tk,os⟩;unfold Builtin.Dict_items.pairFromOwner;refine WG (wpAny_newTuple ?_);have z:IsItemIter (l.push {cls:=.type "tuple",data:=.seq #[J[i].key,J[i].val]}) C d (i+1) f.length ep ok ov:=WM _ B;generalize H:l.push {cls:=.type "tuple",data:=.seq #[J[i].key,J[i].val]}=L at z;have G:l.objs.size=hp.objs.size:=y.1;have hil:C<hp.objs.size:=WX hit;have ht₂:L.get? hp.objs.size=some {cls:=.type "tuple",data:=.seq #[J[i].key,J[i].val]}:=by rw[←H,←G];exact WU _ rfl
 have hz₂:L.objs.size=hp.objs.size+1:=by rw[←H,Vn,G]
 have hk₂:∀b o,b≠C->hp.get? b=some o->L.get? b=some o:=λb o hb e=>by rw[←H];exact WM _ (y.extBut b o hb e)
 show wpAny _ _ (Builtin.Dict_items.ownedTupleIsFree (.ref C) >>= _) _ _ ⟨L,g,dr,tk,os⟩;rw[G];clear H B y Y G l;refine WG ?_;unfold Builtin.Dict_items.ownedTupleIsFree;refine WG (Vj z rfl (x:=.none) rfl<|WJ ?_);simp only[if_true];refine WG (Vj z rfl (x:=ok) rfl ?_);refine WG (Vj z rfl (x:=ov) rfl ?_);refine WG (VW z (by simp) λh₃ U u=>?_)
 replace u:Heap.SameBut C L h₃:=u
 replace U:IsItemIter h₃ C d (i+1) f.length ep J[i].key ov:=U
 refine WG (VW U (by simp) λh₄ T r=>?_)
 replace r:Heap.SameBut C h₃ h₄:=r
 replace T:IsItemIter h₄ C d (i+1) f.length ep J[i].key J[i].val:=T
 refine WG (VW T (by simp) λh₅ N p=>?_)
 replace p:Heap.SameBut C h₄ h₅:=p
 replace N:IsItemIterOut h₅ C d (i+1) f.length ep J[i].key J[i].val hp.objs.size:=N
 refine WG (VW N (by simp) λh₆ M n=>?_)
 replace n:Heap.SameBut C h₅ h₆:=n
 replace M:IsItemIterOut h₆ C d (i+1) f.length ep J[i].key J[i].val hp.objs.size:=M
 refine WG (wpAny_letGo<|WJ<|WJ ⟨_,rfl,WJ (hQ J[i].key h₆ hkey (hval▸M) ?_ ?_ ?_)⟩)
 ·rw[←hval];exact n.extBut _ _ (Vq hil) (p.extBut _ _ (Vq hil)<|r.extBut _ _ (Vq hil)<|u.extBut _ _ (Vq hil) ht₂)
 ·show h₆.objs.size=hp.objs.size+1;rw[n.1,p.1,r.1,u.1,hz₂]
 ·exact λb o hb e=>n.extBut b o hb (p.extBut b o hb<|r.extBut b o hb<|u.extBut b o hb<|hk₂ b o hb e)
def Zvk{l d:Addr}{i ep:Nat}{f:List (Value×Value)}{ok y:Value}{Q:Yh->Shared->Prop}(B:A.handled=none)(g:IsItemIter s.heap l d i f.length ep ok y)(z:BV s.heap d f ep)(hx:f[i]?=none)(G:∀h',Heap.ExtBut l s.heap h'->Q none {s with heap:=h'}):wpAny (model prog w) A (pyNext<|.ref l) Q E s:=by
 obtain⟨H,x,p,C,r,L,u,J⟩:=id z;have h:s.TypeIs (.ref l) "dict_itemiterator":=⟨_,g,rfl⟩;unfold pyNext
 refine WG (JD (Vh (name:=Str.ofString "__next__") h V1
  (QE V1 h F.entry_dict_itemiterator_next ?_<|F.args_dict_itemiterator_next_1 _)))
 refine WG (WJ ?_);refine WG ?_;refine WG ?_
 first|refine WG (Vv h<|WJ ?_)|refine WG (VG h<|WJ ?_)
 refine WG (Jy g rfl ?_);have o:Builtin.Dict_items.ownsTuple "dict_itemiterator"=true:=by decide
 simp only[o,if_true];show wpAny _ _ (if (Value.ref d==Value.none)=true then _ else _) _ _ s;rw[WN (show ¬((Value.ref d==Value.none)=true)from Qe)]
 refine WG (WJ ?_);refine WG (VE p r ?_);have n:x.size=f.length:=by rw[←u.length];simp
 rw[WN (by rw[n];simp)];refine WG (WJ ?_);refine WG (VT p r ?_);rw[WN (by simp)];refine WJ ?_;have v:x.size<=i:=by rw[n];simpa using hx
 simp only[show ¬((i:Int)<0)from by omega,Jl,Qx,VY v]
 refine WG ?_
 first|refine WG (Vv h<|WJ ?_)|refine WG (VG h<|WJ ?_)
 show wpAny _ _ (setField (.ref l) 2 .none >>= _) _ _ s;refine WG (Vf g rfl (by simp) ?_);show wpAny _ _ (newExc (.type "StopIteration") [] >>= _) _ _ _;refine WG ?_;simp only[newExc,newTuple];refine WG (Qq ?_<|by size_fits);refine WG (m:=firstArgMember _ _) (JZ (a:=Value.none) (by first|rfl|(simp only[firstArgMember];rfl)) ?_)
 refine Qq ?_ (by size_fits);simp only[raiseNew];refine WG (wpAny_handled ?_);rw[show A.in1.handled=none from B]
 refine WG (WJ<|wpAny_throw ?_);refine WG (JF (T:="StopIteration") (b:=true) ⟨_,WU _ rfl,rfl⟩ isSubtype_stop ?_);exact WJ (G _ (((QI ..).extBut.push _).push _))
end
end PySem
open PySem PySem.Spec PyProof.Rows
namespace Own
open L2
section
variable {X:Cx}
def Zk2{n:L2.St}{H}{l}{kvs}(I:Inv X pins n H s)(h:H l=some (.dT kvs)):∃o,Inv X pins n (upd H l<|.frz o<|.dT kvs) s:=by
 obtain⟨z,y,xs,r,o,B,C,g,A,x,v,u⟩:=(I.hok l _ h);have tn:∀b f,H b=some (.tup f)->(upd H l<|.frz o<|.dT kvs) b=some (.tup f):=λb f e=>by rw[XD (Gc e h (λz=>nomatch z))];exact e
 exact⟨o,FF I (by rw[h];trivial) ⟨rfl,λ_ _=>rfl⟩ ⟨o,g⟩ ⟨g,z,y,xs,Paired.mapP r λp q w=>⟨w.1,tn _ _ w.2.1,w.2.2⟩,o,B,C,g,A,x,v,u⟩⟩
noncomputable def IK(i:Nat):TS:=λD g H=>∃l f,g[i]?=some (some<|.ref l)/\H l=some (.dT f)/\∀o,D.rt (.ref l) (upd H l<|.frz o<|.dT f)
def Zly{i}(w:PE X e (Pf i)):PS X (.Return (some e) pos) (IK i):=by
 intro pins s f H D I h;obtain⟨l,r,u,y,h⟩:=h;refine wpAny_Return_some (thn (w pins s f H (λx g=>x=.ref l/\g=H) I ⟨_,u,rfl,rfl⟩) ?_);rintro v B ⟨x,g,A,n,p⟩;obtain⟨rfl,rfl⟩:=p;obtain⟨o,z⟩:=Zk2 A y;exact⟨.ref l,f,_,z,n,h o⟩
theorem Zac:∀{f:List g}{l₂}{i:Nat}{a:g},Paired F f l₂->f[i]?=some a->∃b,l₂[i]?=some b/\F a b
 |_,_,_,_,.nil,e=>by simp at e
 |_,_,0,_,.cons h _,e=>by simp at e;subst e;exact⟨_,rfl,h⟩
 |_,_,i+1,a,.cons _ r,e=>by
  obtain⟨b,n,l⟩:=Zac r (by trivial)
  grind
noncomputable def Iti(d:Addr)(o:Obj)(f:List (List Key×V)):It:=
 ⟨λi H=>H d=some (.frz o<|.dT f)/\i<f.length,λi H x h=>∃T b g v,H T=none/\f[i]?=some (g,v)/\H b=some (.tup<|g.map kV)/\x=.ref T/\h=upd H T (.tup [.ref b,v]),λi H=>H d=some (.frz o<|.dT f)/\f.length<=i⟩
def CU(ok:HOk P w H h)(J:H d=some (.frz o<|.dT g))(s:o.data=.dict es ep) :
  h.get? d=some o/\o.ExactDict/\∃xs:List (List Key×Addr×Value),xs.length=g.length/\(∀(i:Nat) p,g[i]?=some p->∃x,xs[i]?=some x/\H x.2.1=some (.tup<|p.1.map kV)/\RelV p.2 x.2.2)/\BV h d (xs.map λx=>(Value.ref x.2.1,x.2.2)) ep:=by
 obtain⟨f,z,y,xs,r,C,L,M,N,B,A,u,U⟩:=(ok d _ J);obtain rfl:=Qb (N.symm.trans f);rw[s]at A;cases A
 refine⟨f,B,xs,(Paired.length r).symm,λi p E=>?_,C,es,f,B,s,trivial,⟨by rw[u,WH,WH],λ{i e k v} n l=>?_⟩,trivial⟩
 ·obtain⟨x,T,Q⟩:=Zac r E
  grind
 ·rw[u,WV]at n;rw[WV]at l;cases G:xs[i]? with
  |none=>grind
  |some x=>
   rw[G]at n l;cases n
   cases l
   exact⟨rfl,rfl⟩
def Zp6{K elts k1 tp}(d it:Addr)(o:Obj)(kvs:List (List Key×V))(es:Array DictEntry)(ep:Nat)(ho:o.data=.dict es ep) :
  Turn P w K (.Tuple elts k1 tp) (Iti d o kvs) [it] it (λi h=>∃ok ov,IsItemIter h it d i kvs.length ep ok ov) where
 mem:=by simp
 obj:=λi h st b hb=>by
  obtain⟨ok,ov,h1⟩:=st;rw[WR.mp hb];exact⟨_,h1,λv z=>by cases z⟩
 keep:=λi h h' st k=>by
  obtain⟨ok,ov,h1⟩:=st;exact⟨ok,ov,k it (by simp) _ h1⟩
 item:=by
  intro X hP hw hK hc i pins s σ H E I hf st hg;subst hP hw hK;obtain⟨ok,ov,hit⟩:=st;obtain⟨hd,hi⟩:=hg;obtain⟨hget,hx,xs,lx,hxs,hid⟩:=CU I.hok hd ho;obtain⟨x,q1,q2,q3⟩:=hxs i kvs[i] (WI hi);obtain⟨a0,a1,a2,a3,a4,a5⟩:=hf it (by simp);have hfr:=I.hok.fresh (WS _);have hiL:=WX hit;have ll:(xs.map λx=>(Value.ref x.2.1,x.2.2)).length=kvs.length:=by rw[WH,lx]
  have hit':IsItemIter s.heap it d i (xs.map λx=>(Value.ref x.2.1,x.2.2)).length ep ok ov:=by rw[ll];exact hit
  refine Zg3 hit' hid (by rw[WV,q1];rfl) λkey h1 ek he ht hz k1=>⟨_,rfl,?_⟩;subst ek;refine wpAny_letOwnedTupleGo_items he λh2 e2 sb2=>?_;have keep2:∀b o,b∉[it]->s.heap.get? b=some o->h2.get? b=some o:=λb o hb q=>sb2.extBut b o (λz=>hb (by simp[z])) (k1 b o (λz=>hb (by simp[z])) q);have n0:∀b,b∈[it]->H b=none:=λb hb=>by rw[WR.mp hb];exact a0
  have un:Un (frs X.stack) [it] H (upd H s.heap.objs.size<|.tup [.ref x.2.1,kvs[i].2]) s.heap h2:=by
   refine⟨λb o q _ _ hx'=>keep2 b o hx' q,λb o q _ _ hx'=>⟨o.slots,keep2 b o hx' q⟩,λb o q n _=>by rw[XD (Qj<|WX q)];exact n,λb o q hx'=>⟨o,keep2 b o hx' q⟩,
    λb ys q=>by rw[XD (Ky q hfr)];exact q,λb o ys q=>by rw[XD (Ky q hfr)];exact q,λb ps q=>⟨#[],by rw[XD (Ky q hfr),q];simp⟩⟩
  have ok2:HOk X.prog X.w (upd H s.heap.objs.size<|.tup [.ref x.2.1,kvs[i].2]) h2:=λb o q=>by
   by_cases hb:b=s.heap.objs.size
   ·subst hb;rw[XZ]at q;cases q
    exact⟨by show 2<=sizeLine;decide,[.ref x.2.1,x.2.2],.cons rfl (.cons q3 .nil),_,(sb2.extBut _ _ (Vq hiL) ht),rfl,_,rfl⟩
   ·rw[XD hb]at q;refine(I.hok b o q).stay (λc v hc' r=>keep2 c v (λz=>?_) r) (λc r=>by rw[XD (Ky r hfr)];exact r) λc ys r=>by rw[XD (Ky r hfr)];exact r
    have hcn:=n0 c z;rcases hc' with rfl|hc'
    ·rw[hcn]at q;cases q
    ·rw[hcn]at hc';cases hc'
  have I2:Inv X pins σ (upd H s.heap.objs.size<|.tup [.ref x.2.1,kvs[i].2]) {s with heap:=h2}:=I.call un ok2 I.bare λb hb=>by
   rw[WR.mp hb];exact⟨a3,a1,a4,a5⟩
  refine⟨.ref s.heap.objs.size,_,I2,rfl,⟨_,x.2.1,kvs[i].1,kvs[i].2,hfr,WI hi,q2,rfl,rfl⟩,⟨_,_,by rw[ll]at e2;exact e2⟩,λb hb=>?_⟩;rw[XD]
  ·exact n0 b hb
  ·rw[WR.mp hb];exact Qj hiL
 done:=by
  intro X hP hw hK hc i pins s σ H E I hf st hg;subst hP hw hK;obtain⟨ok,ov,hit⟩:=st;obtain⟨hd,hi⟩:=hg;obtain⟨hget,hx,xs,lx,hxs,hid⟩:=CU I.hok hd ho;obtain⟨b0,b1,b2,b3,b4,b5⟩:=hf it (by simp);have ll:(xs.map λx=>(Value.ref x.2.1,x.2.2)).length=kvs.length:=by rw[WH,lx]
  have hit':IsItemIter s.heap it d i (xs.map λx=>(Value.ref x.2.1,x.2.2)).length ep ok ov:=by rw[ll];exact hit
  refine Zvk (I.ok.hd hc) hit' hid (QS<|by rw[ll];exact hi) λh' eb=>⟨rfl,?_⟩;exact I.turned (λb o hb q=>eb b o hb q) b0 b1 b3 b4 b5
 self:=by
  intro A i s Q E st q;obtain⟨ok,ov,hit⟩:=st;exact PySem.W.kcp_self hit q
noncomputable def Za6(te:TE):TI:=λh H R=>te h H λx g=>∃d o f,x=.ref d/\g d=some (.frz o<|.dT f)/\R (Iti d o f) g
def Za7{elts}{k1}{tp}{o}{to}{name:Str}{apos cpos}(z:PE X o to)(hn:autoParam (name = "items") au_0)(p:autoParam (attributeBase o name X.env (eval o X.env)=eval o X.env) au_0)(n:autoParam ((apos.endLine==cpos.line)=true) au_0):PI X (.Tuple elts k1 tp) (.Call (.Attribute o name apos) [] [] cpos) (Za6 to):=by
 subst hn;intro pins s N H R I h;refine wpAny_Call_method p rfl n PySem.F.plainAttrs_dict PySem.F.slot_dict_items PySem.F.type_dict_items (thn (z pins s N H _ I h) ?_);rintro v l ⟨x,M,r,T,U⟩;obtain⟨d,y,u,rfl,G,q⟩:=U;obtain rfl:=T;obtain⟨_,z0,Q,_,_,o',L,ep,A,_,z,_,_⟩:=(r.hok d _ G)
 obtain⟨f,hx,xs,Y,hxs,E⟩:=CU (ep:=ep) r.hok G (by
  obtain⟨g,_⟩:=(r.hok d _ G);rw[g]at A;cases A
  exact z)
 have C:y.data=.dict L ep:=by
  rw[f]at A;cases A
  exact z
 have J:l.TypeIs (.ref d) "dict":=⟨y,f,hx.1⟩;have ll:(xs.map λx=>(Value.ref x.2.1,x.2.2)).length=u.length:=by rw[WH,Y]
 refine⟨J,λb e=>by cases e;exact⟨y,f,hx.2.1⟩,?_⟩;show wpAny _ _ (callWith cpos (.builtin "dict.items") [.ref d] [] []) _ _ l;refine method_meetsIn PySem.F.slot_dict_items PySem.F.entry_dict_items rfl (PySem.evalArgs_none ⟨rfl,J,PySem.F.args_dict_items_1 _,_,Zun d Q,J,?_⟩)
 have w:BV (l.heap.push {cls:=.type "dict_items",data:=.fields #[.ref d]}) d (xs.map λx=>(Value.ref x.2.1,x.2.2)) ep:=by
  obtain⟨a,b,c1,c2⟩:=E;exact⟨a,b,WM _ c1,c2⟩
 refine Zeh ⟨_,WU _ rfl,rfl,rfl⟩ w ?_;have I2:=r.kept (t':=l.toks) (h':=(l.heap.push {cls:=.type "dict_items",data:=.fields #[.ref d]}).push {cls:=.type "dict_itemiterator",data:=.fields #[.none,.bool false,.ref d,.int 0 0,.int (xs.map λx=>(Value.ref x.2.1,x.2.2)).length 0,.int ep 0,.none,.none]}) λb o e=>WM _ (WM _ e);have B:(l.heap.push {cls:=.type "dict_items",data:=.fields #[.ref d]}).objs.size=l.heap.objs.size+1:=Vn ..;refine⟨_,[_],_,_,M,rfl,I2,Zp6 d _ y u L ep C,⟨.none,.none,?_⟩,λb hb=>?_,q⟩
 ·rw[←ll];exact WU _ rfl
 ·rw[WR.mp hb];show N1 X pins M (l.heap.push {cls:=.type "dict_items",data:=.fields #[.ref d]}).objs.size;rw[B];exact r.fpOk (VA _) (r.hok.fresh<|VA _)
end
set_option maxRecDepth 100000
section
variable {prog:Program}{w:World}{A:Around}{s:Shared}{E:Ya}
def Zfu{n:Nat}{Q}(hh:A.handled=none)(J:IsRange s.heap r a b 1 t u v)(x:Builtin.Range.small a b 1=true)(U:Builtin.Range.rangeSize a b 1=n)(z:n<=2 ^ 24)(hQ:∀h' l g,(∀b o,s.heap.get? b=some o->h'.get? b=some o)->ItemsOf (λi v=>∃t,v=.int (a+i*1) t) g n->Q g.toList {s with heap:=h',toks:=l}):wpAny (model prog w) A (collect<|.ref r) Q E s:=by
 refine WG (JY<|QX PySem.F.entry_proto_collect ?_);refine WG (Qq ?_);refine WJ ⟨Jp VQ _,QX PySem.F.entry_list_iadd ?_⟩;rw[Vt VQ _];have hS:(s.heap.push {cls:=.type "list",data:=.seq ([]:Yd).toArray}).get? s.heap.objs.size=some {cls:=.type "list",data:=.seq #[] 0}:=WU _ rfl
 have y:∀h' l g p,(∀b o,b≠s.heap.objs.size->(s.heap.push {cls:=.type "list",data:=.seq ([]:Yd).toArray}).get? b=some o->h'.get? b=some o)->h'.get? s.heap.objs.size=some {cls:=.type "list",dict:=none,data:=.seq g p,slots:=#[]}->ItemsOf (λi v=>∃t,v=.int (a+i*1) t) g n->
   wpAny (model prog w) A (match Value.ref s.heap.objs.size with
   |Value.ref a=>do
    match (←load a).data with
     |Data.seq xs _=>pure xs.toList
     |_=>unsupported "internal:collect"
   |_=>unsupported "internal:collect") Q E {s with heap:=h',toks:=l}:=λh' l g p Y hL hI=>by
  refine WG (wpAny_load hL ?_);refine WJ ?_;exact hQ h' l g (λb T L=>Y b T (Qj<|WX L) (WM _ L)) hI
 refine QH (wpAny_extend_range (R:=λN H=>N=.ok (.ret<|.ref s.heap.objs.size)/\∃h' l g p,H={s with heap:=h',toks:=l}/\(∀b o,b≠s.heap.objs.size->(s.heap.push {cls:=.type "list",data:=.seq ([]:Yd).toArray}).get? b=some o->h'.get? b=some o)/\h'.get? s.heap.objs.size=some {cls:=.type "list",dict:=none,data:=.seq g p,slots:=#[]}/\ItemsOf (λi v=>∃t,v=.int (a+i*1) t) g n)
  hh (WM _ J) x U z _ _ 0 hS λh' l g p G C B=>⟨rfl,h',l,g,p,rfl,G,C,B⟩) (λfin H h=>?_) (λe H h=>?_)
 ·cases fin with
  |done f=>
   obtain⟨e,h',l,g,p,rfl,G,C,B⟩:=h;cases e
   exact y h' l g p G C B
  |again p=>exact⟨h.1,VH h.2 λr M J=>by obtain⟨rfl,h',l,g,p,rfl,G,C,B⟩:=J;exact y h' l g p G C B⟩
 ·exact absurd h.1 (by simp)
def Zj5{n:Nat}{Q₁}(L:A.handled=none)(C:IsRange s.heap r a b 1 t u v)(g:Builtin.Range.small a b 1=true)(G:Builtin.Range.rangeSize a b 1=n)(l:n<=2 ^ 24)(h:∀(h':Heap) x f,(∀b o,s.heap.get? b=some o->h'.get? b=some o)->ItemsOf (λi v=>∃t,v=.int (a+i*1) t) f n->Q₁ (.ref h'.objs.size) {s with heap:=h'.push {cls:=.type "tuple",data:=.seq f},toks:=x}) :
  codeAny (model prog w) A (.call (.builtin "tuple.__new__") ⟨[.type "tuple",.ref r],[]⟩) (wants Q₁ E) s:=by
 refine codeAny_of_tree ?_;show wpAny _ A.in1 (do checkBuiltinCall "tuple.__new__" ⟨[.type "tuple",.ref r],[]⟩;again (.builtin "tuple.__new__" ⟨[.type "tuple",.ref r],[]⟩)) _ _ s
 refine WG (JZ (PySem.F.newCall_tuple_1 _)<|WJ ⟨Jp (by decide +kernel) _,QX PySem.F.entry_tuple_new ?_⟩);rw[Vt (by decide +kernel) _];have B:=sub_tuple_self;have y:=init_tuple_lookup;have H:=madeHere_tuple;have z:s.TypeIs (.ref r) "range":=⟨_,C,rfl⟩
 wp_walk using JP z,Zfu (by exact L) C g G l
 intro h' x f J p;show wpAny _ _ (Builtin.Tuple.tupleExact f.toList.toArray >>= λv=>ret v) _ _ _;unfold Builtin.Tuple.tupleExact;refine WG (Qq ?_<|by show f.toList.toArray.size<=sizeLine;simp only[Array.toArray_toList];rw[p.1];exact WW l (by decide));refine WJ ?_;have e:f.toList.toArray=f:=by simp
 rw[e];exact h h' x f J p
def Znd{n:Nat}{Q}(G:A.handled=none)(z:IsRange s.heap r a b 1 t u v)(h:Builtin.Range.small a b 1=true)(B:Builtin.Range.rangeSize a b 1=n)(p:n<=2 ^ 24)(H:∀(h':Heap) y l,(∀b o,s.heap.get? b=some o->h'.get? b=some o)->ItemsOf (λi v=>∃t,v=.int (a+i*1) t) l n->Q (.ref h'.objs.size) {s with heap:=h'.push {cls:=.type "tuple",data:=.seq l},toks:=y}) :
  wpAny (model prog w) A (call (.type "tuple") [.ref r]) Q E s:=by
 refine callType_codes (Q₁:=λobj f=>f.TypeIs obj "tuple"/\Q obj f) PySem.F.called_tuple (PySem.F.typeCall_tuple_1 _) PySem.F.entry_object_init
  (Zj5 G z h B p λh' y l C x=>⟨⟨_,WU _ rfl,rfl⟩,H h' y l C x⟩) λobj f g=>?_
 exact⟨g.1,PySem.F.args_object_init_2 obj _,object_init_meets PySem.F.called_tuple.init.lookup PySem.F.called_tuple.made rfl prog w A.in1 _ f ⟨g.1,rfl,g.2⟩⟩
end
section
variable {X:Cx}
def Zk9(J:X.calm=true):Kx X (.type "tuple") (λxs H Q=>∃r i j,xs=[.ref r]/\H r=some (.rng i j)/\(-(2 ^ 62)<=i/\i<2 ^ 62/\-(2 ^ 62)<=j/\j<2 ^ 62)/\(j-i).toNat<=1000000/\
  ∀l,H l=none->Q (.ref l) (upd H l<|.tup ((X0 i (j-i).toNat).map V.int))):=by
 intro pins s y H xs T Q I A h;obtain⟨r,i,j,rfl,E,⟨b1,N,M,L⟩,n,q⟩:=h;obtain⟨u,rfl,B⟩:=A.one;obtain rfl:=B;obtain⟨t,u,v,e⟩:=(I.hok r _ E);refine Znd (I.ok.hd J) e (small_one b1 N M L) (rangeSize_nat i j) (WW n<|by simp) λg z f G p=>?_;have C:Vals ((X0 i (j-i).toNat).map V.int) f.toList:=Zca _ _ (by rw[Q8];exact p.1) λk w hw=>p.2 k w (by grind);have x:Inv X pins y H {s with heap:=g,toks:=z}:=I.kept G
 refine⟨.ref g.objs.size,upd H g.objs.size (.tup ((X0 i (j-i).toNat).map V.int)),?_,rfl,q _ (x.hok.fresh<|WS _)⟩;refine x.laid (λb o e=>WM _ e) (WS _) ⟨?_,f.toList,C,_,WU _ rfl,rfl,0,by simp⟩;rw[WH];unfold X0;rw[WH,Je];exact WW n (by decide)
end
end Own
namespace Pu
open L2 Own M
section
variable {K:ZV}{mg:ZZ}{E:L2.St->XK}{H:Hp}
def Rp.dF_inv (h:Rp K H (.dF f) v):∃a o,v=.ref a/\H a=some (.frz o<|.dT f):=by
 cases h with
 |dF h=>grind
def Zd0:S->S->(S->Prop)->Prop:=λx y R=>∃f k v,x.d=.dF f/\N8 y.d=some k/\XA f k=some v/\SK v=true/\R (.sh<|vD v)
def Cn{a b}(B:Xx K mg E z a)(n:Xx K mg E f b):Xx K mg E (DR z f) (p2 a b Zd0):=by
 refine Pv B n λU H M Z x y v u R Q p N T s f h q=>?_;obtain⟨g,k,w,e,L,J,G,C⟩:=h;have r:=s.rp p;rw[e]at r;obtain⟨l,o,rfl,A⟩:=r.dF_inv;obtain⟨b,rfl,n⟩:=Se (f.rp p) L;refine⟨l,w,rfl,?_,q _ _ M C (Same.refl _) (Fs G)⟩;exact .inr ⟨g,k,b,.inr ⟨o,A⟩,rfl,n,J.symm⟩
def Znr(neg:Bool):S->S->(S->Prop)->Prop:=λy x R=>∃f k,x.d=.dF f/\N8 y.d=some k/\R (.sh<|.bl (if neg then !(XA f k).isSome else(XA f k).isSome))
def Zuh{p f a b}(A:Xx K mg E f a)(n:Xx K mg E p b):Xx K mg E (EZ f p) (p2 a b<|Znr true):=by
 refine Pv A n λM H G Z y x u v R Q r J L f w h q=>?_;obtain⟨g,k,e,C,B⟩:=h;have s:=w.rp r;rw[e]at s;obtain⟨l,o,rfl,z⟩:=s.dF_inv;obtain⟨b,rfl,n⟩:=Se (f.rp r) C;exact⟨l,_,rfl,.inr ⟨g,k,b,.inr ⟨o,z⟩,rfl,n,rfl⟩,q _ _ G B (Same.refl _) (.bl _)⟩
noncomputable def Zck(i:Nat):PTS:=λR g=>match g[i]? with
 |some (some<|.own<|.dT f)=>R.rt (.sh<|.dF f)
 |_=>False
def Zvh(i:Nat):XF K mg E (IK i) (Zck i):=by
 intro J B H A C R D y g h e;unfold Zck at h;split at h
 ·rename_i f w;obtain⟨v,s,l,rfl,r,u⟩:=g.slot i _ w;refine⟨l,f,s,u,λo=>e.rt (.sh<|.dF f) _ _ h (λb x p=>by rw[XD (Ky p<|r l rfl)];exact g.same b x p) (.dF (Kg XZ λz=>?_))⟩;obtain⟨G,n⟩:=y l z;rw[r l rfl]at n
  grind
 ·grind
noncomputable def kD:Key->D
 | .inl i=>.int i | .inr x=>.str x
theorem Do:∀f:List Key,Rps K H (f.map kD) (f.map kV)
 |[]=>.nil
 | .inl i::r=>.cons (.int i) (Do r)
 | .inr x::r=>.cons (.str x) (Do r)
theorem Zaz:∀{kvs}{i:Nat}{p:List Key×V},T1 kvs=true->kvs[i]?=some p->SK p.2=true
 |[],i,p,_,e=>by simp at e
 |q::r,0,p,h,e=>by
  unfold T1 at h
  grind
 |q::r,i+1,p,h,e=>by
  exact Zaz (Qz _ _▸h).2 (by trivial)
noncomputable def itD(p:List Key×V):D:=.tup [.tup (p.1.map kD),vD p.2]
noncomputable def pII(a:PTE):PTI:=λg R X=>a g (λs=>∃f,s.shd=some (.dF f)/\T1 f=true/\R f.length λi=>.sh (itD<|f.getD i ([],.non))) X
def R4(ha:Xx K mg E te a):SndI K mg E (Za6 te) (pII a):=by
 intro H0 B H M N R X Q f h q Y;refine ha H0 B H M N _ X _ f h (λs v H1 h1 A U=>?_) Y;obtain⟨g,es,hs,hR⟩:=h1;obtain⟨l,o,rfl,u⟩:=(U.shd (f.grow A).same f.zm A es).dF_inv;refine⟨l,o,g,rfl,off_sub _ _ u,q _ _ _ H1 hR A ⟨λi L J hi lt=>?_,λL J lt=>⟨off_sub _ _ (lt.off _ _ u),WS _⟩⟩⟩;refine⟨⟨off_sub _ _ (lt.off _ _ u),hi⟩,λx H'' y=>?_⟩;obtain⟨T,b,G,v,r,ek,w,rfl,rfl⟩:=y;have eg:g.getD i ([],.non)=(G,v):=by grind
 rw[eg]
 have n:∀c C,L c=some (.tup C)->¬J c:=λc C hc z=>by
  have:=lt.2.1 c z
  rw[hc]at this;exact this
 have p:=λz=>by
  have:=lt.2.1 T z
  rw[r]at this;exact this
 refine⟨Kk r,.tup (Kg XZ p) (.cons (.tup (Kg (by rw[XD (Ky w r)];exact w)<|n _ _ w)<|Do G)<|.cons (Fs<|Zaz hs ek) .nil)⟩
def Rv{n:List (List Key×V)}(l:Nat->Γ->Prop)(v:l 0 (clr r s))(turn:∀i u f,l i f->g (.sh (itD n[i])) f λp=>body {R with nx:=λo=>l (i+1) (clr r o),ct:=λo=>l (i+1) (clr r o),bk:=R.nx} p)(done:∀f,l n.length f->R.nx f):FE r s g body R n.length (λi=>.sh (itD<|n.getD i ([],.non))):=by
 refine⟨⟨l,v,λi f u h=>?_,λf h=>done f h⟩⟩
 grind
def Mx:List S->(S->Prop)->Prop
 |[s,t],R=>(match s.d,t.d with
  | .int i,.int j=>(-(2 ^ 62)<=i/\i<2 ^ 62/\-(2 ^ 62)<=j/\j<2 ^ 62)/\(j-i).toNat<=1000000/\R (.sh<|tD (X0 i (j-i).toNat))
  |_,_=>False)
 |_,_=>False
def Zkt:List V->Hp->VK->Prop:=λxs H Q=>∃(r:Addr) (i j:Int),xs=[.ref r]/\H r=some (.rng i j)/\(-(2 ^ 62)<=i/\i<2 ^ 62/\-(2 ^ 62)<=j/\j<2 ^ 62)/\(j-i).toNat<=1000000/\
  ∀l,H l=none->Q (.ref l) (upd H l<|.tup ((X0 i (j-i).toNat).map V.int))
def Zmq(U:XO K mg E L r):Xx K mg E (tCB Zkt<|KF (tCB (λxs H Q=>∃i j,xs=[.int i,.int j]/\∀r,H r=none->Q (.ref r) (upd H r<|.rng i j)) L) P7) (pCB Mx r):=by
 intro H0 B H G J R X Q g p q N;refine U H0 B H G J _ X _ g p (λss vs H1 f s M=>?_) N;have w:=(g.grow s).same;unfold Mx at f;split at f
 ·obtain⟨v,u,rfl,n,h⟩:=M.two_inv;have y:=n.rp w;have x:=h.rp w;split at f
  ·rename_i i j e1 Y;rw[e1]at y;rw[Y]at x;rw[y.int_inv,x.int_inv];refine⟨i,j,rfl,λa T=>⟨a,i,j,rfl,XZ,f.1,f.2.1,λl A=>?_⟩⟩;have C:=Kk (o:=.rng i j) T;refine q _ _ _ f.2.2 ((s.trans C).trans (Kk A)) (.tup (Kg XZ λz=>?_)<|Rps.of_ints _)
   have:=((g.grow s).grow C).zm l z
   rw[A]at this;exact this
  ·grind
 ·exact f.elim
noncomputable def P6(q:ZX×Int):List Key×V:=(kT q.1,.int q.2)
end
end Pu
namespace Pu
open L2 Own
theorem NoFld.of:∀{xs:Ye},(xs.all λx=>!(m==x))=true->NoFld m xs
 |[],_,_|_::_,_,[]=>rfl
 |x::xs,h,v::f=>by
  rw[JC,Qz]at h;show(match m==x with|true=>some v|false=>(xs.zip f).lookup m)=none
  rw[show(m==x)=false by simpa using h.1];exact NoFld.of h.2 f
theorem FldAt.of (n:(f==f)=true):∀{xs}{j:Nat},((xs.take j).all λx=>!(f==x))=true->xs[j]?=some f->FldAt f xs j
 |[],_,_,e,_,_=>by simp at e
 |_::_,_,_,_,[],e=>rfl
 |x::xs,0,_,e,v::g,_=>by
  simp_all
 |x::xs,j+1,h,e,v::g,l=>by
  rw[List.take_succ_cons,JC,Qz]at h;show(match f==x with|true=>some v|false=>(xs.zip g).lookup f)=(v::g)[j+1]?
  rw[show(f==x)=false by simpa using h.1];exact FldAt.of n h.2 (by grind) g (by grind)
theorem PutAt.of:∀{xs:Ye},(xs.all λx=>decide (x≠f))=true->PutAt f xs
 |[],_,[],_,_=>rfl
 |[],_,_::_,_,e|_::_,_,[],_,e=>by cases e
 |x::xs,h,v::g,y,e=>by
  rw[JC,Qz]at h;show(if x=f then(x,y)::xs.zip g else(x,v)::Pg f y (xs.zip g))=(x,v)::(xs++[f]).zip (g++[y]);rw[WN (WO h.1),PutAt.of h.2 g y (by grind)]
end Pu
namespace M
open L2 Own Pu
noncomputable def hAt(ps:ZW)(k:Nat):Int:=(ps.getD k (0,0)).1
noncomputable def P2(ps:ZW)(k:Nat):Bool:=decide (k=0) || !decide (hAt ps (k-1)=hAt ps k)
noncomputable def PN(ps:ZW)(k:Nat):Bool:=!decide (hAt ps k∈(ps.take k).map (·.1))
def Sv(ps:ZW):Prop:=∀k j,j<k->k<ps.length->hAt ps j=hAt ps k->hAt ps (k-1)=hAt ps k
def Pk{k}(h:k<ps.length):hAt ps k=ps[k].1:=by
 unfold hAt
 grind
def Fx{k}(h:k<=ps.length){z}:z∈(ps.take k).map (·.1)↔∃j,j<k/\hAt ps j=z:=by
 rw[Qf];constructor
 ·rintro⟨q,hq,rfl⟩;obtain⟨j,g,rfl⟩:=V7 hq;rw[Qo]at g;refine⟨j,by lia,?_⟩;rw[Pk (by lia),Vz]
 ·rintro⟨j,g,rfl⟩;have f:j<ps.length:=by lia
  refine⟨ps[j],Q0.mpr ⟨j,by rw[Qo];lia,by rw[Vz]⟩,(Pk f).symm⟩
def Zms{k}(f:k<ps.length)(h:PN ps k=true):P2 ps k=true:=by
 unfold P2;by_cases e:k=0
 ·grind
 ·rw[JS];unfold PN at h;rw[Vy,V3,Fx (by lia)]at h
  grind
def Zlc(v:Field ps):((List.range ps.length).filter (PN ps)).length=(X8 ps).length:=by
 have o:(((List.range ps.length).filter (PN ps)).map (hAt ps)).Perm (X8 ps):=by
  refine(Vk ?_ ((TK ps).imp (λh=>Ji h))).mpr λz=>?_
  ·rw[List.Nodup,QJ];refine(JK.mp<|List.pairwise_lt_range.filter<|PN ps).imp λ{a b} h e=>?_;have p:=Qg.mp h.2.1;have u:=Vd.mp p.1;have l:=p.2;unfold PN at l;rw[Vy,V3,Fx (by lia)]at l;exact l ⟨a,h.2.2,e⟩
  ·rw[Bi v,Qf];constructor
   ·rintro⟨k,f,rfl⟩;have g:=Vd.mp (Qg.mp f).1;rw[Pk g];exact Qf.mpr ⟨_,Qc g,rfl⟩
   ·intro r
    have w:∃k,k<ps.length/\hAt ps k=z:=by
     obtain⟨q,hq,rfl⟩:=Qf.mp r;obtain⟨k,f,rfl⟩:=V7 hq;exact⟨k,f,Pk f⟩
    have l:∀n k,k<n->k<ps.length->hAt ps k=z->∃j,j∈(List.range ps.length).filter (PN ps)/\hAt ps j=z:=λn=>by
     induction n with
     |zero=>intro k f;lia
     |succ n x=>
      intro k f s e;by_cases c:PN ps k=true
      ·exact⟨k,Qg.mpr ⟨Vd.mpr s,c⟩,e⟩
      ·unfold PN at c;rw[Vy,V3,VF,Fx (by lia)]at c
       grind
    obtain⟨k,f,e⟩:=w;exact l (k+1) k (V8 _) f e
 have:=o.length_eq
 rwa[WH]at this
def HR(r:Field ps):((List.range ps.length).filter (P2 ps)).length=(X8 ps).length↔Sv ps:=by
 rw[←Zlc r]
 have e:(List.range ps.length).filter (PN ps)=((List.range ps.length).filter (P2 ps)).filter (PN ps):=by
  rw[List.filter_filter];refine List.filter_congr λk f=>?_;cases c:PN ps k with
  |false=>rfl
  |true=>rw[Zms (Vd.mp f) c];rfl
 rw[e,eq_comm,List.length_filter_eq_length_iff];constructor
 ·intro h k j l f o;refine Qp λu=>?_
  have p:P2 ps k=true:=by
   unfold P2
   grind
  have:=h k (Qg.mpr ⟨Vd.mpr f,p⟩)
  unfold PN at this;rw[Vy,V3,Fx (by lia)]at this;exact this ⟨j,l,o⟩
 ·intro h k f;obtain⟨s,n⟩:=Qg.mp f;have g:=Vd.mp s;unfold PN;rw[Vy,V3,Fx (by lia)];rintro⟨j,l,o⟩
  have:=h k j l g o
  unfold P2 at n;rw[JS]at n;rcases n with z|z
  ·have:=WO z
   lia
  ·rw[WL this]at z;cases z
noncomputable def XN(l:ZX):ZX:=l.foldl (λf h=>if h∈f then f else f++[h]) []
def SL(l:ZX)(h:Int):XN (l++[h])=if h∈XN l then XN l else XN l++[h]:=by
 unfold XN;simp
def SB(l:ZX):(XN l).Nodup/\∀z,z∈XN l↔z∈l:=by
 refine TN (P:=λl=>(XN l).Nodup/\∀z,z∈XN l↔z∈l) ⟨V9,λz=>Iff.rfl⟩ (λr h f=>?_) l;rw[SL];by_cases c:h∈XN r
 ·grind
 ·grind
def Er(l:ZX):(XN l).length<=l.length:=by
 refine TN (P:=λl=>(XN l).length<=l.length) (WS _) (λr h f=>?_) l;rw[SL,WT,QT];split
 ·lia
 ·grind
noncomputable def AM(n:Nat):Nat->Nat
 | 0=>1
 |k+1=>AM n k*(n-k)
noncomputable def Th:Nat->Nat
 | 0=>1
 |k+1=>Th k*(k+1)
def G6:∀n,n<8->AM n n=Th n/\Th n<=5040:=by decide
def Zcw{f r}(p:f.Nodup)(o:r.Nodup)(u:∀x∈r,x∈f):(nextM f r).length=f.length-r.length:=by
 have n:(f.filter λh=>decide (h∈r)).Perm r:=by grind
 have v:=n.length_eq;unfold nextM;rw[WH]
 have g:∀l:ZX,(l.filter λh=>!decide (h∈r)).length+(l.filter λh=>decide (h∈r)).length=l.length:=λl=>by
  induction l with
  |nil=>rfl
  |cons x l s=>grind
 have:=g f
 lia
theorem Rr{g n:Type}{f:g->List n}{c}:∀{l:List g},(∀x∈l,(f x).length=c)->(l.flatMap f).length=l.length*c
 |[],_=>by simp
 |x::l,h=>by
  rw[List.flatMap_cons,WT,h x Q9,Rr λy o=>h y (Qs _ o),Qi,Nat.add_mul];lia
theorem Dg(g:h.Nodup):∀k,(PP h k).length=AM h.length k
 | 0=>rfl
 |k+1=>by
  unfold PP AM;rw[Rr λr f=>by rw[Zcw g (rows_mem.mp f).2.1 (rows_mem.mp f).2.2,(rows_mem.mp f).1],Dg g k]
def Zhl(g:ps.length<=7):(Kf ps ps.length).length<=5040:=by
 have h:=Dg (T9 ps.length) ps.length;rw[KM]at h;obtain⟨f,l⟩:=G6 ps.length (by lia);rw[Sy,WH,h,f];lia
noncomputable def Aw(os:ZX)(q:Int×Int):Bool:=decide (q.1∈os)&&decide (q.2∈os.take (os.idxOf q.1))
def HX{os:ZX}(f:os.Nodup){x j}(hx:x∈os):x∈os.take j↔os.idxOf x<j:=by
 obtain⟨k,l,rfl⟩:=Q0.mp hx;rw[f.idxOf_getElem k l];constructor
 ·intro h;obtain⟨m,g,e⟩:=Q0.mp h;rw[Qo]at g;have a1:=f.idxOf_getElem m (by lia)
  grind
 ·intro h;exact Q0.mpr ⟨k,by rw[Qo];lia,by rw[Vz]⟩
def Dv{os}(g:os.Nodup)(q:Int×Int):Aw os q=(decide (q.1∈os)&&(decide (q.2∈os)&&decide (os.idxOf q.2<os.idxOf q.1))):=by
 unfold Aw;by_cases h:q.1∈os
 ·by_cases f:q.2∈os
  ·simp only[h,f,decide_true,Jq,HX g f]
  ·grind
 ·grind
def Tt(ps f:ZW):Prop:=Sv ps/\∀q∈f,Aw (XN<|ps.map (·.1)) q=false
noncomputable def FX(ps f:ZW):Bool:=@decide (Tt ps f) (Classical.propDecidable _)
def keepB_iff:FX ps f=true↔Tt ps f:=⟨λh=>@WO _ (Classical.propDecidable _) h,λh=>@WL _ (Classical.propDecidable _) h⟩
noncomputable def Kd(ps:ZW)(r:ZX):ZW:=r.map λz=>X6 ps z
def Zf9(ps f:ZW)(m:Int):Prop:=(∃r,r.Perm (X0 1 ps.length)/\Tt (Kd ps r) f/\XH ps r=m)/\∀r,r.Perm (X0 1 ps.length)->Tt (Kd ps r) f->m<=XH ps r
def Zcu(g:Field ps){r:ZX}(h:∀z∈r,1<=z/\z<=ps.length):Field (Kd ps r):=by
 intro q hq;obtain⟨z,f,rfl⟩:=Qf.mp hq
 have:=h z f
 have e:X6 ps z=ps[(z-1).toNat]:=by
  unfold X6;rw[WK,WI (by lia)];rfl
 rw[e];exact g _ (Qc _)
def stands_mem:q∈Kf ps ps.length↔q.1.Perm (X0 1 ps.length)/\q.2=XH ps q.1:=by
 have f:=λr=>by
  have:=Ar (r:=r) (T9 ps.length)
  rwa[KM]at this
 rw[Sy,Qf];constructor
 ·rintro⟨r,g,rfl⟩;exact⟨(f r).mp g,Bz ((f r).mp g)⟩
 ·rintro⟨h,l⟩;refine⟨q.1,(f _).mpr h,?_⟩;rw[Bz (pre:=[]) h,←l]
end M
namespace Own
open L2
section
variable {X:Cx}{K:ZV}
noncomputable def Zbb(K:ZV)(h:TE):TE:=λg H Q=>h g H λx f=>∃k,AG K x f k/\Q (.bl (!k)) f
def Zfy(r:PE X a g)(u:autoParam (X.K=K) au_0):PE X (.UnaryOp .Not a pos) (Zbb K g):=by
 subst u;intro pins s f H Q I h;refine UnaryOp_ (thn (r pins s f H _ I h) ?_);rintro v l ⟨x,A,y,n,p⟩;exact not_of (thn (Za9 pins l f A x v (λk B=>Q (.bl (!k)) B) y n p) λb C ⟨z,w,o⟩=>⟨.bl (!b),z,w,rfl,o⟩)
end
end Own
namespace Pu
open L2 Own
section
variable {K:ZV}{mg:ZZ}{E:L2.St->XK}
noncomputable def Zd6(a:PTE):PTE:=λf R X=>a f (λx=>match x.d with | .lst g=>R (.sh<|.bl g.isEmpty)|_=>False) X
def Zlt(A:Xx K mg E te a):Xx K mg E (Zbb K te) (Zd6 a):=by
 intro G B H s u R X Q f p q y;refine A G B H s u _ X _ f p (λx v C n o w=>?_) y;have h:=w.rp (f.grow o).same;split at n
 ·rename_i J e;rw[e]at h;obtain⟨l,g,rfl,z,r⟩:=h.lst_inv;refine⟨!g.isEmpty,.inl ⟨g,SqL.of z,rfl⟩,?_⟩;rw[Bool.not_not,Af r.len];exact q _ _ C n o (.bl _)
 ·grind
end
end Pu
namespace M
open L2 Own Pu
def Zj3{k:List Key}(h:∀p∈f,p.1≠k):XA f k=none:=by
 unfold XA
 grind
def AY(ps:ZW)(n:Nat):XH ps (X0 1 n)=0:=by
 have f:∀l,l.Pairwise (· < ·)->XH ps l=0:=λl=>by
  induction l with
  |nil=>intro _;rfl
  |cons x l g=>
   intro h;rw[QO]at h;unfold XH;rw[g h.2,JB.mpr λy o=>by have:=h.1 y o;simp;lia];simp
 exact f _ (BB n)
theorem Ms(h:∀x,0<=wdM ps x):∀r,0<=XH ps r
 |[]=>J9 _
 |x::t=>by
  have f:∀l:ZX,0<=(l.map<|wdM ps).sum:=λl=>by
   induction l with
   |nil=>simp
   |cons y l g=>grind
  have o:=Ms h t;have n:=Int.mul_nonneg (h x) (f (t.filter λy=>decide (y<x)));show 0<=wdM ps x*_+XH ps t;lia
noncomputable def A7(n:Nat):ZW:=List.replicate n (0,1)
def Gv(x:Int):0<=wdM (A7 n) x/\(1<=x->x<=n->wdM (A7 n) x=1):=by
 unfold wdM X6 A7;rw[WK,V2];split
 ·simp
 ·grind
noncomputable def Fd(n:Nat)(r:ZX):Int:=XH (A7 n) r
def Zci(n:Nat)(r:ZX):0<=Fd n r:=Ms (λx=>(Gv x).1) r
def IY{a b x y}(h:(a++x::y::b).Perm (X0 1 n)):(a++y::x::b).Perm (X0 1 n):=by grind
def HS{a b x y}(h:x<y)(f:(a++x::y::b).Perm (X0 1 n)):Fd n (a++y::x::b)=Fd n (a++x::y::b)+1:=by
 have l:=run_mem.mp (f.mem_iff.mp<|show x∈a++x::y::b by simp);have g:=run_mem.mp (f.mem_iff.mp<|show y∈a++x::y::b by simp);unfold Fd;rw[F7 h,(Gv x).2 l.1 l.2,(Gv y).2 g.1 g.2];rfl
def Ir{o:ZX}{a b}(g:a∈o)(f:b∈o)(e:o.idxOf a=o.idxOf b):a=b:=by
 have h:o[o.idxOf a]?=some a:=by grind
 grind
def Zsx{o:ZX}(l:ZX):(∀z∈l,z∈o)->l.Pairwise (λa b=>o.idxOf a<=o.idxOf b)->(XN l).Pairwise λa b=>o.idxOf a<o.idxOf b:=by
 refine TN (P:=λl=>(∀z∈l,z∈o)->l.Pairwise (λa b=>o.idxOf a<=o.idxOf b)->(XN l).Pairwise λa b=>o.idxOf a<o.idxOf b) (λ_ _=>.nil) (λr h s f v=>?_) l;obtain⟨p,_,n⟩:=QY.mp v;rw[SL];by_cases c:h∈XN r
 ·grind
 ·rw[WN c];refine QY.mpr ⟨(s (λz u=>f z (Qm.mpr<|.inl u)) p),Vi _ _,λa x b w=>?_⟩;rw[WR.mp w];have g:=((SB r).2 a).mp x;refine Nat.lt_of_le_of_ne (n a g h<|by simp) λe=>c ?_;rw[←Ir (f a<|Qm.mpr<|.inl g) (f h<|by simp) e];lia
end M
namespace ExcR
open L2
open Sem (wp)
open Builtin Builtin.ObjectAttr
noncomputable def B9:Yd:=[.type "ValueError",.type "Exception",.type "BaseException",.type "object"]
noncomputable def Ek:Yd->Bool
 | .ref _::r=>Ek r
 |l=>l==B9
structure Zr9 (K:ZV) (C:Addr):Prop where
 po:(PySem.W.clsIn K C).any (λcd=>Ek cd.mro&&cd.hasDict)=true
 sa:PySem.W.findIn K (.ref C) "__setattr__"=some (some<|.builtin "object.__setattr__")
end ExcR
namespace ExcR
open L2
section
variable {X:Cx}{pins:ZY}{σ:L2.St}{H:Hp}{s:Shared}{a b:Addr}
noncomputable def er(H:Hp)(a:Addr):Hp:=λb=>if b=a then none else H b
end
def Zfo(K:ZV)(C f:Addr):Prop:=∃(s:Yi) (g:ClassData) (sl:Array (Yh)) (h:Yd) (r p o n l:Yh),K.lookup C=some ⟨.type "type",s,.cls g,sl⟩/\g.mro=.ref C::h/\
 sl.toList=[r,p,o,n,some (.builtin "ValueError.__new__"),l]/\g.hasDel=false/\PySem.W.tailIn K B9 h=true/\PySem.W.nsOkIn K g.ns=true/\PySem.W.nsIn K g.ns "__init__"=some (some<|.ref f)
structure Zmc (K:ZV) (C f:Addr):Prop where
 q:Zfo K C f
 fn:PySem.W.typeIn K (.ref f)=some (.type "function")
 st:Zr9 K C
 ga:PySem.W.findIn K (.ref C) "__getattribute__"=some (some<|.builtin "BaseException.__getattribute__")
 gt:PySem.W.findIn K (.ref C) "__getattr__"=some none
 nm:NoAttr K C "members"
 cl:PySem.W.findIn K (.ref C) "__class__"=some (some<|.builtin "object.__class__")
end ExcR
namespace Pu
open L2 Own
structure RI (K:ZV) (x:Str) (C:Addr) (q:Str) (st:Stmt):Prop where
 a:PySem.W.nsIn K mainGlobals x=some (some<|.ref C)
 ex:∃f fd,ExcR.Zmc K C f/\Fun K "__init__" q st f fd
section
variable {K:ZV}{h:Heap}{mg:ZZ}{x q:Str}{st:Stmt}{C M N f:Addr}
def Zjc{cd:ClassData}(m:PySem.W.excIn K M ExcR.B9 "ValueError.__new__"=true):PySem.W.tailIn K ExcR.B9 (.ref M::ExcR.B9)=true:=by
 unfold PySem.W.excIn at m;split at m
 next A cd sl g=>
  split at m
  next E B v u s r n p y w=>
   simp only[Qz,beq_iff_eq,Vy]at m;obtain⟨⟨⟨_,z⟩,o⟩,l⟩:=m;unfold PySem.W.tailIn;rw[JS];right
   try dsimp only
   rw[g]
   try dsimp only
   rw[o,l];rfl
  grind
 next=>cases m
def ri{cd sl y k0 k1 k2 k3 k5 T es n oc B U o kV s z g ct}(a:PySem.W.nsIn K mainGlobals x=some (some<|.ref C))(l:K.lookup C=some ⟨.type "type",dd,.cls cd,sl⟩)(u:cd.mro=.ref C :: .ref M::[.type "ValueError",.type "Exception",.type "BaseException",.type "object"])(dl:cd.hasDel=false)(r:cd.hasDict=true)(p:sl.toList=[k0,k1,k2,k3,some (.builtin "ValueError.__new__"),k5])(v:cd.ns=N)(G:K.lookup N=some ⟨T,Y,.dict es n,y⟩)(A:(es.toList.all λe=>match e.key with | .str _ _=>true|_=>false)=true)(i:PySem.W.nsIn K N "__init__"=some (some<|.ref f))(m:PySem.W.excIn K M [.type "ValueError",.type "Exception",.type "BaseException",.type "object"] "ValueError.__new__"=true)(fn:PySem.W.isFn K (.ref f)=true)(w:PySem.W.findIn K (.ref C) "__setattr__"=some (some<|.builtin "object.__setattr__"))(L:PySem.W.findIn K (.ref C) "__getattribute__"=some (some<|.builtin "BaseException.__getattribute__"))(J:PySem.W.findIn K (.ref C) "__getattr__"=some none)(H:PySem.W.findIn K (.ref C) "__class__"=some (some<|.builtin "object.__class__"))(nm:PySem.W.findIn K (.ref C) "members"=some none)(E:K.lookup f=some ⟨oc,B,.func (PySem.W.fnOf "__init__" q (Ta st) (Km st) (Xy st) .none kV s z U g ct),o⟩)(c:PySem.W.codeIn K g q=true)(k:PySem.W.keepIn K (.ref f)=true):RI K x C q st:=by
 have Q:PySem.W.clsIn K C=some cd:=by unfold PySem.W.clsIn;rw[l]
 refine⟨a,f,_,⟨?_,beq_iff_eq.mp fn,⟨?_,w⟩,L,J,nm,H⟩,AB E c k⟩
 ·refine⟨dd,cd,sl,_,k0,k1,k2,k3,k5,l,u,p,dl,Zjc (cd:=cd) m,?_,by rw[v];exact i⟩;rw[v];unfold PySem.W.nsOkIn;rw[G];show(es.all _)=true;rw[←Array.all_toList];omega
 ·rw[Q];show(ExcR.Ek cd.mro&&cd.hasDict)=true;rw[u,r];rfl
end
end Pu
namespace M
open L2 Own Pu
noncomputable def pcc(ps:ZW):Int->Int->Int:=λx y=>pcM ps x y ps.length
end M
namespace Pu
open L2 Own
def hq{A}(h:XC j A)(f:autoParam (k<=j) au_1):XC k A:=h.mono f
section
variable {X:Cx}{sc:Scope}{elt iter tg:Expr}{ifs:Yf}{pos:Pos}{wi:TI}{g:TG}{tc:TT}{te:TE}{x:Str}
def cz(N':Ye)(φ:Yb)(r:PI X tg iter wi)(n:∀{o C f h ex},PG (KG X N' sc o C f h ex) tg g/\Sr (KG X N' sc o C f h ex) ifs tc/\PE (KG X N' sc o C f h ex) elt te)(l:autoParam (X.calm=true) au_0)(S:autoParam (BE sc X.env.scope X.N N' φ=true) au_0)(p:autoParam (∀x,foldedSetIterable iter X.env x=pure x) au_3):PE X (.ListComp elt [⟨tg,iter,ifs,0⟩] sc pos) (Ff φ wi g tc te):=CP l (.of S) r (λ_ _ _ _ _=>n) p
def gk(i:Nat)(l:autoParam (decide X.N.Nodup=true) au_8)(f:autoParam (X.N[i]?=some x) au_0)(hx:autoParam (Loc X.env.scope x) au_6)(h:autoParam (X.fn x=true\/X.env.scope.names.lookup x=some .local) au_2):PG X (.Name x pos) (Bx i):=Ee (WO l) f hx h
end
section
variable {P:Program}{w:World}{K:ZV}{mg:ZZ}{base:Heap}{N ps:Ye}{sp:Sp}{p:PTS}{x q:Str}{st:Stmt}{k:Nat}{W:Addr->Prop}
def _root_.Own.Def.ez (D:Def K mg x st ps) (S:Xz N ps (Xy st))
  (h:∀{f g A outer s H} {E:XK},XC k (A.deeper<|envOfC x (Xy st) s.heap.objs.size f g)->
   ∃t,PSs (Ks CX0 P w K mg base N x (Xy st) f g A outer s H E).nox (Km st) t/\XF K mg (λ_=>E) t p) (u:Uz K mg N ps sp p):Callee P w K mg base CX0 (k+1) x ps sp:=D.oz S (λ_ _ _ _ _ _ _=>h) u
def _root_.Own.Def.ey (D:Def K mg x st ps) (S:Xz N ps (Xy st))
  (h:∀{f g A outer s H} {E:XK},XC k (A.deeper<|envOfC x (Xy st) s.heap.objs.size f g)->
   ∃t,PSs (Ks (ExcR.CXe P w) P w K mg base N x (Xy st) f g A outer s H E) (Km st) t/\XF K mg (λ_=>E) t p) (u:Uz K mg N ps sp p):Callee P w K mg base (ExcR.CXe P w) (k+1) x ps sp:=D.ox S (λ_ _ _ _ _ _ _=>h) u
def Kb.ez (D:Kb K W x q st ps) (S:Xz N ps (Xy st))
  (h:∀{f g A outer s H} {E:XK},XC k (A.deeper<|envOfC q (Xy st) s.heap.objs.size f g)->
   ∃t,PSs (Ks CX0 P w K mg base N q (Xy st) f g A outer s H E).nox (Km st) t/\XF K mg (λ_=>E) t p) (u:Uz K mg N ps sp p):Tv P w K mg base CX0 (k+1) W ps sp:=D.oz S (λ_ _ _ _ _ _ _=>h) u
def Kb.ey (D:Kb K W x q st ps) (S:Xz N ps (Xy st))
  (h:∀{f g A outer s H} {E:XK},XC k (A.deeper<|envOfC q (Xy st) s.heap.objs.size f g)->
   ∃t,PSs (Ks (ExcR.CXe P w) P w K mg base N q (Xy st) f g A outer s H E) (Km st) t/\XF K mg (λ_=>E) t p) (u:Uz K mg N ps sp p):Tv P w K mg base (ExcR.CXe P w) (k+1) W ps sp:=D.ox S (λ_ _ _ _ _ _ _=>h) u
end
structure Fit {ι:Type} (F:ι->Cx) (K:ZV) (mg:ZZ):Prop where
 k:∀j,(F j).K=K
 m:∀j,(F j).mg=mg
section
variable {ι:Type} (F:ι->Cx) (K:ZV) (mg:ZZ) (E:L2.St->XK)
structure CE (e:Expr) (p:PTE):Prop where
 h:Fit F K mg->∃t,(∀j,PE (F j) e t)/\Xx K mg E t p
structure CT (e:Expr) (p:PTT):Prop where
 h:Fit F K mg->∃t,(∀j,PT (F j) e t)/\KP K mg E t p
structure CW (e:Expr) (p:PTT):Prop where
 h:Fit F K mg->∃t,(∀j,PW (F j) e t)/\KP K mg E t p
structure CA (es:Yf) (p:PTA):Prop where
 h:Fit F K mg->∃t,(∀j,PA (F j) es t)/\XO K mg E t p
structure CS (s:Stmt) (p:PTS):Prop where
 h:Fit F K mg->∃t,(∀j,PS (F j) s t)/\XF K mg E t p
structure CB (b:Yg) (p:PTS):Prop where
 h:Fit F K mg->∃t,(∀j,PSs (F j) b t)/\XF K mg E t p
structure CI (tg e:Expr) (p:PTI):Prop where
 h:Fit F K mg->∃t,(∀j,PI (F j) tg e t)/\SndI K mg E t p
structure CJ (tg e:Expr) (p:PTI):Prop where
 h:Fit F K mg->∃t,(∀j,PI (F j) tg e t)/\BQ K mg E t p
structure CG (e:Expr) (is:Yc) (p:PTG):Prop where
 h:Fit F K mg->∃t,(∀j,PG (F j) e t)/\N5 K is t p
structure CGs (es:Yf) (is:Yc) (p:Bf):Prop where
 h:Fit F K mg->∃t,(∀j,PGs (F j) es t)/\FA K is t p
structure CF (es:Yf) (p:PTT):Prop where
 h:Fit F K mg->∃t,(∀j,Sr (F j) es t)/\KP K mg E t p
end
section
variable {ι:Type}{F:ι->Cx}{K:ZV}{mg:ZZ}{E:L2.St->XK}{e f g:Expr}{es:Yf}{a b c:PTE}{r:PTA}{x:Str}{pos p1:Pos}{k n:Nat}{s:Stmt}{d1 d2:Yg}{p q:PTS}{t u:PTT}{is:Yc}{pg:PTG}{it:PTI}
def xv(i:Nat)(v:autoParam (∀j,(F j).N[i]?=some x) au_3)(h:autoParam (∀j,Vis (F j).env.scope x) au_9)(l:autoParam ((x==("__debug__" : Str))=false) au_1)(o:autoParam ((x==("__classdict__" : Str))=false) au_1):CE F K mg E (.Name x pos) (G1 i):=.mk λ_=>⟨_,λj=>pv i (v j) (h j) l o,Xw i⟩
def xi:CE F K mg E (.Constant (.int i) k pos) (pC<|.int i):=.mk λ_=>⟨_,λ_=>X5,X2⟩
def xb:CE F K mg E (.Constant (.bool i) k pos) (pC<|.bl i):=.mk λ_=>⟨_,λ_=>Nw,Nu⟩
def xs:CE F K mg E (.Constant (.str i) k pos) (pC<|.str i):=.mk λ_=>⟨_,λ_=>NZ,NV⟩
def xe(h:∀{j},PE (F j) e te)(k:Xx K mg E te a):CE F K mg E e a:=.mk λ_=>⟨_,λ_=>h,k⟩
def xo{r}(y:∀{X},OpR X (binaryOp l) r)(w:∀{t u},Xx K mg E t a->Xx K mg E u b->Xx K mg E (tOp r t u) c)(A:CE F K mg E e a)(B:CE F K mg E f b):CE F K mg E (.BinOp e l f pos) c:=
 .mk λh=>let ⟨_,C,v⟩:=A.h h;let ⟨_,z,o⟩:=B.h h;⟨_,λj=>Py y (C j) (z j),w v o⟩
def xx(A:CE F K mg E e a)(B:CE F K mg E f b)(v:autoParam (EW f) au_7):CE F K mg E (.Subscript e f pos) (p2 a b fIx):=
 .mk λh=>let ⟨_,y,o⟩:=A.h h;let ⟨_,w,l⟩:=B.h h;⟨_,λj=>jx K (y j) (w j) (h.k j) v,XS o l⟩
def xl(w:mg "len"=none)(A:CE F K mg E e a)(y:autoParam (∀j,Gl (F j) "len") au_3)(v:autoParam (∀j,starEach [e] (F j).env=(false,eval e (F j).env)::starEach [] (F j).env) au_3)(l:autoParam (∀j,(backTo pos (starEach [] (F j).env)).any (·.1)=false) au_3) :
  CE F K mg E (.Call (.Name "len" p1) [e] [] pos) (pCB GI<|PH a Nt):=
 .mk λh=>let ⟨_,z,o⟩:=A.h h;⟨_,λj=>ln K (by rw[h.m j];exact w) (z j) (h.k j) (y j) (v j) (l j),Ni (sz o)⟩
def xf{ps v}(C:Callee P w K mg base CX0 k x ps (X3 mg v K))(H:∀j,XC m (F j).A)(A:CA F K mg E (e::es) r)(N:autoParam (∀j,(F j).prog=P/\(F j).w=w/\(F j).base=base) au_10)(J:autoParam (k<=m) au_1)(L:autoParam (∀j,Gl (F j) x) au_3)(o:autoParam ((x==("__debug__" : Str))=false) au_1)(M:autoParam (∀j,starEach (e::es) (F j).env=(false,eval e (F j).env)::starEach es (F j).env) au_3)(l:autoParam (∀j,(backTo pos (starEach es (F j).env)).any (·.1)=false) au_3) :
  CE F K mg E (.Call (.Name x p1) (e::es) [] pos) (MV v r):=
 .mk λh=>let ⟨_,Q,G⟩:=A.h h;⟨_,λj=>fz (by obtain⟨B,z,y⟩:=N j;rw[B,z,y,h.k j,h.m j];exact C) (H j) (Q j) J (L j) o (M j) (l j),Pm G⟩
def xt(A:CA F K mg E es r):CE F K mg E (.Tuple es k pos) (Zb6 r):=.mk λh=>let ⟨_,o,l⟩:=A.h h;⟨_,λj=>PK (o j),PB l⟩
def xL(A:CA F K mg E es r):CE F K mg E (.List es pos) (Zcs r):=.mk λh=>let ⟨_,o,l⟩:=A.h h;⟨_,λj=>N0 (o j),Nv l⟩
def a0:CA F K mg E [] Nt:=.mk λ_=>⟨_,λ_=>Pr,Ka⟩
def ac(A:CE F K mg E e a)(B:CA F K mg E es r)(y:autoParam (∀j,starEach (e::es) (F j).env=(false,eval e (F j).env)::starEach es (F j).env) au_3):CA F K mg E (e::es) (PH a r):=
 .mk λh=>let ⟨_,w,o⟩:=A.h h;let ⟨_,v,l⟩:=B.h h;⟨_,λj=>Kw (w j) (v j) (y j),Pn o l⟩
def a1(A:CE F K mg E e a)(h:autoParam (∀j,starEach [e] (F j).env=(false,eval e (F j).env)::starEach [] (F j).env) au_3):CA F K mg E [e] (PH a Nt):=ac A a0 h
def a2(A:CE F K mg E e a)(B:CE F K mg E f b)(l:autoParam (∀j,starEach [e,f] (F j).env=(false,eval e (F j).env)::starEach [f] (F j).env) au_3)(h:autoParam (∀j,starEach [f] (F j).env=(false,eval f (F j).env)::starEach [] (F j).env) au_3):CA F K mg E [e,f] (PH a<|PH b Nt):=ac A (a1 B h) l
def a3(A:CE F K mg E e a)(B:CE F K mg E f b)(C:CE F K mg E g c)(o:autoParam (∀j,starEach [e,f,g] (F j).env=(false,eval e (F j).env)::starEach [f,g] (F j).env) au_3)(l:autoParam (∀j,starEach [f,g] (F j).env=(false,eval f (F j).env)::starEach [g] (F j).env) au_3)(h:autoParam (∀j,starEach [g] (F j).env=(false,eval g (F j).env)::starEach [] (F j).env) au_3):CA F K mg E [e,f,g] (PH a<|PH b<|PH c Nt):=ac A (a2 B C l h) o
def te(h:∀{j},PT (F j) e tt)(k:KP K mg E tt t):CT F K mg E e t:=.mk λ_=>⟨_,λ_=>h,k⟩
def tc{r}(y:∀{X},OpR X (compareOp l) r)(w:∀{t u},Xx K mg E t a->Xx K mg E u b->Xx K mg E (tOp r t u) c)(A:CE F K mg E e a)(B:CE F K mg E f b)(z:behindInMarks l f=false:=by exact KO _):CT F K mg E (.Compare e [l] [f] pos) (S4 c):=
 .mk λh=>let ⟨_,G,v⟩:=A.h h;let ⟨_,C,o⟩:=B.h h;⟨_,λj=>T7 y (G j) (C j) z,Tj (w v o)⟩
def tq(v:∀j,XC n (F j).A)(A:CE F K mg E e a)(B:CE F K mg E f b):CT F K mg E (.Compare e [.Eq] [f] pos) (S4<|p2 a b<|SN false):=
 .mk λh=>let ⟨_,y,o⟩:=A.h h;let ⟨_,w,l⟩:=B.h h;⟨_,λj=>cq K (v j) (y j) (w j) (h.k j),Tj (NJ o l)⟩
def tn(v:∀j,XC n (F j).A)(A:CE F K mg E e a)(B:CE F K mg E f b):CT F K mg E (.Compare e [.NotEq] [f] pos) (S4<|p2 a b<|SN true):=
 .mk λh=>let ⟨_,y,o⟩:=A.h h;let ⟨_,w,l⟩:=B.h h;⟨_,λj=>cn K (v j) (y j) (w j) (h.k j),Tj (DJ o l)⟩
def ti(v:∀j,XC n (F j).A)(A:CE F K mg E e a)(B:CE F K mg E f b)(w:autoParam (behindInMarks .In f=false) au_11):CT F K mg E (.Compare e [.In] [f] pos) (S4<|p2 a b<|fIn false):=
 .mk λh=>let ⟨_,z,o⟩:=A.h h;let ⟨_,y,l⟩:=B.h h;⟨_,λj=>T7 (D6 (K7<|v j)<|h.k j) (z j) (y j) w,Tj (AL o l)⟩
def tI(v:∀j,XC n (F j).A)(A:CE F K mg E e a)(B:CE F K mg E f b)(w:autoParam (behindInMarks .NotIn f=false) au_11):CT F K mg E (.Compare e [.NotIn] [f] pos) (S4<|p2 a b<|fIn true):=
 .mk λh=>let ⟨_,z,o⟩:=A.h h;let ⟨_,y,l⟩:=B.h h;⟨_,λj=>T7 (Zkb (K7<|v j)<|h.k j) (z j) (y j) w,Tj (AL o l)⟩
def tt(A:CE F K mg E e a)(o:autoParam (∀j whole,isTrue e (F j).env whole=(do let v ←whole;standAt e.pos;holding [v] (truthy v))) au_7):CT F K mg E e (OM a):=.mk λh=>let ⟨_,w,l⟩:=A.h h;⟨_,λj=>SG (w j) (h.k j) (o j),IB l⟩
def tN(A:CT F K mg E e t):CT F K mg E (.UnaryOp .Not e pos) (Mj t):=.mk λh=>let ⟨_,o,l⟩:=A.h h;⟨_,λj=>FC (o j),Zd7 l⟩
def tp(A:CW F K mg E e t):CT F K mg E e t:=.mk λh=>let ⟨_,o,l⟩:=A.h h;⟨_,λj=>(o j).pt,l⟩
def wa(A:CT F K mg E e t)(B:CW F K mg E (.BoolOp .And (f::es) pos) u):CW F K mg E (.BoolOp .And (e::f::es) pos) (IX t u):=.mk λh=>let ⟨_,w,o⟩:=A.h h;let ⟨_,v,l⟩:=B.h h;⟨_,λj=>Zt1 (w j) (v j),Zfv o l⟩
def wo(A:CT F K mg E e t)(B:CW F K mg E (.BoolOp .Or (f::es) pos) u):CW F K mg E (.BoolOp .Or (e::f::es) pos) (pOr t u):=.mk λh=>let ⟨_,w,o⟩:=A.h h;let ⟨_,v,l⟩:=B.h h;⟨_,λj=>Zmt (w j) (v j),Zju o l⟩
def wA(A:CT F K mg E e t):CW F K mg E (.BoolOp .And [e] pos) t:=.mk λh=>let ⟨_,o,l⟩:=A.h h;⟨_,λj=>Zfq (o j),l⟩
def wO(A:CT F K mg E e t):CW F K mg E (.BoolOp .Or [e] pos) t:=.mk λh=>let ⟨_,o,l⟩:=A.h h;⟨_,λj=>Zlk (o j),l⟩
def se(h:∀{j},PS (F j) s l)(k:XF K mg E l p):CS F K mg E s p:=.mk λ_=>⟨_,λ_=>h,k⟩
def sS(i:Nat)(y:∀j,(F j).N.Nodup)(A:CE F K mg E e a)(v:autoParam (∀j,(F j).N[i]?=some x) au_3)(hx:autoParam (∀j,Loc (F j).env.scope x) au_12)(o:autoParam (∀j,swapsWith e (some<|.Name x p1) pos.line (F j).env=pure false) au_3)(w:autoParam (∀j,(F j).fn x=true\/(F j).env.scope.names.lookup x=some .local) au_13):CS F K mg E (.Assign [.Name x p1] e pos) (GA a<|Fw i):=
 .mk λh=>let ⟨_,z,l⟩:=A.h h;⟨_,λj=>pz i (y j) (z j) (v j) (hx j) (o j) (w j),TH l (KE i)⟩
def sR(A:CE F K mg E e a):CS F K mg E (.Return (some e) pos) (Lh a):=.mk λh=>let ⟨_,o,l⟩:=A.h h;⟨_,λj=>KA (o j),AR l⟩
def sF(i:Nat)(A:CS F K mg E s p):CS F K mg E s (Hk i p):=.mk λh=>let ⟨_,o,l⟩:=A.h h;⟨_,o,Zs1 i l⟩
def sI(A:CT F K mg E e t)(B:CB F K mg E d1 p)(C:CB F K mg E d2 q):CS F K mg E (.If e d1 d2 pos) (RX t p q):=.mk λh=>let ⟨_,z,v⟩:=A.h h;let ⟨_,y,o⟩:=B.h h;let ⟨_,w,l⟩:=C.h h;⟨_,λj=>F6 (z j) (y j) (w j),Zln v o l⟩
def sE(A:CE F K mg E e a)(o:autoParam (∀j,swapsWith e none pos.line (F j).env=pure false) au_3):CS F K mg E (.Expr e pos) (Zbl a):=.mk λh=>let ⟨_,v,l⟩:=A.h h;⟨_,λj=>PM (v j) (o j),SJ l⟩
def sO(l:Yc)(C:∀{j},PassesOwn (model (F j).prog (F j).w) (F j).A (F j).env (F j).xe)(I:CI F K mg E f e it)(G:CG F K mg f is pg)(B:CB F K mg E d1 p)(H:autoParam (∀j,(F j).calm=true) au_3)(z:autoParam (∀j x,foldedSetIterable e (F j).env x=pure x) au_7) :
  CS F K mg E (.For f e d1 [] pos) (Zcd l it pg p):=
 .mk λh=>let ⟨_,M,y⟩:=I.h h;let ⟨_,L,v⟩:=G.h h;let ⟨_,J,o⟩:=B.h h;⟨_,λj=>Zei C (H j) (M j) (L j) (J j) (z j),Zmn l y v o⟩
def sW(l:Yc)(y:∀{j},PassesOwn (model (F j).prog (F j).w) (F j).A (F j).env (F j).xe)(A:CT F K mg E e t)(B:CB F K mg E d1 p):CS F K mg E (.While e d1 [] pos) (Ls l t p):=
 .mk λh=>let ⟨_,C,v⟩:=A.h h;let ⟨_,z,o⟩:=B.h h;⟨_,λj=>Zt2 y (C j) (z j),Zuk l v o⟩
def b0:CB F K mg E [] Md:=.mk λ_=>⟨_,λ_=>FB,B7⟩
def b1(A:CS F K mg E s p):CB F K mg E [s] p:=.mk λh=>let ⟨_,o,l⟩:=A.h h;⟨_,λj=>Bw (o j),l⟩
def bc(A:CS F K mg E s p)(B:CB F K mg E d1 q):CB F K mg E (s::d1) (OX p q):=.mk λh=>let ⟨_,w,o⟩:=A.h h;let ⟨_,v,l⟩:=B.h h;⟨_,λj=>Zeu (w j) (v j),Zhz o l⟩
def bj(A:CS F K mg E s p)(B:CB F K mg E d1 q):CB F K mg E (s::d1) (Od p q):=.mk λh=>let ⟨_,w,o⟩:=A.h h;let ⟨_,v,l⟩:=B.h h;⟨_,λj=>Zn8 (w j) (v j),Zc2 o l⟩
def ie(h:∀{j},PI (F j) f e l)(k:SndI K mg E l it):CI F K mg E f e it:=.mk λ_=>⟨_,λ_=>h,k⟩
def iL(A:CE F K mg E e a):CI F K mg E f e (pIL a):=.mk λh=>let ⟨_,o,l⟩:=A.h h;⟨_,λj=>S7 (o j) (h.k j),Zsn l⟩
def ir(v:mg "range"=none)(A:CA F K mg E [e] r)(w:autoParam (∀j,Gl (F j) "range") au_3)(o:autoParam (∀j,starEach [e] (F j).env=[(false,eval e (F j).env)]) au_3):CI F K mg E f (.Call (.Name "range" p1) [e] [] pos) (Iy r):=
 .mk λh=>let ⟨_,y,l⟩:=A.h h;⟨_,λj=>Zob (w j) (by rw[h.m j];exact v) (y j) (o j),Zde l⟩
def iR(w:mg "range"=none)(A:CA F K mg E [e,g] r)(y:autoParam (∀j,Gl (F j) "range") au_3)(v:autoParam (∀j,starEach [e,g] (F j).env=[(false,eval e (F j).env),(false,eval g (F j).env)]) au_3)(l:autoParam (∀j,starEach [g] (F j).env=[(false,eval g (F j).env)]) au_3):CI F K mg E f (.Call (.Name "range" p1) [e,g] [] pos) (ME r):=
 .mk λh=>let ⟨_,z,o⟩:=A.h h;⟨_,λj=>Zjm (y j) (by rw[h.m j];exact w) (z j) (v j) (l j),Zm8 o⟩
def je(h:∀{j},PI (F j) f e l)(k:BQ K mg E l it):CJ F K mg E f e it:=.mk λ_=>⟨_,λ_=>h,k⟩
def jL(A:CE F K mg E e a):CJ F K mg E f e (Rc a):=.mk λh=>let ⟨_,o,l⟩:=A.h h;⟨_,λj=>S7 (o j) (h.k j),Bs l⟩
def jI(I:CI F K mg E f e it):CJ F K mg E f e it:=.mk λh=>let ⟨_,o,l⟩:=I.h h;⟨_,o,l.c⟩
def gN(i:Nat)(o:autoParam (∀j,decide (F j).N.Nodup=true) au_14)(h:autoParam (∀j,(F j).N[i]?=some x) au_3)(hx:autoParam (∀j,Loc (F j).env.scope x) au_12)(l:autoParam (∀j,(F j).fn x=true\/(F j).env.scope.names.lookup x=some .local) au_13):CG F K mg (.Name x pos) [i] (Fw i):=.mk λ_=>⟨_,λj=>gk i (o j) (h j) (hx j) (l j),KE i⟩
def gT(n:Nat){pr}(G:CGs F K mg es is pr)(w:autoParam (∀j,(F j).calm=true) au_3)(v:autoParam (∀j,(assignEach es (F j).env).length=n) au_3)(l:autoParam (∀j,(assignEach es (F j).env).findIdx? (·.1)=none) au_3):CG F K mg (.Tuple es k pos) is (G7 n pr):=
 .mk λh=>let ⟨_,y,o⟩:=G.h h;⟨_,λj=>B8 (w j) (y j) (h.k j) (v j) (l j),AC o⟩
def g0:CGs F K mg [] [] HP:=.mk λ_=>⟨_,λ_=>BH,Ah⟩
def gc(G:CG F K mg e is pg)(B:CGs F K mg es w l)(y:autoParam (∀j,(assignEach (e::es) (F j).env).map (·.2)=assign e (F j).env::(assignEach es (F j).env).map (·.2)) au_3):CGs F K mg (e::es) (is++w) (RK pg l):=
 .mk λh=>let ⟨_,A,v⟩:=G.h h;let ⟨_,z,o⟩:=B.h h;⟨_,λj=>Ny (A j) (z j) (y j),Sk v o⟩
def f0:CF F K mg E [] Zao:=.mk λ_=>⟨_,λ_=>Su,SS⟩
def f1(A:CT F K mg E e t):CF F K mg E [e] t:=.mk λh=>let ⟨_,o,l⟩:=A.h h;⟨_,λj=>Ag (o j),l⟩
noncomputable abbrev Blk(F:ι->Cx)(N':Ye)(h:Scope):ι×List (Str×Addr)×Addr×Shared×Hp×List Addr->Cx:=λj=>KG (F j.1) N' h j.2.1 j.2.2.1 j.2.2.2.1 j.2.2.2.2.1 j.2.2.2.2.2
def xC(N':Ye)(φ:Yb)(I:CJ F K mg E f e it)(G:CG (Blk F N' v) K mg f is pg)(T:CF (Blk F N' v) K mg E es t)(A:CE (Blk F N' v) K mg E g a)(hc:autoParam (∀j,(F j).calm=true) au_3)(S:autoParam (∀j,BE v (F j).env.scope (F j).N N' φ=true) au_3)(hs:autoParam (∀j x,foldedSetIterable e (F j).env x=pure x) au_7)(h1:autoParam ((φ.filterMap id).Nodup) au_1)(h2:autoParam (∀j∈is,φ[j]?=some none) au_1) :
  CE F K mg E (.ListComp g [⟨f,e,es,0⟩] v pos) (E3 φ it pg t a):=.mk λh=>by
 have w:Fit (Blk F N' v) K mg:=⟨λj=>h.k j.1,λj=>h.m j.1⟩;obtain⟨_,Y,L⟩:=I.h h;obtain⟨_,U,J⟩:=G.h w;obtain⟨_,Q,H⟩:=T.h w;obtain⟨_,M,B⟩:=A.h w;exact⟨_,λj=>CP (hc j) (.of<|S j) (Y j) (λz C l o y=>⟨U (j,z,C,l,o,y),Q (j,z,C,l,o,y),M (j,z,C,l,o,y)⟩) (hs j),Nf L J H B h1 h2⟩
def sN(i:Nat)(A:CS F K mg E s p):CS F K mg E s (pNm i p):=.mk λh=>let ⟨_,o,l⟩:=A.h h;⟨_,o,Zq3 i l⟩
def sr(A:CE F K mg E e a):CS F K mg E (.Return (some e) pos) (Zbm a):=.mk λh=>let ⟨_,o,l⟩:=A.h h;⟨_,λj=>KA (o j),Zee l⟩
def sV(i:Nat)(v:autoParam (∀j,(F j).N[i]?=some x) au_3)(h:autoParam (∀j,Vis (F j).env.scope x) au_9)(l:autoParam ((x==("__debug__" : Str))=false) au_1)(o:autoParam ((x==("__classdict__" : Str))=false) au_1):CS F K mg E (.Return (some<|.Name x p1) pos) (CL i):=.mk λ_=>⟨_,λj=>KA (pv i (v j) (h j) l o),Zhw i⟩
def sA(i:Nat)(A:CE F K mg E e a)(H:autoParam (∀j,(F j).N[i]?=some x) au_3)(B:autoParam (∀j,Vis (F j).env.scope x) au_9)(C:autoParam ((x==("__debug__" : Str))=false) au_1)(G:autoParam ((x==("__classdict__" : Str))=false) au_1){apos cpos}(v:autoParam (∀j,attributeBase (.Name x p1) "append" (F j).env (eval (.Name x p1) (F j).env)=eval (.Name x p1) (F j).env) au_3)(w:autoParam (∀j,((backTo cpos (starEach [e] (F j).env)).all (λx=>!x.1)&&(backToKw cpos (keywordEach [] (F j).env)).all (λx=>x.1.isSome)&&decide ([e].length+([]:List Keyword).length+(if ([]:List Keyword).isEmpty then 0 else 1)<30))=true) au_3)(o:autoParam ((apos.endLine==cpos.line)=true) au_0)(y:autoParam (∀j,starEach [e] (F j).env=(false,eval e (F j).env)::starEach [] (F j).env) au_3)(l:autoParam (∀j,(backTo cpos (starEach [] (F j).env)).any (·.1)=false) au_3)(hw:autoParam (∀j,swapsWith (.Call (.Attribute (.Name x p1) "append" apos) [e] [] cpos) none pos.line (F j).env=pure false) au_3):CS F K mg E (.Expr (.Call (.Attribute (.Name x p1) "append" apos) [e] [] cpos) pos) (EE i a):=
 .mk λh=>let ⟨_,J,z⟩:=A.h h;⟨_,λj=>PM (AN Q4 VL VM Fl (pv i (H j) (B j) C G) (Kw (J j) Pr<|y j) (h.k j) (v j) (w j) o (y j)<|l j) (hw j),Zs2 i z⟩
def sU(i:Nat){l o}(B:∀j,(F j).N.Nodup)(w:∀{X},PIp X l (ipI o))(A:CE F K mg E e a)(y:autoParam (∀j,(F j).N[i]?=some x) au_3)(hx:autoParam (∀j,Loc (F j).env.scope x) au_12)(z:autoParam (∀j,(F j).fn x=true\/(F j).env.scope.names.lookup x=some .local) au_13):CS F K mg E (.AugAssign (.Name x p1) l e pos) (DQ i o a):=
 .mk λh=>let ⟨_,C,v⟩:=A.h h;⟨_,λj=>Zkw (B j) (y j) (hx j) (C j) w (z j),Zpf v⟩
def sC(i:Nat)(N':Ye)(φ:Yb){y py spos}(hN:∀j,(F j).N.Nodup)(I:CJ F K mg E f e it)(G:CG (Blk F N' v) K mg f is pg)(T:CF (Blk F N' v) K mg E es t)(A:CE (Blk F N' v) K mg E g a)(hy:autoParam (∀j,(F j).N[i]?=some y) au_3)(hl:autoParam (∀j,(F j).env.scope.names.lookup y=some .local) au_3)(hc:autoParam (∀j,(F j).calm=true) au_3)(S:autoParam (∀j,BE v (F j).env.scope (F j).N N' φ=true) au_3)(hs:autoParam (∀j x,foldedSetIterable e (F j).env x=pure x) au_7)(h1:autoParam ((φ.filterMap id).Nodup) au_1)(h2:autoParam (∀j∈is,φ[j]?=some none) au_1)(hw:autoParam (∀j,swapsWith (.ListComp g [⟨f,e,es,0⟩] v pos) (some<|.Name y py) spos.line (F j).env=pure true) au_3) :
  CS F K mg E (.Assign [.Name y py] (.ListComp g [⟨f,e,es,0⟩] v pos) spos) (GA (E3 φ it pg t a)<|Fw i):=.mk λh=>by
 have w:Fit (Blk F N' v) K mg:=⟨λj=>h.k j.1,λj=>h.m j.1⟩;obtain⟨_,i1,M⟩:=I.h h;obtain⟨_,Y,L⟩:=G.h w;obtain⟨_,U,J⟩:=T.h w;obtain⟨_,Q,H⟩:=A.h w;exact⟨_,λj=>Zir (hN j) (hy j) (hl j) (hc j) (.of<|S j) (i1 j) (λB C l o z=>⟨Y (j,B,C,l,o,z),U (j,B,C,l,o,z),Q (j,B,C,l,o,z)⟩) (hs j) (hw j),TH (Nf M L J H h1 h2) (KE i)⟩
def sX(i:Nat)(B:CE F K mg E f b)(A:CE F K mg E e a)(Q:autoParam (∀j,(F j).N[i]?=some x) au_3)(G:autoParam (∀j,Vis (F j).env.scope x) au_9)(J:autoParam ((x==("__debug__" : Str))=false) au_1)(L:autoParam ((x==("__classdict__" : Str))=false) au_1){q1}(M:autoParam (∀j v,assign (.Subscript (.Name x p1) f q1) (F j).env v=(do
   let l ←holding [v] (eval (.Name x p1) (F j).env)
   let o ←holding [v,l] (eval f (F j).env)
   standAt q1
   holding [v,l,o] (setItem l o v)
   release [v,l,o] [])) au_7)(H:autoParam (∀j,swapsWithSole [.Subscript (.Name x p1) f q1] e pos.line (F j).env=pure false) au_3)(hw:autoParam (∀j,swappedStores [.Subscript (.Name x p1) f q1] e (F j).env=pure none) au_3)(T:autoParam (∀j,(assignEach [.Subscript (.Name x p1) f q1] (F j).env).map (·.2)=[assign (.Subscript (.Name x p1) f q1) (F j).env]) au_3):CS F K mg E (.Assign [.Subscript (.Name x p1) f q1] e pos) (Hc i b a):=
 .mk λh=>let ⟨_,C,y⟩:=B.h h;let ⟨_,z,w⟩:=A.h h;⟨_,λj=>Zn5 (z j) (Znb (pv i (Q j) (G j) J L) (C j) Zk6<|M j) (H j) (hw j) (T j),Zj4 i y w⟩
structure CO {ι:Type} (F:ι->Cx) (K:ZV) (mg:ZZ) (E:L2.St->XK) (o:Option Expr) (p:PTO):Prop where
 h:Fit F K mg->∃t,(∀j,PO (F j) o t)/\Nz K mg E t p
def o0:CO F K mg E none MF:=.mk λ_=>⟨_,λ_=>DF,DL⟩
def o1(A:CE F K mg E e a):CO F K mg E (some e) (OP a):=.mk λh=>let ⟨_,o,l⟩:=A.h h;⟨_,λj=>Fq (o j),BP l⟩
def xp{lo o l u v}(A:CE F K mg E e a)(L:CO F K mg E lo l)(U:CO F K mg E o u):CE F K mg E (.Subscript e (.Slice lo o none v) pos) (pSl a l u):=
 .mk λh=>let ⟨_,G,z⟩:=A.h h;let ⟨_,C,y⟩:=L.h h;let ⟨_,B,w⟩:=U.h h;⟨_,λj=>AO (I0<|h.k j) (G j) (C j) (B j),Zqy z y w⟩
def xn(A:CE F K mg E e a):CE F K mg E (.UnaryOp .Not e pos) (Il a):=.mk λh=>let ⟨_,o,l⟩:=A.h h;⟨_,λj=>L9 (o j),Oj l⟩
def x0:CE F K mg E (.Constant .none k pos) (pC .non):=.mk λ_=>⟨_,λ_=>Zk3,Zh0⟩
def sQ{cpos v}(B:ExcR.KU K (ExcR.X9 mg x))(y:mg x=some (.ref<|ExcR.X9 mg x))(H:∀{j},ExcR.Df (F j) v)(A:CA F K mg (λ_=>v) (e::es) r)(G:autoParam (∀j,(F j).calm=true) au_3)(z:autoParam (∀j,Gl (F j) x) au_3)(o:autoParam ((x==("__debug__" : Str))=false) au_1)(C:autoParam (∀j,starEach (e::es) (F j).env=(false,eval e (F j).env)::starEach es (F j).env) au_3)(l:autoParam (∀j,(backTo cpos (starEach es (F j).env)).any (·.1)=false) au_3)(hx:autoParam (Ac x=none) au_0) :
  CS F K mg (λ_=>v) (.Raise (some<|.Call (.Name x p1) (e::es) [] cpos) none pos) (M4 x r):=
 .mk λh=>let ⟨_,J,w⟩:=A.h h;⟨_,λj=>ExcR.Zet (by rw[h.k j];exact B.c) (by rw[h.m j];exact y) H (G j) (J j) (z j) o (C j) (l j),Zpg w hx⟩
def xg{ps y v}(C:Callee P w K mg base (ExcR.CXe P w) k x ps (X3 mg y K))(J:∀j,XC m (F j).A)(hx:∀{j},PQ (ExcR.CXe P w) (F j) v)(A:CA F K mg (λ_=>v) (e::es) r)(Q:autoParam (∀j,(F j).prog=P/\(F j).w=w/\(F j).base=base) au_10)(L:autoParam (k<=m) au_1)(M:autoParam (∀j,Gl (F j) x) au_3)(o:autoParam ((x==("__debug__" : Str))=false) au_1)(N:autoParam (∀j,starEach (e::es) (F j).env=(false,eval e (F j).env)::starEach es (F j).env) au_3)(l:autoParam (∀j,(backTo pos (starEach es (F j).env)).any (·.1)=false) au_3) :
  CE F K mg (λ_=>v) (.Call (.Name x p1) (e::es) [] pos) (MB y r):=
 .mk λh=>let ⟨_,T,H⟩:=A.h h;⟨_,λj=>SE (by obtain⟨G,B,z⟩:=Q j;rw[G,B,z,h.k j,h.m j];exact C) ((J j).mono L) hx (T j) (M j) o (N j) (l j),Zj7 H⟩
variable {pw:PTW}
end
section
variable {P:Program}{w:World}{K:ZV}{mg:ZZ}{base:Heap}{N ps:Ye}{sp:Sp}{p:PTS}{x q:Str}{st:Stmt}{k:Nat}{W:Addr->Prop}
def _root_.Own.Def.fz (D:Def K mg x st ps) (S:Xz N ps (Xy st))
  (o:∀{f g A outer s H} {E:XK},(∀{n:Type},n->XC k (A.deeper<|envOfC x (Xy st) s.heap.objs.size f g))->(Unit->N.Nodup)->
   CB (λ_:Unit=>(Ks CX0 P w K mg base N x (Xy st) f g A outer s H E).nox) K mg (λ_=>E) (Km st) p) (u:Uz K mg N ps sp p):Callee P w K mg base CX0 (k+1) x ps sp:=
 D.ez S (λr=>let ⟨t,h,l⟩:=(o (λ_=>r) λ_=>S.nd).h ⟨λ_=>rfl,λ_=>rfl⟩;⟨t,h (),l⟩) u
def _root_.Own.Def.fy (D:Def K mg x st ps) (S:Xz N ps (Xy st))
  (o:∀{f g A outer s H} {E:XK},(∀{n:Type},n->XC k (A.deeper<|envOfC x (Xy st) s.heap.objs.size f g))->(Unit->N.Nodup)->
   CB (λ_:Unit=>Ks (ExcR.CXe P w) P w K mg base N x (Xy st) f g A outer s H E) K mg (λ_=>E) (Km st) p) (u:Uz K mg N ps sp p):Callee P w K mg base (ExcR.CXe P w) (k+1) x ps sp:=
 D.ey S (λr=>let ⟨t,h,l⟩:=(o (λ_=>r) λ_=>S.nd).h ⟨λ_=>rfl,λ_=>rfl⟩;⟨t,h (),l⟩) u
def Kb.fz (D:Kb K W x q st ps) (S:Xz N ps (Xy st))
  (o:∀{f g A outer s H} {E:XK},(∀{n:Type},n->XC k (A.deeper<|envOfC q (Xy st) s.heap.objs.size f g))->(Unit->N.Nodup)->
   CB (λ_:Unit=>(Ks CX0 P w K mg base N q (Xy st) f g A outer s H E).nox) K mg (λ_=>E) (Km st) p) (u:Uz K mg N ps sp p):Tv P w K mg base CX0 (k+1) W ps sp:=
 D.ez S (λr=>let ⟨t,h,l⟩:=(o (λ_=>r) λ_=>S.nd).h ⟨λ_=>rfl,λ_=>rfl⟩;⟨t,h (),l⟩) u
def Kb.fy (D:Kb K W x q st ps) (S:Xz N ps (Xy st))
  (o:∀{f g A outer s H} {E:XK},(∀{n:Type},n->XC k (A.deeper<|envOfC q (Xy st) s.heap.objs.size f g))->(Unit->N.Nodup)->
   CB (λ_:Unit=>Ks (ExcR.CXe P w) P w K mg base N q (Xy st) f g A outer s H E) K mg (λ_=>E) (Km st) p) (u:Uz K mg N ps sp p):Tv P w K mg base (ExcR.CXe P w) (k+1) W ps sp:=
 D.ey S (λr=>let ⟨t,h,l⟩:=(o (λ_=>r) λ_=>S.nd).h ⟨λ_=>rfl,λ_=>rfl⟩;⟨t,h (),l⟩) u
end
end Pu
namespace M
open L2 Own Pu
theorem Gk(ps:ZW):∀r:ZX,Kp (KC ps (λm=>m) r)=XH ps r
 |[]=>rfl
 |x::t=>by
  have h:∀l:ZX,ltS x (KC ps (λm=>m) l)=((l.filter λy=>decide (y<x)).map (wdM ps)).sum:=λl=>by
   induction l with
   |nil=>rfl
   |cons y l f=>
    show(if y<x then wdN ps y else 0)+ltS x (KC ps (λm=>m) l)=_;rw[f];by_cases c:y<x
    ·rw[WQ c,J1 (by simpa using c),Qa,List.sum_cons];rfl
    ·rw[WN c,J2 (by simpa using c)];lia
  show ltS x (KC ps (λm=>m) t)*wdN ps x+Kp (KC ps (λm=>m) t)=_;rw[h,Gk ps t,Int.mul_comm];rfl
def Zot{ps:ZW}(f:Field ps){ns:ZX}{p:Nat}(h:1<=p)(g:p<ns.length):XH ps (Kq ns p)<=XH ps ns+exM ps ns p:=by
 obtain⟨A,x,y,B,e,_,n,l,ey⟩:=Sg h g;rw[n,Ad l ey,e,←Gk,←Gk];unfold KC;rw[WY,Qa,Qa,WY,Qa,Qa];have k:=BG (x,wdN ps x) (y,wdN ps y) (B.map λm=>(m,wdN ps m)) (A.map λm=>(m,wdN ps m));have hw:=Int.mul_nonneg (AI f x) (AI f y)
 dsimp only at k ⊢
 split at k<;>split at k<;>lia
def Zj8{ps:ZW}:∀(m:Nat) (r:ZX),r.Perm (X0 1 ps.length)->Fd ps.length r=m->∃n,TQ ps n (X0 1 ps.length,0)=some (r,XH ps r):=by
 intro m
 induction m with
 |zero=>
  intro r g p;by_cases e:r=X0 1 ps.length
  ·subst e;exact⟨[],by rw[FD,AY]⟩
  ·obtain⟨a,x,y,b,rfl,h⟩:=DW g e
   have:=HS h (IY g)
   have:=Zci ps.length (a++y::x::b)
   lia
 |succ m o=>
  intro r g p;by_cases e:r=X0 1 ps.length
  ·subst e;exact⟨[],by rw[FD,AY]⟩
  ·obtain⟨a,x,y,b,rfl,h⟩:=DW g e;have f:=IY g;have s:=HS h f;obtain⟨n,hw⟩:=o (a++y::x::b) f (by lia);have l:=f.length_eq;rw[KM,WT,Qi,Qi]at l;refine⟨n++[((a.length+1:Nat):Int)],?_⟩;rw[Zb8 _ _ _ _ _ hw,FZ,WN (by lia),FD,Qx];show some (Kq (a++y::x::b) (a.length+1),XH ps (a++y::x::b)+exM ps (a++y::x::b) (a.length+1))=_;rw[Zgx,F7 h b a,Ad (x:=y) (y:=x) (by simp) (by rw[WK,Qr (by lia)];simp)];rfl
def Zkn(l:ZX):(∀k j,j<k->k<l.length->l.getD j 0=l.getD k 0->l.getD (k-1) 0=l.getD k 0)->l.Pairwise λa b=>(XN l).idxOf a<=(XN l).idxOf b:=by
 refine TN (P:=λl=>(∀k j,j<k->k<l.length->l.getD j 0=l.getD k 0->l.getD (k-1) 0=l.getD k 0)->l.Pairwise λa b=>(XN l).idxOf a<=(XN l).idxOf b) (λ_=>.nil) (λr h n c=>?_) l
 have g:∀i,i<r.length->(r++[h]).getD i 0=r.getD i 0:=λi v=>by
  rw[WK,Qv v,WK]
 have x:(r++[h]).getD r.length 0=h:=by simp
 have n:=n λk j o y e=>by
  have:=c k j o (by rw[WT];lia)
  rw[g j (by lia),g k y,g (k-1) (by lia)]at this;exact this e
 have u:=SB r;rw[SL];by_cases q:h∈XN r
 ·rw[WQ q];refine QY.mpr ⟨n,Vi _ _,λa f b w=>?_⟩;rw[WR.mp w];obtain⟨j,o,A⟩:=V7 ((u.2 h).mp q);have p:=c r.length j o (by simp) (by rw[g j o,x,WK,WI o];exact A);rw[g _ (by lia),x,WK,WI (by lia)]at p;have p:r[r.length-1]'(by lia)=h:=p;obtain⟨i,v,ei⟩:=V7 f;by_cases z:i=r.length-1
  ·subst z;rw[←ei,p];exact WS _
  ·have:=Q7.mp n i (r.length-1) v (by lia) (by lia)
   rw[ei,p]at this;exact this
 ·rw[WN q];have s:∀a∈r,(XN r++[h]).idxOf a=(XN r).idxOf a:=λa f=>by rw[List.idxOf_append,WQ ((u.2 a).mpr f)]
  refine QY.mpr ⟨(JK.mp n).imp λ{a b} z=>by rw[s a z.1,s b z.2.1];exact z.2.2,Vi _ _,λa f b w=>?_⟩;rw[WR.mp w,s a f,List.idxOf_append,WN q]
  have:=List.idxOf_lt_length_of_mem ((u.2 a).mpr f)
  lia
def DC{F W:ZW}{r:ZX}{v:Int}(w:Field F)(E:P9 W (pcc F) (X8 F) v)(x:r.Perm (X0 1 F.length))(y:Tt (Kd F r) W):v<=XH F r:=by
 have G:(Kd F r).map (·.1)=r.map (hdN F):=by
  unfold Kd;rw[Qt];rfl
 have f:=SB ((Kd F r).map (·.1));have s:(Kd F r).Perm F:=Zgr x
 have l:(XN ((Kd F r).map (·.1))).Perm (X8 F):=(Vk f.1 ((TK F).imp λh=>Ji h)).mpr λz=>by
  rw[f.2,Bi w];exact(s.map (·.1)).mem_iff
 have B:Keeps W (XN ((Kd F r).map (·.1))):=Q7.mpr λi j A g p z=>by
  have:=y.2 _ z
  rw[Dv f.1,WL (Qc g),WL (Qc A),f.1.idxOf_getElem i A,f.1.idxOf_getElem j g,WL p]at this;cases this
 have u:=Zkn ((Kd F r).map (·.1)) λk j g n e=>by
  have C:∀i,((Kd F r).map (·.1)).getD i 0=hAt (Kd F r) i:=λi=>by
   unfold hAt;rw[WK,WV,WK];cases (Kd F r)[i]?<;>rfl
  rw[C,C]at e ⊢;exact y.1 k j g (by rwa[WH]at n) e
 generalize XN ((Kd F r).map (·.1))=o at l B u;rw[G,QJ]at u;obtain⟨H,hw⟩:=Zj8 _ r x (Int.toNat_of_nonneg<|Zci F.length r).symm;have M:=Zjs (o:=o) w (u.imp λ{a b} h=>by unfold rkN;exact Int.ofNat_le.mpr h) hw;have L:=E.le o l B;have J:oc (pcc F) o=Tg F o F.length:=LO w l;lia
def Zq5{ps u:ZW}{o r:ZX}(Q:Field ps)(B:o.Perm (X8 ps))(M:Keeps u o)(U:r.Perm (X0 1 ps.length))(T:r.Pairwise (F0 ps o)):Tt (Kd ps r) u:=by
 have J:o.Nodup:=B.nodup_iff.mpr ((TK ps).imp (λh=>Ji h));have A:∀q∈ps,q.1∈o:=λq hq=>B.mem_iff.mpr ((Bi Q).mpr (Qf.mpr ⟨q,hq,rfl⟩))
 have f:∀q∈Kd ps r,q.1∈o:=λq hq=>by
  obtain⟨z,n,rfl⟩:=Qf.mp hq;have l:=run_mem.mp (U.mem_iff.mp n);exact A _ (Sf l.1 l.2)
 have v:(Kd ps r).Pairwise λp q=>o.idxOf p.1<=o.idxOf q.1:=by
  unfold Kd;rw[QJ];refine T.imp λ{x y} h=>?_;unfold F0 rkN at h
  have Y:((o.idxOf (hdN ps x):Nat):Int)<=((o.idxOf (hdN ps y):Nat):Int):=by
   rcases h with h|h
   ·lia
   ·lia
  exact Int.ofNat_le.mp Y
 refine⟨λk j N g e=>?_,λq hq=>?_⟩
 ·rw[Pk (by lia),Pk g]at e;rw[Pk (by lia),Pk g];rcases Nat.lt_or_eq_of_le (Nat.le_sub_one_of_lt N)with c|c
  ·have a1:=Q7.mp v j (k-1) (by lia) (by lia) c;have a2:=Q7.mp v (k-1) k (by lia) g (by lia);rw[e]at a1;exact Ir (f _<|Qc _) (f _<|Qc _) (by lia)
  ·subst c;exact e
 ·have E:=Zsx (o:=o) ((Kd ps r).map (·.1)) (λz n=>by obtain⟨q,hq,rfl⟩:=Qf.mp n;exact f q hq) (QJ.mpr v);have C:=SB ((Kd ps r).map (·.1));generalize XN ((Kd ps r).map (·.1))=L at E C
  have s:∀z∈L,z∈o:=λz n=>by
   obtain⟨q,hq,rfl⟩:=Qf.mp ((C.2 z).mp n);exact f q hq
  have w:Keeps u L:=(JK.mp E).imp λ{a b} h=>Rq M (s b h.2.1) ((HX J<|s a h.1).mpr h.2.2);unfold Aw;by_cases H:q.1∈L
  ·by_cases G:q.2∈L.take (L.idxOf q.1)
   ·exact absurd hq (Rq w H G)
   ·simp[G]
  ·simp[H]
def Zgn{F W:ZW}{o ns:ZX}{v:Int}(g:Field F)(f:N2 W (pcc F) (X8 F) o)(n:P9 W (pcc F) (X8 F) v)(h:ns.Perm (X0 1 F.length))(hx:ns.Pairwise (F0 F o))(u:XH F ns<=Tg F o F.length):XH F ns=v/\Tt (Kd F ns) W:=by
 have l:=Zq5 g f.perm f.keeps h hx;have x:=DC g n h l;have w:oc (pcc F) o=Tg F o F.length:=LO g f.perm;obtain⟨p,r,p2,s⟩:=n.is
 have:=f.le p r p2
 exact⟨by lia,l⟩
end M
namespace Pu
open L2 Own
mutual
noncomputable def py:D->PyData
 | .int i=>.int i
 | .bl b=>.bool b
 | .str x=>.str x
 | .tup f=>.tuple (pys f)
 | .lst f=>.list (pys f)
 | .fL g=>.list (g.map .int)
 |_=>.none
noncomputable def pys:List D->List PyData
 |[]=>[]
 |d::r=>py d::pys r
end
end Pu
namespace T
open L2
noncomputable def top(i:Nat):Stmt:=PySem.Challenge.pw_stripmeld_k44_whole_all_stands.main.body.getD i (.Pass ⟨0,0,0,0⟩)
noncomputable abbrev Ea:Stmt:=top 24
def Zuq:Xz ["holder"] ["holder"] (Xy Ea):=Pu.fs
noncomputable abbrev Cs:Stmt:=top 25
def Zhb:Xz ["width"] ["width"] (Xy Cs):=Pu.fs
noncomputable abbrev Dx:Stmt:=top 26
def Zso:Xz ["strips","holder","width"] ["strips"] (Xy Dx):=Pu.fs
noncomputable abbrev Cz:Stmt:=top 27
def Zcx:Xz ["strips"] ["strips"] (Xy Cz):=Pu.fs
noncomputable abbrev Dm:Stmt:=top 28
def Zuw:Xz ["strips","index"] ["strips","index"] (Xy Dm):=Pu.fs
noncomputable abbrev GS:Stmt:=top 29
def Zgp:Xz ["strips","runs"] ["strips"] (Xy GS):=Pu.fs
noncomputable abbrev Ej:Stmt:=top 30
def Zhu:Xz ["strips","order"] ["strips","order"] (Xy Ej):=Pu.fs
noncomputable abbrev Hd:Stmt:=top 32
def Zoo:Xz ["strips","ahead","behind","to_pass","cost","holder","width"] ["strips","ahead","behind"] (Xy Hd):=Pu.fs
noncomputable abbrev DE:Stmt:=top 34
def Zrc:Xz ["strips"] ["strips"] (Xy DE):=Pu.fs
noncomputable abbrev EU:Stmt:=top 35
def Zsm:Xz ["strips","numbers","place","left","right"] ["strips","numbers","place"] (Xy EU):=Pu.fs
noncomputable abbrev E2:Stmt:=top 36
def Zia:Xz ["numbers","place"] ["numbers","place"] (Xy E2):=Pu.fs
noncomputable abbrev EF:Stmt:=top 37
def Zrf:Xz ["numbers","ranks","place"] ["numbers","ranks"] (Xy EF):=Pu.fs
noncomputable abbrev Cq:Stmt:=top 38
def Znw:Xz ["strips","order","ranks","numbers","moves","place"] ["strips","order"] (Xy Cq):=Pu.fs
noncomputable abbrev CQ:Stmt:=top 39
def Zou:Xz ["strips","place"] ["strips","place"] (Xy CQ):=Pu.fs
noncomputable abbrev GN:Stmt:=top 42
def Ox:Xz ["order","wishes","index_of","index","holder","between"] ["order","wishes"] (Xy GN):=Pu.fs
noncomputable abbrev GE:Stmt:=top 43
def Zbi:Xz ["paths","left","wishes","longer","reached","path","holder"] ["paths","left","wishes"] (Xy GE):=Pu.fs
noncomputable abbrev Ey:Stmt:=top 44
def Ztx:Xz ["least","holders","wishes","paths","left","rings","reached"] ["least","holders","wishes"] (Xy Ey):=Pu.fs
noncomputable abbrev Dw:Stmt:=top 45
def Zsw:Xz ["holders","wishes","ring","least","found"] ["holders","wishes"] (Xy Dw):=Pu.fs
noncomputable abbrev E5:Stmt:=top 46
def Zjq:Xz ["strips","wishes","ring"] ["strips","wishes"] (Xy E5):=Pu.fs
noncomputable abbrev EG:Stmt:=top 48
def Ztc:Xz ["strips","place"] ["strips","place"] (Xy EG):=Pu.fs
noncomputable abbrev Ct:Stmt:=top 49
def Ztn:Xz ["strips","place","holder","strip"] ["strips","place","holder"] (Xy Ct):=Pu.fs
noncomputable abbrev EO:Stmt:=top 50
def Zc4:Xz ["strips","place","width","strip"] ["strips","place","width"] (Xy EO):=Pu.fs
noncomputable abbrev Dn:Stmt:=top 51
def Zsi:Xz ["strips","place","left","right"] ["strips","place"] (Xy Dn):=Pu.fs
noncomputable abbrev CK:Stmt:=top 52
def Ze1:Xz ["wishes","ahead","behind"] ["wishes","ahead","behind"] (Xy CK):=Pu.fs
noncomputable abbrev Gb:Stmt:=top 53
def Zis:Xz ["wishes","ahead","behind"] ["wishes","ahead","behind"] (Xy Gb):=Pu.fs
noncomputable abbrev Dh:Stmt:=top 55
def Mg:Xz ["strips","holders","costs","ahead","behind"] ["strips"] (Xy Dh):=Pu.fs
noncomputable abbrev D8:Stmt:=top 56
def Zm4:Xz ["holders","sets","holder"] ["holders"] (Xy D8):=Pu.fs
noncomputable abbrev G2:Stmt:=top 57
def Zjn:Xz ["members","holder"] ["members","holder"] (Xy G2):=Pu.fs
noncomputable abbrev Eh:Stmt:=top 58
def Zjv:Xz ["members","holder","wishes"] ["members","holder","wishes"] (Xy Eh):=Pu.fs
noncomputable abbrev GO:Stmt:=top 59
def Zgk:Xz ["members","holder","wishes"] ["members","holder","wishes"] (Xy GO):=Pu.fs
noncomputable abbrev Gg:Stmt:=top 60
def Zll:Xz ["members","last","least","pairs","others"] ["members","last","least","pairs"] (Xy Gg):=Pu.fs
noncomputable abbrev Cr:Stmt:=top 61
def Zrr:Xz ["members","first","least","pairs","others"] ["members","first","least","pairs"] (Xy Cr):=Pu.fs
noncomputable abbrev Eg:Stmt:=top 62
def ML:Xz ["strips","wishes","pairs","least","members","lasts"] ["strips","wishes","pairs"] (Xy Eg):=Pu.fs
noncomputable abbrev EJ:Stmt:=top 63
def Zkm:Xz ["strips","wishes","least"] ["strips","wishes"] (Xy EJ):=Pu.fs
noncomputable abbrev Dt:Stmt:=top 64
def Zb5:Xz ["strips","wishes","pairs","least","members","order","firsts","best"] ["strips","wishes"] (Xy Dt):=Pu.fs
noncomputable abbrev GP:Stmt:=top 65
def Zow:Xz ["strips","wishes"] ["strips","wishes"] (Xy GP):=Pu.fs
noncomputable abbrev Cv:Stmt:=inClass (top 68) 0
def Zdo:Xz ["self","strips"] ["self","strips"] (Xy Cv):=Pu.fs
noncomputable abbrev Gn:Stmt:=inClass (top 68) 1
def Zpo:Xz ["self"] ["self"] (Xy Gn):=Pu.fs
noncomputable abbrev EL:Stmt:=inClass (top 68) 2
def Zqs:Xz ["self"] ["self"] (Xy EL):=Pu.fs
noncomputable abbrev Dp:Stmt:=inClass (top 68) 4
def Zi2:Xz ["self"] ["self"] (Xy Dp):=Pu.fs
noncomputable abbrev E1:Stmt:=inClass (top 68) 5
def Zmk:Xz ["self","deed","field","wishes"] ["self","deed","field","wishes"] (Xy E1):=Pu.fs
noncomputable abbrev GB:Stmt:=inClass (top 68) 6
def Zdy:Xz ["self","place","holder","field"] ["self","place","holder"] (Xy GB):=Pu.fs
noncomputable abbrev Cd:Stmt:=inClass (top 68) 7
def Zeq:Xz ["self","place","width","field"] ["self","place","width"] (Xy Cd):=Pu.fs
noncomputable abbrev Dk:Stmt:=inClass (top 68) 8
def Zd8:Xz ["self","place","field"] ["self","place"] (Xy Dk):=Pu.fs
noncomputable abbrev Ef:Stmt:=inClass (top 68) 9
def Zc3:Xz ["self","ahead","behind","wishes"] ["self","ahead","behind"] (Xy Ef):=Pu.fs
noncomputable abbrev CD:Stmt:=inClass (top 68) 10
def Zqc:Xz ["self","ahead","behind","wishes"] ["self","ahead","behind"] (Xy CD):=Pu.fs
noncomputable abbrev CC:Stmt:=inClass (top 68) 11
def Zie:Xz ["self"] ["self"] (Xy CC):=Pu.fs
noncomputable abbrev Cg:Stmt:=inClass (top 68) 14
def Zji:Xz ["self"] ["self"] (Xy Cg):=Pu.fs
noncomputable abbrev GD:Stmt:=inClass (top 68) 15
def Zpi:Xz ["self"] ["self"] (Xy GD):=Pu.fs
noncomputable abbrev Eu:Stmt:=inClass (top 68) 17
def Zrz:Xz ["self"] ["self"] (Xy Eu):=Pu.fs
noncomputable abbrev D9:Stmt:=top 71
def Zp3:Xz ["strips"] ["strips"] (Xy D9):=Pu.fs
noncomputable abbrev Cf:Stmt:=top 72
def Zre:Xz ["strips","stand","number","passed"] ["strips","stand","number"] (Xy Cf):=Pu.fs
noncomputable abbrev Gw:Stmt:=top 73
def Zr1:Xz ["strips","stands","longer","stand","cost","number"] ["strips","stands"] (Xy Gw):=Pu.fs
noncomputable abbrev DY:Stmt:=top 74
def Zh8:Xz ["strips","stands","length"] ["strips"] (Xy DY):=Pu.fs
noncomputable abbrev GX:Stmt:=top 75
def Zqm:Xz ["field","order","holder","width"] ["field"] (Xy GX):=Pu.fs
noncomputable abbrev Cu:Stmt:=top 76
def Zeb:Xz ["field","wishes"] ["field","wishes"] (Xy Cu):=Pu.fs
noncomputable abbrev Gm:Stmt:=top 77
def Zdg:Xz ["strips","stand"] ["strips","stand"] (Xy Gm):=Pu.fs
noncomputable abbrev He:Stmt:=top 78
def Zuz:Xz ["strips","wishes","stands"] ["strips","wishes"] (Xy He):=Pu.fs
noncomputable abbrev Da:Stmt:=top 80
def Zrk:Xz ["_law_script","_law_k"] ["_law_script","_law_k"] (Xy Da):=Pu.fs
noncomputable abbrev D4:Stmt:=top 81
def Zrt:Xz ["_law_found"] ["_law_found"] (Xy D4):=Pu.fs
noncomputable abbrev Ca:Stmt:=top 82
def Zra:Xz ["_law_cell","_law_place_here","_law_first"] ["_law_cell","_law_place_here"] (Xy Ca):=Pu.fs
noncomputable abbrev Hh:Stmt:=top 83
def Zjw:Xz ["_law_script","_law_k"] ["_law_script","_law_k"] (Xy Hh):=Pu.fs
noncomputable abbrev Hg:Stmt:=top 84
def Zig:Xz ["_law_cell","_law_wide","_law_least"] ["_law_cell"] (Xy Hg):=Pu.fs
noncomputable abbrev GT:Stmt:=top 85
def Zqa:Xz ["_law_menu_here","_law_k"] ["_law_menu_here","_law_k"] (Xy GT):=Pu.fs
noncomputable abbrev Gz:Stmt:=top 86
def Zff:Xz ["_law_found","_law_due","_law_k"] ["_law_found","_law_due"] (Xy Gz):=Pu.fs
noncomputable abbrev Es:Stmt:=top 87
def Ze0:Xz ["_law_strips","_law_owners"] ["_law_strips"] (Xy Es):=Pu.fs
noncomputable abbrev DK:Stmt:=top 88
def Zh2:Xz ["_law_strips","_law_k","_law_j"] ["_law_strips"] (Xy DK):=Pu.fs
noncomputable abbrev EV:Stmt:=top 89
def Zpe:Xz ["_law_order","_law_wishes","_law_one","_law_two"] ["_law_order","_law_wishes"] (Xy EV):=Pu.fs
noncomputable abbrev CH:Stmt:=top 90
def Zu5:Xz ["_law_holders","_law_wishes","_law_left","_law_turn","_law_inside","_law_behind"] ["_law_holders","_law_wishes"] (Xy CH):=Pu.fs
noncomputable abbrev Et:Stmt:=top 91
def Zjk:Xz ["_law_village","_law_past","_law_pair_here"] ["_law_village","_law_past"] (Xy Et):=Pu.fs
noncomputable abbrev DT:Stmt:=top 92
def Zrl:Xz ["_law_stand","_law_k"] ["_law_stand","_law_k"] (Xy DT):=Pu.fs
noncomputable abbrev Cm:Stmt:=top 93
def Zh5:Xz ["_law_found","_law_many","_law_number"] ["_law_found","_law_many"] (Xy Cm):=Pu.fs
noncomputable abbrev G4:Stmt:=top 94
def Mb:Xz ["_law_told","_law_many","_law_count","_law_k","_law_prices_here"] ["_law_told","_law_many"] (Xy G4):=Pu.fs
noncomputable abbrev Ep:Stmt:=top 95
def Zpr:Xz ["_law_prices_here","_law_strips","_law_own","_law_stand","_law_price","_law_met","_law_k","_law_step_here","_law_other"] ["_law_prices_here","_law_strips"] (Xy Ep):=Pu.fs
noncomputable abbrev Gd:Stmt:=top 96
def Zls:Xz ["_law_stand","_law_strips","_law_wishes","_law_field","_law_order","_law_strip"] ["_law_stand","_law_strips","_law_wishes"] (Xy Gd):=Pu.fs
noncomputable abbrev En:Stmt:=top 97
def Zfw:Xz ["_law_strips","_law_deed_here","_law_place_here","_law_holder_here","_law_width_here","_law_parts"] ["_law_strips","_law_deed_here"] (Xy En):=Pu.fs
noncomputable abbrev E9:Stmt:=top 98
def Zn6:Xz ["_law_wishes","_law_deed_here","_law_pair_here"] ["_law_wishes","_law_deed_here"] (Xy E9):=Pu.fs
noncomputable abbrev G9:Stmt:=top 99
def Zq8:Xz ["_law_now","_law_deed_here","_law_step_here"] ["_law_now","_law_deed_here"] (Xy G9):=Pu.fs
noncomputable abbrev Ed:Stmt:=top 100
def Zo8:Xz ["_law_village","_law_deed_here"] ["_law_village","_law_deed_here"] (Xy Ed):=Pu.fs
noncomputable abbrev GG:Stmt:=top 101
def R7:Xz ["_law_village","_law_past","_law_deed_here","_law_step_here","_law_found"] ["_law_village","_law_past","_law_deed_here"] (Xy GG):=Pu.fs
noncomputable abbrev GF:Stmt:=top 102
def Zoj:Xz ["_law_script","_law_menu_here","_law_many","_law_rest","_law_strips","_law_k","_law_cell","_law_width_here"] ["_law_script","_law_menu_here","_law_many"] (Xy GF):=Pu.fs
noncomputable abbrev E6:Stmt:=top 103
def Zid:Xz ["_law_script","_law_most"] ["_law_script","_law_most"] (Xy E6):=Pu.fs
noncomputable abbrev Gq:Stmt:=top 104
def Znk:Xz ["_law_cell","_law_good"] ["_law_cell","_law_good"] (Xy Gq):=Pu.fs
noncomputable abbrev Ew:Stmt:=top 105
def Zs5:Xz ["_law_cell","_law_strips"] ["_law_cell","_law_strips"] (Xy Ew):=Pu.fs
noncomputable abbrev GZ:Stmt:=top 106
def Zpl:Xz ["_law_cell","_law_menu_here","_law_pool","_law_one","_law_two","_law_ahead"] ["_law_cell","_law_menu_here"] (Xy GZ):=Pu.fs
noncomputable abbrev GH:Stmt:=top 107
def Ik:Xz ["_law_script","_law_menu_here","_law_seed","_law_many","_law_deeds","_law_k","_law_pair_here"] ["_law_script","_law_menu_here"] (Xy GH):=Pu.fs
noncomputable abbrev CY:Stmt:=top 108
def Zqh:Xz ["_law_cell","_law_strips","_law_place_here"] ["_law_cell","_law_strips","_law_place_here"] (Xy CY):=Pu.fs
noncomputable abbrev Co:Stmt:=top 109
def Zgs:Xz ["_law_cell","_law_menu_here","_law_now","_law_kind","_law_rest","_law_place_here","_law_more","_law_pair_here"] ["_law_cell","_law_menu_here","_law_now"] (Xy Co):=Pu.fs
noncomputable abbrev El:Stmt:=top 110
def Zgt:Xz ["_law_told","_law_many","_law_numbers","_law_move","_law_one"] ["_law_told","_law_many"] (Xy El):=Pu.fs
noncomputable abbrev Ng:Stmt:=top 111
def IJ:Xz ["_law_script","_law_menu_here","_law_size","_law_strips","_law_village","_law_past","_law_deed_here","_law_cell","_law_prices_here","_law_cost","_law_stand","_law_price"] ["_law_script"] (Xy Ng):=Pu.fs
structure Glob (K:ZV) (mg:ZZ):Prop where
 ZR:mg "any"=none
 ZT:mg "bool"=none
 ZH:mg "enumerate"=none
 ZS:mg "int"=none
 Zf:mg "isinstance"=none
 len:mg "len"=none
 Zg:mg "list"=none
 Z2:mg "max"=none
 ZI:mg "min"=none
 Zb:mg "range"=none
 ZU:mg "set"=none
 Zh:mg "sorted"=none
 ZJ:mg "sum"=none
 Zi:mg "tuple"=none
 Zx:∃u,mg "HOLDERS"=some u/\RelV (.int 10) u
 Zl:∃u,mg "STRIPS"=some u/\RelV (.int 40) u
 Zm:∃u,mg "WIDEST"=some u/\RelV (.int 1000) u
 Zn:∃u,mg "MOST_WISHES"=some u/\RelV (.int 20) u
 Zo:∃u,mg "MOST_DEEDS"=some u/\RelV (.int 100) u
 Z7:∃u,mg "SMALL"=some u/\RelV (.int 7) u
 Zj:mg "TooManyStrips"=some (.ref<|ExcR.X9 mg "TooManyStrips")
 Zk:ExcR.KU K (ExcR.X9 mg "TooManyStrips")
 Z5:mg "BadHolder"=some (.ref<|ExcR.X9 mg "BadHolder")
 Z6:ExcR.KU K (ExcR.X9 mg "BadHolder")
 Z8:mg "BadWidth"=some (.ref<|ExcR.X9 mg "BadWidth")
 Z9:ExcR.KU K (ExcR.X9 mg "BadWidth")
 Zp:mg "NoStrip"=some (.ref<|ExcR.X9 mg "NoStrip")
 Zq:ExcR.KU K (ExcR.X9 mg "NoStrip")
 ZA:mg "BadOrder"=some (.ref<|ExcR.X9 mg "BadOrder")
 ZC:ExcR.KU K (ExcR.X9 mg "BadOrder")
 Zr:mg "TooManyStands"=some (.ref<|ExcR.X9 mg "TooManyStands")
 Zs:ExcR.KU K (ExcR.X9 mg "TooManyStands")
 ZD:mg "OwnStrip"=some (.ref<|ExcR.X9 mg "OwnStrip")
 ZE:ExcR.KU K (ExcR.X9 mg "OwnStrip")
 ZK:mg "BadPart"=some (.ref<|ExcR.X9 mg "BadPart")
 ZL:ExcR.KU K (ExcR.X9 mg "BadPart")
 Zt:mg "UnlikeHolders"=some (.ref<|ExcR.X9 mg "UnlikeHolders")
 Zu:ExcR.KU K (ExcR.X9 mg "UnlikeHolders")
 ZM:mg "TooWide"=some (.ref<|ExcR.X9 mg "TooWide")
 ZN:ExcR.KU K (ExcR.X9 mg "TooWide")
 Zy:mg "LikeHolders"=some (.ref<|ExcR.X9 mg "LikeHolders")
 Zz:ExcR.KU K (ExcR.X9 mg "LikeHolders")
 Z3:mg "WishStands"=some (.ref<|ExcR.X9 mg "WishStands")
 Z4:ExcR.KU K (ExcR.X9 mg "WishStands")
 Zv:mg "TooManyWishes"=some (.ref<|ExcR.X9 mg "TooManyWishes")
 Zw:ExcR.KU K (ExcR.X9 mg "TooManyWishes")
 ZP:mg "NoWish"=some (.ref<|ExcR.X9 mg "NoWish")
 ZQ:ExcR.KU K (ExcR.X9 mg "NoWish")
 ZF:mg "BookFull"=some (.ref<|ExcR.X9 mg "BookFull")
 ZG:ExcR.KU K (ExcR.X9 mg "BookFull")
 Z0:mg "NothingDone"=some (.ref<|ExcR.X9 mg "NothingDone")
 Z1:ExcR.KU K (ExcR.X9 mg "NothingDone")
 ZO:mg "Village"=some (.ref<|ExcR.X9 mg "Village")
 Za:Cls K (ExcR.X9 mg "Village")
 Zc:NoAttr K (ExcR.X9 mg "Village") "book"
 Zd:NoAttr K (ExcR.X9 mg "Village") "fields"
 Ze:NoAttr K (ExcR.X9 mg "Village") "wished"
def Fb:Pu.FldAt "book" ["book","fields","wished"] 0:=.of (by decide +kernel) (by decide +kernel) rfl
def Zsq:Pu.PutAt "book" []:=.of (by decide +kernel)
def GY:Pu.FldAt "fields" ["book","fields","wished"] 1:=.of (by decide +kernel) (by decide +kernel) rfl
def Zp4:Pu.PutAt "fields" ["book"]:=.of (by decide +kernel)
def E7:Pu.FldAt "wished" ["book","fields","wished"] 2:=.of (by decide +kernel) (by decide +kernel) rfl
def Ze4:Pu.PutAt "wished" ["book","fields"]:=.of (by decide +kernel)
def NQ:Pu.NoFld "strips" ["book","fields","wished"]:=.of (by decide +kernel)
def S8:Pu.NoFld "wishes" ["book","fields","wished"]:=.of (by decide +kernel)
def Fm:Pu.NoFld "check_room" ["book","fields","wished"]:=.of (by decide +kernel)
def Fn:Pu.NoFld "enter" ["book","fields","wished"]:=.of (by decide +kernel)
def Zgm:Pu.NoFld "sell" ["book","fields","wished"]:=.of (by decide +kernel)
def Zp5:Pu.NoFld "part" ["book","fields","wished"]:=.of (by decide +kernel)
def Zr8:Pu.NoFld "unite" ["book","fields","wished"]:=.of (by decide +kernel)
def Zio:Pu.NoFld "wish" ["book","fields","wished"]:=.of (by decide +kernel)
def Zl6:Pu.NoFld "drop" ["book","fields","wished"]:=.of (by decide +kernel)
def Zkz:Pu.NoFld "take_back" ["book","fields","wished"]:=.of (by decide +kernel)
def Zf2:Pu.NoFld "order" ["book","fields","wished"]:=.of (by decide +kernel)
def Zsb:Pu.NoFld "cost" ["book","fields","wished"]:=.of (by decide +kernel)
def Zmg:Pu.NoFld "moves" ["book","fields","wished"]:=.of (by decide +kernel)
end T
namespace M
open L2 Own Pu
noncomputable def Zue:Pc:=λf R X=>∃h:Int,f=[.int h]/\Kv (Bc h) X (R<|.sh .non)
noncomputable def DV(h:Int):Option Str:=if 1<=h/\h<=1000 then none else some "BadWidth"
noncomputable def Zc5:Pc:=λf R X=>∃h:Int,f=[.int h]/\Kv (DV h) X (R<|.sh .non)
noncomputable def Zag(_:ZV):Sp:=λh H Q _=>∃(l:Addr) (f:ZW),h=[.ref l]/\LAt PR H l f/\Field f/\f.length<=50/\
 ∀(q:Addr) (g:Hp),H q=none->Same H g->g q=some (.lst ((X8 f).map V.int))->Q (.ref q) g
noncomputable def Hz:Pc:=λg R _=>∃f:ZW,g=[.lst (f.map prD)]/\Field f/\f.length<=50/\R (.own ((X8 f).map D.int))
def SW{P:Program}{w:World}{K:ZV}{f:ZZ}{base:Heap}(C:Callee P w K f base CX0 1 "holders_of" ["strips"] (Zag K)):Callee P w K f base CX0 1 "holders_of" ["strips"] (X3 f Hz K):=Zka C λG R X A H Q E r p x B=>by
 obtain⟨l,rfl,y,o,u⟩:=p;obtain⟨v,rfl,g⟩:=r.one_inv;obtain⟨a,rfl,s⟩:=g.pairs_inv;exact⟨a,l,rfl,s,y,o,λq z n S h=>x _ _ z u S (Zn0 n h)⟩
noncomputable def Znl:Pc:=λg R _=>∃(f:ZW) (k:Nat),g=[plD f,.int k]/\k<f.length/\R (.sh<|.bl<|P2 f k)
noncomputable def Zpc:Pc:=λg R _=>∃(f:ZW) (x y:Int),g=[.lst (f.map prD),.int x,.int y]/\Field f/\R (.sh<|.int<|pcM f x y f.length)
noncomputable def Zlh:Pc:=λg R _=>∃f:ZW,g=[.lst (f.map prD)]/\f.length<=1000/\R (.own ((X0 1 f.length).map D.int))
noncomputable def Zke:Pc:=λh R _=>∃(f:ZW) (g:ZX) (p:Int),h=[.lst (f.map prD),.lst (g.map D.int),.int p]/\Field f/\(∀n∈g,1<=n/\n<=f.length)/\1<=p/\p<g.length/\R (.sh<|.int<|exM f g p.toNat)
noncomputable def Zng:Pc:=λg R _=>∃(f:ZX) (p:Int),g=[.lst (f.map D.int),.int p]/\1<=p/\p<f.length/\f.length<=1000/\R (.own ((Kq f p.toNat).map D.int))
noncomputable def Zgc:Pc:=λh R _=>∃f g:ZX,h=[.lst (f.map D.int),.lst (g.map D.int)]/\(∀m∈f,1<=m/\m<=g.length)/\f.length<=1000/\∀p:Nat,FW (f.map λm=>g.getD (m-1).toNat 0) p->R (.sh<|.int p)
noncomputable def Zrv:Pc:=λg R X=>∃(f:ZW) (p:Int),g=[.lst (f.map prD),.int p]/\(if p<1\/(f.length:Int)<=p then X "NoStrip" else R (.sh .non))
noncomputable def Nh(os:ZX)(q:Int×Int):Bool:=decide (q.1∈os)&&decide (q.2∈os.take (os.idxOf q.1))
noncomputable def Ztt:Pc:=λg R _=>∃(os:ZX) (f:ZW),g=[.lst (os.map D.int),.lst (f.map prD)]/\os.Nodup/\os.length<=50/\f.length<=50/\R (.own ((f.filter<|Nh os).map prD))
def LW(f:ZW)(l:Int)(ps:List (ZX))(g:ZX)(n:List (ZX)):Prop:=∀q∈n,∃p∈ps,∃h∈g,q=p++[h]/\(Kj l p,h)∈f
noncomputable def Zuj:Pc:=λo R _=>∃(l:Int) (g:List (ZX)) (f:ZX) (n:ZW),o=[.lst (g.map<|em l),.lst (f.map D.int),.lst (n.map prD)]/\(∀p∈g,p.length<=100)/\f.length<=100/\
 ∀h,LW n l g f h->h.length<=f.length->R (.own<|h.map<|em l)
noncomputable def Ze5:Pc:=λg R X=>∃(f:ZW) (p:Int),g=[plD f,.int p]/\Kv (Aq f p) X (R<|.sh .non)
noncomputable def Zsh:Pc:=λg R X=>∃(f:ZW) (a b:Int),g=[plD f,.int a,.int b]/\f.length<=1000/\Kv (K6 f a b) X (R<|.own ((Nd f a b).map prD))
noncomputable def Zg8:Pc:=λg R _=>∃f:ZX,g=[.lst (f.map D.int)]/\f.length<=10/\R (.own ((XY f).map tD))
noncomputable def Zfn:Pc:=λg R _=>∃(f:ZX) (h:Int),g=[tD f,.int h]/\f.length<=1000/\R (.sh<|tD<|XG f h)
noncomputable def Zek:Pc:=λl R _=>∃(g:ZX) (h:Int) (f:ZW),l=[tD g,.int h,.lst (f.map prD)]/\f.length<=50/\R (.sh<|.bl<|Nx f g h)
noncomputable def Zrj:Pc:=λl R _=>∃(g:ZX) (h:Int) (f:ZW),l=[tD g,.int h,.lst (f.map prD)]/\f.length<=50/\R (.sh<|.bl<|firstM f g h)
noncomputable def Zoz(C:Addr):Pc:=λh R _=>∃(bk:List (Str×ZX)) (fs g:List (ZW)) (f:ZW),h=[Bm C bk (fs++[f]) g]/\R (.own<|f.map prD)
noncomputable def Zns(C:Addr):Pc:=λh R _=>∃(bk:List (Str×ZX)) (fs g:List (ZW)) (f:ZW),h=[Bm C bk fs (g++[f])]/\R (.own<|f.map prD)
noncomputable def Sa(bk:List (Str×ZX)):Option Str:=if 100<=bk.length then some "BookFull" else none
noncomputable def Ze7(C:Addr):Pc:=λg R X=>∃(bk:List (Str×ZX)) (fs f:List (ZW)),g=[Bm C bk fs f]/\Kv (Sa bk) X (R<|.sh .non)
noncomputable def Zsa(C:Addr):Pw:=λo n R _=>∃(x b1 l h:Addr) (bk:List (Str×ZX)) (fs g:List (ZW)) (q:Str×ZX) (f w:ZW),o=vO C x b1 l h bk fs g/\n=[.sh (dD q),.sh (plD f),.sh (plD w)]/\bk.length<=1000/\fs.length<=1000/\g.length<=1000/\
 R (vO C x b1 l h (bk++[q]) (fs++[f]) (g++[w])) (.int (bk.length+1))
noncomputable def Zjf(C:Addr):Pw:=λo l R X=>∃(x b1 h g:Addr) (bk:List (Str×ZX)) (fs f:List (ZW)),o=vO C x b1 h g bk fs f/\l=[]/\fs.length=bk.length+1/\f.length=bk.length+1/\
 (bk=[]->X (vO C x b1 h g bk fs f) "NothingDone")/\∀b0 q,bk=b0++[q]->R (vO C x b1 h g b0 fs.dropLast f.dropLast) (dD q)
noncomputable def Nk(ps:ZW):Option Str:=if 7<ps.length then some "TooManyStands" else none
noncomputable def Zgq:Pc:=λg R X=>∃f:ZW,g=[plD f]/\Kv (Nk f) X (R<|.sh .non)
noncomputable def Zd9:Pc:=λg R _=>∃(f:ZW) (r:ZX) (x:Int),g=[plD f,tD r,.int x]/\Field f/\f.length<=50/\1<=x/\x<=f.length/\R (.sh<|.int<|Pt f r x)
noncomputable def Zeg:Pc:=λg R _=>∃f:ZW,g=[plD f]/\f.length<=1000/\R (.own ((XN<|f.map (·.1)).map D.int))
noncomputable def Zg2:Pc:=λg R _=>∃(f:ZW) (r:ZX),g=[plD f,tD r]/\r.length<=1000/\(∀z∈r,1<=z/\z<=f.length)/\R (.own ((r.map λz=>X6 f z).map prD))
noncomputable def Zof:Pc:=λg R _=>∃(f:ZX) (k:Int),g=[.scr f,.int k]/\0<=k/\R (.sh<|.int<|f.getD k.toNat 0)
noncomputable def Zdn:Pc:=λf R _=>∃i:Int,f=[.int i]/\R (.sh<|.bl true)
noncomputable def Zoq:Pc:=λf R _=>∃c p:Int,f=[.int c,.int p]/\R (.sh<|.int<|mixP c p)
noncomputable def Zku:Pc:=λf R _=>∃c:Int,f=[.int c]/\∀m,SD m->R (.own<|m.map D.int)
noncomputable def Zhn:Pc:=λf R _=>∃(m:ZX) (k:Int),f=[.lst (m.map D.int),.int k]/\SD m/\∀h:Int,1<=h->h<=10->h=Zmz m k->R (.sh<|.int h)
noncomputable def Zkd:Pc:=λg R _=>∃f:ZW,g=[.lst (f.map prD)]/\f.length<=50/\R (.own ((X8 f).map D.int))
noncomputable def Zqi:Pc:=λg R _=>∃f:ZW,g=[plD f]/\f.length<=1000/\(Sv f->R (.sh<|.bl true))/\(¬Sv f->R (.sh<|.bl false))
noncomputable def Nn(os:ZX)(q:Int×Int):Bool:=decide (q.1∈os)&&(decide (q.2∈os)&&decide (os.idxOf q.2<os.idxOf q.1))
noncomputable def Zii:Pc:=λg R _=>∃(os:ZX) (f:ZW),g=[.lst (os.map D.int),.lst (f.map prD)]/\((∀q∈f,Nn os q=false)->R (.sh<|.bl true))/\((∃q∈f,Nn os q=true)->R (.sh<|.bl false))
noncomputable def Zdz:Pc:=λh R _=>∃(f:ZX) (g:ZW),h=[.lst (f.map D.int),.lst (g.map prD)]/\f.length<=50/\g.length<=50/\R (.sh<|.bl<|decide (Kh g f f.length=[]))
noncomputable def Zj0:Pc:=λf R _=>∃(a b:ZX) (x y:Int),f=[tD (a++x::y::b),.int a.length]/\a.length<=100/\b.length<=100/\R (.sh<|tD (a++y::x::b))
noncomputable def Zph:Pq:=λg R _=>∃(f:ZW) (x:Dd),g=[.sh (plD f),.sh (dD x.q)]/\x.land=true/\f.length<=40/\R (.own [.int (codeN<|x.err f []),plD (x.fld' f)])
noncomputable def Zfk:Pq:=λf R _=>∃(w:ZW) (x:Dd),f=[.sh (plD w),.sh (dD x.q)]/\x.land=false/\w.length<=20/\R (.own [.int (codeN<|x.err [] w),plD (x.wsh' w)])
noncomputable def Zqg:Pc:=λf R _=>∃c g:Int,f=[.int c,.int g]/\∀v:Int,R (.sh<|.int v)
noncomputable def Ztf:Pc:=λg R _=>∃(c:Int) (f:ZW),g=[.int c,plD f]/\f.length<=1000/\∀v:Int,R (.sh<|.int v)
noncomputable def Zi0:Pc:=λg R _=>∃(c:Int) (f:ZW) (p:Int),g=[.int c,plD f,.int p]/\f.length<=1000/\Field f/\∀v:Int,R (.sh<|.int v)
noncomputable def Zjg:Pc:=λl R _=>∃(f:ZW) (o:ZX) (h:List Mo),l=[.lst (h.map mvD),.int f.length]/\Field f/\f.length<=40/\Mv f (rkN f o) (X0 1 f.length) h/\h.length<=2000/\
 ∀g:ZX,g.Perm (X0 1 f.length)->FW (g.map<|rkN f o) 0->(g.Pairwise λx y=>rkN f o x=rkN f o y->x<y)->XH f g<=Tg f o f.length->R (.sh<|tD g)
noncomputable def Zo0:Pc:=λg R X=>∃f:ZW,g=[plD f]/\f.length<=1000/\Kv (Bu f) X (R<|.sh .non)
noncomputable def Zd1:Pc:=λg R _=>∃f:ZW,g=[plD f]/\Field f/\f.length<=50/\(Sv f->R (.sh<|.bl true))/\(¬Sv f->R (.sh<|.bl false))
noncomputable def Zr6:Pc:=λg R X=>∃(f:ZW) (os:ZX),g=[plD f,.lst (os.map D.int)]/\Field f/\f.length<=50/\os.length<64/\Kv (FU f os) X (R<|.sh .non)
noncomputable def Zdh:Pc:=λh R _=>∃(l:Int) (f:ZX) (g:ZW),h=[.int l,.lst (f.map D.int),.lst (g.map prD)]/\f.length<=50/\(∀t,¬SY f g l t)/\R (.sh<|.lst [])
noncomputable def Zma:Pc:=λg R X=>∃(f:ZW) (p h:Int),g=[plD f,.int p,.int h]/\f.length<=1000/\Kv (P3 f p h) X (R<|.own (Nc f p h |>.map prD))
noncomputable def Zew:Pc:=λg R X=>∃(f:ZW) (p w:Int),g=[plD f,.int p,.int w]/\f.length<=1000/\Kv (KD f p w) X (R<|.own ((PZ f p w).map prD))
noncomputable def Zpn:Pc:=λg R X=>∃(f:ZW) (p:Int),g=[plD f,.int p]/\f.length<=1000/\Kv (Kt f p) X (R<|.own ((Te f p).map prD))
noncomputable def Zje:Pc:=λg R X=>∃(f:ZW) (a b:Int),g=[plD f,.int a,.int b]/\f.length<=1000/\Kv (K5 f a b) X (R<|.own ((f++[(a,b)]).map prD))
noncomputable def Zno:Pc:=λh R _=>∃f:ZW,h=[.lst (f.map prD)]/\Field f/\f.length<=50/\
 ∀g:List (List Key×V),(∀x∈X8 f,∀y∈X8 f,XA g [.inl x,.inl y]=some (.int<|pcM f x y f.length))->R (.own<|.dT g)
noncomputable def Zg5:Pc:=λh R _=>∃(f:ZX) (l:Int) (le g:List (List Key×V)) (c:Int->Int) (v:Int),h=[tD f,.int l,.dT le,.dT g]/\f.length<=1000/\XA le (kT<|XG f l)=some (.int v)/\
 (∀m∈XG f l,XA g [.inl m,.inl l]=some (.int<|c m))/\R (.sh<|.int (v+((XG f l).map c).sum))
noncomputable def Zsp:Pc:=λh R _=>∃(f:ZX) (l:Int) (le g:List (List Key×V)) (c:Int->Int) (v:Int),h=[tD f,.int l,.dT le,.dT g]/\f.length<=1000/\XA le (kT<|XG f l)=some (.int v)/\
 (∀m∈XG f l,XA g [.inl l,.inl m]=some (.int<|c m))/\R (.sh<|.int (v+((XG f l).map c).sum))
noncomputable def FS(bk:List (Str×ZX))(w:ZW)(a b:Int):Option Str:=if 100<=bk.length then some "BookFull" else K6 w a b
noncomputable def Ztb(C:Addr):Pw:=λo r R X=>∃(x b1 n l:Addr) (bk:List (Str×ZX)) (fs g:List (ZW)) (f w:ZW) (p h:Int),o=vO C x b1 n l bk (fs++[f]) (g++[w])/\r=[.sh (.int p),.sh (.int h)]/\bk.length<=1000/\fs.length<=900/\g.length<=900/\w.length<=1000/\
 Kv (FS bk w p h) (X<|vO C x b1 n l bk (fs++[f]) (g++[w])) (R (vO C x b1 n l (bk++[(("drop" : Str),[p,h])]) (fs++[f]++[f]) (g++[w]++[Nd w p h]))<|.int (bk.length+1))
noncomputable def Zko:Pc:=λg R _=>∃(f:ZW) (S:List (ZX×Int)),g=[plD f,.lst (S.map stD)]/\Field f/\f.length<=7/\S.length<=1000000/\(∀q∈S,q.1.length<=10)/\R (.own ((S.flatMap<|T4 f).map stD))
noncomputable def Zvi:Pc:=λg R _=>∃(f:ZX) (k:Int),g=[.scr f,.int k]/\0<=k/\∀v:Int,R (.sh<|.int v)
noncomputable def Zu8:Pc:=λf R _=>∃xs:ZX,f=[.lst (xs.map D.int),.lst (xs.map D.int)]/\xs.length<=1000000/\R (.sh<|.bl true)
noncomputable def Zm5:Pc:=λf R _=>∃(q:ZX×Int) (n:Nat),f=[stD q,.int n]/\n<=7/\q.1.Perm (X0 1 n)/\R (.sh<|.bl true)
theorem Gy:∀L:List (ZX×Int),T1 (L.map P6)=true
 |[]=>rfl
 |q::L=>by
  rw[Qa];unfold T1;rw[Gy L];rfl
def IT(q:ZX×Int):itD (P6 q)=stD q:=by
 unfold itD P6 kT stD tD;rw[Qt];rfl
def D3{ps:ZW}{r:ZX}(h:r.Perm (X0 1 ps.length)):XA ((Kf ps ps.length).map P6) (kT r)=some (.int<|XH ps r):=by
 have f:=Sy ps ps.length
 have n:r∈PP (X0 1 ps.length) ps.length:=by
  have:=(Ar<|T9 ps.length).mpr h
  rwa[KM]at this
 have o:(r,Tf ps [] r)∈Kf ps ps.length:=by
  rw[f];exact Qf.mpr ⟨r,n,rfl⟩
 have l:(((Kf ps ps.length).map P6).map (·.1)).Nodup:=by
  rw[Qt,f,Qt];show((PP (X0 1 ps.length) ps.length).map kT).Nodup;rw[List.Nodup,QJ]
  exact(G5 (BB ps.length) ps.length).imp λ{a b} g e=>by
   rw[Bh e]at g;exact Cy g g
 have:=Cb l (P6 (r,Tf ps [] r)) (Qf.mpr ⟨_,o,rfl⟩)
 rw[←Bz (ps:=ps) (t:=r) (pre:=[]) (by simpa using h)];exact this
noncomputable def Znf:Pc:=λg R _=>∃(f:ZW),g=[.dF ((Kf f f.length).map P6),plD f]/\Field f/\f.length<=7/\R (.sh<|.bl true)
noncomputable def Ziv:Pc:=λh R _=>∃(f g:ZW) (r:ZX),h=[tD r,plD f,plD g]/\r.length<=100/\(∀z∈r,1<=z/\z<=f.length)/\(Tt (Kd f r) g->R (.sh<|.bl true))/\(¬Tt (Kd f r) g->R (.sh<|.bl false))
noncomputable def Zil:Pq:=λg R _=>∃(f w:ZW) (h:List D) (x:Dd),g=[.sh (.tup (plD f::plD w::h)),.sh (dD x.q)]/\f.length<=40/\w.length<=20/\R (.own [.int (codeN<|x.err f w),plD (x.nf f w),plD (x.nw f w)])
noncomputable def Zks:Pc:=λh R _=>∃(g m:ZX) (n:Int),h=[.scr g,.lst (m.map D.int),.int n]/\SD m/\0<=n/\n<=1000/\∀f:ZW,Field f->f.length=n.toNat->R (.own<|f.map prD)
noncomputable def Zhx:Pc:=λh R _=>∃(g:ZX) (n:Int),h=[.scr g,.int n]/\0<=n/\n<=1000/\∀f:ZX,(f.length:Int)<=n->R (.own<|f.map D.int)
noncomputable def Zih:Pc:=λf R _=>∃(c:Int) (m:ZX),f=[.int c,.lst (m.map D.int)]/\SD m/\∀a b:Int,R (.sh<|prD (a,b))
noncomputable def Zgf:Pc:=λh R _=>∃(f:ZW) (o:ZX),h=[plD f,.lst (o.map D.int)]/\Field f/\f.length<=40/\o.Perm (X8 f)/\∀g:List Mo,Mv f (rkN f o) (X0 1 f.length) g->R (.own<|g.map mvD)
noncomputable def Zmb:Pc:=λh R _=>∃(f:ZX) (g:ZW),h=[.lst (f.map D.int),.lst (g.map prD)]/\f.length<=50/\(∀l∈f,∀t,¬SY f g l t)/\R (.sh<|.lst [])
noncomputable def Zrs:Pc:=λn R _=>∃(f g:ZW) (l:List (List Key×V)) (c:Int->Int->Int),n=[.lst (f.map prD),.lst (g.map prD),.dT l]/\Field f/\f.length<=50/\g.length<=50/\(∀q∈g,q.1≠q.2)/\
 (∀x∈X8 f,∀y∈X8 f,XA l [.inl x,.inl y]=some (.int<|c x y))/\Rm (X8 f) g/\∀h,Tab g c (XY<|X8 f) h->R (.own<|.dT h)
noncomputable def Zi3(C:Addr):Pw:=λo g R X=>∃(x:Addr) (f:ZW),o=.ins x C [] []/\g=[.sh (plD f)]/\f.length<=1000/\Kv (Bu f) (X<|.ins x C [] []) (∀b1 l h,R (vO C x b1 l h [] [f] [[]]) .non)
noncomputable def AV(bk:List (Str×ZX))(f:ZW)(p h:Int):Option Str:=if 100<=bk.length then some "BookFull" else P3 f p h
noncomputable def Zs6(C:Addr):Pw:=λo r R X=>∃(x b1 n l:Addr) (bk:List (Str×ZX)) (fs g:List (ZW)) (f w:ZW) (p h:Int),o=vO C x b1 n l bk (fs++[f]) (g++[w])/\r=[.sh (.int p),.sh (.int h)]/\bk.length<=1000/\fs.length<=900/\g.length<=900/\f.length<=1000/\
 Kv (AV bk f p h) (X<|vO C x b1 n l bk (fs++[f]) (g++[w])) (R (vO C x b1 n l (bk++[(("sell" : Str),[p,h])]) (fs++[f]++[Nc f p h]) (g++[w]++[w]))<|.int (bk.length+1))
noncomputable def FT(bk:List (Str×ZX))(f:ZW)(p h:Int):Option Str:=if 100<=bk.length then some "BookFull" else KD f p h
noncomputable def Zi9(C:Addr):Pw:=λo r R X=>∃(x b1 n l:Addr) (bk:List (Str×ZX)) (fs g:List (ZW)) (f w:ZW) (p h:Int),o=vO C x b1 n l bk (fs++[f]) (g++[w])/\r=[.sh (.int p),.sh (.int h)]/\bk.length<=1000/\fs.length<=900/\g.length<=900/\f.length<=1000/\
 Kv (FT bk f p h) (X<|vO C x b1 n l bk (fs++[f]) (g++[w])) (R (vO C x b1 n l (bk++[(("part" : Str),[p,h])]) (fs++[f]++[PZ f p h]) (g++[w]++[w]))<|.int (bk.length+1))
noncomputable def A2(bk:List (Str×ZX))(f:ZW)(p:Int):Option Str:=if 100<=bk.length then some "BookFull" else Kt f p
noncomputable def Znh(C:Addr):Pw:=λo n R X=>∃(x b1 l h:Addr) (bk:List (Str×ZX)) (fs g:List (ZW)) (f w:ZW) (p:Int),o=vO C x b1 l h bk (fs++[f]) (g++[w])/\n=[.sh (.int p)]/\bk.length<=1000/\fs.length<=900/\g.length<=900/\f.length<=1000/\
 Kv (A2 bk f p) (X<|vO C x b1 l h bk (fs++[f]) (g++[w])) (R (vO C x b1 l h (bk++[(("unite" : Str),[p])]) (fs++[f]++[Te f p]) (g++[w]++[w]))<|.int (bk.length+1))
noncomputable def A9(bk:List (Str×ZX))(w:ZW)(a b:Int):Option Str:=if 100<=bk.length then some "BookFull" else K5 w a b
noncomputable def Zh7(C:Addr):Pw:=λo r R X=>∃(x b1 n l:Addr) (bk:List (Str×ZX)) (fs g:List (ZW)) (f w:ZW) (p h:Int),o=vO C x b1 n l bk (fs++[f]) (g++[w])/\r=[.sh (.int p),.sh (.int h)]/\bk.length<=1000/\fs.length<=900/\g.length<=900/\w.length<=1000/\
 Kv (A9 bk w p h) (X<|vO C x b1 n l bk (fs++[f]) (g++[w])) (R (vO C x b1 n l (bk++[(("wish" : Str),[p,h])]) (fs++[f]++[f]) (g++[w]++[w++[(p,h)]]))<|.int (bk.length+1))
noncomputable def Zda:Pc:=λg R X=>∃f:ZW,g=[plD f]/\Field f/\Kv (Nk f) X (R<|.own ((Kf f f.length).map stD))
noncomputable def Zdq:Pc:=λh R _=>∃f g:ZW,h=[plD f,plD g]/\Field f/\f.length<=50/\g.length<=50/\(Tt f g->R (.sh<|.bl true))/\(¬Tt f g->R (.sh<|.bl false))
noncomputable def Zea:Pc:=λg R _=>∃(f:ZW),g=[.lst ((Kf f f.length).map stD),.int f.length]/\f.length<=7/\R (.sh<|.dF ((Kf f f.length).map P6))
noncomputable def Zjj:Pc:=λh R _=>∃(g m:ZX),h=[.scr g,.lst (m.map D.int)]/\SD m/\∀f:ZW,f.length<=24->R (.own (f.map λq=>dD (Dd.wish q.1 q.2).q))
noncomputable def Zdf:Pc:=λh R _=>∃(c:Int) (m:ZX) (f w:ZW) (g:List D),h=[.int c,.lst (m.map D.int),.tup (plD f::plD w::g)]/\SD m/\f.length<=1000/\Field f/\w.length<=1000/\(∀x:Dd,R (.sh<|dD x.q))/\R (.sh<|.tup [.str "back"])
noncomputable def Zfi:Pc:=λh R _=>∃(f g:ZW),h=[.lst (f.map prD),.lst (g.map prD)]/\Field f/\f.length<=50/\(∀q∈g,q.1≠q.2)/\(¬ ∃r,Ring (X8 f) g r)/\R (.sh .non)
noncomputable def ED(bk:List (Str×ZX))(f w:ZW)(d:Dd):Option Str:=if 100<=bk.length then some "BookFull" else d.err f w
noncomputable def Zhy(C:Addr):Pw:=λo n R X=>∃(x b1 l h:Addr) (bk:List (Str×ZX)) (fs g:List (ZW)) (f w:ZW) (d:Dd),o=vO C x b1 l h bk (fs++[f]) (g++[w])/\n=[.sh (dD d.q)]/\bk.length<=1000/\fs.length<=900/\g.length<=900/\f.length<=1000/\w.length<=1000/\
 Kv (ED bk f w d) (X<|vO C x b1 l h bk (fs++[f]) (g++[w])) (R (vO C x b1 l h (bk++[d.q]) (fs++[f]++[d.fld f]) (g++[w]++[d.wsh w]))<|.int (bk.length+1))
noncomputable def Zqr:Pc:=λl R _=>∃(f g:ZW),l=[.lst (f.map prD),.lst (g.map prD)]/\Field f/\f.length<=50/\g.length<=50/\(∀q∈g,q.1≠q.2)/\(¬ ∃r,Ring (X8 f) g r)/\
 ∀h,IE g (pcc f) (XY<|X8 f) h->R (.own<|h.map D.int)
noncomputable def Zuu:Pc:=λh R _=>∃(f g:ZW),h=[.lst (f.map prD),.lst (g.map prD)]/\Field f/\f.length<=50/\g.length<=50/\(∀q∈g,q.1≠q.2)/\(¬ ∃r,Ring (X8 f) g r)/\
 ∀o,N2 g (pcc f) (X8 f) o->R (.own<|o.map D.int)
noncomputable def Zpv:Pc:=λh R X=>∃f g:ZW,h=[plD f,plD g]/\Field f/\Kv (Nk f) X (g.length<=50/\(∀q∈g,q.1≠q.2)/\(¬ ∃r,Ring (X8 f) g r)/\(∃r,r.Perm (X0 1 f.length)/\Tt (Kd f r) g)/\∀m,Zf9 f g m->R (.sh<|.int m))
noncomputable def Zkp(C:Addr):Pw2:=λo1 n l R _=>∃(x b1 h g a:Addr) (f0:ZW) (f:Ke) (q:D),o1=vO C x b1 h g (bkH f) (fsH f0 f) (wsH f)/\n=.lsA a (Kl f0 f)/\l=[.sh q]/\f.length<100/\FineH f0 f/\
 ((q=.tup [.str "back"]/\R (vO C x b1 h g (bkH f.dropLast) (fsH f0 f.dropLast)<|wsH f.dropLast) (.lsA a<|Kl f0 f.dropLast) (.bl true))\/
  ∃d:Dd,q=dD d.q/\R (vO C x b1 h g (bkH<|Ph f0 f d) (fsH f0<|Ph f0 f d)<|wsH<|Ph f0 f d) (.lsA a<|Kl f0<|Ph f0 f d) (.bl true))
noncomputable def Zny:Pc:=λh R _=>∃(f g:ZW),h=[.lst (f.map prD),.lst (g.map prD)]/\Field f/\f.length<=50/\g.length<=50/\(∀q∈g,q.1≠q.2)/\(¬ ∃r,Ring (X8 f) g r)/\
 ∀v,P9 g (pcc f) (X8 f) v->R (.sh<|.int v)
noncomputable def Zed(C:Addr):Pc:=λh R _=>∃(bk:List (Str×ZX)) (fs g:List (ZW)) (f w:ZW),h=[Bm C bk (fs++[f]) (g++[w])]/\Field f/\f.length<=50/\w.length<=50/\(∀q∈w,q.1≠q.2)/\(¬ ∃r,Ring (X8 f) w r)/\∀o,N2 w (pcc f) (X8 f) o->R (.own<|o.map D.int)
noncomputable def Zdx(C:Addr):Pw2:=λo1 o n R _=>∃(x b1 l h a:Addr) (f0:ZW) (g:Ke),o1=vO C x b1 l h (bkH g) (fsH f0 g) (wsH g)/\o=.lsA a (Kl f0 g)/\n=[]/\g.length<=60/\FineH f0 g/\
 ∀f:Ke,f.length<=g.length+20->FineH f0 f->(¬ ∃r,Ring (X8<|X7 f0 f) (XQ f) r)->X7 f0 f=X7 f0 g->R (vO C x b1 l h (bkH f) (fsH f0 f)<|wsH f) (.lsA a<|Kl f0 f) (.bl true)
noncomputable def Zib(C:Addr):Pc:=λh R _=>∃(bk:List (Str×ZX)) (fs g:List (ZW)) (f w:ZW),h=[Bm C bk (fs++[f]) (g++[w])]/\Field f/\f.length<=50/\w.length<=50/\(∀q∈w,q.1≠q.2)/\(¬ ∃r,Ring (X8 f) w r)/\∀v,P9 w (pcc f) (X8 f) v->R (.sh<|.int v)
noncomputable def Zne(C:Addr):Pc:=λl R _=>∃(bk:List (Str×ZX)) (fs h:List (ZW)) (f w:ZW),l=[Bm C bk (fs++[f]) (h++[w])]/\Field f/\f.length<=40/\w.length<=50/\(∀q∈w,q.1≠q.2)/\(¬ ∃r,Ring (X8 f) w r)/\∀o g,N2 w (pcc f) (X8 f) o->Mv f (rkN f o) (X0 1 f.length) g->R (.own<|g.map mvD)
structure Fv (P:Program) (w:World) (K:ZV) (mg:ZZ) (base:Heap):Type
variable {P:Program}{w:World}{K:ZV}{mg:ZZ}{base:Heap}
abbrev Cal(_:Fv P w K mg base):=Callee P w K mg base
abbrev Cam(_:Fv P w K mg base):=Tv P w K mg base
abbrev Cxe(_:Fv P w K mg base):=ExcR.CXe P w
abbrev XM(_:Fv P w K mg base):=ExcR.X9 mg "Village"
variable (ζ:Fv P w K mg base)
abbrev Oa:Prop:=Cal ζ (Cxe ζ) 1 "check_holder" ["holder"] (X3 mg Zue K)
abbrev MJ:Prop:=Cal ζ (Cxe ζ) 1 "check_width" ["width"] (X3 mg Zc5 K)
abbrev Zu0:Prop:=Cal ζ CX0 1 "holders_of" ["strips"] (X3 mg Hz K)
abbrev OI:Prop:=Cal ζ CX0 1 "begins_run" ["strips","index"] (X3 mg Znl K)
abbrev Rj:Prop:=Cal ζ CX0 1 "pair_cost" ["strips","ahead","behind"] (X3 mg Zpc K)
abbrev Iv:Prop:=Cal ζ CX0 1 "own_numbers" ["strips"] (X3 mg Zlh K)
abbrev Mq:Prop:=Cal ζ CX0 1 "exchange_cost" ["strips","numbers","place"] (X3 mg Zke K)
abbrev ID:Prop:=Cal ζ CX0 1 "exchanged" ["numbers","place"] (X3 mg Zng K)
abbrev Za3:Prop:=Cal ζ CX0 1 "first_wrong_place" ["numbers","ranks"] (X3 mg Zgc K)
abbrev HG:Prop:=Cal ζ (Cxe ζ) 1 "check_neighbours" ["strips","place"] (X3 mg Zrv K)
abbrev MA:Prop:=Cal ζ CX0 1 "broken_wishes" ["order","wishes"] (X3 mg Ztt K)
abbrev Zap:Prop:=Cal ζ CX0 1 "longer_paths" ["paths","left","wishes"] (X3 mg Zuj K)
abbrev Za5:Prop:=Cal ζ (Cxe ζ) 1 "check_place" ["strips","place"] (X3 mg Ze5 K)
abbrev MP:Prop:=Cal ζ (Cxe ζ) 1 "without_wish" ["wishes","ahead","behind"] (X3 mg Zsh K)
abbrev L7:Prop:=Cal ζ CX0 1 "sets_of" ["holders"] (X3 mg Zg8 K)
abbrev Zbs:Prop:=Cal ζ CX0 1 "without" ["members","holder"] (X3 mg Zfn K)
abbrev MH:Prop:=Cal ζ CX0 1 "may_lie_last" ["members","holder","wishes"] (X3 mg Zek K)
abbrev LM:Prop:=Cal ζ CX0 1 "may_lie_first" ["members","holder","wishes"] (X3 mg Zrj K)
abbrev Zb0:Prop:=Cam ζ CX0 1 (Kc K (XM ζ) "strips") ["self"] (X3 mg (Zoz<|XM ζ) K)
abbrev Zbp:Prop:=Cam ζ CX0 1 (Kc K (XM ζ) "wishes") ["self"] (X3 mg (Zns<|XM ζ) K)
abbrev Ob:Prop:=Cam ζ (Cxe ζ) 1 (Kc K (XM ζ) "check_room") ["self"] (X3 mg (Ze7<|XM ζ) K)
abbrev Zar:Prop:=Cam ζ CX0 1 (Kc K (XM ζ) "enter") ["self","deed","field","wishes"] (Pu.spW mg (Zsa<|XM ζ) K)
abbrev O0:Prop:=Cam ζ (Cxe ζ) 1 (Kc K (XM ζ) "take_back") ["self"] (Pu.spW mg (Zjf<|XM ζ) K)
abbrev RH:Prop:=Cal ζ (Cxe ζ) 1 "check_small" ["strips"] (X3 mg Zgq K)
abbrev LK:Prop:=Cal ζ CX0 1 "cost_to_come_next" ["strips","stand","number"] (X3 mg Zd9 K)
abbrev MQ:Prop:=Cal ζ CX0 1 "holders_from_left" ["field"] (X3 mg Zeg K)
abbrev Zct:Prop:=Cal ζ CX0 1 "field_of_stand" ["strips","stand"] (X3 mg Zg2 K)
abbrev Oq:Prop:=Cal ζ CX0 1 "_law_at" ["_law_script","_law_k"] (X3 mg Zof K)
abbrev Za4:Prop:=Cal ζ CX0 1 "_law_whole" ["_law_found"] (X3 mg Zdn K)
abbrev OW:Prop:=Cal ζ CX0 1 "_law_mix" ["_law_cell","_law_place_here"] (X3 mg Zoq K)
abbrev Hl:Prop:=Cal ζ CX0 1 "_law_menu" ["_law_cell"] (X3 mg Zku K)
abbrev Ov:Prop:=Cal ζ CX0 1 "_law_holder" ["_law_menu_here","_law_k"] (X3 mg Zhn K)
abbrev LP:Prop:=Cal ζ CX0 1 "_law_present" ["_law_strips"] (X3 mg Zkd K)
abbrev Zb9:Prop:=Cal ζ CX0 1 "_law_together" ["_law_strips"] (X3 mg Zqi K)
abbrev Hs:Prop:=Cal ζ CX0 1 "_law_kept" ["_law_order","_law_wishes"] (X3 mg Zii K)
abbrev Rt:Prop:=Cal ζ CX0 1 "_law_no_ring" ["_law_holders","_law_wishes"] (X3 mg Zdz K)
abbrev OU:Prop:=Cal ζ CX0 1 "_law_swapped" ["_law_stand","_law_k"] (X3 mg Zj0 K)
abbrev O7:Prop:=Cal ζ CX0 1 "_law_field_step" ["_law_strips","_law_deed_here"] (Pu.spS mg Zph K)
abbrev L6:Prop:=Cal ζ CX0 1 "_law_wish_step" ["_law_wishes","_law_deed_here"] (Pu.spS mg Zfk K)
abbrev OJ:Prop:=Cal ζ CX0 1 "_law_odd" ["_law_cell","_law_good"] (X3 mg Zqg K)
abbrev Mn:Prop:=Cal ζ CX0 1 "_law_place" ["_law_cell","_law_strips"] (X3 mg Ztf K)
abbrev RS:Prop:=Cal ζ CX0 1 "_law_width" ["_law_cell","_law_strips","_law_place_here"] (X3 mg Zi0 K)
abbrev IU:Prop:=Cal ζ CX0 1 "_law_end" ["_law_told","_law_many"] (X3 mg Zjg K)
abbrev HD:Prop:=Cal ζ (Cxe ζ) 2 "check_strips" ["strips"] (X3 mg Zo0 K)
abbrev Zcn:Prop:=Cal ζ CX0 2 "lies_together" ["strips"] (X3 mg Zd1 K)
abbrev Zbr:Prop:=Cal ζ (Cxe ζ) 2 "check_order" ["strips","order"] (X3 mg Zr6 K)
abbrev MW:Prop:=Cal ζ CX0 2 "ring_from" ["least","holders","wishes"] (X3 mg Zdh K)
abbrev Ht:Prop:=Cal ζ (Cxe ζ) 2 "sold" ["strips","place","holder"] (X3 mg Zma K)
abbrev HK:Prop:=Cal ζ (Cxe ζ) 2 "parted" ["strips","place","width"] (X3 mg Zew K)
abbrev Rf:Prop:=Cal ζ (Cxe ζ) 2 "united" ["strips","place"] (X3 mg Zpn K)
abbrev Zbj:Prop:=Cal ζ (Cxe ζ) 2 "with_wish" ["wishes","ahead","behind"] (X3 mg Zje K)
abbrev Zbu:Prop:=Cal ζ CX0 2 "pair_costs" ["strips"] (X3 mg Zno K)
abbrev O5:Prop:=Cal ζ CX0 2 "cost_with_last" ["members","last","least","pairs"] (X3 mg Zg5 K)
abbrev OD:Prop:=Cal ζ CX0 2 "cost_with_first" ["members","first","least","pairs"] (X3 mg Zsp K)
abbrev Lx:Prop:=Cam ζ (Cxe ζ) 2 (Kc K (XM ζ) "drop") ["self","ahead","behind"] (Pu.spW mg (Ztb<|XM ζ) K)
abbrev OZ:Prop:=Cal ζ CX0 2 "longer_stands" ["strips","stands"] (X3 mg Zko K)
abbrev ON:Prop:=Cal ζ CX0 2 "_law_draw" ["_law_script","_law_k"] (X3 mg Zvi K)
abbrev HH:Prop:=Cal ζ CX0 2 "_law_row" ["_law_found","_law_due"] (X3 mg Zu8 K)
abbrev Zcf:Prop:=Cal ζ CX0 2 "_law_stand_is" ["_law_found","_law_many"] (X3 mg Zm5 K)
abbrev MZ:Prop:=Cal ζ CX0 2 "_law_price_list" ["_law_prices_here","_law_strips"] (X3 mg Znf K)
abbrev Ig:Prop:=Cal ζ CX0 2 "_law_stand_keeps" ["_law_stand","_law_strips","_law_wishes"] (X3 mg Ziv K)
abbrev Mz:Prop:=Cal ζ CX0 2 "_law_step" ["_law_now","_law_deed_here"] (Pu.spS mg Zil K)
abbrev Ly:Prop:=Cal ζ CX0 2 "_law_start" ["_law_script","_law_menu_here","_law_many"] (X3 mg Zks K)
abbrev LU:Prop:=Cal ζ CX0 2 "_law_days" ["_law_script","_law_most"] (X3 mg Zhx K)
abbrev Mc:Prop:=Cal ζ CX0 2 "_law_pair" ["_law_cell","_law_menu_here"] (X3 mg Zih K)
abbrev Oz:Prop:=Cal ζ CX0 3 "told_moves" ["strips","order"] (X3 mg Zgf K)
abbrev Lf:Prop:=Cal ζ CX0 3 "find_ring" ["holders","wishes"] (X3 mg Zmb K)
abbrev LI:Prop:=Cal ζ CX0 3 "least_costs" ["strips","wishes","pairs"] (X3 mg Zrs K)
abbrev Mi:Prop:=Cam ζ (Cxe ζ) 3 (Mk K<|XM ζ) ["self","strips"] (Pu.spW mg (Zi3<|XM ζ) K)
abbrev Zbk:Prop:=Cam ζ (Cxe ζ) 3 (Kc K (XM ζ) "sell") ["self","place","holder"] (Pu.spW mg (Zs6<|XM ζ) K)
abbrev Hw:Prop:=Cam ζ (Cxe ζ) 3 (Kc K (XM ζ) "part") ["self","place","width"] (Pu.spW mg (Zi9<|XM ζ) K)
abbrev II:Prop:=Cam ζ (Cxe ζ) 3 (Kc K (XM ζ) "unite") ["self","place"] (Pu.spW mg (Znh<|XM ζ) K)
abbrev Za8:Prop:=Cam ζ (Cxe ζ) 3 (Kc K (XM ζ) "wish") ["self","ahead","behind"] (Pu.spW mg (Zh7<|XM ζ) K)
abbrev Mu:Prop:=Cal ζ (Cxe ζ) 3 "all_stands" ["strips"] (X3 mg Zda K)
abbrev HJ:Prop:=Cal ζ CX0 3 "is_melded" ["field","wishes"] (X3 mg Zdq K)
abbrev Og:Prop:=Cal ζ CX0 3 "_law_prices" ["_law_told","_law_many"] (X3 mg Zea K)
abbrev OE:Prop:=Cal ζ CX0 3 "_law_opening" ["_law_script","_law_menu_here"] (X3 mg Zjj K)
abbrev Mp:Prop:=Cal ζ CX0 3 "_law_deed" ["_law_cell","_law_menu_here","_law_now"] (X3 mg Zdf K)
abbrev Ml:Prop:=Cal ζ CX0 4 "check_no_ring" ["strips","wishes"] (X3 mg Zfi K)
abbrev M6:Prop:=Cal ζ (Cxe ζ) 4 "_law_call" ["_law_village","_law_deed_here"] (Pu.spW mg (Zhy<|XM ζ) K)
abbrev M3:Prop:=Cal ζ CX0 5 "cost_table" ["strips","wishes"] (X3 mg Zqr K)
abbrev Rx:Prop:=Cal ζ CX0 5 "best_order" ["strips","wishes"] (X3 mg Zuu K)
abbrev RA:Prop:=Cal ζ (Cxe ζ) 5 "least_by_stands" ["strips","wishes"] (X3 mg Zpv K)
abbrev Zak:Prop:=Cal ζ CX0 5 "_law_go" ["_law_village","_law_past","_law_deed_here"] (NC mg (Zkp<|XM ζ) K)
abbrev Iw:Prop:=Cal ζ CX0 6 "least_cost" ["strips","wishes"] (X3 mg Zny K)
abbrev HC:Prop:=Cam ζ CX0 6 (Kc K (XM ζ) "order") ["self"] (X3 mg (Zed<|XM ζ) K)
abbrev MD:Prop:=Cal ζ CX0 6 "_law_no_rings" ["_law_village","_law_past"] (NC mg (Zdx<|XM ζ) K)
abbrev Zay:Prop:=Cam ζ CX0 7 (Kc K (XM ζ) "cost") ["self"] (X3 mg (Zib<|XM ζ) K)
abbrev LS:Prop:=Cam ζ CX0 7 (Kc K (XM ζ) "moves") ["self"] (X3 mg (Zne<|XM ζ) K)
abbrev Zix:Prop:=Cal ζ CX0 8 "law" ["_law_script"] (X3 mg Lo K)
end M
namespace M
open L2 Own Pu
def FQ{f:Type}{xs:List f}{i:Nat}{d:f}(h:i<xs.length):xs.getD i d=xs[i]:=by rw[WK,WI h];rfl
def Zcp{f:Type}{xs:List f}{i:Nat}{d:f}(h:i<xs.length):xs.getD i d=xs[i]:=by rw[WK,WI h];rfl
def Zui{ns:ZX}{p:Int}(l:1<=p)(h:p<ns.length){b1:p.toNat<ns.length}{b2:(p-1).toNat<ns.length}:cutD (ns.map D.int) none (some (p-1))++[D.int ns[p.toNat],D.int ns[(p-1).toNat]]++cutD (ns.map D.int) (some (p+1)) none=(Kq ns p.toNat).map D.int:=by
 unfold Kq;rw[TC,TC,BJ ns (by lia),SH ns (by lia),WY,WY];have g:p.toNat-1=(p-1).toNat:=by lia
 have f:p.toNat+1=(p+1).toNat:=by lia
 rw[g,f,Zcp b1,Zcp b2];rfl
def FH{os:ZX}(f:os.Nodup){j:Nat}(g:j<os.length):os.idxOf os[j]=j:=f.idxOf_getElem j g
def R9{os:ZX}{j:Nat}{z:Int}(f:j<os.length):z∈os.take (j+1)↔z∈os.take j\/z=os[j]:=by
 rw[Qh f,Qm,WR]
def Zmr{os:ZX}(f:os.Nodup){x:Int}{j:Nat}(hx:x∈os):x∈os.take j↔os.idxOf x<j:=by
 obtain⟨k,g,rfl⟩:=Q0.mp hx;rw[FH f g];constructor
 ·intro h;obtain⟨m,l,e⟩:=Q0.mp h;rw[Qo]at l;rw[Vz]at e;have a1:=FH f (j:=m) (by lia);rw[e,FH f g]at a1;lia
 ·intro h;exact Q0.mpr ⟨k,by rw[Qo];lia,by rw[Vz]⟩
def Zds{os:ZX}(h:os.Nodup)(q:Int×Int):Nh os q=(decide (q.1∈os)&&decide (q.2∈os)&&decide (os.idxOf q.2<os.idxOf q.1)):=by
 unfold Nh;by_cases g:q.1∈os
 ·by_cases f:q.2∈os
  ·simp only[g,f,decide_true,Jq,Zmr h f]
  ·have:¬q.2∈os.take (os.idxOf q.1):=λz=>f (Jm z)
   simp[g,f,this]
 ·simp[g]
structure LWs (ws:ZW) (l:Int) (ps:List (ZX)) (ls:ZX) (lg:List (ZX)) (kvs:List (Key×V)):Prop where
 g:LW ws l ps ls lg
 nd:(lg.map<|Kj l).Nodup
 rc:∀h:Int,(XA kvs<|.inl h).isSome=true↔h∈lg.map (Kj l)
 len:kvs.length<=lg.length
section
variable {ws:ZW}{l:Int}{ps:List (ZX)}{ls:ZX}{lg:List (ZX)}{kvs:List (Key×V)}
def LWs.len_le (L:LWs ws l ps ls lg kvs):lg.length<=ls.length:=by
 have:=Gx L.nd (ys:=ls) λh f=>by
  obtain⟨q,hq,e⟩:=Qf.mp f;obtain⟨p,_,x,hx,rfl,_⟩:=L.g q hq;rw[Sq]at e;rw[←e];exact hx
 rwa[WH]at this
def LWs.put {p:ZX}{h:Int} (o:p∈ps) (r:h∈ls) (G:LWs ws l ps ls lg kvs) (new:(XA kvs<|.inl h).isSome=false) (hw:(Kj l p,h)∈ws):LWs ws l ps ls (lg++[p++[h]]) (putK kvs (.inl h)<|.bl true):=by
 have f:Kj l (p++[h])=h:=by rw[Sq];rfl
 have n:h∉lg.map (Kj l):=λz=>by rw[(G.rc h).mpr z]at new;cases new
 refine⟨λq hq=>?_,?_,λx=>?_,?_⟩
 ·rcases Qm.mp hq with hq|hq
  ·exact G.g q hq
  ·exact⟨p,o,h,r,WR.mp hq,hw⟩
 ·rw[WY,VU,f];refine QK.mpr ⟨G.nd,by simp,λa u b s=>?_⟩;rw[WR.mp s];rintro rfl;exact n u
 ·rw[WY,VU,f,BS,Qm,WR];by_cases e:x=h
  ·subst e;rw[WQ rfl];exact⟨λ_=>.inr rfl,λ_=>rfl⟩
  ·rw[WN (λz=>e (Sum.inl.inj z)),G.rc];exact⟨.inl,λz=>z.elim id λw=>absurd w e⟩
 ·rw[WT]
  have:=Fg kvs (.inl h) (.bl true)
  have:=G.len
  simp;lia
end
def Zce(c:Int->Bool):∀f:ZX,f.filterMap (λq=>if c q=true then some (D.int q)else none)=(f.filter c).map D.int:=Pz c D.int
def Zle{h:ZX}{f:ZW}{l:Int}(p:∀q∈f,q.1≠q.2)(v:¬ ∃r,Ring h f r)(s:l∈h):∀(n:Nat) (t:ZX),t.length<=n->¬SY h f l t:=by
 intro n
 induction n with
 |zero=>exact λt x o=>v ⟨_,La p s o λu _=>by lia⟩
 |succ n w=>exact λt x o=>v ⟨_,La p s o λu g=>Qp λz=>w u (by lia) g⟩
noncomputable def Zss(f:List (Option Pu.S)):Nat:=match f[4]? with
 |some (some<|Pu.S.sh<|Pu.D.tup g)=>g.length
 |_=>0
def Fc{f:Type}{xs:List f}{x:f}(h:xs[xs.length-1]?=some x):atI xs (-1)=some x:=by
 have g:=(Qu.mp h).1;unfold atI ixN;rw[WN (by lia),WQ (by lia)];show xs[_]?=some x;rw[←h];congr 1;lia
def SmallH(f0:ZW)(f:Ke):Prop:=∀g∈fsH f0 f,g.length<=7
def SmallH.cur {f0:ZW}{f:Ke} (h:SmallH f0 f):(X7 f0 f).length<=7:=by
 obtain⟨fs,g,_⟩:=FO f0 f;exact h _ (by rw[g];simp)
def SmallH.back {f0:ZW}{f:Ke} (h:SmallH f0 f):SmallH f0 f.dropLast:=by
 rcases QD f with rfl|⟨n,y,rfl⟩
 ·exact h
 ·rw[QU]at h ⊢;rw[Vg];exact λg l=>h g (by rw[Bl];exact Ve _ l)
def SmallH.add {f0:ZW}{f:Ke} (h:SmallH f0 f) (d:Dd) (s:d.q.1=("part" : Str)->(X7 f0 f).length<7):SmallH f0 (Ph f0 f d):=by
 unfold Ph;by_cases e:d.err (X7 f0 f) (XQ f)=none
 ·rw[WQ e];intro g l;rw[Bl]at l;rcases Qm.mp l with l|l
  ·exact h g l
  ·rw[WR.mp l];have n:=h.cur;cases d with
   |sell p x=>
    show(Nc _ p x).length<=7;rw[Rz];exact n
   |part p v=>
    have e:KD (X7 f0 f) p v=none:=e;rcases RW (X7 f0 f) p v with⟨z,_⟩|⟨z,_⟩|⟨z,_⟩|⟨_,_,r,o,_⟩
    ·rw[e]at z;cases z
    ·rw[e]at z;cases z
    ·rw[e]at z;cases z
    ·show(PZ _ p v).length<=7;rw[RU r o];exact s rfl
   |unite p=>
    have e:Kt (X7 f0 f) p=none:=e;rcases L0 (X7 f0 f) p with⟨z,_⟩|⟨z,_⟩|⟨z,_⟩|⟨_,_,r,o⟩
    ·rw[e]at z;cases z
    ·rw[e]at z;cases z
    ·rw[e]at z;cases z
    ·show(Te _ p).length<=7
     have:=Rb r o
     lia
   |wish a b=>exact n
   |drop a b=>exact n
 ·rw[WN e];exact h
def Zdb(v:Int)(h:0<=v/\v<16):∃w:Int,atI [D.int (v % 6),.int 6,.int 7] (if 0<v-13 then v-13 else 0)=some (.int w)/\0<=w/\w<=7:=by
 have:v=14\/v=15\/v<14:=by lia
 rcases this with rfl|rfl|g
 ·exact⟨6,rfl,by decide,by decide⟩
 ·exact⟨7,rfl,by decide,by decide⟩
 ·rw[WN (by lia)];exact⟨_,rfl,by lia,by lia⟩
noncomputable def szV(ns:ZX):Int:=ns.getD (Int.toNat 0) 0 / 2 % 16
end M
namespace T
open L2 Own M
section
variable {P:Program}{w:World}{K:ZV}{mg:ZZ}{base:Heap}
def Zqd(G:Glob K mg)(D:Def K mg "holders_of" Cz ["strips"])
  : Callee P w K mg base CX0 1 "holders_of" ["strips"] (Zag K):=by
 refine D.ok (k:=0) Zcx (λu H Q E h=>?_) (λf cdv A outer s H u Q E hr h=>?_)
 ·obtain⟨l,g,rfl,⟨u,y,v⟩,L,J,q⟩:=h;rfl
 ·obtain⟨l,g,rfl,⟨u,y,v⟩,L,J,q⟩:=h;refine⟨_,(Bw<|KA<|K0 (MK rfl) (by rfl) G.Zh boot_sorted<|Kw (KN (Zt9 rfl) (by rfl) G.ZU boot_set<|Kw (CP (N':=["holder","width"]) (φ:=[none,none]) rfl (Be.of<|by rfl) (Rk<|pv 0) (λ_ _ _ _ _=>⟨(B8 (K:=K) (n:=2) rfl<|Ny (Ee (i:=0) (show(["holder","width"]:Ye).Nodup from by decide +kernel) rfl (by first|exact Or.inl rfl|exact Or.inr rfl))<|Ny (Ee (i:=1) (show(["holder","width"]:Ye).Nodup from by decide +kernel) rfl (by first|exact Or.inl rfl|exact Or.inr rfl)) BH),Su,(pv 0)⟩)) Pr) Pr),?_⟩
  have e1:=v.1;refine⟨_,rfl,l,rfl,⟨_,SqL.of y⟩,λD B=>Zkk (ds:=g) (λd=>some (V.int d.1)) (SqL.of y) e1 B (WW J<|by decide) (λi x d H2 hx hd S k Y=>?_) ?_⟩
  ·obtain⟨d',p,a,rfl,ha⟩:=v.get hx;rw[hd]at p;cases p
   exact⟨a,_,rfl,SqT.of (S _ _ ha),rfl,_,_,rfl,_,_,rfl,rfl,.skip (.skip .refl),_,rfl,Y⟩
  ·have em:g.filterMap (λd=>some (V.int d.1))=(g.map (·.1)).map V.int:=by
    rw[Ja,Qt];rfl
   rw[em];have S1:Same H (upd H D<|.lst ((g.map (·.1)).map V.int)):=Kk B;refine⟨D,g.map (·.1),rfl,SqL.of XZ,by rw[WH];lia,λz N=>?_⟩;have M:=Own.Same.new (o:=Sx w z ((g.map (·.1)).foldl SetR.KH [])) S1 N;refine⟨z,_,rfl,?_,.inr XZ,λr ns C U T=>?_⟩
   ·have:=MC (g.map (·.1)) []
    rw[WH]at this;simp at this ⊢;lia
   ·rw[Zg1 L U T];exact q r _ (M.free C) (Own.Same.new M C) XZ
end
open Pu
section
variable {P:Program}{w:World}{K:ZV}{mg:ZZ}{base:Heap} (ζ:Fv P w K mg base)
variable (G:Glob K mg) (Yu:Oa ζ) (Y7:MJ ζ) (Yo:Zu0 ζ) (Y8:OI ζ) (YA:Rj ζ) (Yz:Iv ζ) (YB:Mq ζ) (YC:ID ζ) (Y0:Za3 ζ) (YD:HG ζ) (YE:MA ζ) (YF:Zap ζ) (Y1:Za5 ζ) (YG:MP ζ) (YH:L7 ζ) (Yv:Zbs ζ) (YI:MH ζ) (YJ:LM ζ) (Ym:Zb0 ζ) (Yn:Zbp ζ) (Yq:Ob ζ) (Yr:Zar ζ) (YK:O0 ζ) (Y2:RH ζ) (YL:LK ζ) (YM:MQ ζ) (YN:Zct ζ) (Yl:Oq ζ) (Ys:Za4 ζ) (Yt:OW ζ) (YO:Hl ζ) (Yp:Ov ζ) (YQ:LP ζ) (YR:Zb9 ζ) (YS:Hs ζ) (YT:Rt ζ) (YU:OU ζ) (YV:O7 ζ) (YW:L6 ζ) (Yw:OJ ζ) (YX:Mn ζ) (YY:RS ζ) (YZ:IU ζ) (Wa:HD ζ) (Wb:Zcn ζ) (Wc:Zbr ζ) (Wd:MW ζ) (We:Ht ζ) (Wf:HK ζ) (Wg:Rf ζ) (Wh:Zbj ζ) (Y3:Zbu ζ) (Wi:O5 ζ) (Wj:OD ζ) (Wk:Lx ζ) (Wl:OZ ζ) (Wm:ON ζ) (Wn:HH ζ) (Wo:Zcf ζ) (Wp:MZ ζ) (Wq:Ig ζ) (Wr:Mz ζ) (Ws:Ly ζ) (Wt:LU ζ) (Y4:Mc ζ) (Wu:Oz ζ) (Wv:Lf ζ) (Y5:LI ζ) (Ww:Mi ζ) (Wx:Zbk ζ) (Wy:Hw ζ) (Wz:II ζ) (W1:Za8 ζ) (Y6:Mu ζ) (W2:HJ ζ) (W3:Og ζ) (W4:OE ζ) (W5:Mp ζ) (Yx:Ml ζ) (W6:M6 ζ) (W7:M3 ζ) (W8:Rx ζ) (W9:RA ζ) (Yy:Zak ζ) (WA:Iw ζ) (WB:HC ζ) (WC:MD ζ) (WD:Zay ζ) (WE:LS ζ)
def Zij(p:Def K mg "check_holder" Ea ["holder"])
  : Oa ζ:=by
 refine p.fy Zuq (λr n=>(b1<|sI (tp<|wo (tc Po Pp (xv 0) xi)<|wO<|tc KJ KL (xv 0)<|xe (ExcR.P5 G.Zx) X2) (b1<|sQ G.Z6 G.Z5 ExcR.Pe<|a1<|xe (ExcR.NN<|ExcR.PL<|ExcR.NO (ExcR.P5 G.Zx) ExcR.NG)<|NH<|PV<|NB X2 N9) b0)) (.a ?_)
 ·rintro u R X ⟨h,rfl,f⟩;refine⟨rfl,?_⟩;unfold Bc at f;refine X1 (λg=>Kz ?_) (λg=>?_)
  ·rw[WN (by have:=WO g;lia)]at f;exact⟨by decide,by decide,by decide,by decide,by simp,f⟩
  ·have s:¬h<1:=λz=>g (WL z);refine X1 (λl=>?_) (λl=>?_)
   ·rw[WN (by have:=WO l;lia)]at f;exact⟨by decide,by decide,by decide,by decide,by simp,f⟩
   ·have o:¬10<h:=λz=>l (WL z);rw[WQ (by lia)]at f;exact f
def Zej(p:Def K mg "check_width" Cs ["width"])
  : MJ ζ:=by
 refine p.fy Zhb (λr n=>(b1<|sI (tp<|wo (tc Po Pp (xv 0) xi)<|wO<|tc KJ KL (xv 0)<|xe (ExcR.P5 G.Zm) X2) (b1<|sQ G.Z9 G.Z8 ExcR.Pe<|a1<|xe (ExcR.NN<|ExcR.PL<|ExcR.NO (ExcR.P5 G.Zm) ExcR.NG)<|NH<|PV<|NB X2 N9) b0)) (.a ?_)
 ·rintro u R X ⟨h,rfl,f⟩;refine⟨rfl,?_⟩;unfold DV at f;refine X1 (λg=>Kz ?_) (λg=>?_)
  ·rw[WN (by have:=WO g;lia)]at f;exact⟨by decide,by decide,by decide,by decide,by simp,f⟩
  ·have s:¬h<1:=λz=>g (WL z);refine X1 (λl=>?_) (λl=>?_)
   ·rw[WN (by have:=WO l;lia)]at f;exact⟨by decide,by decide,by decide,by decide,by simp,f⟩
   ·have o:¬1000<h:=λz=>l (WL z);rw[WQ (by lia)]at f;exact f
def Zi7(x:Def K mg "begins_run" Dm ["strips","index"])
  : OI ζ:=by
 refine x.fz Zuw (λl n=>(b1<|sR<|xe (Zr5 (Tx (NS (K:=K)<|show _<cLine from(l ()).units0) (pv 1) X5<|KO _)<|Bj<|Tx (Mh (K:=K)<|show _<cLine from(l ()).units0) (jx K (jx K (pv 0)<|Py XU (pv 1) X5) X5) (jx K (jx K (pv 0)<|pv 1) X5)<|KO _)<|Zlo (NJ (Xw 1) X2)<|DJ (XS (XS (Xw 0)<|XW (Xw 1) X2) X2)<|XS (XS (Xw 0)<|Xw 1) X2)) (.a ?_)
 ·rintro y R X ⟨f,k,rfl,r,g⟩;refine⟨rfl,?_⟩;have p:∀(j:Nat) (z:Int),j<f.length->z=(j:Int)->∃h:j<f.length,atI (f.map prD) z=some (prD f[j]):=λj z o e=>⟨o,by rw[e];exact Ak o⟩;unfold P2 at g;by_cases c:k=0
  ·subst c;exact g
  ·show if decide (((k:Nat):Int)=0)=true then _ else _;have v:¬((k:Nat):Int)=0:=by lia
   rw[Ql v];obtain⟨u,a1⟩:=p (k-1) ((k:Int)-1) (by lia) (by lia);obtain⟨s,a2⟩:=p k (k:Int) r rfl;refine Ki ⟨_,a1,_,rfl,_,a2,_,rfl,?_⟩;rw[Ql c,Bool.false_or,Pk u,Pk s]at g;exact g
def Zdk(J:Def K mg "pair_cost" Hd ["strips","ahead","behind"])
  : Rj ζ:=by
 refine J.fz Zoo (λu n=>(bc (sS 3 n xi)<|bc (sS 4 n xi)<|bc (sF 0<|sO [5,6] Qd (iL<|xv 0) (gT 2<|gc (gN 5)<|gc (gN 6) g0)<|b1<|sI (tq u (xv 5)<|xv 2) (b1<|sU 3 n HE<|xv 6)<|b1<|sI (tq u (xv 5)<|xv 1) (b1<|sU 4 n HE<|xo TY Na (xv 3)<|xv 6) b0)<|b1<|sV 4)) (.a ?_)
 ·rintro L R X ⟨f,x,y,rfl,C,B⟩;refine⟨rfl,rfl,KQ (xs:=f) (emb:=prD) (λi h=>h=[some (.bor<|.lst<|f.map prD),some (.sh<|.int x),some (.sh<|.int y),some (.sh<|.int<|tpM f y i),some (.sh<|.int<|pcM f x y i),none,none]) rfl ?_ ?_⟩
  ·rintro i A h rfl;have v:f.getD i (0,0)=f[i]:=by rw[WK,WI A];rfl
   have hw:=C _ (Qc A);have H:tpM f y (i+1)=tpM f y i+(if f[i].1=y then f[i].2 else 0):=by simp only[tpM];rw[v]
   have E:pcM f x y (i+1)=pcM f x y i+(if x≠y/\f[i].1=x then tpM f y i*f[i].2 else 0):=by simp only[pcM];rw[v]
   rw[H,E];generalize f[i]=p at hw;refine⟨rfl,X1 (λg=>?_) (λg=>X1 (λr=>?_) (λr=>?_))⟩
   ·have e:p.1=y:=WO g;rw[WQ e,WN (by rintro⟨s,o⟩;exact s (o.symm.trans e)),Ul];rfl
   ·have e:¬p.1=y:=λz=>g (WL z);have l:p.1=x:=WO r;rw[WN e,WQ ⟨λz=>e (l.trans z),l⟩,Ul];exact⟨.inr ⟨by show -(2 ^ 64)<p.2;lia,by show p.2<2 ^ 64;lia⟩,rfl⟩
   ·have e:¬p.1=y:=λz=>g (WL z);have l:¬p.1=x:=λz=>r (WL z);rw[WN e,WN (by rintro⟨s,o⟩;exact l o),Ul,Ul];rfl
  ·rintro h rfl;exact B
def Zpz(l:Def K mg "own_numbers" DE ["strips"])
  : Iv ζ:=by
 refine l.fz Zrc (λp n=>(b1<|sR<|xC ["index"] [none] (jI<|ir G.Zb<|a1<|xl G.len<|xv 0) (gN 0) f0<|xo XI XJ (xv 0) xi)) (.a ?_)
 ·rintro r R X ⟨f,rfl,o,h⟩;refine⟨rfl,?_⟩;have g:(f.map prD).length=f.length:=WH ..;refine⟨⟨by lia,by lia⟩,BA (λi=>some (.int (0+(i:Int)+1))) (by lia) (λi _=>⟨_,rfl,rfl⟩) ?_⟩
  have e:(List.range ((f.map prD).length:Int).toNat).filterMap (λ(i:Nat)=>some (D.int (0+(i:Int)+1)))=(X0 1 f.length).map D.int:=by
   unfold X0;rw[Ja,Qt,g,Qx];refine V6 λi _=>?_;show D.int (0+(i:Int)+1)=D.int (1+(i:Int));congr 1;lia
  rw[e];exact h
def Zh9(x:Def K mg "exchange_cost" EU ["strips","numbers","place"])
  : Mq ζ:=by
 refine x.fz Zsm (λA n=>(bc (sS 3 n<|xx (xv 0)<|xo XU XW (xx (xv 1)<|xo XU XW (xv 2) xi) xi)<|bc (sS 4 n<|xx (xv 0)<|xo XU XW (xx (xv 1)<|xv 2) xi)<|b1<|sR<|xo TY Na (xx (xv 3) xi)<|xx (xv 4) xi)) (.a ?_)
 ·rintro E R X ⟨g,f,p,rfl,s,h,C,B,l⟩;refine⟨rfl,?_⟩;have b1:(p-1).toNat<f.length:=by omega
  have r:p.toNat<f.length:=by omega
  have z:=h _ (Qc b1);have y:=h _ (Qc r);refine⟨_,PU (by omega) (by omega),_,PU (by omega) (by omega),_,PU (by omega) (by omega),_,PU (by omega) (by omega),_,rfl,_,rfl,?_⟩;have o:(f[(p-1).toNat]-1).toNat<g.length:=by omega
  have v:(f[p.toNat]-1).toNat<g.length:=by omega
  have f1:=s _ (Qc o);refine⟨.inl ⟨by show -(2 ^ 64)<(g[(f[(p-1).toNat]-1).toNat]).2;omega,by show(g[(f[(p-1).toNat]-1).toNat]).2<2 ^ 64;omega⟩,?_⟩
  have e:exM g f p.toNat=(g[(f[(p-1).toNat]-1).toNat]).2*(g[(f[p.toNat]-1).toNat]).2:=by
   unfold exM
   have u:f.getD (p.toNat-1) 0=f[(p-1).toNat]:=by
    rw[show p.toNat-1=(p-1).toNat by omega];exact FQ b1
   rw[u,FQ r,FQ o,FQ v]
  rw[e]at l;exact l
def Zfb(s:Def K mg "exchanged" E2 ["numbers","place"])
  : ID ζ:=by
 refine s.fz Zia (λv n=>(b1<|sR<|xo Pd Pi (xo Pd Pi (xp (xv 0) o0<|o1<|xo XU XW (xv 1) xi)<|xL<|a2 (xx (xv 0)<|xv 1)<|xx (xv 0)<|xo XU XW (xv 1) xi)<|xp (xv 0) (o1<|xo XI XJ (xv 1) xi) o0)) (.a ?_)
 ·rintro x R X ⟨f,p,rfl,r,o,u,h⟩;refine⟨rfl,?_⟩;have b1:p.toNat<f.length:=by lia
  have b2:(p-1).toNat<f.length:=by lia
  have g:(cutD (f.map D.int) none<|some (p-1)).length<=1000:=by have:=(Nb (f.map D.int) none<|some (p-1)).length_le;rw[WH]at this;lia
  have l:(cutD (f.map D.int) (some (p+1)) none).length<=1000:=by have:=(Nb (f.map D.int) (some (p+1)) none).length_le;rw[WH]at this;lia
  refine⟨N3 _,_,PU (by lia) (by lia),_,PU (by lia) (by lia),by simp,rfl,rfl,WW (Qy g<|WS 2) (by decide),N3 _,rfl,rfl,WW (Qy (by rw[WT];exact Qy g (WS 2)) l) (by decide),?_⟩;have e:=Zui r o (b1:=b1) (b2:=b2);rw[←e]at h;exact h
def Zc6(L:Def K mg "first_wrong_place" EF ["numbers","ranks"])
  : Za3 ζ:=by
 refine L.fz Zrf (λN n=>(bc (sO [2] Qd (iR G.Zb<|a2 xi<|xl G.len<|xv 0) (gN 2)<|b1<|sI (tc KJ KL (xx (xv 1)<|xo XU XW (xx (xv 0)<|xo XU XW (xv 2) xi) xi)<|xx (xv 1)<|xo XU XW (xx (xv 0)<|xv 2) xi) (b1<|sV 2) b0)<|b1<|sR xi)) (.a ?_)
 ·rintro U R X ⟨h,l,rfl,y,M,E⟩;refine⟨rfl,?_⟩;have Q:(h.map D.int).length=h.length:=WH ..
  have C:∀(i:Nat) (k:Int),i<h.length->k=(i:Int)->atI (h.map D.int) k=some (.int<|h.getD i 0):=λi k p e=>by
   rw[e];exact PJ (f:=D.int) (TM<|by rw[WK,WI p];rfl)
  have A:∀i:Nat,i<h.length->atI (l.map D.int) (h.getD i 0-1)=some (.int (l.getD (h.getD i 0-1).toNat 0)):=λi p=>by
   have J:h.getD i 0∈h:=by
    rw[WK,WI p];exact Qc p
   have:=y _ J
   generalize h.getD i 0=z at this;rw[PU (f:=D.int) (xs:=l) (by lia) (by lia),WK,WI (show(z-1).toNat<l.length by lia)];rfl
  have x:∀i:Nat,i<h.length->(h.map λm=>l.getD (m-1).toNat 0).getD i 0=l.getD (h.getD i 0-1).toNat 0:=λi p=>Nl p;have B:(h.map λm=>l.getD (m-1).toNat 0).length=h.length:=WH ..;refine⟨⟨by lia,by lia⟩,TX (λi r=>(∀q,1<=q->q<1+i->(h.map λm=>l.getD (m-1).toNat 0).getD (q-1) 0<=(h.map λm=>l.getD (m-1).toNat 0).getD q 0)/\r=[some (.bor<|.lst<|h.map D.int),some (.bor<|.lst<|l.map D.int),none]) ⟨λq u T=>by lia,rfl⟩ ?_ ?_⟩
  ·rintro i r p ⟨u,rfl⟩
   have o:i+1<h.length:=by
    have:i<((((h.map D.int).length:Nat):Int)-1).toNat:=p
    lia
   refine⟨_,C i _ (by lia) (by lia),_,A i (by lia),_,C (i+1) _ o (by lia),_,A (i+1) o,?_⟩;refine X1 (λg=>?_) (λg=>?_)
   ·have H:l.getD (h.getD (i+1) 0-1).toNat 0<l.getD (h.getD i 0-1).toNat 0:=WO g
    have:=E (i+1) ⟨λq s v=>u q s (by rw[WN (by lia)]at v;lia),.inr ⟨by lia,by rw[B];exact o,by rw[x _ o,Vp,x _ (by lia)];exact H⟩⟩
    rw[show((i+1:Nat):Int)=1+(i:Int) by lia]at this;exact this
   ·have H:¬l.getD (h.getD (i+1) 0-1).toNat 0<l.getD (h.getD i 0-1).toNat 0:=λz=>g (WL z);refine⟨λq s v=>?_,rfl⟩;by_cases c:q<1+i
    ·exact u q s c
    ·have:q=i+1:=by lia
     subst this;rw[x _ o,Vp,x _ (by lia)];lia
  ·rintro r ⟨u,rfl⟩;refine E 0 ⟨λq s v=>u q s ?_,.inl rfl⟩;rw[WQ rfl,B]at v;lia
def Zm3(r:Def K mg "check_neighbours" CQ ["strips","place"])
  : HG ζ:=by
 refine r.fy Zou (λs n=>(b1<|sI (tp<|wo (tc Po Pp (xv 1) xi)<|wO<|tc Bo Ba (xv 1)<|xl G.len<|xv 0) (b1<|sQ G.Zq G.Zp ExcR.Pe<|a1 xs) b0)) (.a ?_)
 ·rintro x R X ⟨h,p,rfl,f⟩;refine⟨rfl,?_⟩;have u:(h.map prD).length=h.length:=WH ..;refine X1 (λg=>Kz ?_) (λg=>?_)
  ·rw[WQ (.inl<|WO g)]at f;exact⟨by simp,f⟩
  ·have v:¬p<1:=λz=>g (WL z);refine X1 (λo=>?_) (λo=>?_)
   ·have l:((h.map prD).length:Int)<=p:=WO o;rw[WQ (.inr<|by lia)]at f;exact⟨by simp,f⟩
   ·have l:¬((h.map prD).length:Int)<=p:=λz=>o (WL z);rw[WN (by lia)]at f;exact f
def Zug(J:Def K mg "broken_wishes" GN ["order","wishes"])
  : MA ζ:=by
 refine J.fz Ox (λr n=>(bc (se (Pu.pz 2 Ox.nd OH)<|TH Zaq<|KE 2)<|bc (sF 0<|sO [3,4] Qd (ie (Znz rfl G.ZH<|az<|pv 0)<|Zu7<|sz<|Xw 0) (gT 2<|gc (gN 3)<|gc (gN 4) g0)<|b1<|se (BW (K7<|r ()) (pv 2) (pv 4) (pv 3) rfl)<|BL 2 (Xw 4)<|Xw 3)<|bc (sC 5 ["ahead","behind","index_of"] [none,none,some 2] n (jL<|xv 1) (gT 2<|gc (gN 0)<|gc (gN 1) g0) (f1<|tp<|wa (te (Fz<|HY (K7<|r ()) (pv 0)<|pv 2)<|B5<|Oc (Xw 0)<|Xw 2)<|wA<|te (Fz<|HY (K7<|r ()) (pv 1)<|pv 2)<|B5<|Oc (Xw 1)<|Xw 2)<|xt<|a2 (xv 0)<|xv 1)<|b1<|sR<|xC ["ahead","behind","index_of"] [none,none,some 2] (jL<|xv 5) (gT 2<|gc (gN 0)<|gc (gN 1) g0) (f1<|tc Po Pp (xe (TJ (K7<|r ()) (pv 2) (pv 1) (λ_ _=>rfl))<|Sm (Xw 2)<|Xw 1)<|xe (TJ (K7<|r ()) (pv 2) (pv 0) (λ_ _=>rfl))<|Sm (Xw 2)<|Xw 0)<|xt<|a2 (xv 0)<|xv 1)) (.a ?_)
 ·rintro N R X ⟨os,u,rfl,s,M,hw,E⟩;refine⟨rfl,rfl,N3 _,Zel (xs:=os) (emb:=D.int) (λi g=>∃f:List (Key×V),g=[some (.bor<|.lst<|os.map D.int),some (.bor<|.lst<|u.map prD),some (.own<|.dK f),none,none,none]/\f.length<=i/\∀h:Int,XA f (.inl h)=if h∈os.take i then some (.int<|os.idxOf h)else none) ⟨[],rfl,by simp,λh=>by simp[XA]⟩ ?_ ?_⟩
  ·rintro i y g ⟨f,rfl,B,l⟩;refine⟨rfl,.inl os[i],.int i,rfl,rfl,by lia,_,rfl,WW (Fg _ _ _) (by lia),λh=>?_⟩;rw[BS,l];by_cases e:h=os[i]
   ·subst e;rw[WQ rfl,WQ ((R9 y).mpr (.inr rfl)),FH s y]
   ·rw[WN (λz=>e (Sum.inl.inj z))];simp only[R9 y,e,or_false]
  ·rintro g ⟨f,rfl,B,l⟩;rw[QF]at l;refine Ku (xs:=u) (emb:=prD) (λq=>if (decide (q.1∈os)&&decide (q.2∈os))=true then some (prD q)else none) (by lia) (λq hq=>⟨rfl,⟨_,rfl,?_⟩⟩) ?_
   ·have x:(XA f<|.inl q.1).isSome=decide (q.1∈os):=by
     rw[l];by_cases e:q.1∈os<;>simp[e]
    have v:(XA f<|.inl q.2).isSome=decide (q.2∈os):=by
     rw[l];by_cases e:q.2∈os<;>simp[e]
    refine X1 (λp=>⟨_,rfl,X1 (λA=>⟨by simp,_,rfl,WQ ?_⟩) (λA=>WN λz=>A ?_)⟩) (λp=>Ki (WN λz=>p ?_))
    ·rw[←x,←v,Qz];exact⟨p,A⟩
    ·rw[←x,←v,Qz]at z;exact z.2
    ·rw[←x,←v,Qz]at z;exact z.1
   rw[Pz (λq=>decide (q.1∈os)&&decide (q.2∈os)) prD];have C:=Q5 (λq:Int×Int=>decide (q.1∈os)&&decide (q.2∈os)) u;refine Ku (xs:=u.filter λq=>decide (q.1∈os)&&decide (q.2∈os)) (emb:=prD) (λq=>if decide (os.idxOf q.2<os.idxOf q.1)=true then some (prD q)else none) (by lia) (λq hq=>?_) ?_
   ·have o:=(Qg.mp hq).2;rw[Qz,Jd,Jd]at o;refine⟨rfl,.inl q.2,.int (os.idxOf q.2),rfl,by rw[l,WQ o.2],rfl,.inl q.1,.int (os.idxOf q.1),rfl,by rw[l,WQ o.1],rfl,?_⟩;refine X1 (λp=>⟨by simp,_,rfl,WQ ?_⟩) (λp=>WN λz=>p ?_)
    ·have H:((os.idxOf q.2:Nat):Int)<((os.idxOf q.1:Nat):Int):=WO p;exact WL (by lia)
    ·have L:=WO z;exact WL (show((os.idxOf q.2:Nat):Int)<((os.idxOf q.1:Nat):Int) by lia)
   rw[Pz (λq=>decide (os.idxOf q.2<os.idxOf q.1)) prD,List.filter_filter]
   have e:(λq:Int×Int=>decide (os.idxOf q.2<os.idxOf q.1)&&(decide (q.1∈os)&&decide (q.2∈os)))=Nh os:=by
    funext q;rw[Zds s,Bool.and_comm]
   rw[e];exact E
def Zm9(U:Def K mg "longer_paths" GE ["paths","left","wishes"])
  : Zap ζ:=by
 refine U.fz Zbi (λy n=>(bc (sS 3 n<|xL a0)<|bc (se (Pu.pz 4 Zbi.nd OH)<|TH Zaq<|KE 4)<|bc (sF 1<|sF 0<|sO [5,6] Qd (iL<|xv 0) (gN 5)<|b1<|sF 1<|sO [6] Qd (iL<|xv 1) (gN 6)<|b1<|sI (tp<|wa (te (Fz<|OO (K7<|y ()) (pv 6)<|pv 4)<|B5<|Zmy (Xw 6)<|Xw 4)<|wA<|ti y (xt<|a2 (xx (xv 5)<|xe (KR KZ X5)<|KY X2)<|xv 6)<|xv 2) (bc (se (BW (K7<|y ()) (pv 4) (pv 6) Nw rfl)<|BL 4 (Xw 6) Nu)<|b1<|sF 6<|sA 3<|xo Pd Pi (xv 5)<|xL<|a1<|xv 6) b0)<|b1<|sV 3)) (.a ?_)
 ·rintro Y R X ⟨l,u,v,x,rfl,z,J,Q⟩;refine⟨rfl,?_⟩
  refine⟨by simp,rfl,KQ (xs:=u) (emb:=em l) (λi o=>∃r f,o=[some (.bor<|.lst<|u.map<|em l),some (.bor<|.lst<|v.map D.int),some (.bor<|.lst<|x.map prD),some (.own<|r.map<|em l),some (.own<|.dK f),none,none]/\LWs x l u v r f)
   ⟨[],[],rfl,(λq hq=>by cases hq),V9,(λh=>by simp[XA]),WS _⟩ ?_ ?_⟩
  ·rintro i N o ⟨r,f,rfl,s⟩;have B:=Qc N;have A:=z u[i] B;generalize u[i]=p at B A ⊢;refine⟨rfl,KQ (xs:=v) (emb:=D.int) (λj o=>∃r f,o=[some (.bor<|.lst<|u.map<|em l),some (.bor<|.lst<|v.map D.int),some (.bor<|.lst<|x.map prD),some (.own<|r.map<|em l),some (.own<|.dK f),some (.bor<|em l p),none]/\LWs x l u v r f) ⟨r,f,rfl,s⟩ ?_ ?_⟩
   ·rintro j M o ⟨r,f,rfl,s⟩;have E:=Qc M;generalize v[j]=h at E ⊢;have C:=s.len_le;have L:=s.len;refine⟨.inl h,rfl,X1 (λg=>?_) (λg=>Ki ⟨r,f,rfl,s⟩)⟩
    have T:(XA f<|.inl h).isSome=false:=by
     cases e:(XA f<|.inl h).isSome with
     |false=>rfl
     |true=>rw[e]at g;cases g
    refine⟨_,Gp l p,by simp,_,.lp (Kj l p,h) x,X1 (λH=>?_) (λH=>⟨r,f,rfl,s⟩)⟩;refine⟨.inl h,.bl true,rfl,rfl,by lia,by simp,N3 _,rfl,by simp;lia,by rw[WH];lia,r++[p++[h]],_,?_,s.put B E T (WO H)⟩;rw[WY]
    have e:em l (p++[h])=.lst ((l::p).map D.int++[.int h]):=by
     unfold em;rw[←Vb,WY];rfl
    rw[VU,e];rfl
   ·rintro o ⟨r,f,rfl,s⟩;exact⟨r,f,rfl,s⟩
  ·rintro o ⟨r,f,rfl,s⟩;exact Q r s.g s.len_le
def Zor(r:Def K mg "check_place" EG ["strips","place"])
  : Za5 ζ:=by
 refine r.fy Ztc (λs n=>(b1<|sI (tp<|wo (tc Po Pp (xv 1) xi)<|wO<|tc KJ KL (xv 1)<|xl G.len<|xv 0) (b1<|sQ G.Zq G.Zp ExcR.Pe<|a1 xs) b0)) (.a ?_)
 ·rintro x R X ⟨h,p,rfl,f⟩;refine⟨rfl,?_⟩;have u:(h.map prD).length=h.length:=WH ..;unfold Aq at f;refine X1 (λg=>Kz ?_) (λg=>?_)
  ·rw[WQ (.inl<|WO g)]at f;exact⟨by simp,f⟩
  ·have v:¬p<1:=λz=>g (WL z);refine X1 (λo=>?_) (λo=>?_)
   ·have l:((h.map prD).length:Int)<p:=WO o;rw[WQ (.inr<|by lia)]at f;exact⟨by simp,f⟩
   ·have l:¬((h.map prD).length:Int)<p:=λz=>o (WL z);rw[WN (by lia)]at f;exact f
def Znu(r:Def K mg "without_wish" Gb ["wishes","ahead","behind"])
  : MP ζ:=by
 refine r.fy Zis (λp n=>(bc (sI (tI p (xt<|a2 (xv 1)<|xv 2)<|xv 0) (b1<|sQ G.ZQ G.ZP ExcR.Pe<|a1 xs) b0)<|b1<|sF 2<|sF 1<|sR<|xC ["wish","ahead","behind"] [none,some 1,some 2] (jL<|xv 0) (gN 0) (f1<|te (T7 (Lb (K:=K)<|show _<cLine from(p ()).units0) (pv 0) (PK<|bz (pv 1)<|pv 2)<|KO _)<|Tj<|RE (Xw 0)<|PB<|tz (Xw 1)<|Xw 2)<|xv 0)) (.a ?_)
 ·rintro u R X ⟨l,a,b,rfl,s,f⟩;refine⟨rfl,?_⟩;unfold K6 at f;refine⟨by simp,_,.lp (a,b) l,X1 (λg=>?_) (λg=>?_)⟩
  ·have o:¬(a,b)∈l:=λz=>by rw[WQ rfl,WL z]at g;cases g
   rw[WN o]at f;exact⟨by simp,f⟩
  ·have o:(a,b)∈l:=Qp λz=>g (by rw[WQ rfl,Ql z];rfl);rw[WQ o]at f;refine Ku (xs:=l) (emb:=prD) (λq=>if (!decide (q=(a,b)))=true then some (prD q)else none) (by lia) (λq hq=>?_) ?_
   ·refine⟨by simp,?_⟩;show Dr (.sh<|prD q) (.sh<|prD (a,b)) _;refine Zru ?_;exact X1 (λh=>⟨_,rfl,WQ h⟩) (λh=>WN h)
   ·rw[Pz (λq:Int×Int=>!decide (q=(a,b)))];exact f
def Zs0(v:Def K mg "sets_of" D8 ["holders"])
  : L7 ζ:=by
 refine v.fz Zm4 (λy n=>(bc (sS 1 n<|xL<|a1<|xt a0)<|bc (sF 0<|sO [2] Qd (iL<|xv 0) (gN 2)<|b1<|sF 2<|sS 1 n<|xo Pd Pi (xv 1)<|xC ["members","holder"] [none,some 2] (jL<|xv 1) (gN 0) f0<|xe (Py (FI (K:=K)) (pv 0)<|PK<|az<|pv 1)<|Al (Xw 0)<|PB<|sz<|Xw 1)<|b1<|sV 1)) (.a ?_)
 ·rintro z R X ⟨l,rfl,x,u⟩;refine⟨rfl,by simp,by simp,rfl,KQ (xs:=l) (emb:=D.int) (λi g=>g=[some (.bor<|.lst<|l.map D.int),some (.own ((XY<|l.take i).map tD)),none]) rfl ?_ ?_⟩
  ·rintro i s g rfl
   have o:(XY<|l.take i).length<=1024:=by
    rw[HI,Qo];exact JU (j:=10) (by decide) (by lia)
   have p:∀f∈XY (l.take i),f.length<=10:=λf r=>by
    have:=(By _ f r).length_le
    rw[Qo]at this;lia
   rw[Qh s,Sb];generalize XY (l.take i)=S at o p ⊢;generalize l[i]=h;refine Ku (xs:=S) (emb:=tD) (λf=>some (tD (f++[h]))) (by lia) (λf r=>?_) ?_
   ·refine⟨by simp,_,_,Zuc f,rfl,?_,_,rfl,?_⟩
    ·have:=p f r
     rw[WH];show f.length+1<=100000;lia
    ·unfold tD;rw[WY];rfl
   ·rw[T5];refine⟨rfl,rfl,?_,?_⟩
    ·rw[WH,WH];lia
    ·show[_,_,_]=[_,_,_];rw[WY,Qt];rfl
  ·rintro g rfl;rw[QF];exact u
def Zmw(o:Def K mg "without" G2 ["members","holder"])
  : Zbs ζ:=by
 refine o.fz Zjn (λg n=>(b1<|sR<|xe (KN (GU (K:=K)) (by rfl) G.Zi boot_tuple<|az<|cz ["member","holder"] [none,some 1] (NT (K:=K)<|pv 0) ⟨(gk 0),(Ag<|cn K (g ()) (pv 0)<|pv 1),(pv 0)⟩)<|Dz<|sz<|Nf (SndI.c<|NA<|Xw 0) (KE 0) (Tj<|DJ (Xw 0)<|Xw 1)<|Xw 0)) (.a ?_)
 ·rintro u R X ⟨f,h,rfl,p,l⟩;refine⟨rfl,?_⟩;rw[Sw];refine⟨_,rfl,Ku (s:=.sh .non) (xs:=f) (emb:=D.int) (λm=>if decide (m≠h)=true then some (.int m)else none) (by lia) (λm r=>?_) ?_⟩
  ·show if (!decide (m=h))=true then _ else _;by_cases e:m=h
   ·rw[WL e];exact Ki (by simp[e])
   ·rw[Ql e];exact Kz ⟨_,rfl,WQ (WL e)⟩
  ·rw[Pz (λm=>decide (m≠h))];exact⟨rfl,l⟩
def Ztq(r:Def K mg "may_lie_last" Eh ["members","holder","wishes"])
  : MH ζ:=by
 refine r.fz Zjv (λo n=>(b1<|sR<|xn<|xe (K0 (Zad (K:=K) rfl) (by rfl) G.ZR boot_any<|az<|cz ["ahead","behind","holder","members"] [none,none,some 1,some 0] (S7 (K:=K)<|pv 2) ⟨(B8 (K:=K) (n:=2) rfl<|Ny (gk 0)<|Ny (gk 1) BH),Su,(BM (Tx (NS (K:=K)<|show _<cLine from(o ()).units0) (pv 0) (pv 2)<|KO _)<|Bj<|Tx (D6 (K:=K)<|show _<cLine from K7 (o ())) (pv 1) (pv 3)<|by with_unfolding_all rfl)⟩)<|RB<|sz<|Nf (Bs<|Xw 2) (AC<|Sk (KE 0)<|Sk (KE 1) Ah) SS<|BZ (NJ (Xw 0)<|Xw 2)<|AL (Xw 1)<|Xw 3)) (.a ?_)
 ·rintro u R X ⟨f,h,l,rfl,s,p⟩;refine⟨rfl,?_⟩;rw[Sw];refine Ku (xs:=l) (emb:=prD) (λq=>some (.bl (decide (q.1=h)&&decide (q.2∈f)))) (by lia) (λq hq=>?_) ?_
  ·refine⟨rfl,?_⟩;show if true=true then(if decide (q.1=h)=true then _ else _)else(some (D.bl (decide (q.1=h)&&decide (q.2∈f)))=none);refine Kz (X1 (λg=>⟨_,.ti _ _,?_⟩) (λg=>?_))
   ·refine⟨_,rfl,?_⟩;rw[g,Jq];rfl
   ·refine⟨_,rfl,?_⟩;rw[Vx.mpr g,Jz]
  ·rw[T5];refine⟨l.map λq=>decide (q.1=h)&&decide (q.2∈f),by rw[Qt];rfl,?_⟩;rw[List.any_map];exact p
def Zi5(r:Def K mg "may_lie_first" GO ["members","holder","wishes"])
  : LM ζ:=by
 refine r.fz Zgk (λo n=>(b1<|sR<|xn<|xe (K0 (Zad (K:=K) rfl) (by rfl) G.ZR boot_any<|az<|cz ["ahead","behind","holder","members"] [none,none,some 1,some 0] (S7 (K:=K)<|pv 2) ⟨(B8 (K:=K) (n:=2) rfl<|Ny (gk 0)<|Ny (gk 1) BH),Su,(BM (Tx (NS (K:=K)<|show _<cLine from(o ()).units0) (pv 1) (pv 2)<|KO _)<|Bj<|Tx (D6 (K:=K)<|show _<cLine from K7 (o ())) (pv 0) (pv 3)<|by with_unfolding_all rfl)⟩)<|RB<|sz<|Nf (Bs<|Xw 2) (AC<|Sk (KE 0)<|Sk (KE 1) Ah) SS<|BZ (NJ (Xw 1)<|Xw 2)<|AL (Xw 0)<|Xw 3)) (.a ?_)
 ·rintro u R X ⟨f,h,l,rfl,s,p⟩;refine⟨rfl,?_⟩;rw[Sw];refine Ku (xs:=l) (emb:=prD) (λq=>some (.bl (decide (q.2=h)&&decide (q.1∈f)))) (by lia) (λq hq=>?_) ?_
  ·refine⟨rfl,?_⟩;show if true=true then(if decide (q.2=h)=true then _ else _)else(some (D.bl (decide (q.2=h)&&decide (q.1∈f)))=none);refine Kz (X1 (λg=>⟨_,.ti _ _,?_⟩) (λg=>?_))
   ·refine⟨_,rfl,?_⟩;rw[g,Jq];rfl
   ·refine⟨_,rfl,?_⟩;rw[Vx.mpr g,Jz]
  ·rw[T5];refine⟨l.map λq=>decide (q.2=h)&&decide (q.1∈f),by rw[Qt];rfl,?_⟩;rw[List.any_map];exact p
def Zla(h:Kb K (Kc K (XM ζ) "strips") "strips" "Village.strips" Gn ["self"])
  : Zb0 ζ:=by
 refine h.fz Zpo (λo n=>(b1<|sR<|xe (KN (NI (K:=K)) (by rfl) G.Zg boot_list<|az<|jx K (T8 (pv 0) rfl)<|KR KZ X5)<|NF<|sz<|XS (F4 1 G.Za G.Zd GY<|Xw 0)<|KY X2)) (.a ?_)
 ·rintro p R X ⟨bk,fs,l,f,rfl,g⟩;refine⟨rfl,?_⟩;exact⟨rfl,rfl,_,rfl,_,Fc plD fs f,TU _,g⟩
def Zli(l:Kb K (Kc K (XM ζ) "wishes") "wishes" "Village.wishes" EL ["self"])
  : Zbp ζ:=by
 refine l.fz Zqs (λo n=>(b1<|sR<|xe (KN (NI (K:=K)) (by rfl) G.Zg boot_list<|az<|jx K (T8 (pv 0) rfl)<|KR KZ X5)<|NF<|sz<|XS (F4 2 G.Za G.Ze E7<|Xw 0)<|KY X2)) (.a ?_)
 ·rintro p R X ⟨bk,fs,g,f,rfl,h⟩;refine⟨rfl,?_⟩;exact⟨rfl,rfl,_,rfl,_,Fc plD g f,TU _,h⟩
def Zth(l:Kb K (Kc K (XM ζ) "check_room") "check_room" "Village.check_room" Dp ["self"])
  : Ob ζ:=by
 refine l.fy Zi2 (λp n=>(b1<|sI (tc Bo Ba (xl G.len<|xe (T8 (pv 0) rfl)<|F4 0 G.Za G.Zc Fb<|Xw 0)<|xe (ExcR.P5 G.Zo) X2) (b1<|sQ G.ZG G.ZF ExcR.Pe<|a1<|xe (ExcR.NN<|ExcR.PL<|ExcR.NO (ExcR.P5 G.Zo)<|ExcR.PL ExcR.NG)<|NH<|PV<|NB X2<|PV N9) b0)) (.a ?_)
 ·rintro s R X ⟨bk,fs,o,rfl,f⟩;refine⟨rfl,?_⟩;have r:(bk.map dD).length=bk.length:=WH ..;unfold Sa at f;refine⟨rfl,rfl,_,rfl,X1 (λg=>?_) (λg=>?_)⟩
  ·have h:(100:Int)<=((bk.map dD).length:Int):=WO g;rw[WQ (by lia)]at f;exact⟨by decide,by decide,by decide,by decide,by decide,by simp,f⟩
  ·have h:¬(100:Int)<=((bk.map dD).length:Int):=λz=>g (WL z);rw[WN (by lia)]at f;exact f
def Zkc(A:Kb K (Kc K (XM ζ) "enter") "enter" "Village.enter" E1 ["self","deed","field","wishes"])
  : Zar ζ:=by
 refine A.fz Zmk (λC n=>(bc (sF 1<|se (PM<|FV Q4 VL VM Fl (T8 (pv 0) rfl)<|az<|pv 1)<|S9<|Ci 0 0 G.Za G.Zc Fb<|Xw 1)<|bc (sF 2<|se (PM<|FV Q4 VL VM Fl (T8 (pv 0) rfl)<|az<|pv 2)<|S9<|Ci 0 1 G.Za G.Zd GY<|Xw 2)<|bc (sF 3<|se (PM<|FV Q4 VL VM Fl (T8 (pv 0) rfl)<|az<|pv 3)<|S9<|Ci 0 2 G.Za G.Ze E7<|Xw 3)<|b1<|se (KA<|ln K G.len<|T8 (pv 0) rfl)<|Bg<|Ni<|sz<|F4 0 G.Za G.Zc Fb<|Xw 0)) (.c ?_)
 ·rintro o B R X ⟨x,b1,z,y,bk,fs,g,q,f,w,rfl,rfl,J,H,E,r⟩;refine⟨rfl,?_⟩;have p:(bk.map dD).length<10000000:=by rw[WH];lia
  have l:(fs.map plD).length<10000000:=by rw[WH];lia
  have h:(g.map plD).length<10000000:=by rw[WH];lia
  refine⟨rfl,rfl,_,rfl,p,rfl,rfl,_,rfl,l,rfl,rfl,_,rfl,h,rfl,rfl,_,rfl,_,rfl,⟨rfl,by simp⟩,?_⟩;have e:(((bk.map dD++[dD q]).length:Nat):Int)=(bk.length:Int)+1:=by rw[WT,WH];simp
  show R (.ins x _ vF [(b1,bk.map dD++[dD q]),(z,fs.map plD++[plD f]),(y,g.map plD++[plD w])]) (.int (((bk.map dD++[dD q]).length:Nat):Int));rw[e];have v:bk.map dD++[dD q]=(bk++[q]).map dD:=by rw[WY];rfl
  have u:fs.map plD++[plD f]=(fs++[f]).map plD:=by rw[WY];rfl
  have s:g.map plD++[plD w]=(g++[w]).map plD:=by rw[WY];rfl
  rw[v,u,s];exact r
def Zn2(H:Kb K (Kc K (XM ζ) "take_back") "take_back" "Village.take_back" CC ["self"])
  : O0 ζ:=by
 refine H.fy Zie (λL n=>(bc (sI (tN<|tt<|xe (T8 (pv 0) rfl)<|F4 0 G.Za G.Zc Fb<|Xw 0) (b1<|sQ G.Z1 G.Z0 ExcR.Pe<|a1 xs) b0)<|bc (se (PM<|Fj Q4 Jj Jk A5<|T8 (pv 0) rfl)<|S9<|D7 0 1 G.Za G.Zd GY)<|bc (se (PM<|Fj Q4 Jj Jk A5<|T8 (pv 0) rfl)<|S9<|D7 0 2 G.Za G.Ze E7)<|b1<|se (KA<|Fj Q4 Jj Jk A5<|T8 (pv 0) rfl)<|T6<|D7 0 0 G.Za G.Zc Fb)) (.c ?_)
 ·rintro o J R X ⟨x,b1,r,p,bk,fs,f,rfl,rfl,N,M,y,A⟩;refine⟨rfl,?_⟩;have l:(bk.map dD).isEmpty=decide (bk=[]):=by cases bk<;>simp
  refine⟨rfl,rfl,_,rfl,?_⟩;show if (!(!(bk.map dD).isEmpty))=true then _ else _;rw[Bool.not_not,l];refine X1 (λg=>⟨by simp,_,rfl,⟨rfl,by simp⟩,y (WO g)⟩) (λg=>?_);have h:bk≠[]:=λz=>g (WL z);obtain⟨b0,q,rfl⟩:∃b0 q,bk=b0++[q]:=⟨_,_,(List.dropLast_concat_getLast h).symm⟩;have v:(b0++[q]).length=b0.length+1:=by simp
  have f1:(fs.map plD)[(fs.map plD).length-1]?=some (plD (fs[fs.length-1]'(by lia))):=by
   rw[WH,WV,WI (by lia)];rfl
  have s:(f.map plD)[(f.map plD).length-1]?=some (plD (f[f.length-1]'(by lia))):=by
   rw[WH,WV,WI (by lia)];rfl
  have u:((b0++[q]).map dD)[((b0++[q]).map dD).length-1]?=some (dD q):=by
   rw[WH,WV,v,Vp,Qr (WS _),Nat.sub_self];rfl
  refine⟨rfl,rfl,_,_,rfl,f1,rfl,rfl,_,_,rfl,s,rfl,rfl,_,_,rfl,u,_,rfl,⟨rfl,by simp⟩,?_⟩;have E:((b0++[q]).map dD).dropLast=b0.map dD:=by rw[WY];exact Vg
  have C:(fs.map plD).dropLast=fs.dropLast.map plD:=List.map_dropLast.symm;have B:(f.map plD).dropLast=f.dropLast.map plD:=List.map_dropLast.symm
  have:=A b0 q rfl
  rw[show vO (ExcR.X9 mg "Village") x b1 r p b0 fs.dropLast f.dropLast=.ins x (ExcR.X9 mg "Village") vF [(b1,((b0++[q]).map dD).dropLast),(r,(fs.map plD).dropLast),(p,(f.map plD).dropLast)] by rw[E,C,B]]at this;exact this
def Zqt(o:Def K mg "check_small" D9 ["strips"])
  : RH ζ:=by
 refine o.fy Zp3 (λp n=>(b1<|sI (tc KJ KL (xl G.len<|xv 0)<|xe (ExcR.P5 G.Z7) X2) (b1<|sQ G.Zs G.Zr ExcR.Pe<|a1<|xe (ExcR.NN<|ExcR.PL<|ExcR.NO (ExcR.P5 G.Z7)<|ExcR.PL ExcR.NG)<|NH<|PV<|NB X2<|PV N9) b0)) (.a ?_)
 ·rintro s R X ⟨h,rfl,f⟩;refine⟨rfl,?_⟩;have r:(h.map prD).length=h.length:=WH ..;unfold Nk at f;refine X1 (λg=>?_) (λg=>?_)
  ·have l:(7:Int)<((h.map prD).length:Int):=WO g;rw[WQ (by lia)]at f;exact⟨by decide,by decide,by decide,by decide,by decide,by simp,f⟩
  ·have l:¬(7:Int)<((h.map prD).length:Int):=λz=>g (WL z);rw[WN (by lia)]at f;exact f
def Zhr(z:Def K mg "cost_to_come_next" Cf ["strips","stand","number"])
  : LK ζ:=by
 refine z.fz Zre (λh n=>(bc (sC 3 ["other","strips","stand"] [none,some 0,some 1] n (jI<|iR G.Zb<|a2 xi<|xv 2) (gN 0) (f1<|tI h (xv 0)<|xv 2)<|xx (xx (xv 1)<|xo XU XW (xv 0) xi) xi)<|b1<|sR<|xo TY Na (xx (xx (xv 0)<|xo XU XW (xv 2) xi) xi)<|xe (K0 (GQ (K:=K) rfl) (by rfl) G.ZJ boot_sum<|az<|pv 3)<|Ez<|sz<|Xw 3)) (.a ?_)
 ·rintro C R X ⟨f,r,x,rfl,s,A,v,u,p⟩;refine⟨rfl,?_⟩;unfold PY;rw[Qa,Qa,DN];have B:(f.map prD).length=f.length:=WH ..;have hw:∀y:Int,1<=y->y<=f.length->1<=wdM f y/\wdM f y<=1000:=λy a b=>(s _<|Sf a b).2.2;refine⟨⟨by lia,by lia⟩,BA (λi=>if (!decide ((1+(i:Int))∈r))=true then some (.int<|wdM f (1+(i:Int)))else none) (by show(x-1).toNat<=100000;lia) (λi o=>?_) ?_⟩
  ·have l:i<(x-1).toNat:=o;refine⟨_,.ti _ _,X1 (λg=>⟨_,PD (by lia) (by lia),_,rfl,_,rfl,WQ g⟩) (λg=>WN g)⟩
  ·have e:(List.range (x-1).toNat).filterMap (λ(i:Nat)=>if (!decide ((1+(i:Int))∈r))=true then some (D.int<|wdM f (1+(i:Int)))else none)=(((X0 1 (x-1).toNat).filter λy=>!decide (y∈r)).map (wdM f)).map D.int:=by
    unfold X0;rw[List.filter_map,Qt,Qt,←List.filterMap_eq_map,List.filterMap_filter];rfl
   have:=hw x v u
   refine⟨_,PD (by lia) (by lia),_,rfl,_,QB D.lst e,.inl ⟨by show -(2 ^ 64)<wdM f x;lia,by show wdM f x<2 ^ 64;lia⟩,p⟩
def Zt6(v:Def K mg "holders_from_left" GX ["field"])
  : MQ ζ:=by
 refine v.fz Zqm (λp n=>(bc (sS 1 n<|xL a0)<|bc (sF 0<|sO [2,3] Qd (iL<|xv 0) (gT 2<|gc (gN 2)<|gc (gN 3) g0)<|b1<|sI (tI p (xv 2)<|xv 1) (b1<|sF 2<|sA 1<|xv 2) b0)<|b1<|sV 1)) (.a ?_)
 ·rintro y R X ⟨f,rfl,x,s⟩;refine⟨rfl,by simp,rfl,KQ (xs:=f) (emb:=prD) (λi h=>h=[some (.bor<|plD f),some (.own ((XN ((f.take i).map (·.1))).map D.int)),none,none]) rfl ?_ ?_⟩
  ·rintro i r h rfl;have u:(f.take (i+1)).map (·.1)=(f.take i).map (·.1)++[f[i].1]:=by rw[Qh r,WY];rfl
   have o:=Er ((f.take i).map (·.1));rw[WH,Qo]at o;rw[u,SL];generalize XN ((f.take i).map (·.1))=L at o ⊢;generalize f[i]=q;refine⟨rfl,_,.li _ _,X1 (λg=>?_) (λg=>?_)⟩
   ·have l:¬q.1∈L:=λz=>by rw[WQ rfl,WL z]at g;cases g
    rw[WN l,WY];exact⟨by rw[WH];lia,rfl⟩
   ·have l:q.1∈L:=Qp λz=>g (by rw[WQ rfl,Ql z];rfl);rw[WQ l];exact rfl
  ·rintro h rfl;rw[QF];exact s
def Zlr(o:Def K mg "field_of_stand" Gm ["strips","stand"])
  : Zct ζ:=by
 refine o.fz Zdg (λu n=>(b1<|sR<|xC ["number","strips"] [none,some 0] (je (NT (K:=K)<|pv 1)<|SndI.c<|NA<|Xw 1) (gN 0) f0<|xx (xv 1)<|xo XU XW (xv 0) xi)) (.a ?_)
 ·rintro v R X ⟨h,r,rfl,p,g,l⟩;refine⟨rfl,?_⟩;unfold PY;rw[Qa,Qa,DN];refine⟨_,rfl,Ku (s:=.sh .non) (xs:=r) (emb:=D.int) (λz=>some (prD<|X6 h z)) (by lia) (λz f=>?_) ?_⟩
  ·have:=g z f
   exact⟨_,PD this.1 this.2,_,rfl,rfl⟩
  rw[T5 (λz:Int=>prD (X6 h z))];rw[Qt]at l;exact l
def Ze2(p:Def K mg "_law_at" Da ["_law_script","_law_k"])
  : Oq ζ:=by
 refine p.fz Zrk (λr n=>(bc (sI (tc Po Pp (xv 1)<|xl G.len<|xv 0) (b1<|sR<|xx (xv 0)<|xv 1) b0)<|b1<|sR xi)) (.a ?_)
 ·rintro s R X ⟨h,k,rfl,l,f⟩;refine⟨rfl,?_⟩;refine X1 (λg=>?_) (λg=>?_)
  ·have o:k<(h.length:Int):=WO g;have e:=WI (show k.toNat<h.length by omega);rw[WK,e]at f;exact⟨_,F2 l e,f⟩
  ·have o:¬k<(h.length:Int):=λz=>g (WL z);rw[WK,QS (by omega)]at f;exact f
def Zuo(g:Def K mg "_law_whole" D4 ["_law_found"])
  : Za4 ζ:=by
 refine g.fz Zrt (λh n=>(b1<|sR<|xe (BM (K0 (SX (K:=K)) (by rfl) G.Zf VX<|bz (pv 0)<|Bk (v:=.ty "int") rfl G.ZS boot_int rfl)<|Bj<|L9<|K0 (SX (K:=K)) (by rfl) G.Zf VX<|bz (pv 0)<|Bk (v:=.ty "bool") rfl G.ZT boot_bool rfl)<|BZ (Br<|tz (Xw 0) Bv)<|Oj<|Br<|tz (Xw 0) Bv)) (.a ?_)
 ·rintro l R X ⟨i,rfl,f⟩;refine⟨rfl,?_⟩;exact⟨_,.same _,_,.ib,f⟩
def Zgw(g:Def K mg "_law_mix" Ca ["_law_cell","_law_place_here"])
  : OW ζ:=by
 refine g.fz Zra (λh n=>(bc (sS 2 n<|xo XX XT (xo TY Na (xo XI XJ (xo XI XJ (xo XX XT (xv 0) xi)<|xo TY Na xi<|xv 1) xi) xi) xi)<|b1<|sR<|xo XX XT (xo TY Na (xo XI XJ (xo XI XJ (xv 2)<|xo TY Na xi<|xv 1) xi) xi) xi)) (.a ?_)
 ·rintro l R X ⟨c,p,rfl,f⟩;refine⟨rfl,?_⟩;unfold mixP at f;exact⟨(by show(0:Int)<2147483647;decide),.inl ⟨by decide,by decide⟩,.inr ⟨by decide,by decide⟩,(by show(0:Int)<2147483647;decide),.inl ⟨by decide,by decide⟩,.inr ⟨by decide,by decide⟩,(by show(0:Int)<2147483647;decide),f⟩
def Zft(A:Def K mg "_law_menu" Hg ["_law_cell"])
  : Hl ζ:=by
 refine A.fz Zig (λB n=>(bc (sS 1 n<|xx (xL<|ac xi<|ac xi<|ac xi<|ac xi<|ac xi a0)<|xo XX XT (xo K8 KB (xv 0) xi) xi)<|bc (sS 2 n<|xx (xL<|ac xi<|ac xi<|ac xi<|ac xi<|ac xi a0)<|xo XX XT (xo K8 KB (xv 0) xi) xi)<|b1<|sF 2<|sF 1<|sR<|xL<|ac (xo XI XJ xi<|xo XX XT (xv 0) xi)<|ac (xx (xL<|ac xi<|ac xi<|ac xi<|ac xi a0)<|xo XX XT (xo K8 KB (xv 0) xi) xi)<|ac (xo XX XT (xo K8 KB (xv 0) xi) xi)<|ac (xv 1)<|ac (xv 2) a0)) (.a ?_)
 ·rintro C R X ⟨c,rfl,x⟩;refine⟨rfl,?_⟩;have p:0<=c / 10 % 4/\c / 10 % 4<4:=by lia
  have o:0<=c / 400 % 5/\c / 400 % 5<5:=by lia
  have u:∀v∈([1,3,7,9]:ZX),1<=v/\v<=9/\(v=1\/v=3\/v=7\/v=9):=by decide
  have g:∀i:Int,0<=i->i<5->∃d e:Int,atI [D.int 1000,.int 3,.int 1,.int 2,.int 3] i=some (.int d)/\atI [D.int 1,.int 1,.int 1,.int 1,.int 998] i=some (.int e)/\(1<=d/\d<=1000)/\1<=e/\e+d<=1001:=λi a b=>by
   have:i=0\/i=1\/i=2\/i=3\/i=4:=by lia
   rcases this with rfl|rfl|rfl|rfl|rfl
   ·exact⟨1000,1,rfl,rfl,by decide,by decide,by decide⟩
   ·exact⟨3,1,rfl,rfl,by decide,by decide,by decide⟩
   ·exact⟨1,1,rfl,rfl,by decide,by decide,by decide⟩
   ·exact⟨2,1,rfl,rfl,by decide,by decide,by decide⟩
   ·exact⟨3,998,rfl,rfl,by decide,by decide,by decide⟩
  obtain⟨d,e,z,y,s,r⟩:=g _ o.1 o.2;have h:=u _ (Qc (l:=([1,3,7,9]:ZX)) (n:=(c / 10 % 4).toNat)<|by show(c / 10 % 4).toNat<4;lia);refine⟨by simp,⟨by decide,by decide⟩,(by show(0:Int)<5;decide),_,z,by simp,⟨by decide,by decide⟩,(by show(0:Int)<5;decide),_,y,(by show(0:Int)<10;decide),by simp,⟨by decide,by decide⟩,(by show(0:Int)<4;decide),_,PU (f:=D.int) (xs:=[1,3,7,9]) p.1 p.2,⟨by decide,by decide⟩,(by show(0:Int)<10;decide),by simp,?_⟩;exact x [_,_,_,_,_] ⟨_,_,_,_,_,rfl,by lia,h,by lia,s,r⟩
def Zsy(h:Def K mg "_law_holder" GT ["_law_menu_here","_law_k"])
  : Ov ζ:=by
 refine h.fz Zqa (λl n=>(b1<|sR<|xo XI XJ xi<|xo XX XT (xo XI XJ (xo TY Na (xv 1)<|xx (xv 0) xi)<|xx (xv 0) xi) xi)) (.a ?_)
 ·rintro v R X ⟨m,k,rfl,g,f⟩;refine⟨rfl,?_⟩;obtain⟨a,b,c,d,e,rfl,u,s,r,p,o⟩:=g;exact⟨_,rfl,.inr ⟨by lia,by lia⟩,_,rfl,(by show(0:Int)<10;decide),f _ (by lia) (by lia) rfl⟩
def Zkg(o:Def K mg "_law_present" Es ["_law_strips"])
  : LP ζ:=by
 refine o.fz Ze0 (λh n=>(bc (sS 1 n<|xC ["_law_strip"] [none] (jL<|xv 0) (gN 0) f0<|xx (xv 0) xi)<|b1<|sR<|xC ["_law_holder_here","_law_owners"] [none,some 1] (jI<|iR G.Zb<|a2 xi xi) (gN 0) (f1<|ti h (xv 0)<|xv 1)<|xv 0)) (.a ?_)
 ·rintro s R X ⟨f,rfl,p,l⟩;refine⟨rfl,?_⟩;refine Ku (xs:=f) (emb:=prD) (λq=>some (.int q.1)) (by lia) (λq hq=>⟨_,rfl,_,rfl,rfl⟩) ?_;rw[T5 (λq:Int×Int=>D.int q.1),show f.map (λq:Int×Int=>D.int q.1)=(f.map (·.1)).map D.int by rw[Qt];rfl];refine⟨⟨by decide,by decide,by decide,by decide⟩,BA (n:=10) (λi=>if decide ((1:Int)+(i:Int)∈f.map (·.1))=true then some (.int (1+(i:Int)))else none) (by decide) (λi r=>?_) ?_⟩
  ·exact⟨_,.li _ _,X1 (λg=>⟨_,rfl,WQ g⟩) (λg=>WN g)⟩
  rw[Pz (λi:Nat=>decide ((1:Int)+(i:Int)∈f.map (·.1)))]
  have e:((List.range 10).filter λi:Nat=>decide ((1:Int)+(i:Int)∈f.map (·.1))).map (λi:Nat=>D.int (1+(i:Int)))=(X8 f).map D.int:=by
   unfold X8;rw[Zhm,List.filter_map,Qt];rfl
  rw[e];exact l
def Zjd(DD:Def K mg "_law_together" DK ["_law_strips"])
  : Zb9 ζ:=by
 refine DD.fz Zh2 (λJ n=>(bc (sO [1,2] Qd (ir G.Zb<|a1<|xl G.len<|xv 0) (gN 1)<|b1<|sO [2] Qd (ir G.Zb<|a1<|xv 1) (gN 2)<|b1<|sI (tp<|wa (tq J (xx (xx (xv 0)<|xv 2) xi)<|xx (xx (xv 0)<|xv 1) xi)<|wA<|tn J (xx (xx (xv 0)<|xo XU XW (xv 1) xi) xi)<|xx (xx (xv 0)<|xv 1) xi) (b1<|sR xb) b0)<|b1<|sR xb)) (.a ?_)
 ·rintro ds R X ⟨f,rfl,hz,T,U⟩;refine⟨rfl,?_⟩;have hl:(f.map prD).length=f.length:=WH ..;have C:∀(j:Nat) (z:Int),j<f.length->z=(j:Int)->∃h:j<f.length,atI (f.map prD) z=some (prD f[j]):=λj z y e=>⟨y,by rw[e];exact Ak y⟩;refine⟨⟨by lia,by lia⟩,TX (λk l=>(∀o j,o<k->j<o->hAt f j=hAt f o->hAt f (o-1)=hAt f o)/\l=[some (.bor<|plD f),none,none]) ⟨λo j h=>absurd h (Nat.not_lt_zero _),rfl⟩ ?_ ?_⟩
  ·rintro k l N ⟨p,rfl⟩;have M:k<(((f.map prD).length:Nat):Int).toNat:=N;have u:k<f.length:=by lia
   refine⟨⟨by lia,by lia⟩,TX (λj l=>(∀s,s<j->hAt f s=hAt f k->hAt f (k-1)=hAt f k)/\l=[some (.bor<|plD f),some (.sh<|.int (0+(k:Int))),none]) ⟨λs h=>absurd h (Nat.not_lt_zero _),rfl⟩ ?_ ?_⟩
   ·rintro j l y ⟨r,rfl⟩;have Q:j<(0+(k:Int)).toNat:=y;obtain⟨H,a1⟩:=C j (0+(j:Int)) (by lia) (by lia);obtain⟨x,a2⟩:=C k (0+(k:Int)) u (by lia);obtain⟨E,a3⟩:=C (k-1) (0+(k:Int)-1) (by lia) (by lia);refine⟨_,a1,_,rfl,_,a2,_,rfl,X1 (λg=>⟨_,a3,_,rfl,_,a2,_,rfl,X1 (λB=>?_) (λB=>?_)⟩) (λg=>?_)⟩
    ·refine U λz=>?_;have Y:f[j].1=f[k].1:=WO g
     have:=z k j (by lia) u (by rw[Pk H,Pk x];exact Y)
     rw[Pk E,Pk x]at this;rw[WQ rfl]at B
     have:decide (f[k-1].1=f[k].1)=true:=WL this
     simp_all
    ·refine⟨λs v e=>?_,rfl⟩;rw[Pk E,Pk x];exact Qp λz=>B (by rw[WQ rfl,Ql z];rfl)
    ·refine⟨λs v e=>?_,rfl⟩;rcases Nat.lt_succ_iff_lt_or_eq.mp v with c|c
     ·exact r s c e
     ·subst c;rw[Pk H,Pk x]at e;exact absurd (WL e) g
   ·rintro l ⟨r,rfl⟩;refine⟨λo j A L e=>?_,rfl⟩;rcases Nat.lt_succ_iff_lt_or_eq.mp A with c|c
    ·exact p o j c L e
    ·subst c;exact r j (by lia) e
  ·rintro l ⟨p,rfl⟩;exact T λk j A L e=>p k j (by lia) A e
def Zc8(C:Def K mg "_law_kept" EV ["_law_order","_law_wishes"])
  : Hs ζ:=by
 refine C.fz Zpe (λA n=>(bc (sF 1<|sO [2,3] Qd (iL<|xv 1) (gT 2<|gc (gN 2)<|gc (gN 3) g0)<|b1<|sI (tp<|wa (ti A (xv 2)<|xv 0)<|wa (ti A (xv 3)<|xv 0)<|wA<|tc KJ KL (xe (AN (K:=K) Q4 VR J3 (GR (K:=K)) (pv 0)<|az<|pv 2)<|Cw (Xw 0)<|sz<|Xw 2)<|xe (AN (K:=K) Q4 VR J3 (GR (K:=K)) (pv 0)<|az<|pv 3)<|Cw (Xw 0)<|sz<|Xw 3) (b1<|sR xb) b0)<|b1<|sR xb)) (.a ?_)
 ·rintro E R X ⟨os,o,rfl,s,r⟩;refine⟨rfl,rfl,KQ (xs:=o) (emb:=prD) (λi l=>l=[some (.bor<|.lst<|os.map D.int),some (.bor<|.lst<|o.map prD),none,none]/\∀q∈o.take i,Nn os q=false) ⟨rfl,by simp⟩ ?_ ?_⟩
  ·rintro i B l ⟨rfl,p⟩;have hq:=Qc B
   have next:Nn os o[i]=false->∀q∈o.take (i+1),Nn os q=false:=λh q hq=>by
    rw[Qh B,Qm,WR]at hq;rcases hq with hq|hq
    ·exact p q hq
    ·rw[hq];exact h
   generalize o[i]=q at hq next ⊢;refine⟨rfl,_,.li _ _,X1 (λy=>⟨_,.li _ _,X1 (λx=>?_) (λx=>?_)⟩) (λy=>?_)⟩
   ·have g:decide (q.1∈os)=true:=y;have f:decide (q.2∈os)=true:=x;refine⟨⟨_,rfl⟩,os,rfl,WO g,⟨_,rfl⟩,os,rfl,WO f,?_⟩;refine X1 (λv=>?_) (λv=>?_)
    ·have u:=WO v;refine r ⟨q,hq,?_⟩;unfold Nn;rw[g,f,WL (by lia)];rfl
    ·have u:¬((os.idxOf q.2:Nat):Int)<((os.idxOf q.1:Nat):Int):=λz=>v (WL z);refine⟨rfl,next ?_⟩;unfold Nn;rw[g,f,Ql (by lia)];rfl
   ·refine Ki ⟨rfl,next ?_⟩;have f:decide (q.2∈os)=false:=Vx.mpr x;unfold Nn;rw[f,Jz,Bool.and_false]
   ·refine Ki ⟨rfl,next ?_⟩;have g:decide (q.1∈os)=false:=Vx.mpr y;unfold Nn;rw[g,Jz]
  ·rintro l ⟨rfl,p⟩;rw[QF]at p;exact s p
def Zul(C:Def K mg "_law_no_ring" CH ["_law_holders","_law_wishes"])
  : Rt ζ:=by
 refine C.fz Zu5 (λu n=>(bc (sS 2 n<|xe (KN (NI (K:=K)) (by rfl) G.Zg boot_list<|az<|pv 0)<|NF<|sz<|Xw 0)<|bc (sF 0<|sO [3,4,5] Qd (iL<|xv 0) (gN 3)<|bc (sC 4 ["_law_pair_here","_law_left"] [none,some 2] n (jL<|xv 1) (gN 0) (f1<|tp<|wa (ti u (xx (xv 0) xi)<|xv 1)<|wA<|ti u (xx (xv 0) xi)<|xv 1)<|xv 0)<|bc (sS 5 n<|xC ["_law_pair_here"] [none] (jL<|xv 4) (gN 0) f0<|xx (xv 0) xi)<|b1<|sS 2 n<|xC ["_law_holder_here","_law_behind"] [none,some 5] (jL<|xv 2) (gN 0) (f1<|ti u (xv 0)<|xv 1)<|xv 0)<|b1<|sR<|xe (Tx (LJ (K:=K)<|show _<cLine from(u ()).units0) (pv 2) (N0 Pr)<|KO _)<|Gf (Xw 2)<|Nv Ka)) (.a ?_)
 ·rintro L R X ⟨o,f,rfl,A,hw,B⟩;refine⟨rfl,N3 _,rfl,KQ (xs:=o) (emb:=D.int) (λi p=>p=[some (.bor<|.lst<|o.map D.int),some (.bor<|.lst<|f.map prD),some (.own ((Kh f o i).map D.int)),none,none,none]/\(Kh f o i).length<=50) ⟨rfl,A⟩ ?_ ?_⟩
  ·rintro i H p ⟨rfl,v⟩;generalize e:Kh f o i=l at v;have z:Kh f o (i+1)=Tc f l:=QB (Tc f) e;have E:(N7 f l).length<=50:=WW (Q5 _ _) hw;refine Ku (xs:=f) (emb:=prD) (λq=>if (decide (q.1∈l)&&decide (q.2∈l))=true then some (prD q)else none) (by lia) (λq hq=>?_) ?_
   ·refine⟨_,rfl,_,.li _ _,X1 (λy=>⟨_,rfl,_,.li _ _,X1 (λx=>⟨_,rfl,WQ ?_⟩) (λx=>WN ?_)⟩) (λy=>Ki (WN ?_))⟩
    ·have s:decide (q.1∈l)=true:=y;have r:decide (q.2∈l)=true:=x;rw[s,r];rfl
    ·have r:decide (q.2∈l)=false:=Vx.mpr x;rw[r,Bool.and_false];exact Qe
    ·have s:decide (q.1∈l)=false:=Vx.mpr y;rw[s,Jz];exact Qe
   rw[Pz (λq:Int×Int=>decide (q.1∈l)&&decide (q.2∈l))];show _;refine Ku (xs:=N7 f l) (emb:=prD) (λq=>some (.int q.2)) (by lia) (λq hq=>⟨_,rfl,_,rfl,rfl⟩) ?_;rw[T5 (λq:Int×Int=>D.int q.2),show(N7 f l).map (λq:Int×Int=>D.int q.2)=((N7 f l).map (·.2)).map D.int by rw[Qt];rfl];refine Ku (xs:=l) (emb:=D.int) (λh=>if decide (h∈(N7 f l).map (·.2))=true then some (.int h)else none) (by lia) (λh J=>?_) ?_
   ·exact⟨_,.li _ _,X1 (λg=>⟨_,rfl,WQ g⟩) (λg=>WN g)⟩
   rw[Pz (λh:Int=>decide (h∈(N7 f l).map (·.2)))];exact⟨by rw[z];rfl,by rw[z];exact WW (Q5 _ _) v⟩
  ·rintro p ⟨rfl,v⟩;refine⟨QV _,?_⟩;have e:((Kh f o o.length).map D.int).isEmpty=decide (Kh f o o.length=[]):=by cases Kh f o o.length<;>simp
   show R (.sh (.bl ((Kh f o o.length).map D.int).isEmpty));rw[e];exact B
def Zic(r:Def K mg "_law_swapped" DT ["_law_stand","_law_k"])
  : OU ζ:=by
 refine r.fz Zrl (λs n=>(b1<|sR<|xe (Py (FI (K:=K)) (Py (FI (K:=K)) (AO (Ie (K:=K)) (pv 0) DF<|Fq<|pv 1)<|PK<|bz (jx K (pv 0)<|Py XI (pv 1) X5)<|jx K (pv 0)<|pv 1)<|AO (Ie (K:=K)) (pv 0) (Fq<|Py XI (pv 1) X5) DF)<|Al (Al (LG (Xw 0) DL<|BP<|Xw 1)<|PB<|tz (XS (Xw 0)<|XJ (Xw 1) X2)<|XS (Xw 0)<|Xw 1)<|LG (Xw 0) (BP<|XJ (Xw 1) X2) DL)) (.a ?_)
 ·rintro A R X ⟨a,b,x,y,rfl,v,u,l⟩;refine⟨rfl,?_⟩;rw[Sw];have g:((a++x::y::b).map D.int).length=a.length+b.length+2:=by rw[WH,WT,Qi,Qi];lia
  have f:cutD ((a++x::y::b).map D.int) none (some (a.length:Int))=a.map D.int:=by
   rw[TC,BJ _ (by lia)];simp
  have h:cutD ((a++x::y::b).map D.int) (some ((a.length:Int)+2)) none=b.map D.int:=by
   rw[TC,SH _ (by lia)]
   have:((a.length:Int)+2).toNat=a.length+2:=by lia
   rw[this,List.drop_append];simp
  have p:atI ((a++x::y::b).map D.int) (a.length:Int)=some (.int x):=PJ (TM<|by simp)
  have o:atI ((a++x::y::b).map D.int) ((a.length:Int)+1)=some (.int y):=by
   have:((a.length:Int)+1)=((a.length+1:Nat):Int):=by lia
   rw[this];exact PJ (TM<|by rw[Qr (by lia)];simp)
  refine⟨_,rfl,?_,_,o,_,p,by simp,_,_,rfl,rfl,?_,_,rfl,?_,_,_,rfl,rfl,?_,?_⟩
  ·rintro⟨_,z⟩;rw[HT.Bp,g]at z;lia
  ·rw[f,WH];show a.length+2<=100000;lia
  ·rintro⟨z,_⟩
   have:((a.length:Int)+2)=((a.length+2:Nat):Int):=by lia
   rw[this,HT.Bp,g]at z;lia
  ·rw[f,h,WT,WH,WH];show a.length+2+b.length<=100000;lia
  ·rw[f,h];have e:a.map D.int++[D.int y,D.int x]++b.map D.int=(a++y::x::b).map D.int:=by simp
   show R (.sh<|.tup (a.map D.int++[D.int y,D.int x]++b.map D.int));rw[e];exact l
def Zk0(N:Def K mg "_law_field_step" En ["_law_strips","_law_deed_here"])
  : O7 ζ:=by
 refine N.fz Zfw (λB n=>(bc (sS 2 n<|xx (xv 1) xi)<|bc (sI (tp<|wo (tc Po Pp (xv 2) xi)<|wO<|tc KJ KL (xv 2)<|xo XU XW (xl G.len<|xv 0)<|xe (KN Zon (by rfl) G.ZS boot_int<|az<|Tx (NS (K:=K)<|show _<cLine from(B ()).units0) (jx K (pv 1) X5) NZ<|KO _)<|Ziy<|sz<|NJ (XS (Xw 1) X2) NV) (b1<|sF 0<|sR<|xL<|a2 xi<|xv 0) b0)<|bc (sS 3 n<|xx (xx (xv 0)<|xo XU XW (xv 2) xi) xi)<|bc (sS 4 n<|xx (xx (xv 0)<|xo XU XW (xv 2) xi) xi)<|bc (sI (tq B (xx (xv 1) xi) xs) (bc (sI (tp<|wo (tc Po Pp (xx (xv 1) xi) xi)<|wO<|tc KJ KL (xx (xv 1) xi) xi) (b1<|sF 0<|sR<|xL<|a2 xi<|xv 0) b0)<|bc (sI (tq B (xx (xv 1) xi)<|xv 3) (b1<|sF 0<|sR<|xL<|a2 xi<|xv 0) b0)<|b1<|sR<|xL<|a2 xi<|xo Pd Pi (xo Pd Pi (xp (xv 0) o0<|o1<|xo XU XW (xv 2) xi)<|xL<|a1<|xt<|a2 (xx (xv 1) xi)<|xv 4)<|xp (xv 0) (o1<|xv 2) o0) b0)<|bc (sI (tq B (xx (xv 1) xi) xs) (bc (sI (tp<|wo (tc Po Pp (xx (xv 1) xi) xi)<|wO<|tc Bo Ba (xx (xv 1) xi)<|xv 4) (b1<|sF 0<|sR<|xL<|a2 xi<|xv 0) b0)<|bc (sI (tq B (xl G.len<|xv 0) xi) (b1<|sF 0<|sR<|xL<|a2 xi<|xv 0) b0)<|bc (sS 5 n<|xL<|a2 (xt<|a2 (xv 3)<|xx (xv 1) xi)<|xt<|a2 (xv 3)<|xo XU XW (xv 4)<|xx (xv 1) xi)<|b1<|sR<|xL<|a2 xi<|xo Pd Pi (xo Pd Pi (xp (xv 0) o0<|o1<|xo XU XW (xv 2) xi)<|xv 5)<|xp (xv 0) (o1<|xv 2) o0) b0)<|bc (sI (tn B (xx (xx (xv 0)<|xv 2) xi)<|xv 3) (b1<|sF 0<|sR<|xL<|a2 xi<|xv 0) b0)<|bc (sI (tc KJ KL (xo XI XJ (xv 4)<|xx (xx (xv 0)<|xv 2) xi) xi) (b1<|sF 0<|sR<|xL<|a2 xi<|xv 0) b0)<|b1<|sR<|xL<|a2 xi<|xo Pd Pi (xo Pd Pi (xp (xv 0) o0<|o1<|xo XU XW (xv 2) xi)<|xL<|a1<|xt<|a2 (xv 3)<|xo XI XJ (xv 4)<|xx (xx (xv 0)<|xv 2) xi)<|xp (xv 0) (o1<|xo XI XJ (xv 2) xi) o0)) (.b ?_)
 ·rintro U R X ⟨f,x,rfl,hx,Q,l⟩;refine⟨rfl,?_⟩;have T:(f.map prD).length=f.length:=WH ..;have A:∀p:Int,(cutD (f.map prD) none<|some (p-1)).length<=1000:=λp=>by have:=(Nb (f.map prD) none<|some (p-1)).length_le;rw[WH]at this;lia
  have E:∀p:Int,(cutD (f.map prD) (some p) none).length<=1000:=λp=>by have:=(Nb (f.map prD) (some p) none).length_le;rw[WH]at this;lia
  cases x with
  |wish a b=>cases hx
  |drop a b=>cases hx
  |sell p h=>
   have l:R (.own [.int (codeN<|P3 f p h),plD (if P3 f p h=none then Nc f p h else f)]):=l
   have o:∀c:Str,P3 f p h=some c->R (.own [.int (codeN<|some c),plD f]):=λc e=>by
    rw[e,WN (by intro z;cases z)]at l;exact l
   unfold P3 at o l
   have one:(p<1\/(f.length:Int)<p)->R (.own [.int 1,plD f]):=λz=>by
    rw[←EX];exact o _ (WQ z)
   refine⟨_,rfl,X1 (λg=>Kz ?_) (λg=>⟨_,rfl,X1 (λv=>?_) (λv=>?_)⟩)⟩
   ·exact⟨by simp,one (.inl<|WO g)⟩
   ·have r:(((f.map prD).length:Nat):Int)-0<p:=WO v;exact⟨by simp,one (.inr<|by lia)⟩
   ·have J:¬p<1:=λz=>g (WL z);have H:¬(((f.map prD).length:Nat):Int)-0<p:=λz=>v (WL z);rw[WN (by lia)]at o l;have a1:=PD (ps:=f) (p:=p) (by lia) (by lia);refine⟨_,a1,_,rfl,_,a1,_,rfl,_,rfl,?_⟩;refine⟨_,rfl,X1 (λs=>Kz ?_) (λs=>⟨_,rfl,X1 (λu=>?_) (λu=>?_)⟩)⟩
    ·have r:h<1:=WO s
     have:=o _ (WQ<|by lia)
     rw[AU]at this;exact⟨by simp,this⟩
    ·have r:10<h:=WO u
     have:=o _ (WQ<|by lia)
     rw[AU]at this;exact⟨by simp,this⟩
    ·have M:¬h<1:=λz=>s (WL z);have L:¬10<h:=λz=>u (WL z);rw[WN (VF.mpr ⟨by lia,by lia⟩)]at o l;refine⟨_,rfl,X1 (λy=>?_) (λy=>?_)⟩
     ·have r:h=(X6 f p).1:=WO y
      have:=o _ (WQ r.symm)
      rw[RF]at this;exact⟨by simp,this⟩
     ·have r:¬h=(X6 f p).1:=λz=>y (WL z);rw[WN (λz=>r z.symm),WQ rfl]at l;have e:=Ho (ps:=f) (p:=p) (x:=(h,(X6 f p).2)) (by lia) (by lia);refine⟨rfl,_,rfl,by simp,by simp,rfl,rfl,WW (Qy (A p)<|WS 1) (by decide),rfl,rfl,rfl,WW (Qy (by rw[WT];exact Qy (A p) (WS 1))<|E p) (by decide),by simp,?_⟩;have C:plD (Nc f p h)=.lst (cutD (f.map prD) none (some (p-1))++[prD (h,(X6 f p).2)]++cutD (f.map prD) (some p) none):=QB D.lst e.symm;rw[C]at l;exact l
  |part p w=>
   have l:R (.own [.int (codeN<|KD f p w),plD (if KD f p w=none then PZ f p w else f)]):=l
   have o:∀c:Str,KD f p w=some c->R (.own [.int (codeN<|some c),plD f]):=λc e=>by
    rw[e,WN (by intro z;cases z)]at l;exact l
   unfold KD at o l
   have one:(p<1\/(f.length:Int)<p)->R (.own [.int 1,plD f]):=λz=>by
    rw[←EX];exact o _ (WQ z)
   refine⟨_,rfl,X1 (λg=>Kz ?_) (λg=>⟨_,rfl,X1 (λv=>?_) (λv=>?_)⟩)⟩
   ·exact⟨by simp,one (.inl<|WO g)⟩
   ·have r:(((f.map prD).length:Nat):Int)-0<p:=WO v;exact⟨by simp,one (.inr<|by lia)⟩
   ·have J:¬p<1:=λz=>g (WL z);have H:¬(((f.map prD).length:Nat):Int)-0<p:=λz=>v (WL z);rw[WN (by lia)]at o l;have a1:=PD (ps:=f) (p:=p) (by lia) (by lia);refine⟨_,a1,_,rfl,_,a1,_,rfl,_,rfl,_,rfl,?_⟩;refine⟨_,rfl,X1 (λs=>Kz ?_) (λs=>⟨_,rfl,X1 (λu=>?_) (λu=>?_)⟩)⟩
    ·have:=o _ (WQ<|.inl<|WO s)
     rw[Eb]at this;exact⟨by simp,this⟩
    ·have:=o _ (WQ<|.inr<|WO u)
     rw[Eb]at this;exact⟨by simp,this⟩
    ·have M:¬w<1:=λz=>s (WL z);have L:¬(X6 f p).2<=w:=λz=>u (WL z);rw[WN (by lia)]at o l;refine X1 (λy=>?_) (λy=>?_)
     ·have r:(((f.map prD).length:Nat):Int)=40:=WO y
      have:=o _ (WQ<|by lia)
      rw[OS]at this;exact⟨by simp,this⟩
     ·have r:¬(((f.map prD).length:Nat):Int)=40:=λz=>y (WL z);rw[WN (by lia),WQ rfl]at l;refine⟨_,rfl,by simp,_,rfl,by simp,by simp,?_⟩;refine⟨rfl,rfl,rfl,WW (Qy (A p)<|WS 2) (by decide),rfl,rfl,rfl,WW (Qy (by rw[WT];exact Qy (A p) (WS 2))<|E p) (by decide),by simp,?_⟩;have C:plD (PZ f p w)=.lst (cutD (f.map prD) none (some (p-1))++[prD ((X6 f p).1,w),prD ((X6 f p).1,(X6 f p).2-w)]++cutD (f.map prD) (some p) none):=QB D.lst (Oo<|by lia).symm;rw[C]at l;exact l
  |unite p=>
   have l:R (.own [.int (codeN<|Kt f p),plD (if Kt f p=none then Te f p else f)]):=l
   have o:∀c:Str,Kt f p=some c->R (.own [.int (codeN<|some c),plD f]):=λc e=>by
    rw[e,WN (by intro z;cases z)]at l;exact l
   unfold Kt at o l
   have one:(p<1\/(f.length:Int)<=p)->R (.own [.int 1,plD f]):=λz=>by
    rw[←EX];exact o _ (WQ z)
   refine⟨_,rfl,X1 (λg=>Kz ?_) (λg=>⟨_,rfl,X1 (λv=>?_) (λv=>?_)⟩)⟩
   ·exact⟨by simp,one (.inl<|WO g)⟩
   ·have r:(((f.map prD).length:Nat):Int)-1<p:=WO v;exact⟨by simp,one (.inr<|by lia)⟩
   ·have J:¬p<1:=λz=>g (WL z);have H:¬(((f.map prD).length:Nat):Int)-1<p:=λz=>v (WL z);rw[WN (by lia)]at o l;have a1:=PD (ps:=f) (p:=p) (by lia) (by lia);have a2:=Zq7 (ps:=f) (p:=p) (by lia) (by lia);refine⟨_,a1,_,rfl,_,a1,_,rfl,_,rfl,_,rfl,?_⟩;refine⟨_,a2,_,rfl,X1 (λs=>?_) (λs=>?_)⟩
    ·have r:¬(X6 f (p+1)).1=(X6 f p).1:=λz=>by rw[WL z]at s;cases s
     have:=o _ (WQ (λz=>r z.symm))
     rw[Rh]at this;exact⟨by simp,this⟩
    ·have r:(X6 f (p+1)).1=(X6 f p).1:=Qp λz=>s (by rw[Ql z];rfl);rw[WN (VF.mpr r.symm)]at o l;refine⟨_,a2,_,rfl,X1 (λu=>?_) (λu=>?_)⟩
     ·have:=o _ (WQ<|WO u)
      rw[Zby]at this;exact⟨by simp,this⟩
     ·rw[WN (λz=>u (WL z)),WQ rfl]at l;refine⟨rfl,_,a2,_,rfl,by simp,by simp,rfl,rfl,WW (Qy (A p)<|WS 1) (by decide),rfl,rfl,rfl,WW (Qy (by rw[WT];exact Qy (A p) (WS 1))<|E (p+1)) (by decide),by simp,?_⟩;have C:plD (Te f p)=.lst (cutD (f.map prD) none (some (p-1))++[prD ((X6 f p).1,(X6 f p).2+(X6 f (p+1)).2)]++cutD (f.map prD) (some (p+1)) none):=QB D.lst (RR<|by lia).symm;rw[C]at l;exact l
def Zl0(T:Def K mg "_law_wish_step" E9 ["_law_wishes","_law_deed_here"])
  : L6 ζ:=by
 refine T.fz Zn6 (λr n=>(bc (sS 2 n<|xt<|a2 (xx (xv 1) xi)<|xx (xv 1) xi)<|bc (sI (tq r (xx (xv 1) xi) xs) (bc (sI (tI r (xv 2)<|xv 0) (b1<|sF 0<|sR<|xL<|a2 xi<|xv 0) b0)<|b1<|sR<|xL<|a2 xi<|xC ["_law_one","_law_pair_here"] [none,some 2] (jL<|xv 0) (gN 0) (f1<|te (T7 (Lb (K:=K)<|show _<cLine from(r ()).units0) (pv 0) (pv 1)<|KO _)<|Tj<|RE (Xw 0)<|Xw 1)<|xv 0) b0)<|bc (sI (tp<|wo (tc Po Pp (xe (K0 (Zut (K:=K) rfl) (by rfl) G.ZI boot_min<|az<|pv 2)<|Zn7<|sz<|Xw 2) xi)<|wO<|tc KJ KL (xe (K0 (Zlw (K:=K) rfl) (by rfl) G.Z2 boot_max<|az<|pv 2)<|Zo9<|sz<|Xw 2) xi) (b1<|sF 0<|sR<|xL<|a2 xi<|xv 0) b0)<|bc (sI (tq r (xx (xv 1) xi)<|xx (xv 1) xi) (b1<|sF 0<|sR<|xL<|a2 xi<|xv 0) b0)<|bc (sI (ti r (xv 2)<|xv 0) (b1<|sF 0<|sR<|xL<|a2 xi<|xv 0) b0)<|bc (sI (tq r (xl G.len<|xv 0) xi) (b1<|sF 0<|sR<|xL<|a2 xi<|xv 0) b0)<|b1<|sF 2<|sR<|xL<|a2 xi<|xo Pd Pi (xv 0)<|xL<|a1<|xv 2)) (.b ?_)
 ·rintro ds R X ⟨w,x,rfl,hx,hz,f⟩;refine⟨rfl,?_⟩;have M:(w.map prD).length=w.length:=WH ..;cases x with
  |sell p h=>cases hx
  |part p h=>cases hx
  |unite p=>cases hx
  |drop a b=>
   refine⟨_,rfl,_,rfl,by simp,_,rfl,?_⟩;show ∃c,InR (prD (a,b)) (plD w) c/\_;have f:R (.own [.int (codeN<|K6 w a b),plD (if K6 w a b=none then Nd w a b else w)]):=f;refine⟨_,.lp (a,b) w,X1 (λg=>?_) (λg=>?_)⟩
   ·have o:¬(a,b)∈w:=λz=>by rw[WQ rfl,WL z]at g;cases g
    have e:K6 w a b=some ("NoWish" : Str):=WN o;rw[e,LD,WN (by intro z;cases z)]at f;exact⟨by simp,f⟩
   ·have o:(a,b)∈w:=Qp λz=>g (by rw[WQ rfl,Ql z];rfl);have e:K6 w a b=none:=WQ o;rw[e,WQ rfl]at f;refine Ku (xs:=w) (emb:=prD) (λq=>if (!decide (q=(a,b)))=true then some (prD q)else none) (by omega) (λq hq=>?_) ?_
    ·refine⟨[q.1,q.2],[a,b],rfl,rfl,?_⟩;have e:decide ([q.1,q.2]=[a,b])=decide (q=(a,b)):=Znc q (a,b);show if (!decide ([q.1,q.2]=[a,b]))=true then _ else _;rw[e];exact X1 (λh=>⟨_,rfl,WQ h⟩) (λh=>WN h)
    ·rw[Pz (λq:Int×Int=>!decide (q=(a,b)))];exact⟨by simp,f⟩
  |wish a b=>
   refine⟨_,rfl,_,rfl,by simp,_,rfl,?_⟩;have f:R (.own [.int (codeN<|K5 w a b),plD (if K5 w a b=none then w++[(a,b)]else w)]):=f
   have l:∀c:Str,K5 w a b=some c->R (.own [.int (codeN<|some c),plD w]):=λc e=>by
    rw[e,WN (by intro z;cases z)]at f;exact f
   have u:¬((1<=a/\a<=10)/\(1<=b/\b<=10))->R (.own [.int 2,plD w]):=λz=>by
    rw[←AU];refine l _ ?_;unfold K5;by_cases s:1<=a/\a<=10
    ·rw[WN (VF.mpr s),WQ (λy=>z ⟨s,y⟩)]
    ·rw[WQ s]
   have L:∀x y:Int,(if y<x then y else x)<=x/\(if y<x then y else x)<=y/\((if y<x then y else x)=x\/(if y<x then y else x)=y):=λx y=>by split<;>omega
   have J:∀x y:Int,x<=(if y>x then y else x)/\y<=(if y>x then y else x)/\((if y>x then y else x)=x\/(if y>x then y else x)=y):=λx y=>by split<;>omega
   have m1:=L a b;have m2:=J a b;refine X1 (λg=>Kz ?_) (λg=>X1 (λC=>?_) (λC=>?_))
   ·have o:(if b<a then b else a)<1:=WO g;exact⟨by simp,u (by omega)⟩
   ·have o:10<(if b>a then b else a):=WO C;exact⟨by simp,u (by omega)⟩
   ·have Y:¬(if b<a then b else a)<1:=λz=>g (WL z);have U:¬10<(if b>a then b else a):=λz=>C (WL z);have s:1<=a/\a<=10:=by omega
    have Q:1<=b/\b<=10:=by omega
    unfold K5 at l f;rw[WN (VF.mpr s),WN (VF.mpr Q)]at l f;refine⟨_,rfl,_,rfl,X1 (λB=>?_) (λB=>?_)⟩
    ·have:=l _ (WQ<|WO B)
     rw[Za2]at this;exact⟨by simp,this⟩
    ·have H:¬a=b:=λz=>B (WL z);rw[WN H]at l f;show ∃c,InR (prD (a,b)) (plD w) c/\_;refine⟨_,.lp (a,b) w,X1 (λA=>?_) (λA=>?_)⟩
     ·have:=l _ (WQ<|WO A)
      rw[Li]at this;exact⟨by simp,this⟩
     ·have E:¬(a,b)∈w:=λz=>A (WL z);rw[WN E]at l f;refine X1 (λv=>?_) (λv=>?_)
      ·have o:(((w.map prD).length:Nat):Int)=20:=WO v
       have:=l _ (WQ<|by omega)
       rw[MS]at this;exact⟨by simp,this⟩
      ·have o:¬(((w.map prD).length:Nat):Int)=20:=λz=>v (WL z);rw[WN (by omega),WQ rfl]at f;refine⟨by simp,rfl,rfl,WW (Qy (Vr M)<|WS 1) (by omega),by simp,?_⟩;have N:plD (w++[(a,b)])=.lst (w.map prD++[prD (a,b)]):=QB D.lst WY;rw[N]at f;exact f
def Ztk(p:Def K mg "_law_odd" Gq ["_law_cell","_law_good"])
  : OJ ζ:=by
 refine p.fz Znk (λo n=>(bc (sI (tq o (xo XX XT (xv 0) xi) xi) (b1<|sR<|xx (xL<|ac xi<|ac xi<|ac (xe (KR KZ X5)<|KY X2)<|ac (xo GW De xi xi) a0)<|xo XX XT (xo K8 KB (xv 0) xi) xi) b0)<|b1<|sV 1)) (.a ?_)
 ·rintro r R X ⟨c,g,rfl,h⟩;refine⟨rfl,?_⟩;have l:0<=c / 7 % 4/\c / 7 % 4<4:=by lia
  refine⟨(by show(0:Int)<7;decide),X1 (λ_=>?_) (λ_=>h _)⟩;exact⟨⟨by decide,by decide,by decide⟩,by simp,⟨by decide,by decide⟩,(by show(0:Int)<4;decide),_,PU (f:=D.int) (xs:=[0,11,-3,10 ^ (30:Int).toNat]) l.1 l.2,h _⟩
def Zha(u:Def K mg "_law_place" Ew ["_law_cell","_law_strips"])
  : Mn ζ:=by
 refine u.fz Zs5 (λp n=>(bc (sI (tq p (xo XX XT (xv 0) xi) xi) (b1<|sR<|xx (xL<|ac xi<|ac (xe (KR KZ X5)<|KY X2)<|ac (xo XI XJ (xl G.len<|xv 1) xi)<|ac (xo GW De xi xi) a0)<|xo XX XT (xo K8 KB (xv 0) xi) xi) b0)<|bc (sI (te (T7 (LJ (K:=K)<|show _<cLine from(p ()).units0) (pv 1) (N0 Pr)<|KO _)<|Tj<|Gf (Xw 1)<|Nv Ka) (b1<|sR xi) b0)<|b1<|sR<|xo XI XJ xi<|xo XX XT (xo K8 KB (xv 0) xi)<|xl G.len<|xv 1)) (.a ?_)
 ·rintro y R X ⟨c,h,rfl,v,l⟩;refine⟨rfl,?_⟩;have r:0<=c / 11 % 4/\c / 11 % 4<4:=by lia
  have x:(h.map prD).length=h.length:=WH ..;refine⟨(by show(0:Int)<11;decide),X1 (λ_=>?_) (λ_=>?_)⟩
  ·exact⟨⟨by decide,by decide,by decide⟩,by simp,⟨by decide,by decide⟩,(by show(0:Int)<4;decide),_,PU (f:=D.int) (xs:=[0,-1,(((h.map prD).length:Nat):Int)+1,10 ^ (30:Int).toNat]) r.1 r.2,l _⟩
  ·refine⟨by simp,?_⟩;have o:(h.map prD).isEmpty=decide (h=[]):=by cases h<;>simp
   show if (h.map prD).isEmpty=true then _ else _;rw[o];refine X1 (λ_=>l _) (λg=>?_);have s:0<h.length:=VO.mpr λz=>g (WL z);exact⟨⟨by decide,by decide⟩,(by show 0<(((h.map prD).length:Nat):Int);lia),l _⟩
def Zlm(A:Def K mg "_law_width" CY ["_law_cell","_law_strips","_law_place_here"])
  : RS ζ:=by
 refine A.fz Zqh (λu n=>(bc (sI (tp<|wo (tc Po Pp (xv 2) xi)<|wo (tc KJ KL (xv 2)<|xl G.len<|xv 1)<|wO<|tq u (xo XX XT (xv 0) xi) xi) (b1<|sR<|xx (xL<|ac xi<|ac (xe (KR KZ X5)<|KY X2)<|ac xi<|ac xi<|ac xi<|ac xi<|ac (xo GW De xi xi) a0)<|xo XX XT (xo K8 KB (xv 0) xi) xi) b0)<|b1<|sR<|xo XX XT (xo K8 KB (xv 0) xi)<|xo XI XJ (xx (xx (xv 1)<|xo XU XW (xv 2) xi) xi) xi)) (.a ?_)
 ·rintro L R X ⟨c,ps,p,rfl,E,x,h⟩;refine⟨rfl,?_⟩;have J:(ps.map prD).length=ps.length:=WH ..;have r:0<=c / 5 % 7/\c / 5 % 7<7:=by lia
  have l:∃v:Int,atI ([0,-1,1,1000,1001,999,10 ^ (30:Int).toNat].map D.int) (c / 5 % 7)=some (.int v):=⟨_,PU (f:=D.int) (xs:=[0,-1,1,1000,1001,999,10 ^ (30:Int).toNat]) r.1 r.2⟩;obtain⟨v,o⟩:=l;refine X1 (λg=>Kz ?_) (λg=>X1 (λs=>Kz ?_) (λs=>⟨(by show(0:Int)<5;decide),X1 (λy=>?_) (λy=>?_)⟩))
  ·exact⟨⟨by decide,by decide,by decide⟩,by simp,⟨by decide,by decide⟩,(by show(0:Int)<7;decide),_,o,h _⟩
  ·exact⟨⟨by decide,by decide,by decide⟩,by simp,⟨by decide,by decide⟩,(by show(0:Int)<7;decide),_,o,h _⟩
  ·exact⟨⟨by decide,by decide,by decide⟩,by simp,⟨by decide,by decide⟩,(by show(0:Int)<7;decide),_,o,h _⟩
  ·have C:¬p<1:=λz=>g (WL z);have B:¬(((ps.map prD).length:Nat):Int)<p:=λz=>s (WL z);have H:=x _ (Sf (ps:=ps) (p:=p) (by lia)<|by lia);exact⟨⟨by decide,by decide⟩,_,PD (by lia) (by lia),_,rfl,(by show 0<(X6 ps p).2+1;lia),h _⟩
def Zgj(DD:Def K mg "_law_end" El ["_law_told","_law_many"])
  : IU ζ:=by
 refine DD.fz Zgt (λhr n=>(bc (sS 2 n<|xe (KN (HF rfl) (by rfl) G.Zg boot_list<|az<|KN Ei (by rfl) G.Zb boot_range<|bz X5<|Py XI (pv 1) X5)<|R1<|tz X2<|XJ (Xw 1) X2)<|bc (sF 0<|sO [3,4] Qd (iL<|xv 0) (gN 3)<|bc (sS 4 n<|xx (xv 2)<|xo XU XW (xx (xv 3) xi) xi)<|bc (sX 2 (xo XU XW (xx (xv 3) xi) xi)<|xx (xv 2)<|xx (xv 3) xi)<|b1<|sX 2 (xx (xv 3) xi)<|xv 4)<|b1<|sR<|xe (KN (GU (K:=K)) (by rfl) G.Zi boot_tuple<|az<|pv 2)<|Dz<|sz<|Xw 2)) (.a ?_)
 ·rintro ds R X ⟨ps,o,u,rfl,hF,hz,hM,hms,hR⟩;refine⟨rfl,⟨by decide,by decide,by lia,by lia⟩,by lia,?_⟩;have T:((ps.length:Int)+1-1).toNat=ps.length:=by lia
  refine⟨rfl,KQ (xs:=u) (emb:=mvD) (λi r=>∃g:ZX,r=[some (.bor<|.lst<|u.map mvD),some (.sh<|.int ps.length),some (.own<|g.map D.int),none,none]/\g.Perm (X0 1 ps.length)/\Mv ps (rkN ps o) g (u.drop i)/\(g.Pairwise λx y=>rkN ps o x=rkN ps o y->x<y)/\XH ps g+Kp (KC ps (rkN ps o) g)<=Tg ps o ps.length) ⟨X0 1 ps.length,?_,List.Perm.refl _,hM,?_,?_⟩ ?_ ?_⟩
  ·rw[show X0 1 ps.length=X0 1 ((ps.length:Int)+1-1).toNat by rw[T]];rfl
  ·exact(Zez ps.length).imp (λ{a b} (h:a<b)=>λ_=>h)
  ·rw[AY,Lm,show KC ps (rkN ps o) (X0 1 ps.length)=TZ o ps from Ol ps o]
   lia
  ·rintro i hi r ⟨st,rfl,C,f,l,E⟩;have hl:st.length=ps.length:=by rw[C.length_eq,KM]
   have ed:u.drop i=u[i]::u.drop (i+1):=Qw hi;rw[ed]at f;obtain⟨p,em,hfw,hp0,v,s,L,H⟩:=f.step_of;rw[em];have b1:p-1<st.length:=by lia
   have N:st.getD (p-1) 0=st[p-1]:=by rw[WK,WI b1];rfl
   have M:st.getD p 0=st[p]:=by rw[WK,WI s];rfl
   have lst:(st.map D.int).length=ps.length:=by rw[WH];exact hl
   have hi1:=Zot hF v s;have hi2:=Zqf (ps:=ps) (rkN ps o) v s L;obtain⟨A,x,y,B,ea,la,es,ex,ey⟩:=Sg v s
   have x1:ixN (st.map D.int).length ((p:Int)-1)=some (p-1):=by
    unfold ixN;rw[lst,WQ (by lia),WQ (by lia)];congr 1;lia
   have x2:∀d:D,ixN ((st.map D.int).set (p-1) d).length (p:Int)=some p:=λd=>by
    unfold ixN;rw[QN,lst,WQ (by lia),WQ (by lia)];rfl
   have e1:((st.map D.int).set (p-1) (.int<|st.getD p 0)).set p (.int<|st.getD (p-1) 0)=(Kq st p).map D.int:=by
    rw[←Zm0 v s,List.map_set,List.map_set,N,M]
   have Y:atI (st.map D.int) ((p:Int)-1)=some (.int<|st.getD (p-1) 0):=by
    rw[N,show(p:Int)-1=((p-1:Nat):Int) by lia];exact PJ (TM<|WI b1)
   have U:atI (st.map D.int) (p:Int)=some (.int<|st.getD p 0):=by
    rw[M];exact PJ (TM<|WI s)
   rw[ea]at l;rw[ex,ey]at L;have J:=Zgl l (show rkN ps o y=rkN ps o x->y<x from λz=>by lia)
   rw[←es]at J;refine⟨_,rfl,_,Y,_,rfl,_,U,_,rfl,p-1,_,x1,rfl,_,rfl,p,_,x2 _,rfl,?_⟩;refine⟨Kq st p,?_,(Em v s).trans C,H,J,by lia⟩;rw[←e1];rfl
  ·rintro r ⟨g,rfl,C,f,l,E⟩;rw[Uj]at f;have Q:FW (g.map<|rkN ps o) 0:=by cases f with|done _ h=>exact h
   have T:Kp (KC ps (rkN ps o) g)=0:=GK (by unfold KC;rw[QJ];exact IS Q);exact⟨rfl,hR _ C Q l (by lia)⟩
def Zhs(y:Def K mg "check_strips" Dx ["strips"])
  : HD ζ:=by
 refine y.fy Zso (λs n=>(bc (sI (tc KJ KL (xl G.len<|xv 0)<|xe (ExcR.P5 G.Zl) X2) (b1<|sQ G.Zk G.Zj ExcR.Pe<|a1<|xe (ExcR.NN<|ExcR.PL<|ExcR.NO (ExcR.P5 G.Zl)<|ExcR.PL ExcR.NG)<|NH<|PV<|NB X2<|PV N9) b0)<|b1<|sF 0<|sO [1,2] ExcR.Lg (iL<|xv 0) (gT 2<|gc (gN 1)<|gc (gN 2) g0)<|bc (sE<|xg Yu s ExcR.Kr<|a1<|xv 1)<|b1<|sE<|xg Y7 s ExcR.Kr<|a1<|xv 2)) (.a ?_)
 ·rintro C R X ⟨f,rfl,A,l⟩;refine⟨rfl,?_⟩;have B:(f.map prD).length=f.length:=WH ..;unfold Bu at l;refine X1 (λg=>?_) (λg=>?_)
  ·have v:(40:Int)<((f.map prD).length:Int):=WO g;rw[WQ (by lia)]at l;exact⟨by decide,by decide,by decide,by decide,by decide,by simp,l⟩
  ·have v:¬(40:Int)<((f.map prD).length:Int):=λz=>g (WL z);rw[WN (by lia)]at l;refine⟨rfl,KQ (xs:=f) (emb:=prD) (λi o=>o=[some (.bor<|plD f),none,none]/\NP (f.drop i)=NP f) ⟨rfl,rfl⟩ ?_ ?_⟩
   ·rintro i u o ⟨rfl,h⟩;have x:f.drop i=f[i]::f.drop (i+1):=Qw u;rw[x,Zjx]at h;generalize f[i]=p at h ⊢;refine⟨rfl,p.1,rfl,?_⟩;unfold Bc;by_cases c:1<=p.1/\p.1<=10
    ·rw[WN (λz=>z c)]at h;rw[WQ c];refine⟨p.2,rfl,?_⟩;unfold DV;by_cases r:1<=p.2/\p.2<=1000
     ·rw[WN (λz=>z r)]at h;rw[WQ r];exact⟨rfl,h⟩
     ·rw[WQ r]at h;rw[WN r];rw[←h]at l;exact l
    ·rw[WQ c]at h;rw[WN c];rw[←h]at l;exact l
   ·rintro o ⟨rfl,h⟩;rw[Uj]at h;rw[←h]at l;exact l
def Zp9(y:Def K mg "lies_together" GS ["strips"])
  : Zcn ζ:=by
 refine y.fz Zgp (λo n=>(bc (sC 1 ["index","strips"] [none,some 0] n (jI<|ir G.Zb<|a1<|xl G.len<|xv 0) (gN 0) (f1<|tt<|xf Y8 o<|a2 (xv 1)<|xv 0)<|xv 0)<|b1<|sR<|xe (Tx (NS (K:=K)<|show _<cLine from(o ()).units0) (ln K G.len<|pv 1) (ln K G.len<|fz Yo (o ())<|az<|pv 0)<|KO _)<|NJ (Ni<|sz<|Xw 1)<|Ni<|sz<|Pm<|sz<|Xw 0)) (.a ?_)
 ·rintro H R X ⟨f,rfl,r,u,v,x⟩;refine⟨rfl,?_⟩;have A:(f.map prD).length=f.length:=WH ..;refine⟨⟨by lia,by lia⟩,BA (λi=>if P2 f i=true then some (D.int (0+(i:Int)))else none) (by lia) (λi B=>?_) ?_⟩
  ·have p:i<f.length:=by lia
   refine⟨f,i,by rw[show(0:Int)+(i:Int)=((i:Nat):Int) by lia];rfl,p,?_⟩;exact X1 (λg=>⟨_,rfl,WQ g⟩) (λg=>WN g)
  rw[Pz (λi:Nat=>P2 f i)];refine⟨f,rfl,r,u,?_⟩
  have E:(((List.range (((f.map prD).length:Nat):Int).toNat).filter λi:Nat=>P2 f i).map λi:Nat=>D.int (0+(i:Int))).length=((List.range f.length).filter (P2 f)).length:=by
   rw[WH,show(((f.map prD).length:Nat):Int).toNat=f.length by lia]
  have C:((X8 f).map D.int).length=(X8 f).length:=WH ..;by_cases c:Sv f
  ·have:=(HR r).mpr c
   have s:((((((List.range (((f.map prD).length:Nat):Int).toNat).filter λi:Nat=>P2 f i).map λi:Nat=>D.int (0+(i:Int))).length:Nat):Int)=((((X8 f).map D.int).length:Nat):Int)):=by lia
   have l:=v c;rw[←WL s]at l;exact l
  ·have h:¬((List.range f.length).filter (P2 f)).length=(X8 f).length:=λz=>c ((HR r).mp z);have s:¬((((((List.range (((f.map prD).length:Nat):Int).toNat).filter λi:Nat=>P2 f i).map λi:Nat=>D.int (0+(i:Int))).length:Nat):Int)=((((X8 f).map D.int).length:Nat):Int)):=by lia
   have l:=x c;rw[←Ql s]at l;exact l
def Zdt(x:Def K mg "check_order" Ej ["strips","order"])
  : Zbr ζ:=by
 refine x.fy Zhu (λo n=>(b1<|sI (tn o (xe (K0 (DP (K:=K) (w:=w) rfl) (by rfl) G.Zh boot_sorted<|az<|pv 1)<|DH<|sz<|Xw 1)<|xf Yo o<|a1<|xv 0) (b1<|sQ G.ZC G.ZA ExcR.Pe<|a1 xs) b0)) (.a ?_)
 ·rintro y R X ⟨ps,os,rfl,s,p,r,f⟩;refine⟨rfl,os,rfl,r,λl v u=>⟨ps,rfl,s,p,_,_,rfl,rfl,?_⟩⟩;have q:=Zey (ps:=ps) v u;unfold FU at f;refine X1 (λg=>?_) (λg=>?_)
  ·have h:¬l=X8 ps:=λz=>by rw[WQ rfl,WL z]at g;cases g
   rw[WN (λz=>h (q.mpr z))]at f;exact⟨by simp,f⟩
  ·have h:l=X8 ps:=Qp λz=>g (by rw[WQ rfl,Ql z];rfl);rw[WQ (q.mp h)]at f;exact f
def Zu9(DD:Def K mg "ring_from" Ey ["least","holders","wishes"])
  : MW ζ:=by
 refine DD.fz Ztx (λJ n=>(bc (sF 0<|sS 3 n<|xL<|a1<|xL<|a1<|xv 0)<|bc (sS 4 n<|xe (K0 (DP (K:=K) (w:=w) rfl) (by rfl) G.Zh boot_sorted<|az<|cz ["holder","least"] [none,some 0] (S7 (K:=K)<|pv 1) ⟨(gk 0),(Ag<|T7 KJ (pv 0) (pv 1)<|KO _),(pv 0)⟩)<|DH<|sz<|Nf (Bs<|Xw 1) (KE 0) (Tj<|KL (Xw 0)<|Xw 1)<|Xw 0)<|bc (sW [5,6] Qd (tt<|xv 3)<|bc (sF 0<|sC 5 ["path","wishes","least"] [none,some 2,some 0] n (jL<|xv 3) (gN 0) (f1<|ti J (xt<|a2 (xx (xv 0)<|xe (KR KZ X5)<|KY X2)<|xv 2)<|xv 1)<|xv 0)<|bc (sI (tt<|xv 5) (b1<|sr<|xx (xv 5) xi) b0)<|bc (sS 3 n<|xf YF J<|a3 (xv 3) (xv 4)<|xv 2)<|bc (sS 6 n<|xC ["path"] [none] (jL<|xv 3) (gN 0) f0<|xx (xv 0)<|xe (KR KZ X5)<|KY X2)<|b1<|sC 4 ["holder","reached"] [none,some 6] n (jL<|xv 4) (gN 0) (f1<|tI J (xv 0)<|xv 1)<|xv 0)<|b1<|sr<|xL a0)) (.a ?_)
 ·rintro ds R X ⟨l,u,C,rfl,hz,hN,hR⟩;refine⟨rfl,by simp,by simp,Ku (xs:=u) (emb:=D.int) (λh=>if decide (l<h)=true then some (.int h)else none) (by lia) (λh _=>X1 (λg=>⟨_,rfl,WQ g⟩) (λg=>WN g)) ?_⟩;rw[Zce λh=>decide (l<h)];refine⟨u.filter λh=>decide (l<h),rfl,Uc (Q5 _ _) (by lia),λf s U=>?_⟩
  have A:∀h∈f,Gr u l h:=λh z=>by
   rw[s.mem_iff,Qg,Jd]at z;exact z
  have E:f.length<=u.length:=by
   rw[s.length_eq];exact Q5 _ _
  refine Ai (λB=>∃k o f,B=[some (.sh<|.int l),some (.bor<|.lst<|u.map D.int),some (.bor<|.lst<|C.map prD),some (.own<|o.map<|em l),some (.own<|f.map D.int),none,none]/\(∀p∈o,p.length=k/\Path (Gr u l) C l p)/\(∀h∈f,Gr u l h)/\o.length<=60/\f.length<=u.length/\(k+f.length<=u.length\/(o=[]/\k<=u.length+1)))
   (λT=>2*Zbf 4 T+min 1 (Zbf 3 T)) ⟨0,[[]],f,rfl,(λp z=>by rw[WR.mp z];exact⟨rfl,trivial⟩),A,by simp,E,.inl (by lia)⟩ ?_
  rintro B ⟨k,o,f,rfl,L,A,Y,hll,hk⟩;have Q:(!(o.map<|em l).isEmpty)=decide (o≠[]):=by cases o<;>simp
  show if (!(o.map<|em l).isEmpty)=true then _ else _;rw[Q];refine X1 (λg=>?_) (λg=>?_)
  ·have y:o≠[]:=WO g;have hk':k+f.length<=u.length:=hk.elim id λz=>absurd z.1 y;have M:∀p∈o,p.length<=60:=λp s=>by rw[(L p s).1];lia
   have hn:∀p∈o,(Kj l p,l)∉C:=λp s z=>hN p ⟨(L p s).2,z⟩;refine Ku (xs:=o) (emb:=em l) (λ_=>none) (by lia) (λp s=>⟨_,Gp l p,by simp,_,.lp (Kj l p,l) C,X1 (λg=>absurd (WO g) (hn p s)) (λg=>rfl)⟩) ?_;have e0:o.filterMap (λ_=>(none:Option D))=[]:=by simp
   rw[e0];refine⟨l,o,f,C,rfl,λp s=>WW (M p s) (by decide),by lia,λr G hlg=>?_⟩;refine Ku (xs:=r) (emb:=em l) (λp=>some (.int<|Kj l p)) (by lia) (λp _=>⟨_,Gp l p,_,rfl,rfl⟩) ?_;have e1:r.filterMap (λp=>some (D.int<|Kj l p))=(r.map<|Kj l).map D.int:=by rw[Ja,Qt];rfl
   rw[e1];refine Ku (xs:=f) (emb:=D.int) (λh=>if decide (¬h∈r.map (Kj l))=true then some (.int h)else none) (by lia) (λh _=>⟨_,.li h _,?_⟩) ?_
   ·by_cases c:h∈r.map (Kj l)
    ·simp only[WL c];exact Ki (WN<|by simp[c])
    ·simp only[Ql c];exact Kz ⟨_,rfl,WQ (by simp[c])⟩
   rw[Zce λh=>decide (¬h∈r.map (Kj l))];have H:=Q5 (λh=>decide (¬h∈r.map (Kj l))) f
   have v:r≠[]->(f.filter λh=>decide (¬h∈r.map (Kj l))).length<f.length:=λy=>by
    obtain⟨q,hq⟩:=List.exists_mem_of_ne_nil r y
    have A:Kj l q∈f:=by
     obtain⟨p,_,x,hx,rfl,_⟩:=G q hq;rw[Sq];exact hx
    refine Nat.lt_of_le_of_ne H λz=>?_
    have:=List.filter_eq_self.mp (List.Sublist.eq_of_length (JW (l:=f)) z) (Kj l q) A
    rw[Jd]at this;exact this (List.mem_map_of_mem hq)
   refine⟨⟨k+1,r,_,rfl,λq hq=>?_,λh hh=>A h (Qg.mp hh).1,by lia,by lia,?_⟩,?_⟩
   ·obtain⟨p,s,x,hx,rfl,hw⟩:=G q hq;exact⟨by rw[WT,(L p s).1];rfl,path_app.mpr ⟨(L p s).2,A x hx,hw,trivial⟩⟩
   ·by_cases c:r=[]
    ·exact .inr ⟨c,by lia⟩
    ·have:=v c
     exact .inl (by lia)
   ·show 2*((f.filter λh=>decide (¬h∈r.map (Kj l))).map D.int).length+min 1 (r.map<|em l).length<2*(f.map D.int).length+min 1 (o.map<|em l).length;rw[WH,WH,WH,WH]
    have:0<o.length:=VO.mpr y
    by_cases c:r=[]
    ·rw[c];rw[c]at H;simp only[JR];lia
    ·have:=v c
     lia
  ·have N:o=[]:=Qp λz=>g (WL z);subst N;exact⟨by simp,hR⟩
def Ze9(v:Def K mg "sold" Ct ["strips","place","holder"])
  : Ht ζ:=by
 refine v.fy Ztn (λo n=>(bc (sE<|xg Y1 o ExcR.Kr<|a2 (xv 0)<|xv 1)<|bc (sE<|xg Yu o ExcR.Kr<|a1<|xv 2)<|bc (sS 3 n<|xx (xv 0)<|xo XU XW (xv 1) xi)<|bc (sI (tq o (xx (xv 3) xi)<|xv 2) (b1<|sQ G.ZE G.ZD ExcR.Pe<|a1 xs) b0)<|b1<|sF 2<|sR<|xo Pd Pi (xo Pd Pi (xp (xv 0) o0<|o1<|xo XU XW (xv 1) xi)<|xL<|a1<|xt<|a2 (xv 2)<|xx (xv 3) xi)<|xp (xv 0) (o1<|xv 1) o0)) (.a ?_)
 ·rintro A R X ⟨ps,p,h,rfl,y,f⟩;refine⟨rfl,?_⟩;unfold P3 at f;refine⟨ps,p,rfl,?_⟩;unfold Aq;by_cases c:p<1\/(ps.length:Int)<p
  ·rw[WQ c]at f ⊢;exact f
  ·rw[WN c]at f ⊢;refine⟨h,rfl,?_⟩;unfold Bc;by_cases l:1<=h/\h<=10
   ·rw[WN (λz=>z l)]at f;rw[WQ l];refine⟨_,PD (by lia) (by lia),?_⟩;have s:(cutD (ps.map prD) none<|some (p-1)).length<=1000:=by have:=(Nb (ps.map prD) none<|some (p-1)).length_le;rw[WH]at this;lia
    have u:(cutD (ps.map prD) (some p) none).length<=1000:=by have:=(Nb (ps.map prD) (some p) none).length_le;rw[WH]at this;lia
    refine⟨_,rfl,X1 (λg=>?_) (λg=>?_)⟩
    ·have r:(X6 ps p).1=h:=WO g;rw[WQ r]at f;exact⟨by simp,f⟩
    ·have r:¬(X6 ps p).1=h:=λz=>g (WL z);rw[WN r]at f;refine⟨TU _,_,rfl,by simp,by simp,rfl,rfl,WW (Qy s<|WS 1) (by decide),TU _,rfl,rfl,WW (Qy (by rw[WT];exact Qy s (WS 1)) u) (by decide),?_⟩;have e:=Ho (ps:=ps) (p:=p) (x:=(h,(X6 ps p).2)) (by lia) (by lia);show R (.own (cutD (ps.map prD) none (some (p-1))++[prD (h,(X6 ps p).2)]++cutD (ps.map prD) (some p) none));rw[e];exact f
   ·rw[WQ l]at f;rw[WN l];exact f
def Zp1(A:Def K mg "parted" EO ["strips","place","width"])
  : HK ζ:=by
 refine A.fy Zc4 (λx n=>(bc (sE<|xg Y1 x ExcR.Kr<|a2 (xv 0)<|xv 1)<|bc (sS 3 n<|xx (xv 0)<|xo XU XW (xv 1) xi)<|bc (sI (tp<|wo (tc Po Pp (xv 2) xi)<|wO<|tc Bo Ba (xv 2)<|xx (xv 3) xi) (b1<|sQ G.ZL G.ZK ExcR.Pe<|a1 xs) b0)<|bc (sI (tc Bo Ba (xl G.len<|xv 0)<|xe (ExcR.P5 G.Zl) X2) (b1<|sQ G.Zk G.Zj ExcR.Pe<|a1<|xe (ExcR.NN<|ExcR.PL<|ExcR.NO (ExcR.P5 G.Zl)<|ExcR.PL ExcR.NG)<|NH<|PV<|NB X2<|PV N9) b0)<|b1<|sF 2<|sR<|xo Pd Pi (xo Pd Pi (xp (xv 0) o0<|o1<|xo XU XW (xv 1) xi)<|xL<|a2 (xt<|a2 (xx (xv 3) xi)<|xv 2)<|xt<|a2 (xx (xv 3) xi)<|xo XU XW (xx (xv 3) xi)<|xv 2)<|xp (xv 0) (o1<|xv 1) o0)) (.a ?_)
 ·rintro J R X ⟨h,p,w,rfl,B,f⟩;refine⟨rfl,?_⟩;have C:(h.map prD).length=h.length:=WH ..;refine⟨h,p,rfl,?_⟩;unfold KD at f;unfold Aq;by_cases c:p<1\/(h.length:Int)<p
  ·rw[WQ c]at f ⊢;exact f
  ·rw[WN c]at f ⊢;refine⟨_,PD (by lia) (by lia),?_⟩
   have E:¬(w<1\/(X6 h p).2<=w)->_:=λo=>by
    rw[WN o]at f;exact f
   by_cases o:w<1\/(X6 h p).2<=w
   ·rw[WQ o]at f;refine X1 (λg=>Kz ⟨by simp,f⟩) (λg=>⟨_,rfl,X1 (λl=>⟨by simp,f⟩) (λl=>?_)⟩);have H:¬w<1:=λz=>g (WL z);have y:¬(X6 h p).2<=w:=λz=>l (WL z);lia
   ·rw[WN o]at f;refine X1 (λg=>absurd (WO g) (by lia)) (λg=>⟨_,rfl,X1 (λl=>absurd (WO l) (by lia)) (λl=>?_)⟩);refine X1 (λs=>?_) (λs=>?_)
    ·have r:(40:Int)<=((h.map prD).length:Int):=WO s;rw[WQ (by lia)]at f;exact⟨by decide,by decide,by decide,by decide,by decide,by simp,f⟩
    ·have r:¬(40:Int)<=((h.map prD).length:Int):=λz=>s (WL z);rw[WN (by lia)]at f;have u:(cutD (h.map prD) none<|some (p-1)).length<=1000:=by have:=(Nb (h.map prD) none<|some (p-1)).length_le;rw[WH]at this;lia
     have v:(cutD (h.map prD) (some p) none).length<=1000:=by have:=(Nb (h.map prD) (some p) none).length_le;rw[WH]at this;lia
     refine⟨TU _,_,rfl,by simp,_,rfl,_,rfl,by simp,by simp,rfl,rfl,WW (Qy u<|WS 2) (by decide),TU _,rfl,rfl,WW (Qy (by rw[WT];exact Qy u (WS 2)) v) (by decide),?_⟩;rw[←Oo (by lia)]at f;exact f
def Zhg(v:Def K mg "united" Dn ["strips","place"])
  : Rf ζ:=by
 refine v.fy Zsi (λr n=>(bc (sE<|xg YD r ExcR.Kr<|a2 (xv 0)<|xv 1)<|bc (sS 2 n<|xx (xv 0)<|xo XU XW (xv 1) xi)<|bc (sS 3 n<|xx (xv 0)<|xv 1)<|bc (sI (tn r (xx (xv 2) xi)<|xx (xv 3) xi) (b1<|sQ G.Zu G.Zt ExcR.Pe<|a1 xs) b0)<|bc (sI (tc KJ KL (xo XI XJ (xx (xv 2) xi)<|xx (xv 3) xi)<|xe (ExcR.P5 G.Zm) X2) (b1<|sQ G.ZN G.ZM ExcR.Pe<|a1<|xe (ExcR.NN<|ExcR.PL<|ExcR.NO (ExcR.P5 G.Zm)<|ExcR.PL ExcR.NG)<|NH<|PV<|NB X2<|PV N9) b0)<|b1<|sR<|xo Pd Pi (xo Pd Pi (xp (xv 0) o0<|o1<|xo XU XW (xv 1) xi)<|xL<|a1<|xt<|a2 (xx (xv 2) xi)<|xo XI XJ (xx (xv 2) xi)<|xx (xv 3) xi)<|xp (xv 0) (o1<|xo XI XJ (xv 1) xi) o0)) (.a ?_)
 ·rintro A R X ⟨ps,p,rfl,x,f⟩;refine⟨rfl,?_⟩;have y:(ps.map prD).length=ps.length:=WH ..;refine⟨ps,p,rfl,?_⟩;unfold Kt at f;by_cases c:p<1\/(ps.length:Int)<=p
  ·rw[WQ c]at f ⊢;exact f
  ·rw[WN c]at f ⊢
   have u:atI (ps.map prD) p=some (prD<|X6 ps (p+1)):=by
    have:=PD (ps:=ps) (p:=p+1) (by lia) (by lia)
    rwa[show p+1-1=p by lia]at this
   refine⟨_,PD (by lia) (by lia),_,u,_,rfl,_,rfl,X1 (λg=>?_) (λg=>?_)⟩
   ·have l:¬(X6 ps p).1=(X6 ps (p+1)).1:=λz=>by rw[WL z]at g;cases g
    rw[WQ l]at f;exact⟨by simp,f⟩
   ·have l:(X6 ps p).1=(X6 ps (p+1)).1:=Qp λz=>g (by rw[Ql z];rfl);rw[WN (λz=>z l)]at f;refine⟨_,rfl,_,rfl,X1 (λh=>?_) (λh=>?_)⟩
    ·rw[WQ (WO h)]at f;exact⟨by decide,by decide,by decide,by decide,by decide,by simp,f⟩
    ·rw[WN (λz=>h (WL z))]at f;have o:(cutD (ps.map prD) none<|some (p-1)).length<=1000:=by have:=(Nb (ps.map prD) none<|some (p-1)).length_le;rw[WH]at this;lia
     have s:(cutD (ps.map prD) (some (p+1)) none).length<=1000:=by have:=(Nb (ps.map prD) (some (p+1)) none).length_le;rw[WH]at this;lia
     refine⟨TU _,_,rfl,_,rfl,_,rfl,by simp,by simp,rfl,rfl,WW (Qy o<|WS 1) (by decide),TU _,rfl,rfl,WW (Qy (by rw[WT];exact Qy o (WS 1)) s) (by decide),?_⟩;rw[←RR (by lia)]at f;exact f
def Zfm(y:Def K mg "with_wish" CK ["wishes","ahead","behind"])
  : Zbj ζ:=by
 refine y.fy Ze1 (λl n=>(bc (sE<|xg Yu l ExcR.Kr<|a1<|xv 1)<|bc (sE<|xg Yu l ExcR.Kr<|a1<|xv 2)<|bc (sI (tq l (xv 1)<|xv 2) (b1<|sQ G.Zz G.Zy ExcR.Pe<|a1 xs) b0)<|bc (sI (ti l (xt<|a2 (xv 1)<|xv 2)<|xv 0) (b1<|sQ G.Z4 G.Z3 ExcR.Pe<|a1 xs) b0)<|bc (sI (tc Bo Ba (xl G.len<|xv 0)<|xe (ExcR.P5 G.Zn) X2) (b1<|sQ G.Zw G.Zv ExcR.Pe<|a1<|xe (ExcR.NN<|ExcR.PL<|ExcR.NO (ExcR.P5 G.Zn)<|ExcR.PL ExcR.NG)<|NH<|PV<|NB X2<|PV N9) b0)<|b1<|sF 2<|sF 1<|sR<|xo Pd Pi (xv 0)<|xL<|a1<|xt<|a2 (xv 1)<|xv 2)) (.a ?_)
 ·rintro A R X ⟨h,a,b,rfl,v,f⟩;refine⟨rfl,?_⟩;have x:(h.map prD).length=h.length:=WH ..;unfold K5 at f;refine⟨a,rfl,?_⟩;unfold Bc;by_cases p:1<=a/\a<=10
  ·rw[WN (λz=>z p)]at f;rw[WQ p];refine⟨b,rfl,?_⟩;unfold Bc;by_cases o:1<=b/\b<=10
   ·rw[WN (λz=>z o)]at f;rw[WQ o];refine X1 (λg=>?_) (λg=>?_)
    ·rw[WQ (WO g)]at f;exact⟨by simp,f⟩
    ·rw[WN (λz=>g (WL z))]at f;refine⟨by simp,_,.lp (a,b) h,X1 (λu=>?_) (λu=>?_)⟩
     ·rw[WQ (WO u)]at f;exact⟨by simp,f⟩
     ·rw[WN (λz=>u (WL z))]at f;refine X1 (λs=>?_) (λs=>?_)
      ·have r:(20:Int)<=((h.map prD).length:Int):=WO s;rw[WQ (by lia)]at f;exact⟨by decide,by decide,by decide,by decide,by decide,by simp,f⟩
      ·have r:¬(20:Int)<=((h.map prD).length:Int):=λz=>s (WL z);rw[WN (by lia)]at f;refine⟨by simp,by simp,TU _,rfl,WW (Qy (WW (Vr x) v)<|WS 1) (by decide),?_⟩;rw[WY]at f;exact f
   ·rw[WQ o]at f;rw[WN o];exact f
  ·rw[WQ p]at f;rw[WN p];exact f
def Zmo(E:Def K mg "pair_costs" Dh ["strips"])
  : Zbu ζ:=by
 refine E.fz Mg (λr n=>(bc (sS 1 n<|xf Yo r<|a1<|xv 0)<|bc (se (Pu.pz 2 Mg.nd L3)<|TH MT<|KE 2)<|bc (sF 1<|sO [3,4] Qd (iL<|xv 1) (gN 3)<|b1<|sF 1<|sO [4] Qd (iL<|xv 1) (gN 4)<|b1<|sF 4<|sF 3<|se (BW (K7<|r ()) (pv 2) (PK<|bz (pv 3)<|pv 4) (fz YA (r ())<|dz (pv 0) (pv 3)<|pv 4) rfl)<|BL 2 (PB<|tz (Xw 3)<|Xw 4)<|Pm<|uz (Xw 0) (Xw 3)<|Xw 4)<|b1<|sV 2)) (.a ?_)
 ·rintro H R X ⟨l,rfl,v,z,u⟩;refine⟨rfl,l,rfl,v,z,?_⟩;have C:=Sj l;generalize X8 l=g at C u ⊢
  refine⟨rfl,KQ (xs:=g) (emb:=D.int) (λi h=>∃f:List (List Key×V),h=[some (.bor<|.lst<|l.map prD),some (.sh<|.lst<|g.map D.int),some (.own<|.dT f),none,none]/\f.length<=i*10/\
   ∀x∈g.take i,∀y∈g,XA f [.inl x,.inl y]=some (.int<|pcM l x y l.length)) ⟨[],rfl,by simp,by simp⟩ ?_ ?_⟩
  ·rintro i B h ⟨f,rfl,s,p⟩
   refine⟨rfl,KQ (xs:=g) (emb:=D.int) (λj h=>∃f:List (List Key×V),h=[some (.bor<|.lst<|l.map prD),some (.sh<|.lst<|g.map D.int),some (.own<|.dT f),some (.sh (.int g[i])),none]/\f.length<=i*10+j/\
    (∀x∈g.take i,∀y∈g,XA f [.inl x,.inl y]=some (.int<|pcM l x y l.length))/\∀y∈g.take j,XA f [.inl g[i],.inl y]=some (.int (pcM l g[i] y l.length))) ⟨f,rfl,by lia,p,by simp⟩ ?_ ?_⟩
   ·rintro j A h ⟨f,rfl,s,p,hw⟩;refine⟨l,_,_,rfl,v,by simp,_,_,rfl,rfl,by lia,_,rfl,WW (Fg _ _ _) (by lia),λx hx y o=>?_,λy o=>?_⟩
    ·rw[BS];by_cases e:([.inl x,.inl y]:List Key)=[.inl g[i],.inl g[j]]
     ·rw[WQ e];simp only[JT,Sum.inl.injEq,and_true]at e;rw[e.1,e.2]
     ·rw[WN e];exact p x hx y o
    ·rw[BS];by_cases e:([.inl g[i],.inl y]:List Key)=[.inl g[i],.inl g[j]]
     ·rw[WQ e];simp only[JT,Sum.inl.injEq,and_true]at e;rw[e.2]
     ·rw[WN e];rw[Qh A,Qm,WR]at o;rcases o with o|o
      ·exact hw y o
      ·subst o;exact absurd rfl e
   ·rintro h ⟨f,rfl,s,p,hw⟩;rw[QF]at hw;refine⟨f,rfl,by lia,λx hx y o=>?_⟩;rw[Qh B,Qm,WR]at hx;rcases hx with hx|hx
    ·exact p x hx y o
    ·subst hx;exact hw y o
  ·rintro h ⟨f,rfl,s,p⟩;rw[QF]at p;exact u f p
def Zs8(y:Def K mg "cost_with_last" Gg ["members","last","least","pairs"])
  : O5 ζ:=by
 refine y.fz Zll (λg n=>(bc (sS 4 n<|xf Yv g<|a2 (xv 0)<|xv 1)<|b1<|sF 1<|sR<|xo XI XJ (xe (TJ (K7<|g ()) (pv 2) (pv 4) (λ_ _=>rfl))<|Sm (Xw 2)<|Xw 4)<|xe (K0 (GQ (K:=K) rfl) (by rfl) G.ZJ boot_sum<|az<|cz ["other","pairs","last"] [none,some 3,some 1] (NT (K:=K)<|pv 4) ⟨(gk 0),Su,(TJ (K7<|g ()) (pv 1) (PK<|bz (pv 0)<|pv 2) (λ_ _=>rfl))⟩)<|Ez<|sz<|Nf (SndI.c<|NA<|Xw 4) (KE 0) SS<|Sm (Xw 1)<|PB<|tz (Xw 0)<|Xw 2)) (.a ?_)
 ·rintro A R X ⟨f,l,le,z,c,v,rfl,h,p,u,x⟩;refine⟨rfl,?_⟩;rw[Sw];have o:(XG f l).length<=1000:=WW less_sub.length_le h;refine⟨f,l,rfl,h,_,_,Nr _,p,rfl,_,rfl,Ku (s:=.sh .non) (xs:=XG f l) (emb:=D.int) (λm=>some (.int<|c m)) (by lia) (λm r=>?_) ?_⟩
  ·exact⟨by simp,_,_,rfl,u m r,rfl,_,rfl,rfl⟩
  ·rw[T5];exact⟨(XG f l).map c,by rw[Qt];rfl,x⟩
def Zsv(y:Def K mg "cost_with_first" Cr ["members","first","least","pairs"])
  : OD ζ:=by
 refine y.fz Zrr (λg n=>(bc (sS 4 n<|xf Yv g<|a2 (xv 0)<|xv 1)<|b1<|sF 1<|sR<|xo XI XJ (xe (TJ (K7<|g ()) (pv 2) (pv 4) (λ_ _=>rfl))<|Sm (Xw 2)<|Xw 4)<|xe (K0 (GQ (K:=K) rfl) (by rfl) G.ZJ boot_sum<|az<|cz ["other","pairs","first"] [none,some 3,some 1] (NT (K:=K)<|pv 4) ⟨(gk 0),Su,(TJ (K7<|g ()) (pv 1) (PK<|bz (pv 2)<|pv 0) (λ_ _=>rfl))⟩)<|Ez<|sz<|Nf (SndI.c<|NA<|Xw 4) (KE 0) SS<|Sm (Xw 1)<|PB<|tz (Xw 2)<|Xw 0)) (.a ?_)
 ·rintro A R X ⟨f,l,le,z,c,v,rfl,h,p,u,x⟩;refine⟨rfl,?_⟩;rw[Sw];have o:(XG f l).length<=1000:=WW less_sub.length_le h;refine⟨f,l,rfl,h,_,_,Nr _,p,rfl,_,rfl,Ku (s:=.sh .non) (xs:=XG f l) (emb:=D.int) (λm=>some (.int<|c m)) (by lia) (λm r=>?_) ?_⟩
  ·exact⟨by simp,_,_,rfl,u m r,rfl,_,rfl,rfl⟩
  ·rw[T5];exact⟨(XG f l).map c,by rw[Qt];rfl,x⟩
def Zkv(z:Kb K (Kc K (XM ζ) "drop") "drop" "Village.drop" CD ["self","ahead","behind"])
  : Lx ζ:=by
 refine z.fy Zqc (λl n=>(bc (se (PM<|K9 Yq G.Za (hq<|l ()) ExcR.Kr<|pv 0)<|SJ<|F3 Fm (Xw 0) Ka)<|bc (sS 3 n<|xg YG l ExcR.Kr<|a3 (xe (K9 Yn G.Za (hq<|l ()) K4<|pv 0)<|Pa S8 (Xw 0) Ka) (xv 1)<|xv 2)<|b1<|sF 2<|sF 1<|sF 3<|se (KA<|TR Yr G.Za (hq<|l ()) K4 (pv 0)<|dz (PK<|dz NZ (pv 1)<|pv 2) (K9 Ym G.Za (hq<|l ()) K4<|pv 0)<|pv 3)<|T6<|SR 0 Fn<|uz (PB<|uz NV (Xw 1)<|Xw 2) (Pa NQ (Xw 0) Ka)<|Xw 3)) (.c ?_)
 ·rintro o A R X ⟨x,b1,y,v,bk,fs,r,f,w,p,h,rfl,rfl,u,B,hw,s,g⟩;refine⟨rfl,?_⟩;unfold FS at g;refine⟨rfl,rfl,bk,fs++[f],r++[w],rfl,?_⟩;unfold Sa;by_cases c:100<=bk.length
  ·rw[WQ c]at g ⊢;exact⟨_,rfl,⟨rfl,by simp⟩,g⟩
  ·rw[WN c]at g ⊢;refine⟨rfl,rfl,bk,fs++[f],r,w,rfl,w,p,h,rfl,s,?_⟩;cases e:K6 w p h with
   |some c=>
    rw[e]at g;exact⟨_,rfl,⟨rfl,by simp⟩,g⟩
   |none=>
    rw[e]at g;refine⟨rfl,rfl,by simp,rfl,rfl,bk,fs,r++[w],f,rfl,?_⟩;exact⟨x,b1,y,v,bk,fs++[f],r++[w],("drop",[p,h]),f,Nd w p h,rfl,rfl,u,by rw[WT];simp;lia,by rw[WT];simp;lia,_,rfl,⟨rfl,by simp⟩,g⟩
def Zrq(M:Def K mg "longer_stands" Gw ["strips","stands"])
  : OZ ζ:=by
 refine M.fz Zr1 (λp n=>(bc (sS 2 n<|xL a0)<|bc (sF 1<|sO [3,4,5] Qd (iL<|xv 1) (gT 2<|gc (gN 3)<|gc (gN 4) g0)<|b1<|sO [5] Qd (iL<|xf Yz p<|a1<|xv 0) (gN 5)<|b1<|sI (tI p (xv 5)<|xv 3) (b1<|sF 5<|sA 2<|xt<|a2 (xe (Py (FI (K:=K)) (pv 3)<|PK<|az<|pv 5)<|Al (Xw 3)<|PB<|sz<|Xw 5)<|xo XI XJ (xv 4)<|xf YL p<|a3 (xv 0) (xv 3)<|xv 5) b0)<|b1<|sV 2)) (.a ?_)
 ·rintro T R X ⟨f,l,rfl,H,z,N,hq,E⟩;refine⟨rfl,by simp,rfl,KQ (xs:=l) (emb:=stD) (λi h=>h=[some (.bor<|plD f),some (.bor<|.lst<|l.map stD),some (.own (((l.take i).flatMap (T4 f)).map stD)),none,none,none]) rfl ?_ ?_⟩
  ·rintro i y h rfl
   have J:(l.take (i+1)).flatMap (T4 f)=(l.take i).flatMap (T4 f)++T4 f l[i]:=by
    rw[Qh y,List.flatMap_append];simp
   have u:=Ha z (l.take i);have B:(l.take i).length<=1000000:=by rw[Qo];lia
   have r:=hq _ (Qc y);rw[J];generalize l[i]=q at r ⊢;generalize (l.take i).flatMap (T4 f)=A at u ⊢;rw[show(arg<|D.lst<|l.map stD).sub (stD q)=Pu.S.sh (stD q)from GV q]
   refine⟨rfl,f,rfl,by lia,?_⟩;refine⟨rfl,KQ (xs:=X0 1 f.length) (emb:=D.int) (λj h=>h=[some (.bor<|plD f),some (.bor<|.lst<|l.map stD),some (.own ((A++((((X0 1 f.length).take j).filter λx=>!decide (x∈q.1)).map λx=>(q.1++[x],q.2+Pt f q.1 x))).map stD)),some (.sh<|tD q.1),some (.sh<|.int q.2),none]) (by simp;rfl) ?_ ?_⟩
   ·rintro j v h rfl;have s:=run_mem.mp (Qc v);have L:(X0 1 f.length).take (j+1)=(X0 1 f.length).take j++[(X0 1 f.length)[j]]:=Qh v;have o:=Q5 (λx=>!decide (x∈q.1)) ((X0 1 f.length).take j);rw[Qo]at o;have C:(X0 1 f.length).length=f.length:=KM _;rw[L,List.filter_append,WY];generalize (X0 1 f.length)[j]=x at s ⊢;generalize Q:(((X0 1 f.length).take j).filter λx=>!decide (x∈q.1))=P at o ⊢;refine⟨_,.ti _ _,X1 (λg=>?_) (λg=>?_)⟩
    ·refine⟨by simp,_,_,rfl,rfl,?_,f,q.1,x,rfl,H,by lia,s.1,s.2,by simp,?_,?_⟩
     ·show(q.1.map D.int).length+1<=100000;rw[WH];lia
     ·rw[WT,WH,WH,WH];lia
     ·rw[show([x].filter λx=>!decide (x∈q.1))=[x]from J1 g]
      show[_,_,some (Pu.S.own<|O.lst ((A.map stD++(P.map λx=>(q.1++[x],q.2+Pt f q.1 x)).map stD)++[.tup [.tup (q.1.map D.int++[D.int x]),.int (q.2+Pt f q.1 x)]])),_,_,_]=_
      have e:D.tup [.tup (q.1.map D.int++[D.int x]),.int (q.2+Pt f q.1 x)]=stD (q.1++[x],q.2+Pt f q.1 x):=by
       unfold stD tD;rw[WY];rfl
      rw[e];simp[WY]
    ·rw[show([x].filter λx=>!decide (x∈q.1))=[]from J2 g]
     simp;rfl
   ·rintro h rfl;rw[QF];rfl
  ·rintro h rfl;rw[QF];exact E
def Zpa(l:Def K mg "_law_draw" Hh ["_law_script","_law_k"])
  : ON ζ:=by
 refine l.fz Zjw (λf n=>(bc (sI (tq f (xo XX XT (xf Yl f<|a2 (xv 0) xi) xi) xi) (b1<|sR<|xf Yl f<|a2 (xv 0)<|xo XI XJ xi<|xv 1) b0)<|b1<|sR<|xf Yt f<|a2 (xf Yl f<|a2 (xv 0) xi)<|xv 1)) (.a ?_)
 ·rintro p R X ⟨g,k,rfl,o,h⟩;refine⟨rfl,g,0,rfl,by decide,(by show(0:Int)<2;decide),X1 (λ_=>?_) (λ_=>?_)⟩
  ·exact⟨g,_,rfl,by lia,h _⟩
  ·exact⟨g,1,rfl,by decide,_,_,rfl,h _⟩
def Zjz(s:Def K mg "_law_row" Gz ["_law_found","_law_due"])
  : HH ζ:=by
 refine s.fz Zff (λg n=>(bc (sI (tp<|wo (tN<|tt<|xe (K0 (SX (K:=K)) (by rfl) G.Zf VX<|bz (pv 0)<|Bk (v:=.ty "list") rfl G.Zg boot_list rfl)<|Br<|tz (Xw 0) Bv)<|wO<|tn g (xl G.len<|xv 0)<|xl G.len<|xv 1) (b1<|sR xb) b0)<|bc (sO [2] Qd (ir G.Zb<|a1<|xl G.len<|xv 1) (gN 2)<|b1<|sI (tp<|wo (tN<|tt<|xf Ys g<|a1<|xx (xv 0)<|xv 2)<|wO<|tn g (xx (xv 0)<|xv 2)<|xx (xv 1)<|xv 2) (b1<|sR xb) b0)<|b1<|sR xb)) (.a ?_)
 ·rintro y R X ⟨xs,rfl,u,r⟩;refine⟨rfl,?_⟩;have x:(xs.map D.int).length=xs.length:=WH ..;refine⟨_,.same _,Ki (An rfl ?_)⟩;refine⟨⟨by lia,by lia⟩,TX (λi f=>f=[some (.bor<|.lst<|xs.map D.int),some (.bor<|.lst<|xs.map D.int),none]) rfl ?_ ?_⟩
  ·rintro i f o rfl;have l:i<(((xs.map D.int).length:Nat):Int).toNat:=o;have ez:(0:Int)+(i:Int)=(i:Int):=by lia
   have p:i<xs.length:=by lia
   have h:atI (xs.map D.int) (0+(i:Int))=some (.int xs[i]):=by rw[ez];exact Ak p
   exact⟨_,h,_,rfl,Ki ⟨_,h,_,h,An rfl rfl⟩⟩
  ·rintro f rfl;exact r
def Zq4(C:Def K mg "_law_stand_is" Cm ["_law_found","_law_many"])
  : Zcf ζ:=by
 refine C.fz Zh5 (λg n=>(bc (sI (tp<|wo (tN<|tt<|xe (K0 (SX (K:=K)) (by rfl) G.Zf VX<|bz (pv 0)<|Bk (v:=.ty "tuple") rfl G.Zi boot_tuple rfl)<|Br<|tz (Xw 0) Bv)<|wo (tn g (xl G.len<|xv 0) xi)<|wO<|tN<|tt<|xe (K0 (SX (K:=K)) (by rfl) G.Zf VX<|bz (jx K (pv 0) X5)<|Bk (v:=.ty "tuple") rfl G.Zi boot_tuple rfl)<|Br<|tz (XS (Xw 0) X2) Bv) (b1<|sR xb) b0)<|bc (sI (tp<|wo (tN<|tt<|xf Ys g<|a1<|xx (xv 0) xi)<|wO<|tn g (xl G.len<|xx (xv 0) xi)<|xv 1) (b1<|sR xb) b0)<|bc (sO [2] Qd (ie (NT (K:=K)<|jx K (pv 0) X5)<|NA<|XS (Xw 0) X2) (gN 2)<|b1<|sI (tN<|tt<|xf Ys g<|a1<|xv 2) (b1<|sR xb) b0)<|b1<|sR<|xe (Tx (NS (K:=K)<|show _<cLine from(g ()).units0) (K0 (Zpm (K:=K)) (by rfl) G.Zh boot_sorted<|az<|jx K (pv 0) X5) (KN (HF rfl) (by rfl) G.Zg boot_list<|az<|KN Ei (by rfl) G.Zb boot_range<|bz X5<|Py XI (pv 1) X5)<|KO _)<|NJ (Zlv<|sz<|XS (Xw 0) X2)<|R1<|tz X2<|XJ (Xw 1) X2)) (.a ?_)
 ·rintro J R X ⟨q,n,rfl,E,l,x⟩;refine⟨rfl,?_⟩;have u:q.1.length=n:=by rw[l.length_eq,KM]
  have o:(q.1.map D.int).length=n:=by rw[WH];exact u
  unfold PY;rw[Qa,Qa,GV];refine⟨true,.same _,Ki ?_⟩;refine⟨_,rfl,true,.same _,Ki ?_⟩;refine⟨_,rfl,q.2,rfl,Ki ⟨_,rfl,An (by rw[o]) ?_⟩⟩;refine⟨_,rfl,_,rfl,KQ (s:=.sh .non) (xs:=q.1) (emb:=D.int) (λi f=>f=[some (.sh<|stD q),some (.sh<|.int n),none]) rfl ?_ ?_⟩
  ·rintro i H f rfl;exact⟨_,rfl,Ki rfl⟩
  ·rintro f rfl;refine⟨_,rfl,q.1,rfl,by lia,λh p y=>?_⟩;have r:h.Nodup:=(p.trans l).symm.nodup (T9 n);have A:h=X0 1 n:=A3 (Cj y r) (BB n) λz=>(p.trans l).mem_iff;have B:((n:Int)+1-1).toNat=n:=by lia
   refine⟨⟨by decide,by decide,by lia,by lia⟩,by lia,_,_,rfl,rfl,?_⟩;show R (.sh<|.bl<|decide (h=X0 1 ((n:Int)+1-1).toNat));rw[B,WL A];exact x
def Zj2(DD:Def K mg "_law_price_list" Ep ["_law_prices_here","_law_strips"])
  : MZ ζ:=by
 refine DD.fz Zpr (λf n=>(bc (sS 2 n<|xe (KN (Zk9 rfl) (by rfl) G.Zi boot_tuple<|az<|KN Ei (by rfl) G.Zb boot_range<|bz X5<|Py XI (ln K G.len<|pv 1) X5)<|Zmq<|tz X2<|XJ (Ni<|sz<|Xw 1) X2)<|bc (sI (tp<|wo (te (Fz<|OO (K7<|f ()) (pv 2)<|pv 0)<|B5<|Zuh (Xw 2)<|Xw 0)<|wO<|tn f (xe (TJ (K7<|f ()) (pv 0) (pv 2) (λ_ _=>rfl))<|Cn (Xw 0)<|Xw 2) xi) (b1<|sR xb) b0)<|bc (sO [3,4,5,6,7,8] Qd (ie (Za7<|pv 0)<|R4<|Xw 0) (gT 2<|gc (gN 3)<|gc (gN 4) g0)<|bc (sS 5 n<|xe (Tx (Zmv (K:=K)<|show _<cLine from(f ()).units0) (pv 3) (pv 2)<|KO _)<|Zoc (Xw 3)<|Xw 2)<|bc (sO [6,7,8] Qd (ir G.Zb<|a1<|xo XU XW (xl G.len<|xv 1) xi) (gN 6)<|bc (sS 7 n<|xo TY Na (xx (xx (xv 1)<|xo XU XW (xx (xv 3)<|xv 6) xi) xi)<|xx (xx (xv 1)<|xo XU XW (xx (xv 3)<|xo XI XJ (xv 6) xi) xi) xi)<|bc (sS 8 n<|xo XI XJ (xe (TJ (K7<|f ()) (pv 0) (fz YU (f ())<|bz (pv 3)<|pv 6) (λ_ _=>rfl))<|Cn (Xw 0)<|Pm<|tz (Xw 3)<|Xw 6)<|xv 7)<|bc (sI (tc KJ KL (xv 4)<|xv 8) (b1<|sR xb) b0)<|b1<|sI (tq f (xv 4)<|xv 8) (b1<|sS 5 n xb) b0)<|b1<|sI (tN<|tt<|xv 5) (b1<|sR xb) b0)<|b1<|sR xb)) (.a ?_)
 ·rintro ds R X ⟨ps,rfl,hF,Y,hR⟩;refine⟨rfl,?_⟩;have hl:(ps.map prD).length=ps.length:=WH ..;have en:((((ps.map prD).length:Nat):Int)+1-1).toNat=ps.length:=by lia
  have hw:∀y:Int,1<=y->y<=ps.length->1<=wdM ps y/\wdM ps y<=1000:=λy a b=>(hF _<|Sf a b).2.2;have h0:XA ((Kf ps ps.length).map P6) (kT<|X0 1 ps.length)=some (.int 0):=by rw[D3 (.refl _),AY]
  refine⟨⟨by decide,by decide,by lia,by lia⟩,by lia,?_⟩;rw[en];refine⟨_,kT (X0 1 ps.length),rfl,Nr _,?_⟩;rw[h0];refine Ki ⟨_,kT (X0 1 ps.length),.int 0,rfl,Nr _,h0,rfl,?_⟩;have u:=Sy ps ps.length
  have o:∀q∈Kf ps ps.length,q.1.Perm (X0 1 ps.length)/\q.2=XH ps q.1:=λq hq=>by
   rw[u]at hq;obtain⟨r,f,rfl⟩:=Qf.mp hq;have h2:=(Ar<|T9 ps.length).mp (by rw[KM];exact f);exact⟨h2,Bz (ps:=ps) (t:=r) (pre:=[]) (by simpa using h2)⟩
  have v:∀r:ZX,r.Perm (X0 1 ps.length)->XA ((Kf ps ps.length).map P6) (kT r)=some (.int<|XH ps r):=λr h=>D3 h;generalize Kf ps ps.length=L at o v ⊢;refine⟨_,rfl,Gy L,Rv (λi l=>l=[some (.sh<|.dF<|L.map P6),some (.bor<|plD ps),some (.sh<|tD<|X0 1 ps.length),none,none,none,none,none,none]) rfl ?_ ?_⟩
  ·rintro i hi l rfl;have N:i<L.length:=by simpa using hi
   rw[Vm,IT];obtain⟨f,Q⟩:=o _ (Qc N);generalize L[i]=q at f Q ⊢;obtain⟨r,c⟩:=q
   dsimp only at f Q
   subst Q;have lr:r.length=ps.length:=by rw[f.length_eq,KM]
   have C:∀z∈r,1<=z/\z<=ps.length:=λz Y=>run_mem.mp (f.mem_iff.mp Y);refine⟨rfl,r,X0 1 ps.length,rfl,rfl,?_⟩;refine⟨⟨by lia,by lia⟩,TX (λk l=>∃b:Bool,(r=X0 1 ps.length->b=true)/\(∀j,j<k->r.getD (j+1) 0<r.getD j 0->b=true)/\l=[some (.sh<|.dF<|L.map P6),some (.bor<|plD ps),some (.sh<|tD<|X0 1 ps.length),some (.sh<|tD r),some (.sh<|.int<|XH ps r),some (.sh<|.bl b),none,none,none]) ⟨_,λe=>WL e,λj hj=>absurd hj (Nat.not_lt_zero _),rfl⟩ ?_ ?_⟩
   ·rintro k l hk ⟨b,b1,T,rfl⟩;have hk1:k<(((ps.map prD).length:Nat)-1:Int).toNat:=hk;obtain⟨A,x,y,B,er,la,_,ex,ey⟩:=Sg (ns:=r) (p:=k+1) (by lia) (by lia);have hx:=C x (by rw[er];simp);have H:=C y (by rw[er];simp);have wx:=hw x hx.1 hx.2;have wy:=hw y H.1 H.2;have ka:k=A.length:=by lia
    have lB:A.length+B.length+2=r.length:=by rw[er];simp;lia
    have ax:atI (r.map D.int) (0+(k:Int))=some (.int x):=by
     rw[er,show(0:Int)+(k:Int)=((A.length:Nat):Int) by lia];exact PJ (TM<|by simp)
    have ay:atI (r.map D.int) (0+(k:Int)+1)=some (.int y):=by
     rw[er,show(0:Int)+(k:Int)+1=((A.length+1:Nat):Int) by lia];exact PJ (TM<|by rw[Qr (by lia)];simp)
    have J:(A++y::x::B).Perm (X0 1 ps.length):=by
     rw[er]at f;exact((List.Perm.swap x y B).append_left A).trans f
    refine⟨_,ax,_,PD hx.1 hx.2,_,rfl,_,ay,_,PD H.1 H.2,_,rfl,.inl ⟨by show -(2 ^ 64)<wdM ps x;lia,by show wdM ps x<2 ^ 64;lia⟩,?_⟩;refine⟨A,B,x,y,by rw[er,show(0:Int)+(k:Int)=((A.length:Nat):Int) by lia];rfl,by lia,by lia,?_⟩;refine⟨_,kT (A++y::x::B),.int (XH ps (A++y::x::B)),rfl,Nr _,v _ J,rfl,?_⟩
    have M:x≠y:=λe=>by
     have U:=f.symm.nodup (T9 _);rw[er,e]at U
     have:=(QK.mp U).2.1
     exact(Q3.mp this).1 Q9
    have hpos:0<wdM ps x*wdM ps y:=Int.mul_pos (by lia) (by lia)
    have s:(x<y->XH ps (A++y::x::B)=XH ps r+wdM ps x*wdM ps y)/\(y<x->XH ps r=XH ps (A++y::x::B)+wdM ps x*wdM ps y):=by
     refine⟨λh=>by rw[er];exact F7 h B A,λh=>?_⟩;rw[er,F7 h B A,Int.mul_comm]
    have lt:¬XH ps (A++y::x::B)+wdM ps x*wdM ps y<XH ps r:=λz=>by
     rcases Int.lt_or_gt_of_ne M with h|h
     ·have:=s.1 h;lia
     ·have:=s.2 h;lia
    refine X1 (λg=>absurd (show XH ps (A++y::x::B)+wdM ps x*wdM ps y<XH ps r from WO g) lt) (λ_=>?_)
    refine X1 (λg=>?_) (λg=>?_)
    ·exact⟨true,λ_=>rfl,λ_ _ _=>rfl,rfl⟩
    ·have g':¬XH ps r=XH ps (A++y::x::B)+wdM ps x*wdM ps y:=λz=>g (WL z);refine⟨b,b1,λj hj E=>?_,rfl⟩;by_cases e:j=k
     ·subst e;rw[Vp]at ex;rw[ex,ey]at E;exact absurd (s.2 E) g'
     ·exact T j (by lia) E
   ·rintro l ⟨b,b1,T,rfl⟩
    have hb:b=true:=by
     by_cases e:r=X0 1 ps.length
     ·exact b1 e
     ·obtain⟨a,x,y,b',er,E⟩:=DW f e;have la:a.length+b'.length+2=r.length:=by rw[er];simp;lia
      refine T a.length (by show a.length<(((ps.map prD).length:Nat)-1:Int).toNat;lia) ?_;have g1:r.getD a.length 0=x:=by rw[er,WK];simp
      have g2:r.getD (a.length+1) 0=y:=by rw[er,WK,Qr (by lia)];simp
      rw[g1,g2];exact E
    subst hb;exact rfl
  ·rintro l rfl;exact hR
def Zef(N:Def K mg "_law_stand_keeps" Gd ["_law_stand","_law_strips","_law_wishes"])
  : Ig ζ:=by
 refine N.fz Zls (λo n=>(bc (sC 3 ["_law_number","_law_strips"] [none,some 1] n (je (NT (K:=K)<|pv 0)<|SndI.c<|NA<|Xw 0) (gN 0) f0<|xx (xv 1)<|xo XU XW (xv 0) xi)<|bc (sI (tN<|tt<|xf YR o<|a1<|xv 3) (b1<|sR xb) b0)<|bc (sS 4 n<|xL a0)<|bc (sF 3<|sO [5] Qd (iL<|xv 3) (gN 5)<|b1<|sI (tI o (xx (xv 5) xi)<|xv 4) (b1<|sA 4<|xx (xv 5) xi) b0)<|b1<|sR<|xf YS o<|a2 (xv 4)<|xv 2)) (.a ?_)
 ·rintro T R X ⟨h,y,r,rfl,Q,p,C,v⟩;refine⟨rfl,?_⟩;rw[Sw];have u:(Kd h r).length=r.length:=WH ..;refine⟨_,rfl,Ku (s:=.sh .non) (xs:=r) (emb:=D.int) (λz=>some (prD<|X6 h z)) (by lia) (λz l=>?_) ?_⟩
  ·have:=p z l
   exact⟨_,PD this.1 this.2,_,rfl,rfl⟩
  rw[T5 (λz:Int=>prD (X6 h z))]
  have M:(r.map λz:Int=>prD (X6 h z))=(Kd h r).map prD:=by
   unfold Kd;rw[Qt];rfl
  rw[M];generalize Kd h r=fs at u C v ⊢;refine⟨fs,rfl,by lia,λt=>Ki ?_,λt=>Kz (v λz=>t z.1)⟩;refine⟨by simp,rfl,KQ (xs:=fs) (emb:=prD) (λi f=>f=[some (.sh<|tD r),some (.bor<|plD h),some (.bor<|plD y),some (.sh<|plD fs),some (.own ((XN ((fs.take i).map (·.1))).map D.int)),none]) rfl ?_ ?_⟩
  ·rintro i H f rfl;have J:(fs.take (i+1)).map (·.1)=(fs.take i).map (·.1)++[fs[i].1]:=by rw[Qh H,WY];rfl
   have B:=Er ((fs.take i).map (·.1));rw[WH,Qo]at B;rw[J,SL];generalize XN ((fs.take i).map (·.1))=L at B ⊢;generalize fs[i]=q;refine⟨_,rfl,_,.li _ _,X1 (λg=>?_) (λg=>?_)⟩
   ·have x:¬q.1∈L:=λz=>by rw[WQ rfl,WL z]at g;cases g
    rw[WN x,WY];exact⟨_,rfl,by rw[WH];lia,rfl⟩
   ·have x:q.1∈L:=Qp λz=>g (by rw[WQ rfl,Ql z];rfl);rw[WQ x];exact rfl
  ·rintro f rfl;rw[QF];have A:=(SB<|fs.map (·.1)).1;refine⟨XN (fs.map (·.1)),y,rfl,λc=>C ⟨t,λq hq=>?_⟩,λ⟨q,hq,c⟩=>v λz=>?_⟩
   ·rw[Dv A];exact c q hq
   ·have:=z.2 q hq
    rw[Dv A]at this;have E:(decide (q.1∈XN (fs.map (·.1)))&&(decide (q.2∈XN (fs.map (·.1)))&&decide ((XN<|fs.map (·.1)).idxOf q.2<(XN<|fs.map (·.1)).idxOf q.1)))=true:=c;rw[this]at E;cases E
def Zdm(v:Def K mg "_law_step" G9 ["_law_now","_law_deed_here"])
  : Mz ζ:=by
 refine v.fz Zq8 (λo n=>(bc (sI (tp<|wo (tq o (xx (xv 1) xi) xs)<|wO<|tq o (xx (xv 1) xi) xs) (bc (sF 1<|sS 2 n<|xe (fz YW (o ())<|bz (jx K (pv 0) X5)<|pv 1)<|Du<|tz (XS (Xw 0) X2)<|Xw 1)<|b1<|sR<|xL<|a3 (xx (xv 2) xi) (xx (xv 0) xi)<|xx (xv 2) xi) b0)<|bc (sF 1<|sS 2 n<|xe (fz YV (o ())<|bz (jx K (pv 0) X5)<|pv 1)<|Du<|tz (XS (Xw 0) X2)<|Xw 1)<|b1<|sR<|xL<|a3 (xx (xv 2) xi) (xx (xv 2) xi)<|xx (xv 0) xi)) (.b ?_)
 ·rintro u R X ⟨f,w,u,x,rfl,r,hw,l⟩;refine⟨rfl,?_⟩;have g:atI (plD f::plD w::u) 1=some (plD w):=F2 (by decide) rfl
  have land:∀x:Dd,x.land=true->R (.own [.int (codeN<|x.err f w),plD (x.nf f w),plD (x.nw f w)])->R (.own [.int (codeN<|x.err f []),plD (x.fld' f),plD w]):=λx h k=>by
   have e:=x.err_land h f w [];have s:x.wsh w=w:=by cases x<;>first|rfl|cases h
   unfold Dd.nf Dd.nw at k;rw[s,e,ite_self]at k;unfold Dd.fld';exact k
  have wish:∀x:Dd,x.land=false->R (.own [.int (codeN<|x.err f w),plD (x.nf f w),plD (x.nw f w)])->R (.own [.int (codeN<|x.err [] w),plD f,plD (x.wsh' w)]):=λx h k=>by
   have e:=x.err_wish h f [] w;have s:x.fld f=f:=by cases x<;>first|rfl|cases h
   unfold Dd.nf Dd.nw at k;rw[s,e,ite_self]at k;unfold Dd.wsh';exact k
  cases x with
  |sell p h=>exact⟨_,rfl,_,rfl,_,P0 _ _,f,.sell p h,rfl,rfl,r,_,rfl,_,rfl,_,g,by simp,land _ rfl l⟩
  |part p h=>exact⟨_,rfl,_,rfl,_,P0 _ _,f,.part p h,rfl,rfl,r,_,rfl,_,rfl,_,g,by simp,land _ rfl l⟩
  |unite p=>exact⟨_,rfl,_,rfl,_,P0 _ _,f,.unite p,rfl,rfl,r,_,rfl,_,rfl,_,g,by simp,land _ rfl l⟩
  |wish a b=>exact⟨_,rfl,_,g,w,.wish a b,rfl,rfl,hw,_,rfl,_,P0 _ _,_,rfl,by simp,wish _ rfl l⟩
  |drop a b=>exact⟨_,rfl,_,rfl,_,g,w,.drop a b,rfl,rfl,hw,_,rfl,_,P0 _ _,_,rfl,by simp,wish _ rfl l⟩
def Zte(H:Def K mg "_law_start" GF ["_law_script","_law_menu_here","_law_many"])
  : Ly ζ:=by
 refine H.fz Zoj (λl n=>(bc (sS 3 n<|xf Yl l<|a2 (xv 0) xi)<|bc (sS 4 n<|xL a0)<|bc (sO [5,6,7] Qd (ir G.Zb<|a1<|xv 2) (gN 5)<|bc (sF 3<|sS 6 n<|xv 3)<|bj (sI (tq l (xo XX XT (xf Yl l<|a2 (xv 0) xi) xi) xi) (b1<|sS 6 n<|xf Yt l<|a2 (xf Yl l<|a2 (xv 0) xi)<|xo XI XJ xi<|xv 5) b0)<|bc (sS 7 n<|xo XI XJ (xx (xv 1) xi)<|xo XX XT (xo K8 KB (xv 6)<|xx (xv 1) xi)<|xx (xv 1) xi)<|bc (sF 7<|sA 4<|xt<|a2 (xf Yp l<|a2 (xv 1)<|xo XX XT (xv 6)<|xx (xv 1) xi)<|xv 7)<|b1<|sS 3 n<|xo K8 KB (xo K8 KB (xv 3)<|xx (xv 1) xi)<|xx (xv 1) xi)<|b1<|sV 4)) (.a ?_)
 ·rintro ds R X ⟨o,m,n,rfl,x,h0,Y,E⟩;refine⟨rfl,?_⟩;have s:=x;obtain⟨a,b,c,d,e,rfl,U,T,Q,N,M⟩:=x;refine⟨o,2,rfl,by decide,by simp,⟨by lia,by lia⟩,TX (λi f=>∃(g:ZW) (r:Int),f=[some (.bor<|.scr o),some (.bor<|.lst (([a,b,c,d,e]:ZX).map D.int)),some (.sh<|.int n),some (.sh<|.int r),some (.own<|g.map prD),none,none,none]/\Field g/\g.length=i) ⟨[],_,rfl,(λq hq=>by cases hq),rfl⟩ ?_ ?_⟩
  ·rintro i f C ⟨g,r,rfl,u,p⟩;have A:(g.map prD).length=g.length:=WH ..;have B:i<n.toNat:=C;refine NY (λf=>∃(v:Int) (t:Option S),f=[some (.bor<|.scr o),some (.bor<|.lst (([a,b,c,d,e]:ZX).map D.int)),some (.sh<|.int n),some (.sh<|.int r),some (.own<|g.map prD),t,some (.sh<|.int v),none]) ?_ ?_
   ·refine⟨o,0,rfl,by decide,(by show(0:Int)<2;decide),X1 (λ_=>?_) (λ_=>⟨_,_,rfl⟩)⟩;exact⟨o,1,rfl,by decide,_,_,rfl,_,_,rfl⟩
   ·rintro f ⟨v,t,rfl⟩;have L:=Int.emod_nonneg (v / a) (show d≠0 by lia);have J:=Ud (v / a) (show 0<d by lia);refine⟨_,rfl,_,rfl,⟨by lia,by lia⟩,_,rfl,(by show 0<d;lia),_,rfl,(by show 0<a;lia),[a,b,c,d,e],_,rfl,s,λh z y _=>⟨by simp,by lia,?_⟩⟩;refine⟨_,rfl,⟨by lia,by lia⟩,_,rfl,⟨by lia,by lia⟩,g++[(h,e+v / a % d)],r / a / d,?_,λq hq=>?_,by rw[WT,p];rfl⟩
    ·rw[WY];rfl
    ·rcases Qm.mp hq with hq|hq
     ·exact u q hq
     ·rw[WR]at hq;subst hq;exact⟨z,y,by show 1<=e+v / a % d;lia,by show e+v / a % d<=1000;lia⟩
  ·rintro f ⟨g,r,rfl,u,p⟩;exact E g u p
def Zti(p:Def K mg "_law_days" E6 ["_law_script","_law_most"])
  : LU ζ:=by
 refine p.fz Zid (λg n=>(bc (sI (tq g (xo XX XT (xf Yl g<|a2 (xv 0) xi) xi) xi) (b1<|sR<|xe (AO (I0 (K:=K)) (pv 0) (Fq X5)<|Fq<|Py XI X5<|pv 1)<|Zoi (Xw 0) (BP X2)<|BP<|XJ X2<|Xw 1) b0)<|b1<|sR<|xC ["_law_k","_law_script"] [none,some 0] (jI<|ir G.Zb<|a1<|xo XX XT (xf Yl g<|a2 (xv 0) xi)<|xo XI XJ (xv 1) xi) (gN 0) f0<|xf Yt g<|a2 (xf Yl g<|a2 (xv 1) xi)<|xo XI XJ xi<|xv 0)) (.a ?_)
 ·rintro y R X ⟨f,n,rfl,x,v,h⟩;refine⟨rfl,f,0,rfl,by decide,(by show(0:Int)<2;decide),X1 (λ_=>?_) (λ_=>?_)⟩
  ·refine h _ ?_;unfold Pu.cutD;rw[Qo]
   have l:HT.sIx f.length 0 (some 3)=min 3 f.length:=by
    rw[show(3:Int)=((3:Nat):Int) by rfl,HT.Bp]
   have o:HT.sIx f.length f.length (some (3+n))=min (3+n).toNat f.length:=by
    rw[show(3+n:Int)=(((3+n).toNat:Nat):Int) by lia,HT.Bp];rfl
   rw[l,o];lia
  ·refine⟨f,2,rfl,by decide,(by show 0<n+1;lia),?_⟩;have s:=Int.emod_nonneg (f.getD (2:Int).toNat 0) (show n+1≠0 by lia);have r:=Ud (f.getD (2:Int).toNat 0) (show 0<n+1 by lia);refine⟨⟨by lia,by lia⟩,BA (λi=>some (.int<|mixP (f.getD (1:Int).toNat 0) (200+(0+(i:Int))))) (by lia) (λi u=>⟨f,1,rfl,by decide,_,_,rfl,_,rfl,rfl⟩) ?_⟩
   have e:(List.range (f.getD (2:Int).toNat 0 % (n+1)).toNat).filterMap (λi:Nat=>some (D.int<|mixP (f.getD (1:Int).toNat 0) (200+(0+(i:Int)))))=((List.range (f.getD (2:Int).toNat 0 % (n+1)).toNat).map λi:Nat=>mixP (f.getD (1:Int).toNat 0) (200+(0+(i:Int)))).map D.int:=by
    rw[Ja,Qt];rfl
   rw[e];refine h _ ?_;rw[WH,Je];lia
def Zhv(y:Def K mg "_law_pair" GZ ["_law_cell","_law_menu_here"])
  : Mc ζ:=by
 refine y.fz Zpl (λh n=>(bc (sS 2 n<|xx (xL<|ac xi<|ac (xx (xv 1) xi)<|ac (xx (xv 1) xi)<|ac (xx (xv 1) xi) a0)<|xo XX XT (xv 0) xi)<|bc (sS 3 n<|xo XX XT (xo K8 KB (xv 0) xi)<|xv 2)<|bc (sS 4 n<|xo XX XT (xo XI XJ (xo XI XJ (xv 3) xi)<|xo XX XT (xo K8 KB (xv 0) xi)<|xe (K0 (Cp rfl) (by rfl) G.Z2 boot_max<|bz X5<|Py XU (pv 2) X5)<|EB<|tz X2<|XW (Xw 2) X2)<|xv 2)<|bc (sS 5 n<|xf Yw h<|a2 (xo K8 KB (xv 0) xi)<|xf Yp h<|a2 (xv 1)<|xv 3)<|b1<|sF 5<|sR<|xt<|a2 (xv 5)<|xf Yw h<|a2 (xo K8 KB (xv 0) xi)<|xf Yp h<|a2 (xv 1)<|xv 4)) (.a ?_)
 ·rintro M R X ⟨c,m,rfl,r,v⟩;refine⟨rfl,?_⟩;have g:=r;obtain⟨a,b,e,d,f,rfl,o,E,B,C,A⟩:=r;have H:0<=c % 4/\c % 4<4:=by lia
  obtain⟨pool,x,z⟩:∃p:Int,atI [D.int 10,.int a,.int a,.int a] (c % 4)=some (.int p)/\1<=p/\p<=10:=by
   have:c % 4=0\/c % 4=1\/c % 4=2\/c % 4=3:=by lia
   rcases this with e|e|e|e<;>rw[e]
   ·exact⟨10,rfl,by decide,by decide⟩
   ·exact⟨a,rfl,o⟩
   ·exact⟨a,rfl,o⟩
   ·exact⟨a,rfl,o⟩
  have l:0<(if pool-1>1 then pool-1 else 1):=by split<;>lia
  refine⟨_,rfl,_,rfl,_,rfl,by simp,(by show(0:Int)<4;decide),_,x,?_⟩;refine⟨⟨by decide,by decide⟩,(by show 0<pool;lia),⟨by decide,by decide⟩,l,(by show 0<pool;lia),?_⟩;refine⟨⟨by decide,by decide⟩,_,_,rfl,g,λL _ _ _=>⟨_,_,rfl,λu=>?_⟩⟩;exact⟨⟨by decide,by decide⟩,_,_,rfl,g,λJ _ _ _=>⟨_,_,rfl,λs=>⟨by simp,v u s⟩⟩⟩
def Zo5(DD:Def K mg "told_moves" Cq ["strips","order"])
  : Oz ζ:=by
 refine DD.fz Znw (λA n=>(bc (sE<|xe (SE Wc (hq<|A ()) SZ<|bz (pv 0)<|pv 1)<|Pm<|tz (Xw 0)<|Xw 1)<|bc (sC 2 ["holder","width","order"] [none,none,some 1] n (jL<|xv 0) (gT 2<|gc (gN 0)<|gc (gN 1) g0) f0<|xe (AN (K:=K) Q4 VR J3 (GR (K:=K)) (pv 2)<|az<|pv 0)<|Cw (Xw 2)<|sz<|Xw 0)<|bc (sS 3 n<|xf Yz A<|a1<|xv 0)<|bc (sS 4 n<|xL a0)<|bc (sS 5 n<|xf Y0 A<|a2 (xv 3)<|xv 2)<|bc (sW [] Qd (tc KJ KL (xv 5) xi)<|bc (sF 5<|sA 4<|xt<|ac (xv 5)<|ac (xx (xv 3)<|xo XU XW (xv 5) xi)<|ac (xx (xv 3)<|xv 5)<|ac (xf YB A<|a3 (xv 0) (xv 3)<|xv 5) a0)<|bc (sS 3 n<|xf YC A<|a2 (xv 3)<|xv 5)<|b1<|sS 5 n<|xf Y0 A<|a2 (xv 3)<|xv 2)<|b1<|sV 4)) (.a ?_)
 ·rintro ds R X ⟨l,o,rfl,hF,hz,Q,hR⟩;refine⟨rfl,?_⟩;have hh:=Sj l;have hol:=Q.length_eq;have U:=Zua hF Q;refine⟨l,o,rfl,hF,by lia,by lia,?_⟩;rw[Zhc Q];refine Ku (xs:=l) (emb:=prD) (λq=>some (.int (o.idxOf q.1:Nat))) (by lia) (λq hq=>?_) ?_
  ·exact⟨rfl,⟨_,rfl⟩,o,rfl,U q hq,_,rfl,rfl⟩
  rw[T5 (λq:Int×Int=>D.int (o.idxOf q.1:Nat))];have er:l.map (λq:Int×Int=>D.int (o.idxOf q.1:Nat))=(l.map λq:Int×Int=>((o.idxOf q.1:Nat):Int)).map D.int:=by rw[Qt];rfl
  rw[er];generalize L:(l.map λq:Int×Int=>((o.idxOf q.1:Nat):Int))=v;have lrs:v.length=l.length:=by rw[←L,WH]
  have rk:∀m:Int,1<=m/\m<=l.length->v.getD (m-1).toNat 0=rkN l o m:=λm y=>by
   have Y:(m-1).toNat<l.length:=by lia
   rw[←L];unfold rkN hdN;rw[WK,WK,WV,WI Y];rfl
  have keys:∀r:ZX,r.Perm (X0 1 l.length)->r.map (λm=>v.getD (m-1).toNat 0)=r.map (rkN l o):=λr u=>V6 λm y=>rk m (runI_mem.mp<|u.mem_iff.mp y)
  have inr:∀r:ZX,r.Perm (X0 1 l.length)->∀m∈r,1<=m/\m<=v.length:=λr u m y=>by
   have:=runI_mem.mp (u.mem_iff.mp y)
   lia
  refine⟨l,rfl,by lia,by simp,?_⟩;refine⟨_,v,rfl,inr _ (.refl _),by rw[KM];lia,λp0 H=>?_⟩;rw[keys _ (.refl _)]at H
  have e0:∀r:ZX,r.Perm (X0 1 l.length)->P8 (λm=>v.getD (m-1).toNat 0) r=P8 (rkN l o) r:=λr u=>by
   unfold P8;congr 1;exact V6 λm y=>by show(v.getD (m-1).toNat 0,(1:Int))=_;rw[rk m (runI_mem.mp<|u.mem_iff.mp y)]
  have b0:=SM (rkN l o) (X0 1 l.length)
  have nn:((l.length:Int))*l.length<=1600:=by
   have:=Int.mul_le_mul (a:=(l.length:Int)) (b:=l.length) (c:=40) (d:=40) (by lia) (by lia) (by lia) (by lia)
   lia
  rw[KM]at b0;refine Ai (λC=>∃(r:ZX) (s:List Mo) (p:Nat),FW (r.map<|rkN l o) p/\r.Perm (X0 1 l.length)/\(∀E,Mv l (rkN l o) r E->Mv l (rkN l o) (X0 1 l.length) (s++E))/\(s.length:Int)+P8 (rkN l o) r=P8 (rkN l o) (X0 1 l.length)/\C=[some (.bor<|plD l),some (.bor<|.lst<|o.map D.int),some (.own<|v.map D.int),some (.own<|r.map D.int),some (.own<|s.map mvD),some (.sh<|.int p)]) mvN ⟨X0 1 l.length,[],p0,H,.refl _,λE h=>h,by simp,rfl⟩ ?_;rintro C ⟨r,s,p,hw,u,hM,hc,rfl⟩;have hl:r.length=l.length:=by rw[u.length_eq,KM]
  have b1:=SM (rkN l o) r;refine X1 (λg=>?_) (λg=>?_)
  ·have g':0<((p:Nat):Int):=WO g;obtain⟨h1,B,h3⟩:=hw.2.resolve_left (by lia);rw[WH]at B;rw[Nl B,Nl (by lia)]at h3;have hs:=Zcq (rkN l o) h1 B h3;have x:(Kq r p).Perm (X0 1 l.length):=(Em h1 B).trans u;have b2:=SM (rkN l o) (Kq r p)
   have ix:∀(i:Nat) (k:Int),i<r.length->k=(i:Int)->atI (r.map D.int) k=some (.int<|r.getD i 0):=λi k Y e=>by
    rw[e];exact PJ (f:=D.int) (TM<|by rw[WK,WI Y];rfl)
   have lm:(s.map mvD).length=s.length:=WH ..;have M:∀m∈r,1<=m/\m<=l.length:=λm y=>runI_mem.mp (u.mem_iff.mp y);refine⟨_,ix (p-1) _ (by lia) (by lia),_,ix p _ B rfl,?_⟩;refine⟨l,r,p,rfl,hF,M,by lia,by lia,by simp,by lia,?_⟩;refine⟨r,p,rfl,by lia,by lia,by lia,?_⟩;rw[Qx];refine⟨Kq r p,v,rfl,inr _ x,by rw[Ln h1 B];lia,λp' J=>?_⟩;rw[keys _ x]at J;refine⟨⟨Kq r p,s++[((p:Int),r.getD (p-1) 0,r.getD p 0,exM l r p)],p',J,x,λE T=>?_,?_,?_⟩,?_⟩
   ·rw[Jc];exact hM _ (.step r p E hw (by lia) T)
   ·rw[WT,QT];lia
   ·rw[WY];rfl
   ·show(P8 _ (((Kq r p).map D.int).map toI)).toNat<(P8 _ ((r.map D.int).map toI)).toNat;rw[DX,DX,DX,e0 _ x,e0 _ u];lia
  ·have g':¬0<((p:Nat):Int):=λz=>g (WL z);have N:p=0:=by lia
   subst N
   have:=hM [] (.done r hw)
   rw[QA]at this;exact hR s this
def Zml(A:Def K mg "find_ring" Dw ["holders","wishes"])
  : Lf ζ:=by
 refine A.fz Zsw (λu n=>(bc (sS 2 n<|xL a0)<|bc (sF 2<|sO [3,4] Qd (iL<|xe (K0 (DP (K:=K) (w:=w) rfl) (by rfl) G.Zh boot_sorted<|az<|pv 0)<|DH<|sz<|Xw 0) (gN 3)<|bc (sS 4 n<|xf Wd u<|a3 (xv 3) (xv 0)<|xv 1)<|b1<|sI (tp<|wa (tt<|xv 4)<|wA<|tp<|wo (tN<|tt<|xv 2)<|wO<|tc Po Pp (xl G.len<|xv 4)<|xl G.len<|xv 2) (b1<|sF 4<|sS 2 n<|xv 4) b0)<|b1<|sF 2<|sV 2)) (.a ?_)
 ·rintro B R X ⟨h,o,rfl,s,z,y⟩;refine⟨rfl,by simp,h,rfl,by lia,λg v p=>?_⟩;refine⟨rfl,KQ (xs:=g) (emb:=D.int) (λi f=>f=[some (.bor<|.lst<|h.map D.int),some (.bor<|.lst<|o.map prD),some (.sh<|.lst []),none,none]) rfl ?_ ?_⟩
  ·rintro i x f rfl;have r:=z g[i] (v.mem_iff.mp<|Qc x);generalize g[i]=l at r ⊢;exact⟨l,h,o,rfl,s,r,rfl⟩
  ·rintro f rfl;exact y
def Zk8(DD:Def K mg "least_costs" Eg ["strips","wishes","pairs"])
  : LI ζ:=by
 refine DD.fz ML (λN n=>(bc (se (Pu.pz 3 ML.nd<|Zgi (K7<|N ()) (PK Pr) X5)<|TH (Zna (PB Ka) X2)<|KE 3)<|bc (sO [4,5] Qd (iL<|xp (xf YH N<|a1<|xf Yo N<|a1<|xv 0) (o1 xi) o0) (gN 4)<|bc (sC 5 ["holder","members","wishes"] [none,some 4,some 1] n (je (NT (K:=K)<|pv 4)<|SndI.c<|NA<|Xw 4) (gN 0) (f1<|tt<|xf YI N<|a3 (xv 1) (xv 0)<|xv 2)<|xv 0)<|b1<|se (BW (K7<|N ()) (pv 3) (pv 4) (K0 (M0 (K:=K) rfl) (by rfl) G.ZI boot_min<|az<|cz ["last","members","least","pairs"] [none,some 4,some 3,some 2] (S7 (K:=K)<|pv 5) ⟨(gk 0),Su,(fz Wi (N ())<|Kw (pv 1)<|Kw (pv 0)<|Kw (pv 2)<|Kw (pv 3) Pr)⟩) rfl)<|BL 3 (Xw 4)<|RV<|sz<|Nf (Bs<|Xw 5) (KE 0) SS<|Pm<|Pn (Xw 1)<|Pn (Xw 0)<|Pn (Xw 2)<|Pn (Xw 3) Ka)<|b1<|sV 3)) (.a ?_)
 ·rintro ds R X ⟨C,v,pa,c,rfl,hF,hz,hw,hu,hc,hL,hR⟩;refine⟨rfl,by simp,_,_,rfl,rfl,?_⟩;refine⟨C,rfl,hF,hz,_,rfl,Sj C,?_⟩;have hh:=Sj C;have nd:(X8 C).Nodup:=(TK C).imp (λh=>Ji h);generalize X8 C=hs at hh nd hc hL hR ⊢;have hsl:=HI hs;have x:=By hs;have A:=Lu nd;have E:=O2 nd
  have y:(XY hs).length<=1024:=by
   rw[hsl];exact JU (j:=10) (by decide) hh
  obtain⟨T,eT⟩:=Zgd hs;rw[eT]at x A E y hR ⊢;refine⟨rfl,rfl,?_⟩
  have ec:Pu.cutD (List.map tD ([]::T)) (some 1) none=T.map tD:=by
   rw[TC,SH _ (by decide)];rfl
  rw[ec];refine KQ (xs:=T) (emb:=tD) (λi B=>∃f:List (List Key×V),B=[some (.bor<|.lst<|C.map prD),some (.bor<|.lst<|v.map prD),some (.bor<|.dT pa),some (.own<|.dT f),none,none]/\Tab v c ([]::T.take i) f) ⟨_,rfl,Zum v c⟩ ?_ ?_
  ·rintro i hi B ⟨f,rfl,L⟩;have em:([]::T)[i+1]?=some T[i]:=by rw[QL,WI hi]
   have hmem:T[i]∈[]::T:=Qk em;have p:=x _ hmem;have Y:T[i]≠[]:=λe=>(Q3.mp E).1 (e▸Qc hi)
   have U:T[i]∉[]::T.take i:=λz=>by
    rcases WZ.mp z with z|z
    ·exact Y z
    ·obtain⟨j,hj,e⟩:=Q0.mp z;rw[Qo]at hj;rw[Vz]at e;exact Q7.mp (Q3.mp E).2 j i (by lia) hi (by lia) e
   have hml:T[i].length<=10:=WW p.length_le hh
   have H:∀l∈T[i],XG T[i] l∈[]::T.take i:=λl r=>by
    obtain⟨j,hj,e⟩:=A (i+1) _ em l r
    have:([]::T.take i)=([]::T).take (i+1):=by rw[List.take_succ_cons]
    rw[this];refine Qk (i:=j) ?_;rw[Vs hj];exact e
   have ndm:T[i].Nodup:=nd.sublist p
   have hkl:f.length<=1024:=by
    have:=QB List.length L.keys
    rw[WH,WH,Qi,Qo]at this;rw[Qi]at y;lia
   have etk:[]::T.take (i+1)=([]::T.take i)++[T[i]]:=by rw[Qh hi];rfl
   rw[etk];generalize T[i]=o at *;obtain⟨vs,Q⟩:=RG λl r=>L.val _ (H l r);obtain⟨l0,hl0,hl0'⟩:=hL o p Y;refine⟨_,rfl,Ku (s:=.sh .non) (xs:=o) (emb:=D.int) (λh=>if Nx v o h=true then some (.int h)else none) (by lia) (λh hm=>?_) ?_⟩
   ·refine⟨o,h,v,rfl,hw,?_⟩;refine X1 (λg=>⟨_,rfl,WQ g⟩) (λg=>WN g)
   ·rw[Pz (λh=>Nx v o h)];refine Ku (xs:=o.filter (λh=>Nx v o h)) (emb:=D.int) (λl=>some (.int (vs l+((XG o l).map (c · l)).sum))) (WW (Q5 _ _)<|by lia) (λl r=>?_) ?_
    ·obtain⟨u,hl2⟩:=Qg.mp r;exact⟨o,l,f,pa,(c · l),vs l,rfl,by lia,(Q l u).1,λm hm=>hc m (p.subset<|less_sub.subset hm) l (p.subset u),_,rfl,rfl⟩
    ·rw[T5];refine⟨(o.filter (λh=>Nx v o h)).map λl=>vs l+((XG o l).map (c · l)).sum,by rw[Qt];rfl,?_,λM hM hle=>⟨_,_,Nr o,rfl,by lia,_,rfl,L.put U (Zro ndm hu (λl r=>(Q l r).2) ?_ ?_)⟩⟩
     ·rw[WH];exact List.length_pos_of_mem (Qg.mpr ⟨hl0,lastM_iff.mpr hl0'⟩)
     ·obtain⟨l,r,e⟩:=Qf.mp hM;obtain⟨u,hl2⟩:=Qg.mp r;exact⟨l,u,hl2,e.symm⟩
     ·intro l r J;exact hle _ (Qf.mpr ⟨l,Qg.mpr ⟨r,J⟩,rfl⟩)
  ·rintro B ⟨f,rfl,L⟩;rw[QF]at L;exact hR f L
def Zhf(s:Kb K (Mk K<|XM ζ) "__init__" "Village.__init__" Cv ["self","strips"])
  : Mi ζ:=by
 refine s.fy Zdo (λl n=>(bc (sE<|xg Wa l ExcR.Kr<|a1<|xv 1)<|bc (se (CZ (pv 0) (N0 Pr) rfl)<|DB 0 G.Za G.Zc Zsq<|Nv Ka)<|bc (se (CZ (pv 0) (N0<|az<|KN (NI (K:=K)) (by rfl) G.Zg boot_list<|az<|pv 1) rfl)<|DB 0 G.Za G.Zd Zp4<|Nv<|sz<|NF<|sz<|Xw 1)<|b1<|se (CZ (pv 0) (N0<|az<|N0 Pr) rfl)<|DB 0 G.Za G.Ze Ze4<|Nv<|sz<|Nv Ka)) (.c ?_)
 ·rintro o u R X ⟨x,g,rfl,rfl,h,f⟩;refine⟨rfl,g,rfl,h,?_⟩;cases e:Bu g with
  |some c=>
   rw[e]at f;exact⟨_,rfl,⟨rfl,by simp⟩,f⟩
  |none=>
   rw[e]at f;refine⟨by simp,rfl,rfl,by decide,λb1=>?_⟩;refine⟨rfl,by simp,rfl,rfl,by decide,λr=>?_⟩;refine⟨by simp,by simp,rfl,rfl,by decide,λp=>?_⟩;exact⟨_,rfl,⟨rfl,by simp⟩,f b1 r p⟩
def Znv(z:Kb K (Kc K (XM ζ) "sell") "sell" "Village.sell" GB ["self","place","holder"])
  : Zbk ζ:=by
 refine z.fy Zdy (λl n=>(bc (se (PM<|K9 Yq G.Za (hq<|l ()) ExcR.Kr<|pv 0)<|SJ<|F3 Fm (Xw 0) Ka)<|bc (sS 3 n<|xg We l ExcR.Kr<|a3 (xe (K9 Ym G.Za (hq<|l ()) K4<|pv 0)<|Pa NQ (Xw 0) Ka) (xv 1)<|xv 2)<|b1<|sF 2<|sF 1<|sF 3<|se (KA<|TR Yr G.Za (hq<|l ()) K4 (pv 0)<|dz (PK<|dz NZ (pv 1)<|pv 2) (pv 3)<|K9 Yn G.Za (hq<|l ()) K4<|pv 0)<|T6<|SR 0 Fn<|uz (PB<|uz NV (Xw 1)<|Xw 2) (Xw 3)<|Pa S8 (Xw 0) Ka)) (.c ?_)
 ·rintro o A R X ⟨x,b1,y,v,bk,fs,r,f,w,p,h,rfl,rfl,u,B,hw,s,g⟩;refine⟨rfl,?_⟩;unfold AV at g;refine⟨rfl,rfl,bk,fs++[f],r++[w],rfl,?_⟩;unfold Sa;by_cases c:100<=bk.length
  ·rw[WQ c]at g ⊢;exact⟨_,rfl,⟨rfl,by simp⟩,g⟩
  ·rw[WN c]at g ⊢;refine⟨rfl,rfl,bk,fs,r++[w],f,rfl,f,p,h,rfl,s,?_⟩;cases e:P3 f p h with
   |some c=>
    rw[e]at g;exact⟨_,rfl,⟨rfl,by simp⟩,g⟩
   |none=>
    rw[e]at g;refine⟨rfl,rfl,by simp,rfl,rfl,bk,fs++[f],r,w,rfl,?_⟩;exact⟨x,b1,y,v,bk,fs++[f],r++[w],("sell",[p,h]),Nc f p h,w,rfl,rfl,u,by rw[WT];simp;lia,by rw[WT];simp;lia,_,rfl,⟨rfl,by simp⟩,g⟩
def Zqv(z:Kb K (Kc K (XM ζ) "part") "part" "Village.part" Cd ["self","place","width"])
  : Hw ζ:=by
 refine z.fy Zeq (λl n=>(bc (se (PM<|K9 Yq G.Za (hq<|l ()) ExcR.Kr<|pv 0)<|SJ<|F3 Fm (Xw 0) Ka)<|bc (sS 3 n<|xg Wf l ExcR.Kr<|a3 (xe (K9 Ym G.Za (hq<|l ()) K4<|pv 0)<|Pa NQ (Xw 0) Ka) (xv 1)<|xv 2)<|b1<|sF 2<|sF 1<|sF 3<|se (KA<|TR Yr G.Za (hq<|l ()) K4 (pv 0)<|dz (PK<|dz NZ (pv 1)<|pv 2) (pv 3)<|K9 Yn G.Za (hq<|l ()) K4<|pv 0)<|T6<|SR 0 Fn<|uz (PB<|uz NV (Xw 1)<|Xw 2) (Xw 3)<|Pa S8 (Xw 0) Ka)) (.c ?_)
 ·rintro o A R X ⟨x,b1,y,v,bk,fs,r,f,w,p,h,rfl,rfl,u,B,hw,s,g⟩;refine⟨rfl,?_⟩;unfold FT at g;refine⟨rfl,rfl,bk,fs++[f],r++[w],rfl,?_⟩;unfold Sa;by_cases c:100<=bk.length
  ·rw[WQ c]at g ⊢;exact⟨_,rfl,⟨rfl,by simp⟩,g⟩
  ·rw[WN c]at g ⊢;refine⟨rfl,rfl,bk,fs,r++[w],f,rfl,f,p,h,rfl,s,?_⟩;cases e:KD f p h with
   |some c=>
    rw[e]at g;exact⟨_,rfl,⟨rfl,by simp⟩,g⟩
   |none=>
    rw[e]at g;refine⟨rfl,rfl,by simp,rfl,rfl,bk,fs++[f],r,w,rfl,?_⟩;exact⟨x,b1,y,v,bk,fs++[f],r++[w],("part",[p,h]),PZ f p h,w,rfl,rfl,u,by rw[WT];simp;lia,by rw[WT];simp;lia,_,rfl,⟨rfl,by simp⟩,g⟩
def Zp2(y:Kb K (Kc K (XM ζ) "unite") "unite" "Village.unite" Dk ["self","place"])
  : II ζ:=by
 refine y.fy Zd8 (λh n=>(bc (se (PM<|K9 Yq G.Za (hq<|h ()) ExcR.Kr<|pv 0)<|SJ<|F3 Fm (Xw 0) Ka)<|bc (sS 2 n<|xg Wg h ExcR.Kr<|a2 (xe (K9 Ym G.Za (hq<|h ()) K4<|pv 0)<|Pa NQ (Xw 0) Ka)<|xv 1)<|b1<|sF 1<|sF 2<|se (KA<|TR Yr G.Za (hq<|h ()) K4 (pv 0)<|dz (PK<|bz NZ<|pv 1) (pv 2)<|K9 Yn G.Za (hq<|h ()) K4<|pv 0)<|T6<|SR 0 Fn<|uz (PB<|tz NV<|Xw 1) (Xw 2)<|Pa S8 (Xw 0) Ka)) (.c ?_)
 ·rintro o z R X ⟨x,b1,v,u,bk,fs,l,f,w,p,rfl,rfl,s,A,hw,r,g⟩;refine⟨rfl,?_⟩;unfold A2 at g;refine⟨rfl,rfl,bk,fs++[f],l++[w],rfl,?_⟩;unfold Sa;by_cases c:100<=bk.length
  ·rw[WQ c]at g ⊢;exact⟨_,rfl,⟨rfl,by simp⟩,g⟩
  ·rw[WN c]at g ⊢;refine⟨rfl,rfl,bk,fs,l++[w],f,rfl,f,p,rfl,r,?_⟩;cases e:Kt f p with
   |some c=>
    rw[e]at g;exact⟨_,rfl,⟨rfl,by simp⟩,g⟩
   |none=>
    rw[e]at g;refine⟨rfl,rfl,by simp,rfl,rfl,bk,fs++[f],l,w,rfl,?_⟩;exact⟨x,b1,v,u,bk,fs++[f],l++[w],("unite",[p]),Te f p,w,rfl,rfl,s,by rw[WT];simp;lia,by rw[WT];simp;lia,_,rfl,⟨rfl,by simp⟩,g⟩
def Zs4(z:Kb K (Kc K (XM ζ) "wish") "wish" "Village.wish" Ef ["self","ahead","behind"])
  : Za8 ζ:=by
 refine z.fy Zc3 (λl n=>(bc (se (PM<|K9 Yq G.Za (hq<|l ()) ExcR.Kr<|pv 0)<|SJ<|F3 Fm (Xw 0) Ka)<|bc (sS 3 n<|xg Wh l ExcR.Kr<|a3 (xe (K9 Yn G.Za (hq<|l ()) K4<|pv 0)<|Pa S8 (Xw 0) Ka) (xv 1)<|xv 2)<|b1<|sF 2<|sF 1<|sF 3<|se (KA<|TR Yr G.Za (hq<|l ()) K4 (pv 0)<|dz (PK<|dz NZ (pv 1)<|pv 2) (K9 Ym G.Za (hq<|l ()) K4<|pv 0)<|pv 3)<|T6<|SR 0 Fn<|uz (PB<|uz NV (Xw 1)<|Xw 2) (Pa NQ (Xw 0) Ka)<|Xw 3)) (.c ?_)
 ·rintro o A R X ⟨x,b1,y,v,bk,fs,r,f,w,p,h,rfl,rfl,u,B,hw,s,g⟩;refine⟨rfl,?_⟩;unfold A9 at g;refine⟨rfl,rfl,bk,fs++[f],r++[w],rfl,?_⟩;unfold Sa;by_cases c:100<=bk.length
  ·rw[WQ c]at g ⊢;exact⟨_,rfl,⟨rfl,by simp⟩,g⟩
  ·rw[WN c]at g ⊢;refine⟨rfl,rfl,bk,fs++[f],r,w,rfl,w,p,h,rfl,s,?_⟩;cases e:K5 w p h with
   |some c=>
    rw[e]at g;exact⟨_,rfl,⟨rfl,by simp⟩,g⟩
   |none=>
    rw[e]at g;refine⟨rfl,rfl,by simp,rfl,rfl,bk,fs,r++[w],f,rfl,?_⟩;exact⟨x,b1,y,v,bk,fs++[f],r++[w],("wish",[p,h]),f,w++[(p,h)],rfl,rfl,u,by rw[WT];simp;lia,by rw[WT];simp;lia,_,rfl,⟨rfl,by simp⟩,g⟩
def Zpt(x:Def K mg "all_stands" DY ["strips"])
  : Mu ζ:=by
 refine x.fy Zh8 (λp n=>(bc (sE<|xg Y2 p ExcR.Kr<|a1<|xv 0)<|bc (sS 1 n<|xL<|a1<|xt<|a2 (xt a0) xi)<|bc (sO [2] ExcR.Lg (ir G.Zb<|a1<|xl G.len<|xv 0) (gN 2)<|b1<|sS 1 n<|xf Wl p<|a2 (xv 0)<|xv 1)<|b1<|sV 1)) (.a ?_)
 ·rintro z R X ⟨f,rfl,u,l⟩;refine⟨rfl,?_⟩;have y:(f.map prD).length=f.length:=WH ..;by_cases o:f.length<=7
  ·have h:Nk f=none:=WN (by lia);rw[h]at l;refine⟨f,rfl,?_⟩;rw[h];refine⟨by simp,by simp,by simp,?_⟩;refine⟨⟨by lia,by lia⟩,TX (λi g=>g=[some (.bor<|plD f),some (.own ((Kf f i).map stD)),none]) ?_ ?_ ?_⟩
   ·rfl
   ·rintro i g s rfl;have r:i<(((f.map prD).length:Nat):Int).toNat:=s;have v:(Kf f i).length<=7 ^ 6:=WW (HZ o i) (JU (n:=7) (by decide)<|by lia);exact⟨f,Kf f i,rfl,u,o,WW v (by decide),(λq hq=>by rw[Ld hq];lia),rfl⟩
   ·rintro g rfl;have e:(((f.map prD).length:Nat):Int).toNat=f.length:=by lia
    show R (.own ((Kf f (((f.map prD).length:Nat):Int).toNat).map stD));rw[e];exact l
  ·have h:Nk f=some "TooManyStands":=WQ (by lia);rw[h]at l;refine⟨f,rfl,?_⟩;rw[h];exact l
def Zpq(y:Def K mg "is_melded" Cu ["field","wishes"])
  : HJ ζ:=by
 refine y.fz Zeb (λl n=>(b1<|sR<|xe (BM (fz Wb (l ())<|az<|pv 0)<|Bj<|Zfy (K:=K)<|fz YE (l ())<|bz (fz YM (l ())<|az<|pv 0)<|pv 1)<|BZ (Pm<|sz<|Xw 0)<|Zlt<|Pm<|tz (Pm<|sz<|Xw 0)<|Xw 1)) (.a ?_)
 ·rintro A R X ⟨f,g,rfl,v,p,hw,u,o⟩;refine⟨rfl,f,rfl,v,p,λt=>Kz ?_,λt=>Ki (o λz=>t z.1)⟩;have r:=SB (f.map (·.1));have s:=Er (f.map (·.1));rw[WH]at s;refine⟨f,rfl,by lia,XN (f.map (·.1)),g,rfl,r.1,by lia,hw,?_⟩;show R (.sh (.bl ((g.filter<|Nh<|XN<|f.map (·.1)).map prD).isEmpty));by_cases c:∀q∈g,Nh (XN<|f.map (·.1)) q=false
  ·have e:g.filter (Nh<|XN<|f.map (·.1))=[]:=JB.mpr λq hq z=>by rw[c q hq]at z;cases z
   rw[e];exact u ⟨t,c⟩
  ·have e:g.filter (Nh<|XN<|f.map (·.1))≠[]:=λz=>c λq hq=>by
    have:=JB.mp z q hq
    cases h:Nh (XN<|f.map (·.1)) q
    ·rfl
    ·exact absurd h this
   have x:((g.filter<|Nh<|XN<|f.map (·.1)).map prD).isEmpty=false:=by
    rw[List.isEmpty_eq_false_iff];exact λz=>e (List.map_eq_nil_iff.mp z)
   rw[x];exact o λz=>c z.2
def Zve(DD:Def K mg "_law_prices" G4 ["_law_told","_law_many"])
  : Og ζ:=by
 refine DD.fz Mb (λz n=>(bc (sS 2 n xi)<|bc (sO [3] Qd (ir G.Zb<|a1<|xv 1) (gN 3)<|b1<|sS 2 n<|xo TY Na (xv 2)<|xo XI XJ (xv 3) xi)<|bc (sI (tp<|wo (tN<|tt<|xe (K0 (SX (K:=K)) (by rfl) G.Zf VX<|bz (pv 0)<|Bk (v:=.ty "list") rfl G.Zg boot_list rfl)<|Br<|tz (Xw 0) Bv)<|wO<|tn z (xl G.len<|xv 0)<|xv 2) (b1<|sR x0) b0)<|bc (se (Pu.pz 4 Mb.nd L3)<|TH MT<|KE 4)<|bc (sO [3] Qd (ir G.Zb<|a1<|xv 2) (gN 3)<|bc (sI (tN<|tt<|xf Wo z<|a2 (xx (xv 0)<|xv 3)<|xv 1) (b1<|sR x0) b0)<|bj (sI (tp<|wa (tc KJ KL (xv 3) xi)<|wA<|te (T7 (Zpy (K:=K)<|show _<cLine from(z ()).units0) (jx K (jx K (pv 0)<|Py XU (pv 3) X5) X5) (jx K (jx K (pv 0)<|pv 3) X5)<|KO _)<|Tj<|Zf7 (XS (XS (Xw 0)<|XW (Xw 3) X2) X2)<|XS (XS (Xw 0)<|Xw 3) X2) (b1<|sR x0) b0)<|b1<|se (BW (K7<|z ()) (pv 4) (jx K (jx K (pv 0)<|pv 3) X5) (jx K (jx K (pv 0)<|pv 3) X5) rfl)<|BL 4 (XS (XS (Xw 0)<|Xw 3) X2)<|XS (XS (Xw 0)<|Xw 3) X2)<|b1<|se (Zly<|pv 4)<|Zvh 4)) (.a ?_)
 ·rintro ds R X ⟨f,rfl,N,M⟩;refine⟨rfl,?_⟩;have U:f.length<8:=by lia
  obtain⟨f1,f2⟩:=G6 _ U;have o:=Sy f f.length
  have y:(Kf f f.length).length=Th f.length:=by
   rw[o,WH,Dg (T9 _),KM,f1]
  have C:((Kf f f.length).map stD).length=Th f.length:=by rw[WH];exact y
  have A:∀k,k<=f.length->Th k<=5040:=λk hk=>(G6 k<|by lia).2
  have u:((Kf f f.length).map (·.1)).Pairwise sl:=by
   rw[o,Qt,show((λx:ZX×Int=>x.1)∘λr=>(r,Tf f [] r))=id from rfl,List.map_id]
   exact G5 (BB f.length) f.length
  have s:∀q∈Kf f f.length,q.1.Perm (X0 1 f.length):=λq hq=>by
   rw[o]at hq;obtain⟨r,z,rfl⟩:=Qf.mp hq
   have:=KM f.length
   rw[←this]at z;have h2:=(Ar<|T9 f.length).mp (by rw[KM]at z ⊢;exact z);exact h2
  generalize Kf f f.length=L at y C u s M ⊢;refine⟨⟨by lia,by lia⟩,TX (λi h=>h=[some (.bor<|.lst<|L.map stD),some (.sh<|.int f.length),some (.sh<|.int (Th i:Nat)),none,none]) rfl ?_ ?_⟩
  ·rintro i h J rfl;have l:i<((f.length:Nat):Int).toNat:=J
   have:=A i (by lia)
   refine⟨.inl ⟨by lia,by lia⟩,?_⟩;show _=[_,_,some (S.sh<|.int ((Th i*(i+1):Nat):Int)),_,_];rw[show((Th i*(i+1):Nat):Int)=(Th i:Int)*(0+(i:Int)+1) by rw[Int.natCast_mul];congr 1;lia];rfl
  ·rintro h rfl;rw[Qx];refine⟨true,.same _,Ki (An (by rw[C]) ?_)⟩;refine⟨⟨by lia,by lia⟩,TX (λi h=>h=[some (.bor<|.lst<|L.map stD),some (.sh<|.int f.length),some (.sh<|.int (Th f.length:Nat)),none,some (.own<|.dT ((L.take i).map P6))]) rfl ?_ ?_⟩
   ·rintro i h J rfl;have Y:i<((Th f.length:Nat):Int).toNat:=J;have l:i<L.length:=by lia
    have at_:∀(j:Nat) (k:Int) (E:j<L.length),k=(j:Int)->atI (L.map stD) k=some (stD L[j]):=λj k E e=>by rw[e];exact Ak E
    have B:∀q,(S.bor<|D.lst<|L.map stD).sub (stD q)=S.sh (stD q):=λq=>GV q;refine⟨_,at_ i _ l (by lia),?_⟩;rw[B];refine⟨L[i],f.length,rfl,N,s _ (Qc l),Ki ?_⟩;refine NY (λh=>h=[some (.bor<|.lst<|L.map stD),some (.sh<|.int f.length),some (.sh<|.int (Th f.length:Nat)),some (.sh<|.int (0+(i:Int))),some (.own<|.dT ((L.take i).map P6))]) ?_ ?_
    ·refine X1 (λg=>?_) (λg=>Ki rfl);have g':0<0+(i:Int):=WO g;refine⟨_,at_ (i-1) _ (by lia) (by lia),?_⟩;rw[B];refine⟨_,rfl,_,at_ i _ l (by lia),?_⟩;rw[B]
     have Q:sl L[i-1].1 L[i].1:=by
      have:=Q7.mp u (i-1) i (by rw[WH];lia) (by rw[WH];exact l) (by lia)
      rw[Vm,Vm]at this;exact this
     refine⟨_,rfl,L[i-1].1,L[i].1,rfl,rfl,?_,?_⟩
     ·rw[(s _<|Qc<|show i-1<L.length by lia).length_eq,(s _<|Qc l).length_eq]
     ·rw[Iq Q];exact rfl
    ·rintro h rfl;refine⟨_,at_ i _ l (by lia),?_⟩;rw[B];refine⟨_,rfl,_,at_ i _ l (by lia),?_⟩;rw[B];refine⟨_,rfl,kT L[i].1,.int L[i].2,Nr _,rfl,by rw[WH,Qo];lia,?_⟩
     have H:XA ((L.take i).map P6) (kT L[i].1)=none:=by
      refine Zj3 λp T e=>?_;obtain⟨q,hq,rfl⟩:=Qf.mp T;obtain⟨j,E,rfl⟩:=V7 hq;rw[Qo]at E;rw[Vz]at e
      have:=Q7.mp u j i (by rw[WH];lia) (by rw[WH];exact l) (by lia)
      rw[Vm,Vm,Bh e]at this;exact Cy this this
     rw[Lv _ H,Qh l,WY];rfl
   ·rintro h rfl;rw[Qx,←y,QF];exact M
def Zk5(M:Def K mg "_law_opening" GH ["_law_script","_law_menu_here"])
  : OE ζ:=by
 refine M.fz Ik (λl n=>(bc (sS 2 n<|xf Yt l<|a2 (xf Yl l<|a2 (xv 0) xi) xi)<|bc (se (λ{_}=>(@Pu.pz _ _ _ _ _ _ 3 Ik.nd (@Zcl _ _ _ _ _ _ _ (RL (K:=K)) (@N0 _ _ _ _<|@Kw _ _ _ _ _ X5 (@Kw _ _ _ _ _ X5 (@Kw _ _ _ _ _ X5 (@Kw _ _ _ _ _ X5 (@Kw _ _ _ _ _ X5 (@Kw _ _ _ _ _ X5 (@Kw _ _ _ _ _ X5 (@Kw _ _ _ _ _ X5 (@Kw _ _ _ _ _ (jx K (pv 1) X5) Pr rfl) rfl) rfl) rfl) rfl) rfl) rfl) rfl) rfl) (Py XX (pv 2) X5) (λ_ _=>rfl)) rfl (by first|exact Or.inl rfl|exact Or.inr rfl) rfl (by first|exact .inl rfl|exact .inr rfl|assumption)))<|TH (XS (Nv<|Pn X2<|Pn X2<|Pn X2<|Pn X2<|Pn X2<|Pn X2<|Pn X2<|Pn X2<|Pn (XS (Xw 1) X2) Ka)<|XT (Xw 2) X2)<|KE 3)<|bc (sS 4 n<|xL a0)<|bc (sO [5,6] Qd (ir G.Zb<|a1<|xv 3) (gN 5)<|bc (sS 6 n<|xf Y4 l<|a2 (xf Yt l<|a2 (xv 2)<|xo XI XJ xi<|xv 5)<|xv 1)<|bj (sI (tq l (xo XX XT (xv 2) xi) xi) (b1<|sS 6 n<|xt<|a2 (xo XI XJ xi<|xo XX XT (xo XI XJ (xv 2)<|xv 5) xi)<|xo XI XJ xi<|xo XX XT (xo XI XJ (xo XI XJ (xo XI XJ (xv 2)<|xv 5) xi)<|xo K8 KB (xv 5) xi) xi) b0)<|bj (sI (tq l (xo XX XT (xv 2) xi) xi) (b1<|sS 6 n<|xt<|a2 (xf Yp l<|a2 (xv 1)<|xv 5)<|xf Yp l<|a2 (xv 1)<|xo XX XT (xo XI XJ (xv 5) xi)<|xv 3) b0)<|b1<|sA 4<|xt<|a3 xs (xx (xv 6) xi)<|xx (xv 6) xi)<|b1<|sV 4)) (.a ?_)
 ·rintro ds R X ⟨r,m,rfl,A,L⟩;refine⟨rfl,?_⟩;have o:=A;obtain⟨a,b,c,d,e,rfl,ha,Y,U,T,Q⟩:=A;refine⟨r,1,rfl,by decide,_,_,rfl,?_⟩;generalize mixP (r.getD (1:Int).toNat 0) 300=p;have B:0<=p % 9/\p % 9<9:=by lia
  obtain⟨many,em,N⟩:∃v:Int,atI ([0,1,2,3,4,6,9,24,a].map D.int) (p % 9)=some (.int v)/\0<=v/\v<=24:=by
   refine⟨_,PU (f:=D.int) (xs:=[0,1,2,3,4,6,9,24,a]) B.1 B.2,?_⟩
   have s:∀v∈([0,1,2,3,4,6,9,24,a]:ZX),0<=v/\v<=24:=by
    intro v z;simp at z;rcases z with rfl|rfl|rfl|rfl|rfl|rfl|rfl|rfl|rfl<;>lia
   exact s _ (Qc _)
  refine⟨_,rfl,by simp,(by show(0:Int)<9;decide),_,em,by simp,⟨by lia,by lia⟩,?_⟩;refine TX (λi g=>∃h:ZW,h.length=i/\g=[some (.bor<|.scr r),some (.bor<|.lst (([a,b,c,d,e]:ZX).map D.int)),some (.sh<|.int p),some (.sh<|.int many),some (.own (h.map λq=>dD (Dd.wish q.1 q.2).q)),none,none]) ⟨[],rfl,rfl⟩ ?_ ?_
  ·rintro i g J ⟨h,hq,rfl⟩;have H:i<many.toNat:=J;have E:(h.map λq=>dD (Dd.wish q.1 q.2).q).length=h.length:=WH ..;refine⟨_,_,rfl,_,_,rfl,o,λu p2=>?_⟩;refine NY (λg=>∃(x y:Int),g=[some (.bor<|.scr r),some (.bor<|.lst (([a,b,c,d,e]:ZX).map D.int)),some (.sh<|.int p),some (.sh<|.int many),some (.own (h.map λq=>dD (Dd.wish q.1 q.2).q)),some (.sh<|.int (0+(i:Int))),some (.sh<|prD (x,y))]) ?_ ?_
   ·refine⟨(by show(0:Int)<9;decide),X1 (λ_=>?_) (λ_=>⟨u,p2,rfl⟩)⟩;exact⟨(by show(0:Int)<10;decide),⟨by decide,by decide⟩,(by show(0:Int)<10;decide),by simp,_,_,rfl⟩
   ·rintro g ⟨u,p2,rfl⟩;refine NY (λg=>∃(x y:Int),g=[some (.bor<|.scr r),some (.bor<|.lst (([a,b,c,d,e]:ZX).map D.int)),some (.sh<|.int p),some (.sh<|.int many),some (.own (h.map λq=>dD (Dd.wish q.1 q.2).q)),some (.sh<|.int (0+(i:Int))),some (.sh<|prD (x,y))]) ?_ ?_
    ·refine⟨(by show(0:Int)<9;decide),X1 (λ_=>?_) (λ_=>⟨u,p2,rfl⟩)⟩;exact⟨_,_,rfl,o,λh1 _ _ _=>⟨(by show 0<many;lia),_,_,rfl,o,λh2 _ _ _=>⟨by simp,_,_,rfl⟩⟩⟩
    ·rintro g ⟨x,y,rfl⟩;refine⟨_,P0 _ _,_,GL _ _ (.inr rfl),by simp,by lia,?_⟩;exact⟨h++[(x,y)],by rw[WT,hq];rfl,by rw[WY];rfl⟩
  ·rintro g ⟨h,hq,rfl⟩;have C:h.length=many.toNat:=hq;exact L h (by lia)
def Zts(DD:Def K mg "_law_deed" Co ["_law_cell","_law_menu_here","_law_now"])
  : Mp ζ:=by
 refine DD.fz Zgs (λl n=>(bc (sS 3 n<|xo XX XT (xv 0) xi)<|bc (sS 4 n<|xo K8 KB (xv 0) xi)<|bc (sS 5 n<|xf YX l<|a2 (xv 4)<|xx (xv 2) xi)<|bc (sS 6 n<|xo K8 KB (xo K8 KB (xv 4) xi)<|xe (K0 (Cp rfl) (by rfl) G.Z2 boot_max<|bz X5<|ln K G.len<|jx K (pv 2) X5)<|EB<|tz X2<|Ni<|sz<|XS (Xw 2) X2)<|bc (sI (tc Po Pp (xv 3) xi) (b1<|sF 5<|sR<|xt<|a3 xs (xv 5)<|xf Yw l<|a2 (xv 6)<|xf Yp l<|a2 (xv 1)<|xo XX XT (xo K8 KB (xv 6) xi)<|xx (xv 1) xi) b0)<|bc (sI (tc Po Pp (xv 3) xi) (b1<|sF 5<|sR<|xt<|a3 xs (xv 5)<|xf YY l<|a3 (xv 6) (xx (xv 2) xi)<|xv 5) b0)<|bc (sI (tq l (xv 3) xi) (b1<|sF 5<|sR<|xt<|a2 xs<|xv 5) b0)<|bc (sS 7 n<|xf Y4 l<|a2 (xv 4)<|xv 1)<|bj (sI (tp<|wa (tq l (xv 3) xi)<|wa (tc KJ KL (xo XX XT (xv 4) xi) xi)<|wA<|te (T7 (Zkr (K:=K)<|show _<cLine from(l ()).units0) (jx K (pv 2) X5) (N0 Pr)<|KO _)<|Tj<|Gf (XS (Xw 2) X2)<|Nv Ka) (b1<|sS 7 n<|xx (xx (xv 2) xi)<|xo XX XT (xo K8 KB (xv 4) xi)<|xl G.len<|xx (xv 2) xi) b0)<|bc (sI (tc Po Pp (xv 3) xi) (b1<|sR<|xt<|a3 (xx (xL<|a2 xs xs)<|xo K8 KB (xv 3) xi) (xx (xv 7) xi)<|xx (xv 7) xi) b0)<|b1<|sR<|xt<|a1 xs)) (.a ?_)
 ·rintro ds R X ⟨c,m,f,w,Q,rfl,N,M,hF,hw,u,hB⟩;refine⟨rfl,?_⟩;have x:=N;have o:atI (plD f::plD w::Q) 1=some (plD w):=F2 (by decide) rfl;have hl:(f.map prD).length=f.length:=WH ..;have Y:(w.map prD).length=w.length:=WH ..;have A:∀z:Int,0<(if z>1 then z else 1)/\((if z>1 then z else 1)=z\/(if z>1 then z else 1)=1):=λz=>by split<;>lia
  have s:=A (((f.map prD).length:Nat):Int);refine⟨(by show(0:Int)<9;decide),⟨by decide,by decide⟩,_,P0 _ _,_,f,rfl,M,λp=>?_⟩;refine⟨⟨by decide,by decide⟩,_,P0 _ _,⟨s.1,Int.lt_of_le_of_lt (b:=1000) (by rcases s.2 with w|w<;>rw[w]<;>lia) (by decide)⟩,?_⟩
  obtain⟨L,m1,m2,m3,m4,em,ha,hb,hc,hd,he⟩:=N;have U:atI (m.map D.int) 0=some (.int L):=by rw[em];rfl
  refine X1 (λ_=>?_) (λ_=>X1 (λ_=>?_) (λ_=>X1 (λ_=>?_) (λg4=>?_)))
  ·exact⟨⟨by decide,by decide⟩,_,U,(by show 0<L;lia),m,_,rfl,x,λh _ _ _=>⟨_,_,rfl,λv=>⟨by simp,u (.sell p v)⟩⟩⟩
  ·exact⟨_,P0 _ _,_,f,p,rfl,M,hF,λv=>⟨by simp,u (.part p v)⟩⟩
  ·exact⟨by simp,u (.unite p)⟩
  ·refine⟨_,m,rfl,x,λa b=>?_⟩;refine NY (λr=>∃(a b:Int) (J H E:Option S),r=[some (.sh<|.int c),some (.bor<|.lst<|m.map D.int),some (.bor<|.tup (plD f::plD w::Q)),some (.sh<|.int (c % 9)),J,H,E,some (.sh<|prD (a,b))]) ?_ ?_
   ·refine X1 (λ_=>⟨(by show(0:Int)<4;decide),X1 (λ_=>⟨_,o,by simp,?_⟩) (λ_=>Ki ⟨a,b,_,_,_,rfl⟩)⟩) (λ_=>Ki ⟨a,b,_,_,_,rfl⟩);have C:(w.map prD).isEmpty=decide (w=[]):=by cases w<;>simp
    show if (!(w.map prD).isEmpty)=true then _ else _;rw[C];refine X1 (λg=>?_) (λg=>⟨a,b,_,_,_,rfl⟩);have y:w≠[]:=λz=>by rw[WL z]at g;cases g
    have hp:0<w.length:=VO.mpr y;have T:=Int.emod_nonneg (c / 9 / 4) (show(((w.map prD).length:Nat):Int)≠0 by lia);have q2:=Ud (c / 9 / 4) (show 0<(((w.map prD).length:Nat):Int) by lia);exact⟨_,o,⟨by decide,by decide⟩,_,o,(by show 0<(((w.map prD).length:Nat):Int);lia),_,PU (f:=prD) (xs:=w) T (by lia),_,_,_,_,_,rfl⟩
   ·rintro r ⟨a,b,J,H,E,rfl⟩;refine X1 (λg=>?_) (λg=>⟨by simp,hB⟩);have g':c % 9<8:=WO g;have hk:c % 9 / 7=0\/c % 9 / 7=1:=by lia
    have ex:∃k:Str,atI [D.str "wish",.str "drop"] (c % 9 / 7)=some (.str k)/\(k=("wish" : Str)\/k=("drop" : Str)):=by
     rcases hk with e|e<;>rw[e]
     ·exact⟨_,rfl,.inl rfl⟩
     ·exact⟨_,rfl,.inr rfl⟩
    obtain⟨k,ek,B⟩:=ex;refine⟨by simp,⟨by decide,by decide⟩,_,ek,_,P0 _ _,_,GL _ _ (.inr rfl),by simp,?_⟩;rcases B with rfl|rfl
    ·exact u (.wish a b)
    ·exact u (.drop a b)
def Zmm(x:Def K mg "check_no_ring" E5 ["strips","wishes"])
  : Ml ζ:=by
 refine x.fz Zjq (λg n=>(bc (sS 2 n<|xf Wv g<|a2 (xf Yo g<|a1<|xv 0)<|xv 1)<|b1<|sI (tt<|xv 2) (b1<|se Zfz Znx) b0)) (.a ?_)
 ·rintro y R X ⟨f,h,rfl,v,o,p,u,s⟩;refine⟨rfl,?_⟩;exact⟨f,rfl,v,o,_,h,rfl,WW (Sj f) (by decide),λl r t=>Zle p u r _ t (WS _),Ki (A:=False) s⟩
def Zhd(B:Def K mg "_law_call" Ed ["_law_village","_law_deed_here"])
  : M6 ζ:=by
 refine B.fy Zo8 (λu n=>(bc (sI (tq u (xx (xv 1) xi) xs) (b1<|se (KA<|TR Wx G.Za (hq<|u ()) ExcR.Kr (pv 0)<|bz (jx K (pv 1) X5)<|jx K (pv 1) X5)<|T6<|BK 0 Zgm<|tz (XS (Xw 1) X2)<|XS (Xw 1) X2) b0)<|bc (sI (tq u (xx (xv 1) xi) xs) (b1<|se (KA<|TR Wy G.Za (hq<|u ()) ExcR.Kr (pv 0)<|bz (jx K (pv 1) X5)<|jx K (pv 1) X5)<|T6<|BK 0 Zp5<|tz (XS (Xw 1) X2)<|XS (Xw 1) X2) b0)<|bc (sI (tq u (xx (xv 1) xi) xs) (b1<|se (KA<|TR Wz G.Za (hq<|u ()) ExcR.Kr (pv 0)<|az<|jx K (pv 1) X5)<|T6<|BK 0 Zr8<|sz<|XS (Xw 1) X2) b0)<|bc (sI (tq u (xx (xv 1) xi) xs) (b1<|se (KA<|TR W1 G.Za (hq<|u ()) ExcR.Kr (pv 0)<|bz (jx K (pv 1) X5)<|jx K (pv 1) X5)<|T6<|BK 0 Zio<|tz (XS (Xw 1) X2)<|XS (Xw 1) X2) b0)<|b1<|se (KA<|TR Wk G.Za (hq<|u ()) ExcR.Kr (pv 0)<|bz (jx K (pv 1) X5)<|jx K (pv 1) X5)<|T6<|BK 0 Zl6<|tz (XS (Xw 1) X2)<|XS (Xw 1) X2)) (.c ?_)
 ·rintro o C R X ⟨x,b1,s,r,bk,fs,l,f,w,d,rfl,rfl,y,v,hw,z,A,g⟩;refine⟨rfl,?_⟩;cases d with
  |sell p h=>
   refine⟨_,rfl,?_⟩;refine⟨rfl,rfl,_,rfl,_,rfl,x,b1,s,r,bk,fs,l,f,w,p,h,rfl,rfl,y,v,hw,z,?_⟩;have g:Kv (AV bk f p h) (X<|vO (ExcR.X9 mg "Village") x b1 s r bk (fs++[f]) (l++[w])) (R (vO (ExcR.X9 mg "Village") x b1 s r (bk++[(Dd.sell p h).q]) (fs++[f]++[(Dd.sell p h).fld f]) (l++[w]++[(Dd.sell p h).wsh w]))<|.int (bk.length+1)):=g;cases e:AV bk f p h with
   |some c=>rw[e]at g;exact⟨_,rfl,⟨rfl,by simp⟩,g⟩
   |none=>rw[e]at g;exact⟨_,rfl,⟨rfl,by simp⟩,g⟩
  |part p h=>
   refine⟨_,rfl,_,rfl,?_⟩;refine⟨rfl,rfl,_,rfl,_,rfl,x,b1,s,r,bk,fs,l,f,w,p,h,rfl,rfl,y,v,hw,z,?_⟩;have g:Kv (FT bk f p h) (X<|vO (ExcR.X9 mg "Village") x b1 s r bk (fs++[f]) (l++[w])) (R (vO (ExcR.X9 mg "Village") x b1 s r (bk++[(Dd.part p h).q]) (fs++[f]++[(Dd.part p h).fld f]) (l++[w]++[(Dd.part p h).wsh w]))<|.int (bk.length+1)):=g;cases e:FT bk f p h with
   |some c=>rw[e]at g;exact⟨_,rfl,⟨rfl,by simp⟩,g⟩
   |none=>rw[e]at g;exact⟨_,rfl,⟨rfl,by simp⟩,g⟩
  |unite p=>
   refine⟨_,rfl,_,rfl,_,rfl,?_⟩;refine⟨rfl,rfl,_,rfl,x,b1,s,r,bk,fs,l,f,w,p,rfl,rfl,y,v,hw,z,?_⟩;have g:Kv (A2 bk f p) (X<|vO (ExcR.X9 mg "Village") x b1 s r bk (fs++[f]) (l++[w])) (R (vO (ExcR.X9 mg "Village") x b1 s r (bk++[(Dd.unite p).q]) (fs++[f]++[(Dd.unite p).fld f]) (l++[w]++[(Dd.unite p).wsh w]))<|.int (bk.length+1)):=g;cases e:A2 bk f p with
   |some c=>rw[e]at g;exact⟨_,rfl,⟨rfl,by simp⟩,g⟩
   |none=>rw[e]at g;exact⟨_,rfl,⟨rfl,by simp⟩,g⟩
  |wish p h=>
   refine⟨_,rfl,_,rfl,_,rfl,_,rfl,?_⟩;refine⟨rfl,rfl,_,rfl,_,rfl,x,b1,s,r,bk,fs,l,f,w,p,h,rfl,rfl,y,v,hw,A,?_⟩;have g:Kv (A9 bk w p h) (X<|vO (ExcR.X9 mg "Village") x b1 s r bk (fs++[f]) (l++[w])) (R (vO (ExcR.X9 mg "Village") x b1 s r (bk++[(Dd.wish p h).q]) (fs++[f]++[(Dd.wish p h).fld f]) (l++[w]++[(Dd.wish p h).wsh w]))<|.int (bk.length+1)):=g;cases e:A9 bk w p h with
   |some c=>rw[e]at g;exact⟨_,rfl,⟨rfl,by simp⟩,g⟩
   |none=>rw[e]at g;exact⟨_,rfl,⟨rfl,by simp⟩,g⟩
  |drop p h=>
   refine⟨_,rfl,_,rfl,_,rfl,_,rfl,?_⟩;refine⟨rfl,rfl,_,rfl,_,rfl,x,b1,s,r,bk,fs,l,f,w,p,h,rfl,rfl,y,v,hw,A,?_⟩;have g:Kv (FS bk w p h) (X<|vO (ExcR.X9 mg "Village") x b1 s r bk (fs++[f]) (l++[w])) (R (vO (ExcR.X9 mg "Village") x b1 s r (bk++[(Dd.drop p h).q]) (fs++[f]++[(Dd.drop p h).fld f]) (l++[w]++[(Dd.drop p h).wsh w]))<|.int (bk.length+1)):=g;cases e:FS bk w p h with
   |some c=>rw[e]at g;exact⟨_,rfl,⟨rfl,by simp⟩,g⟩
   |none=>rw[e]at g;exact⟨_,rfl,⟨rfl,by simp⟩,g⟩
def Zfc(H:Def K mg "cost_table" EJ ["strips","wishes"])
  : M3 ζ:=by
 refine H.fz Zkm (λp n=>(bc (sE<|xf Yx p<|a2 (xv 0)<|xv 1)<|bc (sS 2 n<|xf Y5 p<|a3 (xv 0) (xv 1)<|xf Y3 p<|a1<|xv 0)<|b1<|sR<|xe (KN (Zec rfl) (by rfl) G.Zg boot_list<|Kw (Zgz (K:=K)<|pv 2) Pr)<|Zp7<|Xw 2)) (.a ?_)
 ·rintro J R X ⟨f,u,rfl,s,l,hw,o,v,B⟩;refine⟨rfl,f,u,rfl,s,l,o,v,f,rfl,s,l,λy r=>⟨f,u,y,pcc f,rfl,s,l,hw,o,r,Iz o v,λg T=>?_⟩⟩;have z:(X8 f).Nodup:=(TK f).imp (λh=>Ji h);obtain⟨x,e,A⟩:=T.vals (O2 z);obtain⟨E,C⟩:=Hj e;refine⟨g,rfl,E,?_⟩;rw[C];exact B x A
def Zc9(DD:Def K mg "best_order" Dt ["strips","wishes"])
  : Rx ζ:=by
 refine DD.fz Zb5 (λA n=>(bc (sE<|xf Yx A<|a2 (xv 0)<|xv 1)<|bc (sS 2 n<|xf Y3 A<|a1<|xv 0)<|bc (se (Pu.pz 3 Zb5.nd<|fz Y5 (A ())<|dz (pv 0) (pv 1)<|pv 2)<|TH (Pm<|uz (Xw 0) (Xw 1)<|Xw 2)<|KE 3)<|bc (sS 4 n<|xe (KN (GU (K:=K)) (by rfl) G.Zi boot_tuple<|az<|fz Yo (A ())<|az<|pv 0)<|Dz<|sz<|Pm<|sz<|Xw 0)<|bc (sS 5 n<|xL a0)<|bc (sW [6,7] Qd (tt<|xv 4)<|bc (sC 6 ["holder","members","wishes"] [none,some 4,some 1] n (je (NT (K:=K)<|pv 4)<|SndI.c<|NA<|Xw 4) (gN 0) (f1<|tt<|xf YJ A<|a3 (xv 1) (xv 0)<|xv 2)<|xv 0)<|bc (sC 7 ["first","members","least","pairs"] [none,some 4,some 3,some 2] n (jL<|xv 6) (gN 0) (f1<|tq A (xf Wj A<|ac (xv 1)<|ac (xv 0)<|ac (xv 2)<|ac (xv 3) a0)<|xe (TJ (K7<|A ()) (pv 2) (pv 1) (λ_ _=>rfl))<|Sm (Xw 2)<|Xw 1)<|xv 0)<|bc (sA 5<|xx (xv 7) xi)<|b1<|sS 4 n<|xf Yv A<|a2 (xv 4)<|xx (xv 7) xi)<|b1<|sV 5)) (.a ?_)
 ·rintro ds R X ⟨z,v,rfl,hF,hz,hw,hu,hN,hR⟩;refine⟨rfl,z,v,rfl,hF,hz,hu,hN,z,rfl,hF,hz,λpa hpa=>⟨z,v,pa,pcc z,rfl,hF,hz,hw,hu,hpa,Iz hu hN,λkvs T=>⟨z,rfl,hF,hz,?_⟩⟩⟩;have hh:=Sj z;have hri:=TK z;have nd:(X8 z).Nodup:=hri.imp (λh=>Ji h);have hpa':∀x∈X8 z,∀y∈X8 z,XA pa [.inl x,.inl y]=some (.int<|pcc z x y):=hpa;generalize pcc z=c at *;generalize X8 z=Y at *
  refine⟨rfl,by simp,Ai (λγ'=>∃(u o:ZX),γ'=[some (.bor<|.lst<|z.map prD),some (.bor<|.lst<|v.map prD),some (.own<|.dT pa),some (.own<|.dT kvs),some (.sh<|tD u),some (.own<|o.map D.int),none,none]/\u∈XY Y/\o.length+u.length<=10/\
   ∀p,N2 v c u p->N2 v c Y (o++p)) Zss ⟨Y,[],rfl,List.mem_of_getLast? (Re Y),by simpa using hh,λp hp=>hp⟩ ?_⟩
  rintro γ' ⟨u,o,rfl,M,hol,hB⟩;show if (!(u.map D.int).isEmpty)=true then _ else _;refine X1 (λg=>?_) (λg=>?_)
  ·have E:=By Y u M;have hne:u≠[]:=λe=>by subst e;simp at g
   have C:u.Nodup:=nd.sublist E;have hrm:=hri.sublist E
   have B:∀l∈u,XG u l∈XY Y:=λl N=>by
    obtain⟨k,hk,e⟩:=Q0.mp M;obtain⟨j,_,ej⟩:=Lu nd k u (by rw[WI hk,e]) l N;exact Qk ej
   obtain⟨J,hvs⟩:=RG λl N=>T.val _ (B l N);obtain⟨V,hV1,U⟩:=T.val u M;have hv2:∀l∈u,P9 v c (XG u l) (J l):=λl N=>(hvs l N).2
   have L:∃f rest,(u.filter (λh=>firstM v u h)).filter (λf=>decide (J f+((XG u f).map (c f)).sum=V))=f::rest:=by
    obtain⟨q,q1,q2,q3⟩:=U.is;cases q with
    |nil=>exact absurd q1.nil_eq.symm hne
    |cons g p=>
     obtain⟨r1,r2,r3,_⟩:=Lw C hu hv2 U q1 q2 q3;exact List.exists_cons_of_ne_nil (List.ne_nil_of_mem<|Qg.mpr ⟨Qg.mpr ⟨r1,r2⟩,WL r3⟩)
   obtain⟨f,rest,ef⟩:=L;have Q:f∈(u.filter (λh=>firstM v u h)).filter (λf=>decide (J f+((XG u f).map (c f)).sum=V)):=by rw[ef];exact Q9 ..
   obtain⟨Q,hf3⟩:=Qg.mp Q;obtain⟨H,hf2⟩:=Qg.mp Q
   have hmin:∀g∈u,firstM v u g=true->J g+((XG u g).map (c g)).sum=V->f<=g:=λg h1 h2 h3=>by
    have hg:g∈(u.filter (λh=>firstM v u h)).filter (λf=>decide (J f+((XG u f).map (c f)).sum=V)):=Qg.mpr ⟨Qg.mpr ⟨h1,h2⟩,WL h3⟩
    have A:(f::rest).Pairwise (· < ·):=by
     rw[←ef];exact(hrm.filter _).filter _
    rw[ef]at hg;rcases WZ.mp hg with e|hg
    ·lia
    ·have:=(QO.mp A).1 g hg
     lia
   refine⟨_,rfl,Ku (s:=.sh .non) (xs:=u) (emb:=D.int) (λh=>if firstM v u h=true then some (.int h)else none) (by lia) (λh hm=>?_) ?_⟩
   ·refine⟨u,h,v,rfl,hw,?_⟩;refine X1 (λg=>⟨_,rfl,WQ g⟩) (λg=>WN g)
   ·rw[Pz (λh=>firstM v u h)];refine Ku (xs:=u.filter (λh=>firstM v u h)) (emb:=D.int) (λf=>if decide (J f+((XG u f).map (c f)).sum=V)=true then some (.int f)else none) (WW (Q5 _ _)<|by lia) (λl N=>?_) ?_
    ·obtain⟨hl1,hl2⟩:=Qg.mp N;refine⟨u,l,kvs,pa,c l,J l,rfl,by lia,(hvs l hl1).1,λm hm=>hpa' l (E.subset hl1) m (E.subset<|less_sub.subset hm),_,_,Nr u,hV1,rfl,?_⟩;refine X1 (λg=>⟨_,rfl,WQ g⟩) (λg=>WN g)
    ·rw[Pz (λf=>decide (J f+((XG u f).map (c f)).sum=V)),ef];refine⟨_,P0 _ _,by rw[WH];lia,_,P0 _ _,u,f,rfl,by lia,⟨XG u f,o++[f],?_,B f H,?_,λp hp=>?_⟩,?_⟩
     ·rw[WY];rfl
     ·have:=(Nm C H).length_eq
      rw[WT];rw[Qi]at this;show o.length+1+_<=10;lia
     ·rw[Jc];exact hB _ (Zgh C hu hv2 U H hf2 (WO hf3) hmin hp)
     ·have:=(Nm C H).length_eq
      rw[Qi]at this;show((XG u f).map D.int).length<(u.map D.int).length;rw[WH,WH];lia
  ·have e:u=[]:=by
    cases u with
    |nil=>rfl
    |cons a r=>exact absurd rfl g
   subst e
   have:=hB [] (Zmd v c)
   rw[QA]at this;exact hR o this
def Zho(T:Def K mg "least_by_stands" He ["strips","wishes"])
  : RA ζ:=by
 refine T.fy Zuz (λp n=>(bc (sE<|xg Y2 p ExcR.Kr<|a1<|xv 0)<|bc (sE<|xf Yx p<|a2 (xv 0)<|xv 1)<|bc (sS 2 n<|xg Y6 p ExcR.Kr<|a1<|xv 0)<|b1<|sR<|xe (K0 (M0 (K:=K) rfl) (by rfl) G.ZI boot_min<|az<|cz ["stand","cost","wishes","strips"] [none,none,some 1,some 0] (S7 (K:=K)<|pv 2) ⟨(B8 (K:=K) (n:=2) rfl<|Ny (gk 0)<|Ny (gk 1) BH),(Ag<|SG (K:=K)<|fz W2 (p ())<|bz (fz YN (p ())<|bz (pv 3)<|pv 0)<|pv 2),(pv 1)⟩)<|RV<|sz<|Nf (Bs<|Xw 2) (AC<|Sk (KE 0)<|Sk (KE 1) Ah) (IB<|Pm<|tz (Pm<|tz (Xw 3)<|Xw 0)<|Xw 2)<|Xw 1)) (.a ?_)
 ·rintro U R X ⟨f,o,rfl,B,g⟩;refine⟨rfl,?_⟩;by_cases x:f.length<=7
  ·have l:Nk f=none:=WN (by lia);rw[l]at g;obtain⟨hw,H,M,⟨C,y,A⟩,g⟩:=g;refine⟨f,rfl,?_⟩;rw[l];refine⟨f,o,rfl,B,by lia,H,M,?_⟩;refine⟨f,rfl,B,?_⟩;rw[l];have E:=Zhl x;refine Ku (xs:=Kf f f.length) (emb:=stD) (λq=>if FX (Kd f q.1) o=true then some (D.int q.2)else none) (by lia) (λq hq=>?_) ?_
   ·obtain⟨h,v⟩:=stands_mem.mp hq;have u:∀z∈q.1,1<=z/\z<=f.length:=λz x=>run_mem.mp (h.mem_iff.mp x);have J:q.1.length=f.length:=by rw[h.length_eq,KM]
    refine⟨rfl,f,q.1,rfl,by lia,u,Kd f q.1,o,rfl,Zcu B u,?_,hw,λc=>?_,λc=>?_⟩
    ·show(q.1.map λz=>X6 f z).length<=50;rw[WH];lia
    ·exact Kz ⟨_,rfl,WQ (keepB_iff.mpr c)⟩
    ·exact Ki (WN λz=>c (keepB_iff.mp z))
   rw[Pz (λq:ZX×Int=>FX (Kd f q.1) o) (λq:ZX×Int=>D.int q.2)];refine⟨((Kf f f.length).filter λq:ZX×Int=>FX (Kd f q.1) o).map (·.2),by rw[Qt];rfl,?_,λm L s=>g m ⟨?_,λr h v=>?_⟩⟩
   ·rw[WH];refine List.length_pos_of_mem (a:=(C,XH f C)) ?_;exact Qg.mpr ⟨stands_mem.mpr ⟨y,rfl⟩,keepB_iff.mpr A⟩
   ·obtain⟨q,hq,rfl⟩:=Qf.mp L;obtain⟨h,v⟩:=Qg.mp hq;obtain⟨Q,N⟩:=stands_mem.mp h;exact⟨q.1,Q,keepB_iff.mp v,N.symm⟩
   ·exact s _ (Qf.mpr ⟨(r,XH f r),Qg.mpr ⟨stands_mem.mpr ⟨h,rfl⟩,keepB_iff.mpr v⟩,rfl⟩)
  ·have l:Nk f=some "TooManyStands":=WQ (by lia);rw[l]at g;refine⟨f,rfl,?_⟩;rw[l];exact g
def Zjp(DD:Def K mg "_law_go" GG ["_law_village","_law_past","_law_deed_here"])
  : Zak ζ:=by
 refine DD.fz R7 (λo n=>(bc (sI (tq o (xx (xv 2) xi) xs) (bj (sI (tc KJ KL (xl G.len<|xv 1) xi) (bc (se (PM<|K9 YK G.Za (hq<|o ()) SZ<|pv 0)<|S9<|SR 0 Zkz Ka)<|b1<|se (PM<|Fj Q4 Jj Jk A5<|pv 1)<|S9<|Zif 1) b0)<|b1<|se (KA Nw)<|Bg Nu) b0)<|bc (sF 2<|sS 3 n<|xe (fz Wr (o ())<|bz (jx K (pv 1)<|KR KZ X5)<|pv 2)<|Du<|tz (XS (Xw 1)<|KY X2)<|Xw 2)<|bc (sI (tc KJ KL (xx (xv 3) xi) xi) (b1<|se (KA Nw)<|Bg Nu) b0)<|bc (sF 2<|sA 1<|xt<|a3 (xx (xv 3) xi) (xx (xv 3) xi)<|xv 2)<|bc (sF 2<|se (Pu.pz 4 R7.nd<|SE W6 (hq<|o ()) SZ<|bz (pv 0)<|pv 2)<|Zty (Zi4 0<|sz<|Xw 2)<|KE 4)<|b1<|se (KA<|BM (fz Ys (o ())<|az<|pv 4)<|Bj<|Tx (NS (K:=K)<|show _<cLine from(o ()).units0) (pv 4) (Py XU (ln K G.len<|pv 1) X5)<|KO _)<|Bg<|BZ (Pm<|sz<|Xw 4)<|NJ (Xw 4)<|XW (Ni<|sz<|Xw 1) X2)) (.d ?_)
 ·rintro o1 o2 ss R X ⟨x,b1,B,A,a,f0,f,q,rfl,rfl,rfl,hz,T,s⟩;refine⟨rfl,?_⟩;obtain⟨⟨h1,U⟩,J⟩:=T.cur;rcases s with⟨rfl,l⟩|⟨d,rfl,l⟩
  ·refine⟨_,rfl,?_⟩;refine NY (λp=>∃H E C:Option S,p=[some (.own<|vO (ExcR.X9 mg "Village") x b1 B A (bkH f.dropLast) (fsH f0 f.dropLast)<|wsH f.dropLast),some (.own<|.lsA a<|Kl f0 f.dropLast),H,E,C]) ?_ ?_
   ·rcases QD f with rfl|⟨h,y,rfl⟩
    ·exact⟨_,_,_,rfl⟩
    ·rw[QU,Vg];have r:(Kl f0 (h++[y])).length=h.length+2:=by rw[A0,WT,QT]
     have g:(((Kl f0 (h++[y])).length:Nat):Int)>1:=by lia
     have v:(Kl f0 (h++[y]))[(Kl f0 (h++[y])).length-1]?=some (Gu y):=by
      rw[r,AX,Qr (by rw[A0];lia),A0];rw[show h.length+2-1-(h.length+1)=0 by lia];rfl
     have ed:(Kl f0 (h++[y])).dropLast=Kl f0 h:=by rw[AX,Vg]
     show if decide ((((Kl f0 (h++[y])).length:Nat):Int)>1)=true then _ else _;rw[WL g];refine Kz ⟨rfl,rfl,x,b1,B,A,bkH (h++[y]),fsH f0 (h++[y]),wsH (h++[y]),rfl,rfl,by rw[Zgu,DU],by rw[Zi1,DU],λe=>?_,λb0 q e=>?_⟩
     ·rw[ET]at e;simp at e
     ·rw[ET]at e;obtain⟨rfl,e2⟩:=List.append_inj' e rfl;cases e2
      rw[Bl,AF,Vg,Vg];refine⟨_,v,?_⟩;rw[ed];exact⟨_,_,_,rfl⟩
   ·rintro p ⟨H,E,C,rfl⟩;exact⟨_,_,rfl,rfl,⟨rfl,by simp⟩,rfl,l⟩
  ·obtain⟨fs,M,lf⟩:=FO f0 f;obtain⟨N,L,lw⟩:=Gi f;obtain⟨dl,v⟩:=Av f0 f;have lb:=DU f;have lp:=A0 f0 f;have Q:=d.not_back;refine⟨_,P0 _ _,?_⟩;show if decide (d.q.1=("back" : Str))=true then _ else _;rw[Ql Q];refine Ki ⟨_,v,X7 f0 f,XQ f,[dl],d,rfl,U,J.1,_,rfl,?_⟩;by_cases e:d.err (X7 f0 f) (XQ f)=none
   ·have z:Ph f0 f d=f++[(d,d.fld (X7 f0 f),d.wsh (XQ f))]:=by unfold Ph;rw[WQ e]
    rw[z]at l;rw[ET,Bl,AF,AX,M,L]at l;show if decide (codeN (d.err (X7 f0 f)<|XQ f)>0)=true then _ else _;rw[e];refine Ki ⟨_,rfl,_,rfl,by simp,by lia,?_⟩;refine⟨x,b1,B,A,bkH f,fs,N,X7 f0 f,XQ f,d,by rw[←M,←L],rfl,by lia,by lia,by lia,by lia,by have:=J.1;lia,?_⟩
    have ec:ED (bkH f) (X7 f0 f) (XQ f) d=none:=by
     unfold ED;rw[WN (by lia),e]
    have en:d.nf (X7 f0 f) (XQ f)=d.fld (X7 f0 f):=by unfold Dd.nf;rw[WQ e]
    have u:d.nw (X7 f0 f) (XQ f)=d.wsh (XQ f):=by unfold Dd.nw;rw[WQ e]
    rw[ec];have Y:((((bkH f).length:Nat):Int)+1=((((Kl f0 f++[D.tup [plD (d.nf (X7 f0 f)<|XQ f),plD (d.nw (X7 f0 f)<|XQ f),dD d.q]]).length:Nat)):Int)-1):=by rw[WT,QT];lia
    refine⟨_,rfl,Kz ?_⟩;refine⟨_,_,rfl,rfl,⟨rfl,by simp⟩,rfl,?_⟩;rw[WL Y,en,u];exact l
   ·have z:Ph f0 f d=f:=by unfold Ph;rw[WN e]
    rw[z]at l;show if decide (codeN (d.err (X7 f0 f)<|XQ f)>0)=true then _ else _;rw[WL (Dd.code_pos e)];exact Kz ⟨_,_,rfl,rfl,⟨rfl,by simp⟩,rfl,l⟩
def Ztd(C:Def K mg "least_cost" GP ["strips","wishes"])
  : Iw ζ:=by
 refine C.fz Zow (λx n=>(b1<|sR<|xx (xf W7 x<|a2 (xv 0)<|xv 1)<|xe (KR KZ X5)<|KY X2)) (.a ?_)
 ·rintro H R X ⟨g,p,rfl,B,s,hw,u,A,z⟩;refine⟨rfl,g,p,rfl,B,s,hw,u,A,λr o=>?_⟩;have l:=Re (X8 g);rw[List.getLast?_eq_getElem?]at l;have E:=(Qu.mp l).1;have y:=o.1;obtain⟨v,h⟩:∃v,r[(XY<|X8 g).length-1]?=some v:=⟨_,WI (by lia)⟩;have L:=o.2 _ _ _ l h;rw[←y]at h;exact⟨_,PJ (f:=D.int) (Fc h),z _ L⟩
def Zt7(u:Kb K (Kc K (XM ζ) "order") "order" "Village.order" Cg ["self"])
  : HC ζ:=by
 refine u.fz Zji (λg n=>(b1<|sR<|xf W8 g<|a2 (xe (K9 Ym G.Za (hq<|g ()) K4<|pv 0)<|Pa NQ (Xw 0) Ka)<|xe (K9 Yn G.Za (hq<|g ()) K4<|pv 0)<|Pa S8 (Xw 0) Ka)) (.a ?_)
 ·rintro v R X ⟨bk,fs,h,f,w,rfl,s,l,hw,o,r,p⟩;refine⟨rfl,?_⟩;exact⟨rfl,rfl,bk,fs,h++[w],f,rfl,rfl,rfl,bk,fs++[f],h,w,rfl,f,w,rfl,s,l,hw,o,r,p⟩
def Zt0(DD:Def K mg "_law_no_rings" Et ["_law_village","_law_past"])
  : MD ζ:=by
 refine DD.fz Zjk (λs n=>(bc (sW [2] Qd (tN<|tt<|xf YT s<|a2 (xf YQ s<|a1<|xx (xx (xv 1)<|xe (KR KZ X5)<|KY X2) xi)<|xx (xx (xv 1)<|xe (KR KZ X5)<|KY X2) xi)<|bc (sS 2 n<|xx (xx (xx (xv 1)<|xe (KR KZ X5)<|KY X2) xi)<|xe (KR KZ X5)<|KY X2)<|b1<|sN 1<|se (F6 (FC<|SG (K:=K)<|fz Yy (s ())<|dz (pv 0) (pv 1)<|PK<|dz NZ (jx K (pv 2) X5)<|jx K (pv 2) X5) (Bw<|KA Nw)
   FB)<|AQ (FN<|AW<|AJ 0 1 (by decide)<|sz<|PB<|uz NV (XS (Xw 2) X2)<|XS (Xw 2) X2) (Bg Nu) B7)<|b1<|se (KA Nw)<|Bg Nu)) (.d ?_)
 ·rintro o1 o2 ss R X ⟨x,b1,L,J,a,f0,p,rfl,rfl,rfl,hz,C,N⟩;refine⟨rfl,?_⟩;refine Ai (λl=>∃f:Ke,l=[some (.own<|vO (ExcR.X9 mg "Village") x b1 L J (bkH f) (fsH f0 f)<|wsH f),some (.own<|.lsA a<|Kl f0 f),none]/\f.length+(XQ f).length<=p.length+20/\FineH f0 f/\X7 f0 f=X7 f0 p) Zrg ⟨p,rfl,by have:=C.cur.2.1;lia,C,rfl⟩ ?_;rintro l ⟨f,rfl,hl,h,E⟩;obtain⟨⟨c1,c2⟩,H⟩:=h.cur;obtain⟨dl,y⟩:=Av f0 f;have A:∀q∈XQ f,q.1≠q.2:=λq hq=>(H.2.2 q hq).2;refine⟨_,y,_,rfl,X7 f0 f,rfl,by lia,_,y,_,rfl,X8 (X7 f0 f),XQ f,rfl,by have:=Sj (X7 f0 f);lia,by have:=H.1;lia,?_⟩;refine X1 (λg=>?_) (λg=>?_)
  ·have u:¬Kh (XQ f) (X8<|X7 f0 f) (X8<|X7 f0 f).length=[]:=λz=>by rw[WL z]at g;cases g
   have v:∃r,Ring (X8<|X7 f0 f) (XQ f) r:=Qp λz=>u ((Zba A).mpr z)
   have o:XQ f≠[]:=λz=>by
    obtain⟨r,M⟩:=v;rw[z]at M;exact Zgy M
   obtain⟨q,hq,Y⟩:=Zjy prD o;have U:=Zvd (f0:=f0) hq;have T:=Zn4 hq;refine⟨_,y,_,rfl,_,Y,?_⟩;refine⟨_,P0 _ _,_,GL _ _ (.inr rfl),by simp,?_⟩;refine⟨x,b1,L,J,a,f0,f,_,rfl,rfl,rfl,by lia,h,.inr ⟨.drop q.1 q.2,rfl,?_⟩⟩;have B:=h.add (.drop q.1 q.2);rw[U]at B ⊢;refine⟨⟨_,rfl,?_,B,?_⟩,?_⟩
   ·rw[Zaj,WT,QT];show _+(Nd (XQ f) q.1 q.2).length<=_;lia
   ·rw[Zit];exact E
   ·show Sz (Kl f0 (f++[_]))<Sz (Kl f0 f);rw[RQ,RQ,Zaj];exact T
  ·have Q:¬ ∃r,Ring (X8<|X7 f0 f) (XQ f) r:=(Zba A).mp (Qp λz=>g (by rw[Ql z];rfl));exact⟨_,_,rfl,rfl,⟨rfl,by simp⟩,rfl,N f (by lia) h Q E⟩
def Zn1(u:Kb K (Kc K (XM ζ) "cost") "cost" "Village.cost" GD ["self"])
  : Zay ζ:=by
 refine u.fz Zpi (λg n=>(b1<|sR<|xf WA g<|a2 (xe (K9 Ym G.Za (hq<|g ()) K4<|pv 0)<|Pa NQ (Xw 0) Ka)<|xe (K9 Yn G.Za (hq<|g ()) K4<|pv 0)<|Pa S8 (Xw 0) Ka)) (.a ?_)
 ·rintro v R X ⟨bk,fs,h,f,w,rfl,s,l,hw,o,r,p⟩;refine⟨rfl,?_⟩;exact⟨rfl,rfl,bk,fs,h++[w],f,rfl,rfl,rfl,bk,fs++[f],h,w,rfl,f,w,rfl,s,l,hw,o,r,p⟩
def Zg0(z:Kb K (Kc K (XM ζ) "moves") "moves" "Village.moves" Eu ["self"])
  : LS ζ:=by
 refine z.fz Zrz (λg n=>(b1<|sR<|xf Wu g<|a2 (xe (K9 Ym G.Za (hq<|g ()) K4<|pv 0)<|Pa NQ (Xw 0) Ka)<|xe (K9 WB G.Za (hq<|g ()) K4<|pv 0)<|Pa Zf2 (Xw 0) Ka)) (.a ?_)
 ·rintro A R X ⟨bk,fs,h,f,w,rfl,l,s,hw,u,y,x⟩;refine⟨rfl,?_⟩;exact⟨rfl,rfl,bk,fs,h++[w],f,rfl,rfl,rfl,bk,fs,h,f,w,rfl,l,by lia,hw,u,y,λo p=>⟨f,o,rfl,l,s,p.perm,λr v=>x o r p v⟩⟩
def Zhj(DD:Def K mg "law" Ng ["_law_script"])
  : Zix ζ:=by
 refine DD.fz IJ (λp n=>(bc (sS 1 n<|xf YO p<|a1<|xf Wm p<|a2 (xv 0) xi)<|bc (sS 2 n<|xo XX XT (xo K8 KB (xf Yl p<|a2 (xv 0) xi) xi) xi)<|bc (sS 3 n<|xf Ws p<|a3 (xv 0) (xv 1)<|xx (xL<|a3 (xo XX XT (xv 2) xi) xi xi)<|xe (K0 (Cp rfl) (by rfl) G.Z2 boot_max<|bz X5<|Py XU (pv 2) X5)<|EB<|tz X2<|XW (Xw 2) X2)<|bc (sS 4 n<|xe (Zm7 Ww G.ZO (hq<|p ()) SZ<|az<|KN (NI (K:=K)) (by rfl) G.Zg boot_list<|az<|pv 3)<|Zhq<|sz<|NF<|sz<|Xw 3)<|bc (sF 3<|sS 5 n<|xL<|a1<|xt<|a3 (xv 3) (xL a0)<|xt a0)<|bc (sN 5<|sO [6] Qd (iL<|xf W4 p<|a2 (xv 0)<|xv 1) (gN 6)<|b1<|sF 6<|sN 5<|se (F6 (FC<|SG (K:=K)<|fz Yy (p ())<|dz (pv 4) (pv 5)<|pv 6) (Bw<|KA Nw)
   FB)<|AQ (FN<|AW<|AJ 4 5 (by decide)<|sz<|Xw 6) (AR Nu) B7)<|bc (sO [6,7] Qd (iL<|xf Wt p<|a2 (xv 0) xi) (gN 7)<|bc (sS 6 n<|xf W5 p<|a3 (xv 7) (xv 1)<|xx (xv 5)<|xe (KR KZ X5)<|KY X2)<|bj (sI (tp<|wa (tq p (xx (xv 6) xi) xs)<|wA<|tq p (xl G.len<|xx (xx (xv 5)<|xe (KR KZ X5)<|KY X2) xi) xi) (b1<|sS 6 n<|xt<|a1 xs) b0)<|b1<|sF 6<|sN 5<|se (F6 (FC<|SG (K:=K)<|fz Yy (p ())<|dz (pv 4) (pv 5)<|pv 6) (Bw<|KA Nw)
   FB)<|AQ (FN<|AW<|AJ 4 5 (by decide)<|sz<|Xw 6) (AR Nu) B7)<|bc (sN 5<|se (F6 (FC<|SG (K:=K)<|fz WC (p ())<|bz (pv 4)<|pv 5) (Bw<|KA Nw)
   FB)<|AQ (FN<|AW<|AJ 4 5 (by decide) Ka) (AR Nu) B7)<|bc (sS 3 n<|xx (xx (xv 5)<|xe (KR KZ X5)<|KY X2) xi)<|bc (se (Pu.pz 8 IJ.nd<|fz W3 (p ())<|bz (SE Y6 (hq<|p ()) SZ<|az<|KN (NI (K:=K)) (by rfl) G.Zg boot_list<|az<|pv 3)<|ln K G.len<|pv 3)<|TH (Pm<|tz (Pm<|sz<|NF<|sz<|Xw 3)<|Ni<|sz<|Xw 3)<|KE 8)<|bc (sI (tp<|wo (te (Fz<|Zd3<|pv 8)<|B5<|Zol<|Xw 8)<|wO<|tN<|tt<|xf Wp p<|a2 (xv 8)<|xv 3) (b1<|sR xb) b0)<|bc (sS 9 n<|xe (K9 WD G.Za (hq<|p ()) K4<|pv 4)<|Pa Zsb (Xw 4) Ka)<|bc (sI (tp<|wo (tN<|tt<|xf Ys p<|a1<|xv 9)<|wO<|tn p (xe (TJ (K7<|p ()) (pv 8) (fz YZ (p ())<|bz (K9 WE G.Za (hq<|p ()) K4<|pv 4)<|ln K G.len<|pv 3) (λ_ _=>rfl))<|Cn (Xw 8)<|Pm<|tz (Pa Zmg (Xw 4) Ka)<|Ni<|sz<|Xw 3)<|xv 9) (b1<|sR xb) b0)<|bc (sO [10,11] Qd (ie (Za7<|pv 8)<|R4<|Xw 8) (gT 2<|gc (gN 10)<|gc (gN 11) g0)<|b1<|sI (tp<|wa (tc Po Pp (xv 11)<|xv 9)<|wA<|tt<|xf Wq p<|a3 (xv 10) (xv 3)<|xx (xx (xv 5)<|xe (KR KZ X5)<|KY X2) xi) (b1<|sR xb) b0)<|b1<|sF 9<|sR<|xf Wn p<|a2 (xL<|a1<|xe (SE W9 (hq<|p ()) SZ<|bz (KN (NI (K:=K)) (by rfl) G.Zg boot_list<|az<|pv 3)<|KN (NI (K:=K)) (by rfl) G.Zg boot_list<|az<|jx K (jx K (pv 5)<|KR KZ X5) X5)<|Pm<|tz (NF<|sz<|Xw 3)<|NF<|sz<|XS (XS (Xw 5)<|KY X2) X2)<|xL<|a1<|xv 9)) (.a ?_)
 ·rintro ds R X ⟨s,rfl,hR⟩;refine⟨rfl,s,0,rfl,by decide,λc0=>⟨c0,rfl,λm hM=>?_⟩⟩;refine⟨s,0,rfl,by decide,⟨by decide,by decide⟩,(by show(0:Int)<16;decide),?_⟩;obtain⟨u,eu,hu0,hu7⟩:=Zdb (szV s) (by unfold szV;lia);refine⟨(by show(0:Int)<6;decide),by simp,_,eu,s,m,u,rfl,hM,by lia,by lia,λh hF hlen=>?_⟩;have hz7:h.length<=7:=by lia
  have hz:h.length<=40:=by lia
  refine⟨rfl,λx=>⟨x,h,rfl,rfl,by lia,?_⟩⟩;rw[Zo6 hF hz];refine λb1 C B=>⟨rfl,?_⟩;refine⟨by simp,by simp,by simp,by simp,λa=>?_⟩;refine⟨s,m,rfl,hM,λJ hq=>?_⟩;refine⟨rfl,KQ (xs:=J) (emb:=λq:Int×Int=>dD (Dd.wish q.1 q.2).q) (λi l=>∃f:Ke,f.length<=i/\FineH h f/\SmallH h f/\l=[some (.bor<|.scr s),some (.own<|m.map D.int),some (.sh<|.int<|szV s),some (.sh<|plD h),some (.own<|vO (ExcR.X9 mg "Village") x b1 C B (bkH f) (fsH h f)<|wsH f),some (.own<|.lsA a<|Kl h f),none,none,none,none,none,none]) ?_ ?_ ?_⟩
  ·exact⟨[],QV _,FineH.nil hF hz,(λg hg=>by rw[WR.mp (show g∈[h]from hg)];exact hz7),rfl⟩
  ·rintro i l U ⟨f,h1,v,y,rfl⟩;refine⟨x,b1,C,B,a,h,f,_,rfl,rfl,rfl,by lia,v,.inr ⟨.wish J[i].1 J[i].2,rfl,?_⟩⟩;refine Ki ?_;exact⟨Ph h f (.wish J[i].1 J[i].2),by have:=OT h f (.wish J[i].1 J[i].2);lia,v.add _,y.add _ (λz=>by cases z),rfl⟩
  rintro l ⟨f,h1,v,y,rfl⟩;refine⟨s,6,rfl,by decide,by decide,λcs hc=>?_⟩;refine⟨rfl,KQ (xs:=cs) (emb:=D.int) (λi l=>∃f:Ke,f.length<=24+i/\FineH h f/\SmallH h f/\l=[some (.bor<|.scr s),some (.own<|m.map D.int),some (.sh<|.int<|szV s),some (.sh<|plD h),some (.own<|vO (ExcR.X9 mg "Village") x b1 C B (bkH f) (fsH h f)<|wsH f),some (.own<|.lsA a<|Kl h f),none,none,none,none,none,none]) ?_ ?_ ?_⟩
  ·exact⟨f,by lia,v,y,rfl⟩
  ·rintro i l U ⟨f,h1,v,y,rfl⟩;obtain⟨⟨A,c2⟩,c3⟩:=v.cur;obtain⟨dl,Q⟩:=Av h f;have back:∀t:Option S,True:=λ_=>trivial;refine⟨_,Q,_,m,X7 h f,XQ f,[dl],rfl,hM,by lia,A,by have:=c3.1;lia,λd=>?_,?_⟩
   ·refine NY (λl=>∃q:D,(q=.tup [.str "back"]\/(q=dD d.q/\(d.q.1=("part" : Str)->(X7 h f).length<7)))/\l=[some (.bor<|.scr s),some (.own<|m.map D.int),some (.sh<|.int<|szV s),some (.sh<|plD h),some (.own<|vO (ExcR.X9 mg "Village") x b1 C B (bkH f) (fsH h f)<|wsH f),some (.own<|.lsA a<|Kl h f),some (.sh q),some (.sh (.int cs[i])),none,none,none,none]) ?_ ?_
    ·refine⟨_,P0 _ _,?_⟩;by_cases e:d.q.1=("part" : Str)
     ·show if decide (d.q.1=("part" : Str))=true then _ else _;rw[WL e];refine Kz ⟨_,Q,_,rfl,X1 (λg=>⟨by simp,_,.inl rfl,rfl⟩) (λg=>⟨_,.inr ⟨rfl,λ_=>?_⟩,rfl⟩)⟩;have g':¬((((X7 h f).map prD).length:Nat):Int)=7:=λz=>g (WL z)
      have:=y.cur
      rw[WH]at g';lia
     ·show if decide (d.q.1=("part" : Str))=true then _ else _;rw[Ql e];exact Ki (Ki ⟨_,.inr ⟨rfl,λz=>absurd z e⟩,rfl⟩)
    ·rintro l ⟨q,hq,rfl⟩;rcases hq with rfl|⟨rfl,hd⟩
     ·refine⟨x,b1,C,B,a,h,f,_,rfl,rfl,rfl,by lia,v,.inl ⟨rfl,?_⟩⟩;have la:f.dropLast.length<=f.length:=by rw[List.length_dropLast];lia
      exact⟨f.dropLast,by lia,v.back,y.back,rfl⟩
     ·refine⟨x,b1,C,B,a,h,f,_,rfl,rfl,rfl,by lia,v,.inr ⟨d,rfl,?_⟩⟩;have la:=OT h f d;exact⟨Ph h f d,by lia,v.add d,y.add d hd,rfl⟩
   ·refine NY (λl=>l=[some (.bor<|.scr s),some (.own<|m.map D.int),some (.sh<|.int<|szV s),some (.sh<|plD h),some (.own<|vO (ExcR.X9 mg "Village") x b1 C B (bkH f) (fsH h f)<|wsH f),some (.own<|.lsA a<|Kl h f),some (.sh<|.tup [.str "back"]),some (.sh (.int cs[i])),none,none,none,none]) ⟨_,P0 _ _,rfl⟩ ?_;rintro l rfl;refine⟨x,b1,C,B,a,h,f,_,rfl,rfl,rfl,by lia,v,.inl ⟨rfl,?_⟩⟩;have la:f.dropLast.length<=f.length:=by rw[List.length_dropLast];lia
    exact⟨f.dropLast,by lia,v.back,y.back,rfl⟩
  rintro l ⟨hs0,h1,v,y,rfl⟩;refine⟨x,b1,C,B,a,h,hs0,rfl,rfl,rfl,by lia,v,λf h1' h2' hN Y=>?_⟩;have T:(X7 h f).length<=7:=by rw[Y];exact y.cur
  clear h1' h1 hc Y y v;obtain⟨⟨A,c2⟩,c3⟩:=h2'.cur;obtain⟨dl,Q⟩:=Av h f;obtain⟨fs,ef,lf⟩:=FO h f;obtain⟨ws,ew,lw⟩:=Gi f;have hu:∀q∈XQ f,q.1≠q.2:=λq hq=>(c3.2.2 q hq).2;have hw2:=c3.1;have es:Nk (X7 h f)=none:=WN (by lia);refine⟨_,Q,_,rfl,?_⟩;refine⟨rfl,X7 h f,rfl,A,?_⟩;rw[es];refine⟨X7 h f,by rw[WH];rfl,T,?_⟩;refine⟨X7 h f,rfl,A,T,?_⟩;refine⟨rfl,rfl,bkH f,fs,ws,X7 h f,XQ f,by rw[←ef,←ew];rfl,A,by lia,by lia,hu,hN,λN hL=>?_⟩;refine⟨N,rfl,?_⟩;refine⟨rfl,rfl,bkH f,fs,ws,X7 h f,XQ f,by rw[←ef,←ew];rfl,A,by lia,by lia,hu,hN,λo ms hB hM2=>?_⟩
  have hms:ms.length<=2000:=by
   have l1:=hM2.len;have l2:=(SM (rkN (X7 h f) o) (X0 1 (X7 h f).length)).2;rw[KM]at l2;have l3:((X7 h f).length:Int)*((X7 h f).length:Int)<=7*7:=Int.mul_le_mul (by lia) (by lia) (by lia) (by lia);lia
  refine⟨X7 h f,o,ms,by rw[WH];rfl,A,c2,hM2,hms,λE hp hfw hst U=>?_⟩;obtain⟨e1,hk⟩:=Zgn A hB hL hp (Zj1 hfw hst) U;refine⟨_,kT E,.int (XH (X7 h f) E),rfl,Nr _,D3 hp,rfl,?_⟩;rw[e1];show if (!decide (N=N))=true then _ else _;rw[WL rfl];refine Ki ?_;have M:=Sy (X7 h f) (X7 h f).length;have H:∀q∈Kf (X7 h f) (X7 h f).length,q.1.Perm (X0 1 (X7 h f).length)/\q.2=XH (X7 h f) q.1:=λq hq=>stands_mem.mp hq;clear M;generalize Kf (X7 h f) (X7 h f).length=L at H ⊢;refine⟨_,rfl,Gy L,Rv (λi l=>l=[some (.bor<|.scr s),some (.own<|m.map D.int),some (.sh<|.int<|szV s),some (.sh<|plD<|X7 h f),some (.own<|vO (ExcR.X9 mg "Village") x b1 C B (bkH f) (fsH h f)<|wsH f),some (.own<|.lsA a<|Kl h f),none,none,some (.sh<|.dF<|L.map P6),some (.sh<|.int N),none,none]) rfl ?_ ?_⟩
  ·rintro i U l rfl;have hi':i<L.length:=by simpa using U
   rw[Vm,IT];obtain⟨p,hc⟩:=H _ (Qc hi');generalize L[i]=q at p hc ⊢;obtain⟨r,c⟩:=q
   dsimp only at p hc
   subst hc;have lr:r.length=(X7 h f).length:=by rw[p.length_eq,KM]
   refine⟨rfl,X1 (λg=>?_) (λg=>Ki rfl)⟩;have g':XH (X7 h f) r<N:=WO g;refine⟨_,Q,_,rfl,X7 h f,XQ f,r,rfl,by lia,λz hz=>run_mem.mp (p.mem_iff.mp hz),λhk2=>?_,λ_=>Ki rfl⟩
   have:=DC A hL p hk2
   lia
  rintro l rfl;refine⟨rfl,_,Q,_,rfl,rfl,X7 h f,XQ f,rfl,A,?_⟩;rw[es];refine⟨by lia,hu,hN,⟨E,hp,hk⟩,λmm hS=>?_⟩;obtain⟨⟨r0,p0,k0,e0⟩,hle⟩:=hS;have q1:=DC A hL p0 k0;have q2:=hle E hp hk;obtain rfl:mm=N:=by lia
  exact⟨by simp,by simp,[mm],rfl,by simp,hR⟩
end
end T
namespace T
open L2 Own M
def Zfj{l:PySem.W.OpenLaw}{w:World}{K:ZV}{h:Heap}{g:ZZ}{fa:Addr}(X:K.In h)(f:h.Ns mainGlobals g)(hfa:g "law"=some (.ref fa)){n:Addr}(Up:PySem.W.nsIn K mainGlobals "Village"=some (some<|.ref n))(U7:PySem.W.plainGet K n Str.empty=true)(U8:PySem.W.hasDictIn K n=true)(U9:PySem.W.plainOver K n=true)(UA:PySem.W.findIn K (.ref n) "__setattr__"=some (some<|.builtin "object.__setattr__"))(UB:PySem.W.makesIn K n=true)(UC:PySem.W.keepIn K (.ref n)=true)(UD:PySem.W.findIn K (.ref n) "book"=some none)(UE:PySem.W.findIn K (.ref n) "fields"=some none)(UF:PySem.W.findIn K (.ref n) "wished"=some none)(a0:Pu.DI K "check_holder" Ea)(a1:Pu.DI K "check_width" Cs)(a2:Pu.DI K "check_strips" Dx)(a3:Pu.DI K "holders_of" Cz)(a4:Pu.DI K "begins_run" Dm)(a5:Pu.DI K "lies_together" GS)(a6:Pu.DI K "check_order" Ej)(a7:Pu.DI K "pair_cost" Hd)(a8:Pu.DI K "own_numbers" DE)(a9:Pu.DI K "exchange_cost" EU)(a10:Pu.DI K "exchanged" E2)(a11:Pu.DI K "first_wrong_place" EF)(a12:Pu.DI K "told_moves" Cq)(a13:Pu.DI K "check_neighbours" CQ)(a14:Pu.DI K "broken_wishes" GN)(a15:Pu.DI K "longer_paths" GE)(a16:Pu.DI K "ring_from" Ey)(a17:Pu.DI K "find_ring" Dw)(a18:Pu.DI K "check_no_ring" E5)(a19:Pu.DI K "check_place" EG)(a20:Pu.DI K "sold" Ct)(a21:Pu.DI K "parted" EO)(a22:Pu.DI K "united" Dn)(a23:Pu.DI K "with_wish" CK)(a24:Pu.DI K "without_wish" Gb)(a25:Pu.DI K "pair_costs" Dh)(a26:Pu.DI K "sets_of" D8)(a27:Pu.DI K "without" G2)(a28:Pu.DI K "may_lie_last" Eh)(a29:Pu.DI K "may_lie_first" GO)(a30:Pu.DI K "cost_with_last" Gg)(a31:Pu.DI K "cost_with_first" Cr)(a32:Pu.DI K "least_costs" Eg)(a33:Pu.DI K "cost_table" EJ)(a34:Pu.DI K "best_order" Dt)(a35:Pu.DI K "least_cost" GP)(a36:Pu.MI K n "__init__" "Village.__init__" Cv)(a37:Pu.MI K n "strips" "Village.strips" Gn)(a38:Pu.MI K n "wishes" "Village.wishes" EL)(a39:Pu.MI K n "check_room" "Village.check_room" Dp)(a40:Pu.MI K n "enter" "Village.enter" E1)(a41:Pu.MI K n "sell" "Village.sell" GB)(a42:Pu.MI K n "part" "Village.part" Cd)(a43:Pu.MI K n "unite" "Village.unite" Dk)(a44:Pu.MI K n "wish" "Village.wish" Ef)(a45:Pu.MI K n "drop" "Village.drop" CD)(a46:Pu.MI K n "take_back" "Village.take_back" CC)(a47:Pu.MI K n "order" "Village.order" Cg)(a48:Pu.MI K n "cost" "Village.cost" GD)(a49:Pu.MI K n "moves" "Village.moves" Eu)(a50:Pu.DI K "check_small" D9)(a51:Pu.DI K "cost_to_come_next" Cf)(a52:Pu.DI K "longer_stands" Gw)(a53:Pu.DI K "all_stands" DY)(a54:Pu.DI K "holders_from_left" GX)(a55:Pu.DI K "is_melded" Cu)(a56:Pu.DI K "field_of_stand" Gm)(a57:Pu.DI K "least_by_stands" He)(a58:Pu.DI K "_law_at" Da)(a59:Pu.DI K "_law_whole" D4)(a60:Pu.DI K "_law_mix" Ca)(a61:Pu.DI K "_law_draw" Hh)(a62:Pu.DI K "_law_menu" Hg)(a63:Pu.DI K "_law_holder" GT)(a64:Pu.DI K "_law_row" Gz)(a65:Pu.DI K "_law_present" Es)(a66:Pu.DI K "_law_together" DK)(a67:Pu.DI K "_law_kept" EV)(a68:Pu.DI K "_law_no_ring" CH)(a69:Pu.DI K "_law_no_rings" Et)(a70:Pu.DI K "_law_swapped" DT)(a71:Pu.DI K "_law_stand_is" Cm)(a72:Pu.DI K "_law_prices" G4)(a73:Pu.DI K "_law_price_list" Ep)(a74:Pu.DI K "_law_stand_keeps" Gd)(a75:Pu.DI K "_law_field_step" En)(a76:Pu.DI K "_law_wish_step" E9)(a77:Pu.DI K "_law_step" G9)(a78:Pu.DI K "_law_call" Ed)(a79:Pu.DI K "_law_go" GG)(a80:Pu.DI K "_law_start" GF)(a81:Pu.DI K "_law_days" E6)(a82:Pu.DI K "_law_odd" Gq)(a83:Pu.DI K "_law_place" Ew)(a84:Pu.DI K "_law_pair" GZ)(a85:Pu.DI K "_law_opening" GH)(a86:Pu.DI K "_law_width" CY)(a87:Pu.DI K "_law_deed" Co)(a88:Pu.DI K "_law_end" El){Q:Addr}{od89 N:Yi}{sl89:Array (Yh)}{oc89 J L H u M:Value}(a89:PySem.W.nsIn K mainGlobals "law"=some (some<|.ref Q))(l89:K.lookup Q=some ⟨oc89,od89,.func (PySem.W.fnOf "law" "law" (Ta Ng) (Km Ng) (Xy Ng) .none J L H N u M),sl89⟩)(c89:PySem.W.codeIn K u "law"=true)(k89:PySem.W.keepIn K (.ref Q)=true)(UG:PySem.W.nsIn K mainGlobals "any"=some none)(UH:PySem.W.nsIn K mainGlobals "bool"=some none)(UI:PySem.W.nsIn K mainGlobals "enumerate"=some none)(UJ:PySem.W.nsIn K mainGlobals "int"=some none)(UK:PySem.W.nsIn K mainGlobals "isinstance"=some none)(UL:PySem.W.nsIn K mainGlobals "len"=some none)(UM:PySem.W.nsIn K mainGlobals "list"=some none)(UN:PySem.W.nsIn K mainGlobals "max"=some none)(UO:PySem.W.nsIn K mainGlobals "min"=some none)(UP:PySem.W.nsIn K mainGlobals "range"=some none)(UQ:PySem.W.nsIn K mainGlobals "set"=some none)(UR:PySem.W.nsIn K mainGlobals "sorted"=some none)(US:PySem.W.nsIn K mainGlobals "sum"=some none)(UT:PySem.W.nsIn K mainGlobals "tuple"=some none){Xa:Tok}(UU:PySem.W.nsIn K mainGlobals "HOLDERS"=some (some<|.int 10 Xa)){Xb:Tok}(UV:PySem.W.nsIn K mainGlobals "STRIPS"=some (some<|.int 40 Xb)){Xc:Tok}(UW:PySem.W.nsIn K mainGlobals "WIDEST"=some (some<|.int 1000 Xc)){Xd:Tok}(UX:PySem.W.nsIn K mainGlobals "MOST_WISHES"=some (some<|.int 20 Xd)){Xe:Tok}(UY:PySem.W.nsIn K mainGlobals "MOST_DEEDS"=some (some<|.int 100 Xe)){Xf:Tok}(UZ:PySem.W.nsIn K mainGlobals "SMALL"=some (some<|.int 7 Xf)){Xg:Addr}(Uq:Pu.EI K "TooManyStrips" Xg){Xh:Addr}(Ur:Pu.EI K "BadHolder" Xh){Xi:Addr}(Us:Pu.EI K "BadWidth" Xi){Xj:Addr}(Ut:Pu.EI K "NoStrip" Xj){Xk:Addr}(Uu:Pu.EI K "BadOrder" Xk){Xl:Addr}(Uv:Pu.EI K "TooManyStands" Xl){Xm:Addr}(Uw:Pu.EI K "OwnStrip" Xm){Xn:Addr}(Ux:Pu.EI K "BadPart" Xn){Xo:Addr}(Uy:Pu.EI K "UnlikeHolders" Xo){Xp:Addr}(U0:Pu.EI K "TooWide" Xp){Xq:Addr}(U1:Pu.EI K "LikeHolders" Xq){Xr:Addr}(U2:Pu.EI K "WishStands" Xr){Xs:Addr}(U3:Pu.EI K "TooManyWishes" Xs){Xt:Addr}(U4:Pu.EI K "NoWish" Xt){Xu:Addr}(U5:Pu.EI K "BookFull" Xu){Xv:Addr}(U6:Pu.EI K "NothingDone" Xv)
  : ∃fd:FuncData,(∀(s:Shared) (v:Value),BindsTo s fd ⟨[v],[]⟩ [("_law_script",v)])/\∀base:Heap,K.In base->base.Ns mainGlobals g->Pj l.prog w K g base CX0 8 fa fd ["_law_script"] (Pu.EH K):=by
 have e:=hfa.symm.trans (QM X f a89);cases e
 have o:=ExcR.RM (QM X f Up);have G:Glob K g:=⟨Q6 X f UG,Q6 X f UH,Q6 X f UI,Q6 X f UJ,Q6 X f UK,Q6 X f UL,Q6 X f UM,Q6 X f UN,Q6 X f UO,Q6 X f UP,Q6 X f UQ,Q6 X f UR,Q6 X f US,Q6 X f UT,⟨_,QM X f UU,⟨_,rfl⟩⟩,⟨_,QM X f UV,⟨_,rfl⟩⟩,⟨_,QM X f UW,⟨_,rfl⟩⟩,⟨_,QM X f UX,⟨_,rfl⟩⟩,⟨_,QM X f UY,⟨_,rfl⟩⟩,⟨_,QM X f UZ,⟨_,rfl⟩⟩,(Uq.m X f),(Uq.k X f),(Ur.m X f),(Ur.k X f),(Us.m X f),(Us.k X f),(Ut.m X f),(Ut.k X f),(Uu.m X f),(Uu.k X f),(Uv.m X f),(Uv.k X f),(Uw.m X f),(Uw.k X f),(Ux.m X f),(Ux.k X f),(Uy.m X f),(Uy.k X f),(U0.m X f),(U0.k X f),(U1.m X f),(U1.k X f),(U2.m X f),(U2.k X f),(U3.m X f),(U3.k X f),(U4.m X f),(U4.k X f),(U5.m X f),(U5.k X f),(U6.m X f),(U6.k X f),(by rw[o];exact QM X f Up),(by rw[o];exact⟨U7,U8,U9,UA⟩),(by rw[o];exact UD),(by rw[o];exact UE),(by rw[o];exact UF)⟩;have T:=AB (st:=Ng) l89 c89 k89;have b89:=T.binds (ps:=["_law_script"]) λ_ _ _ _ _ _ us hl=>by obtain⟨_,rfl⟩:=Pu.BY hl;rfl
 have D89:Def K g "law" Ng ["_law_script"]:=⟨_,_,T,QM X f a89,b89⟩;refine⟨PySem.W.fnOf "law" "law" (Ta Ng) (Km Ng) (Xy Ng) .none J L H N u M,λs v=>.of_eq rfl,λbase _ _=>?_⟩;have C0:=@Zij l.prog w K g base ⟨⟩ G (a0.e X f);have C1:=@Zej l.prog w K g base ⟨⟩ G (a1.e X f);have C3:=@Zqd l.prog w K g base G (a3.e X f);have C4:=@Zi7 l.prog w K g base ⟨⟩ (a4.e X f);have C7:=@Zdk l.prog w K g base ⟨⟩ (a7.e X f);have C8:=@Zpz l.prog w K g base ⟨⟩ G (a8.e X f);have C9:=@Zh9 l.prog w K g base ⟨⟩ (a9.e X f);have C10:=@Zfb l.prog w K g base ⟨⟩ (a10.e X f);have C11:=@Zc6 l.prog w K g base ⟨⟩ G (a11.e X f);have C13:=@Zm3 l.prog w K g base ⟨⟩ G (a13.e X f);have C14:=@Zug l.prog w K g base ⟨⟩ G (a14.e X f);have C15:=@Zm9 l.prog w K g base ⟨⟩ (a15.e X f);have C19:=@Zor l.prog w K g base ⟨⟩ G (a19.e X f);have C24:=@Znu l.prog w K g base ⟨⟩ G (a24.e X f);have C26:=@Zs0 l.prog w K g base ⟨⟩ (a26.e X f);have U:=@Zmw l.prog w K g base ⟨⟩ G (a27.e X f);have C28:=@Ztq l.prog w K g base ⟨⟩ G (a28.e X f);have C29:=@Zi5 l.prog w K g base ⟨⟩ G (a29.e X f);have p:=@Zla l.prog w K g base ⟨⟩ G (a37.e o);have r:=@Zli l.prog w K g base ⟨⟩ G (a38.e o);have A:=@Zth l.prog w K g base ⟨⟩ G (a39.e o);have y:=@Zkc l.prog w K g base ⟨⟩ G (a40.e o);have C46:=@Zn2 l.prog w K g base ⟨⟩ G (a46.e o);have C50:=@Zqt l.prog w K g base ⟨⟩ G (a50.e X f);have C51:=@Zhr l.prog w K g base ⟨⟩ G (a51.e X f);have C54:=@Zt6 l.prog w K g base ⟨⟩ (a54.e X f);have C56:=@Zlr l.prog w K g base ⟨⟩ (a56.e X f);have x:=@Ze2 l.prog w K g base ⟨⟩ G (a58.e X f);have E:=@Zuo l.prog w K g base ⟨⟩ G (a59.e X f);have C:=@Zgw l.prog w K g base ⟨⟩ (a60.e X f);have C62:=@Zft l.prog w K g base ⟨⟩ (a62.e X f);have B:=@Zsy l.prog w K g base ⟨⟩ (a63.e X f);have C65:=@Zkg l.prog w K g base ⟨⟩ G (a65.e X f);have C66:=@Zjd l.prog w K g base ⟨⟩ G (a66.e X f);have C67:=@Zc8 l.prog w K g base ⟨⟩ (a67.e X f);have C68:=@Zul l.prog w K g base ⟨⟩ G (a68.e X f);have C70:=@Zic l.prog w K g base ⟨⟩ (a70.e X f);have C75:=@Zk0 l.prog w K g base ⟨⟩ G (a75.e X f);have C76:=@Zl0 l.prog w K g base ⟨⟩ G (a76.e X f);have C82:=@Ztk l.prog w K g base ⟨⟩ (a82.e X f);have C83:=@Zha l.prog w K g base ⟨⟩ G (a83.e X f);have C86:=@Zlm l.prog w K g base ⟨⟩ G (a86.e X f);have C88:=@Zgj l.prog w K g base ⟨⟩ G (a88.e X f);have C2:=Zhs ⟨⟩ G C0 C1 (a2.e X f);have C5:=Zp9 ⟨⟩ G (SW C3) C4 (a5.e X f);have C6:=Zdt ⟨⟩ G (SW C3) (a6.e X f);have C16:=Zu9 ⟨⟩ G C15 (a16.e X f);have C20:=Ze9 ⟨⟩ G C0 C19 (a20.e X f);have C21:=Zp1 ⟨⟩ G C19 (a21.e X f);have C22:=Zhg ⟨⟩ G C13 (a22.e X f);have C23:=Zfm ⟨⟩ G C0 (a23.e X f);have C25:=Zmo ⟨⟩ (SW C3) C7 (a25.e X f);have C30:=Zs8 ⟨⟩ G U (a30.e X f);have C31:=Zsv ⟨⟩ G U (a31.e X f);have C45:=Zkv ⟨⟩ G C24 p r A y (a45.e o);have C52:=Zrq ⟨⟩ C8 C51 (a52.e X f);have C61:=Zpa ⟨⟩ x C (a61.e X f);have C64:=Zjz ⟨⟩ G E (a64.e X f);have C71:=Zq4 ⟨⟩ G E (a71.e X f);have C73:=Zj2 ⟨⟩ G C70 (a73.e X f);have C74:=Zef ⟨⟩ C66 C67 (a74.e X f);have C77:=Zdm ⟨⟩ C75 C76 (a77.e X f);have C80:=Zte ⟨⟩ G x C B (a80.e X f);have C81:=Zti ⟨⟩ G x C (a81.e X f);have C84:=Zhv ⟨⟩ G B C82 (a84.e X f);have C12:=Zo5 ⟨⟩ C8 C9 C10 C11 C6 (a12.e X f);have C17:=Zml ⟨⟩ G C16 (a17.e X f);have C32:=Zk8 ⟨⟩ G (SW C3) C26 C28 C30 (a32.e X f);have C36:=Zhf ⟨⟩ G C2 (a36.j o UB UC);have C41:=Znv ⟨⟩ G p r A y C20 (a41.e o);have C42:=Zqv ⟨⟩ G p r A y C21 (a42.e o);have C43:=Zp2 ⟨⟩ G p r A y C22 (a43.e o);have C44:=Zs4 ⟨⟩ G p r A y C23 (a44.e o);have C53:=Zpt ⟨⟩ G C50 C52 (a53.e X f);have C55:=Zpq ⟨⟩ C14 C54 C5 (a55.e X f);have C72:=Zve ⟨⟩ G C71 (a72.e X f);have C85:=Zk5 ⟨⟩ G x C B C84 (a85.e X f);have C87:=Zts ⟨⟩ G B C82 C83 C86 C84 (a87.e X f);have Y:=Zmm ⟨⟩ (SW C3) C17 (a18.e X f);have C78:=Zhd ⟨⟩ G C45 C41 C42 C43 C44 (a78.e X f);have C33:=Zfc ⟨⟩ G C25 C32 Y (a33.e X f);have C34:=Zc9 ⟨⟩ G (SW C3) U C29 C25 C31 C32 Y (a34.e X f)
 have C57:=Zho ⟨⟩ G C50 C56 C53 C55 Y (a57.e X f);have C79:=Zjp ⟨⟩ G C46 E C77 C78 (a79.e X f);have C35:=Ztd ⟨⟩ C33 (a35.e X f);have C47:=Zt7 ⟨⟩ G p r C34 (a47.e o);have C69:=Zt0 ⟨⟩ C65 C68 C79 (a69.e X f);have C48:=Zn1 ⟨⟩ G p r C35 (a48.e o);have C49:=Zg0 ⟨⟩ G p C12 C47 (a49.e o);have C89:=Zhj ⟨⟩ G x E C62 C88 C61 C64 C73 C74 C80 C81 C36 C53 C72 C85 C87 C57 C79 C69 C48 C49 D89;exact(C89.at (QM X f a89) T D89).imp λ_ _ _ _ z=>Pu.Zfx z
end T
namespace PySem.W.Fast
def I:True:=⟨⟩
def tw14302156631633958974:=I
def tw6946216379962904576:=I
def tw17638807760090248288:=I
def tw9380018094668193920:=I
def tw18266683964639954048:=I
def tw8661305272058378368:=I
def tw8839170610399526048:=I
def tw2833134483446329600:=I
def tw8470788538349169952:=I
def tw16254791634902296896:=I
def tw18160019999331385696:=I
def tw11798908793066103264:=I
def tw5268573110350566880:=I
def tw2356737397341709792:=I
def tw13225656140172887552:=I
def tw7464593411797135872:=I
def tw14885797409416961536:=I
def tw10791540871667837504:=I
def tw15304206546823593632:=I
def tw4543209382045251232:=I
def tw5813748478230193888:=I
def tw4842463800436615904:=I
def tw9463655536207564544:=I
def tw15674674682621036352:=I
def tw6477398902420693856:=I
def tw12796184834449348480:=I
def tw8079483162037791616:=I
def tw9854915375018291072:=I
def tw12997632867174270880:=I
def tw3587803597196535744:=I
def tw6264262966252177409:=I
def tw9851998439442689025:=I
def tw17957500970139485217:=I
def tw3303491070867824705:=I
def tw17545742086771087457:=I
def tw2087729275281090657:=I
def tw14737533727163724897:=I
def tw6876899356783265921:=I
def tw5938744481178474625:=I
def tw15831652009675560161:=I
def tw1261985235534011617:=I
def tw13337844247975521537:=I
def tw9219502523637234945:=I
def tw10404239906685831457:=I
def tw7567844540508933441:=I
def tw10420976199944194369:=I
def tw5428601047771416929:=I
def tw14573868549813792097:=I
def tw4627139483873834337:=I
def tw13189664138200252801:=I
def tw17396768183290400129:=I
def tw3921751838260659617:=I
def tw1876609639913175457:=I
def tw18103308545079884193:=I
def tw11150754682946351521:=I
def tw4495432880735891009:=I
def tw6843372795303831137:=I
def tw6088821858591098465:=I
def tw6876034996731409025:=I
def tw5521852554032477857:=I
def tw4383249189442392833:=I
def tw16321389071368118049:=I
def tw3102253670337557345:=I
def tw17913155633501456257:=I
def tw4233864764866231169:=I
def tw6590718384214825889:=I
def tw4831778775265158081:=I
def tw18174749280345401346:=I
def tw14493388744899584002:=I
def tw3580035187512091682:=I
def tw8226125959458684994:=I
def tw13575800469102897250:=I
def tw18170663848618216546:=I
def tw10004962228493240450:=I
def tw17233820158536629442:=I
def tw13998407083988478146:=I
def tw12013560049393041634:=I
def tw10927352239012863202:=I
def tw87610547484122338:=I
def tw3334917949545446658:=I
def tw16995292935172440386:=I
def tw4805735530316648770:=I
def tw2292423028396981634:=I
def tw6789215233486760354:=I
def tw5821383773030273442:=I
def tw13100630566589799874:=I
def tw11645390411232666114:=I
def tw4785572449169493570:=I
def tw16275133923716587074:=I
def tw5017427234598590050:=I
def tw2876477885391967842:=I
def tw15490124192526080610:=I
def tw14858600864530304642:=I
def tw114534668341068418:=I
def tw16397558167287927458:=I
def tw4841406203771521794:=I
def tw11325613078202033954:=I
def tw7638774585829286722:=I
def tw7594424222541752162:=I
def tw6456777348676507490:=I
def tw8178654544825757731:=I
def tw11201821917093728323:=I
def tw8112144004744766563:=I
def tw12124419278107406435:=I
def tw16001965083160790147:=I
def tw10030908262748692675:=I
def tw8451259617804013763:=I
def tw520546144425373891:=I
def tw8775568049038053603:=I
def tw5714640964574646563:=I
def tw1976347312564214051:=I
def tw5649018521509597507:=I
def tw15705525524716398947:=I
def tw6302540967622551939:=I
def tw1513896234208998819:=I
def tw10409690315374738851:=I
def tw14598663519895864739:=I
def tw3028744682611485315:=I
def tw15876260634414659235:=I
def tw15692604902789483203:=I
def tw8841286946197001923:=I
def tw10376936928060200675:=I
def tw9975685188763040515:=I
def tw6773456784900972291:=I
def tw8616490266037515011:=I
def tw6073258894258144035:=I
def tw1732369531195990819:=I
def tw14908811944734863139:=I
def tw1391954203518397219:=I
def tw11954419313025870723:=I
def tw14058898464944263075:=I
def tw2336626907842034627:=I
def tw7738432696266444739:=I
def tw4523565741766611012:=I
def tw16199506638424119396:=I
def tw13908526795351713892:=I
def tw2215398900843059332:=I
def tw9008261151764399236:=I
def tw9570835411723983012:=I
def tw3244808168319072420:=I
def tw15390135330212457668:=I
def tw13771689877046845636:=I
def tw16889985629429210340:=I
def tw17050180016088090884:=I
def tw15828106644656052484:=I
def tw5340333538655494404:=I
def tw1127994210346385732:=I
def tw11552881183739204:=I
def tw677932642721677668:=I
def tw17071898505605796292:=I
def tw7567147989977422276:=I
def tw11381428856065851876:=I
def tw1569146960142601700:=I
def tw14071530597852500516:=I
def tw7019675931298056804:=I
def tw7439909175571054180:=I
def tw1166683516445690500:=I
def tw534053293131610756:=I
def tw12714462625936245412:=I
def tw140797842957301444:=I
def tw15362095422446702308:=I
def tw5750989544347604708:=I
def tw9760539043409940228:=I
def tw12450579234103424772:=I
def tw13056658948604498724:=I
def tw11948989280410804036:=I
def tw14174799607106429764:=I
def tw5148749276638121828:=I
def tw5894167510267155364:=I
def tw14725847626984724517:=I
def tw13345442588804432933:=I
def tw1389052637973556293:=I
def tw11283122736581095525:=I
def tw8241813389716946021:=I
def tw10601787475978686629:=I
def tw17008465938836268229:=I
def tw6533530849198235909:=I
def tw17041033087642105093:=I
def tw2977299805009543461:=I
def tw12217736764570030373:=I
def tw10088174291839848773:=I
def tw9312540195345810757:=I
def tw14701860808727280997:=I
def tw1749797460805510501:=I
def tw12011056399148263813:=I
def tw528925581050165669:=I
def tw3178460802526024197:=I
def tw17982477951291884069:=I
def tw10710016164188165669:=I
def tw17489993478757603877:=I
def tw5257433271156819525:=I
def tw10706086447560457797:=I
def tw16644345712931119717:=I
def tw7092068466509267557:=I
def tw541724353771562597:=I
def tw16917359671308035717:=I
def tw6001401724755536517:=I
def tw5246658434986115749:=I
def tw3947051427211915013:=I
def tw3894038807638347589:=I
def tw9360854929763739493:=I
def tw748876926878653317:=I
def tw3751164188672405381:=I
def tw8293313966266500997:=I
def tw544427589433412485:=I
def tw9118579014548745093:=I
def tw6328225047274107845:=I
def tw13082485439884921829:=I
def tw16469077856013106182:=I
def tw4392309864940749830:=I
def tw3784817324163471398:=I
def tw10494845147041775686:=I
def tw18178809068110756966:=I
def tw10120623954248187046:=I
def tw16129018928076295366:=I
def tw2896247832695884998:=I
def tw2949321564504676550:=I
def tw839359985829242054:=I
def tw1096533037203881158:=I
def tw11477045995574596902:=I
def tw15670853864418201894:=I
def tw17790937972355884326:=I
def tw1121607362262044006:=I
def tw6906437100553779558:=I
def tw10540202249017257350:=I
def tw8820448243783701926:=I
def tw360720214760597926:=I
def tw975156352839494054:=I
def tw2742915277662155174:=I
def tw14292291207954626118:=I
def tw8546659258710231718:=I
def tw14538399502044039846:=I
def tw13191576948980767430:=I
def tw3167265951036963526:=I
def tw7960013545458334438:=I
def tw9994901298707629830:=I
def tw8824204545216632614:=I
def tw9211690291071720262:=I
def tw17164395205297381190:=I
def tw15812652667769408326:=I
def tw9637809560657950534:=I
def tw13667512194852584262:=I
def tw7572686492663980902:=I
def tw11323302681892188006:=I
def tw9537751493390157702:=I
def tw3834877215683990406:=I
def tw12411963531322023878:=I
def tw15561466727710663654:=I
def tw8024184965974413286:=I
def tw15482339992726150151:=I
def tw6835599581362984999:=I
def tw17770662111524186151:=I
def tw1758144986798028839:=I
def tw12046993829436095527:=I
def tw13061842993952884807:=I
def tw11816090139547538503:=I
def tw6595893316091684935:=I
def tw4679360874246287463:=I
def tw4466916393253359719:=I
def tw14361610892823750759:=I
def tw7396460242921911399:=I
def tw12027028369241001095:=I
def tw5193779318139444359:=I
def tw4213205514738508967:=I
def tw3730749874955589831:=I
def tw12005520879427137767:=I
def tw2477690069971731719:=I
def tw559698267697309959:=I
def tw4294931574783577479:=I
def tw12877278579635875207:=I
def tw3235434168565062055:=I
def tw9526846292766073287:=I
def tw15814364093614307815:=I
def tw6154921845947060711:=I
def tw397515443463739911:=I
def tw6797569079422755367:=I
def tw4248605203267237415:=I
def tw7607776967497878087:=I
def tw2724609844961249863:=I
def tw108608882892076615:=I
def tw10070706969303026279:=I
def tw11555309187279239783:=I
def tw3403465308621737639:=I
def tw15620864781584020135:=I
def tw16161692405831730887:=I
def tw17686247324795275975:=I
def tw14549078959262571207:=I
def tw14805906966327368391:=I
def tw5089835026695240391:=I
def tw13943048915945477863:=I
def tw18218533844961876871:=I
def tw13904267420267609991:=I
def tw2140313022515905447:=I
def tw482318276768454567:=I
def tw2912214094333731783:=I
def tw9500105614582550503:=I
def tw13758047993724965928:=I
def tw726860310829046856:=I
def tw12256169260481548392:=I
def tw17198463434106425448:=I
def tw7942578105436056712:=I
def tw15499752418481983720:=I
def tw14614273210160405736:=I
def tw7454139932547290376:=I
def tw747043691208173832:=I
def tw18433650020769647944:=I
def tw18444304990753065320:=I
def tw9039711840959781224:=I
def tw13611117460698463592:=I
def tw9358999925778116040:=I
def tw1890504920432740840:=I
def tw3908072068597323240:=I
def tw13768348694776336936:=I
def tw305156754065375816:=I
def tw13497600953703428680:=I
def tw2573341612985288296:=I
def tw6314643601090052744:=I
def tw17444438182570924680:=I
def tw11081527122295070376:=I
def tw10555284376846842536:=I
def tw14735256341022735016:=I
def tw554744248076332744:=I
def tw10299820309216477928:=I
def tw5615387707378092776:=I
def tw2088181560037970728:=I
def tw18348953225134479144:=I
def tw17994844820277182248:=I
def tw16551648862447796040:=I
def tw4363686400428117896:=I
def tw1598081877168649096:=I
def tw17063930888015135656:=I
def tw5689416983998325865:=I
def tw5872111478115798153:=I
def tw3000365365838437513:=I
def tw6504646717220403401:=I
def tw12645992924686420233:=I
def tw14101201804881157417:=I
def tw7569048313017989417:=I
def tw11903709329661818185:=I
def tw3447316843957609929:=I
def tw17283122317304468137:=I
def tw18312827775023781545:=I
def tw1279781833402337961:=I
def tw4267366378993729225:=I
def tw2705096427789351625:=I
def tw16837554897968804585:=I
def tw7875902410823507785:=I
def tw229663669520393065:=I
def tw10952431771927883657:=I
def tw12209302675520032681:=I
def tw4614759717335835593:=I
def tw1024337686570052553:=I
def tw14559992910862404553:=I
def tw11544835431473384425:=I
def tw12436593325258646602:=I
def tw16041718635017688138:=I
def tw4335947293594059914:=I
def tw3287271956060432522:=I
def tw15624933265240889514:=I
def tw2860824349811606730:=I
def tw2771208283025821930:=I
def tw13325976662373934346:=I
def tw12130552552052020490:=I
def tw5825794419038875946:=I
def tw8439695674513454378:=I
def tw14768956226559539530:=I
def tw268767060202850698:=I
def tw6707848720103138730:=I
def tw15964484272089961930:=I
def tw8780320602225414698:=I
def tw17396573055511766570:=I
def tw6890588879567953482:=I
def tw18336123907383539306:=I
def tw8887352717578891914:=I
def tw10760356472823379594:=I
def tw7487044313810719402:=I
def tw3803650547427786474:=I
def tw6947556454195974890:=I
def tw14191203416235374346:=I
def tw15814045745534054186:=I
def tw1683547606323258186:=I
def tw16934875185575298922:=I
def tw4360388198099794794:=I
def tw4254913099178162058:=I
def tw1703442441496712074:=I
def tw348335916147943338:=I
def tw6682443510912668618:=I
def tw13805136638852062154:=I
def tw205303539599900618:=I
def tw10126379766479869963:=I
def tw9155257553387989035:=I
def tw5606064394415818795:=I
def tw10184207372695136299:=I
def tw3545217180626160747:=I
def tw6229389074670999659:=I
def tw10299023938867021963:=I
def tw13679680753154248843:=I
def tw15194760278790027435:=I
def tw15287546730125852875:=I
def tw14520596946024662251:=I
def tw2331335370918268139:=I
def tw10893678802593162475:=I
def tw1505789424228322571:=I
def tw15354495729157297451:=I
def tw9545343230391643435:=I
def tw15505118850325381483:=I
def tw11053367901537254795:=I
def tw12707576922009577899:=I
def tw11704277131751683531:=I
def tw14827226878614867435:=I
def tw6633505074304849387:=I
def tw5404269639713611243:=I
def tw2196595174628179563:=I
def tw13269420696099594891:=I
def tw15854502262767462027:=I
def tw1412565098155200171:=I
def tw15627281003606138603:=I
def tw6621194064487379691:=I
def tw2451321752545648427:=I
def tw12912479051123509067:=I
def tw17650320053170875243:=I
def tw2443685013917324171:=I
def tw12523405336475003787:=I
def tw6840933767099615147:=I
def tw4229826552666420139:=I
def tw5495129236966024139:=I
def tw15437520027836313547:=I
def tw15891723084116108300:=I
def tw12818624054814856204:=I
def tw11923093661271383084:=I
def tw14220838708238088236:=I
def tw1798135577547865132:=I
def tw18031581158753599564:=I
def tw3875974753067009132:=I
def tw14692768528913978604:=I
def tw2476980584109936908:=I
def tw17452653308717513036:=I
def tw15907786781338206572:=I
def tw12282084739583878508:=I
def tw2814670661324892524:=I
def tw4414625115965561260:=I
def tw16214863724873808300:=I
def tw15919087443796132332:=I
def tw2934776638901035500:=I
def tw7261789050819825164:=I
def tw7426756301333782028:=I
def tw12780332066818105900:=I
def tw5337593071819730476:=I
def tw484680306894494316:=I
def tw4854898252591505068:=I
def tw2901829073989792428:=I
def tw9936109193850099404:=I
def tw11543291766146348748:=I
def tw4443280742468958924:=I
def tw16951111886706588428:=I
def tw2224364892376906540:=I
def tw10130908626672705324:=I
def tw16451782721948775212:=I
def tw14410232638418697036:=I
def tw6197822946433426284:=I
def tw12771148249706490796:=I
def tw12232738686203256780:=I
def tw18410904205752824780:=I
def tw4249240060535710700:=I
def tw8302694606645998572:=I
def tw4403312583415586829:=I
def tw4917321111452959821:=I
def tw2690092618996320365:=I
def tw6460064902717641837:=I
def tw7888192213580066957:=I
def tw8483548841154860173:=I
def tw1836096251703017677:=I
def tw5680843734921470157:=I
def tw11949045984320588045:=I
def tw1054819154678722829:=I
def tw1495894983784413485:=I
def tw4479552925275712845:=I
def tw603168634050645421:=I
def tw9904638063342297549:=I
def tw1663103631501446605:=I
def tw12477780777736611373:=I
def tw15345980963196354093:=I
def tw7770421682661839405:=I
def tw1893251211642863149:=I
def tw9357973903350989421:=I
def tw666446684499339885:=I
def tw9660975398874289837:=I
def tw12887466617601855213:=I
def tw14495278967915058957:=I
def tw8511364542062862093:=I
def tw1721212482488111917:=I
def tw12897149725263763245:=I
def tw16247719455830790957:=I
def tw9078477380506094413:=I
def tw3819261577584745293:=I
def tw671362866102162253:=I
def tw11809988904306016077:=I
def tw8466468056881764205:=I
def tw14880962240544718733:=I
def tw4646684460897176557:=I
def tw16279834937586126829:=I
def tw18279552701988451309:=I
def tw9867965599530958829:=I
def tw13913747268582054926:=I
def tw3996897406518353934:=I
def tw2096433923100835886:=I
def tw9137614279630062638:=I
def tw16379821009042671662:=I
def tw17848400472482228270:=I
def tw7348874469622794286:=I
def tw13774435887636477070:=I
def tw8360172557070695662:=I
def tw16638372989042176302:=I
def tw9753867399611043182:=I
def tw2725992710194431374:=I
def tw5808298493918034318:=I
def tw17397335665085857198:=I
def tw1376690941040709038:=I
def tw6320533284678955438:=I
def tw9601490211964353966:=I
def tw17333178356771531214:=I
def tw10629895230323758606:=I
def tw1424987811083368974:=I
def tw15800852914658189902:=I
def tw1838026513044776526:=I
def tw6510035149633259118:=I
def tw12633567675380694638:=I
def tw11130984951252105870:=I
def tw3772973520905484974:=I
def tw16774302830160355022:=I
def tw15627495569766322926:=I
def tw8227536822046434030:=I
def tw17313626040573934318:=I
def tw8938733007994546958:=I
def tw1139965207754290990:=I
def tw1445093674451512142:=I
def tw9443579064331152206:=I
def tw5990803950168336238:=I
def tw17037150530282611727:=I
def tw196782711804135471:=I
def tw10280167087614979119:=I
def tw13119823050546048047:=I
def tw8217554446883303535:=I
def tw6408410256936162415:=I
def tw14537058423268784399:=I
def tw1948158759210571055:=I
def tw5337951595321575759:=I
def tw9408916822415972719:=I
def tw1242810352630670703:=I
def tw3618580051777102223:=I
def tw6566064706103300527:=I
def tw14745758950753611247:=I
def tw13071226147178425871:=I
def tw4733929724688526895:=I
def tw14256404676790180463:=I
def tw14888412516968228463:=I
def tw17552451234848344719:=I
def tw10489882372709258959:=I
def tw2003149421435900623:=I
def tw12295783793651858191:=I
def tw18194679426660118319:=I
def tw2235484447707049839:=I
def tw12585530621962170319:=I
def tw827644012667959247:=I
def tw10509954168709451792:=I
def tw16912069319098514448:=I
def tw2292563574959966256:=I
def tw3848621026844521552:=I
def tw16815213910538272848:=I
def tw3981925139628418160:=I
def tw924578943234100400:=I
def tw15798434745553554672:=I
def tw13742448656961216752:=I
def tw8444207120435060976:=I
def tw17341950233202629904:=I
def tw7908029397333197072:=I
def tw10593267802371121456:=I
def tw13484676655095803184:=I
def tw13018781990756085072:=I
def tw7690519768766280016:=I
def tw7244250928203507056:=I
def tw13259534019827057008:=I
def tw1252280236556935568:=I
def tw12351909335157380528:=I
def tw10066581328067303888:=I
def tw10614470937959393744:=I
def tw1691053584943283664:=I
def tw4816337392969388528:=I
def tw2009530207368004080:=I
def tw7649017656766176848:=I
def tw13649025272254503536:=I
def tw10902701371462417008:=I
def tw1286184879576005264:=I
def tw4522267394882263728:=I
def tw6847037842393905872:=I
def tw13953979548834640624:=I
def tw6173279774078848816:=I
def tw10031025629999145808:=I
def tw18110737175295082352:=I
def tw4160706473491274640:=I
def tw162745983694431152:=I
def tw14287390502662977488:=I
def tw7565634460444852176:=I
def tw14526678050571095057:=I
def tw6061651917049629713:=I
def tw9880558762381417521:=I
def tw4571304795586361393:=I
def tw47585032879384721:=I
def tw2003250904520247473:=I
def tw11564661445064848593:=I
def tw15978199710947129585:=I
def tw1315897806296513777:=I
def tw11950966018104283409:=I
def tw2713243799321156913:=I
def tw555804049928810833:=I
def tw2169141525373265265:=I
def tw3187255829478951281:=I
def tw716537784005347729:=I
def tw12468409276201875921:=I
def tw15730170027974775281:=I
def tw3927223179505766929:=I
def tw6243545213468162577:=I
def tw15931808923665416721:=I
def tw9415720402685080113:=I
def tw9430077386524192305:=I
def tw13031831979153194545:=I
def tw3437025891452534353:=I
def tw16997430860615822993:=I
def tw8396296673208070833:=I
def tw10304108635460663985:=I
def tw14339074117146611473:=I
def tw13979712743171297137:=I
def tw9171303152783136753:=I
def tw7130014825807994898:=I
def tw8617501613090851890:=I
def tw13369570508624099378:=I
def tw6647770087245555858:=I
def tw2759159026060381330:=I
def tw846145171095134386:=I
def tw10602798117731936434:=I
def tw13567254802172193970:=I
def tw4530148279247765714:=I
def tw16793075074965110994:=I
def tw1597901231451165906:=I
def tw3950997329285474514:=I
def tw14740979890176566546:=I
def tw2411830900180593938:=I
def tw11579011161039912210:=I
def tw5582639264156697906:=I
def tw15572223459666546994:=I
def tw7706766675992203570:=I
def tw15211868060973262130:=I
def tw8968719061319925074:=I
def tw1576512586635408722:=I
def tw6897349450701047218:=I
def tw17917783486579116466:=I
def tw3828617453307411890:=I
def tw10341223539252543954:=I
def tw2055669989013062130:=I
def tw17057095541309579794:=I
def tw6967886786660712978:=I
def tw9472070862312014386:=I
def tw10271385925991250482:=I
def tw234842095297203794:=I
def tw11102132190924537426:=I
def tw18341340310820694642:=I
def tw8599035065717149330:=I
def tw17459116459558844082:=I
def tw5074387362832936658:=I
def tw3545189888968293074:=I
def tw3313424986450246386:=I
def tw4413272129880276722:=I
def tw10106588557746098930:=I
def tw4436045811604217586:=I
def tw14908220656618860274:=I
def tw13757386130105314066:=I
def tw10324678495099160370:=I
def tw2601807214300643122:=I
def tw5168881142720602962:=I
def tw4769526074511875922:=I
def tw1515885812788834162:=I
def tw6446504826322730866:=I
def tw17909196916925396850:=I
def tw12306436131195898770:=I
def tw14728077655007957938:=I
def tw2363003628592023474:=I
def tw6105400998291181522:=I
def tw14848580551771572178:=I
def tw2258182251259455539:=I
def tw6810618989223861331:=I
def tw15661406716731827315:=I
def tw16082635821648953459:=I
def tw5592674236651263123:=I
def tw15893911920491062451:=I
def tw1064194765511293139:=I
def tw5768496227986903283:=I
def tw5399558702117310739:=I
def tw15412125372626441523:=I
def tw5131944657767461203:=I
def tw4753273401314173299:=I
def tw5746329929986232787:=I
def tw8881416657424144851:=I
def tw2656953506339978771:=I
def tw9444832239548603955:=I
def tw4253214182354728499:=I
def tw12962418850427352691:=I
def tw11001579264174282355:=I
def tw8707994428052210387:=I
def tw5683087359195374323:=I
def tw6960675537292986163:=I
def tw15794895380009098035:=I
def tw13430424596695102291:=I
def tw14378170905029900115:=I
def tw18194216761199303571:=I
def tw16483203933196406707:=I
def tw912693456002540467:=I
def tw4802578705472964595:=I
def tw11186041432314373107:=I
def tw638735998921089044:=I
def tw11907433118425330708:=I
def tw8029914923438816276:=I
def tw16778840683825887252:=I
def tw14797468053960692788:=I
def tw17782637455178474580:=I
def tw17766750766436645076:=I
def tw10824637181620576500:=I
def tw3815011062225780020:=I
def tw1852214973648135476:=I
def tw4029706954735904052:=I
def tw11486582505079033236:=I
def tw6585766675988127156:=I
def tw7595317335800076724:=I
def tw12348677394393696724:=I
def tw7547426666206897620:=I
def tw10104522800067062228:=I
def tw12438827473586844116:=I
def tw14857164802889430516:=I
def tw5710745653070714356:=I
def tw5415619233896786420:=I
def tw5977129896759283220:=I
def tw12374548768092233332:=I
def tw15188183779281283860:=I
def tw12954890219022957332:=I
def tw528900341888820020:=I
def tw4506123165404582708:=I
def tw2610710346158646132:=I
def tw3399915616962535284:=I
def tw4878327741295976372:=I
def tw15192430612291436500:=I
def tw6973049139947925492:=I
def tw17376931361053574165:=I
def tw8083786276082871317:=I
def tw11615287694501454901:=I
def tw2637453848648296501:=I
def tw12219008279833141301:=I
def tw16084030498636695637:=I
def tw12463963459881327701:=I
def tw746912861664323701:=I
def tw4006352792910917749:=I
def tw11260033243978004597:=I
def tw8783766434422829205:=I
def tw11021052122430401685:=I
def tw6024512933937803413:=I
def tw3609116947179740341:=I
def tw11972777973962913973:=I
def tw10464741843173141685:=I
def tw297351102123980021:=I
def tw3783321931303311669:=I
def tw16008553569246878037:=I
def tw14869254746646196661:=I
def tw17116967881089886741:=I
def tw8209890311001322005:=I
def tw17450058226305775125:=I
def tw14478874009164668437:=I
def tw3727870409873458741:=I
def tw1135769222158563893:=I
def tw2815176247859332661:=I
def tw10047245989799258677:=I
def tw10732296409153040949:=I
def tw15134579083849497173:=I
def tw6146660152394304117:=I
def tw17742314056452234869:=I
def tw6105309198419364501:=I
def tw17557925834447300309:=I
def tw9900518222353728277:=I
def tw177814184992375573:=I
def tw16648599890362052469:=I
def tw9283558452043434901:=I
def tw18241115362821853077:=I
def tw10939912456102838165:=I
def tw12665806222203212822:=I
def tw10053798589324755030:=I
def tw17746088755125246038:=I
def tw16448349891151106166:=I
def tw11301787049026251894:=I
def tw1163449075560579286:=I
def tw355119664026313942:=I
def tw10504593761877857526:=I
def tw17997031440377744790:=I
def tw1504673719970622902:=I
def tw7419853346801996310:=I
def tw15237577506953800278:=I
def tw12621977354409293398:=I
def tw16286313208866360918:=I
def tw12277969022070115990:=I
def tw18105256496426349206:=I
def tw7414111254442887862:=I
def tw17374235293617348310:=I
def tw6783444083361067830:=I
def tw7250443082734814038:=I
def tw7932608786131521430:=I
def tw15643067309604830102:=I
def tw7448645040494700534:=I
def tw15195698153293692951:=I
def tw5985348224787999767:=I
def tw9827184650639476855:=I
def tw12294253628046407799:=I
def tw1918031319960255607:=I
def tw14313143403154284695:=I
def tw15703981505419578551:=I
def tw3918246558941711543:=I
def tw3398983135499770039:=I
def tw76333061613718775:=I
def tw6431412209508407575:=I
def tw12717982208847551831:=I
def tw12643081595749793111:=I
def tw9593302565706601847:=I
def tw11374982885851896183:=I
def tw13046317597095337335:=I
def tw8455538187787968887:=I
def tw7513409220118531447:=I
def tw17073208165124963799:=I
def tw13337282955884597751:=I
def tw15309569868548286967:=I
def tw11960970165310198327:=I
def tw4609005530053810775:=I
def tw14529977191814626903:=I
def tw10872326885196376727:=I
def tw3510034865794055831:=I
def tw8023678271129170679:=I
def tw16999207523923562263:=I
def tw10379780765750635287:=I
def tw13529835191310599959:=I
def tw17807777309345020695:=I
def tw17907152295773061943:=I
def tw13858120378683320151:=I
def tw11807093258145859447:=I
def tw4566033560821373815:=I
def tw13024865799447323543:=I
def tw2224602380880515031:=I
def tw2151597950678020152:=I
def tw2404687704399205464:=I
def tw15801725344635066488:=I
def tw4267676384765775000:=I
def tw11573334026610695320:=I
def tw1916085434013385912:=I
def tw15733896274676520120:=I
def tw16505133463364853976:=I
def tw1553827815078967544:=I
def tw15656994274381627672:=I
def tw12136845804562354456:=I
def tw16901574597838089592:=I
def tw9254247570019341688:=I
def tw458281500370479576:=I
def tw2014066178615535160:=I
def tw10159595048038661784:=I
def tw9612244812037765816:=I
def tw12143255345684214552:=I
def tw13403595093098426232:=I
def tw1256269989267344312:=I
def tw16341203040337717176:=I
def tw4948416357146171352:=I
def tw6725456027706967032:=I
def tw11108595433244531737:=I
def tw2086528516617446425:=I
def tw13298316714357868569:=I
def tw3171198373967122457:=I
def tw10316074201214906425:=I
def tw1388150363668134009:=I
def tw11156115648191682681:=I
def tw8339152248585299097:=I
def tw15417732260062809241:=I
def tw13558503300265699513:=I
def tw12174578352898634937:=I
def tw9658455244204282073:=I
def tw1702275715532775705:=I
def tw9612190587490446649:=I
def tw5587838839558664569:=I
def tw5923138898829555097:=I
def tw3192147676327911865:=I
def tw1225187135981042137:=I
def tw14265045940047692249:=I
def tw11890985200008483289:=I
def tw1801747115457516025:=I
def tw6873606220971065945:=I
def tw137888001256020601:=I
def tw15070529233521849017:=I
def tw6929196404792266489:=I
def tw1703933348995547929:=I
def tw10342775781410072345:=I
def tw16898129645808348953:=I
def tw14457291387702056793:=I
def tw8481888635884055417:=I
def tw14716705442869639033:=I
def tw5871163280980780953:=I
def tw9973423034267855769:=I
def tw2617461772629970873:=I
def tw11310625293080959929:=I
def tw9467866167549735897:=I
def tw5092863200197284857:=I
def tw3906506405224524826:=I
def tw17633105598743397402:=I
def tw8388572985682783258:=I
def tw9464908975081282618:=I
def tw4872545173785437242:=I
def tw471574747384268890:=I
def tw1095340159850893402:=I
def tw16776732123640214650:=I
def tw7344273420309057690:=I
def tw1999207837603256474:=I
def tw5545140091625132218:=I
def tw10101438137006327034:=I
def tw10539161529191509242:=I
def tw7610979075381118202:=I
def tw638497314638486810:=I
def tw16399783437376642330:=I
def tw1529243080366005594:=I
def tw11213996846130964826:=I
def tw10362150690896501082:=I
def tw16646309867454629338:=I
def tw4310985176947869146:=I
def tw4877198305046220346:=I
def tw9731895883245903450:=I
def tw27034645971736186:=I
def tw15985882500855654010:=I
def tw1603707588579064442:=I
def tw2526978217890484922:=I
def tw12780021385283878618:=I
def tw17695318125075578586:=I
def tw9683930237175757562:=I
def tw15809023712107005786:=I
def tw14002002586855817114:=I
def tw12019159388884832186:=I
def tw5115789537035044826:=I
def tw5759180489263533083:=I
def tw2866869571734493211:=I
def tw6355106161731859483:=I
def tw5731666902142540859:=I
def tw7434454849185770555:=I
def tw3733995323946626139:=I
def tw2371862909768266875:=I
def tw12396423487684725915:=I
def tw10676540044011753627:=I
def tw11510964977924023483:=I
def tw2541854352870412507:=I
def tw9507360983431274715:=I
def tw2254550812471558427:=I
def tw1070066023971249435:=I
def tw5686646013202536763:=I
def tw861633624309023035:=I
def tw3037100592774955323:=I
def tw16602490949406843195:=I
def tw9098432770382652731:=I
def tw7903069589506452795:=I
def tw5587133132080502203:=I
def tw6251741612171654619:=I
def tw13351959645672359419:=I
def tw1655396752433575451:=I
def tw14086536071799510587:=I
def tw7484909898518624859:=I
def tw7817965715949657723:=I
def tw12396342986869592699:=I
def tw1562873693713085083:=I
def tw2037832968615953147:=I
def tw7341872549439948571:=I
def tw9666392270547842843:=I
def tw9637452435137107771:=I
def tw12704303539634257723:=I
def tw12962961033576604507:=I
def tw3311918038119963515:=I
def tw8211574196172643259:=I
def tw14182837427300238299:=I
def tw3377385127474734043:=I
def tw7203759483959954492:=I
def tw5502325675973503036:=I
def tw14614476128130844764:=I
def tw10389740504389568604:=I
def tw10695150091285941372:=I
def tw18201506539356033180:=I
def tw6820166351585608892:=I
def tw16206090868677547228:=I
def tw16288695221154749660:=I
def tw14141058415502042332:=I
def tw13633580731426661660:=I
def tw8346224352643901724:=I
def tw5422192061828693276:=I
def tw15430923373319751996:=I
def tw17127391238108942652:=I
def tw11088693366151369020:=I
def tw10174173816451780924:=I
def tw6278586112097097052:=I
def tw15208751379151534428:=I
def tw11430516081563825500:=I
def tw4154579097597854108:=I
def tw1030262666484008380:=I
def tw9606380301618066908:=I
def tw5170276472560315900:=I
def tw15530678691644866044:=I
def tw4559236671251256860:=I
def tw10495188702365742620:=I
def tw2200141338985875004:=I
def tw11806812821914835580:=I
def tw1799797497816826556:=I
def tw3909457174162519804:=I
def tw6613557333648723708:=I
def tw2780158803105676028:=I
def tw7959098151415118652:=I
def tw8685933887040881500:=I
def tw2851190558471292764:=I
def tw17029649017528395612:=I
def tw17811060550395047772:=I
def tw11917157467528027996:=I
def tw15396595493792252828:=I
def tw1904405229878850460:=I
def tw10534697678993748988:=I
def tw14880295610076832797:=I
def tw1899988680275459165:=I
def tw11683479751324273917:=I
def tw430159090837951741:=I
def tw8111487595651537149:=I
def tw3210240651255847197:=I
def tw231850878057595165:=I
def tw9944971248141141341:=I
def tw10302729975980140893:=I
def tw8244434002779279741:=I
def tw1919681088753991101:=I
def tw17528493931532214749:=I
def tw14305610575420289501:=I
def tw7849576976766077629:=I
def tw13757295027303825085:=I
def tw13007476163017630429:=I
def tw592457189731730173:=I
def tw7883007490952863485:=I
def tw2888835299485821693:=I
def tw9496188483352785757:=I
def tw12379884771787076445:=I
def tw2952243719249468349:=I
def tw16127886140805332925:=I
def tw2032787865470127037:=I
def tw2337402376092733405:=I
def tw11169790520690683901:=I
def tw2444206543286752253:=I
def tw378810661109986334:=I
def tw16704519146313777214:=I
def tw15978116577154984222:=I
def tw14420148888570224990:=I
def tw13950936971644290430:=I
def tw13496255229032650142:=I
def tw16993917993849824702:=I
def tw13239644731062365662:=I
def tw1206099485326330334:=I
def tw8217973888128021022:=I
def tw179596483482686014:=I
def tw12580581215310980670:=I
def tw9042347936736917086:=I
def tw12117168508938384990:=I
def tw3035757431792018110:=I
def tw10699045863155052254:=I
def tw10546463943452052190:=I
def tw9313470158030405342:=I
def tw1578329263613733726:=I
def tw16493163966004092830:=I
def tw2223835087260088222:=I
def tw11576144504928370622:=I
def tw1413097464180302846:=I
def tw10425012469540651135:=I
def tw12237818286559573119:=I
def tw2483437446037402751:=I
def tw6765261397649038495:=I
def tw10814119848222118079:=I
def tw4826975222945352959:=I
def tw3632178105808794879:=I
def tw10861332765706646815:=I
def tw669816828838547775:=I
def tw962908876901718367:=I
def tw3381768562475613535:=I
def tw11431932171692813695:=I
def tw1252370840202204575:=I
def tw12349304437919382943:=I
def tw15896713182373742047:=I
def tw646801507063103999:=I
def tw13879820772955835903:=I
def tw3232242249053746815:=I
def tw12773378236209842815:=I
def tw13128690745116639935:=I
def tw15524140643058616031:=I
def tw17819608785692866271:=I
def tw11404032400969977599:=I
def tw1505569175135514367:=I
def tw4362976445338776351:=I
def tw14716514509776807775:=I
def tw12661113346151825279:=I
def tw6685453360327761887:=I
def tw8682271357437125599:=I
end PySem.W.Fast
open PySem PySem.W PyProof.Rows
set_option maxRecDepth 100000 in
set_option maxHeartbeats 0 in
theorem PySem.Challenge.cw_stripmeld_k44_whole_all_stands_holds : PySem.Challenge.rw_stripmeld_k44_whole_all_stands.Holds := by
 w_on;o_law;k_head;(case hw=>w_witness2)
 k_fill
 refine L2.Zkx (l:=PySem.Challenge.rw_stripmeld_k44_whole_all_stands) (n:=63) (k:=8) (x:="_law_script") (CX:=L2.CX0) (sp:=Pu.EH) rfl (by decide) rfl ⟨rfl,by decide,by decide,rfl⟩ (fun w h Y=>PySem.W.kIn_of Y) ?F ?S ?C
 case F=>
  intro w mg fa h KX G hmg
  refine' T.Zfj KX G hmg ?Up ?U7 ?U8 ?U9 ?UA ?UB ?UC ?UD ?UE ?UF ?a0 ?a1 ?a2 ?a3 ?a4 ?a5 ?a6 ?a7 ?a8 ?a9 ?a10 ?a11 ?a12 ?a13 ?a14 ?a15 ?a16 ?a17 ?a18 ?a19 ?a20 ?a21 ?a22 ?a23 ?a24 ?a25 ?a26 ?a27 ?a28 ?a29 ?a30 ?a31 ?a32 ?a33 ?a34 ?a35 ?a36 ?a37 ?a38 ?a39 ?a40 ?a41 ?a42 ?a43 ?a44 ?a45 ?a46 ?a47 ?a48 ?a49 ?a50 ?a51 ?a52 ?a53 ?a54 ?a55 ?a56 ?a57 ?a58 ?a59 ?a60 ?a61 ?a62 ?a63 ?a64 ?a65 ?a66 ?a67 ?a68 ?a69 ?a70 ?a71 ?a72 ?a73 ?a74 ?a75 ?a76 ?a77 ?a78 ?a79 ?a80 ?a81 ?a82 ?a83 ?a84 ?a85 ?a86 ?a87 ?a88 ?a89 ?l89 ?c89 ?k89 ?UG ?UH ?UI ?UJ ?UK ?UL ?UM ?UN ?UO ?UP ?UQ ?UR ?US ?UT ?UU ?UV ?UW ?UX ?UY ?UZ ?Uq ?Ur ?Us ?Ut ?Uu ?Uv ?Uw ?Ux ?Uy ?U0 ?U1 ?U2 ?U3 ?U4 ?U5 ?U6
  (case Up|U7|U8|U9|UA|UB|UC|UD|UE|UF=>k_is)
  (case a0|a1|a2|a3|a4|a5|a6|a7|a8|a9|a10|a11|a12|a13|a14|a15|a16|a17|a18|a19|a20|a21|a22|a23|a24|a25|a26|a27|a28|a29|a30|a31|a32|a33|a34|a35=>apply Pu.di<;>k_is)
  (case a36|a37|a38|a39|a40|a41|a42|a43|a44|a45|a46|a47|a48|a49=>apply Pu.mi<;>k_is)
  (case a50|a51|a52|a53|a54|a55|a56|a57|a58|a59|a60|a61|a62|a63|a64|a65|a66|a67|a68|a69|a70|a71|a72|a73|a74|a75|a76|a77|a78|a79|a80|a81|a82|a83|a84|a85|a86|a87|a88=>apply Pu.di<;>k_is)
  (case a89|l89|c89|k89|UG|UH|UI|UJ|UK|UL|UM|UN|UO|UP|UQ|UR|US|UT|UU|UV|UW|UX|UY|UZ=>k_is)
  (case Uq|Ur|Us|Ut|Uu|Uv|Uw|Ux|Uy|U0|U1|U2|U3|U4|U5|U6=>apply Pu.ei<;>first|(k_is;done)|k_exc)
 case S=>exact fun K H a ns hl hO hS=>⟨a,ns,rfl,hS,fun _=>rfl⟩
 case C=>exact fun _ _ _ _ z=>z
