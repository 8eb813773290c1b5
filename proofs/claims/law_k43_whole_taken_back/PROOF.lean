import PyProof.Rows.All
import Wide.All
import OpenK.AllK
import Wide.FinOn
import Lean
import PyProof.EqAt
import PyProof.EqKinds
import PyProof.TupleCall
import PySem.Challenge.RW_stripmeld_k43_whole_taken_back
set_option Elab.async false
set_option linter.all false
set_option compiler.extract_closed false
set_option genSizeOf false
set_option maxRecDepth 100000
def bu_0(h:True:=by rfl):True:=h
def au_0:Lean.Syntax:=bu_0._auto_1
def bu_1(h:True:=by decide):True:=h
def au_1:Lean.Syntax:=bu_1._auto_1
def bu_2(h:True:=by first | exact .inl rfl | exact .inr rfl | assumption):True:=h
def au_2:Lean.Syntax:=bu_2._auto_1
def bu_3(h:True:=by intro _; rfl):True:=h
def au_3:Lean.Syntax:=bu_3._auto_1
def bu_4(h:True:=by first | exact Or.inl rfl | exact Or.inr (Or.inl rfl) | exact Or.inr (Or.inr rfl)):True:=h
def au_4:Lean.Syntax:=bu_4._auto_1
def bu_5(h:True:=by decide +kernel):True:=h
def au_5:Lean.Syntax:=bu_5._auto_1
def bu_6(h:True:=by first | exact Or.inl rfl | exact Or.inr rfl):True:=h
def au_6:Lean.Syntax:=bu_6._auto_1
def bu_7(h:True:=by intro _ _; rfl):True:=h
def au_7:Lean.Syntax:=bu_7._auto_1
def bu_8(h:True:=by size_fits):True:=h
def au_8:Lean.Syntax:=bu_8._auto_1
def bu_9(h:True:=by kernel_rfl):True:=h
def au_9:Lean.Syntax:=bu_9._auto_1
def bu_10(h:True:=by intro _; first | exact Or.inl rfl | exact Or.inr (Or.inl rfl) | exact Or.inr (Or.inr rfl)):True:=h
def au_10:Lean.Syntax:=bu_10._auto_1
def bu_11(h:True:=by intro _; exact ⟨rfl, rfl, rfl⟩):True:=h
def au_11:Lean.Syntax:=bu_11._auto_1
def bu_12(h:True:=by with_unfolding_all rfl):True:=h
def au_12:Lean.Syntax:=bu_12._auto_1
def bu_13(h:True:=by intro _; first | exact Or.inl rfl | exact Or.inr rfl):True:=h
def au_13:Lean.Syntax:=bu_13._auto_1
def bu_14(h:True:=by intro _; first | exact .inl rfl | exact .inr rfl | assumption):True:=h
def au_14:Lean.Syntax:=bu_14._auto_1
def bu_15(h:True:=by intro _; kernel_rfl):True:=h
def au_15:Lean.Syntax:=bu_15._auto_1
def bu_16(h:True:=by lia):True:=h
def au_16:Lean.Syntax:=bu_16._auto_1
noncomputable section
def WE:=@PySem.wpAny_bind
def WG:=@List.length_map
def WH:=@List.getElem?_eq_getElem
def WI:=@decide_eq_true
def WJ:=@List.mem_singleton
def WK:=@PySem.wpAny_pure
def WL:=@PySem.Heap.get?_push_of_some
def WM:=@if_neg
def WN:=@of_decide_eq_true
def WO:=@if_pos
def WQ:=@Nat.le_refl
def WR:=@List.getD_eq_getElem?_getD
def WS:=@List.length_append
def WT:=@List.getElem?_map
def WU:=@List.mem_cons
def WV:=@Nat.le_trans
def WW:=@PySem.Heap.lt_size
def WX:=@PySem.Heap.get?_push_size
def WY:=@Option.some.inj
def WZ:=@List.map_append
def Qa:=@List.length_cons
def Qb:=@List.map_cons
def Qc:=@List.mem_append
def Qd:=@List.getElem?_eq_some_iff
def Qe:=@List.mem_of_getElem?
def Qf:=@List.mem_cons_of_mem
def Qg:=@List.getElem_mem
def Qh:=@Bool.false_ne_true
def Qi:=@List.mem_map
def Qj:=@Nat.ne_of_lt
def Qk:=@List.mem_append_right
def Ql:=@PySem.PassesOwn.never
def Qm:=@List.getElem?_append_left
def Qn:=@Nat.lt_of_lt_of_le
def Qo:=@Nat.add_le_add
def Qp:=@List.take_succ_eq_append_getElem
def Qq:=@List.getElem?_append_right
def Qr:=@List.size_toArray
def Qs:=@List.length_take
def Qt:=@PySem.W.mg_none_of
def Qu:=@decide_eq_false
def Qv:=@List.mem_filter
def Qw:=@PySem.F.plainAttrs_list
def Qx:=@Classical.byContradiction
def Qy:=@List.mem_cons_self
def Qz:=@PySem.wpAny_mono
def Q0:=@List.map_map
def Q1:=@List.append_nil
def Q2:=@Bool.and_eq_true
def Q3:=@Int.toNat_natCast
def Q4:=@congrArg
def Q5:=@PySem.Heap.get?_update_self
def Q6:=@List.length_singleton
def Q7:=@List.nodup_cons
def Q8:=@PySem.wpAny_loadPart_at
def Q9:=@List.mem_iff_getElem
def QA:=@List.length_filter_le
def QB:=@PySem.wpAny_newObj_type
def QC:=@List.dropLast_concat
def QD:=@PySem.Heap.get?_update_other
def QE:=@PySem.W.mg_of
def QF:=@Array.length_toList
def QG:=@List.getElem?_cons_succ
def QH:=@PySem.W.kia_one
def QI:=@List.length_set
def QJ:=@PySem.Obj.data_mapFields
def QK:=@List.take_length
def QL:=@Int.le_refl
def QM:=@List.pairwise_iff_getElem
def QN:=@List.drop_eq_getElem_cons
def QO:=@PySem.Heap.SameBut.update
def QP:=@PyProof.Rows.boot_isinstance
def QR:=@List.mem_append_left
def QS:=@PySem.W.looks_findIn
def QT:=@Nat.lt_irrefl
def QU:=@PySem.wpAny_holding
def QV:=@Nat.zero_le
def QW:=@List.filterMap_cons
def QX:=@Array.getElem?_eq_getElem
def QY:=@Array.getElem?_toList
def QZ:=@List.eq_nil_or_concat
def Va:=@List.mem_of_mem_take
def Vb:=@Classical.not_not
def Vc:=@List.map_congr_left
def Vd:=@List.lookup_cons
def Ve:=@PySem.wpAny_setField
def Vf:=@PySem.Obj.isFreed_of_fields
def Vg:=@List.getElem?_eq_none
def Vh:=@Nat.le_of_eq
def Vi:=@List.getElem?_take_of_lt
def Vj:=@PySem.F.slot_dict_valueiterator_next
def Vk:=@List.nodup_append
def Vl:=@PySem.wpAny_typeNameOfWhole_valiter
def Vm:=@beq_eq_false_iff_ne
def Vn:=@PySem.mem_of_lookup
def Vo:=@PySem.Heap.size_push
def Vp:=@List.cons_append
def Vq:=@List.not_mem_nil
def Vr:=@PySem.wpAny_call_entry
def Vs:=@List.dropLast_concat_getLast
def Vt:=@PySem.codeAny_mono
def Vu:=@List.pairwise_cons
def Vv:=@Nat.add_sub_cancel
def Vw:=@PySem.wpAny_passesOwn
def Vx:=@PySem.codeAny_builtin
def Vy:=@List.concat_eq_append
def Vz:=@PySem.F.slot_list_pop
def V0:=@PySem.F.type_list_pop
def V1:=@PySem.F.excBase_ValueError
def V2:=@PySem.wpAny_truthy_bool
def V3:=@PySem.wpAny_setState_of
def V4:=@decide_eq_true_eq
def V5:=@PySem.Heap.get?_none_of_le
def V6:=@PySem.codeAny_call_builtin
def V7:=@Nat.lt_succ_self
def V8:=@Nat.lt_trans
def V9:=@List.all_eq_true
def VA:=@PySem.wpAny_typeNameOf_valiter
def VB:=@PySem.F.slot_list_append
def VC:=@PySem.F.type_list_append
def VD:=@PySem.wpAny_isSubtype_exc
def VE:=@List.length_pos_iff
def VF:=@List.getElem?_replicate
def VG:=@List.find?_cons
def VH:=@List.contains_cons
def VI:=@List.map_singleton
def VJ:=@Nat.le_succ
def VL:=@List.filterMap_eq_map'
def VM:=@List.getElem_take
def VN:=@PySem.W.methodCall_KW
def VO:=@List.nodup_nil
def VP:=@List.filterMap_append
def VQ:=@PyProof.Rows.callWith_type1
def VR:=@List.pairwise_append
def VS:=@PySem.Around.under_plainId
def VT:=@PySem.wpAny_standAt
def VU:=@List.any_cons
def VW:=@Array.getElem?_eq_some_iff
def VX:=@Nat.le_of_lt
def VY:=@PySem.wpAny_Call_Name_kw
def VZ:=@PySem.F.args_tuple_add_2
def Ja:=@PyProof.Rows.F.entry_set_update_loop
def Jb:=@PyProof.Rows.F.plain_set_update_loop
def Jc:=@PySem.Code.quiet_builtin
def Jd:=@Bool.false_eq_true
def Je:=@Int.ne_of_lt
def Jf:=@Int.add_zero
def Jg:=@List.mem_range
def Jh:=@List.take_zero
def Ji:=@PySem.F.entry_tuple_add
def Jj:=@PySem.wpAny_callSpecial?_slot
def Jk:=@List.length_eq_zero_iff
def Jl:=@PySem.F.slot_list_index
def Jm:=@List.take_sublist
def Jn:=@PySem.fits_of_scanBound
def Jo:=@Nat.lt_succ_of_lt
def Jp:=@PySem.Obj.cls_mapFields
def Jq:=@List.append_assoc
def Jr:=@Bool.eq_false_iff
def Js:=@List.length_range
def Jt:=@PySem.sizeLine_eq
def Ju:=@PySem.F.slot_tuple_add
def Jv:=@Array.getElem?_eq_none
def Jw:=@Classical.epsilon_spec
def Jx:=@List.all_cons
def Jy:=@PySem.W.any_some
def Jz:=@if_false
def J0:=@PySem.F.typeOf_object_class
def J1:=@List.take_append_drop
def J2:=@PySem.wpAny_isOneOf_valiter
def J4:=@List.getElem?_reverse
def J6:=@List.dropLast_eq_take
def J7:=@List.getElem?_set_ne
def J8:=@PySem.wpAny_execs_nil
def J9:=@Bool.eq_iff_iff
def JA:=@PySem.wpAny_call
def JB:=@PySem.Calls.evalArgs_plain
def JC:=@Option.map_some
def JD:=@Nat.not_lt
def JE:=@List.mem_of_mem_drop
def JF:=@List.cons.injEq
def JG:=@Nat.pow_le_pow_right
def JH:=@List.length_dropLast
def JI:=@PySem.W.plainGet_of
def JJ:=@PySem.W.looks_clsIn
def JK:=@List.length_reverse
def JL:=@List.mem_map_of_mem
def JM:=@Int.mul_le_mul
def JN:=@PySem.wpAny_field
def JO:=@List.mem_filterMap
def JP:=@PySem.W.Looks.here
def JQ:=@PySem.W.callWith_K
def JR:=@Nat.lt_of_le_of_lt
def JS:=@PySem.W.isNs_of_in
def JT:=@Int.emod_lt_of_pos
def JU:=@Bool.true_and
def JV:=@List.ext_getElem?
def JW:=@Nat.ne_of_gt
def JX:=@Nat.sub_self
abbrev Yd:=List (Int×Int)
abbrev Ye:=List Int
abbrev Yf:=List (PySem.Addr×PySem.Obj)
abbrev Yg:=PySem.Str->Option PySem.Value
abbrev Yh:=PySem.Value->PySem.Shared->Prop
abbrev Yi:=List (Option Nat)
abbrev Yj:=List Nat
abbrev Yk:=List PySem.Value
abbrev Yl:=List PySem.Str
abbrev Ym:=List PySem.Expr
abbrev Yn:=List PySem.Stmt
abbrev Yo:=Option PySem.Value
abbrev Yp:=Option PySem.Addr
abbrev Yq:=Array (Int×PySem.Value)
abbrev Yc:=PySem.W.Frag
namespace L2
open PySem PySem.Spec PyProof.Rows
abbrev Key:=Sum Int Str
noncomputable def SZ:Key->Value->Bool
 | .inl k,v=>Value.isInt k v
 | .inr x,v=>Value.isStrOf x v
noncomputable def Zjl(w:World):Key->Int
 | .inl k=>hashInt k
 | .inr x=>hashStr w x
def Nd:∀{k}{v:Value},SZ k v=true->(∃i t,k=Sum.inl i/\v=Value.int i t)\/(∃x t,k=Sum.inr x/\v=Value.str x t)
 | .inl i,v,h=>by
  obtain⟨t,e⟩:=Value.isInt_shape h
  grind
 | .inr x,v,h=>by
  obtain⟨t,e⟩:=Value.isStrOf_shape h
  grind
def Zgd(i:Int)(t:Tok):SZ (.inl i) (.int i t)=true:=by simp[SZ,Value.isInt]
def Zl6(x:Str)(t:Tok):SZ (.inr x) (.str x t)=true:=by simp[SZ,Value.isStrOf]
def Zgq(a b:Int):decide ((Sum.inl a:Key)=Sum.inl b)=(a==b):=by grind
def Ziw(a b:Str):decide ((Sum.inr a:Key)=Sum.inr b)=decide (a=b):=by simp
def Zq7(a:Int)(b:Str):decide ((Sum.inl a:Key)=Sum.inr b)=false:=Qu (λq=>nomatch q)
def Zkj(a:Str)(b:Int):decide ((Sum.inr a:Key)=Sum.inl b)=false:=Qu (λq=>nomatch q)
noncomputable def P4(prog:Program)(w:World):PySem.KeyKind prog w Key where
 is:=SZ
 hash:=Zjl w
 inj:=λv a b ha hb=>by
  rcases Nd ha with⟨i,t,rfl,rfl⟩|⟨x,t,rfl,rfl⟩
  ·rcases Nd hb with⟨j,u,rfl,e⟩|⟨y,u,rfl,e⟩
   ·injection e with e1 _;rw[e1]
   ·exact nomatch e
  ·rcases Nd hb with⟨j,u,rfl,e⟩|⟨y,u,rfl,e⟩
   ·exact nomatch e
   ·injection e with e1 _;rw[e1]
 byValue:=λk v h=>by
  rcases Nd h with⟨i,t,rfl,rfl⟩|⟨x,t,rfl,rfl⟩<;>rfl
 pyHash:=λhv h=>by
  rcases Nd hv with⟨i,t,rfl,rfl⟩|⟨x,t,rfl,rfl⟩
  ·exact wpAny_pyHash_int h
  ·exact wpAny_pyHash_str h
 eqBool:=λhu hv h=>by
  rcases Nd hu with⟨i,t,rfl,rfl⟩|⟨x,t,rfl,rfl⟩
  ·rcases Nd hv with⟨j,u,rfl,rfl⟩|⟨y,u,rfl,rfl⟩
   ·rw[Zgq]at h;exact wpAny_eqBool_int h
   ·rw[Zq7]at h;exact SeqAt.EqAt.int_str i t y u _ _ _ _ h
  ·rcases Nd hv with⟨j,u,rfl,rfl⟩|⟨y,u,rfl,rfl⟩
   ·rw[Zkj]at h;exact SeqAt.EqAt.str_int x t j u _ _ _ _ h
   ·rw[Ziw]at h;exact wpAny_eqBool_str h
 «strs»:=λk x t v h=>by
  rcases Nd h with⟨i,u,rfl,e⟩|⟨y,u,rfl,e⟩
  ·exact nomatch e
  ·injection e with e1 _;subst e1;cases v<;>rfl
def Za7(prog:Program)(w:World)(i:Int)(t:Tok):(P4 prog w).is (.inl i) (.int i t)=true:=Zgd i t
def Zr6(prog:Program)(w:World)(x:Str)(t:Tok):(P4 prog w).is (.inr x) (.str x t)=true:=Zl6 x t
inductive V where
 |non|bl (b:Bool)|int (i:Int)|str (x:Str)|byt (b:Array UInt8)|flt (b:UInt64)|ref (a:Addr)|ty (n:String)
 deriving DecidableEq
def RelV:V->Value->Prop
 | .non,u=>u=Value.none
 | .bl b,u=>u=Value.bool b
 | .int i,u=>∃t,u=Value.int i t
 | .str x,u=>∃t,u=Value.str x t
 | .byt b,u=>∃t,u=Value.bytes b t
 | .flt b,u=>∃t,u=Value.float b t
 | .ref a,u=>u=Value.ref a
 | .ty n,u=>u=Value.type n
abbrev Vals:List V->Yk->Prop:=Paired RelV
def Vals.length (r:Vals xs us):xs.length=us.length:=Paired.length r
def Vals.get:∀{xs us}{i:Nat}{x:V},Vals xs us->xs[i]?=some x->∃u,us[i]?=some u/\RelV x u:=by
 intro n
 induction n with
 |nil=>
  intro _ i _ h e;simp at e
 |cons _ _ f=>
  intro _ i d h e;cases h with
  |cons h r=>
   cases i with
   |zero=>
    simp at e;subst e;exact⟨_,rfl,h⟩
   |succ i=>
    obtain⟨v,l,g⟩:=f r (by simpa using e);exact⟨v,by simpa using l,g⟩
theorem Vals.set (r:RelV x u):∀{xs us} i,Vals xs us->Vals (xs.set i x) (us.set i u)
 |_,_,_,.nil=>.nil
 |_,_,0,.cons _ t=>.cons r t
 |_,_,i+1,.cons q t=>.cons q (Vals.set r i t)
def Vals.append:∀{xs f}{us g:Yk},Vals xs us->Vals f g->Vals (xs++f) (us++g):=by
 intro n
 induction n with
 |nil=>
  intro _ _ _ h s;cases h
  exact s
 |cons _ _ l=>
  intro _ _ _ h s;cases h with
  |cons h r=>
   exact .cons h (l r s)
theorem Vals.take:∀{xs us} n,Vals xs us->Vals (xs.take n) (us.take n)
 |_,_,0,_|_,_,_+1,.nil=>.nil
 |_,_,n+1,.cons r t=>.cons r (Vals.take n t)
theorem Vals.drop:∀{xs us} n,Vals xs us->Vals (xs.drop n) (us.drop n)
 |_,_,0,r=>r
 |_,_,_+1,.nil=>.nil
 |_,_,n+1,.cons _ t=>Vals.drop n t
def RelO:Option V->Yo->Prop
 |some v,some u=>RelV v u
 |none,none=>True
 |_,_=>False
def KV{f:Type}:List (f×V)->List (f×Value)->Prop:=Paired λ(p:f×V) (q:f×Value)=>p.1=q.1/\RelV p.2 q.2
noncomputable def kV:Key->V
 | .inl i=>.int i
 | .inr x=>.str x
inductive HO where
 |lst (xs:List V)
 |tup (xs:List V)
 |dK (kvs:List (Key×V))|dT (kvs:List (List Key×V))
 |set (S:Int->Bool) (n:Nat)
 |ins (C dx:Addr) (fs:List (Str×V))
 |own (x:Addr)
 |xd (fs:List (Str×V))
 |met (f x:Addr)
 |rng (lo hi:Int)
 |frz (o:Obj) (u:HO)
 |tbl (ps:Array Value)
 |ext (φ:Heap->Prop)
abbrev Hp:=Addr->Option HO
noncomputable def upd(H:Hp)(a:Addr)(o:HO):Hp:=λb=>if b=a then some o else H b
def X9:upd H a o a=some o:=by unfold upd;rw[WO rfl]
def Xw{a b o}(h:b≠a):upd H a o b=H b:=by unfold upd;rw[WM h]
def Mc:upd (upd H a o) a u=upd H a u:=by
 funext b;unfold upd;split<;>rfl
def D1{H:Hp}{a b}{o u}(h:H a=some o)(f:H b=some u)(d:o≠u):a≠b:=by grind
def K7{H:Hp}{a b}{o}(h:H a=some o)(f:H b=none):a≠b:=by grind
section
variable (P:Program) (w:World)
def ObjOk(H:Hp)(h:Heap)(a:Addr):HO->Prop
 | .lst xs=>xs.length<=sizeLine/\∃(l:Yk) (n:Nat),Vals xs l/\h.get? a=some {cls:=.type "list",data:=.seq l.toArray n}
 | .tup xs=>xs.length<=sizeLine/\∃l:Yk,Vals xs l/\IsTup h a l.toArray
 | .dK g=>g.length<=sizeLine/\(a==sysModules)=false/\∃z,KV g z/\h.DictOf (P4 P w) a z
 | .dT g=>g.length<=sizeLine/\(a==sysModules)=false/\∃xs:List (List Key×Addr×Value),
   Paired (λ(p:List Key×V) (q:List Key×Addr×Value)=>p.1=q.1/\H q.2.1=some (.tup<|p.1.map kV)/\RelV p.2 q.2.2) g xs/\
   ∃o E L,h.get? a=some o/\o.ExactDict/\o.data=.dict E L/\E.toList=xs.map (entryOfKey<|tupleKind<|P4 P w)/\(xs.map (·.1)).Nodup
 | .set S n=>h.SetOf (intKind P w) a S n
 | .ins C s fs=>H s=some (.own a)/\fs.length<=1000/\s≠a/\h.get? a=some (PySem.W.instObj C s)/\
   ∃r,h.Ns1 s r/\(∀f,RelO (fs.lookup f) (r f))/\PySem.Within r (fs.map (·.1))
 | .own _=>∃o,h.get? a=some o
 | .xd fs=>∃r,h.Ns1 a r/\∀f,RelO (fs.lookup f) (r f)
 | .rng lo J=>∃t u v,h.get? a=some {cls:=.type "range",data:=.fields #[.int lo t,.int J u,.int 1 v]}
 | .frz o u=>h.get? a=some o/\ObjOk H h a u
 | .tbl G=>h.get? a=some {cls:=.none,data:=.fields G}
 | .met f x=>h.get? a=some (PySem.W.methodObj (.ref f)<|.ref x)
 | .ext y=>y h/\(∃o,h.get? a=some o)/\∀B A:Heap,y B->(∀o,B.get? a=some o->A.get? a=some o)->y A
def HOk(H:Hp)(h:Heap):Prop:=∀a o,H a=some o->ObjOk P w H h a o
end
section
variable {P:Program}{w:World}{H H':Hp}{h h':Heap}{a:Addr}{o:HO}
def ObjOk.lt (x:ObjOk P w H h a o):a<h.objs.size:=by
 cases o with
 |lst xs=>obtain⟨_,_,_,_,e⟩:=x;exact WW e
 |tup xs=>obtain⟨_,_,_,p⟩:=x;exact p.lt
 |set S n=>obtain⟨o,_,_,_,e,_⟩:=x;exact WW e
 |ins C v fs=>obtain⟨_,_,_,e,_⟩:=x;exact WW e
 |own y=>obtain⟨_,e⟩:=x;exact WW e
 |xd fs=>obtain⟨_,⟨_,_,_,e,_⟩,_⟩:=x;exact WW e
 |rng lo s=>obtain⟨_,_,_,e⟩:=x;exact WW e
 |frz r u=>obtain⟨e,_⟩:=x;exact WW e
 |tbl l|met f y=>exact WW x
 |ext g=>obtain⟨_,⟨_,e⟩,_⟩:=x;exact WW e
 |_=>obtain⟨_,_,_,_,o,_,_,e,_⟩:=x;exact WW e
def Paired.mapP:∀{l:List u}{g:List s},Paired F l g->(∀a b,F a b->G a b)->Paired G l g:=by
 intro p
 induction p with
 |nil=>
  intro _ h _;cases h
  exact .nil
 |cons _ _ n=>
  intro _ h f;cases h with
  |cons h r=>
   exact .cons (f _ _ h) (n r f)
def ObjOk.stay (x:ObjOk P w H h a o) (k:∀b u,(b=a\/H b=some (.own a))->h.get? b=some u->h'.get? b=some u)
  (Q:∀b,H b=some (.own a)->H' b=some (.own a)) (N:∀b xs,H b=some (.tup xs)->H' b=some (.tup xs)):ObjOk P w H' h' a o:=by
 induction o with
 |lst xs=>obtain⟨z,A,n,r,e⟩:=x;exact⟨z,A,n,r,k _ _ (.inl rfl) e⟩
 |tup xs=>obtain⟨z,A,r,g,e,c⟩:=x;exact⟨z,A,r,g,k _ _ (.inl rfl) e,c⟩
 |dK G=>obtain⟨z,y,J,r,g,l,s,e,c⟩:=x;exact⟨z,y,J,r,g,l,s,k _ _ (.inl rfl) e,c⟩
 |dT G=>
  obtain⟨z,y,xs,r,g,l,s,e,c⟩:=x;exact⟨z,y,xs,Paired.mapP r λp q z=>⟨z.1,N _ _ z.2.1,z.2.2⟩,g,l,s,k _ _ (.inl rfl) e,c⟩
 |set S n=>obtain⟨g,l,s,t,e,c⟩:=x;exact⟨g,l,s,t,k _ _ (.inl rfl) e,c⟩
 |ins C dx fs=>
  obtain⟨d,z,L,e,E,⟨B,l,s,T,c⟩,r⟩:=x;exact⟨Q _ d,z,L,k _ _ (.inl rfl) e,E,⟨B,l,s,k _ _ (.inr d) T,c⟩,r⟩
 |own y=>obtain⟨g,e⟩:=x;exact⟨g,k _ _ (.inl rfl) e⟩
 |xd fs=>obtain⟨E,⟨B,l,s,e,c⟩,r⟩:=x;exact⟨E,⟨B,l,s,k _ _ (.inl rfl) e,c⟩,r⟩
 |rng lo hi=>obtain⟨t,u,v,e⟩:=x;exact⟨t,u,v,k _ _ (.inl rfl) e⟩
 |frz g u M=>obtain⟨e,q⟩:=x;exact⟨k _ _ (.inl rfl) e,M q⟩
 |tbl Y=>
  have e:=x;exact k a _ (.inl rfl) e
 |met f y=>
  have e:=x;exact k a _ (.inl rfl) e
 |ext U=>obtain⟨p,⟨o,e⟩,st⟩:=x;exact⟨st _ _ p λo q=>k _ _ (.inl rfl) q,⟨o,k _ _ (.inl rfl) e⟩,st⟩
def HOk.lt (x:HOk P w H h) (e:H a=some o):a<h.objs.size:=(x a o e).lt
def HOk.fresh (x:HOk P w H h) (e:h.objs.size<=a):H a=none:=by
 cases q:H a with
 |none=>rfl
 |some u=>exact absurd (Qn (x.lt q) e) (QT _)
def HOk.kept (x:HOk P w H h) (k:∀b u,h.get? b=some u->h'.get? b=some u):HOk P w H h':=λa o e=>
 (x a o e).stay (λb u _ q=>k b u q) (λ_ q=>q) λ_ _ q=>q
def HOk.laid (x:HOk P w H h) (k:∀b u,h.get? b=some u->h'.get? b=some u) (l:h.objs.size<=a) (new:ObjOk P w (upd H a o) h' a o):HOk P w (upd H a o) h':=λb u e=>by
 have f:=x.fresh l;by_cases g:b=a
 ·subst g;rw[X9]at e;cases e;exact new
 ·rw[Xw g]at e;exact(x b u e).stay (λc v _ q=>k c v q) (λc q=>by rw[Xw (K7 q f)];exact q) λc xs q=>by rw[Xw (K7 q f)];exact q
end
def Rd(H:Hp)(a:Addr)(u:HO):Prop:=H a=some u\/∃o,H a=some (.frz o u)
def Rd.ok {H h a u} (r:Rd H a u) (x:HOk P w H h):ObjOk P w H h a u:=by
 rcases r with r|⟨o,r⟩
 ·exact x a u r
 ·obtain⟨_,q⟩:=x a _ r;lia
def Mut:Option HO->Prop
 |some (.lst _)=>True
 |some (.dK _)=>True
 |some (.dT _)=>True
 |some (.set _ _)=>True
 |some (.ins _ _ _)=>True
 |some (.ext _)=>True
 |_=>False
section
variable {P:Program}{w:World}{H:Hp}{h h':Heap}{x e:Addr}{o':HO}
def HOk.write (ok:HOk P w H h) (g:Mut (H x)) (A:e=x\/H e=some (.own x)) (k:∀b u,b≠e->h.get? b=some u->h'.get? b=some u) (l:∃u,h'.get? e=some u)
  (new:ObjOk P w (upd H x o') h' x o'):HOk P w (upd H x o') h':=λb u q=>by
 have nown:∀c y,H c=some (.own y)->c≠x:=λc y r z=>by subst z;rw[r]at g;exact g
 have ntup:∀c xs,H c=some (.tup xs)->c≠x:=λc xs r z=>by subst z;rw[r]at g;exact g
 by_cases p:b=x
 ·subst p;rw[X9]at q;cases q;exact new
 ·rw[Xw p]at q;by_cases f:b=e
  ·have n:H b=some (.own x):=by
    rcases A with z|z
    ·grind
    ·rw[f];exact z
   rw[q]at n;cases n;obtain⟨v,s⟩:=l;exact⟨v,by rw[f];exact s⟩
  ·refine(ok b u q).stay (λc v o r=>k c v ?_ r) (λc r=>by rw[Xw (nown c b r)];exact r) λc xs r=>by rw[Xw (ntup c xs r)];exact r
   rcases o with rfl|o
   ·exact f
   ·grind
end
structure Un (fs ex:List Addr) (H H':Hp) (h h':Heap):Prop where
 keep:∀b o,h.get? b=some o->H b=none->b∉fs->b∉ex->h'.get? b=some o
 slot:∀b o,h.get? b=some o->H b=none->b∈fs->b∉ex->∃sl,h'.get? b=some {o with slots:=sl}
 free:∀b o,h.get? b=some o->H b=none->b∉ex->H' b=none
 there:∀b o,h.get? b=some o->b∉ex->∃o',h'.get? b=some o'
 tups:∀b xs,H b=some (.tup xs)->H' b=some (.tup xs)
 frzs:∀b o u,H b=some (.frz o u)->H' b=some (.frz o u)
 tbls:∀b ps,H b=some (.tbl ps)->∃more,H' b=some (.tbl (ps++more))
section
variable {fs fs' ex ex':List Addr}{H H1 H2:Hp}{h h1 h2 h':Heap}{a x e:Addr}{o:HO}
def Un.any (u:Un fs ex H H1 h h1) {b ob} (q:h.get? b=some ob) (n:H b=none) (hx:b∉ex):∃sl,h1.get? b=some {ob with slots:=sl}:=by
 by_cases f:b∈fs
 ·exact u.slot b ob q n f hx
 ·exact⟨ob.slots,u.keep b ob q n f hx⟩
def Un.kept (k:∀b u,h.get? b=some u->h'.get? b=some u):Un fs ex H H h h':=
 ⟨λb f q _ _ _=>k b f q,λb f q _ _ _=>⟨f.slots,k b f q⟩,λ_ _ _ n _=>n,λb f q _=>⟨f,k b f q⟩,λ_ _ q=>q,λ_ _ _ q=>q,λ_ g q=>⟨#[],by rw[q];simp⟩⟩
def Un.refl:Un fs ex H H h h:=Un.kept λ_ _ q=>q
def Un.laid (k:∀b u,h.get? b=some u->h'.get? b=some u) (hp:h.objs.size<=a) (hn:H a=none):Un fs ex H (upd H a o) h h' where
 keep:=λb u q _ _ _=>k b u q
 slot:=λb u q _ _ _=>⟨u.slots,k b u q⟩
 free:=λb u q n _=>by rw[Xw (Qj<|Qn (WW q) hp)];exact n
 there:=λb u q _=>⟨u,k b u q⟩
 tups:=λb xs q=>by rw[Xw (K7 q hn)];exact q
 frzs:=λb u xs q=>by rw[Xw (K7 q hn)];exact q
 tbls:=λb ps q=>⟨#[],by rw[Xw (K7 q hn),q];simp⟩
def Un.write (f:Mut (H x)) (v:e=x\/H e=some (.own x)) (k:∀b u,b≠e->h.get? b=some u->h'.get? b=some u) (s:∃u,h'.get? e=some u):Un fs ex H (upd H x o) h h':=by
 have hx:∀b,H b=none->b≠x:=λb n z=>by subst z;rw[n]at f;exact f
 have l:∀b,H b=none->b≠e:=λb n z=>by
  rcases v with r|r
  ·grind
  ·grind
 have g:∀b u,H b=some u->¬Mut (some u)->b≠x:=λb u q p z=>by subst z;rw[q]at f;exact p f
 refine⟨λb u q n _ _=>k b u (l b n) q,λb u q n _ _=>⟨u.slots,k b u (l b n) q⟩,λb u q n _=>by rw[Xw (hx b n)];exact n,λb u q _=>?_,
  λb xs q=>by rw[Xw (g b _ q λz=>z)];exact q,λb u xs q=>by rw[Xw (g b _ q λz=>z)];exact q,λb y q=>⟨#[],by rw[Xw (g b _ q λz=>z),q];simp⟩⟩
 by_cases w:b=e
 ·grind
 ·grind
end
noncomputable def trk(h:Heap)(H:Hp):List Addr:=(List.range h.objs.size).filter λa=>(H a).isSome
noncomputable def Nz(h:Heap)(H:Hp):Heap:=PySem.W.hideAll h (trk h H)
def Zov(h:Heap)(H:Hp):(Nz h H).objs.size=h.objs.size:=PySem.W.hideAll_size _ _
def Zed{H b o}(e:h.get? b=some o)(n:H b=none):(Nz h H).get? b=some o:=
 PySem.W.hideAll_get _ e λf=>by
  have q:=(Qv.mp f).2
  grind
def Zei(e:(Nz h H).get? b=some o):h.get? b=some o/\H b=none:=by
 have f:=PySem.W.of_hideAll (trk h H) e;refine⟨f,?_⟩;cases q:H b with
 |none=>rfl
 |some x=>
  have g:b∈trk h H:=Qv.mpr ⟨Jg.mpr (WW f),by simp[q]⟩;have z:(Nz h H).get? b=none:=PySem.W.hideAll_none (trk h H) g
  grind
noncomputable def Zoc(g h:Heap)(L:Addr):Yf:=(List.range h.objs.size).filterMap λa=>if a=L\/(g.get? a).isSome=true then none else(h.get? a).map λo=>(a,o)
noncomputable def rest(g h:Heap)(L d:Addr):Yf:=(Zoc g h L).filter λp=>decide (p.1≠d)
structure Mod (K:Yc) (mg:Yg) (base:Heap):Prop where
 kin:K.In base
 glob:base.Ns mainGlobals mg
 blt:∃mb,base.Ns builtinsNs mb/\∀x:Str,x≠"__name__"->mb x=bootBuiltins x
 nolimit:base.NoLimit
structure Cx where
 prog:Program
 w:World
 K:Yc
 mg:Yg
 base:Heap
 A:Around
 N:Yl
 s₀:Shared
 H₀:Hp
 env:Env
 outer:List Env
 stack:List Env
 ex:List Addr
 fn:Str->Bool
 calm:Bool
 pn:Yf
 xe:Yh
noncomputable def frs(l:List Env):List Addr:=l.filterMap (·.frame)
noncomputable abbrev Cx.fs (X:Cx):List Addr:=frs X.outer
def Vis(f:Scope)(x:Str):Prop:=f.names.lookup x=some .local\/f.names.lookup x=some .cell\/f.names.lookup x=some .free
def Loc(f:Scope)(x:Str):Prop:=f.names.lookup x=some .local\/f.names.lookup x=some .cell
def Look(env:Env)(h:Heap)(m:Yg)(x:Str)(u:Value):Prop:=
 (env.kindOf x=some .local/\m x=some u)\/((env.kindOf x=some .cell\/env.kindOf x=some .free)/\∃c,env.cells.lookup x=some c/\h.IsCell c (some u))
structure Cx.Ok (X:Cx):Prop where
 mod:Mod X.K X.mg X.base
 kind:X.env.scope.kind=.function
 glob:X.env.globals=mainGlobals
 blt:X.env.builtins=builtinsNs
 above:X.s₀.heap.objs.size<=X.env.locals
 inj:∀x y c,X.env.cells.lookup x=some c->X.env.cells.lookup y=some c->x=y
 has:∀x,(X.env.kindOf x=some .cell\/X.env.kindOf x=some .free)->∃c,X.env.cells.lookup x=some c
 cab:∀x c,X.fn x=true->X.env.cells.lookup x=some c->X.s₀.heap.objs.size<=c
 hd:X.calm=true->X.A.handled=none
 frames:X.A.frames=some X.stack
 stk:X.stack=X.outer\/(X.stack=X.env::X.outer/\X.env.frame=some X.env.locals)
 exf:∀b∈X.ex,b≠X.env.locals/\∀x c,X.env.cells.lookup x=some c->c≠b
 bs:∀b o,X.base.get? b=some o->X.s₀.heap.get? b=some o/\X.H₀ b=none
 bsz:X.base.objs.size<=X.s₀.heap.objs.size
 noex:∀b o,X.base.get? b=some o->b∉X.ex
 exfs:∀b∈X.ex,b∉X.fs
 funs:X.s₀.heap.FunFrames X.base X.outer
 frf:∀b∈X.fs,X.H₀ b=none
structure Inv (X:Cx) (pins:Yf) (σ:List (Option V)) (H:Hp) (s:Shared):Prop where
 ok:X.Ok
 os:s.os=X.s₀.os
 bare:AllBare s.gens
 base:Un X.fs X.ex X.H₀ H X.s₀.heap s.heap
 loc:∃m,s.heap.Ns X.env.locals m/\∀(i:Nat) (x:Str) (v:V),X.N[i]?=some x->σ[i]?=some (some v)->Vis X.env.scope x->∃u,RelV v u/\Look X.env s.heap m x u
 cell:∀x c,X.env.cells.lookup x=some c->∃v,s.heap.IsCell c v
 free:H X.env.locals=none
 freeC:∀x c,X.env.cells.lookup x=some c->H c=none
 pin:∀p∈X.pn++pins,s.heap.get? p.1=some p.2/\H p.1=none/\p.1≠X.env.locals/\p.1∉X.fs/\∀v,p.2.data≠.cell v
 hok:HOk X.prog X.w H s.heap
 len:σ.length=X.N.length
section
variable {X:Cx}{pins:Yf}{σ:List (Option V)}{H H':Hp}{s:Shared}{h':Heap}
def Cx.Ok.nofr (ok:X.Ok) {b o} (e:X.base.get? b=some o):b∉X.fs:=λf=>by
 have:=(ok.funs.mem f).1
 grind
def Inv.bs (I:Inv X pins σ H s):∀b o,X.base.get? b=some o->s.heap.get? b=some o/\H b=none:=λb o e=>
 ⟨I.base.keep b o (I.ok.bs b o e).1 (I.ok.bs b o e).2 (I.ok.nofr e) (I.ok.noex b o e),I.base.free b o (I.ok.bs b o e).1 (I.ok.bs b o e).2 (I.ok.noex b o e)⟩
def Inv.bk (I:Inv X pins σ H s):∀b o,X.base.get? b=some o->s.heap.get? b=some o:=λb o e=>(I.bs b o e).1
def Inv.mod (I:Inv X pins σ H s):Mod X.K X.mg X.base:=I.ok.mod
def Inv.kIn (I:Inv X pins σ H s):X.K.In s.heap:=I.ok.mod.kin.keeps I.bk
def Inv.lt (I:Inv X pins σ H s):X.env.locals<s.heap.objs.size:=let ⟨_,f,_⟩:=I.loc;f.lt
def Inv.sz (I:Inv X pins σ H s):X.s₀.heap.objs.size<=s.heap.objs.size:=WV I.ok.above (VX I.lt)
def Inv.nofs (I:Inv X pins σ H s) {a:Addr} (h:s.heap.objs.size<=a):a∉X.fs:=λg=>by
 obtain⟨_,o,f,_⟩:=I.ok.funs.mem g;exact absurd (Qn (WW f)<|WV I.sz h) (QT _)
def Inv.cne (I:Inv X pins σ H s):∀x c,X.env.cells.lookup x=some c->c≠X.env.locals:=λx c e z=>by
 obtain⟨v,o,l,hd⟩:=I.cell x c e;obtain⟨m,⟨h,n,p,f,g,_⟩,_⟩:=I.loc
 grind
def Inv.funs (I:Inv X pins σ H s):s.heap.FunFrames X.base X.outer:=by
 have all:∀l,(∀b∈frs l,b∈X.fs)->X.s₀.heap.FunFrames X.base l->s.heap.FunFrames X.base l:=by
  intro l
  induction l with
  |nil=>intro _ _;trivial
  |cons A r p=>
   intro n x;obtain⟨y,⟨L,o,f,w,v,hd⟩,u⟩:=x;have h:=n L (by unfold frs;rw[QW,f];exact Qy);obtain⟨sl,e⟩:=I.base.slot L o v (I.ok.frf L h) h λz=>I.ok.exfs L z h;exact⟨y,⟨L,_,f,w,e,hd⟩,p (λb g=>n b (by unfold frs;rw[QW,f];exact Qf _ g)) u⟩
 exact all X.outer (λ_ g=>g) I.ok.funs
def Inv.stack (I:Inv X pins σ H s):s.heap.FunFrames X.base X.stack:=by
 rcases I.ok.stk with e|⟨e,g⟩
 ·rw[e];exact I.funs
 ·rw[e];obtain⟨m,f,_⟩:=I.loc;refine .cons (by rw[I.ok.kind];decide) g f ?_ I.funs;exact V5 (WV I.ok.bsz I.ok.above)
def Inv.stkSub (I:Inv X pins σ H s):∀b∈frs X.stack,b∈X.env.locals::X.fs:=λb f=>by
 rcases I.ok.stk with e|⟨e,g⟩
 ·grind
 ·rw[e]at f;unfold frs at f;rw[QW,g]at f;trivial
def Inv.stkFree (I:Inv X pins σ H s):∀b∈frs X.stack,H b=none:=λb f=>by
 rcases WU.mp (I.stkSub b f)with e|f
 ·rw[e];exact I.free
 ·obtain⟨_,o,g,_⟩:=I.ok.funs.mem f;exact I.base.free b o g (I.ok.frf b f) λz=>I.ok.exfs b z f
def Inv.step {d'}{ch:List Addr} (I:Inv X pins σ H s)
  (g:∀b∈ch,(b∈X.ex\/X.s₀.heap.objs.size<=b)/\b≠X.env.locals/\(∀x c,X.env.cells.lookup x=some c->c≠b)/\∀p∈X.pn++pins,p.1≠b)
  (keep:∀b o,b≠X.env.locals->b∉X.fs->b∉ch->s.heap.get? b=some o->H b=none->h'.get? b=some o)
  (slot:∀b o,b≠X.env.locals->b∈X.fs->b∉ch->s.heap.get? b=some o->H b=none->∃sl,h'.get? b=some {o with slots:=sl}) (free:∀b o,b∉ch->s.heap.get? b=some o->H b=none->H' b=none)
  (there:∀b o,b∉ch->s.heap.get? b=some o->∃o',h'.get? b=some o')
  (tups:∀b xs,H b=some (.tup xs)->H' b=some (.tup xs)) (frzs:∀b o u,H b=some (.frz o u)->H' b=some (.frz o u)) (tbls:∀b ps,H b=some (.tbl ps)->∃more,H' b=some (.tbl (ps++more)))
  (ns:∀m,s.heap.Ns X.env.locals m->h'.Ns X.env.locals m) (J:HOk X.prog X.w H' h') (Y:AllBare g') :
  Inv X pins σ H' {s with heap:=h',gens:=g',drawn:=d',toks:=t'}:=by
 have B:∀b o,X.s₀.heap.get? b=some o->b≠X.env.locals:=λb o e=>Qj (Qn (WW e) I.ok.above)
 have f:∀b o,X.s₀.heap.get? b=some o->b∉X.ex->b∉ch:=λb o e hx y=>by
  rcases(g b y).1 with z|z
  ·exact hx z
  ·exact absurd (Qn (WW e) z) (QT _)
 have cellK:∀x c,X.env.cells.lookup x=some c->∀v,s.heap.IsCell c v->h'.IsCell c v:=λx c e v ⟨o,A,hd⟩=>by
  have C:=λz=>(g c z).2.2.1 x c e rfl;by_cases L:c∈X.fs
  ·obtain⟨sl,q⟩:=slot c o (I.cne x c e) L C A (I.freeC x c e);exact⟨_,q,hd⟩
  ·exact⟨o,keep c o (I.cne x c e) L C A (I.freeC x c e),hd⟩
 refine⟨I.ok,I.os,Y,⟨λb o e n y hx=>?_,λb o e n y hx=>?_,λb o e n hx=>?_,λb o e hx=>?_,λb xs e=>tups b xs (I.base.tups b xs e),λb o xs e=>frzs b o xs (I.base.frzs b o xs e),λb ps e=>?_⟩,?_,λx c e=>?_,?_,λx c e=>?_,λp Q=>?_,J,I.len⟩
 ·exact keep b o (B b o e) y (f b o e hx) (I.base.keep b o e n y hx) (I.base.free b o e n hx)
 ·obtain⟨sl,h⟩:=I.base.slot b o e n y hx;obtain⟨G,E⟩:=slot b _ (B b o e) y (f b o e hx) h (I.base.free b o e n hx);exact⟨G,E⟩
 ·obtain⟨o',h⟩:=I.base.there b o e hx;exact free b o' (f b o e hx) h (I.base.free b o e n hx)
 ·obtain⟨o',h⟩:=I.base.there b o e hx;exact there b o' (f b o e hx) h
 ·obtain⟨N,h⟩:=I.base.tbls b ps e;obtain⟨M,E⟩:=tbls b _ h;exact⟨N++M,by rw[E,Array.append_assoc]⟩
 ·obtain⟨m,T,U⟩:=I.loc;refine⟨m,ns m T,λi x v h E e3=>?_⟩;obtain⟨u,r,l⟩:=U i x v h E e3;refine⟨u,r,?_⟩;rcases l with l|⟨k,c,e,z⟩
  ·exact .inl l
  ·exact .inr ⟨k,c,e,cellK x c e _ z⟩
 ·obtain⟨v,z⟩:=I.cell x c e;exact⟨v,cellK x c e v z⟩
 ·obtain⟨m,⟨o,_,_,A,_⟩,_⟩:=I.loc;exact free _ o (λz=>(g _ z).2.1 rfl) A I.free
 ·obtain⟨v,o,A,hd⟩:=I.cell x c e;exact free c o (λz=>(g c z).2.2.1 x c e rfl) A (I.freeC x c e)
 ·obtain⟨e,n,ne,nf,d⟩:=I.pin p Q
  grind
def Inv.un (I:Inv X pins σ H s) (u:Un X.fs [] H H' s.heap h') (g:HOk X.prog X.w H' h'):Inv X pins σ H' {s with heap:=h',toks:=t'}:=by
 obtain⟨m,⟨o,E,G,v,r⟩,_⟩:=id I.loc;obtain⟨sl,A⟩:=u.any v I.free (by simp)
 exact I.step (ch:=[]) (λ_ z=>nomatch z) (λb o _ h _ e n=>u.keep b o e n h (by simp)) (λb o _ h _ e n=>u.slot b o e n h (by simp)) (λb o _ e n=>u.free b o e n (by simp)) (λb o _ e=>u.there b o e (by simp)) u.tups u.frzs u.tbls (λC y=>by
  obtain⟨B,l,p,f,x⟩:=y;rw[v]at f;cases f;exact⟨_,l,p,A,x⟩) g I.bare
def Inv.call {d'}{ch} (I:Inv X pins σ H s) (u:Un (frs X.stack) ch H H' s.heap h') (l:HOk X.prog X.w H' h') (G:AllBare L)
  (h:∀b∈ch,(b∈X.ex\/X.s₀.heap.objs.size<=b)/\b≠X.env.locals/\(∀x c,X.env.cells.lookup x=some c->c≠b)/\∀p∈X.pn++pins,p.1≠b) :
  Inv X pins σ H' {s with heap:=h',gens:=L,drawn:=d',toks:=t'}:=by
 obtain⟨m,⟨o,Q,T,B,r⟩,_⟩:=id I.loc;obtain⟨sl,v⟩:=u.any B I.free λz=>(h _ z).2.1 rfl
 exact I.step h (λb o v J f e n=>u.keep b o e n (λz=>(WU.mp<|I.stkSub b z).elim v J) f) (λb o _ _ f e n=>u.any e n f) (λb o f e n=>u.free b o e n f) (λb o f e=>u.there b o e f) u.tups u.frzs u.tbls (λN E=>by
  obtain⟨M,y,A,g,C⟩:=E;rw[B]at g;cases g;exact⟨_,y,A,v,C⟩) l G
def Inv.turned {it} (I:Inv X pins σ H s) (k:∀b o,b≠it->s.heap.get? b=some o->h'.get? b=some o) (B:H it=none) (l:it≠X.env.locals)
  (J:it∈X.ex\/X.s₀.heap.objs.size<=it) (G:∀x c,X.env.cells.lookup x=some c->c≠it) (E:∀p∈X.pn++pins,p.1≠it):Inv X pins σ H {s with heap:=h',toks:=t'}:=by
 refine I.step (ch:=[it]) (λb C=>?_) (λb o _ _ f e _=>k b o (λz=>f (by simp[z])) e) (λb o _ _ f e _=>⟨o.slots,k b o (λz=>f (by simp[z])) e⟩) (λ_ _ _ _ n=>n)
  (λb o f e=>⟨o,k b o (λz=>f (by simp[z])) e⟩) (λ_ _ e=>e) (λ_ _ _ e=>e) (λb A e=>⟨#[],by rw[e];simp⟩) (λm h=>?_) (λb u e=>?_) I.bare
 ·grind
 ·obtain⟨o,w,y,g,r⟩:=h;exact⟨o,w,y,k _ o (Ne.symm l) g,r⟩
 ·refine(I.hok b u e).stay (λc v f q=>k c v ?_ q) (λ_ q=>q) λ_ _ q=>q;rcases f with z|z
  ·grind
  ·grind
def Inv.tok (I:Inv X pins σ H s) (t:Nat):Inv X pins σ H {s with toks:=t}:=I.un Un.refl I.hok
def Inv.kept (I:Inv X pins σ H s) (k:∀b u,s.heap.get? b=some u->h'.get? b=some u):Inv X pins σ H {s with heap:=h',toks:=t'}:=I.un (Un.kept k) (I.hok.kept k)
def Inv.laid {a:Addr}{o}{t'} (I:Inv X pins σ H s) (k:∀b u,s.heap.get? b=some u->h'.get? b=some u) (f:s.heap.objs.size<=a) (new:ObjOk X.prog X.w (upd H a o) h' a o) :
  Inv X pins σ (upd H a o) {s with heap:=h',toks:=t'}:=I.un (Un.laid k f<|I.hok.fresh f) (I.hok.laid k f new)
def Inv.write (I:Inv X pins σ H s) (g:Mut (H x)) (h:e=x\/H e=some (.own x)) (k:∀b u,b≠e->s.heap.get? b=some u->h'.get? b=some u) (f:∃u,h'.get? e=some u)
  (new:ObjOk X.prog X.w (upd H x o) h' x o):Inv X pins σ (upd H x o) {s with heap:=h',toks:=t'}:=I.un (Un.write g h k f) (I.hok.write g h k f new)
def Inv.weak (I:Inv X pins σ H s) (l:f.length=σ.length) (w:∀(i:Nat) v,f[i]?=some (some v)->σ[i]?=some (some v)):Inv X pins f H s:=
 ⟨I.ok,I.os,I.bare,I.base,let ⟨m,h,g⟩:=I.loc;⟨m,h,λi x v p o n=>g i x v p (w i v o) n⟩,I.cell,I.free,I.freeC,I.pin,I.hok,l.trans I.len⟩
def Inv.pins_of (I:Inv X pins σ H s) (h:∀p∈pins',s.heap.get? p.1=some p.2/\H p.1=none/\p.1≠X.env.locals/\p.1∉X.fs/\∀v,p.2.data≠.cell v):Inv X pins' σ H s:=
 ⟨I.ok,I.os,I.bare,I.base,I.loc,I.cell,I.free,I.freeC,λp f=>(Qc.mp f).elim (λz=>I.pin p (QR _ z)) (h p),I.hok,I.len⟩
def DP{N:Yl}(f:N.Nodup){i j:Nat}{x}(a:N[i]?=some x)(b:N[j]?=some x):i=j:=by
 obtain⟨n,h⟩:=Qd.mp a;obtain⟨l,g⟩:=Qd.mp b;exact(List.getElem_inj f).mp (h.trans g.symm)
def Zmm{i x v u Q}(I:Inv X pins σ H s)(hN:X.N.Nodup)(hi:X.N[i]?=some x)(hx:Loc X.env.scope x)(r:RelV v u)(h:∀s',Inv X pins (σ.set i<|some v) H s'->(∃a,Heap.SameBut a s.heap s'.heap/\(a=X.env.locals\/X.env.cells.lookup x=some a))->Q () s')(hf:autoParam (X.fn x=true\/X.env.scope.names.lookup x=some .local) au_2):wpAny M A (storeName X.env x u) Q E s:=by
 obtain⟨m,hn,hl⟩:=id I.loc;have hcls:(X.env.scope.kind == .class || (X.env.scope.kind == .module&&X.env.locals != X.env.globals))=false:=by rw[I.ok.kind];rfl
 have J:i<σ.length:=by rw[I.len];exact(Qd.mp hi).1
 have cne:=I.cne
 have tracked:∀{a:Addr} {h':Heap},(∃o,s.heap.get? a=some o/\H a=none)->Heap.SameBut a s.heap h'->HOk X.prog X.w H h':=λ{a h'} ha f b ob e=>by
  obtain⟨_,_,B⟩:=ha;refine(I.hok b ob e).stay (λc w' l q=>(f.2 c ?_).trans q) (λ_ q=>q) λ_ _ q=>q;rintro rfl;rcases l with rfl|l
  ·rw[B]at e;cases e
  ·rw[B]at l;cases l
 rcases hx with G|G
 ·refine wpAny_storeName_local G hn (λh' hn' f=>?_) hcls;obtain⟨oL,_,_,hoL,_⟩:=id hn;refine h _ ⟨I.ok,I.os,I.bare,⟨λb o e n U hx=>?_,λb o e n U hx=>?_,I.base.free,λb o e hx=>?_,I.base.tups,I.base.frzs,I.base.tbls⟩,⟨_,hn',λj y v' g C e3=>?_⟩,λy c e=>?_,I.free,I.freeC,λp hp=>?_,tracked ⟨oL,hoL,I.free⟩ f,by simpa using I.len⟩ ⟨_,f,.inl rfl⟩
  ·exact(f.2 b<|Qj<|Qn (WW e) I.ok.above).trans (I.base.keep b o e n U hx)
  ·obtain⟨sl,g⟩:=I.base.slot b o e n U hx;exact⟨sl,(f.2 b<|Qj<|Qn (WW e) I.ok.above).trans g⟩
  ·obtain⟨o',g⟩:=I.base.there b o e hx;exact⟨o',(f.2 b<|Qj<|Qn (WW e) I.ok.above).trans g⟩
  ·by_cases L:j=i
   ·subst L;rw[hi]at g;cases g;rw[List.getElem?_set_self J]at C;cases C
    exact⟨u,r,.inl ⟨G,by simp⟩⟩
   ·rw[J7 (Ne.symm L)]at C;obtain⟨u',r',q⟩:=hl j y v' g C e3;refine⟨u',r',?_⟩;rcases q with⟨k,e⟩|⟨k,c,e,z⟩
    ·refine .inl ⟨k,?_⟩
     have:y≠x:=λe=>L (DP hN g (e▸hi))
     simp[this,e]
    ·exact .inr ⟨k,c,e,z.sameBut f (cne y c e)⟩
  ·obtain⟨w',z⟩:=I.cell y c e;exact⟨w',z.sameBut f (cne y c e)⟩
  ·obtain⟨e,n,ne,nf,d⟩:=I.pin p hp;exact⟨(f.2 p.1 ne).trans e,n,ne,nf,d⟩
 ·have T:X.fn x=true:=by
   rcases hf with z|z
   ·exact z
   ·rw[z]at G;cases G
  obtain⟨c,l⟩:=I.ok.has x (.inl G);obtain⟨w',z⟩:=I.cell x c l;refine wpAny_storeName_cell I.ok.kind G l z (λh' hc' f=>?_);obtain⟨oc,hoc,Y⟩:=id z;refine h {s with heap:=h'} ⟨I.ok,I.os,I.bare,⟨λb o e n U hx=>?_,λb o e n U hx=>?_,I.base.free,λb o e hx=>?_,I.base.tups,I.base.frzs,I.base.tbls⟩,⟨m,hn.sameBut f (Ne.symm<|cne x c l),λj y v' g C e3=>?_⟩,λy c' e=>?_,I.free,I.freeC,λp hp=>?_,tracked ⟨oc,hoc,I.freeC x c l⟩ f,by simpa using I.len⟩ ⟨c,f,.inr l⟩
  ·exact(f.2 b<|Qj<|Qn (WW e)<|I.ok.cab x c T l).trans (I.base.keep b o e n U hx)
  ·obtain⟨sl,g⟩:=I.base.slot b o e n U hx;exact⟨sl,(f.2 b<|Qj<|Qn (WW e)<|I.ok.cab x c T l).trans g⟩
  ·obtain⟨o',g⟩:=I.base.there b o e hx;exact⟨o',(f.2 b<|Qj<|Qn (WW e)<|I.ok.cab x c T l).trans g⟩
  ·by_cases L:j=i
   ·subst L;rw[hi]at g;cases g;rw[List.getElem?_set_self J]at C;cases C
    exact⟨u,r,.inr ⟨.inl G,c,l,hc'⟩⟩
   ·rw[J7 (Ne.symm L)]at C;obtain⟨u',r',q⟩:=hl j y v' g C e3;refine⟨u',r',?_⟩;rcases q with q|⟨k,c',e,z'⟩
    ·exact .inl q
    ·refine .inr ⟨k,c',e,z'.sameBut f ?_⟩;rintro rfl;exact L (DP hN g (I.ok.inj _ _ _ e l▸hi))
  ·by_cases hcc:c'=c
   ·subst hcc;exact⟨_,hc'⟩
   ·obtain⟨w2,z2⟩:=I.cell y c' e;exact⟨w2,z2.sameBut f hcc⟩
  ·obtain⟨e,n,ne,nf,d⟩:=I.pin p hp;refine⟨(f.2 p.1 ?_).trans e,n,ne,nf,d⟩;intro q;rw[q,hoc]at e;exact d w' (by rw[←(WY e)];exact Y)
def BQ{i x v u Q}(I:Inv X pins σ H s)(n:X.N.Nodup)(g:X.N[i]?=some x)(hx:Loc X.env.scope x)(r:RelV v u)(h:∀f,Inv X pins (σ.set i<|some v) H f->Q () f)(l:autoParam (X.fn x=true\/X.env.scope.names.lookup x=some .local) au_2):wpAny M A (storeName X.env x u) Q E s:=
 Zmm I n g hx r (λf o _=>h f o) l
def Inv.call' {ch} (I:Inv X pins σ H s) (l:f.os=s.os) (u:Un (frs X.stack) ch H H' s.heap f.heap) (g:HOk X.prog X.w H' f.heap) (n:AllBare f.gens)
  (h:∀b∈ch,(b∈X.ex\/X.s₀.heap.objs.size<=b)/\b≠X.env.locals/\(∀x c,X.env.cells.lookup x=some c->c≠b)/\∀p∈X.pn++pins,p.1≠b):Inv X pins σ H' f:=by
 obtain⟨h',v,y,o,r⟩:=f;subst l;exact I.call u g n h
end
abbrev XK:=Value->Yp->Hp->Prop
abbrev St:=List (Option V)
abbrev VK:=V->Hp->Prop
abbrev TE:=St->Hp->VK->Prop
abbrev TT:=St->Hp->(Bool->Hp->Prop)->Prop
abbrev TA:=St->Hp->(List V->Hp->Prop)->Prop
structure Ends where
 nx:St->Hp->Prop
 rt:VK
 bk:St->Hp->Prop:=λ_ _=>False
 ct:St->Hp->Prop:=λ_ _=>False
abbrev TS:=Ends->St->Hp->Prop
def EP(X:Cx)(pins:Yf)(g:St)(Q:VK)(u:Value)(h:Shared):Prop:=∃v f,Inv X pins g f h/\RelV v u/\Q v f
def TP(X:Cx)(pins:Yf)(g:St)(Q:Bool->Hp->Prop)(b:Bool)(h:Shared):Prop:=∃f,Inv X pins g f h/\Q b f
def AP(X:Cx)(pins:Yf)(h:St)(Q:List V->Hp->Prop)(us:Yk)(l:Shared):Prop:=∃f g,Inv X pins h g l/\Vals f us/\Q f g
def SP(X:Cx)(pins:Yf)(D:Ends)(f:Flow)(l:Shared):Prop:=
 match f with
 | .next=>∃g h,Inv X pins g h l/\D.nx g h
 | .brk=>∃g h,Inv X pins g h l/\D.bk g h
 | .cont=>∃g h,Inv X pins g h l/\D.ct g h
 | .ret u=>∃v g h,Inv X pins g h l/\RelV v u/\D.rt v h
def PE(X:Cx)(e:Expr)(t:TE):Prop:=
 ∀(pins:Yf) (s:Shared) (f:St) (H:Hp) (Q:VK),Inv X pins f H s->t f H Q->wpAny (model X.prog X.w) X.A (eval e X.env) (EP X pins f Q) X.xe s
def PT(X:Cx)(e:Expr)(t:TT):Prop:=
 ∀(pins:Yf) (s:Shared) (f:St) (H:Hp) (Q:Bool->Hp->Prop),Inv X pins f H s->t f H Q->wpAny (model X.prog X.w) X.A (isTrue e X.env<|eval e X.env) (TP X pins f Q) X.xe s
def PW(X:Cx)(e:Expr)(t:TT):Prop:=
 ∀(whole:Sem Value) (pins:Yf) (s:Shared) (f:St) (H:Hp) (Q:Bool->Hp->Prop),Inv X pins f H s->t f H Q->wpAny (model X.prog X.w) X.A (isTrue e X.env whole) (TP X pins f Q) X.xe s
def PW.pt (h:PW X e t):PT X e t:=h _
def PA(X:Cx)(es:Ym)(t:TA):Prop:=
 ∀(pos:Pos) (pins:Yf) (s:Shared) (f:St) (H:Hp) (Q:List V->Hp->Prop),Inv X pins f H s->t f H Q->wpAny (model X.prog X.w) X.A (spliced<|backTo pos<|starEach es X.env) (AP X pins f Q) X.xe s
def PS(X:Cx)(st:Stmt)(t:TS):Prop:=
 ∀(pins:Yf) (s:Shared) (f:St) (H:Hp) (D:Ends),Inv X pins f H s->t D f H->wpAny (model X.prog X.w) X.A (exec st X.env) (SP X pins D) X.xe s
def PSs(X:Cx)(st:Yn)(t:TS):Prop:=
 ∀(pins:Yf) (s:Shared) (f:St) (H:Hp) (D:Ends),Inv X pins f H s->t D f H->wpAny (model X.prog X.w) X.A (execs st X.env) (SP X pins D) X.xe s
def thn{M A E s}(h:wpAny M A t Q E s)(f:∀a s,Q a s->g a s):wpAny M A t g E s:=Qz h f λ_ _ x=>x
section
variable {X:Cx}
def bin{B z}(J:PE X a B)(G:PE X b z){pins}{s}{g:St}{H}{R:V->V->Hp->Prop}(I:Inv X pins g H s)(h:B g H λx r=>z g r λy o=>R x y o){α}{Q}{f:Value->Value->Sem α}(U:∀v u p x y o,Inv X pins g o p->RelV x v->RelV y u->R x y o->wpAny (model X.prog X.w) X.A (f v u) Q X.xe p) :
  wpAny (model X.prog X.w) X.A (eval a X.env) (λv n=>wpAny (model X.prog X.w) X.A (eval b X.env) (λu l=>wpAny (model X.prog X.w) X.A (f v u) Q X.xe l) X.xe n) X.xe s:=by
 refine thn (J pins s g H _ I h) λv C ⟨x,r,L,N,E⟩=>?_;refine thn (G pins C g r _ L E) λu p ⟨y,o,Y,M,T⟩=>?_
 grind
noncomputable def K5(i:Nat):TE:=λf H Q=>∃v,f[i]?=some (some v)/\Q v H
noncomputable def tC(v:V):TE:=λ_ H Q=>Q v H
def Znn{pos}(C:X.N[i]?=some x)(y:Vis X.env.scope x)(hd:autoParam ((x==("__debug__" : Str))=false) au_1)(o:autoParam ((x==("__classdict__" : Str))=false) au_1):PE X (.Name x pos) (K5 i):=by
 intro pins s w H Q I h;obtain⟨v,e,h⟩:=h;obtain⟨m,z,B⟩:=I.loc;obtain⟨u,r,l⟩:=B i x v C e y;have n:EP X pins w Q u s:=⟨v,H,I,r,h⟩;rcases l with⟨g,A⟩|⟨g,c,p,f⟩
 ·exact wpAny_Name (wpAny_loadName_local I.ok.kind g z A n) hd
 ·rcases g with g|g
  ·exact wpAny_Name (wpAny_loadName_cell I.ok.kind g p f n) hd
  ·exact wpAny_Name (wpAny_loadName_free I.ok.kind g p f n o) hd
def X5:PE X (.Constant (.int i) j pos) (tC<|.int i):=λ_ _ _ H _ I h=>wpAny_Constant_int ⟨.int i,H,I.tok _,⟨_,rfl⟩,h⟩
def Nu:PE X (.Constant (.bool b) j pos) (tC<|.bl b):=λ_ _ _ H _ I h=>Constant_bool ⟨.bl b,H,I,rfl,h⟩
def NS:PE X (.Constant (.str x) j pos) (tC<|.str x):=λ_ _ _ H _ I h=>Calls.Constant_str ⟨.str x,H,I.tok _,⟨_,rfl⟩,h⟩
def Gl(X:Cx)(x:Str):Prop:=X.env.kindOf x=some .globalImplicit
def Sz{pins}{s}{f:St}{H}{x}{u}{pos}{Q}(I:Inv X pins f H s)(l:Gl X x)(g:X.mg x=some u)(h:Q u s)(hd:autoParam ((x==("__debug__" : Str))=false) au_1):wpAny (model X.prog X.w) X.A (eval (.Name x pos) X.env) Q E s:=
 Calls.Name_function_global I.ok.kind l (Calls.loadGlobal_global (by rw[I.ok.glob];exact I.mod.glob.keeps I.bk) g h) hd
def BM{E}{pins}{s}{f:St}{H}{x}{u}{pos}{Q}(I:Inv X pins f H s)(o:Gl X x)(n:X.mg x=none)(g:bootBuiltins x=some u)(h:Q u s)(l:autoParam (x≠"__name__") au_1)(hd:autoParam ((x==("__debug__" : Str))=false) au_1):wpAny (model X.prog X.w) X.A (eval (.Name x pos) X.env) Q E s:=by
 obtain⟨v,r,p⟩:=I.mod.blt;exact Calls.Name_function_global I.ok.kind o (Calls.loadGlobal_builtin (by rw[I.ok.glob];exact I.mod.glob.keeps I.bk) n (by rw[I.ok.blt];exact r.keeps I.bk) ((p x l).trans g) h) hd
def Gz{u pos}(g:Gl X x)(f:X.mg x=some u)(r:RelV v u)(hd:autoParam ((x==("__debug__" : Str))=false) au_1):PE X (.Name x pos) (tC v):=
 λ_ _ _ H _ I h=>Sz I g f ⟨v,H,I,r,h⟩ hd
def T4{u pos}(n:Gl X x)(l:X.mg x=none)(f:bootBuiltins x=some u)(r:RelV v u)(g:autoParam (x≠"__name__") au_1)(hd:autoParam ((x==("__debug__" : Str))=false) au_1):PE X (.Name x pos) (tC v):=
 λ_ _ _ H _ I h=>BM I n l f ⟨v,H,I,r,h⟩ g hd
variable {a b:Expr}{ta tb:TE}{pos:Pos}
def PC(X:Cx)(l:CmpOp)(a b:Expr)(t:TE):Prop:=
 ∀(pins:Yf) (s:Shared) (h:St) (H:Hp) (Q:VK),Inv X pins h H s->t h H Q->
  wpAny (model X.prog X.w) X.A (eval a X.env) (λv g=>wpAny (model X.prog X.w) X.A (eval b X.env) (λu f=>wpAny (model X.prog X.w) X.A (compareOp l v u) (EP X pins h Q) X.xe f) X.xe g) X.xe s
def Zi2(b:Expr){op}(h:op≠.In)(l:op≠.NotIn):behindInMarks op b=false:=by
 have g:(op==CmpOp.In)=false:=by grind
 have f:(op==CmpOp.NotIn)=false:=by grind
 cases b<;>simp[behindInMarks,g,f]
noncomputable def tB(t:TE):TT:=λf H Q=>t f H λx g=>∃c,x=.bl c/\Q c g
def Zqo(h:PC X g a b t)(f:behindInMarks g b=false:=by first|exact Zi2 _ (by decide) (by decide)|rfl):PT X (.Compare a [g] [b] pos) (tB t):=by
 intro pins s l H Q I hw;refine wpAny_isTrue_Compare1 (thn (h pins s l H _ I hw) λv A f=>thn f λu z p=>thn p ?_) f;rintro c y ⟨x,w,r,n,o⟩;obtain⟨d,rfl,q⟩:=o;cases n
 exact V2 ⟨w,r,q⟩
variable {tA tB':TT}{rest:Ym}
noncomputable def GC(t u:TT):TT:=λf H Q=>t f H λc g=>if c=true then u f g Q else Q false g
noncomputable def tOr(t u:TT):TT:=λf H Q=>t f H λc g=>if c=true then Q true g else u f g Q
noncomputable def DG(t:TT):TT:=λf H Q=>t f H λc g=>Q (!c) g
def Zlg(g:PT X a tA):PW X (.BoolOp .And [a] pos) tA:=by
 intro l pins s f H Q I h;refine isTrue_and (thn (g pins s f H Q I h) λc n e=>?_);cases c with
 |true=>exact isTrue_and_nil e
 |false=>exact e
def MM(g:PT X a tA):PW X (.BoolOp .Or [a] pos) tA:=by
 intro l pins s f H Q I h;refine isTrue_or (thn (g pins s f H Q I h) λc n e=>?_);cases c with
 |false=>exact isTrue_or_nil e
 |true=>exact e
def Zcu(p:PT X a tA)(o:PW X (.BoolOp .And (b::rest) pos) tB'):PW X (.BoolOp .And (a::b::rest) pos) (GC tA tB'):=by
 intro g pins s f H Q I h;refine isTrue_and (thn (p pins s f H _ I h) λc l ⟨u,r,n⟩=>?_);cases c with
 |true=>exact o g pins l f u Q r n
 |false=>trivial
def Rv(p:PT X a tA)(o:PW X (.BoolOp .Or (b::rest) pos) tB'):PW X (.BoolOp .Or (a::b::rest) pos) (tOr tA tB'):=by
 intro g pins s f H Q I h;refine isTrue_or (thn (p pins s f H _ I h) λc l ⟨u,r,n⟩=>?_);cases c with
 |true=>trivial
 |false=>exact o g pins l f u Q r n
def AC(g:PT X a tA):PT X (.UnaryOp .Not a pos) (DG tA):=by
 intro pins s f H Q I h;exact isTrue_not (g pins s f H (λc l=>Q (!c) l) I h)
noncomputable def Df(ta tb:TE):TE:=λf H Q=>ta f H λx g=>∃c,x=.bl c/\if c=true then tb f g Q else Q (.bl false) g
noncomputable def OC(ta:TE):TE:=λf H Q=>ta f H λx g=>∃c,x=.bl c/\Q (.bl (!c)) g
def Sx{t}(h:PE X a t):PE X (.BoolOp f [a] pos) t:=by trivial
def SB(u:PE X a ta)(r:PE X (.BoolOp .And (b::rest) pos) tb):PE X (.BoolOp .And (a::b::rest) pos) (Df ta tb):=by
 intro pins s g H Q I h;refine BoolOp_and (thn (u pins s g H _ I h) ?_);rintro v o ⟨x,n,l,p,f⟩;obtain⟨c,rfl,f⟩:=f;cases p
 refine V2 ?_;cases c with
 |true=>exact r pins o g n Q l f
 |false=>exact⟨.bl false,n,l,rfl,f⟩
def OF(n:PE X a ta):PE X (.UnaryOp .Not a pos) (OC ta):=by
 intro pins s g H Q I h;refine UnaryOp_ (thn (n pins s g H _ I h) ?_);rintro v r ⟨x,p,o,l,f⟩;obtain⟨c,rfl,f⟩:=f;cases l
 exact not_of (V2 ⟨.bl (!c),p,o,rfl,f⟩)
end
def SqL(K:Yc)(H:Hp)(a:Addr)(xs:List V):Prop:=
 Rd H a (.lst xs)\/
  ∃(o:Obj) (f:Array Value) (n:Nat),K.lookup a=some o/\o.cls=.type "list"/\o.dict=none/\o.data=.seq f n/\f.size<=sizeLine/\Vals xs f.toList
def SqT(K:Yc)(H:Hp)(a:Addr)(xs:List V):Prop:=
 Rd H a (.tup xs)\/
  ∃(o:Obj) (f:Array Value) (n:Nat),K.lookup a=some o/\o.cls=.type "tuple"/\o.data=.seq f n/\f.size<=sizeLine/\Vals xs f.toList
noncomputable def Ziv:Value->Option V
 | .none=>some .non
 | .bool b=>some (.bl b)
 | .int i _=>some (.int i)
 | .str x _=>some (.str x)
 | .bytes b _=>some (.byt b)
 | .float b _=>some (.flt b)
 | .ref a=>some (.ref a)
 | .type n=>some (.ty n)
 |_=>none
def RelV.abs (r:RelV x u):Ziv u=some x:=by
 cases x with
 |non|bl _|ref _|ty _=>cases r;rfl
 |_=>obtain⟨t,rfl⟩:=r;rfl
def RelV.inj {u} (r:RelV x u) (q:RelV y u):x=y:=WY (r.abs.symm.trans q.abs)
def Vals.inj:∀{xs f}{us:Yk},Vals xs us->Vals f us->xs=f:=by
 intro p
 induction p with
 |nil=>
  intro _ _ h g;cases h
  cases g
  rfl
 |cons _ _ o=>
  intro _ _ h g;cases h with
  |cons h r=>
   cases g with
   |cons n l=>rw[h.inj n,o r l]
section
variable {X:Cx}{pins:Yf}{σ:St}{H:Hp}{s:Shared}{a:Addr}{xs ys:List V}
def SqL.of {K} (h:H a=some (.lst xs)):SqL K H a xs:=.inl (.inl h)
def SqT.of {K} (h:H a=some (.tup xs)):SqT K H a xs:=.inl (.inl h)
def Inv.list (I:Inv X pins σ H s) (h:SqL X.K H a xs):∃f,Vals xs f/\PlainL s.heap a f.toArray/\xs.length<=sizeLine:=by
 rcases h with h|⟨o,f,n,l,p,hd,g,u,r⟩
 ·obtain⟨z,f,n,r,e⟩:=h.ok I.hok;exact⟨f,r,⟨_,n,e,rfl,rfl,rfl⟩,z⟩
 ·refine⟨f.toList,r,⟨o,n,I.kIn a o l,p,hd,by simpa using g⟩,?_⟩;have e:=r.length
  grind
def Inv.tuple (I:Inv X pins σ H s) (h:SqT X.K H a xs):∃f,Vals xs f/\IsTup s.heap a f.toArray/\xs.length<=sizeLine:=by
 rcases h with h|⟨o,f,n,l,u,g,v,r⟩
 ·obtain⟨z,f,r,p⟩:=h.ok I.hok
  grind
 ·refine⟨f.toList,r,⟨o,I.kIn a o l,u,n,by simpa using g⟩,?_⟩;have e:=r.length
  grind
def Inv.list_inj (I:Inv X pins σ H s) (h:SqL X.K H a xs) (p:SqL X.K H a ys):xs=ys:=by
 obtain⟨g,r,⟨o,n,e,_,_,d⟩,_⟩:=I.list h;obtain⟨f,l,⟨u,v,w,_,_,x⟩,_⟩:=I.list p
 have:g=f:=by grind
 subst this;exact r.inj l
def Inv.tuple_inj (I:Inv X pins σ H s) (h:SqT X.K H a xs) (p:SqT X.K H a ys):xs=ys:=by
 obtain⟨g,r,⟨o,e,_,n,d⟩,_⟩:=I.tuple h;obtain⟨f,l,⟨u,w,_,v,x⟩,_⟩:=I.tuple p
 have:g=f:=by grind
 subst this;exact r.inj l
end
noncomputable abbrev Cx.wish (X:Cx) (E:Yh):Cx:={X with xe:=E}
noncomputable abbrev Cx.nox (X:Cx):Cx:=X.wish λ_ _=>False
def Cx.Ok.wish {X:Cx} (ok:X.Ok) (E:Yh):(X.wish E).Ok:=
 ⟨ok.mod,ok.kind,ok.glob,ok.blt,ok.above,ok.inj,ok.has,ok.cab,ok.hd,ok.frames,ok.stk,ok.exf,ok.bs,ok.bsz,ok.noex,ok.exfs,ok.funs,ok.frf⟩
def Cx.Ok.unwish {X:Cx}{E} (ok:(X.wish E).Ok):X.Ok:=
 ⟨ok.mod,ok.kind,ok.glob,ok.blt,ok.above,ok.inj,ok.has,ok.cab,ok.hd,ok.frames,ok.stk,ok.exf,ok.bs,ok.bsz,ok.noex,ok.exfs,ok.funs,ok.frf⟩
section
variable {X:Cx}{pins:Yf}{σ:St}{H:Hp}{s:Shared}{E:Yh}
def Inv.wish (I:Inv X pins σ H s) (E:Yh):Inv (X.wish E) pins σ H s:=⟨I.ok.wish E,I.os,I.bare,I.base,I.loc,I.cell,I.free,I.freeC,I.pin,I.hok,I.len⟩
def Inv.unwish (I:Inv (X.wish E) pins σ H s):Inv X pins σ H s:=⟨I.ok.unwish,I.os,I.bare,I.base,I.loc,I.cell,I.free,I.freeC,I.pin,I.hok,I.len⟩
def SP.unwish (h:SP (X.wish E) pins D f n):SP X pins D f n:=by
 cases f with
 |ret u=>obtain⟨v,g,l,I,r,q⟩:=h;exact⟨v,g,l,I.unwish,r,q⟩
 |_=>obtain⟨g,l,I,q⟩:=h;exact⟨g,l,I.unwish,q⟩
def PSs.nox {st t} (h:PSs X.nox st t):PSs X st t:=λpins s σ H D I hw=>
 Qz (h pins s σ H D (I.wish _) hw) (λ_ _ q=>q.unwish) λ_ _ z=>False.elim z
end
section
variable {X:Cx}{st:Stmt}{rest:Yn}{t u:TS}{e:Expr}{te:TE}{pos:Pos}
noncomputable def Gp:TS:=λD f H=>D.nx f H
noncomputable def Iw(t u:TS):TS:=λD f H=>t {D with nx:=u D} f H
def Ek:PSs X [] Gp:=λ_ _ f H _ I h=>J8 ⟨f,H,I,h⟩
def L7(p:PS X st t)(o:PSs X rest u):PSs X (st::rest) (Iw t u):=by
 intro pins s l H D I h;refine wpAny_execs_cons (thn (p pins s l H {D with nx:=u D} I h) λf n q=>?_)
 cases f with
 |next=>
  obtain⟨g,v,r,q⟩:=q;exact o pins n g v D r q
 |_=>exact q
def P9(l:PS X st t):PSs X [st] t:=by
 intro pins s g H D I h;refine wpAny_execs_cons (thn (l pins s g H D I h) λf n q=>?_);cases f with
 |next=>exact J8 q
 |_=>lia
def Inv.quiet {f:St}{H}{s} (I:Inv X pins f H s):interactive X.env=false:=by simp[interactive,I.ok.kind]
noncomputable def Fg(te:TE):TS:=λD f H=>te f H λ_ g=>D.nx f g
def Pn(l:PE X e te)(hs:autoParam (swapsWith e none pos.line X.env=pure false) au_0):PS X (.Expr e pos) (Fg te):=by
 intro pins s f H D I h;exact wpAny_Expr_any (thn (l pins s f H _ I h) λv p ⟨x,o,n,r,g⟩=>⟨f,o,n,g⟩) I.quiet hs
noncomputable def NV(te:TE):TS:=λD f H=>te f H D.rt
def Kp(n:PE X e te):PS X (.Return (some e) pos) (NV te):=by
 intro pins s f H D I h;exact wpAny_Return_some (thn (n pins s f H _ I h) λv r ⟨x,p,o,g,l⟩=>⟨x,f,p,o,g,l⟩)
noncomputable def D5(c:TT)(t u:TS):TS:=λD f H=>c f H λb g=>if b=true then t D f g else u D f g
def Da{tc}(p:PT X c tc)(v:PSs X a t)(r:PSs X b u):PS X (.If c a b pos) (D5 tc t u):=by
 intro pins s f H D I h;refine wpAny_If (thn (p pins s f H _ I h) ?_);rintro d g ⟨o,n,l⟩;cases d with
 |true=>exact v pins g f o D n l
 |false=>exact r pins g f o D n l
end
abbrev TG:=V->St->Hp->(St->Hp->Prop)->Prop
abbrev TGs:=List V->St->Hp->(St->Hp->Prop)->Prop
def PG(X:Cx)(target:Expr)(t:TG):Prop:=
 ∀(pins:Yf) (s:Shared) (g:St) (H:Hp) (v:V) (u:Value) (Q:St->Hp->Prop),Inv X pins g H s->RelV v u->t v g H Q->
  wpAny (model X.prog X.w) X.A (assign target X.env u) (λ_ l=>∃f h,Inv X pins f h l/\Q f h) X.xe s
def PGs(X:Cx)(o:Ym)(t:TGs):Prop:=
 ∀(pins:Yf) (s:Shared) (g:St) (H:Hp) (h:List V) (l:Yk) (Q:St->Hp->Prop),Inv X pins g H s->Vals h l->t h g H Q->
  wpAny (model X.prog X.w) X.A (assignInOrder ((assignEach o X.env).map (·.2)) l) (λ_ p=>∃f n,Inv X pins f n p/\Q f n) X.xe s
abbrev OB:=V->V->V->Hp->(Hp->Prop)->Prop
def IW(X:Cx)(t:OB):Prop:=
 ∀(pins:Yf) (s:Shared) (f:St) (H:Hp) (o i v:V) (g h u:Value) (Q:Hp->Prop),Inv X pins f H s->RelV o g->RelV i h->RelV v u->t o i v H Q->
  wpAny (model X.prog X.w) X.A (setItem g h u) (λ_ n=>∃l,Inv X pins f l n/\Q l) X.xe s
abbrev TIp:=V->V->Hp->VK->Prop
def PIp(X:Cx)(g:Operator)(t:TIp):Prop:=
 ∀(pins:Yf) (s:Shared) (f:St) (H:Hp) (x y:V) (v u:Value) (Q:VK),Inv X pins f H s->RelV x v->RelV y u->t x y H Q->
  wpAny (model X.prog X.w) X.A (inplaceOp g v u) (EP X pins f Q) X.xe s
section
variable {X:Cx}{pos:Pos}
noncomputable def Sj(i:Nat):TG:=λv f H Q=>Q (f.set i<|some v) H
def Et(l:X.N.Nodup)(f:X.N[i]?=some x)(hx:Loc X.env.scope x)(g:autoParam (X.fn x=true\/X.env.scope.names.lookup x=some .local) au_2):PG X (.Name x pos) (Sj i):=by
 intro pins s o H v u Q I r h;exact wpAny_assign_Name (BQ I l f hx r (λp n=>⟨_,H,n,h⟩) g)
noncomputable def O3:TGs:=λg f H Q=>g=[]/\Q f H
noncomputable def LL(t:TG)(u:TGs):TGs:=λh g H Q=>∃v r,h=v::r/\t v g H λf l=>u r f l Q
def F8:PGs X [] O3:=by
 intro pins s f H g l Q I r h;obtain⟨e,h⟩:=h;exact assignInOrder_nil ⟨f,H,I,h⟩
def NB{t u}(w:PG X e t)(p:PGs X es u)(hs:autoParam ((assignEach (e::es) X.env).map (·.2)=assign e X.env::(assignEach es X.env).map (·.2)) au_0):PGs X (e::es) (LL t u):=by
 intro pins s g H A C Q I r h;obtain⟨v,B,x,h⟩:=h;subst x;cases r with
 |cons r n=>
  rw[hs];refine assignInOrder_cons (thn (w pins s g H _ _ _ I r h) ?_);rintro _ l ⟨f,z,y,o⟩;exact p pins l f z _ _ Q y n o
noncomputable def Dr(K:Yc)(n:Nat)(t:TGs):TG:=λv f H Q=>∃a xs,v=.ref a/\SqT K H a xs/\xs.length=n/\t xs f H Q
def Ze1{k t n}(z:X.calm=true)(h:PGs X es t)(x:autoParam ((assignEach es X.env).length=n) au_0)(f:autoParam ((assignEach es X.env).findIdx? (·.1)=none) au_0):PG X (.Tuple es k pos) (Dr X.K n t):=by
 intro pins s g H v u Q I r hw;obtain⟨a,xs,B,hq,y,hw⟩:=hw;subst B;cases r
 obtain⟨p,l,w,E⟩:=I.tuple hq;refine assign_Tuple_tuple (I.ok.hd z) w (by simp[x,←y,l.length]) f λA hx=>?_;have C:Inv X pins g H {s with heap:=A}:=I.kept λb o e=>hx b o (Qj<|WW e) e
 exact h pins _ g H xs _ Q C (by lia) hw
noncomputable def Oe(g ti:TE)(t:OB):TG:=λv f H Q=>g f H λo n=>ti f n λi l=>t o i v l λh=>Q f h
def Zo0{n ti t}(G:PE X o n)(J:PE X i ti)(hs:IW X t)
  (L:autoParam (∀v,assign (.Subscript o i pos) X.env v=(do
   let f ←holding [v] (eval o X.env)
   let g ←holding [v,f] (eval i X.env)
   standAt pos
   holding [v,f,g] (setItem f g v)
   release [v,f,g] [])) au_3):PG X (.Subscript o i pos) (Oe n ti t):=by
 intro pins s l H v u Q I r h;rw[L];refine WE (QU<|thn (G pins s l H _ I h) ?_);rintro f w ⟨x,H1,T,A,E⟩;refine WE (QU<|thn (J pins w l H1 _ T E) ?_);rintro g p ⟨y,Y,N,z,C⟩;refine WE (VT<|WE<|QU<|thn (hs pins p l Y x y v f g u _ N A z r C) ?_);rintro _ s3 ⟨U,M,B⟩;exact wpAny_release ⟨l,U,M,B⟩
noncomputable def NG(te:TE)(g:TG):TS:=λD f H=>te f H λx h=>g x f h D.nx
def Zp4{f e te g}(u:PE X e te)(r:PG X f g)(hs:autoParam (swapsWithSole [f] e pos.line X.env=pure false) au_0)(hw:autoParam (swappedStores [f] e X.env=pure none) au_0)(w:autoParam ((assignEach [f] X.env).map (·.2)=[assign f X.env]) au_0):PS X (.Assign [f] e pos) (NG te g):=by
 intro pins s l H D I h;refine wpAny_Assign_stores (thn (u pins s l H _ I h) ?_) hs hw;rintro v n ⟨x,z,y,o,p⟩;rw[w];exact thn (r pins n l z x v _ y o p) λ_ A q=>q
def Zfp(u:X.N.Nodup)(o:X.N[i]?=some x)(hx:Loc X.env.scope x)(r:PE X e te)(hs:autoParam (swapsWith e (some<|.Name x f) pos.line X.env=pure false) au_0)(p:autoParam (X.fn x=true\/X.env.scope.names.lookup x=some .local) au_2) :
  PS X (.Assign [.Name x f] e pos) (NG te<|Sj i):=by
 intro pins s g H D I h;refine wpAny_Assign_Name (thn (r pins s g H _ I h) λv C ⟨y,A,z,l,n⟩=>?_) hs;exact BQ z u o hx l (λB w=>⟨_,A,w,n⟩) p
noncomputable def GG(i:Nat)(te:TE)(ti:TIp):TS:=λD f H=>∃x,f[i]?=some (some x)/\te f H λy h=>ti x y h λz g=>D.nx (f.set i<|some z) g
def Zfr(hN:X.N.Nodup)(G:X.N[i]?=some x)(hx:Loc X.env.scope x)(he:PE X e te)(Y:PIp X E ti)(hf:autoParam (X.fn x=true\/X.env.scope.names.lookup x=some .local) au_2) :
  PS X (.AugAssign (.Name x C) E e pos) (GG i te ti):=by
 intro pins s B H D I h;obtain⟨v,e1,h⟩:=h;obtain⟨m,hn,hl⟩:=I.loc;have p:Vis X.env.scope x:=by rcases hx with k|k;exact .inl k;exact .inr (.inl k)
 obtain⟨u,r,l⟩:=hl i x v G e1 p;refine wpAny_AugAssign_Name ?_
 have J:wpAny (model X.prog X.w) X.A (eval e X.env) (λw o=>wpAny (model X.prog X.w) X.A (inplaceOp E u w) (λr n=>wpAny (model X.prog X.w) X.A (storeName X.env x r) (λ_=>SP X pins D .next) X.xe n) X.xe o) X.xe s:=by
  refine thn (he pins s B H _ I h) λw L ⟨y,H1,I1,Q,U⟩=>?_;refine thn (Y pins L B H1 v y u w _ I1 r Q U) λz s2 ⟨zv,H2,I2,M,T⟩=>?_;exact BQ I2 hN G hx M (λs3 I3=>⟨_,H2,I3,T⟩) hf
 rcases l with⟨f,hm⟩|⟨f,c,hc,g⟩
 ·exact wpAny_loadName_local I.ok.kind f hn hm J
 ·rcases f with f|f
  ·exact wpAny_loadName_cell I.ok.kind f hc g J
  ·rcases hx with k|k
   ·have:X.env.scope.names.lookup x=some .free:=f
    grind
   ·have:X.env.scope.names.lookup x=some .free:=f
    rw[k]at this;cases this
noncomputable def ipI(f:Int->Int->Int):TIp:=λx y H Q=>∃i j,x=.int i/\y=.int j/\Q (.int<|f i j) H
def O0:PIp X .Add (ipI λi j=>i+j):=by
 intro pins s o H x y v u Q I g f h;obtain⟨i,j,n,l,q⟩:=h;subst n;subst l;obtain⟨t,rfl⟩:=g;obtain⟨p,rfl⟩:=f;exact iadd_int ⟨.int _,H,I.tok _,⟨_,rfl⟩,q⟩
noncomputable def G8(c:TT)(o:TS):TS:=λD f H=>∃W:Nat->St->Hp->Prop,(∃m,W m f H)/\∀m f H,W m f H->
 c f H λb l=>if b=true then ∃N:St->Hp->Prop,(∀g n,N g n->∃h,h<m/\W h g n)/\o {D with nx:=N,ct:=N,bk:=D.nx} f l else D.nx f l
def Zrl{tc p}(u:PassesOwn (model X.prog X.w) X.A X.env X.xe)(U:PT X c tc)(Y:PSs X body p):PS X (.While c body [] pos) (G8 tc p):=by
 intro pins s E H D I h;obtain⟨W,⟨T,J⟩,turn⟩:=h;refine wpAny_While (codeAny_whileLoop (λn Q=>∃l B,Inv X pins l B Q/\W n l B) ?_ T ⟨E,H,I,J⟩);rintro n M ⟨g,z,I1,G⟩;refine Vw u (thn (U pins M g z _ I1<|turn n g z G) λb L ⟨y,x,o⟩=>?_);cases b with
 |true=>
  obtain⟨N,hN,o⟩:=o;refine Vw u (thn (Y pins L g y _ x o) λf s3 r=>?_);cases f with
  |brk|ret v=>exact r
  |_=>
   obtain⟨C,H3,I3,n3⟩:=r
   grind
 |false=>
  exact J8 ⟨g,y,x,o⟩
end
structure It where
 go:Nat->Hp->Prop
 yld:Nat->Hp->V->Hp->Prop
 stop:Nat->Hp->Prop
def Np(X:Cx)(pins:Yf)(H:Hp)(b:Addr):Prop:=
 H b=none/\b≠X.env.locals/\b∉X.fs/\(b∈X.ex\/X.s₀.heap.objs.size<=b)/\(∀x c,X.env.cells.lookup x=some c->c≠b)/\∀p∈X.pn++pins,p.1≠b
def Inv.fpOk {g:St}{H H'}{s}{b:Addr} (I:Inv X pins g H s) (f:s.heap.objs.size<=b) (l:H' b=none):Np X pins H' b:=by
 refine⟨l,JW (Qn I.lt f),I.nofs f,.inr (WV I.sz f),λx c e z=>?_,λp h z=>?_⟩
 ·obtain⟨v,q⟩:=I.cell x c e;exact absurd (Qn q.lt<|by grind) (QT _)
 ·exact absurd (Qn (WW (I.pin p h).1)<|by grind) (QT _)
structure Turn (P:Program) (w:World) (K:Yc) (tg:Expr) (J:It) (fp:List Addr) (it:Addr) (tn:Nat->Heap->Prop):Prop where
 mem:it∈fp
 obj:∀i h,tn i h->∀b∈fp,∃o,h.get? b=some o/\∀v,o.data≠.cell v
 keep:∀i h h',tn i h->(∀b∈fp,∀o,h.get? b=some o->h'.get? b=some o)->tn i h'
 item:∀(X:Cx),X.prog=P->X.w=w->X.K=K->X.calm=true->∀(i:Nat) (pins:Yf) (s:Shared) (σ:St) (H:Hp) (E:Yh),Inv X pins σ H s->(∀b∈fp,Np X pins H b)->tn i s.heap->J.go i H->
  wpAny (model P w) X.A (pyNext<|.ref it) (λr s1=>∃u,r=some u/\
   wpAny (model P w) X.A (letOwnedTupleGo tg (.ref it) u) (λ_ s2=>∃x H',Inv X pins σ H' s2/\RelV x u/\J.yld i H x H'/\tn (i+1) s2.heap/\∀b∈fp,H' b=none) E s1) E s
 done:∀(X:Cx),X.prog=P->X.w=w->X.K=K->X.calm=true->∀(i:Nat) (pins:Yf) (s:Shared) (σ:St) (H:Hp) (E:Yh),Inv X pins σ H s->(∀b∈fp,Np X pins H b)->tn i s.heap->J.stop i H->
  wpAny (model P w) X.A (pyNext<|.ref it) (λr s1=>r=none/\Inv X pins σ H s1) E s
 self:∀(A:Around) (i:Nat) (s:Shared) (Q:Yh) (E:Yh),tn i s.heap->Q (.ref it) s->wpAny (model P w) A (pyIter<|.ref it) Q E s
abbrev TI:=St->Hp->(It->Hp->Prop)->Prop
def PIE(X:Cx)(pins:Yf)(o:St)(p:Expr)(R:It->Hp->Prop)(f:Value)(h:Shared):Prop:=
 ∃(l:Addr) (n:List Addr) (tn:Nat->Heap->Prop) (J:It) (g:Hp),f=.ref l/\Inv X pins o g h/\Turn X.prog X.w X.K p J n l tn/\tn 0 h.heap/\(∀b∈n,Np X pins g b)/\R J g
def PI(X:Cx)(h iter:Expr)(g:TI):Prop:=
 ∀(pins:Yf) (s:Shared) (f:St) (H:Hp) (R:It->Hp->Prop),Inv X pins f H s->g f H R->
  wpAny (model X.prog X.w) X.A (eval iter X.env) (λv l=>wpAny (model X.prog X.w) X.A (pyIter v) (PIE X pins f h R) X.xe l) X.xe s
def Cw {s g h u o n vs Q} (l : s.heap.get? h = some o) (p : o.cls = .type n) (hd : o.data = .fields vs)
    (r : ["enumerate", "zip", "dict_itemiterator", "dict_reverseitemiterator", "odict_iterator", "itertools.zip_longest", "itertools.pairwise"].contains n = false) (f : Q () s) : wpAny M A (letOwnedTupleGo g (.ref h) u) Q E s := by
  cases g <;> first
    | exact WK f
    | (cases u <;> first
        | exact WK f
        | (refine WE (wpAny_load l ?_)
           rw [p, hd]
           show wpAny M A (if (["enumerate", "zip", "dict_itemiterator", "dict_reverseitemiterator", "odict_iterator", "itertools.zip_longest", "itertools.pairwise"].contains n && vs[0]? == some (rawInt _)) = true then _ else _) Q E s
           rw [WM (by grind)]
           exact WK f))
noncomputable def Itl(K:Yc)(a:Addr):It:=
 ⟨λi H=>∃xs x,SqL K H a xs/\xs[i]?=some x,λi H x f=>f=H/\∀xs,SqL K H a xs->xs[i]?=some x,λi H=>∃xs,SqL K H a xs/\xs.length<=i⟩
noncomputable def Itt(K:Yc)(a:Addr):It:=
 ⟨λi H=>∃xs x,SqT K H a xs/\xs[i]?=some x,λi H x f=>f=H/\∀xs,SqT K H a xs->xs[i]?=some x,λi H=>∃xs,SqT K H a xs/\xs.length<=i⟩
noncomputable def Itr(lo:Int)(n:Nat):It:=⟨λi _=>i<n,λi H x f=>f=H/\x=.int (lo+i),λi _=>n<=i⟩
def Zby{K tg}(a it:Addr):Turn P w K tg (Itl K a) [it] it (λi h=>h.IsListIter it a i) where
 mem:=by simp
 obj:=λi h st b hb=>by
  have e:b=it:=by simpa using hb
  subst e;obtain⟨o,e,c,d⟩:=st;exact⟨o,e,λv z=>by rw[d]at z;cases z⟩
 keep:=λi h h' st k=>st.at λo e=>k it (by simp) o e
 item:=by
  intro X hP hw hK hc i pins s σ H E I hf st hg;subst hP hw hK;obtain⟨xs,x,hq,hx⟩:=hg;obtain⟨its,rv,p,hz⟩:=I.list hq;obtain⟨u,hu,ru⟩:=rv.get hx;obtain⟨f0,f1,f2,f3,f4,f5⟩:=hf it (by simp);refine wpAny_pyNext_list_item st p.isList (by simpa using hu) λh' st' sb=>?_;have I1:Inv X pins σ H {s with heap:=h'}:=I.turned (λb o hb e=>(sb.2 b hb).trans e) f0 f1 f3 f4 f5
  obtain⟨o,e,c,d⟩:=id st';exact⟨u,rfl,Cw e c d (by decide) ⟨x,H,I1,ru,⟨rfl,λys hy=>by rw[I.list_inj hy hq];exact hx⟩,st',λb hb=>(hf b hb).1⟩⟩
 done:=by
  intro X hP hw hK hc i pins s σ H E I hf st hg;subst hP hw hK;obtain⟨xs,hq,hx⟩:=hg;obtain⟨its,rv,p,hz⟩:=I.list hq;obtain⟨f0,f1,f2,f3,f4,f5⟩:=hf it (by simp);have hl:=rv.length;exact wpAny_pyNext_list_end (I.ok.hd hc) st p.isList (by simp;lia) λh' eb=>⟨rfl,I.turned (λb o hb e=>eb b o hb e) f0 f1 f3 f4 f5⟩
 self:=λ_ _ _ _ _ st h=>wpAny_pyIter_listiter st h
def Zi9{K tg}(a it:Addr):Turn P w K tg (Itt K a) [it] it (λi h=>h.IsTupleIter it a i) where
 mem:=by simp
 obj:=λi h st b hb=>by
  have e:b=it:=by simpa using hb
  subst e;obtain⟨o,e,c,d⟩:=st;exact⟨o,e,λv z=>by rw[d]at z;cases z⟩
 keep:=λi h h' st k=>st.at λo e=>k it (by simp) o e
 item:=by
  intro X hP hw hK hc i pins s σ H E I hf st hg;subst hP hw hK;obtain⟨xs,x,hq,hx⟩:=hg;obtain⟨its,rv,p,hz⟩:=I.tuple hq;obtain⟨u,hu,ru⟩:=rv.get hx;obtain⟨f0,f1,f2,f3,f4,f5⟩:=hf it (by simp);refine wpAny_pyNext_tuple_item st p (by simpa using hu) λh' st' sb=>?_;have I1:Inv X pins σ H {s with heap:=h'}:=I.turned (λb o hb e=>(sb.2 b hb).trans e) f0 f1 f3 f4 f5
  obtain⟨o,e,c,d⟩:=id st';exact⟨u,rfl,Cw e c d (by decide) ⟨x,H,I1,ru,⟨rfl,λys hy=>by rw[I.tuple_inj hy hq];exact hx⟩,st',λb hb=>(hf b hb).1⟩⟩
 done:=by
  intro X hP hw hK hc i pins s σ H E I hf st hg;subst hP hw hK;obtain⟨xs,hq,hx⟩:=hg;obtain⟨its,rv,p,hz⟩:=I.tuple hq;obtain⟨f0,f1,f2,f3,f4,f5⟩:=hf it (by simp);have hl:=rv.length;exact wpAny_pyNext_tuple_end (I.ok.hd hc) st p (by simp;lia) λh' eb=>⟨rfl,I.turned (λb o hb e=>eb b o hb e) f0 f1 f3 f4 f5⟩
 self:=λ_ _ _ _ _ st h=>wpAny_pyIter_tupleiter st h
def Zqd{K tg}(it:Addr)(lo:Int)(n:Nat):Turn P w K tg (Itr lo n) [it] it (λi h=>IsRangeIter h it (lo+(i:Nat)*1) ((n:Int)-(i:Nat)) 1) where
 mem:=by simp
 obj:=λi h st b hb=>by
  have e:b=it:=by simpa using hb
  subst e
  exact⟨_,st,λv z=>by
   cases z⟩
 keep:=λi h h' st k=>k it (by simp) _ st
 item:=by
  intro X hP hw hK hc i pins s σ H E I hf st hg;subst hP hw hK;obtain⟨f0,f1,f2,f3,f4,f5⟩:=hf it (by simp);refine(Walks.range (prog:=X.prog) (w:=X.w) (I.ok.hd hc) it lo 1 n).item i s _ _ hg st λv h' tk hv st' kk=>?_;obtain⟨t,rfl⟩:=hv;have I1:Inv X pins σ H {s with heap:=h',toks:=tk}:=I.turned (λb o hb e=>kk b o (by simpa using hb) e) f0 f1 f3 f4 f5
  refine⟨_,rfl,Cw st' rfl rfl (by decide) ⟨.int (lo+i),H,I1,⟨t,?_⟩,⟨rfl,rfl⟩,st',λb hb=>(hf b hb).1⟩⟩;rw[Int.mul_one]
 done:=by
  intro X hP hw hK hc i pins s σ H E I hf st hg;obtain⟨f0,f1,f2,f3,f4,f5⟩:=hf it (by simp);exact wpAny_pyNext_range_end (I.ok.hd hc) st (by have:n<=i:=hg;lia) λh' eb=>⟨rfl,I.turned (λb o hb e=>eb b o hb e) f0 f1 f3 f4 f5⟩
 self:=λ_ _ _ _ _ st h=>wpAny_pyIter_rangeiter st h
section
variable {X:Cx}{tg:Expr}
noncomputable def Bh(K:Yc)(h:TE):TI:=λg H R=>h g H λx f=>∃a,x=.ref a/\(∃xs,SqL K f a xs)/\R (Itl K a) f
noncomputable def AY(K:Yc)(h:TE):TI:=λg H R=>h g H λx f=>∃a,x=.ref a/\(∃xs,SqT K f a xs)/\R (Itt K a) f
def ON(z:PE X l r):PI X tg l (Bh X.K r):=by
 intro pins s n H R I h;refine thn (z pins s n H _ I h) λv g ⟨x,A,f,u,w⟩=>?_;obtain⟨a,e,⟨xs,hq⟩,q⟩:=w;subst e;cases u
 obtain⟨y,B,p,C⟩:=f.list hq;refine wpAny_pyIter_list p.isList ?_;refine⟨g.heap.objs.size,[g.heap.objs.size],_,_,A,rfl,f.kept λb o e=>WL _ e,Zby a _,⟨_,WX _ rfl,rfl,rfl⟩,λb E=>?_,q⟩;have e:b=g.heap.objs.size:=by grind
 subst e;exact f.fpOk (WQ _) (f.hok.fresh<|WQ _)
def Zam(z:PE X l r):PI X tg l (AY X.K r):=by
 intro pins s n H R I h;refine thn (z pins s n H _ I h) λv g ⟨x,A,f,u,w⟩=>?_;obtain⟨a,e,⟨xs,hq⟩,q⟩:=w;subst e;cases u
 obtain⟨y,B,p,C⟩:=f.tuple hq;refine wpAny_pyIter_tuple p ?_;refine⟨g.heap.objs.size,[g.heap.objs.size],_,_,A,rfl,f.kept λb o e=>WL _ e,Zi9 a _,⟨_,WX _ rfl,rfl,rfl⟩,λb E=>?_,q⟩;have e:b=g.heap.objs.size:=by grind
 subst e;exact f.fpOk (WQ _) (f.hok.fresh<|WQ _)
def Os{g:St}{H}{s}{R}{E}{lo f}{t u v}{tk}(I:Inv X pins g H s)(x:-(2 ^ 62)<=lo)(r:lo<2 ^ 62)(p:-(2 ^ 62)<=f)(n:f<2 ^ 62)(q:R (Itr lo (f-lo).toNat) H):wpAny (model X.prog X.w) X.A (pyIter<|.ref s.heap.objs.size) (PIE X pins g tg R) E {s with heap:=s.heap.push {cls:=.type "range",data:=.fields #[.int lo t,.int f u,.int 1 v]},toks:=tk}:=by
 refine wpAny_pyIter_range (IsRange.new ..) (small_one x r p n) ?_;have h:Inv X pins g H {s with heap:=s.heap.push {cls:=.type "range",data:=.fields #[.int lo t,.int f u,.int 1 v]},toks:=tk}:=I.kept λb o e=>WL _ e
 refine⟨(s.heap.push {cls:=.type "range",data:=.fields #[.int lo t,.int f u,.int 1 v]}).objs.size,[(s.heap.push {cls:=.type "range",data:=.fields #[.int lo t,.int f u,.int 1 v]}).objs.size],_,_,H,rfl,
  h.kept λb o e=>WL _ e,Zqd _ lo (f-lo).toNat,?_,λb l=>?_,q⟩
 ·have z:lo+((0:Nat):Int)*1=lo:=by simp
  have y:(((f-lo).toNat:Nat):Int)-((0:Nat):Int)=Builtin.Range.rangeSize lo f 1:=by rw[rangeSize_one];split<;>lia
  rw[z,y];exact WX _ rfl
 ·have e:b=(s.heap.push {cls:=.type "range",data:=.fields #[.int lo t,.int f u,.int 1 v]}).objs.size:=by simpa using l
  subst e;exact h.fpOk (WQ _) (h.hok.fresh<|WQ _)
noncomputable def Oo(h:TA):TI:=λf H R=>h f H λg l=>∃j:Int,g=[.int j]/\-(2 ^ 62)<=j/\j<2 ^ 62/\R (Itr 0 j.toNat) l
noncomputable def MY(h:TA):TI:=λf H R=>h f H λg l=>∃i j:Int,g=[.int i,.int j]/\(-(2 ^ 62)<=i/\i<2 ^ 62/\-(2 ^ 62)<=j/\j<2 ^ 62)/\R (Itr i (j-i).toNat) l
def Zff(w:Gl X "range")(v:X.mg "range"=none)(x:PA X [a] l)(hs:autoParam (starEach [a] X.env=[(false,eval a X.env)]) au_0):PI X tg (.Call (.Name "range" p) [a] [] pos) (Oo l):=by
 intro pins s g H R I h;refine Call_ (BM I w v boot_range<|VQ (thn (x pos pins s g H _ I h) λA B ⟨z,C,y,o,f⟩=>?_) hs rfl);obtain⟨j,e,f,u,q⟩:=f;subst e;cases o with
 |cons r n=>
  cases n
  obtain⟨t,rfl⟩:=r;exact call_range_1 (Os y (by lia) (by lia) f u<|by grind)
def Zg6{p pos}(A:Gl X "range")(z:X.mg "range"=none)(B:PA X [a,b] o)(hs:autoParam (starEach [a,b] X.env=[(false,eval a X.env),(false,eval b X.env)]) au_0)(l:autoParam (starEach [b] X.env=[(false,eval b X.env)]) au_0) :
  PI X tg (.Call (.Name "range" p) [a,b] [] pos) (MY o):=by
 intro pins s n H R I h;refine Call_ (BM I A z boot_range<|VQ (thn (B pos pins s n H _ I h) λG L ⟨E,M,C,u,g⟩=>?_) (by grind)<|by rw[l];rfl);obtain⟨i,j,e,⟨g,y,x,w⟩,q⟩:=g;subst e;cases u with
 |cons r f=>
  cases f with
  |cons v f=>
   cases f
   obtain⟨t,rfl⟩:=r;obtain⟨J,rfl⟩:=v;exact call_range_2 (Os C g y x w q)
noncomputable def RA(p:TI)(g:TG)(r:TS):TS:=λD f H=>p f H λJ u=>∃W:Nat->Nat->St->Hp->Prop,(∃m,W 0 m f u)/\∀i m f H,W i m f H->
 (J.stop i H/\D.nx f H)\/(J.go i H/\∃N:St->Hp->Prop,(∀h l,N h l->∃o,o<m/\W (i+1) o h l)/\∀x l,J.yld i H x l->g x f l λn s=>r {D with nx:=N,ct:=N,bk:=D.nx} n s)
noncomputable def BP(f:List Addr)(h:Heap):Yf:=f.filterMap λb=>(h.get? b).map λo=>(b,o)
def Ax{b o}(f:b∈g)(e:h.get? b=some o):(b,o)∈BP g h:=JO.mpr ⟨b,f,by rw[e];rfl⟩
def Zly(f:p∈BP g h):p.1∈g/\h.get? p.1=some p.2:=by
 obtain⟨b,l,e⟩:=JO.mp f;cases q:h.get? b with
 |_=>grind
def Inv.pinned {f:St}{H}{s}{fp} (I:Inv X pins f H s) (h:∀b∈fp,Np X pins H b) (n:∀b∈fp,∃o,s.heap.get? b=some o/\∀v,o.data≠.cell v):Inv X (pins++BP fp s.heap) f H s:=
 I.pins_of λp g=>(Qc.mp g).elim (λz=>I.pin p (Qk _ z)) λz=>by
  obtain⟨l,e⟩:=Zly z;obtain⟨f0,f1,r,_⟩:=h p.1 l
  grind
def Inv.unpinned {f:St}{H}{s} (I:Inv X (pins++h) f H s):Inv X pins f H s:=I.pins_of λp g=>I.pin p (Qk _<|QR _ g)
def Zri{wi g tb pos}(Q:PassesOwn (model X.prog X.w) X.A X.env X.xe)(hc:X.calm=true)(hi:PI X tg iter wi)(hg:PG X tg g)(z:PSs X body tb)(hs:autoParam (∀x,foldedSetIterable iter X.env x=pure x) au_3):PS X (.For tg iter body [] pos) (RA wi g tb):=by
 intro pins s σ H D I h;refine wpAny_For (thn (hi pins s σ H _ I h) λv s1 h1=>thn h1 λitv s2 h2=>?_) hs;obtain⟨it,Y,tn,J,H2,e,I2,T,st2,f2,W,⟨m0,w0⟩,turn⟩:=h2;subst e;have stat:∀{C:Hp},(∀b∈Y,C b=none)->∀b∈Y,Np X pins C b:=λhn b z=>⟨hn b z,(f2 b z).2⟩;refine codeAny_forLoop_any (λn s'=>∃i y C,Inv X pins y C s'/\tn i s'.heap/\(∀b∈Y,C b=none)/\W i n y C) ?_ m0 ⟨0,σ,H2,I2,st2,λb z=>(f2 b z).1,w0⟩;rintro n s3 ⟨i,p,H3,I3,M,U,w3⟩;rcases turn i n p H3 w3 with⟨stop,qn⟩|⟨go,N,hN,step⟩
 ·refine Vw Q (thn (T.done X rfl rfl rfl hc i pins s3 p H3 X.xe I3 (stat U) M stop) ?_);rintro r s4 ⟨hr,I4⟩;subst hr;exact J8 ⟨p,H3,I4,qn⟩
 ·refine Vw Q (thn (T.item X rfl rfl rfl hc i pins s3 p H3 X.xe I3 (stat U) M go) ?_);rintro r s4 ⟨u,hr,h4⟩;subst hr;refine Vw Q (thn h4 ?_);rintro _ s5 ⟨x,H5,I5,r5,y5,G,fr5⟩;refine Vw Q (thn (hg _ s5 p H5 x u _ (I5.pinned (stat fr5)<|T.obj _ _ G) r5<|step x H5 y5) ?_);rintro _ s6 ⟨σ6,H6,I6,q6⟩;refine Vw Q (thn (z _ s6 σ6 H6 _ I6 q6) λf s7 L=>?_)
  have again:∀{l:St} {B:Hp},Inv X (pins++BP Y s5.heap) l B s7->N l B->∃m,m<n/\∃i y C,Inv X pins y C s7/\tn i s7.heap/\(∀b∈Y,C b=none)/\W i m y C:=λ{l B} E n7=>by
   obtain⟨m',hm,w7⟩:=hN l B n7;refine⟨m',hm,i+1,l,B,E.unpinned,T.keep _ _ _ G λb z o e=>(E.pin (b,o)<|Qk _<|Qk _<|Ax z e).1,λb z=>?_,w7⟩;obtain⟨o,e,d⟩:=T.obj _ _ G b z;exact(E.pin (b,o)<|Qk _<|Qk _<|Ax z e).2.1
  cases f with
  |brk=>obtain⟨l,B,E,L⟩:=L;exact⟨l,B,E.unpinned,L⟩
  |ret v=>obtain⟨x7,l,B,E,r7,L⟩:=L;exact⟨x7,l,B,E.unpinned,r7,L⟩
  |_=>obtain⟨l,B,E,n7⟩:=L;exact again E n7
end
abbrev R2:=V->V->Hp->VK->Prop
def OpR(X:Cx)(f:Value->Value->Sem Value)(r:R2):Prop:=
 ∀(pins:Yf) (s:Shared) (g:St) (H:Hp) (x y:V) (v u:Value) (Q:VK),Inv X pins g H s->RelV x v->RelV y u->r x y H Q->
  wpAny (model X.prog X.w) X.A (f v u) (EP X pins g Q) X.xe s
def UnR(X:Cx)(f:Value->Sem Value)(r:V->Hp->VK->Prop):Prop:=
 ∀(pins:Yf) (s:Shared) (g:St) (H:Hp) (x:V) (v:Value) (Q:VK),Inv X pins g H s->RelV x v->r x H Q->
  wpAny (model X.prog X.w) X.A (f v) (EP X pins g Q) X.xe s
def Kl(X:Cx)(f:Value)(r:List V->Hp->VK->Prop):Prop:=
 ∀(pins:Yf) (s:Shared) (g:St) (H:Hp) (xs:List V) (h:Yk) (Q:VK),Inv X pins g H s->Vals xs h->r xs H Q->
  wpAny (model X.prog X.w) X.A (call f h) (EP X pins g Q) X.xe s
def Zq4(X:Cx)(r:V->Hp->(Bool->Hp->Prop)->Prop):Prop:=
 ∀(pins:Yf) (s:Shared) (f:St) (H:Hp) (x:V) (v:Value) (Q:Bool->Hp->Prop),Inv X pins f H s->RelV x v->r x H Q->
  wpAny (model X.prog X.w) X.A (truthy v) (TP X pins f Q) X.xe s
noncomputable def tOp(r:R2)(h g:TE):TE:=λf H Q=>h f H λx n=>g f n λy l=>r x y l Q
noncomputable def tUn(r:V->Hp->VK->Prop)(g:TE):TE:=λf H Q=>g f H λx h=>r x h Q
noncomputable def rI(C:Int->Int->Prop)(g:Int->Int->V):R2:=λx y H Q=>∃i j,x=.int i/\y=.int j/\C i j/\Q (g i j) H
noncomputable def rI0(g:Int->Int->V):R2:=λx y H Q=>∃i j,x=.int i/\y=.int j/\Q (g i j) H
def rU(g:Int->V):V->Hp->VK->Prop:=λx H Q=>∃i,x=.int i/\Q (g i) H
section
variable {X:Cx}{a b c:Expr}{ta tb tc:TE}{pos:Pos}
def Dc(E:PE X a ta)(C:PE X b tb){pins}{s}{g:St}{H}{R:V->V->Hp->Prop}(I:Inv X pins g H s)(h:ta g H λx r=>tb g r λy o=>R x y o){Q}{f:Value->Value->Sem Value}(N:∀v u p x y o,Inv X pins g o p->RelV x v->RelV y u->R x y o->wpAny (model X.prog X.w) X.A (f v u) Q X.xe p) :
  wpAny (model X.prog X.w) X.A (eval a X.env) (λv n=>wpAny (model X.prog X.w) X.A (eval b X.env) (λu l=>wpAny (model X.prog X.w) X.A (f v u) Q X.xe l) X.xe n) X.xe s:=by
 refine thn (E pins s g H _ I h) λv z ⟨x,r,G,L,B⟩=>?_;refine thn (C pins z g r _ G B) λu p ⟨y,o,T,J,M⟩=>?_
 grind
def Ni(p:OpR X (binaryOp o) r)(z:PE X a ta)(w:PE X b tb):PE X (.BinOp a o b pos) (tOp r ta tb):=by
 intro pins s f H Q I h;exact wpAny_BinOp (Dc z w I h λv u g x y B A n l q=>p pins g f B x y v u Q A n l q)
def P2(p:UnR X (unaryOp o) r)(u:PE X a ta):PE X (.UnaryOp o a pos) (tUn r ta):=by
 intro pins s f H Q I h;exact UnaryOp_ (thn (u pins s f H _ I h) λv g ⟨x,y,w,l,n⟩=>p pins g f y x v Q w l n)
def opI{C}{g:Int->Int->Int}(rule:∀i j t u s Q E,C i j->Q (.int (g i j) s.toks) {s with toks:=s.toks+1}->wpAny (model X.prog X.w) X.A (f (.int i t)<|.int j u) Q E s) :
  OpR X f (rI C λi j=>.int (g i j)):=by
 intro pins s r H x y v u Q I o n h;obtain⟨i,j,rfl,rfl,p,q⟩:=h;obtain⟨t,rfl⟩:=o;obtain⟨l,rfl⟩:=n;exact rule i j t l s _ _ p ⟨.int (g i j),H,I.tok _,⟨_,rfl⟩,q⟩
def Re{g:Int->Int->Int}(rule:∀i j t u s Q E,Q (.int (g i j) s.toks) {s with toks:=s.toks+1}->wpAny (model X.prog X.w) X.A (f (.int i t)<|.int j u) Q E s) :
  OpR X f (rI0 λi j=>.int (g i j)):=by
 intro pins s p H x y v u Q I o n h;obtain⟨i,j,rfl,rfl,q⟩:=h;obtain⟨t,rfl⟩:=o;obtain⟨l,rfl⟩:=n;exact rule i j t l s _ _ ⟨.int (g i j),H,I.tok _,⟨_,rfl⟩,q⟩
def EE{g:Int->Int->Bool}(rule:∀i j t u s Q E,Q (.bool<|g i j) s->wpAny (model X.prog X.w) X.A (f (.int i t)<|.int j u) Q E s) :
  OpR X f (rI0 λi j=>.bl (g i j)):=by
 intro pins s p H x y v u Q I o n h;obtain⟨i,j,rfl,rfl,q⟩:=h;obtain⟨t,rfl⟩:=o;obtain⟨l,rfl⟩:=n;exact rule i j t l s _ _ ⟨.bl (g i j),H,I,rfl,q⟩
def A2(i j:Int):Prop:=0<j/\j<1073741824
def D3(i j:Int):Prop:=0<=j/\j<=1000000/\i.natAbs<2 ^ 64
def CMul(i j:Int):Prop:=(-(2 ^ 64)<i/\i<2 ^ 64)\/(-(2 ^ 64)<j/\j<2 ^ 64)
def CMul.ok (h:CMul i j):IntMulOk i j:=by
 rcases h with⟨g,f⟩|⟨g,f⟩
 ·exact .of_left (intBits_le_64 g f)
 ·exact .of_right (intBits_le_64 g f)
def XJ:OpR X (binaryOp .Add) (rI0 λi j=>.int (i+j)):=Re λ_ _ _ _ _ _ _ q=>add_int q
def Kd:OpR X (binaryOp .Sub) (rI0 λi j=>.int (i-j)):=Re λ_ _ _ _ _ _ _ q=>sub_int q
def N1:OpR X (binaryOp .Mult) (rI CMul λi j=>.int (i*j)):=opI λ_ _ _ _ _ _ _ f q=>mul_int q f.ok
def Ko:OpR X (binaryOp .FloorDiv) (rI A2 λi j=>.int (i / j)):=opI λi j _ _ _ _ _ f q=>by
 have h:=f.1;have g:=f.2;exact floordiv_int (by lia) (by rw[Int.fdiv_eq_ediv_of_nonneg i (by lia)];exact q) (.inl<|PyProof.noPylong_small<|by lia)
def XH:OpR X (binaryOp .Mod) (rI (λ_ j=>0<j) λi j=>.int (i % j)):=opI λi j _ _ _ _ _ f q=>by
 exact mod_int' (by lia) (by grind)
def Gh:OpR X (binaryOp .Pow) (rI D3 λi j=>.int (i ^ j.toNat)):=opI λ_ _ _ _ _ _ _ f q=>pow_int_small f.1 f.2.1 f.2.2 q
def unI{g:Int->Int}(rule:∀i t s Q E,Q (.int (g i) s.toks) {s with toks:=s.toks+1}->wpAny (model X.prog X.w) X.A (f<|.int i t) Q E s) :
  UnR X f (rU λi=>.int (g i)):=by
 intro pins s n H x v Q I l h;obtain⟨i,rfl,q⟩:=h;obtain⟨t,rfl⟩:=l;exact rule i t s _ _ ⟨.int (g i),H,I.tok _,⟨_,rfl⟩,q⟩
def Po:UnR X (unaryOp .USub) (rU λi=>.int (-i)):=unI λ_ _ _ _ _ q=>neg_int q
end
noncomputable def O7:V->V->Bool
 | .non,.non=>true | .non,.int _=>true | .int _,.non=>true | .non,.bl _=>true | .bl _,.non=>true | .non,.str _=>true | .str _,.non=>true
 | .int _,.int _=>true | .bl _,.bl _=>true | .str _,.str _=>true | .byt _,.byt _=>true
 | .int _,.str _=>true | .str _,.int _=>true | .bl _,.str _=>true | .str _,.bl _=>true
 |_,_=>false
noncomputable def rEq:R2:=λx y H Q=>O7 x y=true/\Q (.bl<|decide (x=y)) H
noncomputable def rNe:R2:=λx y H Q=>O7 x y=true/\Q (.bl (!decide (x=y))) H
def LD{i j:Int}:decide (V.int i=V.int j)=(i==j):=by
 rw[J9];simp
def Gu{i j:Bool}:decide (V.bl i=V.bl j)=(i==j):=by
 rw[J9];simp
def R7{i j:Str}:decide (V.str i=V.str j)=(i==j):=by
 rw[J9];simp
def Gy{i j:Array UInt8}:decide (V.byt i=V.byt j)=(i.toList==j.toList):=by
 rw[J9];cases i
 cases j
 simp
section
variable {X:Cx}{a b c:Expr}{ta tb tc:TE}{pos:Pos}
def XZ{f:St}{H}{s}{Q}{k k'}(I:Inv X pins f H s)(q:Q (.bl k) H)(e:k=k'):EP X pins f Q (.bool k') s:=by
 subst e;exact⟨.bl k,H,I,rfl,q⟩
def op_eq:OpR X (compareOp .Eq) rEq:=by
 intro pins s o H x y v u Q I n f h;obtain⟨l,q⟩:=h;cases x with
 |non=>
  cases n
  cases y with
  |non=>cases f;exact PySem.EqNone.eq_none_none (XZ I q<|by simp)
  |bl j=>cases f;exact PySem.EqNone.eq_none_bool (XZ I q<|by simp)
  |int j=>obtain⟨g,rfl⟩:=f;exact PySem.EqNone.eq_none_int (XZ I q<|by simp)
  |str j=>obtain⟨g,rfl⟩:=f;exact PySem.EqNone.eq_none_str (XZ I q<|by simp)
  |_=>exact absurd l Qh
 |bl i=>
  cases n
  cases y with
  |non=>cases f;exact PySem.EqNone.eq_bool_none (XZ I q<|by simp)
  |bl j=>cases f;exact eq_bool (XZ I q Gu)
  |str j=>obtain⟨g,rfl⟩:=f;exact PySem.EqMixed.eq_bool_str (XZ I q<|by simp)
  |_=>exact absurd l Qh
 |int i=>
  obtain⟨t,rfl⟩:=n;cases y with
  |non=>cases f;exact PySem.EqNone.eq_int_none (XZ I q<|by simp)
  |int j=>obtain⟨g,rfl⟩:=f;exact eq_int (XZ I q LD)
  |str j=>obtain⟨g,rfl⟩:=f;exact PySem.EqMixed.eq_int_str (XZ I q<|by simp)
  |_=>exact absurd l Qh
 |str i=>
  obtain⟨t,rfl⟩:=n;cases y with
  |non=>cases f;exact PySem.EqNone.eq_str_none (XZ I q<|by simp)
  |bl j=>cases f;exact PySem.EqMixed.eq_str_bool (XZ I q<|by simp)
  |int j=>obtain⟨g,rfl⟩:=f;exact PySem.EqMixed.eq_str_int (XZ I q<|by simp)
  |str j=>obtain⟨g,rfl⟩:=f;exact eq_str (XZ I q R7)
  |_=>exact absurd l Qh
 |byt i=>
  obtain⟨t,rfl⟩:=n;cases y with
  |byt j=>obtain⟨g,rfl⟩:=f;exact PySem.W.eq_bytes (XZ I q Gy)
  |_=>exact absurd l Qh
 |_=>cases y<;>exact absurd (show false=true from l) Qh
def op_ne:OpR X (compareOp .NotEq) rNe:=by
 intro pins s o H x y v u Q I n f h;obtain⟨l,q⟩:=h;cases x with
 |non=>
  cases n
  cases y with
  |non=>cases f;exact PySem.EqNone.ne_none_none (XZ I q<|by simp)
  |bl j=>cases f;exact PySem.EqNone.ne_none_bool (XZ I q<|by simp)
  |int j=>obtain⟨g,rfl⟩:=f;exact PySem.EqNone.ne_none_int (XZ I q<|by simp)
  |str j=>obtain⟨g,rfl⟩:=f;exact PySem.EqNone.ne_none_str (XZ I q<|by simp)
  |_=>exact absurd l Qh
 |bl i=>
  cases n
  cases y with
  |non=>cases f;exact PySem.EqNone.ne_bool_none (XZ I q<|by simp)
  |bl j=>cases f;exact ne_bool (XZ I q<|Q4 not Gu)
  |str j=>obtain⟨g,rfl⟩:=f;exact PySem.EqMixed.ne_bool_str (XZ I q<|by simp)
  |_=>exact absurd l Qh
 |int i=>
  obtain⟨t,rfl⟩:=n;cases y with
  |non=>cases f;exact PySem.EqNone.ne_int_none (XZ I q<|by simp)
  |int j=>obtain⟨g,rfl⟩:=f;exact ne_int (XZ I q<|Q4 not LD)
  |str j=>obtain⟨g,rfl⟩:=f;exact PySem.EqMixed.ne_int_str (XZ I q<|by simp)
  |_=>exact absurd l Qh
 |str i=>
  obtain⟨t,rfl⟩:=n;cases y with
  |non=>cases f;exact PySem.EqNone.ne_str_none (XZ I q<|by simp)
  |bl j=>cases f;exact PySem.EqMixed.ne_str_bool (XZ I q<|by simp)
  |int j=>obtain⟨g,rfl⟩:=f;exact PySem.EqMixed.ne_str_int (XZ I q<|by simp)
  |str j=>obtain⟨g,rfl⟩:=f;exact ne_str (XZ I q<|Q4 not R7)
  |_=>exact absurd l Qh
 |byt i=>
  obtain⟨t,rfl⟩:=n;cases y with
  |byt j=>obtain⟨g,rfl⟩:=f;exact PySem.W.ne_bytes (XZ I q<|Q4 not Gy)
  |_=>exact absurd l Qh
 |_=>cases y<;>exact absurd (show false=true from l) Qh
def Pk:OpR X (compareOp .Lt) (rI0 λi j=>.bl (decide (i<j))):=EE λ_ _ _ _ _ _ _ q=>lt_int q
def KF:OpR X (compareOp .Gt) (rI0 λi j=>.bl (decide (j<i))):=EE λ_ _ _ _ _ _ _ q=>gt_int q
def NT:OpR X (compareOp .GtE) (rI0 λi j=>.bl (decide (j<=i))):=EE λ_ _ _ _ _ _ _ q=>ge_int q
def OpR.or (h:OpR X f r) (p:OpR X f o):OpR X f (λx y H Q=>r x y H Q\/o x y H Q):=by
 intro pins s g H x y v u Q I n l q;rcases q with q|q
 ·exact h pins s g H x y v u Q I n l q
 ·exact p pins s g H x y v u Q I n l q
def Pj(b:Expr){op}(h:autoParam (op≠.In) au_1)(l:autoParam (op≠.NotIn) au_1):behindInMarks op b=false:=by
 have g:(op==CmpOp.In)=false:=by grind
 have f:(op==CmpOp.NotIn)=false:=by grind
 cases b<;>simp[behindInMarks,g,f]
def TU(p:OpR X (compareOp f) r)(A:PE X a ta)(z:PE X b tb)(w:behindInMarks f b=false):PE X (.Compare a [f] [b] pos) (tOp r ta tb):=by
 intro pins s g H Q I h;exact wpAny_Compare1 (Dc A z I h λv u l x y C B o n q=>p pins l g C x y v u Q B o n q) w
noncomputable def F5(t:TE):TT:=λf H Q=>t f H λx g=>∃k,x=.bl k/\Q k g
def T8(E:OpR X (compareOp g) r)(L:PE X a ta)(J:PE X b tb)(G:behindInMarks g b=false):PT X (.Compare a [g] [b] pos) (F5<|tOp r ta tb):=by
 intro pins s f H Q I h
 refine wpAny_isTrue_Compare1 (thn (L pins s f H _ I h) λv n ⟨x,H1,T,w,C⟩=>thn (J pins n f H1 _ T C) λu l ⟨y,Y,N,p,B⟩=>
  thn (E pins l f Y x y v u _ N w p B) λc s3 ⟨z,U,M,o,k,e,A⟩=>?_) G
 subst e;cases o
 exact V2 ⟨U,M,A⟩
def EH(K:Yc)(x:V)(H:Hp)(k:Bool):Prop:=
 match x with
 | .non=>k=false
 | .bl b=>k=b
 | .int i=>k=(i != 0)
 | .str y=>y.length<=sizeLine/\k=((y.length:Int) != 0)
 | .byt y=>y.size<=sizeLine/\k=((y.size:Int) != 0)
 | .ref p=>(∃xs,SqL K H p xs/\k=!xs.isEmpty)\/(∃xs,SqT K H p xs/\k=!xs.isEmpty)\/∃f,H p=some (.dK f)/\k=!f.isEmpty
 |_=>False
def Zck(r:KV f vs):(!vs.isEmpty)=!f.isEmpty:=by
 cases r<;>rfl
def Lb(r:Vals xs f):(!f.toArray.isEmpty)=!xs.isEmpty:=by
 cases r<;>simp
def FE:(sizeLine:Nat)<2 ^ 63:=by trivial
def Ze5:Zq4 X (λx H Q=>∃k,EH X.K x H k/\Q k H):=by
 intro pins s B H x v Q I l h;obtain⟨k,e,q⟩:=h;have G:=FE;have E:=Jt;cases x with
 |non=>
  cases l
  have f:=e;subst f;exact truthy_none ⟨H,I,q⟩
 |bl b=>
  cases l
  have f:=e;subst f;exact V2 ⟨H,I,q⟩
 |int i=>
  obtain⟨t,rfl⟩:=l;have f:=e;subst f;exact PySem.P.truthy_int ⟨H,I,q⟩
 |str y=>
  obtain⟨t,rfl⟩:=l;obtain⟨z,f⟩:=e;subst f;exact PySem.P.truthy_str (by lia) ⟨H,I.tok _,q⟩
 |byt y=>
  obtain⟨t,rfl⟩:=l;obtain⟨z,f⟩:=e;subst f;exact PySem.W.truthy_bytes (by lia) ⟨H,I.tok _,q⟩
 |ref p=>
  cases l
  have f:=e;rcases f with⟨xs,hx,f⟩|⟨xs,hx,f⟩|⟨w,hx,f⟩
  ·subst f;obtain⟨o,r,n,u⟩:=I.list hx;have g:=r.length;exact wpAny_truthy_list n.isList (by simp only[Qr];lia) ⟨H,I.tok _,by rw[Lb r];exact q⟩
  ·subst f;obtain⟨o,r,n,u⟩:=I.tuple hx;have g:=r.length;exact truthy_tuple n (by simp only[Qr];lia) ⟨H,I.tok _,by rw[Lb r];exact q⟩
  ·subst f;obtain⟨u,A,C,r,m⟩:=I.hok p _ hx;have g:=Paired.length r;exact wpAny_truthy_dict A m (by lia) ⟨H,I.tok _,by rw[Zck r];exact q⟩
 |_=>exact e.elim
def Zfw(p:PE X a ta)(o:∀whole,isTrue a X.env whole=(do let v ←whole;standAt a.pos;holding [v] (truthy v))) :
  PT X a (λf H Q=>ta f H λx H'=>∃k,EH X.K x H' k/\Q k H'):=by
 intro pins s f H Q I h;exact isTrue_plain (thn (p pins s f H _ I h) λv g ⟨x,u,r,l,n⟩=>Ze5 pins g f u x v Q r l n) (o _)
def vals1(r:Vals [x] us):∃u,us=[u]/\RelV x u:=by
 cases r with
 |cons g f=>cases f;exact⟨_,rfl,g⟩
def vals2(r:Vals [x,y] us):∃u f,us=[u,f]/\RelV x u/\RelV y f:=by
 cases r with
 |cons n l=>
  cases l with
  |cons h g=>cases g;exact⟨_,_,rfl,n,h⟩
def IH(g:X.calm=true):Kl X (.builtin "max") (λxs H Q=>∃i j,xs=[.int i,.int j]/\Q (.int (if j>i then j else i)) H):=by
 intro pins s l H xs o Q I r h;obtain⟨i,j,rfl,q⟩:=h;obtain⟨u,n,rfl,⟨t,rfl⟩,⟨v,rfl⟩⟩:=vals2 r;refine max_two_ints (I.ok.hd g) λw p k=>⟨_,H,I.kept k,?_,q⟩;by_cases f:j>i
 ·rw[WO f,WO f];exact⟨_,rfl⟩
 ·rw[WM f,WM f];exact⟨_,rfl⟩
def Zq1(g:X.calm=true):Kl X (.builtin "min") (λxs H Q=>∃i j,xs=[.int i,.int j]/\Q (.int (if j<i then j else i)) H):=by
 intro pins s l H xs o Q I r h;obtain⟨i,j,rfl,q⟩:=h;obtain⟨u,n,rfl,⟨t,rfl⟩,⟨v,rfl⟩⟩:=vals2 r;refine min_two_ints (I.ok.hd g) λw p k=>⟨_,H,I.kept k,?_,q⟩;by_cases f:j<i
 ·rw[WO f,WO f];exact⟨_,rfl⟩
 ·rw[WM f,WM f];exact⟨_,rfl⟩
def Zbq:Kl X (.type "int") (λxs H Q=>(∃i,xs=[.int i]/\Q (.int i) H)\/∃k,xs=[.bl k]/\Q (.int (if k then 1 else 0)) H):=by
 intro pins s g H xs l Q I r h;rcases h with⟨i,rfl,q⟩|⟨k,rfl,q⟩
 ·obtain⟨u,rfl,t,rfl⟩:=vals1 r;exact call_int_int ⟨.int i,H,I,⟨_,rfl⟩,q⟩
 ·obtain⟨u,rfl,f⟩:=vals1 r;cases f
  exact call_int_bool ⟨.int (if k then 1 else 0),H,I.tok _,⟨_,rfl⟩,q⟩
def Ft(K:Yc)(x:V)(H:Hp)(n:Nat):Prop:=
 match x with
 | .str y=>y.length<=sizeLine/\n=y.length
 | .byt y=>y.size<=sizeLine/\n=y.size
 | .ref p=>(∃xs,SqL K H p xs/\n=xs.length)\/∃xs,SqT K H p xs/\n=xs.length
 |_=>False
def Zpu:Kl X (.builtin "len") (λxs H Q=>∃x n,xs=[x]/\Ft X.K x H n/\Q (.int n) H):=by
 intro pins s B H xs C Q I r h;obtain⟨x,n,rfl,e,q⟩:=h;obtain⟨u,rfl,l⟩:=vals1 r;have E:=Jt;cases x with
 |str y=>
  obtain⟨t,rfl⟩:=l;obtain⟨A,g⟩:=e;subst g;exact len_str (by lia) ⟨.int _,H,I.tok _,⟨_,rfl⟩,q⟩
 |byt y=>
  obtain⟨t,rfl⟩:=l;obtain⟨A,g⟩:=e;subst g;exact PySem.W.len_bytes (by lia) ⟨.int _,H,I.tok _,⟨_,rfl⟩,q⟩
 |ref p=>
  cases l
  have g:=e;rcases g with⟨xs,hx,g⟩|⟨xs,hx,g⟩
  ·subst g;obtain⟨w,o,v,z⟩:=I.list hx;have f:=o.length;exact Calls.call_len_list v.isList (by simp only[Qr];lia) ⟨.int xs.length,H,I.tok _,⟨_,by simp only[Qr];rw[f]⟩,q⟩
  ·subst g;obtain⟨w,o,v,z⟩:=I.tuple hx;have f:=o.length;exact len_tuple v (by simp only[Qr];lia) ⟨.int xs.length,H,I.tok _,⟨_,by simp only[Qr];rw[f]⟩,q⟩
 |_=>exact e.elim
end
structure N6 (h:Heap) (x dx C:Addr) (mA:Yg):Prop where
 obj:h.get? x=some (PySem.W.instObj C dx)
 ns:h.Ns1 dx mA
 ne:dx≠x
def LU{h:Heap}{dx}{mA}(n:h.Ns1 dx mA):∃od,h.get? dx=some od/\∀name,PySem.W.lookIn name od=some (mA name):=by
 obtain⟨o,s,u,l,hd,r,_,p⟩:=n;refine⟨o,l,λname=>?_⟩;have e:=p name;unfold nsFind findBy at e;unfold PySem.W.lookIn;rw[hd]
 dsimp only
 split
 ·grind
 ·rename_i q
  have a:s.toList.any (·.refKey)=false:=by
   rw[List.any_eq_false];intro y g;obtain⟨z,t,f⟩:=r y (Array.mem_toList_iff.mp g);simp[DictEntry.refKey,f]
  grind
def N6.look (I:N6 h x n C f):∃od,PySem.W.InstAt h x (PySem.W.instObj C n) C (some od)/\∀name,PySem.W.lookIn name od=some (f name):=
 let ⟨od,g,l⟩:=LU I.ns
 ⟨od,⟨I.obj,rfl,rfl,g⟩,l⟩
section
variable {prog:Program}{w:World}{A:Around}{E:Yh}{s:Shared}{K:Yc}{x dx C f:Addr}{mA:Yg}{name:Str}{v:Value}
def Zjc{Q}(X:K.In s.heap)(I:N6 s.heap x dx C mA)(n:PySem.W.plainGet K C name=true)(l:PySem.W.hasDictIn K C=true)(o:PySem.W.findIn K (.ref C) name=some none)(r:mA name=some v)(g:PySem.W.handedIn v=true)(h:Q v {s with toks:=s.toks+1}) :
  wpAny (model prog w) A (getAttr (.ref x) name expr) Q E s:=by
 obtain⟨p,J,u⟩:=I.look;exact PySem.W.get_value X J (JI n).1 (PySem.W.findObj_own l o rfl<|by grind) g h
def Zc6{Q}(X:K.In s.heap)(I:N6 s.heap x dx C mA)(g:PySem.W.plainGet K C name=true)(r:PySem.W.findIn K (.ref C) name=some (some<|.ref f))(o:PySem.W.isFn K (.ref f)=true)(n:mA name=none)(h:Q (.ref f,[.ref x]) s) :
  wpAny (model prog w) A (getMethod (.ref x) name u) Q E s:=by
 obtain⟨l,J,p⟩:=I.look;exact PySem.W.method_fn X J (JI g).1 (JI g).2 r (beq_iff_eq.mp o) (by show(PySem.W.lookIn name l).map (·.isSome)=some false;rw[p,n];rfl) h
def Zmj(X:K.In s.heap)(I:N6 s.heap x dx C mA)(hs:PySem.W.findIn K (.ref C) "__setattr__"=some (some<|.builtin "object.__setattr__"))(B:PySem.W.plainOver K C=true)(z:PySem.W.takerIn K C name=some none)(G:PySem.W.hasDictIn K C=true)(hw:PySem.Within mA ns)(hsz:ns.length<=sizeLine)(h:∀n,N6 n x dx C (λy=>if y=name then some v else mA y)->Heap.SameBut dx s.heap n->Q () {s with heap:=n,toks:=s.toks+2}) :
  wpAny (model prog w) A (setAttr (.ref x) name v) Q E s:=by
 obtain⟨N,J,U⟩:=I.look;refine PySem.W.set_plain X J hs (PySem.W.osa_open X J B z λb=>?_);obtain⟨Y,H,r⟩:=Jy G;refine WE (WK<|WE<|WE<|wpAny_loadPart I.obj<|WE<|JP (JJ X H) ?_);rw[r];refine WK (WE<|WK<|WE ?_);refine wpAny_nsSet1 I.ns λn l g=>?_;obtain⟨T,L,M,o,p,u⟩:=l.count (PySem.Within.cons name v hw);refine WE (wpAny_lookBehind o (by rw[p];exact pastItsLine_dict (WV u<|by grind)) ?_);exact WK (h _ ⟨(g.2 _<|Ne.symm I.ne).trans I.obj,l,I.ne⟩ g)
def Zqp{vs g}(X:K.In s.heap)(l:PySem.W.makesIn K C=true)(n:PySem.W.findIn K (.ref C) "__init__"=some (some<|.ref f))(o:PySem.W.typeIn K (.ref f)=some (.type "function"))
  (h:codeAny (model prog w) (A.under<|.builtin "type.__call__" ⟨.ref C::vs,g⟩) (.call (.ref f) ⟨.ref (s.heap.objs.size+1)::vs,g⟩) (PySem.W.InitBack (s.heap.objs.size+1) R)
   {s with heap:=(s.heap.push PySem.W.emptyDict).push (PySem.W.instObj C s.heap.objs.size)}) :
  codeAny (model prog w) A (.call (.ref C) ⟨vs,g⟩) R s:=PySem.W.make_core (PySem.W.makes_of X l) (QS X n) (λself=>PySem.W.bind_fn X self o) (.inl rfl) h
end
noncomputable def KH(f:Str)(v:V):List (Str×V)->List (Str×V)
 |[]=>[(f,v)]
 |(g,x)::r=>if g=f then(g,v)::r else(g,x)::KH f v r
theorem Mi(f g:Str)(v:V):∀fs,(KH f v fs).lookup g=if g=f then some v else fs.lookup g
 |[]=>by
  show List.lookup g [(f,v)]=_;by_cases h:g=f
  ·have l:=beq_iff_eq.mpr h;simp only[List.lookup,l,WO h]
  ·have l:=Vm.mpr h;simp only[List.lookup,l,WM h]
 |(k,x)::r=>by
  rw[show KH f v ((k,x)::r)=(if k=f then(k,v)::r else(k,x)::KH f v r)from rfl]
  by_cases n:k=f
  ·rw[WO n];by_cases h:g=k
   ·simp_all
   ·have l:=Vm.mpr h;simp only[List.lookup,l,WM (λe:g=f=>h (e.trans n.symm))]
  ·rw[WM n];by_cases h:g=k
   ·simp_all
   ·have l:=Vm.mpr h;simp only[List.lookup,l];exact(Mi f g v r)
theorem AM(f:Str)(v:V):∀fs,f∈(KH f v fs).map (·.1)/\∀g,g∈fs.map (·.1)->g∈(KH f v fs).map (·.1)
 |[]=>⟨by simp[KH],λg h=>by simp at h⟩
 |(k,x)::r=>by
  obtain⟨n,l⟩:=AM f v r;rw[show KH f v ((k,x)::r)=(if k=f then(k,v)::r else(k,x)::KH f v r)from rfl]
  by_cases o:k=f
  ·grind
  ·grind
theorem IM(f:Str)(v:V):∀fs,(KH f v fs).length<=fs.length+1
 |[]=>by simp[KH]
 |(k,x)::r=>by
  have g:=IM f v r;rw[show KH f v ((k,x)::r)=(if k=f then(k,v)::r else(k,x)::KH f v r)from rfl]
  by_cases h:k=f
  ·grind
  ·grind
def RelO.some_of (r:RelO (some v) o):∃u,o=some u/\RelV v u:=by
 cases o with
 |none=>trivial
 |some u=>exact⟨u,rfl,r⟩
def RelO.none_of (r:RelO none o):o=none:=by
 cases o with
 |none=>rfl
 |some u=>trivial
def Oh(r:RelV v u):PySem.W.handedIn u=true:=by
 cases v with
 |non|bl b|ref a|ty n=>cases r;rfl
 |_=>obtain⟨t,e⟩:=r;cases e;rfl
section
variable {P:Program}{w:World}{H H':Hp}{h h':Heap}{a C dx:Addr}{fs fs':List (Str×V)}
def Ar(l:HOk P w H h)(e:H a=some (.ins C dx fs)):∃g,N6 h a dx C g/\(∀f,RelO (fs.lookup f) (g f))/\PySem.Within g (fs.map (·.1))/\fs.length<=1000/\H dx=some (.own a):=by
 obtain⟨d,z,p,o,g,n,r,q⟩:=(l a _ e);exact⟨g,⟨o,n,p⟩,r,q,z,d⟩
end
structure Cls (K:Yc) (C:Addr):Prop where
 pg:PySem.W.plainGet K C Str.empty=true
 hd:PySem.W.hasDictIn K C=true
 po:PySem.W.plainOver K C=true
 sa:PySem.W.findIn K (.ref C) "__setattr__"=some (some<|.builtin "object.__setattr__")
def Cls.get {K C} (c:Cls K C) (f:Str):PySem.W.plainGet K C f=true:=c.pg
def NoAttr(K:Yc)(C:Addr)(f:Str):Prop:=PySem.W.findIn K (.ref C) f=some none
def NoAttr.taker {K C f} (n:NoAttr K C f):PySem.W.takerIn K C f=some none:=by
 unfold PySem.W.takerIn;rw[show PySem.W.findIn K (.ref C) f=some none from n]
 rfl
structure XB (K:Yc) (C:Addr) (m:Str) (f:Addr):Prop where
 at_:PySem.W.findIn K (.ref C) m=some (some<|.ref f)
 fn:PySem.W.isFn K (.ref f)=true
 kp:PySem.W.keepIn K (.ref f)=true
section
variable {X:Cx}{pins:Yf}{σ:St}{H:Hp}{s:Shared}{a C dx:Addr}{fs:List (Str×V)}{f:Str}{v:V}{A:Around}{E:Yh}
def Zbj{Q}(I:Inv X pins σ H s)(e:H a=some (.ins C dx fs))(c:Cls X.K C)(n:NoAttr X.K C f)(l:fs.lookup f=some v)(h:∀u g,Inv X pins σ H g->RelV v u->Q u g):wpAny (model X.prog X.w) A (getAttr (.ref a) f b) Q E s:=by
 obtain⟨x,O,r,_,_,_⟩:=Ar I.hok e;obtain⟨u,p,o⟩:=RelO.some_of (by rw[←l];exact r f);exact Zjc I.kIn O (c.get f) c.hd n p (Oh o) (h u _ (I.tok _) o)
def F1{Q}(I:Inv X pins σ H s)(e:H a=some (.ins C dx fs))(c:Cls X.K C)(k:XB X.K C m g)(l:fs.lookup m=none)(h:Q (.ref g,[.ref a]) s):wpAny (model X.prog X.w) A (getMethod (.ref a) m n) Q E s:=by
 obtain⟨o,O,r,_,_,_⟩:=Ar I.hok e;exact Zc6 I.kIn O (c.get m) k.at_ k.fn (RelO.none_of<|by rw[←l];exact r m) h
def Zkt(I:Inv X pins σ H s)(e:H a=some (.ins C dx fs))(c:Cls X.K C)(n:NoAttr X.K C f)(hl:fs.length<1000)(J:RelV y u)(h:∀x,Inv X pins σ (upd H a<|.ins C dx<|KH f y fs) x->Q () x):wpAny (model X.prog X.w) A (setAttr (.ref a) f u) Q E s:=by
 obtain⟨L,O,r,p,_,B⟩:=Ar I.hok e;have M:(fs.map (·.1)).length<=sizeLine:=by rw[WG,Jt];lia
 refine Zmj I.kIn O c.sa c.po n.taker c.hd p M λU l G=>h _ ?_;have hd:∃o,U.get? dx=some o:=let ⟨o,_,_,Y,_⟩:=l.ns;⟨o,Y⟩;refine I.write (by rw[e];exact True.intro) (.inr B) (λb q T z=>(G.2 b T).trans z) hd ?_;refine⟨by rw[Xw O.ne];exact B,?_,O.ne,l.obj,_,l.ns,λg=>?_,λg N=>?_⟩
 ·have:=IM f y fs;lia
 ·show RelO ((KH f y fs).lookup g) (if g=f then some u else L g);rw[Mi];by_cases q:g=f
  ·rw[WO q,WO q];exact J
  ·grind
 ·by_cases q:g=f
  ·rw[q];exact(AM f y fs).1
  ·refine(AM f y fs).2 g (p g λz=>N ?_)
   grind
def Inv.made (I:Inv X pins σ H s):Inv X pins σ (upd (upd H s.heap.objs.size<|.own (s.heap.objs.size+1)) (s.heap.objs.size+1)<|.ins C s.heap.objs.size [])
  {s with heap:=(s.heap.push PySem.W.emptyDict).push (PySem.W.instObj C s.heap.objs.size)}:=by
 have h:(s.heap.push PySem.W.emptyDict).get? s.heap.objs.size=some PySem.W.emptyDict:=WX s.heap rfl
 have r:((s.heap.push PySem.W.emptyDict).push (PySem.W.instObj C s.heap.objs.size)).get? (s.heap.objs.size+1)=some (PySem.W.instObj C s.heap.objs.size):=by
  have:=WX (s.heap.push PySem.W.emptyDict) (o:=PySem.W.instObj C s.heap.objs.size) rfl
  rwa[Vo]at this
 have p:(s.heap.push PySem.W.emptyDict).Ns s.heap.objs.size (λ_=>none):=⟨PySem.W.emptyDict,#[],_,h,rfl,(λe n=>absurd n (by simp)),λ_=>rfl⟩;refine(I.laid (o:=.own (s.heap.objs.size+1)) (t':=s.toks) (λb u q=>WL _ q) (WQ _) ⟨_,h⟩).laid (λb u q=>WL _ q) (Vh<|Vo _ _) ?_;have g:s.heap.objs.size≠s.heap.objs.size+1:=Qj (V7 _);refine⟨by rw[Xw g,X9],QV _,g,r,λ_=>none,(Heap.Ns1.of_empty p).at λo q=>WL _ q,λ_=>True.intro,λy l=>absurd rfl l⟩
def Ij{env e f pos s Q}(l:attributeBase e f env (eval e env)=eval e env)(h:wpAny (model prog w) A (eval e env) (λo g=>wpAny (model prog w) A (getAttr o f true) Q E g) E s):wpAny (model prog w) A (eval (.Attribute e f pos) env) Q E s:=
 Attribute_any_ h (by rw[arm_eval_Attribute,l])
end
noncomputable def F2(K:Yc)(l:TE)(f:Str):TE:=λh H Q=>l h H λx g=>∃a C n fs v,x=.ref a/\g a=some (.ins C n fs)/\Cls K C/\NoAttr K C f/\fs.lookup f=some v/\Q v g
noncomputable def Zai(K:Yc)(o n:TE)(f:Str):TS:=λD g H=>n g H λy p=>o g p λx l=>∃a C h fs,x=.ref a/\l a=some (.ins C h fs)/\Cls K C/\NoAttr K C f/\fs.length<1000/\
 D.nx g (upd l a<|.ins C h<|KH f y fs)
section
variable {X:Cx}{o e value:Expr}{f:Str}{pos pos' tpos:Pos}{ta tv:TE}
def PM(w:PE X e ta)(y:attributeBase e f X.env (eval e X.env)=eval e X.env):PE X (.Attribute e f pos) (F2 X.K ta f):=by
 intro pins s g H Q I h;refine Ij y (thn (w pins s g H _ I h) ?_);rintro u M ⟨x,G,E,p,a,C,N,fs,v,z,A,c,n,l,q⟩;subst z;obtain rfl:=p;exact Zbj E A c n l λJ L B r=>⟨v,G,B,r,q⟩
def ER(A:PE X o ta)(z:PE X value tv)(hs:swapsWith value (some<|.Attribute o f pos') pos.line X.env=pure false):PS X (.Assign [.Attribute o f pos'] value pos) (Zai X.K ta tv f):=by
 intro pins s g H D I h;refine plainObj_wpAny_Assign_Attribute (thn (z pins s g H _ I h) ?_) hs;rintro u p ⟨y,M,L,r,q⟩;refine thn (A pins p g M _ L q) ?_;rintro T Q ⟨x,Y,J,v,a,C,U,fs,B,E,c,n,l,w⟩;subst B;obtain rfl:=v;exact Zkt J E c n l r λN G=>⟨g,_,G,w⟩
def Zse{m}{apos}{args}{pins}{s}{n:St}{H}{Q}{te}(G:PE X e te)(I:Inv X pins n H s)
  (h:te n H λx r=>∃a C y fs g,x=.ref a/\r a=some (.ins C y fs)/\Cls X.K C/\XB X.K C m g/\fs.lookup m=none/\
   ∀p,Inv X pins n r p->wpAny (model X.prog X.w) X.A (callWith pos (.ref g) [.ref a] (backTo pos<|starEach args X.env)<|backToKw pos<|keywordEach [] X.env) Q X.xe p)
  (E:eval (.Call (.Attribute e m apos) args [] pos) X.env=(do
   let v ←eval e X.env
   standAt apos.atName
   let (f,first) ←holding [v] (getMethod v m M)
   callWith pos f first (backTo pos<|starEach args X.env) (backToKw pos<|keywordEach [] X.env))) :
  wpAny (model X.prog X.w) X.A (eval (.Call (.Attribute e m apos) args [] pos) X.env) Q X.xe s:=by
 refine VN (thn (G pins s n H _ I h) ?_) E;rintro u p ⟨x,r,z,B,a,C,y,fs,g,J,L,c,k,l,q⟩;subst J;obtain rfl:=B;exact F1 z L c k l (q p z)
end
section
variable {X:Cx}{pins:Yf}{σ:St}{H:Hp}{s:Shared}{A:Around}{E:Yh}{Q:Yh}{c:Value}{b:Bool}
inductive KR (K:Yc) (H:Hp):V->Value->Prop where
 |non:KR K H .non (.type "NoneType")
 |bl (x:Bool):KR K H (.bl x) (.type "bool")
 |int (i:Int):KR K H (.int i) (.type "int")
 |str (x:Str):KR K H (.str x) (.type "str")
 |flt (x:UInt64):KR K H (.flt x) (.type "float")
 |lst {a:Addr} {xs:List V} (e:H a=some (.lst xs)):KR K H (.ref a) (.type "list")
 |frz {a:Addr} {o:Obj} {xs:List V} (e:H a=some (.frz o<|.lst xs)):KR K H (.ref a) (.type "list")
 |tup {a:Addr} {xs:List V} (e:H a=some (.tup xs)):KR K H (.ref a) (.type "tuple")
 |dK {a:Addr} {kvs:List (Key×V)} (e:H a=some (.dK kvs)):KR K H (.ref a) (.type "dict")
 |dT {a:Addr} {kvs:List (List Key×V)} (e:H a=some (.dT kvs)):KR K H (.ref a) (.type "dict")
 |ins {a C dx:Addr} {fs:List (Str×V)} (e:H a=some (.ins C dx fs)) (cl:Cls K C) (ha:PySem.W.findIn K (.ref C) "__class__"=some (some<|.builtin "object.__class__"))
   (hn:PySem.W.specialIn K (.builtin "object.__class__") "__get__"=some (some<|.builtin "getset_descriptor.__get__")) (htk:PySem.W.takesIn K (.builtin "object.__class__")=some true)
   (hm:PySem.W.mroIn K C (.type "object")=some true):KR K H (.ref a) (.ref C)
def Zlj(I:Inv X pins σ H s)(f:RelV x u)(L:KR X.K H x t)(e:PySem.W.kitOne X.K t c=some b)(h:∀M,Q (.bool b) {s with toks:=M}) :
  wpAny (model X.prog X.w) A (call (.builtin "isinstance") [u,c]) Q E s:=by
 cases L with
 |non=>cases f;exact QH PySem.W.kitx_none I.kIn True.intro e (λz=>nomatch z) h
 |bl y=>cases f;exact QH PySem.W.kitx_bool I.kIn True.intro e (λz=>nomatch z) h
 |int i=>obtain⟨t,q⟩:=f;cases q;exact QH PySem.W.kitx_int I.kIn True.intro e (λz=>nomatch z) h
 |str y=>obtain⟨t,q⟩:=f;cases q;exact QH PySem.W.kitx_str I.kIn True.intro e (λz=>nomatch z) h
 |flt y=>obtain⟨t,q⟩:=f;cases q;exact QH PySem.W.kitx_float I.kIn True.intro e (λz=>nomatch z) h
 | @lst a xs g=>
  cases f
  obtain⟨_,_,n,_,l⟩:=(I.hok a _ g);exact QH PySem.W.kitx_list I.kIn ⟨_,l,rfl⟩ e (λz=>nomatch z) h
 | @frz a ob xs g=>
  cases f
  obtain⟨_,_,_,n,_,l⟩:=(I.hok a _ g);exact QH PySem.W.kitx_list I.kIn ⟨_,l,rfl⟩ e (λz=>nomatch z) h
 | @tup a xs g=>
  cases f
  obtain⟨_,_,_,p⟩:=(I.hok a _ g);obtain⟨o,l,r,_⟩:=p;exact QH PySem.W.kitx_tuple I.kIn ⟨o,l,r⟩ e (λz=>nomatch z) h
 | @dK a v g=>
  cases f
  obtain⟨_,_,vs,_,p⟩:=(I.hok a _ g);obtain⟨o,Y,ep,l,r,_⟩:=p;exact QH PySem.W.kitx_dict I.kIn ⟨o,l,r.1⟩ e (λz=>nomatch z) h
 | @dT a v g=>
  cases f
  obtain⟨_,_,xs,_,o,Y,ep,l,r,_⟩:=(I.hok a _ g);exact QH PySem.W.kitx_dict I.kIn ⟨o,l,r.1⟩ e (λz=>nomatch z) h
 | @ins a C dx fs g G U N B T=>
  cases f
  obtain⟨mA,O,_⟩:=Ar I.hok g;obtain⟨od,J,_⟩:=O.look;exact QH (PySem.W.kitx_own (G.get _) G.hd U N B T) I.kIn J e (λz=>nomatch z) h
end
structure Xz (k:Nat) (A:Around):Prop where
 hd:A.handled=none
 dp:A.depth+3*k+5<recursionLimit
 un:A.units+16*k+200<cLine
 gd:A.guards=some []
def Xz.mono {j k A} (r:Xz k A) (h:j<=k):Xz j A:=⟨r.hd,by have:=r.dp;lia,by have:=r.un;lia,r.gd⟩
def Xz.deeper (r:Xz (k+1) A) (env:Env):Xz k (A.deeper env):=
 ⟨r.hd,by have:=r.dp;show A.depth+1+3*k+5<_;lia,by have:=r.un;show A.units+3+16*k+200<_;lia,r.gd⟩
def Zif{A:Around}{C}{us}{kw}:(A.under<|.builtin "type.__call__" ⟨.ref C::us,kw⟩).depth=A.depth+1:=by
 rfl
def Zmu{A:Around}{C}{us}{kw}:(A.under<|.builtin "type.__call__" ⟨.ref C::us,kw⟩).units=A.units+1:=rfl
def Zr4{A:Around}{C:Addr}{us:Yk}{f:List (Str×Value)}(h:A.guards=some []):(A.under<|.builtin "type.__call__" ⟨.ref C::us,f⟩).guards=some []:=by
 simpa [Around.under,Code.guards,Code.isGuard,guardIds,pushGuards]using h
def Xz.make (r:Xz (k+1) A) (C:Addr) (us:Yk) (f:List (Str×Value)):Xz k (A.under<|.builtin "type.__call__" ⟨.ref C::us,f⟩):=
 ⟨r.hd,by have:=r.dp;rw[Zif];lia,by have:=r.un;rw[Zmu];lia,Zr4 r.gd⟩
def Xz.depth (r:Xz k A):A.depth<recursionLimit:=by have:=r.dp;lia
def Xz.units (r:Xz k A):A.units+64<cLine:=by have:=r.un;lia
def Xz.units0 (r:Xz k A):A.units<cLine:=by have:=r.un;lia
noncomputable def KP:TA:=λ_ H Q=>Q [] H
noncomputable def Kv(h:TE)(g:TA):TA:=λf H Q=>h f H λx n=>g f n λxs l=>Q (x::xs) l
section
variable {X:Cx}{e:Expr}{es:Ym}{te:TE}{t:TA}{pos:Pos}
def KB:PA X [] KP:=λ_ _ _ _ H Q I h=>Calls.spliced_nil ⟨[],H,I,.nil,h⟩
def XY(v:PE X e te)(r:PA X es t)(hs:autoParam (starEach (e::es) X.env=(false,eval e X.env)::starEach es X.env) au_0):PA X (e::es) (Kv te t):=by
 intro pos pins s f H Q I h;rw[hs];refine Calls.spliced_cons (thn (v pins s f H _ I h) ?_);rintro u g ⟨x,A,y,n,p⟩;exact thn (r pos pins g f A _ y p) λB C ⟨xs,z,w,l,o⟩=>⟨x::xs,z,w,.cons n l,o⟩
noncomputable def MF(t:TA):TE:=λg H Q=>t g H λxs f=>xs.length<=sizeLine/\∀p,f p=none->Q (.ref p) (upd f p<|.tup xs)
noncomputable def GH(t:TA):TE:=λg H Q=>t g H λxs f=>xs.length<=sizeLine/\∀p,f p=none->Q (.ref p) (upd f p<|.lst xs)
def PY(h:PA X es t):PE X (.Tuple es p pos) (MF t):=by
 intro pins s l H Q I hq;refine wpAny_Tuple_spliced (thn (h pos pins s l H _ I hq) ?_);rintro n f ⟨xs,o,g,r,z,q⟩;refine⟨by rw[←r.length];exact z,?_⟩;refine⟨.ref f.heap.objs.size,upd o f.heap.objs.size (.tup xs),g.laid (λb u e=>WL _ e) (WQ _) ?_,rfl,q _ (g.hok.fresh<|WQ _)⟩;exact⟨z,n,r,⟨_,WX _ rfl,rfl,_,rfl⟩⟩
def KG(h:PA X es t):PE X (.List es pos) (GH t):=by
 intro pins s l H Q I hq;refine wpAny_List_spliced (thn (h pos pins s l H _ I hq) ?_);rintro n f ⟨xs,o,g,r,z,q⟩;refine⟨by rw[←r.length];exact z,?_⟩;refine⟨.ref f.heap.objs.size,upd o f.heap.objs.size (.lst xs),g.laid (λb u e=>WL _ e) (WQ _) ?_,rfl,q _ (g.hok.fresh<|WQ _)⟩;exact⟨z,n,0,r,WX _ rfl⟩
end
abbrev Sp:=List V->Hp->VK->XK->Prop
abbrev CXT:=List Env->Hp->Shared->XK->Yh
structure N5 (P:Program) (w:World) (K:Yc) (mg:Yg) (base:Heap) (A:Around) (outer:List Env) (s:Shared) (H:Hp):Prop where
 frames:A.frames=some outer
 mod:Mod K mg base
 bs:∀b o,base.get? b=some o->s.heap.get? b=some o/\H b=none
 bsz:base.objs.size<=s.heap.objs.size
 funs:s.heap.FunFrames base outer
 frf:∀b∈frs outer,H b=none
 hok:HOk P w H s.heap
 bare:AllBare s.gens
def CE(outer:List Env)(P:Program)(w:World)(H:Hp)(s:Shared)(Q:VK)(u:Value)(f:Shared):Prop:=
 ∃v g,f.os=s.os/\AllBare f.gens/\Un (frs outer) [] H g s.heap f.heap/\HOk P w g f.heap/\RelV v u/\Q v g
def CR(CX:CXT)(outer:List Env)(P:Program)(w:World)(H:Hp)(s:Shared)(Q:VK)(E:XK)(r:Result)(f:Shared):Prop:=
 match r with
 | .ok (.ret u)=>CE outer P w H s Q u f
 | .ok _=>False
 | .error e=>CX outer H s E e f
structure K9 (P:Program) (w:World) (K:Yc) (mg:Yg) (base:Heap) (CX:CXT) (k:Nat) (f:Addr) (fd:FuncData) (ps:Yl) (sp:Sp):Prop where
 len:∀vs H Q E,sp vs H Q E->vs.length=ps.length
 run:∀(A:Around) (outer:List Env) (s:Shared) (H:Hp) (args:Args) (us:Yk) (vs:List V) (Q:VK) (E:XK),Xz k A->N5 P w K mg base A outer s H->BindsTo s fd args (ps.zip us)->Vals vs us->sp vs H Q E->
  codeAny (model P w) A (.call (.ref f) args) (CR CX outer P w H s Q E) s
def K9.imp {K l base CX k f n ps sp g} (F:K9 P w K l base CX k f n ps sp)
  (h:∀vs H Q E,g vs H Q E->sp vs H Q E):K9 P w K l base CX k f n ps g:=
 ⟨λvs H Q E q=>F.len vs H Q E (h _ _ _ _ q),λA outer s H args o vs Q E u v x p r=>F.run A outer s H args o vs Q E u v x p (h _ _ _ _ r)⟩
def N5.make {K f base A outer s H} (e:N5 P w K f base A outer s H) (C:Addr) (us:Yk) (g:List (Str×Value)) :
  N5 P w K f base (A.under<|.builtin "type.__call__" ⟨.ref C::us,g⟩) outer s H:=⟨by first|exact e.frames|(simpa [Around.under,Code.envs,Code.isFrame,pushEnvs]using e.frames),e.mod,e.bs,e.bsz,e.funs,e.frf,e.hok,e.bare⟩
section
variable {X:Cx}{pins:Yf}{σ:St}{H:Hp}{s s':Shared}
def Inv.env0 (I:Inv X pins σ H s):N5 X.prog X.w X.K X.mg X.base X.A X.stack s H:=
 ⟨I.ok.frames,I.ok.mod,I.bs,WV I.ok.bsz I.sz,I.stack,I.stkFree,I.hok,I.bare⟩
def Inv.after (I:Inv X pins σ H s) (h:CE X.stack X.prog X.w H s Q u s'):EP X pins σ Q u s':=by
 obtain⟨v,n,os,bare,un,f,r,q⟩:=h;obtain⟨o,g,d,t,l⟩:=s';obtain rfl:=os;exact⟨v,n,I.call un f bare (λb z=>absurd z (by simp)),r,q⟩
end
noncomputable def Nh(sp:Sp)(f:List V)(E:XK)(t:TA):TE:=λg H Q=>t g H λh l=>sp (h++f) l Q E
noncomputable def Ng(C:Addr)(m:Str)(sp:Sp)(f:List V)(E:XK)(n:TE)(t:TA):TE:=λg H Q=>n g H λx h=>∃a o fs,x=.ref a/\h a=some (.ins C o fs)/\fs.lookup m=none/\
 t g h λl p=>sp (x::(l++f)) p Q E
noncomputable def A5(C:Addr)(sp:Sp)(g:List V)(E:XK)(t:TA):TE:=λl H Q=>t l H λn h=>∀x f,h x=none->h f=none->f≠x->
 sp (.ref x::(n++g)) (upd (upd h f<|.own x) x<|.ins C f []) (λv o=>v=.non/\Q (.ref x) o) E
def Binds(K:Yc)(g:FuncData)(ps:Yl)(ds:Yk):Prop:=
 ∀(s:Shared) (f:Yk),K.In s.heap->(f++ds).length=ps.length->BindsTo s g ⟨f,[]⟩ (ps.zip (f++ds))
def Binds.all {K g ps} (h:∀us,us.length=ps.length->bindArgs g ⟨us,[]⟩=pure (ps.zip us)):Binds K g ps []:=λs us _ f=>by
 rw[Q1]at f ⊢;exact .of_eq (h us f)
def Pz(CX:CXT)(X:Cx)(E:XK):Prop:=∀(pins:Yf) (g:St) (H:Hp) (s:Shared) (e:Value) (f:Shared),Inv X pins g H s->CX X.stack H s E e f->X.xe e f
section
variable {X:Cx}{CX:CXT}{k:Nat}{f C:Addr}{fd:FuncData}{ps:Yl}{sp:Sp}{dvs:List V}{ds:Yk}{E:XK}{x m:Str}{p pos apos:Pos}{e o:Expr}{es:Ym}{ta:TE}{t:TA}
def DX{g:St}{H}{s}{Q}{us}{vs}(F:K9 X.prog X.w X.K X.mg X.base CX k f fd ps sp)(v:Xz k X.A)(z:Binds X.K fd ps ds)(hd:Vals dvs ds)(hx:Pz CX X E)(I:Inv X pins g H s)(r:Vals vs us)(h:sp (vs++dvs) H Q E):wpAny (model X.prog X.w) X.A (call (.ref f) us) (EP X pins g Q) X.xe s:=by
 have l:=r.append hd;have y:(us++ds).length=ps.length:=by rw[←l.length];exact F.len _ _ _ _ h
 refine JA (Vt (F.run X.A X.stack s H ⟨us,[]⟩ (us++ds) (vs++dvs) Q E v I.env0 (z s us I.kIn y) l h) λr n hq=>?_);cases r with
 |error e=>exact hx pins g H s e n I hq
 |ok B=>
  cases B with
  |ret u=>exact I.after hq
  |cont=>exact False.elim hq
  |_=>trivial
def Znt(F:K9 X.prog X.w X.K X.mg X.base CX k f fd ps sp)(v:Xz k X.A)(B:Gl X x)(y:X.mg x=some (.ref f))(z:PySem.W.keepIn X.K (.ref f)=true)(J:Binds X.K fd ps ds)(hd:Vals dvs ds)(hx:Pz CX X E)(L:PA X (e::es) t)(l:autoParam ((x==("__debug__" : Str))=false) au_1)(G:autoParam (starEach (e::es) X.env=(false,eval e X.env)::starEach es X.env) au_0)(g:autoParam ((backTo pos<|starEach es X.env).any (·.1)=false) au_0) :
  PE X (.Call (.Name x p) (e::es) [] pos) (Nh sp dvs E t):=by
 intro pins s u H Q I h;refine VY (Sz I B y ?_ l);refine JQ I.ok.mod.kin z (thn (L pos pins s u H _ I h) ?_) G g;rintro N T ⟨M,U,n,r,q⟩;refine⟨n.kIn,?_⟩;exact DX F v J hd hx n r q
def Zla{pl}(U:PE X o ta)(c:Cls X.K C)(z:XB X.K C m f)(F:K9 X.prog X.w X.K X.mg X.base CX k f fd ps sp)(T:Xz k X.A)(Y:Binds X.K fd ps ds)(hd:Vals dvs ds)(hx:Pz CX X E)(ha:PA X (e::es) t)(g:autoParam (starEach (e::es) X.env=(false,eval e X.env)::starEach es X.env) au_0)(n:autoParam ((backTo pos<|starEach es X.env).any (·.1)=false) au_0)
  (N:autoParam (eval (.Call (.Attribute o m apos) (e::es) [] pos) X.env=(do
   let y ←eval o X.env
   standAt apos.atName
   let (f,first) ←holding [y] (getMethod y m pl)
   callWith pos f first (backTo pos<|starEach (e::es) X.env) (backToKw pos<|keywordEach [] X.env))) au_0) :
  PE X (.Call (.Attribute o m apos) (e::es) [] pos) (Ng C m sp dvs E ta t):=by
 intro pins s v H Q I h;refine VN (thn (U pins s v H _ I h) ?_) N;rintro u J ⟨x,H1,G,L,a,dx,fs,ex,ea,l,q⟩;subst ex;obtain rfl:=L;refine F1 G ea c z l ?_;refine JQ I.ok.mod.kin z.kp (thn (ha pos pins J v H1 _ G q) ?_) g n;rintro us s2 ⟨vs,H2,B,r,M⟩;refine⟨B.kIn,?_⟩;exact DX (vs:=.ref a::vs) F T Y hd hx B (.cons rfl r) M
def Zbx(G:PE X o ta)(c:Cls X.K C)(r:XB X.K C m f)(F:K9 X.prog X.w X.K X.mg X.base CX k f fd ps sp)(B:Xz k X.A)(J:Binds X.K fd ps ds)(hd:Vals dvs ds)(hx:Pz CX X E)
  (z:autoParam (eval (.Call (.Attribute o m apos) [] [] pos) X.env=(do
   let n ←eval o X.env
   standAt apos.atName
   let (f,first) ←holding [n] (getMethod n m T)
   callWith pos f first (backTo pos<|starEach [] X.env) (backToKw pos<|keywordEach [] X.env))) au_0) :
  PE X (.Call (.Attribute o m apos) [] [] pos) (Ng C m sp dvs E ta KP):=by
 intro pins s v H Q I h;refine VN (thn (G pins s v H _ I h) ?_) z;rintro u N ⟨x,Y,g,y,a,U,fs,L,M,l,q⟩;subst L;obtain rfl:=y;refine F1 g M c r l ?_;exact PySem.W.callWith_K0 g.kIn r.kp (DX (vs:=[.ref a]) F B J hd hx g (.cons rfl .nil) q)
structure Mk (K:Yc) (C f:Addr):Prop where
 makes:PySem.W.makesIn K C=true
 init:PySem.W.findIn K (.ref C) "__init__"=some (some<|.ref f)
 fn:PySem.W.isFn K (.ref f)=true
 kp:PySem.W.keepIn K (.ref C)=true
def Zh2{y:St}{H}{s}{Q}{us}{vs}(M:Mk X.K C f)(F:K9 X.prog X.w X.K X.mg X.base CX k f fd ps sp)(L:Xz (k+1) X.A)(T:Binds X.K fd ps ds)(hd:Vals dvs ds)(hx:Pz CX X E)(I:Inv X pins y H s)(r:Vals vs us)(h:∀x l,H x=none->H l=none->l≠x->sp (.ref x::(vs++dvs)) (upd (upd H l<|.own x) x<|.ins C l []) (λv H2=>v=.non/\Q (.ref x) H2) E) :
  wpAny (model X.prog X.w) X.A (call (.ref C) us) (EP X pins y Q) X.xe s:=by
 have hq:=h (s.heap.objs.size+1) s.heap.objs.size (I.hok.fresh<|VJ _) (I.hok.fresh<|WQ _) (Qj<|V7 _);have n:=Inv.made (C:=C) I;have z:Vals (V.ref (s.heap.objs.size+1)::(vs++dvs)) (Value.ref (s.heap.objs.size+1)::(us++ds)):=.cons rfl (r.append hd)
 have N:(Value.ref (s.heap.objs.size+1)::us++ds).length=ps.length:=by
  have e:=z.length;rw[F.len _ _ _ _ hq]at e
  grind
 refine JA (Zqp I.kIn M.makes M.init (beq_iff_eq.mp M.fn) (Vt (F.run _ X.stack _ _ ⟨Value.ref (s.heap.objs.size+1)::us,[]⟩ (Value.ref (s.heap.objs.size+1)::(us++ds)) _ _ E (L.make C us [])
  (n.env0.make C us []) (T _ (Value.ref (s.heap.objs.size+1)::us) n.kIn N) z hq) λr B g=>?_))
 cases r with
 |error e=>exact hx pins y _ _ e B n g
 |ok U=>
  cases U with
  |ret u=>
   obtain⟨v,H',I3,G,Y,J⟩:=n.after g;subst Y;exact⟨G,⟨V.ref (s.heap.objs.size+1),H',I3,rfl,J⟩⟩
  |_=>exact False.elim g
def Zrk(M:Mk X.K C f)(F:K9 X.prog X.w X.K X.mg X.base CX k f fd ps sp)(v:Xz (k+1) X.A)(z:Gl X x)(y:X.mg x=some (.ref C))(G:Binds X.K fd ps ds)(hd:Vals dvs ds)(hx:Pz CX X E)(J:PA X (e::es) t)(l:autoParam ((x==("__debug__" : Str))=false) au_1)(B:autoParam (starEach (e::es) X.env=(false,eval e X.env)::starEach es X.env) au_0)(g:autoParam ((backTo pos<|starEach es X.env).any (·.1)=false) au_0) :
  PE X (.Call (.Name x p) (e::es) [] pos) (A5 C sp dvs E t):=by
 intro pins s u H Q I h;refine VY (Sz I z y ?_ l);refine JQ I.ok.mod.kin M.kp (thn (J pos pins s u H _ I h) ?_) B g;rintro N T ⟨L,U,n,r,q⟩;refine⟨n.kIn,?_⟩;exact Zh2 M F v G hd hx n r q
end
structure Xr (N P:Yl) (sc:Scope):Prop where
 kind:sc.kind=.function
 co:sc.isCoroutine=false
 gen:sc.isGenerator=false
 nd:N.Nodup
 pre:N.take P.length=P
 par:∀x∈P,sc.names.lookup x=some .local\/sc.names.lookup x=some .cell
 nofree:∀y∈sc.names,y.2≠.free
theorem L6{kindOf x}:∀{binds}{m:Yg},(∀v,(x,v)∉binds)->bindL kindOf binds m x=m x
 |[],_,_=>rfl
 |(n,v)::r,m,h=>by
  unfold bindL;rw[L6 λw hw=>h w (Qf _ hw)];split
  ·grind
  ·rfl
theorem GX{kindOf x}:∀{binds}{m:Yg},(∀v,(x,v)∉binds)->bindC kindOf binds m x=m x
 |[],_,_=>rfl
 |(n,v)::r,m,h=>by
  unfold bindC;rw[GX λw hw=>h w (Qf _ hw)];split
  ·rfl
  ·grind
theorem MA{kindOf}{x}{v}:∀{P:Yl}{vs}{i:Nat}{m:Yg},P.Nodup->P[i]?=some x->vs[i]?=some v->kindOf x=some .local->
  bindL kindOf (P.zip vs) m x=some v
 |[],_,_,_,_,h,_,_|_::_,[],_,_,_,_,h,_=>by simp at h
 |p::P,w::vs,0,m,f,n,l,g=>by
  simp at n l;subst n;subst l;show bindL kindOf ((p,w)::P.zip vs) m p=_;unfold bindL;rw[L6 λv o=>(Q7.mp f).1 (List.of_mem_zip o).1,WO g];simp
 |p::P,w::vs,i+1,m,f,n,l,g=>by
  unfold bindL;exact MA (Q7.mp f).2 (by trivial) (by grind) g
theorem HQ{kindOf}{x}{v}:∀{P:Yl}{vs}{i:Nat}{m:Yg},P.Nodup->P[i]?=some x->vs[i]?=some v->kindOf x≠some .local->
  bindC kindOf (P.zip vs) m x=some v
 |[],_,_,_,_,h,_,_|_::_,[],_,_,_,_,h,_=>by simp at h
 |p::P,w::vs,0,m,f,n,l,g=>by
  simp at n l;subst n;subst l;show bindC kindOf ((p,w)::P.zip vs) m p=_;unfold bindC;rw[GX λv o=>(Q7.mp f).1 (List.of_mem_zip o).1,WM g];simp
 |p::P,w::vs,i+1,m,f,n,l,g=>by
  unfold bindC;exact HQ (Q7.mp f).2 (by trivial) (by grind) g
noncomputable def start(N:Yl)(vs:List V):St:=vs.map some++List.replicate (N.length-vs.length) none
noncomputable def Kf(CX:CXT)(P:Program)(w:World)(K:Yc)(mg:Yg)(base:Heap)(N:Yl)(qual:Str)(scope:Scope)(f:Addr)(cd:Value)(A:Around)(outer:List Env)(s:Shared)(H:Hp)(E:XK):Cx where
 prog:=P
 w:=w
 K:=K
 mg:=mg
 base:=base
 A:=A.deeper (envOfC qual scope s.heap.objs.size f cd)
 N:=N
 s₀:=s
 H₀:=H
 env:=envOfC qual scope s.heap.objs.size f cd
 outer:=outer
 stack:=envOfC qual scope s.heap.objs.size f cd::outer
 ex:=[]
 calm:=true
 fn:=λ_=>true
 pn:=[]
 xe:=λe s'=>wpAny (model P w) (A.deeper<|envOfC qual scope s.heap.objs.size f cd) (leaving (envOfC qual scope s.heap.objs.size f cd) e) (λ_ s''=>CX outer H s E e s'') (λe' s''=>CX outer H s E e' s'') s'
def Rn{f:Scope}{n}{x}(h:f.names.lookup x=some .cell):∃c,(cellsFrom n f.names []).lookup x=some c:=by
 exact Option.isSome_iff_exists.mp (PySem.W.cellsFrom_some f.names n []<|.inl h)
def Zdv{P}{w}{K}{mg}{base}{N ps}{qual}{scope}{f}{cd}{A}{outer}{s L}{H}{E}{us}{vs}(S:Xr N ps scope)(hd:A.handled=none)(l:N5 P w K mg base A outer s H)(hl:vs.length=ps.length)(r:Vals vs us)(x:InCallC s s.heap.objs.size (bindL (envOfC qual scope s.heap.objs.size f cd).kindOf (ps.zip us) λ_=>none) (cellsFrom (s.heap.objs.size+1) scope.names []) (bindC (envOfC qual scope s.heap.objs.size f cd).kindOf (ps.zip us) λ_=>none) L) :
  Inv (Kf CX P w K mg base N qual scope f cd A outer s H E) [] (start N vs) H L:=by
 have U:ps.length<=N.length:=by have:=Q4 List.length S.pre;rw[Qs]at this;lia
 obtain⟨J,tk,rfl,Q⟩:=x.done;have n:∀b,b∉(Kf CX P w K mg base N qual scope f cd A outer s H E).ex:=λb z=>absurd (show b∈([]:List Addr)from z) (by simp)
 refine⟨⟨l.mod,S.kind,rfl,rfl,WQ _,λy z c J g=>?_,λy o=>?_,λy c _ h=>?_,λ_=>hd,Around.frames_deeper l.frames,.inr ⟨rfl,rfl⟩,λb z=>absurd z (n b),l.bs,l.bsz,λb _ _=>n b,λb z=>absurd z (n b),l.funs,l.frf⟩,
  rfl,l.bare,Un.kept Q,⟨_,x.toInCall.ns,λi y v J g h3=>?_⟩,λy c h=>⟨_,x.cell y c h⟩,l.hok.fresh (WQ _),λy c h=>?_,λp C=>absurd (show p∈([]:Yf)from C) (by simp),l.hok.kept Q,?_⟩
 ·exact name_of_addr x.apart (Vn J) (Vn g)
 ·have o:=o;rcases o with o|o
  ·exact Rn o
  ·exact absurd rfl (S.nofree _<|Vn o)
 ·exact VX (x.above y c<|Vn h)
 ·have G:i<vs.length:=by
   unfold start at g;by_cases G:i<vs.length
   ·exact G
   ·rw[Qq (by simpa using G)]at g;rw[VF]at g;split at g<;>cases g
  have Y:vs[i]?=some v:=by
   unfold start at g;rw[Qm (by simpa using G),WT]at g;cases e:vs[i]? with
   |none=>rw[e]at g;cases g
   |some a=>rw[e]at g;cases g;rfl
  obtain⟨u,M,T⟩:=r.get Y
  have C:ps[i]?=some y:=by
   rw[←S.pre,Vi (by lia)];exact J
  have B:ps.Nodup:=by rw[←S.pre];exact S.nd.sublist (Jm _ _)
  refine⟨u,T,?_⟩;rcases S.par y (Qe C)with k|k
  ·exact .inl ⟨k,MA B C M k⟩
  ·obtain⟨c,e⟩:=Rn k;refine .inr ⟨.inl k,c,e,?_⟩;have q:=x.cell y c e;rw[HQ B C M (by show scope.names.lookup y≠_;rw[k];decide)]at q;exact q
 ·exact l.hok.fresh (VX<|x.above y c<|Vn h)
 ·unfold start;show _=N.length;rw[WS,WG,List.length_replicate];lia
def DO{K M base k f name qual params body scope dV kV L pm g ct oc an od Y N ps sp}(lk:K.lookup f=some ⟨oc,od,.func (PySem.W.fnOf name qual params body scope dV kV L pm an g ct),Y⟩)(hcd:PySem.W.codeIn K g qual=true)(S:Xr N ps scope)(len:∀vs H Q E,sp vs H Q E->vs.length=ps.length)
  (p:∀A outer s H vs Q E,Xz k (A.deeper<|envOfC qual scope s.heap.objs.size f g)->sp vs H Q E->
   ∃t,PSs (Kf CX P w K M base N qual scope f g A outer s H E) body t/\t {nx:=λ_ H'=>Q .non H',rt:=Q} (start N vs) H) :
  K9 P w K M base CX (k+1) f (PySem.W.fnOf name qual params body scope dV kV L pm an g ct) ps sp:=by
 refine⟨len,λA outer s H args us vs Q E hr G hb r z=>?_⟩;have KX:=G.mod.kin.keeps λb o e=>(G.bs b o e).1
 have l:∀y∈ps.zip us,scope.names.lookup y.1=some .local\/(scope.names.lookup y.1=some .cell/\((cellsFrom (s.heap.objs.size+1) scope.names []).lookup y.1).isSome=true):=λ⟨n,v⟩ hy=>by
  rcases S.par n (List.of_mem_zip hy).1 with q|q
  ·exact .inl q
  ·exact .inr ⟨q,PySem.W.cellsFrom_some _ _ _ (.inl q)⟩
 refine codeAny_call_function hr.depth (KX _ _ lk) rfl S.co S.gen rfl (PySem.W.codeRec_of KX hcd) (hb _ _ _ _ ?_);refine wpAny_newFunctionEnv_cells S.kind l λenv he s1 x=>?_;subst he;refine⟨(G.mod.nolimit.keeps λb o e=>(G.bs b o e).1).keeps x.toInCall.keep,codeAny_func ?_⟩;obtain⟨t,ht,hq⟩:=p A outer s H vs Q E (hr.deeper _) z;have I:Inv (Kf CX P w K M base N qual scope f g A outer s H E) [] (start N vs) H s1:=Zdv S hr.hd G (len _ _ _ _ z) r x;refine Qz (ht [] s1 (start N vs) H _ I hq) (λfl T B=>?_) λe T B=>B
 have C:∀{h:St} {H':Hp} {v:V} {u:Value},Inv (Kf CX P w K M base N qual scope f g A outer s H E) [] h H' T->RelV v u->Q v H'->CE outer P w H s Q u T:=
  λ{h H' v u} J U q=>⟨v,H',J.os,J.bare,J.base,J.hok,U,q⟩
 cases fl with
 |ret u=>
  obtain⟨v,h,H',J,U,q⟩:=B;exact C J U q
 |next=>
  obtain⟨h,H',J,q⟩:=B;exact C (v:=V.non) J rfl q
 |_=>
  obtain⟨_,_,_,q⟩:=B;exact False.elim q
section
variable {X:Cx}{x:Str}{p pos:Pos}{e:Expr}{es:Ym}{t:TA}{id T:String}{r:List V->Hp->VK->Prop}
noncomputable def tCB(r:List V->Hp->VK->Prop)(t:TA):TE:=λf H Q=>t f H λg h=>r g h Q
def XW(E:Kl X (.builtin id) r)(B:Gl X x)(A:X.mg x=none)(y:bootBuiltins x=some (.builtin id))(G:PA X (e::es) t)(z:autoParam (x≠"__name__") au_1)(g:autoParam ((x==("__debug__" : Str))=false) au_1)(C:autoParam (starEach (e::es) X.env=(false,eval e X.env)::starEach es X.env) au_0)(f:autoParam ((backTo pos<|starEach es X.env).any (·.1)=false) au_0):PE X (.Call (.Name x p) (e::es) [] pos) (tCB r t):=by
 intro pins s l H Q I h;refine VY (BM I B A y ?_ z g);exact PyProof.Rows.callWith_builtin1 (thn (G pos pins s l H _ I h) λo u ⟨n,L,J,v,w⟩=>E pins u l L n o Q J v w) C f
def To(E:Kl X (.type T) r)(B:Gl X x)(A:X.mg x=none)(y:bootBuiltins x=some (.type T))(G:PA X (e::es) t)(z:autoParam (x≠"__name__") au_1)(g:autoParam ((x==("__debug__" : Str))=false) au_1)(C:autoParam (starEach (e::es) X.env=(false,eval e X.env)::starEach es X.env) au_0)(f:autoParam ((backTo pos<|starEach es X.env).any (·.1)=false) au_0):PE X (.Call (.Name x p) (e::es) [] pos) (tCB r t):=by
 intro pins s l H Q I h;refine VY (BM I B A y ?_ z g);exact VQ (thn (G pos pins s l H _ I h) λo u ⟨n,L,J,v,w⟩=>E pins u l L n o Q J v w) C f
end
end L2
namespace HT
open PySem PyProof.Rows
section
variable {prog:Program}{w:World}{A:Around}{E:Yh}{s:Shared}
def Zh4(B:IsTup s.heap t vs.toArray)(C:IsTup s.heap b g.toArray)(v:vs≠[])(G:g=[]->Q (.ref t) s)(H:g≠[]->Q (.ref s.heap.objs.size) {s with heap:=s.heap.push {cls:=.type "tuple",data:=.seq (vs++g).toArray}})(hsz:vs.length+g.length<=sizeLine):wpAny (model prog w) A (binaryOp .Add (.ref t)<|.ref b) Q E s:=by
 obtain⟨⟨cls,y,data,sl⟩,r,x,n,hd⟩:=id B;obtain⟨⟨z,p,data2,h⟩,f,o,u,l⟩:=id C;simp only at x hd o l;subst x hd o l;by_cases hw:g=[]
 ·exact concat_meets ⟨_,r,rfl⟩ ⟨_,f,rfl⟩ noFill_tuple_add seq_tuple_add Ju Ji (VZ _ _)
   (tuple_addW1 t b vs.toArray g.toArray n u y p sl h (by simpa using v)<|by simp[hw]) ⟨r,f,G hw⟩
 ·refine concat_meets ⟨_,r,rfl⟩ ⟨_,f,rfl⟩ noFill_tuple_add seq_tuple_add Ju Ji (VZ _ _)
   (tuple_addW2 t b vs.toArray g.toArray n u y p sl h (by simpa using v) (by simpa using hw)<|by omega) ⟨r,f,?_⟩
  grind
noncomputable def sIx(n d:Nat):Option Int->Nat
 |none=>d
 |some v=>if v<0 then(v+(n:Int)).toNat else min v.toNat n
def LB(n d:Nat):sIx n d none=d:=rfl
def Fl(n d k:Nat):sIx n d (some (k:Int))=min k n:=rfl
end
end HT
namespace L2
open PySem PySem.Spec PyProof.Rows
abbrev TO:=St->Hp->(Option Int->Hp->Prop)->Prop
def PO(X:Cx)(e:Option Expr)(t:TO):Prop:=
 ∀(pins:Yf) (s:Shared) (f:St) (H:Hp) (Q:Option Int->Hp->Prop),Inv X pins f H s->t f H Q->
  wpAny (model X.prog X.w) X.A (evalPart e X.env) (λu h=>∃o g,Inv X pins f g h/\IsPart u o/\Q o g) X.xe s
noncomputable def G5:TO:=λ_ H Q=>Q none H
noncomputable def Ld(t:TE):TO:=λf H Q=>t f H λx g=>∃i,x=.int i/\Q (some i) g
def Fq:∀{us:Yk},Vals (ns.map V.int) us->IntsAre us ns:=by
 induction ns with
 |nil=>intro us r;rw[List.map_nil]at r;cases r;exact .nil
 |cons n ns h=>
  intro us r;cases r with
  |cons g f=>
   obtain⟨t,e⟩:=g;subst e;exact .cons n t (h f)
section
variable {X:Cx}{e:Expr}{te:TE}{lo hi:Option Expr}{tl th:TO}{pos p2:Pos}
def RD:PO X none G5:=by
 intro pins s f H Q I h;exact WK ⟨none,H,I,.none,h⟩
def F7(h:PE X e te):PO X (some e) (Ld te):=by
 intro pins s f H Q I hw;refine thn (h pins s f H _ I hw) ?_;rintro u p ⟨x,o,n,g,l⟩;obtain⟨i,rfl,q⟩:=l;obtain⟨t,rfl⟩:=g;exact⟨some i,o,n,.int i t,q⟩
def SlR(X:Cx)(r:V->Option Int->Option Int->Hp->VK->Prop):Prop:=
 ∀(pins:Yf) (s:Shared) (f:St) (H:Hp) (x:V) (v h g:Value) (lo hi:Option Int) (sl:Addr) (Q:VK),Inv X pins f H s->RelV x v->s.heap.IsSliceOf sl h g .none->IsPart h lo->IsPart g hi->r x lo hi H Q->
  ∃T id,typeLookup (.type T) "__getitem__"=pure (some<|.builtin id)/\s.TypeIs v T/\wpAny (model X.prog X.w) X.A (getItem v<|.ref sl) (EP X pins f Q) X.xe s
noncomputable def tSl(r:V->Option Int->Option Int->Hp->VK->Prop)(te:TE)(tl th:TO):TE:=λf H Q=>te f H λx n=>tl f n λl h=>th f h λu g=>r x l u g Q
def De(M:SlR X r)(Y:PE X e te)(N:PO X lo tl)(J:PO X hi th):PE X (.Subscript e (.Slice lo hi none p2) pos) (tSl r te tl th):=by
 intro pins s f H Q I h;refine Subscript_ (thn (Y pins s f H _ I h) ?_);rintro v y ⟨x,H1,I1,z,C⟩;refine wpAny_Slice (thn (N pins y f H1 _ I1 C) ?_);rintro o w ⟨l,H2,I2,G,B⟩;refine thn (J pins w f H2 _ I2 B) ?_;rintro n g ⟨u,p,I3,E,A⟩;refine WK ?_;have I4:Inv X pins f p {g with heap:=g.heap.push {cls:=.type "slice",data:=.fields #[o,n,.none]}}:=I3.kept λb ob q=>WL _ q
 obtain⟨T,id,hT,L,U⟩:=M pins {g with heap:=g.heap.push {cls:=.type "slice",data:=.fields #[o,n,.none]}} f p x v o n l u g.heap.objs.size Q I4 z (Heap.IsSliceOf.new ..) G E A
 exact tail_any L hT U rfl
noncomputable def TJ(xs:List V)(lo hi:Option Int):List V:=(xs.drop<|HT.sIx xs.length 0 lo).take (HT.sIx xs.length xs.length hi-HT.sIx xs.length 0 lo)
def Zh1(xs:List V)(lo hi:Option Int):(TJ xs lo hi).length<=xs.length:=by
 unfold TJ
 grind
noncomputable def Zpw(K:Yc):R2:=λx y H Q=>∃a b xs f,x=.ref a/\y=.ref b/\SqT K H a xs/\SqT K H b f/\xs≠[]/\xs.length+f.length<=sizeLine/\
 (f=[]->Q (.ref a) H)/\(f≠[]->∀p,H p=none->Q (.ref p) (upd H p<|.tup (xs++f)))
def Vals.nil_iff (r:Vals xs us):us=[]↔xs=[]:=by
 cases r with
 |_=>simp
def Zn3:OpR X (binaryOp .Add) (Zpw X.K):=by
 intro pins s J H x y v u Q I p o h;obtain⟨a,b,xs,L,rfl,rfl,G,E,hx,n,A,r⟩:=h;cases p
 cases o
 obtain⟨C,g,B,_⟩:=I.tuple G;obtain⟨l,f,p2,_⟩:=I.tuple E;refine HT.Zh4 B p2 (λz=>hx (g.nil_iff.mp z)) (λz=>⟨.ref a,H,I,rfl,A (f.nil_iff.mp z)⟩) (λz=>?_) (by rw[←g.length,←f.length];exact n);refine⟨.ref s.heap.objs.size,_,I.laid (λb M q=>WL _ q) (WQ _) ?_,rfl,r (λw=>z (f.nil_iff.mpr w)) _ (I.hok.fresh<|WQ _)⟩;exact⟨by rw[WS];exact n,_,g.append f,IsTup.new _ _⟩
end
noncomputable def ixN(n:Nat)(i:Int):Option Nat:=if 0<=i then(if i<n then some i.toNat else none)else if -(n:Int)<=i then some (i+n).toNat else none
noncomputable def atI{f:Type}(xs:List f)(i:Int):Option f:=(ixN xs.length i).bind λj=>xs[j]?
def Hk(h:ixN n i=some j):seqIndex? i n=some j/\j<n/\-(n:Int)<=i/\i<n:=by
 unfold ixN at h;by_cases g:0<=i
 ·rw[WO g]at h;by_cases f:i<n
  ·rw[WO f]at h;have e:=WY h;exact⟨by rw[seqIndex_of g f,e],by lia,by lia,f⟩
  ·grind
 ·rw[WM g]at h;by_cases f:-(n:Int)<=i
  ·rw[WO f]at h;have e:=WY h;exact⟨by rw[seqIndex_neg (by lia) f,e],by lia,f,by lia⟩
  ·grind
def GI(h:atI xs i=some v):∃j,seqIndex? i xs.length=some j/\xs[j]?=some v/\j<xs.length/\-(xs.length:Int)<=i/\i<xs.length:=by
 unfold atI at h;cases e:ixN xs.length i with
 |none=>grind
 |some j=>
  obtain⟨n,l,g,f⟩:=Hk e
  grind
def Th{j:Nat}{v}(h:xs[j]?=some v):atI xs (j:Int)=some v:=by
 have e:ixN xs.length (j:Int)=some j:=by
  unfold ixN
  grind
 unfold atI;rw[e];exact h
def Ey(b:Expr):Prop:=∀o i,subscripted b false o i=operate [o,i] (getItem o i)
def IxR(X:Cx)(r:R2):Prop:=
 ∀(value slice:Expr) (pins:Yf) (s:Shared) (f:St) (H:Hp) (x y:V) (v u:Value) (Q:VK),Inv X pins f H s->RelV x v->RelV y u->r x y H Q->
  subscripted slice false v u=operate [v,u] (getItem v u)->wpAny (model X.prog X.w) X.A (subscriptTail value slice v u) (EP X pins f Q) X.xe s
def MtR(X:Cx)(id:String)(r:V->List V->Hp->VK->Prop):Prop:=
 ∀(pins:Yf) (s:Shared) (f:St) (H:Hp) (x:V) (xs:List V) (v:Value) (g:Yk) (Q:VK),Inv X pins f H s->RelV x v->Vals xs g->r x xs H Q->
  wpAny (model X.prog X.w) X.A (call (.builtin id) (v::g)) (EP X pins f Q) X.xe s
section
variable {X:Cx}{a b:Expr}{ta tb:TE}{pos:Pos}
def IxR.or (h:IxR X r) (p:IxR X o):IxR X (λx y H Q=>r x y H Q\/o x y H Q):=by
 intro value slice pins s f H x y v u Q I l g q n;rcases q with q|q
 ·exact h value slice pins s f H x y v u Q I l g q n
 ·exact p value slice pins s f H x y v u Q I l g q n
def Lg(o:IxR X r)(w:PE X a ta)(p:PE X b tb)(hs:Ey b):PE X (.Subscript a b pos) (tOp r ta tb):=by
 intro pins s f H Q I h;exact Subscript_ (Dc w p I h λv u g x y A z n l q=>o a b pins g f A x y v u Q z n l q (hs _ _))
noncomputable def Sb(K:Yc):R2:=λx y H Q=>∃p xs i v,x=.ref p/\y=.int i/\SqL K H p xs/\atI xs i=some v/\Q v H
noncomputable def SL(K:Yc):R2:=λx y H Q=>∃p xs i v,x=.ref p/\y=.int i/\SqT K H p xs/\atI xs i=some v/\Q v H
def ix_list:IxR X (Sb X.K):=by
 intro value slice pins s G H x y v u Q I L J h B;obtain⟨p,xs,i,z,rfl,rfl,hq,N,q⟩:=h;cases L
 obtain⟨t,rfl⟩:=J;obtain⟨o,r,n,hz⟩:=I.list hq;obtain⟨j,g,Y,h3,U,T⟩:=GI N;obtain⟨w,E,l⟩:=r.get Y;have M:=r.length;have hn:=FE;have f:EP X pins G Q w s:=⟨z,H,I,l,q⟩;by_cases C:0<=i
 ·have A:i.toNat=j:=by
   rw[seqIndex_of C T]at g;exact WY g
  exact item_listR n.isList C (by lia) (by rw[A];simpa using E) f B
 ·have A:(i+(o.toArray.size:Int)).toNat=j:=by
   rw[seqIndex_neg (by lia) U]at g;rw[Qr,←M];exact WY g
  exact subscriptTail_builtinR n.isList.typeIs slot_list_getitem.lookup
   (wpAny_getItem_list_neg n.isList (by lia) (by rw[Qr]<;>lia) (by lia) (by rw[A];simpa using E) ⟨rfl,f⟩) B
def Zho:IxR X (SL X.K):=by
 intro value slice pins s n H x y v u Q I A o h C;obtain⟨p,xs,i,z,rfl,rfl,hq,E,q⟩:=h;cases A
 obtain⟨t,rfl⟩:=o;obtain⟨B,r,l,L⟩:=I.tuple hq;obtain⟨j,J,G,U,T,N⟩:=GI E;obtain⟨w,Y,f⟩:=r.get G;have M:=FE;have g:EP X pins n Q w s:=⟨z,H,I,f,q⟩
 exact subscriptTail_builtinR l.typeIs slot_tuple_getitem.lookup
  (getItem_tuple l (by lia) (by lia) (by rw[Qr,←r.length];exact J) (by grind) ⟨rfl,g⟩) C
def Zr9(f:Yk)(n j:Nat)(u:Value):Obj.mapSeq (·.setIfInBounds j u) {cls:=.type "list",data:=.seq f.toArray n}={cls:=.type "list",data:=.seq (f.set j u).toArray n}:=by
 simp[Obj.mapSeq]
def Inv.lst {g:St}{H}{s}{p}{xs} (I:Inv X pins g H s) (h:H p=some (.lst xs)) :
  ∃f n,Vals xs f/\s.heap.get? p=some {cls:=.type "list",data:=.seq f.toArray n}/\xs.length<=sizeLine:=by
 obtain⟨z,f,n,r,e⟩:=I.hok p _ h
 grind
def Inv.lstUpd {w:St}{H}{s}{p}{xs o}{l g:Yk}{n v}{f} (I:Inv X pins w H s) (h:H p=some (.lst xs))
  (z:s.heap.get? p=some {cls:=.type "list",data:=.seq l.toArray n}) (x:f {cls:=.type "list",data:=.seq l.toArray n}={cls:=.type "list",data:=.seq g.toArray v}) (r:Vals o g) (y:o.length<=sizeLine) (t:Nat) :
  Inv X pins w (upd H p<|.lst o) {s with heap:=s.heap.update p f,toks:=t}:=by
 have e:(s.heap.update p f).get? p=some {cls:=.type "list",data:=.seq g.toArray v}:=by
  rw[Q5 f z (by rw[x]<;>rfl),x]
 refine I.write (by rw[h];trivial) (.inl rfl) (λb u A q=>(QD _ _<|Ne.symm A).trans q) ⟨_,e⟩ ?_;exact⟨y,g,v,r,e⟩
def Og:V->V->V->Hp->(Hp->Prop)->Prop:=λo i v H Q=>∃p xs k j,o=.ref p/\i=.int k/\H p=some (.lst xs)/\ixN xs.length k=some j/\Q (upd H p<|.lst<|xs.set j v)
def Zcq:IW X Og:=by
 intro pins s M H o i v N T u Q I G ri E h;obtain⟨p,xs,k,j,rfl,rfl,y,L,q⟩:=h;cases G
 obtain⟨t,rfl⟩:=ri;obtain⟨f,n,r,l,J⟩:=I.lst y;obtain⟨g,Y,A,z⟩:=Hk L;have w:=r.length;have U:=FE
 have C:=
  I.lstUpd y l (Zr9 f n j u) (r.set E j) (by rw[QI];exact J) s.toks
 by_cases B:0<=k
 ·have x:k.toNat=j:=by
   rw[seqIndex_of B z]at g;exact WY g
  exact PySem.W.ki_setAt l B (by lia) (by rw[Qr,←w];exact z) (by rw[x];exact⟨_,C,q⟩)
 ·have x:(k+(f.toArray.size:Int)).toNat=j:=by
   rw[seqIndex_neg (by lia) A]at g;rw[Qr,←w];exact WY g
  exact PySem.W.ki_setBack l (by lia) (by rw[Qr,←w];exact A) (by lia) (by rw[x];exact⟨_,C,q⟩)
def Zer(lo f:Option Int)(n:Nat):(sliceBounds lo f none n).1=((HT.sIx n 0 lo:Nat):Int)/\(sliceBounds lo f none n).2.1=((HT.sIx n n f:Nat):Int)/\(sliceBounds lo f none n).2.2=1:=by
 refine⟨?_,?_,rfl⟩
 ·cases lo with
  |none=>simp[sliceBounds,HT.sIx]
  |some i=>
   simp only[sliceBounds,HT.sIx,Option.getD_none,show(1:Int)>0 by decide,if_true];by_cases h:i<0
   ·grind
   ·simp only[h,Jz]<;>lia
 ·cases f with
  |none=>simp[sliceBounds,HT.sIx]
  |some i=>
   simp only[sliceBounds,HT.sIx,Option.getD_none,show(1:Int)>0 by decide,if_true];by_cases h:i<0
   ·simp only[h,if_true]<;>lia
   ·simp only[h,Jz]<;>lia
def Zpo(f:Yk)(lo g:Option Int):slicePick f.toArray lo g none=((f.drop<|HT.sIx f.length 0 lo).take (HT.sIx f.length f.length g-HT.sIx f.length 0 lo)).toArray:=by
 obtain⟨n,l,h⟩:=Zer lo g f.toArray.size;unfold slicePick;rw[n,l,h];simp only[sliceRange_one,pick_run,Qr]<;>rfl
def B7(K:Yc):V->Option Int->Option Int->Hp->VK->Prop:=λx lo f H Q=>∃a xs,x=.ref a/\SqL K H a xs/\∀p,H p=none->Q (.ref p) (upd H p<|.lst<|TJ xs lo f)
def Zow:SlR X (B7 X.K):=by
 intro pins s z H x v B A lo l sl Q I n y p o h;obtain⟨a,xs,rfl,hx,q⟩:=h;cases n
 obtain⟨u,r,g,w⟩:=I.list hx;have f:=r.length;refine⟨"list",_,slot_list_getitem.lookup,g.isList.typeIs,?_⟩;refine wpAny_getItem_list_slice g.isList y p o .none (by simp) ?_ (by grind);rw[Zpo,←f];refine⟨.ref s.heap.objs.size,_,I.laid (λb C q=>WL _ q) (WQ _) ?_,rfl,q _ (I.hok.fresh<|WQ _)⟩;exact⟨WV (Zh1 xs lo l) w,_,0,(r.drop<|HT.sIx xs.length 0 lo).take (HT.sIx xs.length xs.length l-HT.sIx xs.length 0 lo),WX _ rfl⟩
noncomputable def KJ:V->Bool
 | .non=>true
 | .bl _=>true
 | .int _=>true
 | .str _=>true
 |_=>false
noncomputable def eqV:V->V->Bool
 | .non,.non=>true
 | .bl a,.bl b=>a==b
 | .bl a,.int b=>(if a then 1 else 0)==b
 | .int a,.bl b=>a==(if b then 1 else 0)
 | .int a,.int b=>a==b
 | .str a,.str b=>a==b
 |_,_=>false
def Iz{y x u v}(h:RelV y u)(f:RelV x v)(fy:KJ y=true)(l:KJ x=true):SeqAt.EqAt A s u v (eqV y x):=by
 cases y with
 |non=>
  cases h
  cases x with
  |non=>cases f;exact SeqAt.EqAt.same _
  |bl b=>cases f;exact SeqAt.EqAt.none_bool b
  |int b=>obtain⟨t,rfl⟩:=f;exact SeqAt.EqAt.none_int b t
  |str b=>obtain⟨t,rfl⟩:=f;exact SeqAt.EqAt.none_str b t
  |_=>exact absurd l Qh
 |bl a=>
  cases h
  cases x with
  |non=>cases f;exact SeqAt.EqAt.bool_none a
  |bl b=>cases f;exact SeqAt.EqAt.bool_bool a b
  |int b=>obtain⟨t,rfl⟩:=f;exact SeqAt.EqAt.bool_int a b t
  |str b=>obtain⟨t,rfl⟩:=f;exact SeqAt.EqAt.bool_str a b t
  |_=>exact absurd l Qh
 |int a=>
  obtain⟨g,rfl⟩:=h;cases x with
  |non=>cases f;exact SeqAt.EqAt.int_none a g
  |bl b=>cases f;exact SeqAt.EqAt.int_bool a g b
  |int b=>obtain⟨t,rfl⟩:=f;exact SeqAt.EqAt.int_int a g b t
  |str b=>obtain⟨t,rfl⟩:=f;exact SeqAt.EqAt.int_str a g b t
  |_=>exact absurd l Qh
 |str a=>
  obtain⟨g,rfl⟩:=h;cases x with
  |non=>cases f;exact SeqAt.EqAt.str_none a g
  |bl b=>cases f;exact SeqAt.EqAt.str_bool a g b
  |int b=>obtain⟨t,rfl⟩:=f;exact SeqAt.EqAt.str_int a g b t
  |str b=>obtain⟨t,rfl⟩:=f;exact SeqAt.EqAt.str_str a g b t
  |_=>exact absurd l Qh
 |_=>exact absurd fy Qh
noncomputable def eqU(x:V)(u:Value):Bool:=match u with
 | .none=>eqV .non x
 | .bool b=>eqV (.bl b) x
 | .int i _=>eqV (.int i) x
 | .str z _=>eqV (.str z) x
 |_=>false
def Rc{x y u}(r:RelV y u)(f:KJ y=true):eqU x u=eqV y x:=by
 cases y with
 |non|bl b=>cases r;rfl
 |int i|str z=>obtain⟨t,rfl⟩:=r;rfl
 |_=>trivial
theorem B6:∀{xs}{us:Yk},Vals xs us->xs.all KJ=true->us.any (eqU x)=xs.any λy=>eqV y x
 |_,_,.nil,_=>rfl
 |y::xs,u::us,.cons r t,f=>by
  rw[Jx,Q2]at f;rw[VU,VU,Rc r f.1,B6 t f.2]
theorem Br{x v}(h:RelV x v)(l:KJ x=true):∀{xs}{us:Yk},Vals xs us->xs.all KJ=true->∀u∈us,SeqAt.EqAt A s u v (eqU x u)
 |_,_,.nil,_=>λu g=>by cases g
 |y::xs,u::us,.cons r t,f=>λn g=>by
  rw[Jx,Q2]at f;rcases WU.mp g with rfl|g
  ·rw[Rc r f.1];exact Iz r h f.1 l
  ·exact Br h l t f.2 n g
noncomputable def inV(x:V)(xs:List V):Bool:=xs.any λy=>eqV y x
noncomputable def rIn(K:Yc)(neg:Bool):R2:=λx y H Q=>∃p xs,y=.ref p/\(SqL K H p xs\/SqT K H p xs)/\KJ x=true/\xs.all KJ=true/\Q (.bl (if neg then !inV x xs else inV x xs)) H
def Zq3:OpR X (compareOp .In) (rIn X.K false):=by
 intro pins s A H x y v u Q I l o h;obtain⟨p,xs,rfl,hq,n,fs,q⟩:=h;cases o
 rcases hq with hq|hq
 ·obtain⟨f,r,g,z⟩:=I.list hq;refine SeqAt.in_listAt (eqU x) g.isList (λw hw=>Br l n r fs w (by grind)) ⟨.bl _,H,I,rfl,?_⟩;rwa[show f.toArray.any (eqU x)=f.any (eqU x) by simp,B6 r fs]
 ·obtain⟨f,r,g,z⟩:=I.tuple hq;refine SeqAt.in_tupleAt (eqU x) g (λw hw=>Br l n r fs w (by simpa using hw)) ⟨.bl _,H,I,rfl,?_⟩;rwa[show f.toArray.any (eqU x)=f.any (eqU x) by simp,B6 r fs]
def Zdz:OpR X (compareOp .NotIn) (rIn X.K true):=by
 intro pins s A H x y v u Q I l o h;obtain⟨p,xs,rfl,hq,n,fs,q⟩:=h;cases o
 rcases hq with hq|hq
 ·obtain⟨f,r,g,z⟩:=I.list hq;refine SeqAt.notIn_listAt (eqU x) g.isList (λw hw=>Br l n r fs w (by grind)) ⟨.bl _,H,I,rfl,?_⟩;rwa[show f.toArray.any (eqU x)=f.any (eqU x) by simp,B6 r fs]
 ·obtain⟨f,r,g,z⟩:=I.tuple hq;refine SeqAt.notIn_tupleAt (eqU x) g (λw hw=>Br l n r fs w (by grind)) ⟨.bl _,H,I,rfl,?_⟩;rwa[show f.toArray.any (eqU x)=f.any (eqU x) by simp,B6 r fs]
def HS:Kl X (.type "list") (λxs H Q=>∃p v,xs=[.ref p]/\(SqL X.K H p v\/SqT X.K H p v)/\∀l,H l=none->Q (.ref l) (upd H l<|.lst v)):=by
 intro pins s M H xs T Q I r h;obtain⟨p,v,rfl,hq,q⟩:=h;obtain⟨u,rfl,N⟩:=vals1 r;cases N
 have C:∀f,Vals v f->v.length<=sizeLine->∀g y,(∀b L,s.heap.get? b=some L->g.get? b=some L)->
   g.get? s.heap.objs.size=some {cls:=.type "list",dict:=none,data:=.seq f.toArray y,slots:=#[]}->EP X pins M Q (.ref s.heap.objs.size) {s with heap:=g}:=λf x A g y z e=>
  ⟨.ref s.heap.objs.size,_,I.laid z (WQ _) (show ObjOk X.prog X.w _ g _ (.lst v)from⟨A,f,y,x,e⟩),rfl,q _ (I.hok.fresh<|WQ _)⟩
 rcases hq with hq|hq
 ·obtain⟨f,x,E,A⟩:=I.list hq;have B:=x.length;obtain⟨o,G,J,n,hd⟩:=E.isList;exact call_list_seq p (.inl rfl) G J hd (λg y z e=>C f x A g y z e) (by grind)
 ·obtain⟨f,x,E,A⟩:=I.tuple hq;have B:=x.length;obtain⟨o,G,J,n,hd⟩:=E;exact call_list_seq p (.inr rfl) G J hd (λg y z e=>C f x A g y z e) (by simp only[Qr]<;>lia)
def Zdf:Kl X (.type "tuple") (λxs H Q=>∃p g,xs=[.ref p]/\((SqL X.K H p g/\∀l,H l=none->Q (.ref l) (upd H l<|.tup g))\/(SqT X.K H p g/\Q (.ref p) H))):=by
 intro pins s x H xs G Q I r h;obtain⟨p,g,rfl,h⟩:=h;obtain⟨u,rfl,B⟩:=vals1 r;cases B
 rcases h with⟨hq,q⟩|⟨hq,q⟩
 ·obtain⟨f,v,w,y⟩:=I.list hq;have z:=v.length;refine call_tuple_list w.isList (λn C=>?_) (by grind);have A:Inv X pins x H {s with heap:=n}:=I.kept C
  have E:Inv X pins x (upd H n.objs.size<|.tup g) {s with heap:=n.push {cls:=.type "tuple",data:=.seq f.toArray}}:=
   A.laid (λb o e=>WL _ e) (WQ _) (⟨y,f,v,IsTup.new _ _⟩)
  exact⟨.ref n.objs.size,_,E,rfl,q _ (A.hok.fresh<|WQ _)⟩
 ·obtain⟨f,v,w,y⟩:=I.tuple hq;exact call_tuple_same w ⟨.ref p,H,I,rfl,q⟩
def tyV(K:Yc)(T:String)(x:V)(H:Hp):Prop:=match x with
 | .str _=>T = "str"
 | .int _=>T = "int"
 | .ref p=>(T = "list"/\∃xs,SqL K H p xs)\/(T = "tuple"/\∃o,K.lookup p=some o/\o.cls=.type "tuple"/\o.dict=none)\/
   (T = "dict"/\((∃f,H p=some (.dK f))\/∃f,H p=some (.dT f)))\/(T = "set"/\∃S n,H p=some (.set S n))
 |_=>False
def Gn{y:St}{H}{s}{T}{x}{v}(I:Inv X pins y H s)(r:RelV x v)(h:tyV X.K T x H) :
  s.TypeIs v T/\∀a,v=.ref a->∃ob,s.heap.get? a=some ob/\ob.dict=none:=by
 cases x with
 |str z=>
  obtain⟨t,rfl⟩:=r;cases h
  exact⟨typeIs_str s z t,λ_ e=>nomatch e⟩
 |int i=>
  obtain⟨t,rfl⟩:=r;cases h
  exact⟨typeIs_int s i t,λ_ e=>nomatch e⟩
 |ref p=>
  cases r
  rcases h with⟨rfl,xs,hq⟩|⟨rfl,o,f,B,hd⟩|⟨rfl,f⟩|⟨rfl,S,n,f⟩
  ·obtain⟨A,_,w,_⟩:=I.list hq;refine⟨w.isList.typeIs,λa e=>?_⟩;cases e
   obtain⟨o,n,e,c,hd,_⟩:=w;exact⟨o,e,hd⟩
  ·refine⟨⟨o,I.kIn p o f,B⟩,λa e=>?_⟩;cases e
   exact⟨o,I.kIn _ o f,hd⟩
  ·have z:∃o,s.heap.get? p=some o/\o.ExactDict:=by
    rcases f with⟨l,f⟩|⟨l,f⟩
    ·obtain⟨_,_,_,_,o,_,_,e,g,_⟩:=I.hok p _ f;exact⟨o,e,g⟩
    ·obtain⟨_,_,_,_,o,_,_,e,g,_⟩:=I.hok p _ f;exact⟨o,e,g⟩
   obtain⟨o,e,g⟩:=z;refine⟨⟨o,e,g.1⟩,λa u=>?_⟩;cases u
   exact⟨o,e,g.2.1⟩
  ·obtain⟨o,_,_,_,e,g,_⟩:=I.hok p _ f;refine⟨⟨o,e,g.1⟩,λa u=>?_⟩;cases u
   exact⟨o,e,g.2.1⟩
 |_=>exact False.elim h
noncomputable def Fb(K:Yc)(T:String)(r:V->List V->Hp->VK->Prop)(h:TE):TE:=λg H Q=>h g H λx f=>tyV K T x f/\r x [] f Q
noncomputable def tBM(K:Yc)(T:String)(r:V->List V->Hp->VK->Prop)(h:TE)(t:TA):TE:=λf H Q=>h f H λx g=>tyV K T x g/\t f g λxs l=>r x xs l Q
variable {o e:Expr}{es:Ym}{to:TE}{t:TA}{name:Str}{apos cpos:Pos}{T id:String}{r:V->List V->Hp->VK->Prop}
def SE(A:PlainAttrs T)(slot:Slot T name id)(l:typeOf (.builtin id)=pure (.type "method_descriptor"))(C:MtR X id r)(B:PE X o to)(g:autoParam (attributeBase o name X.env (eval o X.env)=eval o X.env) au_0)(f:autoParam ((apos.endLine==cpos.line)=true) au_0):PE X (.Call (.Attribute o name apos) [] [] cpos) (Fb X.K T r to):=by
 intro pins s n H Q I h;refine wpAny_Call_method0_late g f (thn (B pins s n H _ I h) ?_);rintro v y ⟨x,J,u,p,w,z⟩;obtain⟨G,E⟩:=Gn u p w;exact⟨T,id,A,slot,l,G,E,Calls.callWith_builtin rfl (PySem.evalArgs_none<|C pins y n J x [] v [] Q u p .nil z)⟩
def BK(N:PlainAttrs T)(slot:Slot T name id)(u:typeOf (.builtin id)=pure (.type "method_descriptor"))(Y:MtR X id r)(U:PE X o to)(ha:PA X (e::es) t)(g:autoParam (attributeBase o name X.env (eval o X.env)=eval o X.env) au_0)
  (l:autoParam (((backTo cpos<|starEach (e::es) X.env).all (λx=>!x.1)&&(backToKw cpos<|keywordEach [] X.env).all (λx=>x.1.isSome)
   && decide ((e::es).length+([]:List Keyword).length+(if ([]:List Keyword).isEmpty then 0 else 1)<30))=true) au_0)
  (f:autoParam ((apos.endLine==cpos.line)=true) au_0) (hs:autoParam (starEach (e::es) X.env=(false,eval e X.env)::starEach es X.env) au_0) (n:autoParam ((backTo cpos<|starEach es X.env).any (·.1)=false) au_0) :
  PE X (.Call (.Attribute o name apos) (e::es) [] cpos) (tBM X.K T r to t):=by
 intro pins s p H Q I h;refine wpAny_Call_method_late g l f rfl (thn (U pins s p H _ I h) λv G ⟨x,H1,z,w,C,M⟩=>?_);obtain⟨h1,h2⟩:=Gn z w C;refine⟨T,id,N,slot,u,h1,h2,?_⟩;have y:=ha cpos pins G p H1 _ z M;rw[hs]at y ⊢;refine Calls.callWith_builtin (by grind) (JB ?_);exact thn y λB E ⟨A,H2,I2,J,L⟩=>Y pins E p H2 x A v B Q I2 w J L
end
def MtM(X:Cx)(id:String)(r:V->List V->Hp->VK->Prop):Prop:=
 ∀(pins:Yf) (s:Shared) (f:St) (H:Hp) (x:V) (xs:List V) (v:Value) (g:Yk) (Q:VK),Inv X pins f H s->RelV x v->Vals xs g->r x xs H Q->
  wpAny (model X.prog X.w) X.A (call (.builtin id) (v::g)) (EP X pins f Q) X.xe s
def Vals.one:∀{x}{us:Yk},Vals [x] us->∃u,us=[u]/\RelV x u:=by
 intro _ _ h;cases h with
 |cons r t=>
  cases t
  exact⟨_,rfl,r⟩
def Vals.zero:∀{us:Yk},Vals [] us->us=[]
 |_,.nil=>rfl
def Vals.dropLast (h:Vals xs us):Vals xs.dropLast us.dropLast:=by
 induction h with
 |nil=>exact .nil
 |cons r t f=>
  cases t with
  |nil=>grind
  |cons q g=>exact .cons r f
def Zsg{f:Type}(l:List f):l.eraseIdx (l.length-1)=l.dropLast:=by simp
section
variable {X:Cx}{pins:Yf}{σ:St}{H:Hp}{s:Shared}{l b:Addr}{xs ys zs:List V}
def Inv.lset {h g:Yk}{n}{f}{t'} (I:Inv X pins σ H s) (x:H l=some (.lst xs))
  (e:s.heap.get? l=some {cls:=.type "list",data:=.seq h.toArray n}) (v:f h.toArray=g.toArray) (p:Vals ys g) (o:ys.length<=sizeLine) :
  Inv X pins σ (upd H l<|.lst ys) {s with heap:=s.heap.update l (Obj.mapSeq f),toks:=t'}:=by
 have q:=PySem.IsL.update e f;rw[v]at q;refine I.write (by rw[x];exact trivial) (.inl rfl) (λy u w r=>(QD s.heap (Obj.mapSeq f)<|Ne.symm w).trans r) ⟨_,q⟩ ?_;exact⟨o,g,_,p,q⟩
def Inv.lnew (I:Inv X pins σ H s) (h:Vals ys f) (g:ys.length<=sizeLine) :
  Inv X pins σ (upd H s.heap.objs.size<|.lst ys) {s with heap:=s.heap.push {cls:=.type "list",data:=.seq f.toArray},toks:=t'}:=
 I.laid (λ_ _ q=>WL _ q) (WQ _) ⟨g,f,0,h,WX _ rfl⟩
def Inv.fresh (I:Inv X pins σ H s):H s.heap.objs.size=none:=I.hok.fresh (WQ _)
def Inv.lstM (I:Inv X pins σ H s) (g:H l=some (.lst xs)):xs.length<=sizeLine/\∃f n,Vals xs f/\xs.length=f.length/\s.heap.get? l=some {cls:=.type "list",data:=.seq f.toArray n}:=by
 obtain⟨z,f,n,r,e⟩:=I.hok l _ g;exact⟨z,f,n,r,r.length,e⟩
def Zm3(h:n<=sizeLine):Builtin.List.listTooLong n=false:=by
 unfold Builtin.List.listTooLong
 grind
end
section
variable {X:Cx}
def AE:V->List V->Hp->VK->Prop:=λx f H Q=>∃l xs y,x=.ref l/\f=[y]/\H l=some (.lst xs)/\xs.length<sizeLine/\Q .non (upd H l<|.lst (xs++[y]))
def Bk:MtM X "list.append" AE:=by
 intro pins s A H x B v C Q I o p h;obtain⟨l,xs,y,rfl,rfl,g,E,q⟩:=h;cases o
 obtain⟨u,rfl,w⟩:=p.one;obtain⟨z,f,n,r,G,e⟩:=I.lstM g;refine call_meets F.slot_list_append ⟨_,e,rfl⟩ F.entry_list_append (F.args_list_append_2 _ _) (PySem.list_append l f.toArray n u<|by grind) ⟨e,?_⟩;refine⟨.non,_,I.lset g e (by simp) (r.append<|.cons w .nil) ?_,rfl,q⟩
 grind
def IA:V->List V->Hp->VK->Prop:=λx g H Q=>∃l b xs f,x=.ref l/\g=[.ref b]/\H l=some (.lst xs)/\H b=some (.lst f)/\xs.length+f.length<=sizeLine/\Q .non (upd H l<|.lst (xs++f))
def Zlf:MtM X "list.extend" IA:=by
 intro pins s M H x U v Y Q I y A h;obtain⟨l,b,xs,N,rfl,rfl,w,J,hz,q⟩:=h;cases y
 obtain⟨u,rfl,B⟩:=A.one;cases B
 obtain⟨z,g,n,r,hl,e⟩:=I.lstM w;obtain⟨T,f,E,C,G,L⟩:=I.lstM J;have p:g.toArray.size+f.toArray.size<=sizeLine:=by grind
 have o:¬(!g.toArray.isEmpty&&Builtin.List.listTooLong (g.toArray.size+f.toArray.size))=true:=by
  rw[Zm3 p,Bool.and_false];exact Qh
 refine call_meets F.slot_list_extend ⟨_,e,rfl⟩ F.entry_list_extend (F.args_list_extend_2 _ _)
  (AutoSeq1.list_extend_list_list_0 l g.toArray n b f.toArray E o (by lia)<|by lia) ⟨e,L,?_⟩
 refine⟨.non,_,I.lset w e (by simp) (r.append C) ?_,rfl,q⟩
 grind
def Eu:V->List V->Hp->VK->Prop:=λx f H Q=>∃l xs y,x=.ref l/\f=[]/\H l=some (.lst xs)/\xs[xs.length-1]?=some y/\Q y (upd H l<|.lst xs.dropLast)
def BD:MtM X "list.pop" Eu:=by
 intro pins s E H x G v J Q I w A h;obtain⟨l,xs,y,rfl,rfl,p,C,q⟩:=h;cases w
 have o:=A.zero;subst o;obtain⟨z,f,n,r,M,e⟩:=I.lstM p;obtain⟨u,L,B⟩:=r.get C;have g:f.toArray[f.toArray.size-1]?=some u:=by grind
 refine call_meets F.slot_list_pop ⟨_,e,rfl⟩ F.entry_list_pop (F.args_list_pop_1 _) (MeetsSeq.list_pop_last l f.toArray n u g<|by rw[Qr];lia) ⟨e,?_⟩;refine⟨y,_,I.lset p e ?_ r.dropLast ?_,B,q⟩
 ·simp
 ·grind
noncomputable def Hz:R2:=λx y H Q=>∃l b xs f,x=.ref l/\y=.ref b/\H l=some (.lst xs)/\H b=some (.lst f)/\xs.length+f.length<=sizeLine/\∀p,H p=none->Q (.ref p) (upd H p<|.lst (xs++f))
def Ky:OpR X (binaryOp .Add) Hz:=by
 intro pins s J H x y v u Q I p o h;obtain⟨l,b,xs,L,rfl,rfl,B,C,T,q⟩:=h;cases p
 cases o
 obtain⟨z,g,n,r,U,e⟩:=I.lstM B;obtain⟨M,f,N,w,A,G⟩:=I.lstM C;refine PySem.P.add_list e G ?_ (by grind);have E:g.toArray++f.toArray=(g++f).toArray:=by simp
 rw[E];exact⟨.ref _,_,I.lnew (r.append w) (by grind),rfl,q _ I.fresh⟩
end
end L2
namespace Att
open PySem PySem.W PySem.Calls PyProof.Rows
def Zg9:∀ns vs,WellAll P h vs (ns.map WData.int)->IntsAre vs ns:=by
 intro ns
 induction ns with
 |nil=>
  intro vs w;cases w
  exact .nil
 |cons n ns f=>
  intro vs w;cases w with
  |cons a b=>
   cases a
   exact .cons _ _ (f _ b)
def Zg7{l:OpenLaw}{n}(y:l.most=some n){P}{h}{args}{vals}(f:l.row.toRowW.claim.pre args=true)(p:WellAll P h vals args) :
  ∃a vs ns,vals=[Value.ref a]/\args=[WData.list (ns.map WData.int)]/\h.get? a=some {cls:=.type "list",data:=.seq vs.toArray}/\IntsAre vs ns/\ns.length<=n:=by
 have s:WShape.hasAll [] args [.list .int]=true:=(pre_splitW f).1;have z:l.pre.holds [] {args:=args}=true:=(pre_splitW f).2;obtain⟨d,r,rfl,C,B⟩:=hasAllW_cons s;obtain rfl:=hasAllW_nil B;obtain⟨xs,rfl,A⟩:=hasW_list C;obtain⟨ns,rfl⟩:=items_int A
 have g:ns.length<=n:=by
  have u:(WTm.not<|.lt (.lit<|.int (n:Int))<|.len<|.arg 0).holds [] {args:=[.list (ns.map .int)]}=true:=by
   have u:=(holds_andW z).1;rw[y]at u;lia
  have E:=condW_of u (w_not<|w_lt w_lit<|w_len_list<|w_arg rfl);simp_all
 cases p with
 |cons w v=>
  cases v
  cases w with
  |list x o=>exact⟨_,_,ns,rfl,rfl,x,Zg9 ns _ o,g⟩
def Zk7(l:OpenLaw)(args:List WData):l.row.toRowW.claim.post args (.bool true) args=true:=
 postW_of
  rfl
  (w_eq_bool (w_res rfl) w_lit) rfl
def Zl9{l:OpenLaw}{n}{q}{loose}{XP}{YP}{d}(T:l.most=some n)(H:d.params.defaults=[])
  (call:∀w s₀ g z B x o A cd p a vs ns,
   Ground q loose [] XP w s₀ z B g.heap->YP w g.heap->
   g.heap.get? x=some o->o.data=.func (docDef d.name d.params d.body d.scope A cd p)->g.heap.CodeRec cd d.name->z d.name=some (.ref x)->
   g.heap.get? a=some {cls:=.type "list",data:=.seq vs.toArray}->IntsAre vs ns->ns.length<=n->g.gens=#[]->
   codeAny (model l.prog w) callerA (.call (.ref x) ⟨[.ref a],[]⟩) (λr y=>r=.ok (.ret<|.bool true)/\OldK g.heap y.heap/\y.os=g.os/\AllBare y.gens) g) :
  WalkO q loose XP YP l.row.toRowW d [] (λf vs=>PySem.call f vs):=by
 intro w s₀ g z B G Y x o A cd p dV kV Q hd J M E hg args vals as s L N C hlo;obtain rfl:=Dflts.none M H;obtain rfl:=Dflts.noKw M;obtain⟨a,vs,ns,rfl,rfl,u,h,v⟩:=Zg7 T s C;refine enter_call (Vt (call w s₀ g z B x o A cd p a vs ns G Y Q (fd_plain hd) J E u h v hg) λr y hq=>?_);obtain⟨rfl,h2,h3,h4⟩:=hq;exact⟨.inl ⟨.bool true,.bool true,[],rfl,λ_=>rfl,.bool true,Zk7 l _,λ_=>⟨List.Pairwise.nil,λ_ U=>(nomatch U)⟩⟩,h2,h3,h4⟩
end Att
namespace L2
open PySem PySem.Spec PyProof.Rows
theorem Ad:∀{vs}{ns:Ye},IntsAre vs ns->Vals (ns.map V.int) vs
 |_,_,.nil=>.nil
 |_,_,.cons n t h=>.cons ⟨t,rfl⟩ (Ad h)
def FU(H:Hp):Prop:=∀b,H b=none\/∃o xs,H b=some (.frz o<|.lst xs)
def Zia{K B U CX k fa a fd x sp f vs ns}(KX:K.In f.heap)(G:f.heap.Ns mainGlobals B)(g:f.heap.Ns builtinsNs U)(hbb:∀x:Str,x≠"__name__"->U x=bootBuiltins x)(J:f.heap.NoLimit)(hg:f.gens=#[])(M:f.heap.get? a=some {cls:=.type "list",data:=.seq vs.toArray})(hi:IntsAre vs ns)(hl:ns.length<=sizeLine)(hr:Xz k callerA)(F:∀base,K.In base->base.Ns mainGlobals B->K9 P w K B base CX k fa fd [x] sp)(y:∀s u,BindsTo s fd ⟨[u],[]⟩ [(x,u)])(Y:∀H,FU H->SqL K H a (ns.map V.int)->sp [.ref a] H (λv _=>v=.bl true) λ_ _ _=>False)(hCX:∀H e l,CX [] H f (λ_ _ _=>False) e l->False) :
  codeAny (model P w) callerA (.call (.ref fa) ⟨[.ref a],[]⟩) (λr l=>r=.ok (.ret<|.bool true)/\OldK f.heap l.heap/\l.os=f.os/\AllBare l.gens) f:=by
 have rv:=Ad hi
 have core:∀H,FU H->SqL K H a (ns.map V.int)->HOk P w H f.heap->(∀b,H b≠none->b=a)->(H a≠none->K.lookup a=none)->
   codeAny (model P w) callerA (.call (.ref fa) ⟨[.ref a],[]⟩) (λr l=>r=.ok (.ret<|.bool true)/\OldK f.heap l.heap/\l.os=f.os/\AllBare l.gens) f:=by
  intro H hO hS E hA hK;have base_of:∀{b:Addr} {o:Obj},f.heap.get? b=some o->H b=none->(Nz f.heap H).get? b=some o:=λe n=>Zed e n
  have T:∀{b:Addr} {o:Obj} {N:Array DictEntry} {Q:Nat},f.heap.get? b=some o->o.data=.dict N Q->H b=none:=λ{b o N Q} e d=>by
   cases q:H b with
   |none=>rfl
   |some u=>
    have e':=hA b (by rw[q];simp);subst e';rw[M]at e;cases e;cases d
  have p:∀{b:Addr} {m:Yg},f.heap.Ns b m->(Nz f.heap H).Ns b m:=λ{b m} ⟨o,N,Q,e,d,r⟩=>⟨o,N,Q,base_of e (T e d),d,r⟩
  have L:=λb o e=>base_of (KX b o e) (by
   cases q:H b with
   |none=>rfl
   |some u=>
    have e':=hA b (by rw[q];simp);subst e';rw[hK (by rw[q];simp)]at e;cases e)
  have hM:Mod K B (Nz f.heap H):=⟨L,p G,⟨U,p g,hbb⟩,let ⟨mc,h1,h2⟩:=J;⟨mc,p h1,h2⟩⟩;have e0:N5 P w K B (Nz f.heap H) callerA [] f H:=⟨rfl,hM,λb o e=>Zei e,Vh (Zov _ _),trivial,λb g=>absurd (show b∈([]:List Addr)from g) (by simp),E,.of_eq hg⟩
  refine Vt ((F _ L<|p G).run callerA [] f H ⟨[.ref a],[]⟩ [.ref a] [.ref a] _ _ hr e0 (y f<|.ref a) (.cons rfl .nil) (Y H hO hS)) λr l h=>?_;cases r with
  |error e=>exact(hCX H e l h).elim
  |ok fl=>
   cases fl with
   |ret u=>
    obtain⟨v,H',os,bare,un,C,r',q⟩:=h;subst q;obtain rfl:=r';refine⟨rfl,OldK.of_keep λb o e=>?_,os,bare⟩;cases q:H b with
    |none=>exact un.keep b o e q (by intro z;exact absurd (show b∈([]:List Addr)from z) (by simp)) (by simp)
    |some u=>
     rcases hO b with z|⟨ob,xs,z⟩
     ·rw[q]at z;cases z
     ·have z2:=un.frzs b ob _ z;obtain⟨e1,_⟩:=E b _ z;obtain⟨e2,_⟩:=C b _ z2;rw[e]at e1;cases e1;exact e2
   |_=>exact False.elim h
 cases hk:K.lookup a with
 |some o=>
  have e:=KX a o hk;rw[M]at e;cases e
  refine core (λ_=>none) (λ_=>.inl rfl) (.inr ⟨_,vs.toArray,_,hk,rfl,rfl,rfl,by rw[Qr,hi.length];exact hl,by simpa using rv⟩) (λb u z=>by have A:=z;cases A) (λb z=>absurd rfl z) λz=>absurd rfl z
 |none=>
  refine core (λb=>if b=a then some (.frz {cls:=.type "list",data:=.seq vs.toArray} (.lst<|ns.map V.int))else none) (λb=>?_) (.inl<|.inr ⟨{cls:=.type "list",data:=.seq vs.toArray},WO rfl⟩) (λb u z=>?_) (λb z=>?_) λ_=>hk
  ·by_cases g:b=a
   ·exact .inr ⟨_,_,WO g⟩
   ·exact .inl (WM g)
  ·by_cases g:b=a
   ·have A:=(WO g).symm.trans z;cases A
    subst g;exact⟨M,by rw[WG];exact hl,vs,_,rv,M⟩
   ·have A:=(WM g).symm.trans z;cases A
  ·by_cases g:b=a
   ·exact g
   ·exact absurd (WM g) z
def Zm9{l:PySem.W.OpenLaw}{n k}{q}{loose}{XP}{YP}{d}{K:Params->Yc}{CX:World->CXT}{sp:World->Sp}{x}(hn:l.most=some n)(J:n<=sizeLine)(M:d.params.defaults=[])(hr:Xz k callerA)(hY:∀w h,YP w h->(K w.params).In h)
  (F:∀w y B h,(K w.params).In h->h.Ns mainGlobals y->y d.name=some (.ref B)->
   ∃Q,(∀s u,BindsTo s Q ⟨[u],[]⟩ [(x,u)])/\
    ∀base,(K w.params).In base->base.Ns mainGlobals y->K9 l.prog w (K w.params) y base (CX w) k B Q [x] (sp w))
  (E:∀w H a (ns:Ye),ns.length<=n->FU H->SqL (K w.params) H a (ns.map V.int)->sp w [.ref a] H (λv _=>v=.bl true) λ_ _ _=>False)
  (N:∀w H s e C,CX w [] H s (λ_ _ _=>False) e C->False) :
  PySem.W.WalkO q loose XP YP l.row.toRowW d [] (λf vs=>PySem.call f vs):=by
 refine Att.Zl9 hn M λw U z y mb B o pm cd doc a vs ns G Y ho hd hcd L A r p hg=>?_;have KX:=hY w _ Y;obtain⟨Q,hb,hF⟩:=F w y B _ KX G.T.g L;exact Zia KX G.T.g G.T.b G.T.builtins G.T.nolimit hg A r (WV p J) hr hF hb (λH hO hS=>E w H a ns p hO hS) λH e C=>N w H z e C
def Zsc{l:PySem.W.OpenLaw}{n k}{q}{loose}{XP}{YP}{d}{K:Params->Yc}{CX}{sp:Yc->Sp}{x}(E:l.most=some n)(r:n<=sizeLine)(y:d.params.defaults=[])(C:Xz k callerA)(G:∀w h,YP w h->(K w.params).In h)
  (F:∀w g B h,(K w.params).In h->h.Ns mainGlobals g->g d.name=some (.ref B)->
   ∃A,(∀s u,BindsTo s A ⟨[u],[]⟩ [(x,u)])/\
    ∀base,(K w.params).In base->base.Ns mainGlobals g->K9 l.prog w (K w.params) g base CX k B A [x] (sp<|K w.params))
  (p:∀K H a (ns:Ye),ns.length<=n->FU H->SqL K H a (ns.map V.int)->sp K [.ref a] H (λv _=>v=.bl true) λ_ _ _=>False)
  (z:∀H s e o,CX [] H s (λ_ _ _=>False) e o->False) :
  PySem.W.WalkO q loose XP YP l.row.toRowW d [] (λf vs=>PySem.call f vs):=
 Zm9 E r y C G F (λw H a ns M L J=>p (K w.params) H a ns M L J) λ_ H s e o=>z H s e o
noncomputable def inClass(s:Stmt)(j:Nat):Stmt:=match s with
 | .ClassDef _ _ _ body _ _ _ _ _ _ _=>body.getD j (.Pass ⟨0,0,0,0⟩)
 |_=>.Pass ⟨0,0,0,0⟩
noncomputable def Px(s:Stmt):Arguments:=match s with
 | .FunctionDef _ a _ _ _ _ _ _ _ _=>a
 |_=>{posonlyargs:=[],args:=[],vararg:=none,kwonlyargs:=[],kw_defaults:=[],kwarg:=none,defaults:=[]}
noncomputable def XU(s:Stmt):Yn:=match s with
 | .FunctionDef _ _ b _ _ _ _ _ _ _=>b
 |_=>[]
noncomputable def Xq(s:Stmt):Scope:=match s with
 | .FunctionDef _ _ _ _ _ _ f _ _ _=>f
 |_=>{kind:=.function,names:=[],isGenerator:=false,isCoroutine:=false}
noncomputable abbrev CX0:CXT:=λ_ _ _ _ _ _=>False
noncomputable abbrev E0:XK:=λ_ _ _=>False
def XT:Pz CX0 X E0:=λ_ _ _ _ _ _ _ h=>h.elim
structure Fun (K:Yc) (x qual:Str) (st:Stmt) (f:Addr) (fd:FuncData):Prop where
 ex:∃(oc:Value) (od:Yp) (kV doc pm:Value) (an:Yp) (cdv ct:Value) (osl:Array (Yo)),
  fd=PySem.W.fnOf x qual (Px st) (XU st) (Xq st) .none kV doc pm an cdv ct/\K.lookup f=some ⟨oc,od,.func fd,osl⟩/\PySem.W.codeIn K cdv qual=true
 kp:PySem.W.keepIn K (.ref f)=true
section
variable {P:Program}{w:World}{K:Yc}{mg:Yg}{base:Heap}
def Fun.ok {st f p N ps k sp} (F:Fun K x qual st f p) (S:Xr N ps (Xq st)) (len:∀vs H Q E,sp vs H Q E->vs.length=ps.length)
  (l:∀g A outer s H vs Q E,Xz k (A.deeper<|envOfC qual (Xq st) s.heap.objs.size f g)->sp vs H Q E->
   ∃t,PSs (Kf CX0 P w K mg base N qual (Xq st) f g A outer s H E).nox (XU st) t/\t {nx:=λ_ H'=>Q .non H',rt:=Q} (start N vs) H):K9 P w K mg base CX0 (k+1) f p ps sp:=by
 obtain⟨oc,B,kV,y,z,G,g,C,r,rfl,u,o⟩:=F.ex;refine DO u o S len λA outer s H vs Q E v n=>?_;obtain⟨t,h,q⟩:=l g A outer s H vs Q E v n;exact⟨t,h.nox,q⟩
def Fun.binds {st f p ps} (F:Fun K x qual st f p)
  (h:∀kV g n o l ct us,us.length=ps.length->bindArgs (PySem.W.fnOf x qual (Px st) (XU st) (Xq st) .none kV g n o l ct) ⟨us,[]⟩=pure (ps.zip us)):Binds K p ps []:=by
 obtain⟨oc,u,kV,g,n,o,l,ct,r,rfl,v,s⟩:=F.ex;exact .all (h kV g n o l ct)
def Ae{st f oc od p n kV h o g ct}(l:K.lookup f=some ⟨oc,od,.func (PySem.W.fnOf x qual (Px st) (XU st) (Xq st) .none kV h o p g ct),n⟩)(c:PySem.W.codeIn K g qual=true)(k:PySem.W.keepIn K (.ref f)=true):Fun K x qual st f (PySem.W.fnOf x qual (Px st) (XU st) (Xq st) .none kV h o p g ct):=⟨⟨oc,od,kV,h,o,p,g,ct,n,rfl,l,c⟩,k⟩
end
def Pv{k}(f:Xz k A):A.units+1<cLine:=JR (Nat.add_le_add_left (by simp) _) f.units
def Zji(h:n<=1000):n<sizeLine:=JR h (by decide)
section
variable {X:Cx}
def pv(i:Nat){x pos}(h:autoParam (X.N[i]?=some x) au_0)(g:autoParam (Vis X.env.scope x) au_4)(hd:autoParam ((x==("__debug__" : Str))=false) au_1)(f:autoParam ((x==("__classdict__" : Str))=false) au_1):PE X (.Name x pos) (K5 i):=Znn h g hd f
end
def Ke{A B:Prop}(h:B):if false=true then A else B:=by grind
def Kx{A B:Prop}(h:A):if true=true then A else B:=by grind
def Xu{c A B:Prop}[Decidable c](g:c->A)(f:¬c->B):if c then A else B:=by grind
def Tt{c A B:Prop}[Decidable c](f:c)(h:B):if (!decide c)=true then A else B:=by grind
def Same(H H':Hp):Prop:=∀b o,H b=some o->H' b=some o
def Same.refl (H:Hp):Same H H:=λ_ _ h=>h
def Same.trans (a:Same H g) (b:Same g f):Same H f:=λc o h=>b c o (a c o h)
def Same.free (e:Same H H') {l} (h:H' l=Option.none):H l=Option.none:=by
 cases q:H l with
 |none=>rfl
 |some o=>
  rw[e l o q]at h;lia
def Same.seq {K H H'}{a xs} (e:Same H H') (h:SqL K H a xs):SqL K H' a xs:=by
 rcases h with(h|⟨o,h⟩)|h
 ·exact .inl (.inl<|e _ _ h)
 ·exact .inl (.inr ⟨o,e _ _ h⟩)
 ·exact .inr h
end L2
set_option maxHeartbeats 4000000
namespace L2
open PySem PySem.Spec PyProof.Rows
section
variable {κ:Type} [DecidableEq κ]
noncomputable def X8(f:List (κ×V))(k:κ):Option V:=(f.find? λg=>decide (g.1=k)).map (·.2)
noncomputable def putK(f:List (κ×V))(k:κ)(v:V):List (κ×V):=
 if (f.any λg=>decide (g.1=k))=true then f.map (λg=>if g.1=k then(g.1,v)else g)else f++[(k,v)]
def Tc{p:κ×V}{r:List (κ×V)}{k:κ}(e:p.1=k):X8 (p::r) k=some p.2:=by simp[X8,VG,e]
def Ta{p:κ×V}{r:List (κ×V)}{k:κ}(e:¬p.1=k):X8 (p::r) k=X8 r k:=by simp[X8,VG,e]
theorem Bj(k:κ):∀f:List (κ×V),(f.any λg=>decide (g.1=k))=(X8 f k).isSome
 |[]=>rfl
 |p::r=>by
  rw[VU];by_cases e:p.1=k
  ·simp only[Tc e,WI e,Bool.true_or,Option.isSome_some]
  ·rw[Ta e,Qu e,Bool.false_or];exact Bj k r
theorem Om(k j:κ)(y:V):∀f:List (κ×V),X8 (f.map λg=>if g.1=k then(g.1,y)else g) j=(X8 f j).map λx=>if j=k then y else x
 |[]=>rfl
 |p::r=>by
  have l:=Om k j y r;rw[Qb];by_cases h:p.1=k
  ·rw[WO h];by_cases e:p.1=j
   ·rw[Tc (p:=(p.1,y)) e,Tc e,JC,WO (e.symm.trans h)]
   ·rw[Ta (p:=(p.1,y)) e,Ta e,l]
  ·rw[WM h];by_cases e:p.1=j
   ·rw[Tc (p:=p) e,Tc e,JC,WM (λz=>h (e.trans z))]
   ·rw[Ta (p:=p) e,Ta e,l]
theorem HD(k j:κ)(y:V):∀f:List (κ×V),X8 f k=none->X8 (f++[(k,y)]) j=if j=k then some y else X8 f j
 |[],_=>by
  by_cases e:k=j
  ·rw[WO e.symm];exact Tc (p:=(k,y)) e
  ·rw[WM (λz=>e z.symm)];exact Ta (p:=(k,y)) e
 |p::r,g=>by
  rw[Vp];have h:¬p.1=k:=λz=>by rw[Tc z]at g;cases g
  rw[Ta h]at g;have l:=HD k j y r g;by_cases e:p.1=j
  ·rw[Tc e,Tc e,WM (λz=>h (e.trans z))]
  ·rw[Ta e,Ta e,l]
def Av(f:List (κ×V))(k j:κ)(y:V):X8 (putK f k y) j=if j=k then some y else X8 f j:=by
 unfold putK;by_cases a:(f.any λg=>decide (g.1=k))=true
 ·rw[WO a,Om];rw[Bj]at a;by_cases e:j=k
  ·obtain⟨x,hx⟩:=Option.isSome_iff_exists.mp a;rw[WO e,e,hx,JC,WO rfl]
  ·rw[WM e];cases X8 f j with
   |none=>rfl
   |some x=>rw[JC,WM e]
 ·rw[WM a];refine HD k j y f ?_;rw[Bj]at a;cases q:X8 f k with
  |none=>rfl
  |some x=>rw[q]at a;exact(a rfl).elim
def FS(f:List (κ×V))(k:κ)(v:V):(putK f k v).length<=f.length+1:=by
 unfold putK;split
 ·rw[WG];omega
 ·rw[WS,Qa,List.length_nil];omega
def Zf9{f:List (κ×V)}{k:κ}(v:V)(h:X8 f k=none):putK f k v=f++[(k,v)]:=by
 unfold putK;rw[Bj,h];exact WM (by decide)
def RelO.isSome_eq {o:Option V}{u:Yo} (r:RelO o u):o.isSome=u.isSome:=by
 cases o with
 |none=>cases u with
  |none=>rfl
  |some _=>exact(show False from r).elim
 |some _=>cases u with
  |none=>exact(show False from r).elim
  |some _=>rfl
def KV.val {f:List (κ×V)}{vs:List (κ×Value)} (r:KV f vs) (k:κ):RelO (X8 f k) (valueAt vs k):=by
 unfold KV at r
 induction r with
 |nil=>exact True.intro
 | @cons p q u g h t o=>
  obtain⟨n,s⟩:=h;by_cases e:p.1=k
  ·have l:q.1=k:=n.symm.trans e;have b:valueAt (q::g) k=some q.2:=by simp[valueAt,VG,l]
   rw[Tc e,b];exact s
  ·have l:¬q.1=k:=λz=>e (n.trans z);have b:valueAt (q::g) k=valueAt g k:=by simp[valueAt,VG,l]
   rw[Ta e,b];exact o
def KV.any {f:List (κ×V)}{vs:List (κ×Value)} (r:KV f vs) (k:κ):(f.any λg=>decide (g.1=k))=vs.any λg=>decide (g.1=k):=by
 unfold KV at r
 induction r with
 |nil=>rfl
 |cons h t l=>rw[VU,VU,l,h.1]
def KV.repl {g:List (κ×V)}{vs:List (κ×Value)} (r:KV g vs) (k:κ) {y:V}{u:Value} (n:RelV y u) :
  KV (g.map λf=>if f.1=k then(f.1,y)else f) (vs.map λf=>if f.1=k then(f.1,u)else f):=by
 unfold KV at r ⊢
 induction r with
 |nil=>exact .nil
 | @cons p q w v h t o=>
  rw[Qb,Qb];refine .cons ?_ o;obtain⟨l,s⟩:=h;by_cases e:p.1=k
  ·rw[WO e,WO (l.symm.trans e)];exact⟨l,n⟩
  ·rw[WM e,WM (λz=>e (l.trans z))];exact⟨l,s⟩
def KV.put {f:List (κ×V)}{vs:List (κ×Value)} (r:KV f vs) (k:κ) {y:V}{u:Value} (g:RelV y u):KV (putK f k y) (stored vs k u):=by
 unfold putK stored;rw[r.any k];by_cases e:(vs.any λh=>decide (h.1=k))=true
 ·rw[WO e,WO e];exact r.repl k g
 ·rw[WM e,WM e];exact Paired.snoc r ⟨rfl,g⟩
def KV.length {f:List (κ×V)}{vs:List (κ×Value)} (r:KV f vs):f.length=vs.length:=Paired.length r
end
def FO{P:Program}{w:World}{k:Key}{u:Value}(r:RelV (kV k) u):(P4 P w).is k u=true:=by
 cases k with
 |inl i=>obtain⟨t,e⟩:=(show ∃t,u=Value.int i t from r);subst e;exact Za7 P w i t
 |inr x=>obtain⟨t,e⟩:=(show ∃t,u=Value.str x t from r);subst e;exact Zr6 P w x t
theorem Oz{P:Program}{w:World}:∀{f:List Key}{us:Yk},Vals (f.map kV) us->ItemsAre (P4 P w) f us
 |[],_,r=>by rw[List.map_nil]at r;cases r;exact .nil
 |k::f,_,r=>by
  rw[Qb]at r;cases r with
  |cons h t=>exact .cons (FO h) (Oz t)
abbrev KT(H:Hp):List (List Key×V)->List (List Key×Addr×Value)->Prop:=Paired λp q=>p.1=q.1/\H q.2.1=some (.tup<|p.1.map kV)/\RelV p.2 q.2.2
def KT.val {H:Hp}{f:List (List Key×V)}{xs:List (List Key×Addr×Value)} (r:KT H f xs) (k:List Key):RelO (X8 f k) ((atKey xs k).map (·.2)):=by
 induction r with
 |nil=>exact True.intro
 | @cons p q u g h t o=>
  obtain⟨n,_,s⟩:=h;by_cases e:p.1=k
  ·have l:q.1=k:=n.symm.trans e;have b:atKey (q::g) k=some q.2:=by simp[atKey,VG,l]
   rw[Tc e,b];exact s
  ·have l:¬q.1=k:=λz=>e (n.trans z);have b:atKey (q::g) k=atKey g k:=by simp[atKey,VG,l]
   rw[Ta e,b];exact o
def KT.repl {H:Hp}{f:List (List Key×V)}{xs:List (List Key×Addr×Value)} (r:KT H f xs) (k:List Key) {y:V}{u:Value} (o:RelV y u) :
  KT H (f.map λl=>if l.1=k then(l.1,y)else l) (xs.map<|putAt k u):=by
 induction r with
 |nil=>exact .nil
 | @cons p q x w h t s=>
  rw[Qb,Qb];refine .cons ?_ s;obtain⟨g,n,v⟩:=h;unfold putAt;by_cases e:p.1=k
  ·rw[WO e,WO (g.symm.trans e)];exact⟨g,n,o⟩
  ·rw[WM e,WM (λz=>e (g.trans z))];exact⟨g,n,v⟩
def KT.put {H:Hp}{f:List (List Key×V)}{xs:List (List Key×Addr×Value)} (r:KT H f xs) (k:List Key) {b:Addr}{y:V}{u:Value} (l:H b=some (.tup<|k.map kV)) (g:RelV y u) :
  KT H (putK f k y) (storedH xs k b u):=by
 have e:(f.any λh=>decide (h.1=k))=(atKey xs k).isSome:=by
  rw[Bj,(r.val k).isSome_eq,Option.isSome_map]
 unfold putK storedH;rw[e];by_cases q:(atKey xs k).isSome=true
 ·rw[WO q,WO q];exact r.repl k g
 ·rw[WM q,WM q];exact Paired.snoc r ⟨rfl,l,g⟩
def KT.keeps {H H':Hp}{f:List (List Key×V)}{xs:List (List Key×Addr×Value)} (r:KT H f xs) (h:∀b g,H b=some (.tup g)->H' b=some (.tup g)):KT H' f xs:=
 Paired.mapP r λ_ _ z=>⟨z.1,h _ _ z.2.1,z.2.2⟩
section
variable {P:Program}{w:World}{H:Hp}{h:Heap}{a:Addr}
def O4{u:HO}(ok:HOk P w H h)(e:Rd H a u):ObjOk P w H h a u:=e.ok ok
def F4{f:List (Key×V)}(ok:HOk P w H h)(e:Rd H a (.dK f)):f.length<=sizeLine/\(a==sysModules)=false/\∃vs,KV f vs/\h.DictOf (P4 P w) a vs:=
 show ObjOk P w H h a (.dK f)from O4 ok e
def Zld{f:List (Key×V)}(ok:HOk P w H h)(e:H a=some (.dK f)):f.length<=sizeLine/\(a==sysModules)=false/\∃vs,KV f vs/\h.DictOf (P4 P w) a vs:=F4 ok (.inl e)
def Bi{f:List Key}(ok:HOk P w H h)(e:H a=some (.tup<|f.map kV)):(tupleKind<|P4 P w).is h f a:=by
 obtain⟨_,g,r,o,s,p,n,l⟩:=(show ObjOk P w H h a (.tup<|f.map kV)from ok a _ e)
 exact⟨o,g.toArray,n,s,p,l,by simpa using Oz r⟩
def FM{f:List (List Key×V)}(ok:HOk P w H h)(e:Rd H a (.dT f)):f.length<=sizeLine/\(a==sysModules)=false/\
  ∃xs,KT H f xs/\h.DictOfH (tupleKind<|P4 P w) a xs:=by
 obtain⟨z,y,xs,r,o,B,C,A,v,u,s,n⟩:=(show ObjOk P w H h a (.dT f)from O4 ok e)
 refine⟨z,y,xs,r,o,B,C,A,v,u,s,λx hx=>?_,n⟩
 have all:∀{l:List (List Key×V)} {m:List (List Key×Addr×Value)},KT H l m->∀x∈m,(tupleKind<|P4 P w).is h x.1 x.2.1:=by
  intro l m q
  induction q with
  |nil=>intro x hx;exact nomatch hx
  | @cons p q G E hq t g=>
   intro x hx;rcases WU.mp hx with e|hx
   ·subst e;exact Bi ok (by rw[←hq.1];exact hq.2.1)
   ·exact g x hx
 exact all r x hx
def FA{f:List (List Key×V)}(ok:HOk P w H h)(e:H a=some (.dT f)):f.length<=sizeLine/\(a==sysModules)=false/\
  ∃xs,KT H f xs/\h.DictOfH (tupleKind<|P4 P w) a xs:=FM ok (.inl e)
end
def DGet(H:Hp)(a:Addr)(y:V)(r:Option V):Prop:=
 (∃f k,Rd H a (.dK f)/\y=kV k/\r=X8 f k)\/∃f k b,Rd H a (.dT f)/\y=.ref b/\H b=some (.tup<|k.map kV)/\r=X8 f k
def DPut(H:Hp)(a:Addr)(y v:V)(H':Hp):Prop:=
 (∃f k,H a=some (.dK f)/\y=kV k/\f.length<sizeLine/\H'=upd H a (.dK<|putK f k v))\/
 ∃f k b,H a=some (.dT f)/\y=.ref b/\H b=some (.tup<|k.map kV)/\f.length<sizeLine/\H'=upd H a (.dT<|putK f k v)
def DGet.k {H:Hp}{a:Addr}{f:List (Key×V)}{k:Key} (e:H a=some (.dK f)):DGet H a (kV k) (X8 f k):=.inl ⟨f,k,.inl e,rfl,rfl⟩
def DGet.t {H:Hp}{a b:Addr}{f:List (List Key×V)}{k:List Key} (e:H a=some (.dT f)) (g:H b=some (.tup<|k.map kV)):DGet H a (.ref b) (X8 f k):=.inr ⟨f,k,b,.inl e,rfl,g,rfl⟩
def DPut.k {H:Hp}{a:Addr}{f:List (Key×V)}{k:Key}{v:V} (e:H a=some (.dK f)) (g:f.length<sizeLine):DPut H a (kV k) v (upd H a<|.dK<|putK f k v):=.inl ⟨f,k,e,rfl,g,rfl⟩
def DPut.t {H:Hp}{a b:Addr}{f:List (List Key×V)}{k:List Key}{v:V} (e:H a=some (.dT f)) (h:H b=some (.tup<|k.map kV)) (g:f.length<sizeLine) :
  DPut H a (.ref b) v (upd H a<|.dT<|putK f k v):=.inr ⟨f,k,b,e,rfl,h,g,rfl⟩
section
variable {X:Cx}{pins:Yf}{σ:St}{H:Hp}{s:Shared}{a:Addr}{y v:V}{u r:Value}{o:Option V}{A:Around}{E:Yh}
def Inv.big (I:Inv X pins σ H s):sysModules<s.heap.objs.size:=by
 have h:mainGlobals<s.heap.objs.size:=(I.mod.glob.keeps I.bk).lt;exact V8 (by decide) h
def Zpf{Q:Yh}(M:A.units+1<cLine)(I:Inv X pins σ H s)(g:DGet H a y (some v))(J:RelV y u)(h:∀n G,Inv X pins σ H G->RelV v n->Q n G) :
  wpAny (model X.prog X.w) A (getItem (.ref a) u) Q E s:=by
 rcases g with⟨x,k,e,ey,l⟩|⟨x,k,b,e,ey,T,l⟩
 ·subst ey;obtain⟨z,hd,L,rel,C⟩:=F4 I.hok e;obtain⟨n,hw,f⟩:=RelO.some_of (v:=v) (o:=valueAt L k) (by rw[l];exact rel.val k);exact wpAny_getItem_of (FO J) C.mapOf hw (h n _ (I.tok _) f)
 ·subst ey;cases (show u=Value.ref b from J)
  obtain⟨z,hd,xs,rel,C⟩:=FM I.hok e;obtain⟨n,hw,f⟩:=RelO.some_of (v:=v) (o:=(atKey xs k).map (·.2)) (by rw[l];exact rel.val k);obtain⟨p,N,B⟩:=Option.map_eq_some_iff.mp hw;refine wpAny_getItem_heap (tupleKind_room_in1 M) (Bi I.hok T) C N ?_;rw[B];exact h n _ (I.tok _) f
def Zgk{Q:Yh}(B:A.units+1<cLine)(I:Inv X pins σ H s)(g:DGet H a y o)(x:RelV y u)(h:∀p,Inv X pins σ H p->Q (.bool (!o.isSome)) p) :
  wpAny (model X.prog X.w) A (compareOp .NotIn u<|.ref a) Q E s:=by
 rcases g with⟨f,k,e,ey,l⟩|⟨f,k,b,e,ey,C,l⟩
 ·subst ey;obtain⟨z,hd,G,rel,n⟩:=F4 I.hok e;refine wpAny_notIn_of (FO x) hd n.mapOf ?_;rw[←(rel.val k).isSome_eq,←l];exact h _ (I.tok _)
 ·subst ey;cases (show u=Value.ref b from x)
  obtain⟨z,hd,xs,rel,n⟩:=FM I.hok e;refine wpAny_notIn_heap (tupleKind_room_in1 B) (Bi I.hok C) hd n ?_;have q:=(rel.val k).isSome_eq;rw[Option.isSome_map]at q;rw[←q,←l];exact h _ (I.tok _)
def Fx{f:Heap}{t':Nat}{ob:HO}(I:Inv X pins σ H s)(g:Mut (H a))(hs:Heap.SameBut a s.heap f)(h:∃q,f.get? a=some q)(new:ObjOk X.prog X.w (upd H a ob) f a ob) :
  Inv X pins σ (upd H a ob) {s with heap:=f,toks:=t'}:=
 I.write (x:=a) (e:=a) g (.inl rfl) (λb q l z=>(hs.2 b l).trans z) h new
def Zf8{P:Program}{w:World}{H':Hp}{g:Heap}{f:List (Key×V)}{vs:List (Key×Value)}(z:f.length<=sizeLine)(hd:(a==sysModules)=false)(rel:KV f vs)(dd:g.DictOf (P4 P w) a vs) :
  ObjOk P w H' g a (.dK f):=⟨z,hd,vs,rel,dd⟩
def Zg8{H':Hp}{Q:Unit->Shared->Prop}(Y:A.units+1<cLine)(I:Inv X pins σ H s)(g:DPut H a y v H')(L:RelV y u)(rv:RelV v r)(h:∀J,Inv X pins σ H' J->Q () J) :
  wpAny (model X.prog X.w) A (setItem (.ref a) u r) Q E s:=by
 rcases g with⟨f,k,e,ey,l,C⟩|⟨f,k,b,e,ey,T,l,C⟩
 ·subst ey C;obtain⟨z,hd,U,rel,G⟩:=Zld I.hok e;have p:U.length<=sizeLine:=by rw[←rel.length];exact z
  have B:(putK f k v).length<=sizeLine:=by have:=FS f k v;omega
  refine wpAny_setItem_pairs (hsz:=p) (FO L) G λM n x=>h _ ?_;have he:∃q,M.get? a=some q:=let ⟨q,_,_,hq,_⟩:=n;⟨q,hq⟩;exact Fx I (by rw[e];exact True.intro) x he (Zf8 B hd (rel.put k rv) n)
 ·subst ey C;cases (show u=Value.ref b from L)
  obtain⟨z,hd,xs,rel,G⟩:=FA I.hok e;have p:xs.length<=sizeLine:=by rw[←Paired.length rel];exact z
  have B:(putK f k v).length<=sizeLine:=by have:=FS f k v;omega
  refine wpAny_setItem_heap (hsz:=p) (tupleKind_room_in1 Y) (Bi I.hok T) G λM n x=>h _ ?_;obtain⟨q,es,ep,hq,h2,h3,h4,_,h5⟩:=n;refine Fx I (by rw[e];exact True.intro) x ⟨q,hq⟩ ⟨B,hd,_,(rel.put k T rv).keeps λc ys N=>?_,q,es,ep,hq,h2,h3,h4,h5⟩;rw[Xw (D1 N e (λz=>nomatch z))];exact N
end
def IC(i:Expr):Prop:=∀f g,subscripted i false f g=operate [f,g] (getItem f g)
def Zp5{prog:Program}{w:World}{A:Around}{E:Yh}{s:Shared}{env:Env}{value slice:Expr}{pos:Pos}{T id:String}{Q:Yh}(z:typeLookup (.type T) "__getitem__"=pure (some<|.builtin id))(hs:IC slice)(h:wpAny (model prog w) A (eval value env) (λo n=>wpAny (model prog w) A (eval slice env) (λi f=>f.TypeIs o T/\wpAny (model prog w) A (getItem o i) Q E f) E n) E s) :
  wpAny (model prog w) A (eval (.Subscript value slice pos) env) Q E s:=by
 refine Subscript_ (Qz h (λo n v=>Qz v (λi f g=>?_) λ_ _ x=>x) λ_ _ x=>x);obtain⟨y,g⟩:=g;unfold subscriptTail;refine WE ?_;rw[getitemInPython_of_ne y.not_modules];refine WE (wpAny_specialOf y z ?_)
 have p:wpAny (model prog w) A (subscripted slice false o i) (λr l=>wpAny (model prog w) A (letTemporaryGo value o r >>= λ_=>pure r) Q E l) E f:=by
  rw[hs o i];exact wpAny_operating (Qz g (λr l u=>WE (wpAny_letTemporaryGo<|WK u)) λ_ _ x=>x)
 first
  |exact WK (WE p)
  |exact WE (WK<|WE p)
  |exact WE p
def Zcb{X:Cx}{pins:Yf}{l:St}{H:Hp}{s:Shared}{a:Addr}{y:V}{o:Option V}(I:Inv X pins l H s)(g:DGet H a y o):s.TypeIs (.ref a) "dict":=by
 rcases g with⟨f,k,e,_,_⟩|⟨f,k,b,e,_,_,_⟩
 ·obtain⟨_,_,n,_,h⟩:=F4 I.hok e;exact h.typeIs
 ·obtain⟨_,_,xs,_,h⟩:=FM I.hok e;exact h.typeIs
noncomputable def IJ(l h:TE):TE:=λf H Q=>l f H λx n=>h f n λy g=>∃a v,x=.ref a/\DGet g a y (some v)/\Q v g
noncomputable def Zaa(h l:TE):TE:=λf H Q=>h f H λy n=>l f n λx g=>∃a o,x=.ref a/\DGet g a y o/\Q (.bl (!o.isSome)) g
noncomputable def RP(n h l:TE):TS:=λD f H=>l f H λv r=>n f r λx p=>h f p λy o=>∃a g,x=.ref a/\DPut o a y v g/\D.nx f g
section
variable {X:Cx}{o i e value:Expr}{pos pos' tpos:Pos}{td ty tv:TE}
def Fi(C:X.A.units+1<cLine)(E:PE X o td)(G:PE X i ty)(hs:IC i):PE X (.Subscript o i pos) (IJ td ty):=by
 intro pins s l H Q I h;refine Zp5 PySem.F.slot_dict_getitem.lookup hs (thn (E pins s l H _ I h) ?_);rintro u p ⟨x,T,M,w,B⟩;refine thn (G pins p l T _ M B) ?_;rintro iv s2 ⟨y,N,n,r,a,v,J,g,z⟩;subst J;obtain rfl:u=Value.ref a:=w;exact⟨Zcb n g,Zpf C n g r λU Y L f=>⟨v,N,L,f,z⟩⟩
def Zkv(z:X.A.units+1<cLine)(C:PE X i ty)(B:PE X o td):PC X .NotIn i o (Zaa ty td):=by
 intro pins s f H Q I h;refine thn (C pins s f H _ I h) ?_;rintro Y l ⟨y,N,L,n,v⟩;refine thn (B pins l f N _ L v) ?_;rintro u U ⟨x,M,J,p,a,w,E,g,r⟩;subst E;obtain rfl:u=Value.ref a:=p;exact Zgk z J g n λT G=>⟨.bl (!w.isSome),M,G,rfl,r⟩
def EU(J:X.A.units+1<cLine)(L:PE X o td)(M:PE X i ty)(G:PE X value tv)(hs:swapsWith value (some<|.Subscript o i pos') pos.line X.env=pure false) :
  PS X (.Assign [.Subscript o i pos'] value pos) (RP td ty tv):=by
 intro pins s f H D I h;refine wpAny_Assign_Subscript (thn (G pins s f H _ I h) ?_) hs;rintro r n ⟨v,H1,Y,z,E⟩;refine thn (L pins n f H1 _ Y E) ?_;rintro u l ⟨x,H2,U,w,C⟩;refine thn (M pins l f H2 _ U C) ?_;rintro iv s3 ⟨y,H3,T,p,a,H4,N,g,B⟩;subst N;obtain rfl:u=Value.ref a:=w;exact Zg8 J T g p z λs4 Q=>⟨f,H4,Q,B⟩
end
def Znq{P:Program}{w:World}{H:Hp}(h:Heap)(f:sysModules<h.objs.size):ObjOk P w H (h.push {cls:=.type "dict",data:=.dict #[]}) h.objs.size (.dK []):=
 ⟨QV _,Vm.mpr (Ne.symm<|Qj f),[],.nil,Heap.DictOf.new h⟩
def IY{P:Program}{w:World}{H:Hp}(h:Heap)(f:sysModules<h.objs.size):ObjOk P w H (h.push {cls:=.type "dict",data:=.dict #[]}) h.objs.size (.dT []):=
 ⟨QV _,Vm.mpr (Ne.symm<|Qj f),[],.nil,_,#[],0,WX _ rfl,⟨rfl,rfl,rfl⟩,rfl,rfl,VO⟩
noncomputable def GE:TE:=λ_ H Q=>∀p,H p=none->Q (.ref p) (upd H p<|.dK [])
noncomputable def IS:TE:=λ_ H Q=>∀p,H p=none->Q (.ref p) (upd H p<|.dT [])
section
variable {X:Cx}{pos:Pos}
def Zb9:PE X (.Dict [] [] pos) GE:=λpins s f H Q I h=>
 wpAny_Dict_empty ⟨.ref s.heap.objs.size,_,I.laid (a:=s.heap.objs.size) (o:=.dK []) (t':=s.toks) (λ_ _ q=>WL _ q) (WQ _) (Znq s.heap I.big),rfl,h _ (I.hok.fresh<|WQ _)⟩
def Zbz:PE X (.Dict [] [] pos) IS:=λpins s f H Q I h=>
 wpAny_Dict_empty ⟨.ref s.heap.objs.size,_,I.laid (a:=s.heap.objs.size) (o:=.dT []) (t':=s.toks) (λ_ _ q=>WL _ q) (WQ _) (IY s.heap I.big),rfl,h _ (I.hok.fresh<|WQ _)⟩
end
def HA:List (TE×TE)->St->Hp->(List (V×V)->Hp->Prop)->Prop
 |[],_,H,Q=>Q [] H
 |(h,g)::r,f,H,Q=>h f H λx p=>g f p λy o=>HA r f o λl n=>Q ((x,y)::l) n
abbrev VV:List (V×V)->List (Value×Value)->Prop:=Paired λp q=>RelV p.1 q.1/\RelV p.2 q.2
def PPs(X:Cx)(pos:Pos)(keys:List (Option Expr))(values:Ym)(g:List (TE×TE)):Prop:=
 ∀(pins:Yf) (s:Shared) (f:St) (H:Hp) (Q:List (V×V)->Hp->Prop),Inv X pins f H s->HA g f H Q->
  wpAny (model X.prog X.w) X.A (evalPairs<|pairTrees keys values X.env pos) (λn o=>∃h l,Inv X pins f l o/\VV h n/\Q h l) X.xe s
def Zd3{X:Cx}{pos:Pos}:PPs X pos [] [] []:=λpins s f H Q I h=>pairTrees_nil_walk ⟨[],H,I,.nil,h⟩
def Zpe{X:Cx}{pos:Pos}{k v:Expr}{o:List (Option Expr)}{vs:Ym}{n l:TE}{f:List (TE×TE)}(L:PE X k n)(G:PE X v l)(J:PPs X pos o vs f) :
  PPs X pos (some k::o) (v::vs) ((n,l)::f):=λpins s g H Q I h=>
 pairTrees_cons_walk (thn (L pins s g H _ I h) λu r ⟨x,H1,T,z,C⟩=>thn (G pins r g H1 _ T C) λw2 p ⟨y,Y,N,w,B⟩=>
  thn (J pins p g Y _ N B) λws s3 ⟨E,U,M,rel,A⟩=>⟨(x,y)::E,U,M,.cons ⟨z,w⟩ rel,A⟩)
end L2
set_option genInjectivity false
set_option genSizeOfSpec false
namespace Own
open PySem PySem.Spec PyProof.Rows L2
structure Def (K:Yc) (mg:Yg) (x:Str) (st:Stmt) (ps:Yl):Prop where
 ex:∃f fd,Fun K x x st f fd/\mg x=some (.ref f)/\Binds K fd ps []
structure Callee (P:Program) (w:World) (K:Yc) (mg:Yg) (base:Heap) (CX:CXT) (k:Nat) (x:Str) (ps:Yl) (sp:Sp):Prop where
 ex:∃f fd,K9 P w K mg base CX k f fd ps sp/\mg x=some (.ref f)/\PySem.W.keepIn K (.ref f)=true/\(∃o:Obj,K.lookup f=some o/\o.data=.func fd)/\Binds K fd ps []
section
variable {P:Program}{w:World}{K:Yc}{mg:Yg}{base:Heap}
def Callee.at {st f g k ps sp} (C:Callee P w K mg base CX k x ps sp) (v:mg x=some (.ref f)) (F:Fun K x x st f g) (_:Def K mg x st ps):K9 P w K mg base CX k f g ps sp:=by
 obtain⟨z,n,E,l,_,y,_⟩:=C.ex;obtain⟨oc,s,kV,o,r,B,p,A,h,_,u,_⟩:=F.ex
 grind
def Def.ok {st N ps k sp} (D:Def K mg x st ps) (S:Xr N ps (Xq st)) (len:∀vs H Q E,sp vs H Q E->vs.length=ps.length)
  (l:∀f g A outer s H vs Q E,Xz k (A.deeper<|envOfC x (Xq st) s.heap.objs.size f g)->sp vs H Q E->
   ∃t,PSs (Kf CX0 P w K mg base N x (Xq st) f g A outer s H E).nox (XU st) t/\t {nx:=λ_ H'=>Q .non H',rt:=Q} (start N vs) H):Callee P w K mg base CX0 (k+1) x ps sp:=by
 obtain⟨f,u,F,p,r⟩:=D.ex;refine⟨f,u,F.ok S len λg A outer s H vs Q E o h=>l f g A outer s H vs Q E o h,p,F.kp,?_,r⟩;obtain⟨oc,z,kV,v,y,G,g,C,n,_,B,_⟩:=F.ex
 grind
end
section
variable {X:Cx}{CX:CXT}{k:Nat}{ps:Yl}{sp:Sp}{E:XK}{x:Str}{p pos:Pos}{e:Expr}{es:Ym}{t:TA}
def Ai(C:Callee X.prog X.w X.K X.mg X.base CX k x ps sp)(l:Xz k X.A)(hx:Pz CX X E)(v:PA X (e::es) t)(r:autoParam (Gl X x) au_0)(h:autoParam ((x==("__debug__" : Str))=false) au_1)(s:autoParam (starEach (e::es) X.env=(false,eval e X.env)::starEach es X.env) au_0)(g:autoParam ((backTo pos<|starEach es X.env).any (·.1)=false) au_0) :
  PE X (.Call (.Name x p) (e::es) [] pos) (Nh sp [] E t):=by
 obtain⟨f,y,F,n,o,_,u⟩:=C.ex;exact Znt F l r n o u .nil hx v h s g
def Zqg:Kl X (.builtin "isinstance") (λxs H Q=>∃x n t b,xs=[x,.ty n]/\KR X.K H x t/\PySem.W.kitOne X.K t (.type n)=some b/\Q (.bl b) H):=by
 intro pins s w H xs y Q I o h;obtain⟨x,n,t,b,rfl,g,e,q⟩:=h;cases o with
 |cons r u=>
  cases u with
  |cons v f=>
   cases f
   obtain rfl:=v;exact Zlj I r g e λl=>⟨.bl b,H,I.tok l,rfl,q⟩
def Znu:IxR X (λx y H Q=>Sb X.K x y H Q\/SL X.K x y H Q):=ix_list.or Zho
end
noncomputable def Ra(t u:TS):TS:=λD h H=>∃J:L2.St->Hp->Prop,t {D with nx:=J} h H/\∀f g,J f g->u D f g
def Zcx{st rest t u}(r:PS X st t)(p:PSs X rest u):PSs X (st::rest) (Ra t u):=by
 intro pins s n H D I h;obtain⟨J,h,k⟩:=h;refine wpAny_execs_cons (thn (r pins s n H {D with nx:=J} I h) λf o q=>?_)
 cases f with
 |next=>
  obtain⟨g,l,v,q⟩:=q;exact p pins o g l D v (k g l q)
 |_=>exact q
def Zdu(K:Yc)(n:String):PySem.W.kitOne K (.type n) (.type n)=some true:=by
 unfold PySem.W.kitOne;simp
def Tp{xs i v}(h:atI xs i=some v):atI (xs.map f) i=some (f v):=by
 unfold atI at h ⊢;cases e:ixN xs.length i with
 |_=>grind
def B5{i v}(f:0<=i)(h:xs[i.toNat]?=some v):atI xs i=some v:=by
 have:=Th h
 grind
def Kg(h:H a=none):Same H (upd H a o):=λb u e=>by rw[Xw (K7 e h)];exact e
def Same.upd (S:Same H H') (h:H a=none):Same H (upd H' a o):=λb u e=>by rw[Xw (K7 e h)];exact S b u e
def Same.new (S:Same H H') (h:H' a=none):Same H (L2.upd H' a o):=Own.Same.upd S (S.free h)
def Zgn(names:List (Str×NameKind))(g:∀x∈names,x.2=.free->∃c,env.cells.lookup x.1=some c):∀f,(∀x c,f.lookup x=some c->env.cells.lookup x=some c)->
  ∃l,(forIn names f (λx A=>if (x.2 == .free)=true then(do let c ←cellOf env x.1;pure (ForInStep.yield ((x.1,c)::A)))else pure (ForInStep.yield A)):Sem (List (Str×Addr)))=pure l/\
   (∀x c,l.lookup x=some c->env.cells.lookup x=some c)/\(∀x,(∃c,f.lookup x=some c)->∃c,l.lookup x=some c)/\∀x∈names,x.2=.free->∃c,l.lookup x.1=some c:=by
 induction names with
 |nil=>
  intro f s;exact⟨f,rfl,s,λ_ h=>h,λx hx=>by cases hx⟩
 |cons y r B=>
  intro f s;have o:=B λx hx=>g x (Qf _ hx);obtain⟨n,k⟩:=y;by_cases w:k=.free
  ·subst w;obtain⟨c,z⟩:=g (n,.free) Qy rfl
   have C:∀x d,List.lookup x ((n,c)::f)=some d->env.cells.lookup x=some d:=λx d e=>by
    rw[Vd]at e;by_cases hx:x=n
    ·subst hx;simp at e;subst e;exact z
    ·have:(x==n)=false:=by simpa using hx
     rw[this]at e;exact s x d e
   obtain⟨l,e,v,p2,u⟩:=o ((n,c)::f) C;refine⟨l,?_,v,λx hx=>p2 x ?_,λx hx p=>?_⟩
   ·rw[List.forIn_cons];have E:cellOf env n=pure c:=by unfold cellOf;rw[z]
    rwa[E]
   ·rw[Vd];cases (x==n)
    ·exact hx
    ·exact⟨c,rfl⟩
   ·rcases WU.mp hx with rfl|hx
    ·exact p2 n ⟨c,by simp[Vd]⟩
    ·exact u x hx p
  ·obtain⟨l,e,v,p2,u⟩:=o f s;refine⟨l,?_,v,p2,λx hx p=>?_⟩
   ·grind
   ·rcases WU.mp hx with rfl|hx
    ·exact absurd p w
    ·exact u x hx p
def Zfz{sc}(f:∀x∈sc.names,x.2=.free->∃c,env.cells.lookup x.1=some c) :
  ∃g,closureFor sc env=pure g/\(∀x c,g.lookup x=some c->env.cells.lookup x=some c)/\∀x∈sc.names,x.2=.free->∃c,g.lookup x.1=some c:=by
 obtain⟨g,e,n,_,l⟩:=Zgn sc.names f [] (λx c h=>by cases h);unfold closureFor
 grind
noncomputable def Kt(X:Cx)(N':Yl)(h:Scope)(l:List (Str×Addr))(C:Addr)(f:Shared)(g:Hp)(ex:List Addr):Cx:=
 {X with N:=N',s₀:=f,H₀:=g,env:=compEnvC h l C X.env,outer:=X.stack,ex:=ex,fn:=λ_=>false,pn:=[],xe:=λ_ _=>False}
structure Su (X:Cx) (N':Yl) (φ:Yi) (sc:Scope):Prop where
 kind:sc.kind=.function
 okind:X.env.scope.kind=.function
 nocell:∀y∈sc.names,y.2≠.cell
 names:∀y∈sc.names,y.2=.local->sc.names.lookup y.1=some .local
 frees:∀y∈sc.names,y.2=.free->X.env.scope.names.lookup y.1=some .cell
 len:φ.length=N'.length
 pick:∀(i:Nat) (x:Str) (j:Nat),N'[i]?=some x->φ[i]?=some (some j)->X.N[j]?=some x/\sc.names.lookup x=some .free
noncomputable def atStart(φ:Yi)(f:L2.St):L2.St:=φ.map λo=>o.bind λj=>(f[j]?).join
def Sub(g f:L2.St):Prop:=f.length=g.length/\∀(i:Nat) (v:V),g[i]?=some (some v)->f[i]?=some (some v)
def Sub.refl:Sub f f:=⟨rfl,λ_ _ h=>h⟩
def Sub.skip (h:Sub g f):Sub (none::g) (x::f):=by
 refine⟨by simp[h.1],λi v e=>?_⟩;cases i with
 |zero=>grind
 |succ i=>simp at e ⊢;exact h.2 i v e
theorem Hy{env:Env}(p:env.scope.kind=.function):∀{names:List (Str×NameKind)}{x:Str},names.lookup x=some .free->env.scope.names.lookup x=some .cell->
  (names.map λ(n,k)=>if (k==NameKind.free&&env.scope.kind == .function&&env.kindOf n==some .cell)then(n,NameKind.cell)else(n,k)).lookup x=some .cell
 |[],_,h,_=>by simp at h
 |(n,k)::r,x,h,g=>by
  have l:=@Hy env p r x;show List.lookup x ((if (k==NameKind.free&&env.scope.kind == .function&&env.kindOf n==some .cell)=true then(n,NameKind.cell)else(n,k))::_)=_;cases hx:x==n with
  |true=>
   have o:env.kindOf x=some .cell:=g;simp_all
  |false=>
   simp only[Vd,hx]at h;by_cases f:(k==NameKind.free&&env.scope.kind == .function&&env.kindOf n==some .cell)=true
   ·rw[WO f];simp only[Vd,hx];exact l h g
   ·rw[WM f];simp only[Vd,hx];exact l h g
theorem Ew{env:Env}:∀{names:List (Str×NameKind)}{x}{q:NameKind},
  (names.map λ(n,k)=>if (k==NameKind.free&&env.scope.kind == .function&&env.kindOf n==some .cell)then(n,NameKind.cell)else(n,k)).lookup x=some q->∃k,(x,k)∈names/\(q=k\/k=.free)
 |[],_,_,h=>by simp at h
 |(n,k)::r,x,q,h=>by
  have g:List.lookup x ((if (k==NameKind.free&&env.scope.kind == .function&&env.kindOf n==some .cell)=true then(n,NameKind.cell)else(n,k))::(r.map λ(n,k)=>if (k==NameKind.free&&env.scope.kind == .function&&env.kindOf n==some .cell)then(n,NameKind.cell)else(n,k)))=some q:=h;cases hx:x==n with
  |true=>
   have e:x=n:=by simpa using hx
   subst e;by_cases f:(k==NameKind.free&&env.scope.kind == .function&&env.kindOf x==some .cell)=true
   ·simp_all
   ·simp_all
  |false=>
   have p:List.lookup x (r.map λ(n,k)=>if (k==NameKind.free&&env.scope.kind == .function&&env.kindOf n==some .cell)then(n,NameKind.cell)else(n,k))=some q:=by
    by_cases f:(k==NameKind.free&&env.scope.kind == .function&&env.kindOf n==some .cell)=true
    ·rw[WO f]at g;simp only[Vd,hx]at g;exact g
    ·rw[WM f]at g;simp only[Vd,hx]at g;exact g
   obtain⟨l,o,hq⟩:=(@Ew env r x q) p;exact⟨l,Qf _ o,hq⟩
def Zkn{L target iter E scope pos N M env}(I:Nat->Shared->Prop)
  (turn:∀n s,I n s->wpAny (model prog w) A (pyNext N) (λr l=>match r with
   |none=>R (.ok .next) l
   |some v=>wpAny (model prog w) A (letOwnedTupleGo target N v) (λ_ g=>wpAny (model prog w) A (assign target env v) (λ_ y=>
     wpAny (model prog w) A (forIn E true λc r=>if r=true then do let ok ←isTrue c env (eval c env);pure (ForInStep.yield ok)else pure (ForInStep.yield r)) (λok f=>
      if ok=true then wpAny (model prog w) A (eval L env) (λx u=>
       wpAny (model prog w) A (call (.builtin "list.append") [M,x]) (λ_ p=>∃m,m<n/\I m p) (λ_ _=>False) u) (λ_ _=>False) f
      else ∃m,m<n/\I m f) (λ_ _=>False) y) (λ_ _=>False) g) (λ_ _=>False) l) (λ_ _=>False) s)
  (n:Nat) (h:I n s) :
  codeAny (model prog w) A (.compLoop (.ListComp L [⟨target,iter,E,0⟩] scope pos) 0 N M env) R s:=by
 refine codeAny_loop rfl I (λn s Q=>?_) n h;refine wpAny_noted ?_;rw[compTurn_list];refine WE (VT<|WE (Qz (turn n s Q) (λr l B=>?_) λ_ _ o=>o.elim));cases r with
 |none=>exact WK B
 |some v=>
  refine WE (Qz B (λ_ g C=>?_) λ_ _ o=>o.elim);refine WE (Qz C (λ_ y J=>WE (Qz J (λok f z=>?_) λ_ _ o=>o.elim)) λ_ _ o=>o.elim);cases ok with
  |false=>exact WK ⟨rfl,z⟩
  |true=>
   exact WE (WE (Qz z (λx u H=>WE (Qz H (λ_ p G=>WK (WK ⟨rfl,G⟩)) λ_ _ o=>o.elim)) λ_ _ o=>o.elim))
def NQ(X:Cx)(g:Ym)(t:TT):Prop:=
 ∀(pins:Yf) (s:Shared) (f:L2.St) (H:Hp) (Q:Bool->Hp->Prop),Inv X pins f H s->t f H Q->
  wpAny (model X.prog X.w) X.A (forIn g true λc r=>if r=true then do let ok ←isTrue c X.env (eval c X.env);pure (ForInStep.yield ok)else pure (ForInStep.yield r)) (TP X pins f Q) X.xe s
noncomputable def OQ:TT:=λ_ H Q=>Q true H
def Nk:NQ X [] OQ:=λ_ _ _ H _ I h=>WK ⟨H,I,h⟩
def FJ(g:PT X c t):NQ X [c] t:=by
 intro pins s f H Q I h;rw[List.forIn_cons];refine WE ?_;exact WE (thn (g pins s f H Q I h) λb l q=>WK (WK q))
noncomputable def BO(φ:Yi)(v:TI)(g:TG)(tc:TT)(te:TE):TE:=λo H Q=>v o H λJ u=>∀D,u D=none->∃W:Nat->Nat->List V->Hp->Prop,(∃m,W 0 m [] (upd u D<|.lst []))/\
 ∀i m h n,W i m h n->(J.stop i n/\Q (.ref D) n)\/(J.go i n/\∀x s,J.yld i n x s->g x (atStart φ o) s λf w=>Sub (atStart φ o) f/\tc f w λb r=>
  if b=true then te f r λy p=>p D=some (.lst h)/\h.length<sizeLine/\∃l,l<m/\W (i+1) l (h++[y]) (upd p D<|.lst (h++[y]))else ∃l,l<m/\W (i+1) l h r)
def Inv.weak {g f:L2.St}{H}{s} (I:Inv X pins f H s) (S:Sub g f):Inv X pins g H s:=
 ⟨I.ok,I.os,I.bare,I.base,let ⟨m,h,l⟩:=I.loc;⟨m,h,λi x v p o n=>l i x v p (S.2 i v o) n⟩,I.cell,I.free,I.freeC,I.pin,I.hok,by rw[←S.1];exact I.len⟩
def R9{i:Nat}{v}(h:(atStart φ f)[i]?=some (some v)):∃j,φ[i]?=some (some j)/\f[j]?=some (some v):=by
 unfold atStart at h;cases e:φ[i]? with
 |none=>grind
 |some o=>
  cases o with
  |_=>grind
def CompEnd(X:Cx)(pins:Yf)(h:L2.St)(Q:VK)(use:Option (Value->Sem Unit))(l:Yh):Prop:=
 ∀(D C:Addr) (g:Hp) (f:Shared),Q (.ref D) g->Inv X pins h g f->(∃m,f.heap.Ns C m)->g C=none->C≠X.env.locals->X.s₀.heap.objs.size<=C->(∀x c,X.env.cells.lookup x=some c->c≠C)->(∀p∈X.pn++pins,p.1≠C)->C∉X.fs->
  compPost (model X.prog X.w) X.A X.xe use l (.ref D) C (.ok .next) f
def Ho{elt iter tg}{ifs}{pos pos'}{wi}{g}{tc}{te}{use}{QQ}(hcalm:X.calm=true)(S:Su X N' φ G)(hi:PI X tg iter wi)(hin:∀U C s₃ H₃ ex,PG (Kt X N' G U C s₃ H₃ ex) tg g/\NQ (Kt X N' G U C s₃ H₃ ex) ifs tc/\PE (Kt X N' G U C s₃ H₃ ex) elt te)(hs:∀x,foldedSetIterable iter X.env x=pure x){pins}{s}{σ:L2.St}{H}{Q}(I:Inv X pins σ H s)(h:BO φ wi g tc te σ H Q)(fin:CompEnd X pins σ Q use QQ) :
  wpAny (model X.prog X.w) X.A (comprehension (.ListComp elt [⟨tg,iter,ifs,0⟩] G pos) G X.env pos' (newList []) false (eval iter X.env) use) QQ X.xe s:=by
 obtain⟨U,hcl,p1,p3⟩:=Zfz λx hx hf=>I.ok.has x.1 (.inl<|S.frees x hx hf);refine wpAny_comprehension_free rfl hs hcl S.kind S.names ?_;refine thn (hi pins s σ H _ I h) λv s1 h1=>thn h1 λitv s2 h2=>?_;obtain⟨it,L,tn,J,H2,e,I2,T,st2,f2,hR⟩:=h2;subst e;refine QB ?_;have hf:=I2.hok.fresh (WQ _);obtain⟨W,⟨m0,w0⟩,turn⟩:=hR s2.heap.objs.size hf;generalize eD:s2.heap.objs.size=D at *
 have I3:Inv X pins σ (upd H2 D<|.lst []) {s2 with heap:=s2.heap.push {cls:=.type "list",dict:=none,data:=.seq ([]:Yk).toArray}}:=
  I2.laid (λb u e=>WL _ e) (Vh eD) ⟨QV _,[],0,.nil,by rw[←eD];exact WX _ rfl⟩
 have st3:tn 0 (s2.heap.push {cls:=.type "list",dict:=none,data:=.seq ([]:Yk).toArray}):=T.keep _ _ _ st2 λb _ o e=>WL _ e
 have hfpD:∀b∈L,b≠D:=λb f z=>by
  obtain⟨o,ho,_⟩:=T.obj _ _ st2 b f
  have:=WW ho
  rw[z,←eD]at this;exact QT _ this
 have f3:∀b∈L,Np X pins (upd H2 D<|.lst []) b:=λb f=>⟨by rw[Xw (hfpD b f)];exact(f2 b f).1,(f2 b f).2⟩;generalize es3:({s2 with heap:=s2.heap.push {cls:=.type "list",dict:=none,data:=.seq ([]:Yk).toArray}}:Shared)=l at *
 have st3':tn 0 l.heap:=by rw[←es3];exact st3
 generalize eH3:upd H2 D (.lst [])=H3 at *;refine wpAny_newFunctionEnv S.nocell (by intro y hy;simp at hy) (λh₁ E B=>?_) S.kind;have hh3:l.heap=s2.heap.push {cls:=.type "list",dict:=none,data:=.seq ([]:Yk).toArray}:=by rw[←es3]
 rw[hh3]at E B;rw[←hh3]at E B;have old:=λb o e=>B.extBut b o (Qj<|WW e) (WL _ e)
 have hC0:l.heap.get? l.heap.objs.size=none:=by
  cases e:l.heap.get? l.heap.objs.size with
  |none=>rfl
  |some o=>exact absurd (WW e) (QT _)
 generalize eC:l.heap.objs.size=C at *;have hH3C:=I3.hok.fresh (Vh eC)
 have OK:(Kt X N' G U C l H3 L).Ok:=by
  refine⟨I.ok.mod,?_,I.ok.glob,I.ok.blt,Vh eC,λx y c h1 h2=>I.ok.inj x y c (p1 x c h1) (p1 y c h2),?_,(λx c hx=>by cases hx),I.ok.hd,I.ok.frames,.inl rfl,?_,I3.bs,WV I.ok.bsz I3.sz,?_,?_,I3.stack,I3.stkFree⟩
  ·exact S.kind
  ·intro x hx;have hx':=hx.imp Ew Ew
   have hfr:(x,NameKind.free)∈G.names:=by
    rcases hx' with⟨k,hm,rfl|rfl⟩|⟨k,hm,rfl|rfl⟩
    ·exact absurd rfl (S.nocell _ hm)
    ·exact hm
    ·exact hm
    ·exact hm
   exact p3 _ hfr rfl
  ·intro b f;refine⟨λz=>?_,λx c hx=>(f3 b f).2.2.2.2.1 x c (p1 x c hx)⟩;obtain⟨o,ho,_⟩:=T.obj _ _ st3' b f;have z':b=C:=z;rw[z',hC0]at ho;cases ho
  ·intro b o f hx;obtain⟨_,_,_,q,_,_⟩:=f3 b hx;rcases q with q|q
   ·exact I.ok.noex b o f q
   ·have:=Qn (WW f) (WV I.ok.bsz q)
    exact QT _ this
  ·intro b f hz;rcases WU.mp (I.stkSub b hz)with q|q
   ·exact(f3 b f).2.1 q
   ·exact(f3 b f).2.2.1 q
 have hlen0:(atStart φ σ).length=N'.length:=by unfold atStart;rw[WG];exact S.len
 have I4:Inv (Kt X N' G U C l H3 L) [] (atStart φ σ) H3 {l with heap:=h₁,toks:=l.toks+([]:List (Str×Value)).length}:=by
  refine⟨OK,rfl,I3.bare,Un.kept old,⟨_,E,λi x v h1 h2 h3=>?_⟩,λx c hx=>?_,hH3C,λx c hx=>I3.freeC x c (p1 x c hx),λp hp=>?_,I3.hok.kept old,hlen0⟩
  ·obtain⟨j,hj,hv⟩:=R9 h2;obtain⟨hN,hfr⟩:=S.pick i x j h1 hj;obtain⟨m,_,hl⟩:=I3.loc;have hm:=Vn hfr;have M:=S.frees _ hm rfl;obtain⟨u,ru,lk⟩:=hl j x v hN hv (.inr<|.inl M);refine⟨u,ru,.inr ⟨.inl (Hy S.okind hfr M),?_⟩⟩;obtain⟨c,hc⟩:=p3 _ hm rfl;rcases lk with⟨hk,_⟩|⟨_,c',hc',hcl'⟩
   ·have hk':X.env.scope.names.lookup x=some .local:=hk;rw[M]at hk';cases hk'
   ·have e:=p1 _ _ hc;rw[hc']at e;cases e
    obtain⟨o,ho,hd⟩:=hcl';exact⟨_,hc,o,old _ o ho,hd⟩
  ·obtain⟨v,hv⟩:=I3.cell x c (p1 x c hx);obtain⟨o,ho,hd⟩:=hv;exact⟨v,o,old _ o ho,hd⟩
  ·exact absurd hp (by simp[Kt])
 have st4:=T.keep _ _ _ st3' λb _ o e=>old b o e
 have stat:∀{H':Hp},(∀b∈L,H' b=none)->∀b∈L,Np (Kt X N' G U C l H3 L) [] H' b:=λhn b f=>
  ⟨hn b f,(OK.exf b f).1,OK.exfs b f,.inl f,(OK.exf b f).2,λp hp=>absurd hp (by simp[Kt])⟩
 obtain⟨hPG,hPI,hPE⟩:=hin U C l H3 L
 have loop:codeAny (model X.prog X.w) X.A (.compLoop (.ListComp elt [⟨tg,iter,ifs,0⟩] G pos) 0 (.ref it) (.ref D)<|compEnvC G U C X.env) (compPost (model X.prog X.w) X.A X.xe use QQ (.ref D) C) {l with heap:=h₁,toks:=l.toks+([]:List (Str×Value)).length}:=by
  refine Zkn (λn s'=>∃i ys σ' H',Inv (Kt X N' G U C l H3 L) [] σ' H' s'/\Sub (atStart φ σ) σ'/\tn i s'.heap/\(∀b∈L,H' b=none)/\W i n ys H') ?_ m0 ⟨0,[],_,_,I4,Sub.refl,st4,λb f=>(f3 b f).1,w0⟩;rintro n s5 ⟨i,ys,σ5,H5,I5,sub5,st5,fr5,w5⟩;have I5':=Own.Inv.weak I5 sub5;rcases turn i n ys H5 w5 with⟨stop,qn⟩|⟨go,step⟩
  ·refine thn (T.done (Kt X N' G U C l H3 L) rfl rfl rfl hcalm i [] s5 _ H5 _ I5' (stat fr5) st5 stop) ?_;rintro r s6 ⟨hr,I6⟩;subst hr;obtain⟨m,hn,_⟩:=I6.loc;obtain⟨hh,gg,dd,tt,oo⟩:=s6;obtain rfl:=I6.os;have R:Inv X pins σ H5 {l with heap:=hh,gens:=gg,drawn:=dd,toks:=tt}:=I3.call I6.base I6.hok I6.bare λb f=>⟨(f3 b f).2.2.2.1,(f3 b f).2.1,(f3 b f).2.2.2.2.1,(f3 b f).2.2.2.2.2⟩
   have hC3:=Vh eC;obtain⟨q0,q1,q2,q3,q4,q5⟩:=I3.fpOk hC3 hH3C;refine fin D C H5 _ qn R ⟨m,hn⟩ I6.free q1 (WV I3.sz hC3) q4 q5 q2
  ·refine thn (T.item (Kt X N' G U C l H3 L) rfl rfl rfl hcalm i [] s5 _ H5 _ I5' (stat fr5) st5 go) ?_;rintro r s6 ⟨u,hr,h6⟩;subst hr;refine thn h6 ?_;rintro _ s7 ⟨x,H7,I7,r7,y7,st7,fr7⟩;have I7':=I7.pinned (stat fr7) (T.obj _ _ st7);refine thn (hPG _ s7 _ H7 x u _ I7' r7<|step x H7 y7) ?_;rintro _ s8 ⟨σ8,H8,I8,sub8,q8⟩;refine thn (hPI _ s8 σ8 H8 _ I8 q8) ?_;rintro ok s9 ⟨H9,I9,q9⟩
   have again:∀{Y:Shared} {N:Hp} {ys':List V} {m':Nat},Inv (Kt X N' G U C l H3 L) ([]++BP L s7.heap) σ8 N Y->W (i+1) m' ys' N->∃i ys σ' H',Inv (Kt X N' G U C l H3 L) [] σ' H' Y/\Sub (atStart φ σ) σ'/\tn i Y.heap/\(∀b∈L,H' b=none)/\W i m' ys H':=λ{Y N ys' m'} J10 w10=>by
    refine⟨i+1,ys',σ8,N,J10.unpinned,sub8,T.keep _ _ _ st7 λb f o e=>(J10.pin (b,o)<|Qk _<|Qk _<|Ax f e).1,λb f=>?_,w10⟩;obtain⟨o,e,d⟩:=T.obj _ _ st7 b f;exact(J10.pin (b,o)<|Qk _<|Qk _<|Ax f e).2.1
   cases ok with
   |false=>
    obtain⟨m',hm,w'⟩:=q9;exact⟨m',hm,again I9 w'⟩
   |true=>
    refine thn (hPE _ s9 σ8 H9 _ I9 q9) ?_;rintro xv Y ⟨y,N,I10,r10,hD,hl,m',hm,w'⟩;refine thn (Bk _ Y σ8 N (.ref D) [y] (.ref D) [xv] (λ_ H11=>H11=upd N D (.lst (ys++[y]))) I10 rfl (.cons r10 .nil) ⟨D,ys,y,rfl,rfl,hD,hl,rfl⟩) ?_;rintro _ s11 ⟨_,H11,I11,_,e11⟩;subst e11;exact⟨m',hm,again I11 w'⟩
 refine codeAny_compStart_list loop (T.self _ 0 _ _ _ st4 loop)
def Dg{r iter v p pos z g tc te}(n:X.calm=true)(S:Su X N' φ u)(G:PI X v iter z)(w:∀y C f l ex,PG (Kt X N' u y C f l ex) v g/\NQ (Kt X N' u y C f l ex) p tc/\PE (Kt X N' u y C f l ex) r te)(hs:autoParam (∀x,foldedSetIterable iter X.env x=pure x) au_3):PE X (.ListComp r [⟨v,iter,p,0⟩] u pos) (BO φ z g tc te):=by
 intro pins s σ H Q I h;refine Ho n S G w hs I h λD C Y s6 q R E U T N M L c5=>?_;obtain⟨m,B⟩:=E;exact⟨m,B,λh' A=>⟨.ref D,Y,R.turned (λb o J e=>A.extBut b o J e) U T (.inr N) M L,rfl,q⟩⟩
def Zn7{u iter A n pos spos py M g tc te i y}(hN:X.N.Nodup)(hy:X.N[i]?=some y)(Q:X.env.scope.names.lookup y=some .local)(r:X.calm=true)(S:Su X N' φ w)(hi:PI X A iter M)(G:∀L C f l ex,PG (Kt X N' w L C f l ex) A g/\NQ (Kt X N' w L C f l ex) n tc/\PE (Kt X N' w L C f l ex) u te)(hs:autoParam (∀x,foldedSetIterable iter X.env x=pure x) au_3)(E:autoParam (swapsWith (.ListComp u [⟨A,iter,n,0⟩] w pos) (some<|.Name y py) spos.line X.env=pure true) au_0) :
  PS X (.Assign [.Name y py] (.ListComp u [⟨A,iter,n,0⟩] w pos) spos) (NG (BO φ M g tc te)<|Sj i):=by
 intro pins s Y H D0 I h;rw[exec_Assign_Name_used _ _ _ _ E];refine WE (VT<|WE ?_);refine WE (Qz (Ho r S hi G hs I h λD C U s6 q R hm c0 c1 c2 c3 c4 c5=>?_) (λ_ s' z=>WK (WK z)) λ_ _ e=>e);obtain⟨m,B,es,ep,hoC,J,rC⟩:=hm
 have R2:Inv X (pins++[(C,B)]) Y U s6:=R.pins_of λp hp=>(Qc.mp hp).elim (λz=>R.pin p (Qk _ z)) λz=>by
  grind
 refine wpAny_assign_Name (BQ R2 hN hy (.inl Q) (v:=.ref D) rfl (λs7 T=>?_)<|.inr Q);refine⟨m,⟨B,es,ep,((T.pin (C,B)<|Qk _<|Qk _<|WJ.mpr rfl).1),J,rC⟩,λh' sb=>?_⟩;exact⟨_,U,T.unpinned.turned (λb o hb e=>sb.extBut b o hb e) c0 c1 (.inr c2) c3 c4,q⟩
noncomputable def Fe(sc f:Scope)(N N':Yl)(φ:Yi):Bool:=
 sc.kind == .function&&f.kind == .function&&(sc.names.all λy=>y.2 != .cell&&(y.2 != .local || sc.names.lookup y.1==some .local)&&(y.2 != .free || f.names.lookup y.1==some .cell)) &&
  φ.length==N'.length&&((N'.zip φ).all λp=>match p.2 with|none=>true|some j=>N[j]? == some p.1&&sc.names.lookup p.1==some .free)
def Su.of {N'}{φ g} (h:Fe g X.env.scope X.N N' φ=true):Su X N' φ g:=by
 unfold Fe at h;simp only[Q2,beq_iff_eq,V9,Bool.or_eq_true,bne_iff_ne,ne_eq]at h;obtain⟨⟨⟨⟨v,u⟩,s⟩,r⟩,p⟩:=h;refine⟨v,u,λy f=>(s y f).1.1,λy f w=>?_,λy f z=>?_,r,λi x j o n=>?_⟩
 ·grind
 ·grind
 ·have l:(N'.zip φ)[i]?=some (x,some j):=by rw[List.getElem?_zip_eq_some];exact⟨o,n⟩
  have:=p _ (Qe l)
  grind
end Own
namespace SetR
open PySem PySem.Spec PyProof.Rows L2
def Ris(xs:Array Nat):Prop:=∀i j,i<j->j<xs.size->xs.getD i 0<xs.getD j 0
def Ou{xs:Array Nat}{i a b}(h:i<xs.size):xs.getD i a=xs.getD i b:=by grind
def Zch(R:Ris xs)(j:Nat):∀fuel lo f,f-lo<=fuel->lo<=f->f<=xs.size->(∀k,k<lo->xs.getD k 0<j)->(∀k,f<=k->k<xs.size->j<=xs.getD k 0)->
  let r:=SetTable.below.go xs j fuel lo f
  r<=xs.size/\(∀k,k<r->xs.getD k 0<j)/\∀k,r<=k->k<xs.size->j<=xs.getD k 0:=by
 intro fuel
 induction fuel with
 |zero=>
  intro lo f x w n l h;have e:lo=f:=by lia
  subst e;exact⟨n,l,h⟩
 |succ fuel s=>
  intro lo f x w n l h;show(let r:=(if lo<f then(if xs.getD ((lo+f) / 2) j<j then SetTable.below.go xs j fuel ((lo+f) / 2+1) f else SetTable.below.go xs j fuel lo ((lo+f) / 2))else lo);r<=xs.size/\(∀k,k<r->xs.getD k 0<j)/\∀k,r<=k->k<xs.size->j<=xs.getD k 0);by_cases u:lo<f
  ·rw[WO u];have o:(lo+f) / 2<xs.size:=by lia
   by_cases g:xs.getD ((lo+f) / 2) j<j
   ·rw[WO g];refine s _ _ (by lia) (by lia) n (λk v=>?_) h;rw[Ou o]at g;by_cases e:k=(lo+f) / 2
    ·rw[e];exact g
    ·exact V8 (R k _ (by lia) o) g
   ·rw[WM g];refine s _ _ (by lia) (by lia) (by lia) l (λk v p=>?_);rw[Ou (b:=0) o]at g;by_cases e:k=(lo+f) / 2
    ·rw[e];lia
    ·have:=R _ k (show(lo+f) / 2<k by lia) p
     lia
  ·rw[WM u];have e:lo=f:=by lia
   subst e;exact⟨n,l,h⟩
def GQ(R:Ris xs)(j:Nat):SetTable.below xs j<=xs.size/\(∀k,k<SetTable.below xs j->xs.getD k 0<j)/\∀k,SetTable.below xs j<=k->k<xs.size->j<=xs.getD k 0:=
 Zch R j xs.size 0 xs.size (by simp) (by simp) (by simp) (λk f=>by lia) (λk h g=>by lia)
def Zqc(R:Ris xs){i}(f:i<=xs.size){slot}(l:∀k,k<i->xs.getD k 0<slot)(g:∀k,i<=k->k<xs.size->slot<=xs.getD k 0):SetTable.below xs slot=i:=by
 obtain⟨a,b,c⟩:=GQ R slot;rcases Nat.lt_trichotomy (SetTable.below xs slot) i with h|h|h
 ·grind
 ·lia
 ·grind
def Rise(xs:Array Nat):Prop:=xs.toList.Pairwise (· < ·)
def Rise.ris (h:Rise xs):Ris xs:=by
 intro i j f g;have l:i<xs.size:=by lia
 have:=(QM.mp h) i j (by omega) (by omega) f
 simp_all
def Zsd(h:Rise xs)(v:xs[SetTable.below xs j]?≠some j):Rise (SetTable.insertAt xs (SetTable.below xs j) j):=by
 obtain⟨a,b,c⟩:=GQ h.ris j;generalize SetTable.below xs j=p at *;unfold Rise;rw[SetTable.toList_insertAt];refine VR.mpr ⟨h.sublist (Jm _ _),Vu.mpr ⟨λy g=>?_,h.sublist (List.drop_sublist _ _)⟩,λx hx y g=>?_⟩
 ·obtain⟨k,l,e⟩:=List.mem_drop_iff_getElem.mp g
  have f:p+k<xs.size:=by
   simp only[QF]at l;lia
  have z:=c (p+k) (by lia) f;have u:xs.getD (p+k) 0=y:=by simpa [Array.getD,f]using e
  rcases Nat.lt_or_ge j y with s|s
  ·exact s
  ·have ey:y=j:=by lia
   exfalso;rcases Nat.eq_zero_or_pos k with rfl|w
   ·apply v;rw[QX (by lia)]
    have:xs[p]=y:=by simpa using e
    rw[this,ey]
   ·have B:=h.ris p (p+k) (by lia) f;have A:=c p (WQ _) (by lia);lia
 ·have n:x<j:=by
   obtain⟨k,l,e⟩:=List.mem_take_iff_getElem.mp hx;have r:k<p:=by lia
   have o:k<xs.size:=by lia
   have:=b k r
   have u:xs.getD k 0=x:=by simpa [Array.getD,o]using e
   lia
  rcases WU.mp g with rfl|g
  ·exact n
  ·obtain⟨k,l,e⟩:=List.mem_drop_iff_getElem.mp g
   have f:p+k<xs.size:=by
    simp only[QF]at l;lia
   have z:=c (p+k) (by lia) f;have u:xs.getD (p+k) 0=y:=by simpa [Array.getD,f]using e
   lia
structure Tb (b:Bool) (t:SetTable):Prop where
 led:t.led=b
 dum:t.dummies=#[]
 ris:Rise t.place
def GS(j:Nat):SetTable.has #[] j=false:=rfl
def Tb.fresh (b:Bool):Tb b (.fresh 0 0 b):=⟨rfl,rfl,List.Pairwise.nil⟩
def Zgo(n:Nat):Rise (Array.range n):=by
 unfold Rise;rw[Array.toList_range];exact List.pairwise_lt_range
def Tb.stand (h:Tb b t) (n:Nat):Tb b (t.standIn n):=⟨h.led,rfl,Zgo n⟩
def Tb.orStand (h:Tb b t) (n:Nat):Tb b (t.orStandIn n):=by
 unfold SetTable.orStandIn;split
 ·lia
 ·exact h.stand n
def Tb.plainOff (h:Tb b t):Tb b {t with plain:=false}:=⟨h.led,h.dum,h.ris⟩
def Tb.put (h:Tb b t) {j} (f:t.place[SetTable.below t.place j]?≠some j):Tb b (t.put j).1:=by
 refine⟨h.led,?_,Zsd h.ris f⟩;show(if SetTable.has t.dummies j=true then _ else t.dummies)=#[];rw[h.dum,GS];rfl
def Zke(h:Tb b t)(f:Nat->Int)(z:Int):∀fuel p j d,p.dummy=none->SetTable.probe.go t f z fuel p=some (.empty j d)->d=none/\t.place[SetTable.below t.place j]?≠some j:=by
 intro fuel
 induction fuel with
 |zero=>intro p j d _ e;cases e
 |succ fuel n=>
  intro p j d o e;unfold SetTable.probe.go at e
  have l:∀q,q.dummy=none->(t.advance q).dummy=none:=λq hq=>by
   unfold SetTable.advance;split
   ·exact hq
   ·exact hq
  cases g:t.slot p.j with
  |empty=>
   rw[g]at e;unfold SetTable.slot at g
   grind
  |dummy=>
   unfold SetTable.slot at g
   dsimp only at g
   split at g
   ·cases g
   ·rw[h.dum,GS]at g;simp at g
  |live i=>
   rw[g]at e
   dsimp only at e
   split at e
   ·cases e
   ·exact n _ j d (l p o) e
def Tb.layNew (h:Tb b t) (es:Yq) (z:Int) (x:Value):Tb b (PySem.layNew t es z x).2.1:=by
 unfold PySem.layNew;split
 ·rename_i slot wasDummy e
  have f:t.place[SetTable.below t.place slot]?≠some slot:=by
   unfold SetTable.freeSlot SetTable.probe at e;split at e
   ·rename_i j dummy g;obtain⟨n,l⟩:=Zke h _ _ _ _ _ _ rfl g
    grind
   ·grind
  exact(h.put f).orStand _
 ·exact h.stand _
def Zef(n:Nat)(f:Nat->Option Nat):((List.range n).filterMap λj=>(f j).map (j,·)).Pairwise (λa b=>a.1<b.1):=by
 refine List.Pairwise.filterMap _ ?_ List.pairwise_lt_range;intro a l h b o r g;cases e:f a with
 |none=>grind
 |some v=>
  cases p:f l with
  |_=>grind
def Tb.relayAll (h:Tb b t) (es:Yq) (n:Nat):Tb b (PySem.relayAll t es n).2.1:=by
 unfold PySem.relayAll;split
 ·rename_i l order e
  dsimp only
  split
  ·unfold SetTable.relaid SetTable.laid at e;cases f:SetTable.layClean (SetTable.sizeAbove n-1) (es.map (·.1))with
   |none=>grind
   |some owner=>
    rw[f]at e;have g:=Q4 Prod.fst (WY e);subst g;refine⟨h.led,rfl,?_⟩;show(List.map (λx=>x.fst) ((List.range (SetTable.sizeAbove n-1+1)).filterMap λj=>(owner.getD j none).map (j,·))).toArray.toList.Pairwise (· < ·);rw[List.toList_toArray,List.pairwise_map];exact Zef _ _
  ·exact h.stand _
 ·exact h.stand _
noncomputable def keyOf(e:Int×Value):Int:=match e.2 with
 | .int k _=>k
 |_=>0
def Ent(e:Int×Value):Prop:=∃(k:Int) (t:Tok),e=(hashInt k,.int k t)
section
variable (prog:Program) (w:World)
noncomputable def P5(w:World):Bool:=w.params.followText "set-order"
structure K4 (h:Heap) (a:Addr) (js:Ye) (es:Yq) (ep:Nat) (t:SetTable):Prop where
 obj:∃o,h.get? a=some o/\o.ExactSet/\o.data=.set es ep t
 ent:∀e∈es.toList,Ent e
 per:(es.toList.map keyOf).Perm js
 nod:js.Nodup
 few:es.size<scanBound
 fit:t.fits es.size=true
 tab:Tb (!P5 w) t
def SetB(h:Heap)(a:Addr)(f:Ye):Prop:=∃g l t,K4 w h a f g l t
end
section
variable {prog:Program}{w:World}{A:Around}{E:Yh}{s:Shared}
def Ent.elems (h:∀e∈l,Ent e):ElemsOf (intKind prog w) l:=λe f=>by
 obtain⟨k,t,rfl⟩:=h e f;exact⟨⟨k,intKind_is _ _ _ _,rfl⟩,rfl⟩
def OY(h:Ent e)(k:Int):(intKind prog w).is k e.2=decide (k=keyOf e):=by
 obtain⟨f,t,rfl⟩:=h;show Value.isInt k (.int f t)=decide (k=f);by_cases e:k=f
 ·subst e;simp[Value.isInt]
 ·rw[Qu e];simp[Value.isInt];lia
def SetB.len (S:K4 w h a f es g t):es.size=f.length:=by
 have:=S.per.length_eq
 grind
def SetB.at {a l} (S:SetB w h a l) (k:∀o,h.get? a=some o->p.get? a=some o):SetB w p a l:=by
 obtain⟨u,v,t,⟨o,n,r⟩,b,c,d,e,f,g⟩:=S;exact⟨u,v,t,⟨o,k o n,r⟩,b,c,d,e,f,g⟩
def K4.store {es f}{l t t'} (S:K4 w h a z es l t) (y:∀e∈f.toList,Ent e) (x:(f.toList.map keyOf).Perm g) (v:g.Nodup) (u:f.size<scanBound)
  (r:t'.fits f.size=true) (p:Tb (!P5 w) t'):K4 w (h.update a<|Obj.putSet f t') a g f (l+1) t':=by
 obtain⟨o,n,hx,hd⟩:=S.obj;refine⟨⟨{o with data:=.set f (l+1) t'},?_,hx,rfl⟩,y,x,v,u,r,p⟩
 have q:=Q5 (Obj.putSet f t') n (by rw[putSet_of f t' hd];rfl);rwa[putSet_of f t' hd]at q
def Lx{g:Bool->Sem Unit}(hg:∀b G N,N () G->wpAny (model prog w) A (g b) N E G){a T h}{es f}{ep t t'}(S:K4 w s.heap a T es ep t)(M:∀e∈f.toList,Ent e)(L:(f.toList.map keyOf).Perm h)(J:h.Nodup)(u:f.size<scanBound)(h5:t'.fits f.size=true)(H:Tb (!P5 w) t'){d R}(n:∀v,Heap.SameBut a s.heap v->SetB w v a h->R (some true) {s with heap:=v}) :
  wpAny (model prog w) A (do
    storeSet a f t'
    if (!d&&t'.tooFull)=true then do
      g (relayAll t' f<|SetTable.grown f.size).2.2
      storeSet a (relayAll t' f<|SetTable.grown f.size).1 (relayAll t' f<|SetTable.grown f.size).2.1
      pure (some true)
     else pure (some true)) R E s:=by
 obtain⟨o,Y,hx,hd⟩:=S.obj;have C:=S.store M L J u h5 H;obtain⟨o1,p,U,r⟩:=C.obj;have Q:=QO s.heap a (Obj.putSet f t');refine WE (wpAny_storeSet_of Y hd ?_<|Jn u);split
 ·have l:=relayAll_perm t' f (SetTable.grown f.size);have x:=relayAll_fits t' f (SetTable.grown f.size);have tt:=H.relayAll f (SetTable.grown f.size);generalize relayAll t' f (SetTable.grown f.size)=y at l x tt ⊢;obtain⟨B,t2,g2⟩:=y
  dsimp only at l x tt ⊢
  have z:B.size=f.size:=by rw[←QF,l.length_eq,QF]
  refine WE (hg _ _ _<|WE<|wpAny_storeSet_of p r ?_<|Jn<|by lia);exact WK (n _ (Q.trans<|QO _ a _) ⟨_,_,_,C.store (λe he=>M e (l.mem_iff.mp he)) ((l.map keyOf).trans L) J (by rw[z];exact u) x tt⟩)
 ·exact WK (n _ Q ⟨_,_,_,C⟩)
noncomputable def K0(f:Ye)(k:Int):Ye:=if k∈f then f else f++[k]
def Zng{R}(S:SetB w s.heap a n)(room:n.length+1<scanBound)(H:∀r g,Heap.SameBut a s.heap g->SetB w g a (K0 n k)->R r {s with heap:=g}) :
  wpAny (model prog w) A (setAddHashed a (.int k u)<|hashInt k) R E s:=by
 obtain⟨l,ep,t,S⟩:=S;obtain⟨o,Y,hx,hd⟩:=S.obj;have el:=Ent.elems (prog:=prog) (w:=w) S.ent;have M:=SetB.len S;refine QU (WE<|V3 Y hd S.fit ?_)
 dsimp only
 rw[byScan_of rfl S.few el];simp only[↓reduceIte];unfold setAddByScan;refine WE (WE<|wpAny_rule<|WE<|wpAny_setScan_of (intKind_is _ _ _ _) Y hd S.fit el ?_);have mem:∀z,z∈n↔∃e∈l.toList,keyOf e=z:=λz=>by rw[←S.per.mem_iff,Qi]
 cases q:List.findIdx? (λe=>(intKind prog w).is k e.2) l.toList with
 |some j=>
  dsimp only
  obtain⟨hj,U,_⟩:=List.findIdx?_eq_some_iff_getElem.mp q
  have L:k∈n:=by
   rw[OY (S.ent _<|Qg hj)]at U;exact(mem k).mpr ⟨_,Qg hj,(WN U).symm⟩
  refine WK (WK ?_);have f:=H false s.heap (Heap.SameBut.refl a s.heap);unfold K0 at f;rw[WO L]at f;exact f ⟨_,_,_,S⟩
 |none=>
  dsimp only
  have L:¬k∈n:=λM=>by
   obtain⟨e,he,N⟩:=(mem k).mp M
   have:=List.findIdx?_eq_none_iff.mp q e he
   rw[OY (S.ent e he),WI N.symm]at this;cases this
  have P:=layNew_perm t l (hashInt k) (.int k u);have F:=layNew_fits t l (hashInt k) (.int k u);have T:=S.tab.layNew l (hashInt k) (.int k u);change wpAny (model prog w) A (match layNew t l (hashInt k) (.int k u)with|(l,t,wasDummy,gave)=>_) _ _ _
  generalize layNew t l (hashInt k) (.int k u)=y at P F T ⊢;obtain⟨p,t1,d1,g1⟩:=y
  dsimp only at P F T ⊢
  rw[Array.toList_push]at P
  have e1:∀e∈p.toList,Ent e:=λe he=>by
   rcases Qc.mp (P.mem_iff.mp he)with he|he
   ·exact S.ent e he
   ·rw[WJ.mp he];exact⟨k,u,rfl⟩
  have e2:(p.toList.map keyOf).Perm (n++[k]):=by
   refine(P.map keyOf).trans ?_;rw[WZ];exact S.per.append_right _
  have e3:(n++[k]).Nodup:=Vk.mpr ⟨S.nod,by simp,λx hx y hy=>by rw[WJ.mp hy];rintro rfl;exact L hx⟩
  have e4:p.size<scanBound:=by
   rwa[←QF,P.length_eq,WS,QF,M]
  have h:=λg B G=>by
   have f:=H true g B;unfold K0 at f;rw[WM L]at f;exact f G
  have Q:∀b {C:Shared} {J:Unit->Shared->Prop},J () C->wpAny (model prog w) A (match b with|true=>rule "set.scan.the-table-gave-way" |false=>pure ()) J E C:=λb C J v=>by cases b<;>first|exact WK v|exact wpAny_rule v
  refine WE (Q _ ?_);split
  ·refine WE ?_;rw[hashByValue_scannable 8 rfl];refine WK (Lx (λb C J v=>Q b v) S e1 e2 e3 e4 ?_ ?_ λg B G=>WK (h g B G))
   ·split
    ·exact F
    ·exact SetTable.fits_plain_off F
   ·split
    ·exact T
    ·exact T.plainOff
  ·refine WE (WK ?_);simp only[↓reduceIte];exact Lx (λb C J v=>Q b v) S e1 e2 e3 e4 F T λg B G=>WK (h g B G)
def Zny{I H y P St}{ns:Ye}(W:Walks prog w A.in1 I H y ns.length P St)(S:Addr)(G:S∉H)(M:∀i v,P i v->∃t,v=.int (ns.getD i 0) t)(room:ns.length+1<scanBound):∀k i s n,ns.length-i=k->i<=ns.length->St i s.heap->SetB w s.heap S n->n.length<=i->
   (∀h p,(∀b o,b∉S::y->s.heap.get? b=some o->h.get? b=some o)->SetB w h S ((ns.drop i).foldl K0 n)->R (.ok<|.ret .none) {s with heap:=h,toks:=p})->
   codeAny (model prog w) A (.builtin "set.update.loop" ⟨[.ref S,.ref I],[]⟩) R s:=by
 have u:=λz=>G (W.sub _ z);intro k
 induction k with
 |zero=>
  intro i s n N T st B Q l;have ei:i=ns.length:=by lia
  refine Vx Ja ?_;show wpAny _ A.in1 (pyNext (.ref I) >>= _) _ _ s;refine WE (W.done s _ _ (ei▸st) λh p keep=>?_);show wpAny _ A.in1 (ret Value.none) _ _ _;refine WK (l h p (λb o g e=>keep b o (λz=>g (Qf _ z)) e) ?_);rw[ei,List.drop_length];exact B.at λo e=>keep S o u e
 |succ k L=>
  intro i s n N T st B Q l;have f:i<ns.length:=by lia
  refine Vx Ja ?_;rw[VS Jb _];show wpAny _ A.in1 (pyNext (.ref I) >>= _) _ _ s;refine WE (W.item i s _ _ f st λv U J pv x keep1=>?_);obtain⟨t,rfl⟩:=M i v pv;have B1:=B.at λo e=>keep1 S o u e;unfold setAdd;refine WE (QU<|QU<|WE ((intKind prog w).pyHash (intKind_is _ _ _ _) ?_));refine Zng B1 (by lia) λr h2 C B2=>?_
  have Y:(K0 n<|ns.getD i 0).length<=i+1:=by
   unfold K0;split
   ·lia
   ·simp;lia
  refine WK ⟨plainId_quiet Jb _,L (i+1) _ _ (by lia) f (W.frame _ U _ x λb g o e=>?_) B2 Y λh p keep B'=>?_⟩
  ·rw[C.2 b (λz=>G (by rw[←z];exact g))];exact e
  ·refine l h p (λb o g e=>keep b o g ?_) ?_
   ·rw[C.2 b (λz=>g (by rw[z];exact Qy))];exact keep1 b o (λz=>g (Qf _ z)) e
   ·have e1:ns.drop i=ns.getD i 0::ns.drop (i+1):=by
     rw[QN f,WR,WH f];rfl
    rwa[e1]
def Zp1(a:Value){Q}(f:Q (.ref s.heap.objs.size) {s with heap:=s.heap.push {cls:=.type "set",dict:=none,data:=.set #[] 0 (.fresh 0 0 (!P5 w))}}) :
  codeAny (model prog w) A (.call (.builtin "set.__new__") ⟨[.type "set",a],[]⟩) (wants Q E) s:=by
 refine codeAny_of_tree (?_);refine WE (wpAny_of_eq (F.newCall_set_1 a)<|WK ⟨plainId_quiet F.plain_set_new _,Vx F.entry_set_new ?_⟩);rw[(VS (A:=A) F.plain_set_new ⟨[.type "set",a],[]⟩)];unfold Builtin.«set.__new__» Builtin.Frozenset.newClass;have g:=sub_set_self
 dsimp only
 wp_walk
 refine wpAny_askSetting (WK<|?_)
 dsimp only
 simp only[newObj];exact WE (wpAny_alloc<|WK<|WK f)
set_option maxHeartbeats 4000000 in
def Zaq{l:Addr}{f:Array Value}{ns:Ye}{Q:Yh}(hh:A.handled=none)(hl:s.heap.IsList l f)(hi:IntsAre f.toList ns)(room:ns.length+1<scanBound)(U:∀(h:Heap) (u:Nat),SetB w h s.heap.objs.size (ns.foldl K0 [])->(∀b o,b<s.heap.objs.size->s.heap.get? b=some o->h.get? b=some o)->Q (.ref s.heap.objs.size) {s with heap:=h,toks:=u}) :
  wpAny (model prog w) A (call (.type "set") [.ref l]) Q E s:=by
 have hn:f.size=ns.length:=by have:=IntsAre.length hi;simpa using this
 obtain⟨mroC,mroT,mro⟩:=F.called_set.mro;have made:=F.called_set.made;have subs:=F.called_set.sub;refine JA (codeAny_of_tree<|show wpAny _ _ (callAny (.type "set") _) _ _ _ from ?_)
 refine WK ⟨Jc _ (by decide +kernel),Vx F.entry_type_call ?_⟩;have wt:=Around.under_plain (A:=A) (weight_type_call_type "set" [.ref l] []) rfl;rw[wt];have nt:=F.called_set.notType;have cc:=F.called_set.canCreate;have tc:=F.typeCall_set_1 (.ref l)
 repeat (any_goals (first|assumption|wp_step))
 refine Vt (Zp1 (.ref l) (E:=E) (Q:=λobj s1=>obj=.ref s.heap.objs.size/\s1={s with heap:=s.heap.push {cls:=.type "set",dict:=none,data:=.set #[] 0 (.fresh 0 0 (!P5 w))}}) ⟨rfl,rfl⟩) λr s1 y=>?_
 cases r with
 |error e=>exact y
 |ok fl=>
  cases fl with
  |next=>exact y.elim
  |brk=>exact y.elim
  |cont=>exact y.elim
  |ret obj=>
   obtain⟨rfl,rfl⟩:=y;generalize J:s.heap.push {cls:=.type "set",dict:=none,data:=.set #[] 0 (.fresh 0 0 (!P5 w))}=n;have g1:n.get? s.heap.objs.size=some {cls:=.type "set",dict:=none,data:=.set #[] 0 (.fresh 0 0 (!P5 w))}:=by rw[←J];exact WX _ rfl
   have hT:Shared.TypeIs {s with heap:=n} (.ref s.heap.objs.size) "set":=⟨_,g1,rfl⟩
   have ini:=F.called_set.init.lookup;have inb:=F.called_set.init.bind (.ref s.heap.objs.size)
   repeat (any_goals (first|assumption|wp_step))
   refine Vt (V6 (R:=wants (λr Y=>r=.none/\∃h u,Y={s with heap:=h,toks:=u}/\SetB w h s.heap.objs.size (ns.foldl K0 [])/\(∀b o,b<s.heap.objs.size->s.heap.get? b=some o->h.get? b=some o)) E)
    F.called_set.init.plain F.entry_set_init (check_set_init_1 hT ?_)) λr2 Y g=>?_
   ·obtain⟨ob,C,H,nl,G⟩:=hl;obtain⟨c1,d1,dt1,L⟩:=ob;simp only at H G;subst H;subst G;have z:n.get? l=some {cls:=.type "list",dict:=d1,data:=.seq f nl,slots:=L}:=by rw[←J];exact WL _ C
    have p:n.objs.size=s.heap.objs.size+1:=by rw[←J,Vo]
    have no1:=F.sub_list_set;have no2:=F.sub_list_frozenset;have no3:(Value.type "list" == Value.type "dict")=false:=by decide
    have L1:n.IsList l f:=⟨_,z,rfl,nl,rfl⟩;unfold Builtin.«set.__init__» noKeywords Builtin.Frozenset.updateFrom;generalize eP:pyIter=PI
    wp_walk
    subst eP;refine wpAny_pyIter_list L1 (WE<|wpAny_runValue ?_);have x:l<s.heap.objs.size:=WW C;have T:A.in1.in1.in1.handled=none:=by simp[hh]
    have N:l≠n.objs.size:=by rw[p];exact Qj (Jo x)
    have M:s.heap.objs.size∉[n.objs.size,l]:=by
     rw[p];simp only[WU,Vq,or_false,not_or];exact⟨Qj (V7 _),JW x⟩
    have W0:=Walks.list (prog:=prog) (w:=w) T n.objs.size l N f;rw[hn]at W0;refine Zny (ns:=ns) W0 s.heap.objs.size M (λi v hv=>IntsAre.int_at hi i v (by rw[QY];exact hv)) room (ns.length-0) 0 _ [] rfl (QV _) ⟨⟨_,WX _ rfl,rfl,rfl⟩,L1.push _⟩ ?_ (QV _) λh u keep B=>?_
    ·exact⟨#[],0,_,⟨_,WL _ g1,⟨rfl,rfl,rfl⟩,rfl⟩,λe he=>by simp at he,by simp,VO,by show(0:Nat)<4096;decide,rfl,Tb.fresh _⟩
    ·show wpAny _ _ _ _ _ _;refine WK (show wpAny _ _ (ret Value.none) _ _ _ from WK ⟨rfl,h,u,rfl,B,λb o hb e=>?_⟩)
     refine keep b o ?_ (WL _<|by rw[←J];exact WL _ e);rw[p];simp only[WU,Vq,or_false,not_or];exact⟨Qj hb,Qj (Jo hb)⟩
   ·cases r2 with
    |error e=>exact g
    |ok f2=>
     cases f2 with
     |next=>exact g.elim
     |brk=>exact g.elim
     |cont=>exact g.elim
     |ret r=>
      obtain⟨rfl,h,u,rfl,B,keep⟩:=g
      repeat (any_goals (first|assumption|wp_step))
      exact U _ _ B keep
end
def si_slot:Slot "set_iterator" "__next__" "set_iterator.__next__":=
 Slot.of (owner:="set_iterator") (n:="__next__") (by rw[typeLookup_type,builtinLookup_eq_fast];kernel_rfl) (by decide +kernel) (by decide +kernel) (by decide +kernel)
  (by first|exact Or.inl (by decide +kernel)|exact Or.inr (by decide +kernel)) (by rw[isSubtype_type];kernel_rfl)
def Zdn:entryFor table "set_iterator.__next__"=some Builtin.«set_iterator.__next__»:=entryFor_of_tree rfl
def Zjp(a:Value):argsOk "set_iterator.__next__" ⟨[a],[]⟩:=by trivial
def Zlx:entryFor table "set.__iter__"=some Builtin.«frozenset.__iter__»:=entryFor_alias (id':="frozenset.__iter__") (by kernel_rfl) rfl (by decide +kernel) (by kernel_rfl)
def Me:Slot "set_iterator" "__iter__" "set_iterator.__iter__":=
 Slot.of (owner:="set_iterator") (n:="__iter__") (by rw[typeLookup_type,builtinLookup_eq_fast];kernel_rfl) (by decide +kernel) (by decide +kernel) (by decide +kernel)
  (by first|exact Or.inl (by decide +kernel)|exact Or.inr (by decide +kernel)) (by rw[isSubtype_type];kernel_rfl)
def Zdw:entryFor table "set_iterator.__iter__"=some Builtin.«dict_keyiterator.__iter__»:=entryFor_alias (id':="dict_keyiterator.__iter__") (by kernel_rfl) rfl (by decide +kernel) (by kernel_rfl)
def Zpl(a:Value):argsOk "set_iterator.__iter__" ⟨[a],[]⟩:=by unfold argsOk;kernel_rfl
def SI(h:Heap)(I a:Addr)(first:Value)(i n f:Nat):Prop:=∃o,h.get? I=some o/\o.cls=.type "set_iterator"/\o.data=.fields #[first,.int i 0,.ref a,.int n 0,.int f 0]
section
variable {prog:Program}{w:World}{A:Around}{E:Yh}{s:Shared}{I a:Addr}{first:Value}{i n ep:Nat}{js:Ye}{es:Yq}{t:SetTable}
def SI.typ (h:SI s.heap I a first i n ep):s.TypeIs (.ref I) "set_iterator":=let ⟨o,f,g,_⟩:=h;⟨o,f,g⟩
def SI.at (x:SI h I a first i n ep) (k:∀o,h.get? I=some o->g.get? I=some o):SI g I a first i n ep:=let ⟨o,f,r⟩:=x;⟨o,k o f,r⟩
noncomputable def BF(first:Value)(a I:Addr)(i ep:Int):Sem PySem.Fin:=
 match first with
 |Value.int slot _=>do
  match ←setNext a slot.toNat i.toNat ep.toNat with
  |some (x,next)=>
   setField (.ref I) 0 (rawInt next)
   setField (.ref I) 1 (rawInt (i+1))
   ret x
  |none=>
   setField (.ref I) 2 .none
   raiseNew (←newExc (.type "StopIteration") [])
 |_=>do
  let some places ←seqItems? first|unsupported "internal:set_iterator"
  match places[i.toNat]? with
  |some (.int place _)=>
   let x ←setNextDrawn a place.toNat ep.toNat
   setField (.ref I) 1 (rawInt (i+1))
   ret x
  |some _=>unsupported "internal:set_iterator"
  |none=>
   setField (.ref I) 0 (rawInt 0)
   setField (.ref I) 2 .none
   raiseNew (←newExc (.type "StopIteration") [])
def Ah(f:SI s.heap I a first i es.size ep)(S:K4 w s.heap a js es ep t)
  (body:wpAny (model prog w) A.in1 (BF first a I i ep) (λp l=>∃v,p=.done (.ret v)/\Q (some v) l)
   (λe l=>wpAny (model prog w) A (isInstance e<|.type "StopIteration") (λb g=>b=true/\Q none g) E l) s) :
  wpAny (model prog w) A (pyNext<|.ref I) Q E s:=by
 obtain⟨o,x,C,hd⟩:=id f;obtain⟨B,r,hx,u⟩:=S.obj;refine WE (wpAny_attempt<|Jj f.typ si_slot<|Vr si_slot f.typ Zdn ?_<|Zjp _);refine WE (WK<|WE<|wpAny_fieldsOf x hd ?_);refine WE (wpAny_setEntries_of r u S.fit ?_);rw[WM (by simp)];refine Qz body (λp l h=>?_) λe l h=>?_
 ·obtain⟨v,e,q⟩:=h;exact⟨v,e,WK q⟩
 ·refine WE (Qz h (λb g y=>?_) λ_ _ z=>z);obtain⟨rfl,q⟩:=y;exact WK q
def HH{Q:Yo->Shared->Prop}{o}{vs}(r:A.handled=none)(p:s.heap.get? I=some o)(hd:o.data=.fields vs)(u:2<vs.size)(g:∀h,Heap.ExtBut I s.heap h->Q none {s with heap:=h}){R:PySem.Fin->Shared->Prop} :
  wpAny (model prog w) A.in1 (do setField (.ref I) 2 .none;raiseNew (←newExc (.type "StopIteration") [])) R (λe l=>wpAny (model prog w) A (isInstance e<|.type "StopIteration") (λb f=>b=true/\Q none f) E l) s:=by
 refine WE (Ve p hd u<|WE ?_);refine WE (QB ?_<|by size_fits);refine WE (wpAny_of_eq (by first|rfl|(simp only[firstArgMember];rfl))<|QB ?_<|by size_fits)
 simp only[raiseNew];refine WE (wpAny_handled ?_);rw[r];refine WE (WK<|wpAny_throw ?_);refine wpAny_isInstance ⟨_,WX _ rfl,rfl⟩ isSubtype_stop ?_;exact⟨rfl,g _ (((QO ..).extBut.push _).push _)⟩
def SI.step1 {x:Value} (f:s.heap.get? I=some o) (g:o.cls=.type "set_iterator") (hd:o.data=.fields #[first,.int i 0,.ref a,.int n 0,.int ep 0]) :
  SI (s.heap.update I<|Obj.mapFields (·.setIfInBounds 1 (rawInt ((i:Int)+1)))) I a first (i+1) n ep:=
 ⟨_,Q5 _ f (Vf<|QJ hd _),(Jp ..).trans g,by rw[QJ hd];simp[rawInt]⟩
def F0(h:Q (P5 w) s):wpAny (model prog w) A setsByText Q E s:=WE (wpAny_askSetting<|WK h)
def Zet(S:K4 w s.heap a js es ep t)(l:P5 w=true)(h:Q (((pickOrder (w.params.setOrder a ep) es)[i]?).map λe=>(e.2,slot)) s) :
  wpAny (model prog w) A (setNext a slot i ep) Q E s:=by
 obtain⟨o,f,hx,g⟩:=S.obj;refine WE (V3 f g S.fit<|WE<|F0 ?_);rw[l,WO rfl,WM (by simp)];refine WE ?_;refine WE (V3 f g S.fit<|WE<|F0 ?_);rw[l,WO rfl];exact WE (wpAny_askSetting<|WK<|WK h)
def Zmw(S:K4 w s.heap a js es ep t)(l:P5 w=false)(o:(!t.plain&&decide (es.size>1))=false)(h:Q (match es[SetTable.below t.place slot]?,t.place[SetTable.below t.place slot]? with|some (_,x),some j=>some (x,j+1)|_,_=>none) s):wpAny (model prog w) A (setNext a slot i ep) Q E s:=by
 obtain⟨r,f,hx,g⟩:=S.obj;refine WE (V3 f g S.fit<|WE<|F0 ?_);rw[l,WM (by decide)];show wpAny _ _ (if (!t.plain&&decide (es.size>1))=true then _ else _) _ _ _;rw[o,WM (by decide)];refine WE (?_:wpAny _ _ (if (!t.led && !es.isEmpty)=true then unsupported "set:maker-not-led" else pure ()) _ _ _);have p:t.led=true:=by rw[S.tab.led,l];rfl
 rw[p,WM (by simp)];exact WK (WK h)
def Zc1{p e}(S:K4 w s.heap a js es ep t)(l:es[p]?=some e)(h:Q e.2 s):wpAny (model prog w) A (setNextDrawn a p ep) Q E s:=by
 obtain⟨o,f,hx,g⟩:=S.obj;refine WE (V3 f g S.fit ?_)
 dsimp only
 rw[WM (by simp),l];exact WK h
def Zfm{m}(f:m≠0)(h:∀k d,k<m->Q k {s with drawn:=d}):wpAny (model prog w) A (choose g m) Q E s:=by
 intro Γ p l;exact⟨f,h _ _ (Nat.mod_lt _<|Nat.pos_of_ne_zero f)⟩
theorem A8{f:Type}:∀(xs:List f) k h,(xs[k]::xs.eraseIdx k).Perm xs
 |x::r,0,_=>List.Perm.refl _
 |x::r,k+1,h=>by
  have g:k<r.length:=by grind
  exact(List.Perm.swap _ _ _).trans (List.Perm.cons _<|A8 r k g)
def Zbm:∀m xs s {Q:List v->Shared->Prop},xs.length=m->(∀f d,f.Perm xs->Q f {s with drawn:=d})->wpAny (model prog w) A (drawOrder m xs) Q E s:=by
 intro m
 induction m with
 |zero=>
  intro xs s Q g h;have e:=Jk.mp g;subst e;exact WK (h [] s.drawn<|List.Perm.refl _)
 |succ m o=>
  intro xs s Q g h;cases xs with
  |nil=>grind
  |cons x r=>
   unfold drawOrder;refine WE (Zfm (by simp) λk d l=>?_);rw[WH l];refine WE (o _ _ (by grind) λf u p=>WK ?_);exact h _ u ((List.Perm.cons _ p).trans (A8 _ _ l))
def K4.keep (S:K4 w h a js es ep t) (k:∀o,h.get? a=some o->p.get? a=some o):K4 w p a js es ep t:=by
 obtain⟨⟨o,l,r⟩,b,c,d,e,f,g⟩:=S;exact⟨⟨o,k o l,r⟩,b,c,d,e,f,g⟩
def Gs(f:SI s.heap I a first i n ep)(h:Q (.ref I) s):wpAny (model prog w) A (pyIter<|.ref I) Q E s:=by
 refine wpAny_pyIter_slot f.typ Me (Vr Me f.typ Zdw ?_<|Zpl _);exact WK ⟨_,rfl, "set_iterator",_,f.typ,si_slot.lookup,h⟩
def Gw(hh:A.handled=none)(I a:Addr)(hne:a≠I)(vs:Yk)(hl:vs.length=es.size)(sl:Nat->Nat)(nx:∀A E s i Q,i<=es.size->K4 w s.heap a js es ep t->Q ((vs[i]?).map λv=>(v,sl (i+1))) s->wpAny (model prog w) A (setNext a (sl i) i ep) Q E s) :
  Walks prog w A I [I,a] [I] es.size (λi v=>vs[i]?=some v) (λi h=>SI h I a (.int (sl i) 0) i es.size ep/\K4 w h a js es ep t) where
 sub:=λb hb=>by simp at hb;simp[hb]
 frame:=λ_ _ _ st k=>⟨st.1.at λo e=>k I (by simp) o e,st.2.keep λo e=>k a (by simp) o e⟩
 item:=λi s Q E hi st fin=>by
  obtain⟨o,ho,hc,hd⟩:=id st.1;refine Ah st.1 st.2 ?_;unfold BF
  dsimp only
  rw[Q3,Q3,Q3];refine WE (nx _ _ s i _ (VX hi) st.2 ?_);have hi2:i<vs.length:=by lia
  rw[WH hi2];refine WE (Ve ho hd (by simp) ?_);have g1:=Q5 (Obj.mapFields (·.setIfInBounds 0 (rawInt (sl (i+1):Int)))) ho (Vf<|QJ hd _);have d1:(Obj.mapFields (·.setIfInBounds 0 (rawInt (sl (i+1):Int))) o).data=.fields #[.int (sl (i+1)) 0,.int i 0,.ref a,.int es.size 0,.int ep 0]:=by rw[QJ hd];simp[rawInt]
  refine WE (Ve g1 d1 (by simp) ?_);have sb:=(QO s.heap I<|Obj.mapFields (·.setIfInBounds 0 (rawInt (sl (i+1):Int)))).trans (QO _ I<|Obj.mapFields (·.setIfInBounds 1 (rawInt ((i:Int)+1))));refine WK ⟨_,rfl,fin vs[i] _ s.toks (WH hi2) ⟨?_,st.2.keep λo e=>sb.extBut a o hne e⟩ λb o hb e=>sb.extBut b o (λz=>hb (by simp[z])) e⟩;exact SI.step1 (x:=.none) g1 ((Jp ..).trans hc) d1
 done:=λs Q E st fin=>by
  obtain⟨o,ho,hc,hd⟩:=id st.1;refine Ah st.1 st.2 ?_;unfold BF
  dsimp only
  rw[Q3,Q3,Q3];refine WE (nx _ _ s es.size _ (WQ _) st.2 ?_);rw[Vg (by lia)];exact HH hh ho hd (by simp) λh' eb=>fin h' s.toks λb o hb e=>eb b o (λz=>hb (by simp[z])) e
 self:=λ_ _ _ _ st fin=>Gs st.1 fin
def Zmv(hh:A.handled=none)(I a T:Addr)(hne:a≠I)(hT:T≠I)(ps:Yj)(hl:ps.length=es.size)(hps:∀p∈ps,p<es.size)(vs:Yk)(hvs:vs=ps.map λp=>((es[p]?).map (·.2)).getD .none) :
  Walks prog w A I [I,a,T] [I] es.size (λi v=>vs[i]?=some v) (λi h=>SI h I a (.ref T) i es.size ep/\K4 w h a js es ep t/\∃o,h.get? T=some o/\∃c,o.data=.seq (ps.map λ(p:Nat)=>rawInt p).toArray c) where
 sub:=λb hb=>by simp at hb;simp[hb]
 frame:=λ_ _ _ st k=>⟨st.1.at λo e=>k I (by simp) o e,st.2.1.keep λo e=>k a (by simp) o e,let ⟨o,ho,c⟩:=st.2.2;⟨o,k T (by simp) o ho,c⟩⟩
 item:=λi s Q E hi st fin=>by
  obtain⟨o,ho,hc,hd⟩:=id st.1;obtain⟨oT,hoT,c,hdT⟩:=st.2.2;refine Ah st.1 st.2.1 ?_;unfold BF
  dsimp only
  refine WE (wpAny_seqItems hoT hdT ?_);have hi2:i<ps.length:=by lia
  have e1:(ps.map λ(p:Nat)=>rawInt p).toArray[(i:Int).toNat]?=some (.int ps[i] 0):=by
   rw[Q3,List.getElem?_toArray,WT,WH hi2];rfl
  have hp:=hps _ (Qg hi2)
  dsimp only
  rw[e1]
  dsimp only
  have e3:vs[i]?=some (es[ps[i]]).2:=by rw[hvs,WT,WH hi2];simp[hp]
  refine WE (Zc1 st.2.1 (QX hp)<|WE<|Ve ho hd (by simp) ?_);have sb:=QO s.heap I (Obj.mapFields (·.setIfInBounds 1 (rawInt ((i:Int)+1))));exact WK ⟨_,rfl,fin _ _ s.toks e3 ⟨SI.step1 (x:=.none) ho hc hd,st.2.1.keep λo e=>sb.extBut a o hne e,oT,sb.extBut T oT hT hoT,c,hdT⟩ λb o hb e=>sb.extBut b o (λz=>hb (by simp[z])) e⟩
 done:=λs Q E st fin=>by
  obtain⟨o,ho,hc,hd⟩:=id st.1;obtain⟨oT,hoT,c,hdT⟩:=st.2.2;refine Ah st.1 st.2.1 ?_;unfold BF
  dsimp only
  refine WE (wpAny_seqItems hoT hdT ?_)
  have e1:(ps.map λ(p:Nat)=>rawInt p).toArray[(es.size:Int).toNat]?=none:=by
   rw[Q3,List.getElem?_toArray,WT,Vg (by lia)];rfl
  dsimp only
  rw[e1]
  dsimp only
  refine WE (Ve ho hd (by simp) ?_);refine HH (s:={s with heap:=_}) hh (Q5 (Obj.mapFields (·.setIfInBounds 0 (rawInt 0))) ho<|Vf<|QJ hd _) (QJ hd _) (by simp) λh' eb=>fin h' s.toks λb o hb e=>eb b o (λz=>hb (by simp[z])) ((QO s.heap I<|Obj.mapFields (·.setIfInBounds 0 (rawInt 0))).extBut b o (λz=>hb (by simp[z])) e)
 self:=λ_ _ _ _ st fin=>Gs st.1 fin
def Zdy(nx:Nat->Nat):∀m k left (f:Array o),left.length=m->(pickOrder.go nx m k left f).toList.Perm (f.toList++left):=by
 intro m
 induction m with
 |zero=>
  intro k left f h;have e:=Jk.mp h;subst e;show f.toList.Perm (f.toList++[]);simp
 |succ m l=>
  intro k left f h;have g:nx k % left.length<left.length:=Nat.mod_lt _ (by lia);unfold pickOrder.go;rw[WH g];refine(l _ _ _<|by grind).trans ?_;rw[Array.toList_push,Jq];exact(A8 left _ g).append_left _
def GY(nx:Nat->Nat)(xs:Array f):(pickOrder nx xs).toList.Perm xs.toList:=by
 have:=Zdy nx xs.size 0 xs.toList #[] rfl
 simpa [pickOrder]using this
noncomputable def slotAt(t:SetTable)(i:Nat):Nat:=if i=0 then 0 else t.place.getD (i-1) 0+1
def Lc(h:t.fits m=true):t.place.size=m:=by
 simp only[SetTable.fits,Q2,beq_iff_eq]at h
 grind
def Zkh(S:K4 w s.heap a js es ep t){i}(o:i<=es.size):SetTable.below t.place (slotAt t i)=i:=by
 have h:=Lc S.fit;have R:=S.tab.ris.ris;refine Zqc R (by lia) (λk l=>?_) λk p f=>?_
 ·unfold slotAt;rw[WM (by lia)];by_cases e:k=i-1
  ·rw[e];lia
  ·have:=R k (i-1) (by lia) (by lia)
   lia
 ·unfold slotAt;by_cases g:i=0
  ·grind
  ·rw[WM g]
   have:=R (i-1) k (by lia) f
   lia
def Zib{A'}(M:A'.handled=none)(S:K4 w s.heap a js es ep t)
  (l:∀I fp (vs:Yk) St N d1,Walks prog w A' I fp [I] es.size (λi v=>vs[i]?=some v) St->St 0 N->(∀b∈fp,b=a\/s.heap.get? b=none)->vs.length=es.size->vs.Perm (es.toList.map (·.2))->
   s.heap.get? I=none->(∀b o,s.heap.get? b=some o->N.get? b=some o)->Q (.ref I) {s with heap:=N,drawn:=d1}) :
  wpAny (model prog w) A (pyIter<|.ref a) Q E s:=by
 obtain⟨ob,g,hx,h⟩:=S.obj;have hT:s.TypeIs (.ref a) "set":=⟨ob,g,hx.1⟩;have ha:=WW g
 have new:∀b,s.heap.objs.size<=b->s.heap.get? b=none:=λb f=>by
  cases e:s.heap.get? b with
  |none=>rfl
  |some o=>exact absurd (WW e) (JD.mpr f)
 refine wpAny_pyIter_slot hT F.slot_set_iter (Vr F.slot_set_iter hT Zlx ?_<|F.args_set_iter_1 _);unfold Builtin.«frozenset.__iter__»;show wpAny _ _ (Builtin.Frozenset.sizeOf a >>= _) _ _ s;unfold Builtin.Frozenset.sizeOf;refine WE (WE<|wpAny_setEntries_of g h S.fit<|WK ?_);refine WE ?_;unfold setDrawn;refine WE (V3 g h S.fit<|WE<|F0<|WK ?_)
 dsimp only
 change wpAny _ _ (if (!P5 w&&(!t.plain&&decide (es.size>1)))=true then _ else _) _ _ _;cases hd:(!P5 w&&(!t.plain&&decide (es.size>1)))with
 |false=>
  rw[WM (by decide)];refine WE (WK<|WE<|wpAny_setEpoch_of g h S.fit<|WE<|QB<|WK ⟨_,rfl, "set_iterator",_,⟨_,WX _ rfl,rfl⟩,si_slot.lookup,?_⟩);have B:=Qj ha;have S1:K4 w (s.heap.push {cls:=.type "set_iterator",data:=.fields [rawInt 0,rawInt 0,.ref a,rawInt es.size,rawInt ep].toArray}) a js es ep t:=S.keep λo e=>WL _ e
  have lt:∀b∈[s.heap.objs.size,a],b=a\/s.heap.get? b=none:=λb f=>by
   rcases WU.mp f with rfl|f
   ·exact .inr (new _<|WQ _)
   ·exact .inl (WJ.mp f)
  cases f:P5 w with
  |true=>
   have u:((pickOrder (w.params.setOrder a ep) es).toList.map (·.2)).length=es.size:=by
    rw[WG,(GY _ _).length_eq];simp
   refine l _ _ _ _ _ s.drawn (Gw M s.heap.objs.size a B ((pickOrder (w.params.setOrder a ep) es).toList.map (·.2)) u (λ_=>0) λA E s i Q hi G q=>Zet G f ?_) ⟨⟨_,WX _ rfl,rfl,rfl⟩,S1⟩ lt u ((GY _ _).map _) (new _<|WQ _) λb o e=>WL _ e;rw[WT]at q;rw[←QY];cases e:(pickOrder (w.params.setOrder a ep) es).toList[i]? with
   |none=>rw[e]at q;exact q
   |some x=>rw[e]at q;exact q
  |false=>
   have y:(!t.plain&&decide (es.size>1))=false:=by rw[f]at hd;simpa using hd
   refine l _ _ _ _ _ s.drawn (Gw M s.heap.objs.size a B (es.toList.map (·.2)) (by simp) (slotAt t) λA E s i Q hi G q=>Zmw G f y ?_) ⟨⟨_,WX _ rfl,rfl,rfl⟩,S1⟩ lt (by simp) (List.Perm.refl _) (new _<|WQ _) λb o e=>WL _ e;rw[Zkh G hi];have hz:=Lc G.fit;rw[WT]at q;by_cases L:i<es.size
   ·have C:=QX L;have e2:t.place[i]?=some t.place[i]:=QX (by lia);have U:es.toList[i]?=some es[i]:=by rw[QY];exact C
    rw[U]at q;rw[C,e2]
    have e4:slotAt t (i+1)=t.place[i]+1:=by
     unfold slotAt;rw[WM (by lia)]
     have:i<t.place.size:=by lia
     simp[Array.getD,this]
    have Y:=q;rw[e4]at Y;exact Y
   ·have C:es[i]?=none:=Jv (by lia);have U:es.toList[i]?=none:=by rw[QY];exact C
    rw[U]at q;rwa[C]
 |true=>
  rw[WO rfl];refine WE (Zbm _ _ s (by simp) λr d y=>?_);have u:r.length=es.size:=by rw[y.length_eq];simp
  have J:∀p∈r,p<es.size:=λp hm=>Jg.mp (y.mem_iff.mp hm);refine WE (QB ?_<|by show(r.map λ(i:Nat)=>rawInt i).toArray.size<=sizeLine;rw[Qr,WG,u];exact Jn S.few);have z:=WL {cls:=.type "tuple",data:=.seq (r.map λ(i:Nat)=>rawInt i).toArray} g;refine WE (wpAny_setEpoch_of z h S.fit<|WE<|QB<|WK ⟨_,rfl, "set_iterator",_,⟨_,WX _ rfl,rfl⟩,si_slot.lookup,?_⟩);have H:(s.heap.push {cls:=.type "tuple",data:=.seq (r.map λ(i:Nat)=>rawInt i).toArray}).objs.size=s.heap.objs.size+1:=Vo ..
  have T:(List.range es.size).map (λp=>((es[p]?).map (·.2)).getD Value.none)=es.toList.map (·.2):=by
   apply JV;intro k;by_cases hk:k<es.size
   ·simp[hk]
   ·have:es.size<=k:=by lia
    simp[this]
  refine l _ _ _ _ _ d (Zmv M _ a s.heap.objs.size ?_ ?_ r u J _ rfl) ⟨⟨_,WX _ rfl,rfl,rfl⟩,S.keep λo e=>WL _ (WL _ e),_,WL _ (WX _ rfl),0,rfl⟩ (λb f=>?_) (by rw[WG];exact u) ?_ (new _ ?_) λb o e=>WL _ (WL _ e)
  ·show a≠_;rw[H];exact Qj (Jo ha)
  ·show s.heap.objs.size≠_;rw[H];exact Qj (V7 _)
  ·rcases WU.mp f with rfl|f
   ·refine .inr (new _ ?_);show s.heap.objs.size<=_;rw[H];exact VJ _
   ·rcases WU.mp f with rfl|f
    ·exact .inl rfl
    ·rw[WJ.mp f];exact .inr (new _<|WQ _)
  ·rw[←T];exact y.map _
  ·show s.heap.objs.size<=_;rw[H];exact VJ _
def Zfh(g:s.TypeIs (.ref a) "set")(h:Q false s):wpAny (model prog w) A (Builtin.List.listLengthHint<|.ref a) Q E s:=by
 refine WE (wpAny_specialOf g F.slot_set_len.lookup ?_);generalize f:("set.__len__" : String)=z
 wp_delta
 have l:splitId z=some ("set","__len__"):=by subst f;decide +kernel
 rw[l];subst f;refine WE (wpAny_isInstance (b:=true) g (by rw[isSubtype_type];kernel_rfl) (wpAny_ite_split (λz=>absurd z (by decide)) λ_=>?_));exact wpAny_ite_split (λ_=>WE (wpAny_typeOf g<|WK h)) λz=>absurd (by decide +kernel) z
def Ziz(hh:A.handled=none)(S:K4 w s.heap a js es ep t)(D:Addr)(c:Nat)(g:Value)(hD:s.heap.get? D=some {cls:=.type "list",data:=.seq #[] c})(G:D≠a)(fin:∀h' M d (vs:Yk) y,vs.Perm (es.toList.map (·.2))->h'.get? D=some {cls:=.type "list",dict:=none,data:=.seq vs.toArray y,slots:=#[]}->(∀b o,b≠D->s.heap.get? b=some o->h'.get? b=some o)->R (.ok<|.ret g) {s with heap:=h',toks:=M,drawn:=d}) :
  wpAny (model prog w) A.in1 (Builtin.List.listExtendWith (.ref D) (.ref a) g) (λf v=>match f with | .done f=>R (.ok f) v | .again y=>y.quiet=true/\codeAny (model prog w) A y R v) (λe v=>R (.error e) v) s:=by
 obtain⟨ob,C,hx,hdd⟩:=S.obj;have hT:s.TypeIs (.ref a) "set":=⟨ob,C,hx.1⟩;unfold Builtin.List.listExtendWith;refine WE (wpAny_typeOf hT ?_);have n1:Builtin.List.listSameRef (.ref D) (.ref a)=false:=by simp[Builtin.List.listSameRef,G]
 have n2:(Value.type "set" == Value.type "list")=false:=by decide
 have n3:(Value.type "set" == Value.type "tuple")=false:=by decide
 simp only[n1,n2,n3,Bool.or_false,Jd,Jz];refine WE (Zib (A':=A.in1) hh S λI fp vs St h1 d1 W Q flt hl hp Y keep=>?_);have hDI:D≠I:=λz=>by rw[←z,hD]at Y;cases Y
 have loop:∀h M c1,St 0 h->(∀b o,b≠D->s.heap.get? b=some o->h.get? b=some o)->h.get? D=some {cls:=.type "list",data:=.seq #[] c1}->D∉fp->
   codeAny (model prog w) A (.builtin "list.extend.loop" ⟨[.ref D,.ref I,g],[]⟩) R {s with heap:=h,toks:=M,drawn:=d1}:=λh M c1 st hk r p=>by
  refine codeAny_extend_loopS W.toS (Jn S.few) D p g es.size 0 _ #[] c1 rfl (QV _) st r (ItemsOf.nil _) λv x y N L u=>?_
  have ev:x.toList=vs:=by
   apply JV;intro k;by_cases T:k<x.size
   ·have e1:=QX T;rw[QY,e1];exact(u.2 k _ e1).symm
   ·rw[QY,Jv (by lia),Vg (by have:=u.1;lia)]
  have e2:x=vs.toArray:=by rw[←ev]
  rw[e2]at L;rw[Moved.eq_with N];refine fin v.heap v.toks d1 vs y hp L λb o l e=>N.heap b o (λH=>?_) (hk b o l e);rcases WU.mp H with z|z
  ·exact l z
  ·rw[WJ.mp z,Y]at e;cases e
 have p:D∉fp:=λN=>by
  rcases flt D N with z|z
  ·exact G z
  ·rw[hD]at z;cases z
 have U:Shared.TypeIs {s with heap:=h1,drawn:=d1} (.ref a) "set":=⟨ob,keep _ _ C,hx.1⟩
 refine WE (QU<|Zfh U ?_);have r:=keep _ _ hD;refine WE (wpAny_rule<|WE (?_:wpAny _ _ (updateSeq D (·.push .none) >>= λ_=>updateSeq D (·.pop)) _ _ _));refine WE (wpAny_updateSeq r rfl ?_);have J:=Q5 (Obj.mapSeq (·.push Value.none)) r rfl;refine wpAny_updateSeq J rfl ?_
 have B:∀b o,b≠D->h1.get? b=some o->((h1.update D<|Obj.mapSeq (·.push Value.none)).update D (Obj.mapSeq (·.pop))).get? b=some o:=λb o l e=>
  (QD _ _<|Ne.symm l).trans ((QD _ _<|Ne.symm l).trans e)
 exact WK ⟨plainId_quiet F.plain_extend_loop _,loop _ _ _ (W.frame 0 _ _ Q λb l o e=>B b o (λz=>p (z▸l)) e) (λb o l e=>B b o l (keep b o e)) (Q5 (Obj.mapSeq (·.pop)) J rfl) p⟩
def Zjv(G:A.handled=none)(S:K4 w s.heap a js es ep t)(u:∀g h d vs,vs.Perm (es.toList.map (·.2))->(∀b o,s.heap.get? b=some o->g.get? b=some o)->s.heap.objs.size<g.objs.size->R vs {s with heap:=g,toks:=h,drawn:=d}) :
  wpAny (model prog w) A (collect<|.ref a) R E s:=by
 obtain⟨Q,C,hx,H⟩:=S.obj;refine WE (wpAny_runValue<|Vx entry_proto_collect' ?_);have M:=VS (A:=A) PySem.F.plain_proto_collect ⟨[.ref a],[]⟩;refine(WE<|QB<|WK ⟨plainId_quiet PySem.F.plain_list_iadd _,Vx entry_list_iadd' ?_⟩);rw[(VS (A:=A) PySem.F.plain_list_iadd ⟨[.ref s.heap.objs.size,.ref a],[]⟩)];have J:(s.heap.push {cls:=.type "list",data:=.seq ([]:Yk).toArray}).get? s.heap.objs.size=some {cls:=.type "list",data:=.seq #[]}:=WX _ rfl
 have B:=Ziz (prog:=prog) (s:={s with heap:=s.heap.push {cls:=.type "list",data:=.seq ([]:Yk).toArray}})
  (R:=λq z=>∃g h d vs v,q=.ok (.ret<|.ref s.heap.objs.size)/\z={s with heap:=g,toks:=h,drawn:=d}/\vs.Perm (es.toList.map (·.2))/\(∀b o,s.heap.get? b=some o->g.get? b=some o)/\
   g.get? s.heap.objs.size=some {cls:=.type "list",dict:=none,data:=.seq vs.toArray v,slots:=#[]}) G (S.keep λo e=>WL _ e) s.heap.objs.size 0 (.ref s.heap.objs.size) J (JW<|WW C)
  λg h d vs v p l r=>⟨g,h,d,vs,v,rfl,rfl,p,λb o e=>r b o (Qj<|WW e) (WL _ e),l⟩
 refine Qz B (λf z x=>?_) λe z x=>?_
 ·cases f with
  |done f=>
   obtain⟨g,h,d,vs,v,e,rfl,p,r,l⟩:=x;cases e
   refine(WE<|wpAny_load l<|WK ?_);exact u g h d vs p r (WW l)
  |again T=>
   refine⟨x.1,Vt x.2 λq N y=>?_⟩;obtain⟨g,h,d,vs,v,rfl,rfl,p,r,l⟩:=y;refine(WE<|wpAny_load l<|WK ?_);exact u g h d vs p r (WW l)
 ·obtain⟨_,_,_,_,_,L,_⟩:=x;cases L
theorem Ri:∀{l:List (Int×Value)},(∀e∈l,Ent e)->IntsAre (l.map (·.2)) (l.map keyOf)
 |[],_=>.nil
 |e::r,h=>by
  obtain⟨k,t,rfl⟩:=h e Qy;exact .cons k t (Ri λx hx=>h x (Qf _ hx))
def Zgg{vs us}(p:vs.Perm us):∀{ns:Ye},IntsAre us ns->∃f,IntsAre vs f/\f.Perm ns:=by
 induction p with
 |cons x _ v=>
  intro ns h;cases h with
  |cons n t r=>
   obtain⟨f,B,z⟩:=v r;exact⟨n::f,.cons n t B,List.Perm.cons _ z⟩
 |swap x y l=>
  intro ns h;cases h with
  |cons n t r=>
   cases r with
   |cons g o u=>exact⟨g::n::_,.cons g o (.cons n t u),List.Perm.swap _ _ _⟩
 |_=>grind
def Zk9(L:A.handled=none)(B:SetB w s.heap a js)(x:js.length<64)
  (C:∀l y u d f ns e,IntsAre f ns->ns.Perm js->ns.Pairwise (·<=·)->s.heap.get? l=none->s.heap.objs.size<=l->y.get? l=some {cls:=.type "list",data:=.seq f.toArray e}->
   (∀b o,s.heap.get? b=some o->y.get? b=some o)->Q (.ref l) {s with heap:=y,toks:=u,drawn:=d}) :
  wpAny (model prog w) A (call (.builtin "sorted") [.ref a]) Q E s:=by
 obtain⟨es,ep,t,S⟩:=B;refine Calls.call_function_entry kind_sorted plain_sorted entry_sorted (args_sorted1 _) ?_;refine WE (WK<|WE (Zjv L S λp u d r H keep big=>?_));obtain⟨N,G,v⟩:=Zgg H (Ri S.ent);have g:=v.trans S.per;have J:r.length<64:=by rw[IntsAre.length G,g.length_eq];exact x
 refine WE (wpAny_newList ?_<|by have:(64:Nat)<=sizeLine:=(by decide);lia);have z:(p.push<|seqObj "list" r.toArray 0).get? p.objs.size=some (seqObj "list" r.toArray 0):=WX _ rfl;refine WE (QU<|Vr slot_list_sort ⟨_,z,rfl⟩ entry_list_sort (list_sort_tree z G J λf ns a1 a2 a3=>⟨_,rfl,?_⟩)<|args_list_sort _);obtain⟨e,M⟩:=sortedHeap_at z;refine WK ⟨_,rfl,C p.objs.size _ u d f.toList ns e a1 (a2.trans g) a3 ?_ (VX big) (by simpa [seqObj]using M) λb o q=>?_⟩
 ·cases q:s.heap.get? p.objs.size with
  |none=>rfl
  |some o=>exact absurd (WW<|keep _ _ q) (QT _)
 ·have h:=WW (keep b o q);rw[sortedHeap_old (Qj h) (by rw[size_push'];exact Jo h)];exact WL _ (keep b o q)
end
end SetR
namespace Own
open PySem PySem.Spec PyProof.Rows L2
noncomputable def NA(w:World)(l:Addr)(f:Ye):HO:=.ext λh=>SetR.SetB w h l f
section
variable {X:Cx}
def Zpg{w H h l f}(B:SetR.SetB w h l f):ObjOk P w H h l (NA w l f):=by
 refine⟨B,?_,λr p g k=>g.at k⟩;obtain⟨s,u,t,S⟩:=B;obtain⟨o,n,_⟩:=S.obj
 grind
def Zbi(y:X.calm=true):Kl X (.type "set") (λxs H Q=>∃(p:Addr) (ns:Ye),xs=[.ref p]/\SqL X.K H p (ns.map V.int)/\ns.length+1<4096/\∀l,H l=none->Q (.ref l) (upd H l<|NA X.w l<|ns.foldl SetR.K0 [])):=by
 intro pins s A H xs C Q I f h;obtain⟨p,ns,rfl,z,x,q⟩:=h;obtain⟨u,rfl,g⟩:=f.one;obtain rfl:=g;obtain⟨v,r,n,_⟩:=I.list z;refine SetR.Zaq (I.ok.hd y) n.isList (by simpa using Fq r) x λG E B keep=>?_;exact⟨.ref s.heap.objs.size,upd H s.heap.objs.size (NA X.w s.heap.objs.size _),I.laid (λb o e=>keep b o (WW e) e) (WQ _) (Zpg B),rfl,q _ (I.hok.fresh<|WQ _)⟩
def Hr(N:X.calm=true):Kl X (.builtin "sorted") (λxs H Q=>∃p g,xs=[.ref p]/\g.length<64/\(SqL X.K H p (g.map V.int)\/H p=some (NA X.w p g))/\
  ∀l (ns:Ye),H l=none->ns.Perm g->ns.Pairwise (·<=·)->Q (.ref l) (upd H l<|.lst<|ns.map V.int)):=by
 intro pins s U H xs Y Q I G h;obtain⟨p,g,rfl,A,v,q⟩:=h;obtain⟨u,rfl,J⟩:=G.one;obtain rfl:=J
 have big:∀{ns:Ye},ns.Perm g->(ns.map V.int).length<=sizeLine:=λM=>by
  rw[WG,M.length_eq]
  have:(64:Nat)<=sizeLine:=by decide
  lia
 rcases v with v|v
 ·obtain⟨n,r,L,_⟩:=I.list v;have E:IntsAre n g:=by simpa using Fq r
  refine sorted_ints L.isList E (by rw[IntsAre.length E];exact A) λf ns a1 a2 a3=>?_;obtain⟨e,C⟩:=sortedAll_at s.heap n f;have x:=I.hok.fresh (VJ _);refine⟨.ref (s.heap.objs.size+1),upd H (s.heap.objs.size+1) (.lst<|ns.map V.int),I.laid (λb o e=>sortedAll_old e) (VJ _) ⟨big a2,f.toList,e,Ad a1,?_⟩,rfl,q _ ns x a2 a3⟩;omega
 ·have B:=(I.hok p _ v).1;refine SetR.Zk9 (I.ok.hd N) B A λl T tk d f ns e a1 a2 a3 nl y C keep=>?_;have x:=I.hok.fresh y;refine⟨.ref l,upd H l (.lst<|ns.map V.int),?_,rfl,q l ns x a2 a3⟩;have ok:HOk X.prog X.w (upd H l<|.lst<|ns.map V.int) T:=I.hok.laid keep y ⟨big a2,f,e,Ad a1,C⟩;exact I.call (ch:=[]) (Un.laid keep y x) ok I.bare (λb z=>absurd z (by simp))
end
section
variable {X:Cx}{K:Yc}
def M9(f:autoParam (X.K=K) au_0):IxR X (λx y H Q=>Sb K x y H Q\/SL K x y H Q):=by subst f;exact Znu
def Zhh(f:autoParam (X.K=K) au_0):Kl X (.builtin "len") (λxs H Q=>∃x n,xs=[x]/\Ft K x H n/\Q (.int n) H):=by subst f;exact Zpu
def Zhk(f:autoParam (X.K=K) au_0):OpR X (compareOp .In) (rIn K false):=by subst f;exact Zq3
def Zmf(f:autoParam (X.K=K) au_0):OpR X (compareOp .NotIn) (rIn K true):=by subst f;exact Zdz
def FF{pos es k t n}(l:X.calm=true)(h:PGs X es t)(o:autoParam (X.K=K) au_0)(g:autoParam ((assignEach es X.env).length=n) au_0)(f:autoParam ((assignEach es X.env).findIdx? (·.1)=none) au_0):PG X (.Tuple es k pos) (Dr K n t):=by subst o;exact Ze1 l h g f
end
section
variable {α:Type}{R:Hp->V->α->Prop}{φ:Yi}{g:TG}{tc:TT}{te:TE}{σ:L2.St}{H1:Hp}{F:Hp->Prop}{D:Addr}
def Zf6{K a xs}{ds:List α}(f:α->Option V)(w:SqL K H1 a xs)(hd:xs.length=ds.length)(G:H1 D=none)(J:ds.length<=sizeLine)(turn:∀(i:Nat) x d l,xs[i]?=some x->ds[i]?=some d->Same H1 l->∀k:Option V->Hp->Prop,k (f d) l->g x (atStart φ σ) l λh z=>Sub (atStart φ σ) h/\tc h z λb s=>if b=true then te h s λy v=>k (some y) v else k none s)(done:F (upd H1 D<|.lst<|ds.filterMap f)) :
  ∃W:Nat->Nat->List V->Hp->Prop,(∃m,W 0 m [] (upd H1 D<|.lst []))/\
   ∀i m r l,W i m r l->((Itl K a).stop i l/\F l)\/((Itl K a).go i l/\∀x A,(Itl K a).yld i l x A->g x (atStart φ σ) A λh z=>Sub (atStart φ σ) h/\tc h z λb s=>
    if b=true then te h s λy v=>v D=some (.lst r)/\r.length<sizeLine/\∃n,n<m/\W (i+1) n (r++[y]) (upd v D<|.lst (r++[y]))else ∃n,n<m/\W (i+1) n r s):=by
 refine⟨λi m r l=>m=ds.length-i/\i<=ds.length/\r=(ds.take i).filterMap f/\l=upd H1 D (.lst r),⟨ds.length,by simp,QV _,by simp,rfl⟩,?_⟩;rintro i m r l ⟨rfl,L,rfl,rfl⟩;have u:Same H1 (upd H1 D<|.lst ((ds.take i).filterMap f)):=Kg G;by_cases p:i<ds.length
 ·refine .inr ⟨⟨xs,xs[i]'(by lia),u.seq w,by simp[hd,p]⟩,λx A y=>?_⟩;obtain⟨e,y⟩:=y;subst e
  refine turn i x ds[i] _ (y xs<|u.seq w) (WH p) u (λo B=>match o with
   |some y=>B D=some (.lst ((ds.take i).filterMap f))/\((ds.take i).filterMap f).length<sizeLine/\∃n,n<ds.length-i/\(n=ds.length-(i+1)/\i+1<=ds.length/\(ds.take i).filterMap f++[y]=(ds.take (i+1)).filterMap f/\upd B D (.lst ((ds.take i).filterMap f++[y]))=upd H1 D (.lst ((ds.take i).filterMap f++[y])))
   |none=>∃n,n<ds.length-i/\(n=ds.length-(i+1)/\i+1<=ds.length/\(ds.take i).filterMap f=(ds.take (i+1)).filterMap f/\B=upd H1 D (.lst ((ds.take i).filterMap f)))) ?_
  have C:=Qp p;cases E:f ds[i]with
  |some y=>
   refine⟨X9,?_,ds.length-(i+1),by lia,rfl,p,?_,Mc⟩
   ·have H:=List.length_filterMap_le f (ds.take i);rw[Qs]at H;lia
   ·rw[C,VP];simp[E]
  |none=>
   refine⟨ds.length-(i+1),by lia,rfl,p,?_,rfl⟩;rw[C,VP];simp[E]
 ·have e:i=ds.length:=by lia
  subst e;refine .inl ⟨⟨xs,u.seq w,by lia⟩,?_⟩;rwa[QK]
end
noncomputable def eqL(xs f:List V):Bool:=decide (xs.length=f.length)&&(List.range xs.length).all λj=>eqV (xs.getD j .non) (f.getD j .non)
noncomputable def T1(K:Yc)(neg:Bool):R2:=λx y H Q=>∃(p q:Addr) (xs f:List V),x=.ref p/\y=.ref q/\SqL K H p xs/\SqL K H q f/\xs.all KJ=true/\f.all KJ=true/\Q (.bl (if neg then !eqL xs f else eqL xs f)) H
section
variable {X:Cx}
def A7{xs f us g}(n:Vals xs us)(l:Vals f g)(f1:xs.all KJ=true)(y:f.all KJ=true)(j:Nat)(x:j<us.toArray.size)(v:j<g.toArray.size) :
  SeqAt.EqAt A s us.toArray[j] g.toArray[j] (eqV (xs.getD j .non)<|f.getD j .non):=by
 have H:=n.length;have G:=l.length;have L:j<us.length:=by simpa using x
 have J:j<g.length:=by simpa using v
 have p:xs[j]?=some (xs[j]'(by lia)):=WH _;have o:f[j]?=some (f[j]'(by lia)):=WH _;obtain⟨u,N,r⟩:=n.get p;obtain⟨w,M,h⟩:=l.get o;have B:us.toArray[j]=u:=by grind
 have z:g.toArray[j]=w:=by grind
 have E:xs.getD j .non=xs[j]'(by lia):=by rw[WR,p];rfl
 have C:f.getD j .non=f[j]'(by lia):=by rw[WR,o];rfl
 rw[B,z,E,C];exact Iz r h (V9.mp f1 _<|Qg _) (V9.mp y _<|Qg _)
def MZ(r:X.A.units<cLine):OpR X (compareOp .Eq) (T1 X.K false):=by
 intro pins s J H x y v u Q I z w h;obtain⟨p,q,xs,f,rfl,rfl,B,hq,f1,G,k⟩:=h;obtain rfl:=z;obtain rfl:=w;obtain⟨M,l,n,_⟩:=I.list B;obtain⟨L,g,p2,_⟩:=I.list hq;have T:=l.length;have N:=g.length;have o:=k;by_cases e:xs.length=f.length
 ·refine SeqAt.eq_listAt n.isList p2.isList (by simp;lia) r (λj E C=>A7 l g f1 G j E C) ⟨.bl (eqL xs f),H,I,?_,o⟩;show _=Value.bool (eqL xs f);unfold eqL
  grind
 ·refine SeqAt.eq_list_lengthsAt n.isList p2.isList (by simp;lia) r ⟨.bl (eqL xs f),H,I,?_,o⟩;unfold eqL;rw[Qu e];rfl
def Zcr(r:X.A.units<cLine):OpR X (compareOp .NotEq) (T1 X.K true):=by
 intro pins s J H x y v u Q I z w h;obtain⟨p,q,xs,f,rfl,rfl,B,hq,f1,G,k⟩:=h;obtain rfl:=z;obtain rfl:=w;obtain⟨M,l,n,_⟩:=I.list B;obtain⟨L,g,p2,_⟩:=I.list hq;have T:=l.length;have N:=g.length;have o:=k;by_cases e:xs.length=f.length
 ·refine SeqAt.RcNeAt.lists n.isList p2.isList (by simp;lia) r (λj E C=>A7 l g f1 G j E C) _ _ _ _ ⟨.bl (!eqL xs f),H,I,?_,o⟩;show _=Value.bool (!eqL xs f);unfold eqL
  grind
 ·refine SeqAt.RcNeAt.lists_lengths n.isList p2.isList (by simp;lia) r _ _ _ _ ⟨.bl (!eqL xs f),H,I,?_,o⟩;unfold eqL;rw[Qu e];rfl
def HK{xs:Ye}{us}(r:Vals (xs.map V.int) us)(z:Int):∀j g (f:j<xs.length),Value.isInt z us[j]=(xs[j]==z):=by
 intro j g f;obtain⟨u,h,t,rfl⟩:=r.get (by rw[WT,WH f];rfl);rw[WH g]at h;rw[WY h];rfl
def Zmo{xs:Ye}{us}(r:Vals (xs.map V.int) us)(z:Int)(t:Tok):∀y,y∈us.toArray->MeetsSeq.EqGives y (.int z t) (Value.isInt z y):=by
 intro y h;obtain⟨j,l,rfl⟩:=Q9.mp (by simpa using h:y∈us);have g:=r.length;rw[WG]at g;obtain⟨u,f,n,rfl⟩:=r.get (by rw[WT,WH (show j<xs.length by lia)];rfl);rw[WH l]at f;rw[WY f];exact MeetsSeq.EqGives.int _ _ _ _
def Dm(K:Yc):V->List V->Hp->VK->Prop:=λx f H Q=>∃(l:Addr) (xs:Ye) (z:Int),x=.ref l/\f=[.int z]/\SqL K H l (xs.map V.int)/\z∈xs/\Q (.int (xs.idxOf z:Nat)) H
def Zge:MtM X "list.index" (Dm X.K):=by
 intro pins s σ H x vs v us Q I L M h;obtain⟨l,xs,z,rfl,rfl,hS,T,q⟩:=h;cases L
 obtain⟨u,rfl,t,rfl⟩:=M.one;obtain⟨f,r,N,g⟩:=I.list hS;obtain⟨o,n,G,J,p,hd⟩:=N;obtain⟨c1,d1,dt1,w⟩:=o;simp only at J p hd;subst J p hd;have E:=r.length;rw[WG]at E;have C:=List.idxOf_lt_length_iff.mpr T;have hb:xs.length<=2 ^ 24:=by rw[WG]at g;exact g
 refine call_meets Jl ⟨_,G,rfl⟩ PySem.F.entry_list_index (PySem.F.args_list_index_2 _ _)
  (SeqAt.list_indexAt l f.toArray n none w (.int z t) (Value.isInt z) (xs.idxOf z) (by simpa [←E]using C) (by lia) ?_ ?_) ⟨G,λy U=>(Zmo r z t y U).at _ _,⟨.int (xs.idxOf z:Nat),H,I.tok _,⟨_,rfl⟩,q⟩⟩
 ·have e:=HK r z (xs.idxOf z) (by lia) C;show Value.isInt z f[xs.idxOf z]=true;rw[e];simpa using List.getElem_idxOf C
 ·intro m Y B;have A:m<f.length:=by simpa using Y
  show Value.isInt z f[m]=false;rw[(HK r z m A<|by lia)]
  have:=List.not_of_lt_findIdx B
  simpa using this
end
section
variable {X:Cx}{K:Yc}
def RB(f:autoParam (X.K=K) au_0):MtM X "list.index" (Dm K):=by subst f;exact Zge
def Es{p t name apos cpos T id r}(s:PlainAttrs T)(slot:Slot T name id)(n:typeOf (.builtin id)=pure (.type "method_descriptor"))(v:MtM X id r)(u:PE X o p)(w:PA X (e::es) t)(y:autoParam (X.K=K) au_0)(h:autoParam (attributeBase o name X.env (eval o X.env)=eval o X.env) au_0)
  (l:autoParam (((backTo cpos<|starEach (e::es) X.env).all (λx=>!x.1)&&(backToKw cpos<|keywordEach [] X.env).all (λx=>x.1.isSome)
   && decide ((e::es).length+([]:List Keyword).length+(if ([]:List Keyword).isEmpty then 0 else 1)<30))=true) au_0)
  (g:autoParam ((apos.endLine==cpos.line)=true) au_0) (hs:autoParam (starEach (e::es) X.env=(false,eval e X.env)::starEach es X.env) au_0) (f:autoParam ((backTo cpos<|starEach es X.env).any (·.1)=false) au_0) :
  PE X (.Call (.Attribute o name apos) (e::es) [] cpos) (tBM K T r p t):=by
 subst y;exact BK s slot n v u w h l g hs f
end
def Dn(xs f:Ye):eqL (xs.map V.int) (f.map V.int)=decide (xs=f):=by
 unfold eqL;rw[WG,WG];by_cases e:xs=f
 ·subst e;rw[WI rfl,WI rfl,JU,V9];intro j o;have h:j<xs.length:=by simpa using o
  rw[WR,WT,WH h];show(xs[j]==xs[j])=true;simp
 ·rw[Qu e];by_cases l:xs.length=f.length
  ·rw[WI l,JU,Jr];intro g;apply e;apply List.ext_getElem l;intro j n r
   have:=V9.mp g j (by simpa using n)
   rw[WR,WT,WH n,WR,WT,WH r]at this;have p:(xs[j]==f[j])=true:=this;simpa using p
  ·grind
def Nx(xs:Ye):(xs.map V.int).all KJ=true:=by
 rw[List.all_map];exact V9.mpr λ_ _=>rfl
end Own
namespace M
open PySem PySem.Spec PyProof.Rows L2 Own
def LV{f:Type}(R:Hp->V->f->Prop)(H:Hp)(vs:List V)(xs:List f):Prop:=
 vs.length=xs.length/\∀(i:Nat) (x:f),xs[i]?=some x->∃v,vs[i]?=some v/\R H v x
def LAt{f:Type}(R:Hp->V->f->Prop)(H:Hp)(l:Addr)(xs:List f):Prop:=∃g,H l=some (.lst g)/\LV R H g xs
def Pt(H:Hp)(v:V)(q:Int×Int):Prop:=∃a,v=.ref a/\H a=some (.tup [.int q.1,.int q.2])
section
variable {α:Type}{R:Hp->V->α->Prop}{H H':Hp}{vs:List V}{xs:List α}{l:Addr}
def LV.get {i:Nat}{v} (h:LV R H vs xs) (e:vs[i]?=some v):∃x,xs[i]?=some x/\R H v x:=by
 have g:i<xs.length:=by rw[←h.1];exact(Qd.mp e).1
 obtain⟨f,n,r⟩:=h.2 i xs[i] (by simp)
 grind
end
def Nr(m:Ye):Prop:=∃a b c d e:Int,m=[a,b,c,d,e]/\(1<=a/\a<=10)/\(1<=b/\b<=9/\(b=1\/b=3\/b=7\/b=9))/\(0<=c/\c<=9)/\(1<=d/\d<=1000)/\(1<=e/\e+d<=1001)
def Field(ps:Yd):Prop:=∀q∈ps,1<=q.1/\q.1<=10/\1<=q.2/\q.2<=1000
def Zqs(f:Ye)(k z:Int):z∈SetR.K0 f k↔z∈f\/z=k:=by
 unfold SetR.K0;split
 ·grind
 ·simp
theorem L3:∀(ns f:Ye) z,z∈ns.foldl SetR.K0 f↔z∈f\/z∈ns
 |[],f,z=>by simp
 |n::r,f,z=>by
  rw[List.foldl_cons,L3 r,Zqs,WU];constructor
  ·grind
  ·grind
def Zrn(k:Int)(h:f.Nodup):(SetR.K0 f k).Nodup:=by
 unfold SetR.K0;split
 ·lia
 ·grind
theorem HR:∀(ns:Ye) {f:Ye},f.Nodup->(ns.foldl SetR.K0 f).Nodup
 |[],_,h=>h
 |n::r,f,h=>HR r (Zrn n h)
theorem Zaf:∀(ns f:Ye),(ns.foldl SetR.K0 f).length<=f.length+ns.length
 |[],f=>by simp
 |n::r,f=>by
  have h:=Zaf r (SetR.K0 f n)
  have g:(SetR.K0 f n).length<=f.length+1:=by
   unfold SetR.K0;split
   ·simp
   ·simp
  grind
def Fw{l:Ye}(h:l.Pairwise (·<=·))(n:l.Nodup):l.Pairwise (· < ·):=by
 have:=h.and n
 exact this.imp λ{a b} h=>by have:=h.1;have:=h.2;lia
def Hc{g f:Ye}(n:g.Pairwise (· < ·))(l:f.Pairwise (· < ·))(h:∀z,z∈g↔z∈f):g=f:=by
 have p:g.Nodup:=n.imp λ{a b} h=>by lia
 have o:f.Nodup:=l.imp λ{a b} h=>by lia
 exact((List.perm_ext_iff_of_nodup p o).mpr h).eq_of_pairwise (λa b _ _ x y=>by lia) n l
noncomputable def tenL:Ye:=[1,2,3,4,5,6,7,8,9,10]
def Zgi:z∈tenL↔1<=z/\z<=10:=by
 unfold tenL;constructor
 ·intro h;simp only[WU,Vq,or_false]at h;omega
 ·rintro⟨g,f⟩;simp only[WU,Vq,or_false];lia
noncomputable def Xy(ps:Yd):Ye:=tenL.filter λh=>decide (h∈ps.map (·.1))
def Nc(ps:Yd):(Xy ps).Pairwise (· < ·):=List.Pairwise.filter _ (by trivial)
def Fj(f:Field ps){z}:z∈Xy ps↔z∈ps.map (·.1):=by
 unfold Xy;rw[Qv,V4,Zgi];constructor
 ·grind
 ·intro h;obtain⟨q,hq,rfl⟩:=Qi.mp h
  have:=f q hq
  grind
def P7(ps:Yd):(Xy ps).length<=10:=by
 have:=QA (λh=>decide (h∈ps.map (·.1))) tenL
 trivial
def Zbr(f:Field ps)(p:ns.Perm ((ps.map (·.1)).foldl SetR.K0 []))(h:ns.Pairwise (·<=·)):ns=Xy ps:=by
 refine Hc (Fw h<|p.symm.nodup<|HR _ VO) (Nc ps) λz=>?_;rw[p.mem_iff,L3,Fj f];simp
def Ig(z:Int)(xs:Ye):inV (.int z) (xs.map V.int)=decide (z∈xs):=by
 unfold inV
 induction xs with
 |nil=>rfl
 |cons x r f=>
  show((x==z) || _)=_;by_cases e:x=z
  ·grind
  ·grind
def Zd4:tenL=(List.range 10).map λ(i:Nat)=>(1:Int)+(i:Int):=rfl
def HU{os ns}(g:os.Perm (Xy ps))(n:ns.Perm os)(l:ns.Pairwise (·<=·)):ns=Xy ps:=by
 have f:(Xy ps).Nodup:=(Nc ps).imp λ{a b} h=>by lia
 have p:=n.trans g;exact Hc (Fw l<|p.symm.nodup f) (Nc ps) λz=>p.mem_iff
section
variable (ps:Yd)
noncomputable def tpM(y:Int):Nat->Int
 | 0=>0
 |j+1=>tpM y j+(if (ps.getD j (0,0)).1=y then(ps.getD j (0,0)).2 else 0)
noncomputable def pcM(x y:Int):Nat->Int
 | 0=>0
 |k+1=>pcM x y k+(if x≠y/\(ps.getD k (0,0)).1=x then tpM ps y k*(ps.getD k (0,0)).2 else 0)
noncomputable def Te(n:Nat):Ye->Int
 |[]=>0
 |a::r=>(r.map λb=>pcM ps a b n).sum+Te n r
noncomputable def PV(n:Nat)(h:Int):Ye->Int
 |[]=>0
 |a::r=>if a=h then(r.map λb=>tpM ps b n).sum else PV n h r
noncomputable def rsM(os:Ye)(h:Int):Nat->Int
 | 0=>0
 |j+1=>rsM os h j+(if os.idxOf h<os.idxOf (ps.getD j (0,0)).1 then(ps.getD j (0,0)).2 else 0)
noncomputable def Tg(os:Ye):Nat->Int
 | 0=>0
 |k+1=>Tg os k+rsM ps os (ps.getD k (0,0)).1 k*(ps.getD k (0,0)).2
end
def Ik{r:Ye}(h:a≠b):(a::r).idxOf b=r.idxOf b+1:=by grind
def Ow(f g:Int->Int)(l:Ye):(l.map λb=>f b+g b).sum=(l.map f).sum+(l.map g).sum:=by
 induction l with
 |nil=>rfl
 |cons b r h=>grind
def Fc{f g:Int->Int}{l:Ye}(h:∀b∈l,f b=g b):(l.map f).sum=(l.map g).sum:=by
 rw[Vc h]
def GL(l:Ye):(l.map λ_=>(0:Int)).sum=0:=by
 induction l with
 |nil=>rfl
 |cons b r f=>grind
def Zhs(f:Int->Int)(w:Int)(l:Ye):(l.map λb=>f b*w).sum=(l.map f).sum*w:=by
 induction l with
 |nil=>simp
 |cons b r g=>grind
def Zma{l:Ye}(h:Int)(w:Int)(f:l.Nodup):(l.map λb=>if h=b then w else 0).sum=if h∈l then w else 0:=by
 induction l with
 |nil=>rfl
 |cons b r g=>grind
section
variable {ps:Yd}
theorem Ox:∀{os:Ye},(ps.getD n (0,0)).1∉os->Te ps (n+1) os=Te ps n os
 |[],_=>rfl
 |a::r,h=>by
  have f:(ps.getD n (0,0)).1≠a:=λz=>h (by grind);simp only[Te];rw[Ox (λz=>h (Qf _ z))];congr 1;apply Fc;simp only[pcM];lia
theorem Mw:∀{os:Ye},os.Nodup->(ps.getD n (0,0)).1∈os->Te ps (n+1) os=Te ps n os+PV ps n (ps.getD n (0,0)).1 os*(ps.getD n (0,0)).2
 |[],_,h=>by cases h
 |a::r,p,h=>by
  obtain⟨g,o⟩:=Q7.mp p;simp only[Te,PV];by_cases e:a=(ps.getD n (0,0)).1
  ·rw[WO e];have f:(ps.getD n (0,0)).1∉r:=by rw[←e];exact g
   rw[Ox f,←Zhs]
   have l:(r.map λb=>pcM ps a b (n+1)).sum=(r.map λb=>pcM ps a b n+tpM ps b n*(ps.getD n (0,0)).2).sum:=by
    apply Fc;intro b s;simp only[pcM];rw[WO ⟨λz=>g (by rw[z];exact s),e.symm⟩]
   rw[l,Ow];lia
  ·rw[WM e];have f:(ps.getD n (0,0)).1∈r:=by grind
   rw[Mw o f]
   have l:(r.map λb=>pcM ps a b (n+1)).sum=(r.map λb=>pcM ps a b n).sum:=by
    apply Fc;simp only[pcM];lia
   lia
theorem R3:∀{os:Ye},(ps.getD n (0,0)).1∉os->PV ps (n+1) h os=PV ps n h os
 |[],_=>rfl
 |a::r,f=>by
  simp only[PV];rw[R3 (λz=>f (Qf _ z))]
  have g:(r.map λb=>tpM ps b (n+1)).sum=(r.map λb=>tpM ps b n).sum:=by
   apply Fc;simp only[tpM]
   grind
  lia
theorem Zak{h}:∀{os:Ye},os.Nodup->h∈os->(ps.getD n (0,0)).1∈os->
  PV ps (n+1) h os=PV ps n h os+(if os.idxOf h<os.idxOf (ps.getD n (0,0)).1 then(ps.getD n (0,0)).2 else 0)
 |[],_,v,_=>by cases v
 |a::r,C,v,A=>by
  obtain⟨y,x⟩:=Q7.mp C;generalize o:(ps.getD n (0,0)).1=g at A ⊢;generalize B:(ps.getD n (0,0)).2=w at ⊢;simp only[PV];by_cases e:a=h
  ·subst e;rw[WO rfl,WO rfl]
   have H:(r.map λb=>tpM ps b (n+1)).sum=(r.map λb=>tpM ps b n+(if g=b then w else 0)).sum:=by
    apply Fc;intro b _;simp only[tpM];rw[o,B]
   rw[H,Ow,Zma g w x];have u:(a::r).idxOf a=0:=by simp
   by_cases l:g=a
   ·subst l;rw[u,WM y,WM (by lia)]
   ·grind
  ·rw[WM e,WM e]
   have E:h∈r:=by
    rcases WU.mp v with z|z
    ·exact absurd z.symm e
    ·exact z
   have s:(a::r).idxOf h=r.idxOf h+1:=Ik e;by_cases l:g=a
   ·subst l;have u:(g::r).idxOf g=0:=by simp
    rw[R3 (by rw[o];exact y),u,WM (by lia)];lia
   ·have G:g∈r:=by
     rcases WU.mp A with z|z
     ·exact absurd z l
     ·exact z
    have p:(a::r).idxOf g=r.idxOf g+1:=Ik (Ne.symm l);rw[Zak x E (by rw[o];exact G),o,B,s,p];by_cases f:r.idxOf h<r.idxOf g
    ·rw[WO f,WO (by lia)]
    ·rw[WM f,WM (by lia)]
theorem RX{os h}(f:os.Nodup)(o:h∈os):∀n,(∀j,j<n->(ps.getD j (0,0)).1∈os)->PV ps n h os=rsM ps os h n
 | 0,_=>by
  have:∀l,PV ps 0 h l=0:=by
   intro l
   induction l with
   |nil=>rfl
   |cons a r p=>
    simp only[PV,tpM];rw[GL,p];simp
  rw[this];rfl
 |n+1,g=>by
  rw[Zak f o (g n<|by simp),RX f o n λj s=>g j (by lia)];rfl
theorem Rj{os}(g:os.Nodup):∀n,(∀j,j<n->(ps.getD j (0,0)).1∈os)->Te ps n os=Tg ps os n
 | 0,_=>by
  have:∀l,Te ps 0 l=0:=by
   intro l
   induction l with
   |nil=>rfl
   |cons a r h=>
    simp only[Te,pcM];rw[GL,h];rfl
  rw[this];rfl
 |n+1,f=>by
  rw[Mw g (f n<|by simp),Rj g n (λj o=>f j (by lia)),RX g (f n<|by simp) n λj o=>f j (by lia)];rfl
end
end M
namespace ExcR
open PySem PySem.Spec PyProof.Rows L2
structure KN (fs ex:List Addr) (h h':Heap):Prop where
 keep:∀b o,h.get? b=some o->b∉fs->b∉ex->h'.get? b=some o
 slot:∀b o,h.get? b=some o->b∉ex->∃sl,h'.get? b=some {o with slots:=sl}
 size:h.objs.size<=h'.objs.size
def KN.trans (a:KN fs ex l h) (b:KN fs ex h g):KN fs ex l g:=
 ⟨λc o e n m=>b.keep c o (a.keep c o e n m) n m,λc o e m=>by
  obtain⟨s,r⟩:=a.slot c o e m;obtain⟨f,p⟩:=b.slot c _ r m;exact⟨f,p⟩,WV a.size b.size⟩
def KN.mono {fs f ex g}{l h} (a:KN fs ex l h) (p:∀b∈fs,b∈f) (hx:∀b∈ex,b∈g):KN f g l h:=
 ⟨λc o e n m=>a.keep c o e (λz=>n (p c z)) (λz=>m (hx c z)),λc o e m=>a.slot c o e λz=>m (hx c z),a.size⟩
def Zic(o:Obj)(f):(o.mapFields f).dict=o.dict:=by
 obtain⟨c,d,g,sl⟩:=o;cases g<;>rfl
structure Trc (h:Heap) (e T:Addr) (cls:Value×Yp) (fl:Value):Prop where
 ne:T≠e
 exc:∃oe vs,h.get? e=some oe/\(oe.cls,oe.dict)=cls/\oe.data=.fields vs/\vs[1]?=some (.ref T)
 ent:∃oT ts,h.get? T=some oT/\oT.data=.fields ts/\ts[3]?=some fl
section
variable {M:Model}{A:Around}{E:Yh}{s:Shared}{base:Heap}{env:Env}{outer:List Env}{L e:Addr}
def M0{hadNext Q}(B:A.frames=some (env::outer))(N:s.heap.FunFrames base (env::outer))(hf:env.frame=some L)(U:s.heap.get? e=some v)(hd:v.data=.fields vs)(hsz:1<vs.size)(h:∀G T,s.heap.objs.size<=T->Trc G e T (v.cls,v.dict) (rawInt L)->KN (frs (env::outer)) [e] s.heap G->Q () {s with heap:=G}) :
  wpAny M A (do let a ←frameOf env;let u ←entryPlaceOf L hadNext;let b ←EntryCells.newEntry head a .none (rawInt L) .none u;setField (.ref e) 1 b) Q E s:=by
 have n:e∉frs (env::outer):=λhm=>by
  obtain⟨_,o,J,y⟩:=N.mem hm;rw[U]at J;cases J
  exact y vs hd
 refine WE (wpAny_frameOf_fun B N hf λC g=>WE (wpAny_entryPlaceOf λu x=>?_));refine WE (QB ?_<|x.sizeOk5 _ _ _ _ _);have r:=(g.2.1 e n).trans U;generalize Y:({cls:=.type "traceback",dict:=none,data:=.fields ([head,.ref L,.none,rawInt L,.none]++(if u.isEmpty then List.replicate 6 Value.none else u)).toArray}:Obj)=H;have p:=WL H r;refine Ve p hd hsz (h _ C.objs.size (Vh g.1.symm) ?_ ?_)
 ·have l:=JW (WW r);have d3:=QJ hd (·.setIfInBounds 1 (Value.ref C.objs.size));refine⟨l,⟨_,_,Q5 _ p (Vf d3),by rw[Jp,Zic],d3,by simp[hsz]⟩,H,_,?_,by rw[←Y],?_⟩
  ·exact(QD _ _<|Ne.symm l).trans (WX C<|by rw[←Y];rfl)
  ·rfl
 ·refine⟨λb o q nb w=>?_,λb o q w=>?_,?_⟩
  ·have f:b≠e:=λz=>w (by simp[z]);rw[QD _ _ (Ne.symm f)];exact WL _ ((g.2.1 b nb).trans q)
  ·have f:b≠e:=λz=>w (by simp[z]);obtain⟨sl,q1⟩:=g.2.2 b o q;exact⟨sl,by rw[QD _ _ (Ne.symm f)];exact WL _ q1⟩
  ·rw[Heap.size_update,Vo,g.1];exact VJ _
def Zkz(g:A.frames=some (env::outer))(r:s.heap.FunFrames base (env::outer))(n:env.frame=some L)(o:s.heap.get? e=some f)(hd:f.data=.fields vs)(p:vs[1]?=some .none)(h:∀l T,s.heap.objs.size<=T->Trc l e T (f.cls,f.dict) (rawInt L)->KN (frs (env::outer)) [e] s.heap l->Q () {s with heap:=l}):wpAny M A (noteFrame (.ref e) env) Q E s:=by
 unfold noteFrame;simp only[n];refine WE (JN o hd p ?_);exact M0 g r n o hd (VW.mp p).1 h
def GW(x:Trc s.heap e T cls Y)(h:∀g,Trc g e T cls .none->KN [] [T] s.heap g->Q () {s with heap:=g}) :
  wpAny M A (setField (.ref T) 3 .none) Q E s:=by
 obtain⟨n,⟨w,v,J,H,G,C⟩,U,N,r,p,y⟩:=x;have u:=(VW.mp y).1;refine Ve r p u (h _ ?_ ?_)
 ·have d3:=QJ p (·.setIfInBounds 3 Value.none);exact⟨n,⟨w,v,(QD _ _ n).trans J,H,G,C⟩,_,_,Q5 _ r (Vf d3),d3,by simp[u]⟩
 ·have l:∀b,b≠T->(s.heap.update T<|Obj.mapFields (·.setIfInBounds 3 Value.none)).get? b=s.heap.get? b:=λb B=>QD _ _ (Ne.symm B);exact⟨λb o q _ f=>(l b λz=>f (by grind)).trans q,λb o q f=>⟨o.slots,(l b λz=>f (by grind)).trans q⟩,Vh (Heap.size_update ..).symm⟩
def Rq(n:A.frames=some (env::outer))(hl:s.heap.FunFrames base (env::outer))(y:env.frame=some L)(x:Trc s.heap e T cls .none)(h:∀r f,s.heap.objs.size<=f->Trc r e f cls (rawInt L)->KN (frs (env::outer)) [e,T] s.heap r->Q () {s with heap:=r}):wpAny M A (noteFrame (.ref e) env) Q E s:=by
 obtain⟨ne,⟨oe,vs,g1,g2,g3,g4⟩,oT,G,w,v,Y⟩:=id x;unfold noteFrame;simp only[y];refine WE (JN g1 g3 g4 ?_);refine WE (JN w v Y ?_);refine WE (GW x λh1 B u=>?_)
 have l:=hl.of_keeps λb o q g=>⟨o,u.keep b o q (by simp) (λz=>by
  rw[WJ.mp z,w]at q;cases q
  exact g G v),rfl⟩
 obtain⟨_,⟨U,C,N,p2,J,H⟩,_⟩:=id B;refine M0 n l y N J (VW.mp H).1 λh2 f p x2 K2=>h h2 f (WV u.size p) (by grind) ?_;exact(u.mono (by simp)<|by simp).trans (K2.mono (λ_ z=>z)<|by simp)
def Aq(x:Trc s.heap e T cls v)(h:∀f,Trc f e T cls .none->KN [] [T] s.heap f->Q () {s with heap:=f}) :
  wpAny M A (setFlight (.ref e) none) Q E s:=by
 obtain⟨r,⟨p,o,n,u,l,g⟩,_⟩:=id x;refine WE (JN n l g ?_);exact GW x h
def Zor(l:A.frames=some (env::outer))(y:s.heap.FunFrames base (env::outer))(B:env.frame=some L)(C:s.heap.get? e=some f)(hd:f.data=.fields vs)(H:vs[1]?=some .none)(h:∀p T,s.heap.objs.size<=T->Trc p e T (f.cls,f.dict) .none->KN (frs (env::outer)) [e] s.heap p->Q () {s with heap:=p}):wpAny M A (leaving env<|.ref e) Q E s:=by
 unfold leaving;refine WE (Zkz l y B C hd H λJ T n x K=>Aq x λG u r=>h G T n u ?_);refine⟨λb o q w g=>r.keep b o (K.keep b o q w g) (by simp) (λz=>?_),λb o q g=>?_,WV K.size r.size⟩
 ·rw[WJ.mp z]at q;exact absurd (WW q) (JD.mpr n)
 ·obtain⟨sl,v⟩:=K.slot b o q g;exact⟨sl,r.keep b _ v (by simp) (λz=>by rw[WJ.mp z]at q;exact absurd (WW q) (JD.mpr n))⟩
def Zo2(l:A.frames=some (env::outer))(B:s.heap.FunFrames base (env::outer))(C:env.frame=some L)(x:Trc s.heap e T cls .none)(h:∀p f,s.heap.objs.size<=f->Trc p e f cls .none->KN (frs (env::outer)) [e,T] s.heap p->Q () {s with heap:=p}):wpAny M A (leaving env<|.ref e) Q E s:=by
 refine WE (Rq l B C x λH f n v K=>Aq v λG u r=>h G f n u ?_);refine⟨λb o q y g=>r.keep b o (K.keep b o q y g) (by simp) (λz=>?_),λb o q g=>?_,WV K.size r.size⟩
 ·rw[WJ.mp z]at q;exact absurd (WW q) (JD.mpr n)
 ·obtain⟨sl,w⟩:=K.slot b o q g;exact⟨sl,r.keep b _ w (by simp) (λz=>by rw[WJ.mp z]at q;exact absurd (WW q) (JD.mpr n))⟩
end
section
variable {P:Program}{w:World}{H H':Hp}{h h':Heap}{a:Addr}{o:HO}{fs ex:List Addr}
def has(x:ObjOk P w H h a o):∃u,h.get? a=some u:=by
 cases o with
 |lst xs=>exact let ⟨_,_,_,_,e⟩:=x;⟨_,e⟩
 |tup xs=>exact let ⟨_,_,_,u,e,_⟩:=x;⟨u,e⟩
 |dK f|dT f=>exact let ⟨_,_,_,_,u,_,_,e,_⟩:=x;⟨u,e⟩
 |set S n=>exact let ⟨u,_,_,_,e,_⟩:=x;⟨u,e⟩
 |ins C r fs=>exact let ⟨_,_,_,e,_⟩:=x;⟨_,e⟩
 |own y=>exact x
 |xd fs=>exact let ⟨_,⟨u,_,_,e,_⟩,_⟩:=x;⟨u,e⟩
 |rng lo p=>exact let ⟨_,_,_,e⟩:=x;⟨_,e⟩
 |frz l u=>exact⟨_,x.1⟩
 |ext g=>exact x.2.1
 |_=>exact⟨_,x⟩
def A0(ok:HOk P w H h)(e:h.get? a=none):H a=none:=by
 cases q:H a with
 |none=>rfl
 |some o=>
  obtain⟨u,z⟩:=has (ok a o q)
  grind
def Bt(ok:HOk P w H h)(k:KN fs ex h h')(g:∀b∈fs,H b=none)(hx:∀b∈ex,H b=none):HOk P w H h':=λa o e=>by
 refine(ok a o e).stay (λb u l q=>?_) (λ_ q=>q) (λ_ _ q=>q);have f:H b≠none:=by grind
 exact k.keep b u q (λz=>f (g b z)) λz=>f (hx b z)
end
structure XAt (P:Program) (w:World) (outer:List Env) (H H':Hp) (s s':Shared) (a T C:Addr) (dx:Yp):Prop where
 os:s'.os=s.os
 bare:AllBare s'.gens
 un:Un (frs outer) [] H H' s.heap s'.heap
 hok:HOk P w H' s'.heap
 na:s.heap.get? a=none
 nT:s.heap.get? T=none
 fa:H' a=none
 fT:H' T=none
 tr:Trc s'.heap a T (.ref C,dx) .none
noncomputable def CXe(P:Program)(w:World):CXT:=λouter H s E e h=>∃a T C f g,e=.ref a/\XAt P w outer H g s h a T C f/\E (.ref C) f g
section
variable {X:Cx}{pins:Yf}{σ:L2.St}{H H':Hp}{s s':Shared}{a T C:Addr}{dx:Yp}
def Md(I:Inv X pins σ H s)(hex:X.ex=[])(k:KN (frs X.stack) ex s.heap v)(hx:∀b∈ex,X.s₀.heap.get? b=none):Un X.fs [] X.H₀ H X.s₀.heap v:=by
 have B:=I.base;rw[hex]at B;have f:∀b o,X.s₀.heap.get? b=some o->b∉ex:=λb o q z=>by rw[hx b z]at q;cases q
 have r:∀b o,X.s₀.heap.get? b=some o->b∉X.fs->b∉frs X.stack:=λb o q nf z=>by
  rcases WU.mp (I.stkSub b z)with e|e
  ·have x:=WW q;have w:=I.ok.above
   grind
  ·exact nf e
 refine⟨λb o q n nf g=>k.keep b o (B.keep b o q n nf g) (r b o q nf) (f b o q),λb o q n u g=>?_,λb o q n g=>B.free b o q n g,λb o q g=>?_,B.tups,B.frzs,B.tbls⟩
 ·obtain⟨sl,l⟩:=B.slot b o q n u g;obtain⟨h,p⟩:=k.slot b _ l (f b o q)
  grind
 ·obtain⟨o1,l⟩:=B.there b o q g;obtain⟨h,p⟩:=k.slot b _ l (f b o q);exact⟨_,p⟩
def BU(I:Inv X pins σ H s)(hex:X.ex=[])(e:s.heap.get? b=none):X.s₀.heap.get? b=none:=by
 cases q:X.s₀.heap.get? b with
 |none=>rfl
 |some o=>
  obtain⟨u,z⟩:=I.base.there b o q (by grind)
  grind
variable {E:Yh}
def Zen(I:Inv X pins σ H s)(hex:X.ex=[])(g:X.stack=X.env::X.outer)(l:X.env.frame=some X.env.locals)(x:XAt X.prog X.w X.stack H H' s s' a T C dx) :
  wpAny (model X.prog X.w) X.A (leaving X.env<|.ref a) (λ_ u=>∃n,XAt X.prog X.w X.outer X.H₀ H' X.s₀ u a n C dx) E s':=by
 have J:=I.call' x.os x.un x.hok x.bare λb z=>absurd z (by simp);have o:=J.stack;have p:=J.ok.frames;rw[g]at o p;refine Zo2 p o l x.tr λv n h r k=>⟨n,J.os,J.bare,?_,?_,BU I hex x.na,?_,x.fa,x.hok.fresh h,r⟩
 ·exact Md J hex (by rw[g];exact k) λb f=>by
   rcases WU.mp f with rfl|f
   ·exact BU I hex x.na
   ·rw[WJ.mp f];exact BU I hex x.nT
 ·refine Bt x.hok k (λb f=>J.stkFree b (by grind)) λb f=>?_;rcases WU.mp f with rfl|f
  ·exact x.fa
  ·rw[WJ.mp f];exact x.fT
 ·exact V5 (WV J.sz h)
def Hh(J:Inv X pins σ H s)(hex:X.ex=[])(f:X.stack=X.env::X.outer)(n:X.env.frame=some X.env.locals)(r:X.s₀.heap.get? a=none)(x:H a=none)(B:s.heap.get? a=some l)(G:l.cls=.ref C)(o:l.dict=dx)(hd:l.data=.fields vs)(L:vs[1]?=some .none) :
  wpAny (model X.prog X.w) X.A (leaving X.env<|.ref a) (λ_ z=>∃p,XAt X.prog X.w X.outer X.H₀ H X.s₀ z a p C dx) E s:=by
 have u:=J.stack;have v:=J.ok.frames;rw[f]at u v;refine Zor v u n B hd L λM p g y k=>⟨p,J.os,J.bare,?_,?_,r,?_,x,J.hok.fresh g,by rw[←G,←o];exact y⟩
 ·exact Md J hex (by rw[f];exact k) λb h=>by rw[WJ.mp h];exact r
 ·exact Bt J.hok k (λb h=>J.stkFree b (by grind)) λb h=>by rw[WJ.mp h];exact x
 ·exact V5 (WV J.sz g)
def Zpx{f vs}(I:Inv X pins σ H s)(hex:X.ex=[])(g:X.stack=X.env::X.outer)(h:X.env.frame=some X.env.locals)(keeps:∀b o,s.heap.get? b=some o->n.get? b=some o)(new:s.heap.get? a=none)(r:n.get? a=some f)(u:f.cls=.ref C)(l:f.dict=dx)(hd:f.data=.fields vs)(v:vs[1]?=some .none) :
  wpAny (model X.prog X.w) X.A (leaving X.env<|.ref a) (λ_ p=>∃x,XAt X.prog X.w X.outer X.H₀ H X.s₀ p a x C dx) E {s with heap:=n}:=
 Hh (s:={s with heap:=n}) (I.call' (ch:=[]) rfl (Un.kept keeps) (I.hok.kept keeps) I.bare λb z=>absurd z (by simp)) hex g h (BU I hex new) (A0 I.hok new) r u l hd v
end
structure FK (K:Yc) (C:Addr):Prop where
 q:PySem.W.excIn K C [.type "ValueError",.type "Exception",.type "BaseException",.type "object"] "ValueError.__new__"=true
def FK.obj {K C h} (c:FK K C) (k:K.In h):∃f N nm q bs hdct sn sub ab col dd k0 k1 k2 k3 k5 p,h.get? C=some (excClassObj nm q C N bs f hdct sn sub ab col dd k0 k1 k2 k3 k5 "ValueError.__new__")/\h.Ns N p/\p "__init__"=none/\
  OwnTail h [.type "ValueError",.type "Exception",.type "BaseException",.type "object"] f:=by
 have e:=c.q;unfold PySem.W.excIn at e;split at e
 next dd J sl A=>
  split at e
  next L f k0 k1 k2 k3 n k5 s r=>
   simp only[Q2,beq_iff_eq,Bool.not_eq_true']at e;obtain⟨⟨⟨⟨⟨G,E⟩,w⟩,B⟩,o⟩,v⟩:=e;subst G E;have u:=k _ _ A;cases J with
   |mk nm bs z y x hd sn sub ab col H=>
    simp only at s w o v
    have g:sl=#[k0,k1,k2,k3,some (.builtin "ValueError.__new__"),k5]:=by
     cases sl with
     |mk l=>simp only at r;rw[r]
    rw[s,w,g]at u;exact⟨f,y,nm,x,bs,hd,sn,sub,ab,col,dd,k0,k1,k2,k3,k5,_,u,.of_isNs (JS k o),PySem.W.nsMap_none_of_in k o v,PySem.W.tail_of_in k B⟩
  next=>cases e
 next=>cases e
abbrev TF:=L2.St->Hp->Str->(Str->Hp->Prop)->Prop
def PF(X:Cx)(es:Ym)(t:TF):Prop:=
 ∀(pins:Yf) (s:Shared) (g:L2.St) (H:Hp) (f:Str) (Q:Str->Hp->Prop),Inv X pins g H s->t g H f Q->
  wpAny (model X.prog X.w) X.A (joinParts f<|evalEach es X.env) (λu l=>∃x h,Inv X pins g h l/\RelV (.str x) u/\Q x h) X.xe s
section
variable {X:Cx}{e e1 e2:Expr}{es:Ym}{t:TF}{tv:TE}{pos:Pos}
noncomputable def Zac:TF:=λ_ H f Q=>f.length<=sizeLine/\Q f H
noncomputable def GN(x:Str)(t:TF):TF:=λg H f Q=>(f++x).length<=sizeLine/\t g H (f++x) Q
noncomputable def L5(tv:TE)(t:TF):TF:=λg H f Q=>tv g H λv h=>(∃i:Int,v=.int i/\i.natAbs.log2<1920/\(f++(Str.ofString<|toString i)).length<=sizeLine/\t g h (f++Str.ofString (toString i)) Q)\/
 ∃x:Str,v=.str x/\x.length<=sizeLine/\(f++x).length<=sizeLine/\t g h (f++x) Q
def NC:PF X [] Zac:=λpins s g H f Q I h=>joinParts_nilE (joinParts_nil ⟨f,H,I.tok _,⟨_,rfl⟩,h.2⟩ h.1)
def PL(h:PF X es t):PF X (.Constant (.str x) j pos::es) (GN x t):=λpins s f H g Q I q=>
 joinParts_consE (joinParts_cons<|Calls.Constant_str ⟨q.1,h pins _ f H _ Q (I.tok _) q.2⟩)
def NU(A:PE X e tv)(h:PF X es t):PF X (.FormattedValue e (-1) none pos::es) (L5 tv t):=λpins s f H z Q I q=>by
 refine joinParts_consE (joinParts_cons<|FormattedValue_plain<|thn (A pins s f H _ I q) ?_);rintro u E ⟨v,o,n,r,y⟩;rcases y with⟨i,rfl,B,l,g⟩|⟨x,rfl,hx,l,g⟩
 ·obtain⟨w,rfl⟩:=r;exact formatField_int_small B ⟨l,h pins _ f o _ Q (n.tok _) g⟩
 ·obtain⟨w,rfl⟩:=r;exact formatField_str (λC p=>⟨l,h pins _ f o _ Q (n.tok _) g⟩) hx
noncomputable def tF(t:TF):TE:=λf H Q=>t f H Str.empty λx g=>Q (.str x) g
def NN(h:PF X (e1::e2::es) t):PE X (.JoinedStr (e1::e2::es) pos) (tF t):=λpins s f H Q I q=>
 JoinedStr_many (thn (h pins s f H _ _ I q) λu o ⟨x,n,l,r,g⟩=>⟨.str x,n,l,r,g⟩)
end
def AB(X:Cx)(E:XK):Prop:=∀(pins:Yf) (g:L2.St) (H:Hp) (s:Shared) (C a:Addr) (f:Heap) (args:Yk),Inv X pins g H s->Heap.MadeExcOf s.heap f a (.ref C) args->E (.ref C) none H->X.xe (.ref a) {s with heap:=f}
noncomputable def HJ(C:Addr)(E:XK)(t:TA):TS:=λ_ f H=>t f H λg h=>g.length<=sizeLine/\E (.ref C) none h
section
variable {X:Cx}{x:Str}{C:Addr}{E:XK}{e:Expr}{es:Ym}{t:TA}{p cpos pos:Pos}
def Zp3(c:FK X.K C)(L:X.mg x=some (.ref C))(U:AB X E)(Q:X.calm=true)(T:PA X (e::es) t)(M:autoParam (Gl X x) au_0)(r:autoParam ((x==("__debug__" : Str))=false) au_1)(v:autoParam (starEach (e::es) X.env=(false,eval e X.env)::starEach es X.env) au_0)(l:autoParam ((backTo cpos<|starEach es X.env).any (·.1)=false) au_0):PS X (.Raise (some<|.Call (.Name x p) (e::es) [] cpos) none pos) (HJ C E t):=by
 intro pins s u H D I h;obtain⟨bm,N,nm,q,bs,hdct,sn,sub,ab,col,dd,k0,k1,k2,k3,k5,mN,hC,Y,n,w⟩:=c.obj I.ok.mod.kin
 have f:(backTo cpos<|starEach (e::es) X.env).any (·.1)=false:=by
  rw[v];show(false || (backTo cpos<|starEach es X.env).any (·.1))=false;rw[l];rfl
 refine wpAny_Raise_call_subU (nm:=nm) (q:=q) (N:=N) (bs:=bs) (hdct:=hdct) (sn:=sn) (sub:=sub) (ab:=ab) (col:=col) (dd:=dd) (k0:=k0) (k1:=k1) (k2:=k2) (k3:=k3) (k5:=k5)
  V1 (by decide +kernel) V1 (w.hasType<|by decide +kernel) (I.ok.hd Q) f n (Sz I M L ⟨rfl,?_⟩ r)
 have y:=T cpos pins s u H _ I h;rw[v]at y ⊢;refine JB (thn y ?_);rintro z A ⟨vs,H2,g,B,J,G⟩;refine⟨rfl,by rw[←B.length];exact J,g.bk _ _ hC,Y.keeps g.bk,w.keeps g.bk,λh' a o=>?_⟩;exact U pins u H2 A C a h' z g o G
end
section
variable {P:Program}{w:World}{K:Yc}{mg:Yg}{base:Heap}{N ps:Yl}{qual x:Str}{scope:Scope}{f:Addr}{cd:Value}{A:Around}{outer:List Env}{s:Shared}{H:Hp}{E:XK}
def KI:AB (Kf (CXe P w) P w K mg base N qual scope f cd A outer s H E) E:=by
 intro pins n l p C a r args I m q;obtain⟨t,g,_,_⟩:=m.there;exact Qz (Zpx I rfl rfl rfl m.keeps m.new g rfl rfl rfl rfl) (λ_ o ⟨h,y⟩=>⟨a,h,C,none,l,rfl,y,q⟩) λ_ _ z=>z
def XQ:Pz (CXe P w) (Kf (CXe P w) P w K mg base N qual scope f cd A outer s H E) E:=by
 rintro pins n u r e p I ⟨a,T,C,g,l,rfl,y,q⟩;exact Qz (Zen I rfl rfl rfl y) (λ_ o ⟨h,z⟩=>⟨a,h,C,g,l,rfl,z,q⟩) λ_ _ z=>z
def EK:PassesOwn (model P w) (Kf (CXe P w) P w K mg base N qual scope f cd A outer s H E).A (Kf (CXe P w) P w K mg base N qual scope f cd A outer s H E).env (Kf (CXe P w) P w K mg base N qual scope f cd A outer s H E).xe:=PassesOwn.leaving
def Def.okX {st k sp} (D:Own.Def K mg x st ps) (S:Xr N ps (Xq st)) (len:∀vs H Q E,sp vs H Q E->vs.length=ps.length)
  (h:∀f g A outer s H vs Q E,Xz k (A.deeper<|envOfC x (Xq st) s.heap.objs.size f g)->sp vs H Q E->
   ∃t,PSs (Kf (CXe P w) P w K mg base N x (Xq st) f g A outer s H E) (XU st) t/\t {nx:=λ_ H'=>Q .non H',rt:=Q} (start N vs) H):Own.Callee P w K mg base (CXe P w) (k+1) x ps sp:=by
 obtain⟨f,C,F,u,v⟩:=D.ex;obtain⟨oc,B,kV,y,z,J,g,G,p,rfl,o,n⟩:=F.ex;exact⟨f,_,DO o n S len λA outer s H vs Q E r l=>h f g A outer s H vs Q E r l,u,F.kp,⟨_,o,rfl⟩,v⟩
end
end ExcR
namespace ExcR
open PySem PySem.Spec PyProof.Rows L2
open Sem (wp)
structure Ks (K:Yc) (C:Addr):Prop where
 c:FK K C
 ga:PySem.W.findIn K (.ref C) "__getattribute__"=some (some<|.builtin "BaseException.__getattribute__")
 gt:PySem.W.findIn K (.ref C) "__getattr__"=some none
 cl:PySem.W.findIn K (.ref C) "__class__"=some (some<|.builtin "object.__class__")
 is:(PySem.W.clsIn K C).isSome=true
structure PP (K:Yc) (C:Addr):Prop where
 obj:∀{h:Heap},K.In h->∃bm N nm q bs hdct sn sub ab col dd k0 k1 k2 k3 k5,h.get? C=some (excClassObj nm q C N bs bm hdct sn sub ab col dd k0 k1 k2 k3 k5 "ValueError.__new__")/\OwnTail h [.type "ValueError",.type "Exception",.type "BaseException",.type "object"] bm
 ga:PySem.W.findIn K (.ref C) "__getattribute__"=some (some<|.builtin "BaseException.__getattribute__")
 gt:PySem.W.findIn K (.ref C) "__getattr__"=some none
 cl:PySem.W.findIn K (.ref C) "__class__"=some (some<|.builtin "object.__class__")
 is:(PySem.W.clsIn K C).isSome=true
def Ks.any {K:Yc}{C:Addr} (G:Ks K C):PP K C:=
 ⟨λk=>by
  obtain⟨y,N,l,q,bs,f,h,sub,z,g,x,s,r,p,o,n,A,w,B,u,v⟩:=G.c.obj k;exact⟨y,N,l,q,bs,f,h,sub,z,g,x,s,r,p,o,n,w,v⟩,G.ga,G.gt,G.cl,G.is⟩
section
variable {prog:Program}{w:World}{A:Around}{E:Yh}{h:Heap}{g:Array GenState}{d:Drawn}{t:Nat}{os:OsState}{a C:Addr}{o:Obj}{K:Yc}
def Zoq{R:Result->Shared->Prop}(k:K.In h)(G:PP K C)(hx:h.get? a=some o)(p:o.cls=.ref C)(hq:R (.ok<|.ret<|.ref C) ⟨h,g,d,t,os⟩) :
  codeAny (model prog w) A (.call (.builtin "getset_descriptor.__get__") ⟨[.builtin "object.__class__",.ref a,.ref C],[]⟩) R ⟨h,g,d,t,os⟩:=by
 obtain⟨v,N,y,q,bs,n,x,sub,Q,u,M,L,J,H,B,z,s,r⟩:=G.obj k;have f:(⟨h,g,d,t,os⟩:Shared).TypeIs (.builtin "object.__class__") "getset_descriptor":=J0
 have l:(Value.ref C::v).contains (.type (".".intercalate ("object.__class__".cutAt '.').dropLast))=true:=by
  rw[F.owner_object_class,VH,r.hasType (b:=true) (by decide +kernel)];rfl
 refine V6 F.slot_gs_get.plain F.entry_gs_get (F.slot_gs_get.check _ _ _ _ _ _ _ _ f (F.args_gs_get _ _ _) ?_)
 repeat (any_goals (first|assumption|(with_reducible refine Q8 hx ?_;rw[p])|(with_reducible refine VD s ?_;rw[l])|wp_step))
 refine⟨Jc _ (by decide +kernel),Vx F.entry_object_class ?_⟩
 repeat (any_goals (first|assumption|(with_reducible refine Q8 hx ?_;rw[p])|wp_step))
def Zmb{l:Tok}{Q:Fin->Shared->Prop}(k:K.In h)(G:PP K C)(hx:h.get? a=some o)(f:o.cls=.ref C)(hq:Q (.done<|.ret<|.ref C) ⟨h,g,d,t,os⟩) :
  wpAny (model prog w) A (Builtin.«object.__getattribute__» ⟨[.ref a,.str "__class__" l],[]⟩) Q E ⟨h,g,d,t,os⟩:=by
 have n:(⟨h,g,d,t,os⟩:Shared).TypeIs (.builtin "object.__class__") "getset_descriptor":=J0;have f1:=J0;have r:=F.slot_gs_get.lookup;have p:=F.slot_gs_set.lookup;have L:=QS (M:=model prog w) k G.cl
 repeat (any_goals (first|assumption|(with_reducible refine Q8 hx ?_;rw[f])|with_reducible refine L.at ?_|wp_step))
 refine Zoq k G hx f ?_
 repeat (any_goals (first|assumption|wp_step))
def Za9{M:Model}{v:Value}{Q:Unit->Shared->Prop}(k:K.In h)(G:PP K C)(hx:h.get? a=some o)(n:o.cls=.ref C)(hq:Q () ⟨h,g,d,t,os⟩) :
  wpAny M A (checkBuiltinCall "BaseException.__getattribute__" ⟨[.ref a,v],[]⟩) Q E ⟨h,g,d,t,os⟩:=by
 obtain⟨y,N,B,q,bs,l,z,sub,ab,x,dd,U,T,L,J,H,r,p⟩:=G.obj k;have f:(Value.ref C::y).contains (.type "BaseException")=true:=by rw[VH,p.hasType (b:=true) (by decide +kernel)];rfl
 have u:builtinKind "BaseException.__getattribute__"=some .slot:=by decide +kernel
 have s:splitId "BaseException.__getattribute__"=some ("BaseException","__getattribute__"):=by decide +kernel
 have Y:=F.args_bexc_ga (.ref a) v;simp only[checkBuiltinCall,u,s];refine WE ?_;unfold isInstance
 repeat (first|(with_reducible refine Q8 hx ?_;rw[n])|(with_reducible refine VD r ?_;rw[f])|wp_step)
 exact hq
def Znh{p:Tok}{Q:Yh}(k:K.In h)(G:PP K C)(hx:h.get? a=some o)(f:o.cls=.ref C)(hq:Q (.ref C) ⟨h,g,d,t,os⟩) :
  wpAny (model prog w) A (getAttrBy (.ref a) (.str "__class__" p) false) Q E ⟨h,g,d,t,os⟩:=by
 obtain⟨Y,N,v,q,bs,l,u,sub,ab,r,U,H,B,z,y,x,T,J⟩:=G.obj k;have f0:=F.attrBase_ValueError.ga.bind (.ref a);have n:(Value.builtin "BaseException.__getattribute__" == Value.builtin "object.__getattribute__")=false:=by decide +kernel
 have s:(onTheHeap (Value.ref C)&&Value.builtin "BaseException.__getattribute__" == Value.builtin "object.__getattribute__")=false:=by rw[n];rfl
 have L:=QS (M:=model prog w) k G.ga;have L2:=QS (M:=model prog w) k G.gt
 repeat (any_goals (first|assumption|(with_reducible refine Q8 hx ?_;rw[f])|with_reducible refine L.at ?_|with_reducible refine L2.at ?_|wp_step))
 refine V6 F.attrBase_ValueError.ga.plain F.entry_bexc_ga (Za9 k G hx f<|Zmb k G hx f ?_)
 repeat (any_goals (first|assumption|wp_step))
def Zmk{Q:Yo->Shared->Prop}(k:K.In h)(G:PP K C)(hx:h.get? a=some o)(f:o.cls=.ref C)(hq:Q (some<|.ref C) ⟨h,g,d,t+1,os⟩) :
  wpAny (model prog w) A (getAttr? (.ref a) "__class__") Q E ⟨h,g,d,t,os⟩:=by
 unfold getAttr? getAttrBy?
 repeat (any_goals (first|assumption|with_reducible apply Znh k G hx f|wp_step))
end
end ExcR
namespace ExcR
open PySem PySem.Spec PyProof.Rows L2
noncomputable def Pf(a C:Addr)(g:Yp):HO:=.ext λh=>∃o,h.get? a=some o/\(o.cls,o.dict)=(.ref C,g)/\∃f,o.data=.fields f
noncomputable abbrev Ak(a C:Addr):HO:=Pf a C none
def Zo7{h a T C g r}(x:Trc h a T (.ref C,g) r):ObjOk P w H h a (Pf a C g):=by
 obtain⟨_,⟨o,l,f,u,s,_⟩,_⟩:=x;exact⟨⟨o,f,u,l,s⟩,⟨o,f⟩,λy v ⟨o1,p,n⟩ k=>⟨o1,k o1 p,n⟩⟩
def Zb2{K M h C}(k:K.In h)(e:(PySem.W.clsIn K C).isSome=true):PySem.W.Looks M h (isType<|.ref C) true:=by
 unfold PySem.W.clsIn at e;split at e
 next g=>
  intro p n o l f q;exact WE (wpAny_loadPart (f _ _<|k _ _ g)<|WK q)
 grind
def Za2{K a C}(G:PP K C):PySem.W.KitX K (.ref a) (.ref C) (λh=>∃o,h.get? a=some o/\o.cls=.ref C) where
 ty:=λM h _ ⟨o,h1,h2⟩=>h2▸(PySem.W.Looks.ld h1).andThen .now
 it:=λM h k _=>Zb2 k G.is
 ne:=λh tp dd its n sl k htp=>by
  refine Jr.mpr λq=>?_;obtain⟨bm,N,nm,q,bs,hdct,sn,sub,ab,col,dd,k0,k1,k2,k3,k5,hC,_⟩:=G.obj k
  grind
 ca:=λ{prog w A E Q s} k ⟨o,h1,h2⟩ q=>by
  exact Zmk k G h1 h2 q
section
variable {X:Cx}
def Zpi:Kl X (.builtin "isinstance") (λxs H Q=>∃a C n c b,xs=[.ref a,c]/\H a=some (Pf a C n)/\PP X.K C/\(∃l,(∀u,RelV c u->u=l)/\PySem.W.kitOne X.K (.ref C) l=some b)/\Q (.bl b) H):=by
 intro pins s E H xs J Q I v h;obtain⟨a,C,n,c,b,rfl,y,G,⟨l,g,e⟩,q⟩:=h;cases v with
 |cons r w=>
  cases w with
  |cons x f=>
   cases f
   obtain rfl:=r;cases g _ x
   obtain⟨⟨o,B,A,_⟩,_⟩:=(I.hok a _ y);exact QH (Za2 G) I.kIn ⟨o,B,(Q4 Prod.fst A)⟩ e (λz=>nomatch z) λp=>⟨.bl b,H,I.tok p,rfl,q⟩
def O9{K}(g:autoParam (X.K=K) au_0):Kl X (.builtin "isinstance") (λxs H Q=>∃a C h c b,xs=[.ref a,c]/\H a=some (Pf a C h)/\PP K C/\(∃f,(∀u,RelV c u->u=f)/\PySem.W.kitOne K (.ref C) f=some b)/\Q (.bl b) H):=by
 subst g;exact Zpi
end
def Do{H H'}{h s r}(u:Un fs [] H H' h s)(k:KN fs ex s r)(hx:∀b∈ex,h.get? b=none):Un fs [] H H' h r:=by
 have f:∀b o,h.get? b=some o->b∉ex:=λb o q z=>by rw[hx b z]at q;cases q
 refine⟨λb o q n nf g=>k.keep b o (u.keep b o q n nf g) nf (f b o q),λb o q n w g=>?_,u.free,λb o q g=>?_,u.tups,u.frzs,u.tbls⟩
 ·obtain⟨sl,p⟩:=u.slot b o q n w g;obtain⟨l,v⟩:=k.slot b _ p (f b o q)
  grind
 ·obtain⟨o1,p⟩:=u.there b o q g;obtain⟨l,v⟩:=k.slot b _ p (f b o q)
  grind
noncomputable def Nj(X:Cx)(a:Addr):Cx:={X with A:=X.A.mark (some<|.ref a),calm:=false,xe:=λ_ _=>False}
noncomputable def NM(X:Cx)(pins:Yf)(D:Ends)(l:ExceptHandler):Cx:=
 {X with pn:=X.pn++pins,xe:=λe h=>wpAny (model X.prog X.w) X.A (noteFrame e X.env) (λ_ g=>wpAny (model X.prog X.w) X.A (setFlight e none) (λ_ f=>wpAny (model X.prog X.w) X.A (handleBy e X.env [l]) (SP X pins D) X.xe f) X.xe g) X.xe h}
section
variable {X:Cx}{pins pins1:Yf}{σ:L2.St}{H H':Hp}{s s':Shared}{a T C:Addr}{D:Ends}{h0:ExceptHandler}
def Zli(o:X.Ok):(Nj X a).Ok:=⟨o.mod,o.kind,o.glob,o.blt,o.above,o.inj,o.has,o.cab,(λz=>nomatch z),o.frames,o.stk,o.exf,o.bs,o.bsz,o.noex,o.exfs,o.funs,o.frf⟩
def On(I:Inv X pins σ H s):Inv (Nj X a) pins σ H s:=⟨Zli I.ok,I.os,I.bare,I.base,I.loc,I.cell,I.free,I.freeC,I.pin,I.hok,I.len⟩
def Zob(o:X.Ok)(I:Inv (Nj X a) pins σ H s):Inv X pins σ H s:=⟨o,I.os,I.bare,I.base,I.loc,I.cell,I.free,I.freeC,I.pin,I.hok,I.len⟩
def Znb(o:X.Ok):(NM X pins D h0).Ok:=⟨o.mod,o.kind,o.glob,o.blt,o.above,o.inj,o.has,o.cab,o.hd,o.frames,o.stk,o.exf,o.bs,o.bsz,o.noex,o.exfs,o.funs,o.frf⟩
def Zl4(o:(NM X pins D h0).Ok):X.Ok:=⟨o.mod,o.kind,o.glob,o.blt,o.above,o.inj,o.has,o.cab,o.hd,o.frames,o.stk,o.exf,o.bs,o.bsz,o.noex,o.exfs,o.funs,o.frf⟩
def Zcp(I:Inv X pins σ H s):Inv (NM X pins D h0) [] σ H s:=⟨Znb I.ok,I.os,I.bare,I.base,I.loc,I.cell,I.free,I.freeC,λp f=>I.pin p (by simpa [NM]using f),I.hok,I.len⟩
def FB(I:Inv (NM X pins D h0) pins1 σ H s):Inv X pins σ H s:=⟨Zl4 I.ok,I.os,I.bare,I.base,I.loc,I.cell,I.free,I.freeC,λp f=>I.pin p (QR _ f),I.hok,I.len⟩
def Zgv{h'}{tk}(I:Inv X pins σ H s)(hN:X.N.Nodup)(hi:X.N[i]?=some n)(hk:X.env.scope.names.lookup n=some .local)(hm:∀(i:Nat) x v,X.N[i]?=some x->σ[i]?=some (some v)->Vis X.env.scope x->∃u,RelV v u/\Look X.env s.heap m x u)(hn:s.heap.Ns X.env.locals m)(h:h'.Ns X.env.locals (λx=>if x=n then v else m x))(hs:Heap.SameBut X.env.locals s.heap h'):Inv X pins (σ.set i none) H {s with heap:=h',toks:=tk}:=by
 have cne:=I.cne;have g:∀{b o},X.s₀.heap.get? b=some o->b≠X.env.locals:=λe=>Qj (Qn (WW e) I.ok.above);refine⟨I.ok,I.os,I.bare,⟨λb o e n l hx=>(hs.2 b<|g e).trans (I.base.keep b o e n l hx),λb o e n l hx=>?_,I.base.free,λb o e hx=>?_,I.base.tups,I.base.frzs,I.base.tbls⟩,⟨_,h,λj y G f B e3=>?_⟩,λy c e=>?_,I.free,I.freeC,λp Y=>?_,λb M e=>?_,by simpa using I.len⟩
 ·obtain⟨sl,f⟩:=I.base.slot b o e n l hx;exact⟨sl,(hs.2 b<|g e).trans f⟩
 ·obtain⟨Q,f⟩:=I.base.there b o e hx;exact⟨Q,(hs.2 b<|g e).trans f⟩
 ·by_cases w:j=i
  ·grind
  ·rw[J7 (Ne.symm w)]at B;obtain⟨J,L,q⟩:=hm j y G f B e3;refine⟨J,L,?_⟩;rcases q with⟨k,e⟩|⟨k,c,e,z⟩
   ·have U:y≠n:=λz=>w (DP hN f (z▸hi));exact .inl ⟨k,by simp[U,e]⟩
   ·exact .inr ⟨k,c,e,z.sameBut hs (cne y c e)⟩
 ·obtain⟨E,z⟩:=I.cell y c e;exact⟨E,z.sameBut hs (cne y c e)⟩
 ·obtain⟨e,n,r,nf,d⟩:=I.pin p Y;exact⟨(hs.2 p.1 r).trans e,n,r,nf,d⟩
 ·refine(I.hok b M e).stay (λc u hc q=>(hs.2 c ?_).trans q) (λ_ q=>q) λ_ _ q=>q;rintro rfl;have A:=I.free;rcases hc with z|z
  ·rw[←z,A]at e;cases e
  ·rw[A]at z;cases z
end
noncomputable def Zo4(i:Nat)(D:Ends):Ends:={nx:=λf H=>D.nx (f.set i none) H,rt:=D.rt,bk:=λf H=>D.bk (f.set i none) H,ct:=λf H=>D.ct (f.set i none) H}
noncomputable def hx(K:Yc)(l:Addr)(i:Nat)(g:TS)(D:Ends):L2.St->XK:=λf c h H=>∃C,c=.ref C/\PySem.W.exmOne K (.ref C) (.ref l)=some true/\
 ∀a,H a=none->g (Zo4 i D) (f.set i<|some<|.ref a) (upd H a<|Pf a C h)
def Ca(CX:CXT)(X:Cx)(E:L2.St->XK):Prop:=∀(pins:Yf) (f:L2.St) (H:Hp) (s:Shared) (e:Value) (g:Shared),Inv X pins f H s->CX X.stack H s (E f) e g->X.xe e g
section
variable {X:Cx}{pins:Yf}{D:Ends}{x n:Str}{np hpos pos:Pos}{b0:Stmt}{suite body:Yn}{C0:Addr}{i:Nat}{ts:TS}
def SG(B:X.stack=X.env::X.outer)(hfr:X.env.frame=some X.env.locals)(hN:X.N.Nodup)(hi:X.N[i]?=some n)(hk:X.env.scope.names.lookup n=some .local)(hg:Gl X x)(hm:X.mg x=some (.ref C0))(hdb:(x==("__debug__" : Str))=false)(hs:∀a,PSs (Nj X a) (b0::suite) ts):Ca (CXe X.prog X.w) (NM X pins D<|.ExceptHandler (some<|.Name x np) (some n) (b0::suite) hpos) (hx X.K C0 i ts D):=by
 rintro pins1 σ H s e s' I ⟨a,T,C,dx,p,rfl,y,C',ec,em,q⟩;obtain rfl:=Value.ref.inj ec;have I:=FB I;have J:=I.call' y.os y.un y.hok y.bare λb z=>absurd z (by simp);have hF:=J.stack;have hA:=J.ok.frames;rw[B]at hF hA;refine Rq hA hF hfr y.tr λh2 T2 Q tr2 k2=>?_
 have M:s.heap.get? T2=none:=by
  cases z:s.heap.get? T2 with
  |none=>rfl
  |some o=>
   obtain⟨o1,z1⟩:=y.un.there T2 o z (by simp);exact absurd (WW z1) (JD.mpr Q)
 have U:=y.hok.fresh Q
 have u2:Un (frs X.stack) [] H p s.heap h2:=Do y.un (by rw[B];exact k2) λb g=>by
  rcases WU.mp g with rfl|g
  ·exact y.na
  ·rw[WJ.mp g];exact y.nT
 have ok2:=Bt y.hok k2 (λb g=>J.stkFree b (by rw[B];exact g)) λb g=>by
  rcases WU.mp g with rfl|g
  ·exact y.fa
  ·rw[WJ.mp g];exact y.fT
 refine Aq tr2 λh3 G k3=>?_;have u3:=Do u2 (k3.mono (by simp) λ_ z=>z) λb g=>by rw[WJ.mp g];exact M
 have L:=Bt ok2 k3 (by simp) λb g=>by rw[WJ.mp g];exact U
 have J3:Inv X pins σ p {s' with heap:=h3}:=I.call' y.os u3 L y.bare λb z=>absurd z (by simp)
 have S3:Inv (Nj X a) pins σ p {s' with heap:=h3}:=On J3
 refine wpAny_handleBy_cons (codeAny_handlers_test<|Sz S3 hg hm ?_ hdb) (by intro z;cases z);obtain⟨_,⟨oe,vs,g1,g2,g3,g4⟩,_⟩:=id G;refine(PySem.W.exm_one J3.kIn ((show oe.cls=Value.ref C from Q4 Prod.fst g2)▸(PySem.W.Looks.ld g1).andThen .now) em).here ?_
 refine codeAny_handlers_suite_as (Aq G λh4 tr4 k4=>?_);have l:=Do u3 (k4.mono (by simp) λ_ z=>z) λb g=>by rw[WJ.mp g];exact M
 have u5:Un (frs X.stack) [] H (upd p a<|Pf a C dx) s.heap h4:=by
  have ne:∀b o,s.heap.get? b=some o->b≠a:=λb o z w=>by rw[w,y.na]at z;cases z
  have r:∀b o,p b=some o->b≠a:=λb o z w=>by rw[w,y.fa]at z;cases z
  refine⟨l.keep,l.slot,λb o z n m=>by rw[Xw (ne b o z)];exact l.free b o z n m,l.there,λb xs z=>?_,λb o u z=>?_,λb ps z=>?_⟩
  ·rw[Xw (r b _<|l.tups b xs z)];exact l.tups b xs z
  ·rw[Xw (r b _<|l.frzs b o u z)];exact l.frzs b o u z
  ·obtain⟨more,z1⟩:=l.tbls b ps z;exact⟨more,by rw[Xw (r b _ z1)];exact z1⟩
 have ok5:HOk X.prog X.w (upd p a<|Pf a C dx) h4:=λb ob e=>by
  by_cases g:b=a
  ·subst g;rw[X9]at e;cases e
   exact Zo7 tr4
  ·rw[Xw g]at e;refine((Bt L k4 (by simp) λb g=>by rw[WJ.mp g];exact U) b ob e).stay (λ_ _ _ z=>z) (λc z=>?_) λc xs z=>?_
   ·rw[Xw λw=>by rw[w,y.fa]at z;cases z];exact z
   ·rw[Xw λw=>by rw[w,y.fa]at z;cases z];exact z
 have J5:Inv X pins σ (upd p a<|Pf a C dx) {s' with heap:=h4}:=I.call' y.os u5 ok5 y.bare λb z=>absurd z (by simp)
 have S5:Inv (Nj X a) pins σ (upd p a<|Pf a C dx) {s' with heap:=h4}:=On J5
 refine BQ (X:=Nj X a) S5 hN hi (.inl hk) (v:=.ref a) rfl (λs6 S6=>?_) (.inr hk);refine Qz (hs a pins s6 _ _ _ S6<|q a y.fa) (λf s7 h7=>?_) λ_ _ z=>z.elim
 have gone:∀{h:L2.St} {Y:Hp} {R:Unit->Shared->Prop},Inv (Nj X a) pins h Y s7->(∀s8,Inv X pins (h.set i none) Y s8->R () s8)->wpAny (model X.prog X.w) X.A (do bindName X.env n .none;unbindBehindTheSuite X.env n hpos) R X.xe s7:=λ{h Y R} E hR=>by
  obtain⟨m,hn,hl⟩:=id E.loc;exact wpAny_nameGoes_keeps hk hn (by rw[show X.env.scope.kind=.function from J5.ok.kind];rfl) λh8 v hn8 hs8=>hR _ (Zgv (Zob J5.ok E) hN hi hk hl hn hn8 hs8)
 cases f with
 |ret u=>obtain⟨v,h,Y,E,rv,q7⟩:=h7;exact gone E λs8 I8=>⟨v,_,_,I8,rv,q7⟩
 |_=>obtain⟨h,Y,E,q7⟩:=h7;exact gone E λs8 I8=>⟨_,_,I8,q7⟩
def MW{w:Ends->TS}(y:∀pins D,PSs (NM X pins D<|.ExceptHandler (some<|.Name x np) (some n) (b0::suite) hpos) body (w D)) :
  PS X (.Try body [.ExceptHandler (some<|.Name x np) (some n) (b0::suite) hpos] [] [] pos) (λD o H=>w D D o H):=by
 intro pins s o H D I h;refine wpAny_Try_except (Qz (y pins D [] s o H D (Zcp I) h) (λf A p=>?_) λ_ _ z=>z);cases f with
 |next=>
  obtain⟨g,l,J,q⟩:=p;exact WK ⟨g,l,FB J,q⟩
 |ret u=>obtain⟨v,g,l,J,r,q⟩:=p;exact⟨v,g,l,FB J,r,q⟩
 |_=>obtain⟨g,l,J,q⟩:=p;exact⟨g,l,FB J,q⟩
end
noncomputable def Xs(f:Yg)(x:Str):Addr:=match f x with
 |some (.ref C)=>C
 |_=>0
def Cb(h:f x=some (.ref C)):Xs f x=C:=by unfold Xs;rw[h]
def P0{v pos}(h:∃u,X.mg x=some u/\RelV v u)(f:autoParam (Gl X x) au_0)(hd:autoParam ((x==("__debug__" : Str))=false) au_1):PE X (.Name x pos) (tC v):=by
 obtain⟨u,l,g⟩:=h;exact Gz f l g hd
def Zom{C pos}(h:X.mg x=some (.ref C))(f:autoParam (Gl X x) au_0)(hd:autoParam ((x==("__debug__" : Str))=false) au_1):PE X (.Name x pos) (tC<|.ref C):=Gz f h rfl hd
end ExcR
namespace Own
open PySem PySem.Spec PyProof.Rows L2 M
section
variable {X:Cx}{pins:Yf}{σ:L2.St}{H:Hp}{s:Shared}
def RC{p:Int×Int}{its}(r:Vals [V.int p.1,V.int p.2] its):∃g f,its=[.int p.1 g,.int p.2 f]:=by
 cases r with
 |cons o h=>
  cases h with
  |cons n l=>
   cases l
   obtain⟨g,rfl⟩:=o;obtain⟨f,rfl⟩:=n
   grind
def Zpv{x y p q u v}(I:Inv X pins σ H s)(U:A.units<cLine)(L:RelV x u)(J:RelV y v)(Y:Pt H x p)(hq:Pt H y q):SeqAt.EqAt A s u v (decide (p=q)):=by
 obtain⟨a,rfl,C⟩:=Y;obtain⟨b,rfl,l⟩:=hq;obtain rfl:=L;obtain rfl:=J;by_cases n:a=b
 ·subst n;rw[C]at l
  have e:p=q:=by
   injection l with l;injection l with l;injection l with g f;injection f with f _;exact Prod.ext (V.int.inj g) (V.int.inj f)
  rw[WI e];exact SeqAt.EqAt.same _
 ·obtain⟨_,T,N,G⟩:=(I.hok a _ C);obtain⟨_,Q,M,E⟩:=(I.hok b _ l);obtain⟨B,w,rfl⟩:=RC N;obtain⟨r,o,rfl⟩:=RC M
  have h:=SeqAt.RcAt.tuples (e:=λj=>if j=0 then p.1==q.1 else p.2==q.2) G E U (λj g f=>by
   have hj:j=0\/j=1:=by
    have h1':j<2:=g;lia
   rcases hj with rfl|rfl
   ·exact SeqAt.EqAt.int_int _ _ _ _
   ·exact SeqAt.EqAt.int_int _ _ _ _)
  have e:((List.range (min ([Value.int p.1 B,Value.int p.2 w].toArray).size ([Value.int q.1 r,Value.int q.2 o].toArray).size)).all (λj=>if j=0 then p.1==q.1 else p.2==q.2)&&([Value.int p.1 B,Value.int p.2 w].toArray).size==([Value.int q.1 r,Value.int q.2 o].toArray).size)=decide (p=q):=by
   show((List.range 2).all (λj=>if j=0 then p.1==q.1 else p.2==q.2)&&true)=decide (p=q);rw[Bool.and_true];have e2:(List.range 2).all (λj=>if j=0 then p.1==q.1 else p.2==q.2)=((p.1==q.1)&&(p.2==q.2)):=by simp[List.range,List.range.loop]
   rw[e2];by_cases g:p.1=q.1
   ·by_cases f:p.2=q.2
    ·rw[WI (Prod.ext g f)];simp[g,f]
    ·rw[Qu (λz=>f (by rw[z]))];simp[f]
   ·rw[Qu (λz=>g (by rw[z]))];simp[g]
  rw[e]at h;exact SeqAt.EqAt.of_refs n h
noncomputable def eP(H:Hp)(q:Int×Int)(u:Value):Bool:=match u with
 | .ref a=>(match H a with
  |some (.tup [.int i,.int j])=>decide ((i,j)=q)
  |_=>false)
 |_=>false
def Lw{p q}(h:Pt H v p)(r:RelV v u):eP H q u=decide (p=q):=by
 obtain⟨a,rfl,f⟩:=h;obtain rfl:=r;unfold eP;simp_all
theorem DK:∀{vs us}{ps:Yd},Vals vs us->LV Pt H vs ps->us.any (eP H q)=decide (q∈ps)
 |_,_,[],.nil,_=>rfl
 |_,_,_::_,.nil,h|v::vs,u::us,[],.cons _ _,h=>absurd h.1 (by simp)
 |v::vs,u::us,p::ps,.cons r t,h=>by
  obtain⟨l,e,f⟩:=h.2 0 p rfl;cases e
  have g:LV Pt H vs ps:=⟨by simpa using h.1,λi x e=>h.2 (i+1) x e⟩;rw[VU,Lw f r,DK t g];by_cases n:p=q
  ·grind
  ·grind
noncomputable def BB(neg:Bool):R2:=λx y H Q=>∃(l:Addr) (f:Yd) (q:Int×Int),y=.ref l/\Pt H x q/\LAt Pt H l f/\Q (.bl (if neg then !decide (q∈f)else decide (q∈f))) H
theorem CU{x v q}(I:Inv X pins σ H s)(l:A.units<cLine)(g:RelV x v)(hx:Pt H x q):∀{vs us}{ps:Yd},Vals vs us->LV Pt H vs ps->∀u∈us,SeqAt.EqAt A s u v (eP H q u)
 |_,_,_,.nil,_,u,f=>by cases f
 |w::vs,u::us,[],.cons _ _,h,_,_=>absurd h.1 (by simp)
 |w::vs,u::us,p::ps,.cons r t,h,n,f=>by
  obtain⟨y,e,hw⟩:=h.2 0 p rfl;cases e
  have o:LV Pt H vs ps:=⟨by simpa using h.1,λi x e=>h.2 (i+1) x e⟩;rcases WU.mp f with rfl|f
  ·rw[Lw hw r];exact Zpv I l r g hw hx
  ·exact CU I l g hx t o n f
def Zrc(z:X.A.in1.units<cLine):OpR X (compareOp .In) (BB false):=by
 intro pins s σ H x y v u Q I o n h;obtain⟨l,E,q,rfl,hx,⟨C,B,g⟩,k⟩:=h;cases n
 obtain⟨f,r,p,G⟩:=I.list (SqL.of B);refine SeqAt.in_listAt (eP H q) p.isList (λw hw=>CU I z o hx r g w (by grind)) ⟨.bl _,H,I,rfl,?_⟩;rwa[show f.toArray.any (eP H q)=f.any (eP H q) by simp,DK r g]
def Zqv(z:X.A.in1.units<cLine):OpR X (compareOp .NotIn) (BB true):=by
 intro pins s σ H x y v u Q I o n h;obtain⟨l,E,q,rfl,hx,⟨C,B,g⟩,k⟩:=h;cases n
 obtain⟨f,r,p,G⟩:=I.list (SqL.of B);refine SeqAt.notIn_listAt (eP H q) p.isList (λw hw=>CU I z o hx r g w (by grind)) ⟨.bl _,H,I,rfl,?_⟩;rwa[show f.toArray.any (eP H q)=f.any (eP H q) by simp,DK r g]
end
end Own
namespace M
open PySem PySem.Spec PyProof.Rows L2 Own
section
variable {α:Type}{R:Hp->V->α->Prop}{H:Hp}
noncomputable def pick(c:α->Bool)(d:V×α):Option V:=if c d.2=true then some d.1 else none
end
end M
namespace Own
open PySem PySem.Spec PyProof.Rows L2 M
section
variable {X:Cx}
noncomputable def Km(i:Int)(n:Nat):Ye:=(List.range n).map λ(k:Nat)=>i+(k:Int)
end
end Own
namespace Own
open PySem PySem.Spec PyProof.Rows L2
section
variable {X:Cx}{K:Yc}
def Ol(y:X.calm=true)(A:autoParam (X.K=K) au_0):Kl X (.builtin "sum") (λxs H Q=>∃(p:Addr) (ns:Ye),xs=[.ref p]/\SqL K H p (ns.map V.int)/\Q (.int ns.sum) H):=by
 subst A;intro pins s E H xs G Q I o h;obtain⟨p,ns,rfl,z,q⟩:=h;obtain⟨u,rfl,v⟩:=o.one;obtain rfl:=v;obtain⟨g,r,w,_⟩:=I.list z;have n:IntsAre g ns:=by simpa using Fq r
 obtain⟨f,hx⟩:=n.allInts.items;have l:=w.isList;rw[hx]at l;refine sum_intListG (I.ok.hd y) l λM J L x=>?_
 have C:ns=f.toList.map (·.1):=by
  rw[←nums_intItems,←hx];exact n.numsOf.symm
 have B:preSum (numAt f) f.size=ns.sum:=by
  rw[preSum_eq,List.take_of_length_le (by simp),C]
 rw[B];exact⟨.int ns.sum,H,I.kept x,⟨_,rfl⟩,q⟩
def Zk1(L:X.calm=true)(T:autoParam (X.K=K) au_0):Kl X (.builtin "min") (λxs H Q=>∃(p:Addr) (ns:Ye),xs=[.ref p]/\SqL K H p (ns.map V.int)/\0<ns.length/\∀M,M∈ns->(∀a∈ns,M<=a)->Q (.int M) H):=by
 subst T;intro pins s Y H xs us Q I A h;obtain⟨p,ns,rfl,N,o,q⟩:=h;obtain⟨u,rfl,B⟩:=A.one;obtain rfl:=B;obtain⟨l,r,C,_⟩:=I.list N;have x:IntsAre l ns:=by simpa using Fq r
 obtain⟨g,e⟩:=x.allInts.items;have w:=C.isList;rw[e]at w;have f:ns=g.toList.map (·.1):=by rw[←x.numsOf,←nums_intItems,←e]
 have n:0<g.size:=by
  have z:=o;rw[f,WG,QF]at z;exact z
 refine min_intList (I.ok.hd L) w n λv h' tk E G=>?_;obtain⟨t,rfl⟩:=intItems_at E;obtain⟨h1,U⟩:=argBest_lt (numAt g) (g.size-1);refine⟨.int _,H,I.kept G,⟨_,rfl⟩,q _ ?_ λa y=>?_⟩
 ·rw[f,numAt_eq];exact getD_mem (by rw[WG,QF];lia)
 ·rw[f]at y;obtain⟨j,J,rfl⟩:=Q9.mp y;rw[WG,QF]at J
  have:=U j (by lia)
  rw[numAt_eq g j]at this
  grind
theorem L4:∀{bs}{us:Yk},Vals (bs.map V.bl) us->LSm.BoolsAre us bs
 |[],_,.nil=>.nil
 |b::r,_,.cons h t=>by
  cases h
  exact .cons b (L4 t)
def OD(B:X.calm=true)(E:autoParam (X.K=K) au_0):Kl X (.builtin "any") (λxs H Q=>∃(p:Addr) (bs:List Bool),xs=[.ref p]/\SqL K H p (bs.map V.bl)/\Q (.bl<|bs.any id) H):=by
 subst E;intro pins s G H xs J Q I w h;obtain⟨p,bs,rfl,C,q⟩:=h;obtain⟨u,rfl,x⟩:=w.one;obtain rfl:=x;obtain⟨f,r,y,_⟩:=I.list C;have n:=L4 r;have l:=y.isList;have g:p<s.heap.objs.size:=by obtain⟨_,e,_⟩:=l;exact WW e
 refine call_any_walk (wpAny_pyIter_list l ?_)
 refine⟨s.heap.objs.size,[s.heap.objs.size,p],[s.heap.objs.size],f.toArray.size,_,_,λi=>(bs[i]?).getD false,rfl,Walks.list (A:=X.A.in1) (I.ok.hd B) _ p (Qj g) f.toArray,
  ⟨⟨_,WX _ rfl,rfl,rfl⟩,l.push _⟩,λi v M U Y N o=>?_,λT L z=>?_⟩
 ·obtain⟨b,e,rfl⟩:=n.get i v (by grind);simp only[e,Option.getD_some]at o;exact V2 o
 ·have e:((List.range f.toArray.size).any λi=>(bs[i]?).getD false)=bs.any id:=by
   rw[Qr,n.length];exact LSm.range_any bs
  rw[e];exact⟨.bl (bs.any id),H,I.kept (LSm.kept_iter z),rfl,q⟩
noncomputable def Co(K:Yc)(neg:Bool):R2:=λx y H Q=>∃(p q:Addr) (xs:List V),x=.ref p/\y=.ref q/\SqL K H p xs/\SqL K H q []/\Q (.bl (if neg then !xs.isEmpty else xs.isEmpty)) H
def GO(l:X.A.units<cLine)(E:autoParam (X.K=K) au_0):OpR X (compareOp .Eq) (Co K false):=by
 subst E;intro pins s J H x y v u Q I w o h;obtain⟨p,q,xs,rfl,rfl,C,hq,k⟩:=h;obtain rfl:=w;obtain rfl:=o;obtain⟨L,B,f,_⟩:=I.list C;obtain⟨n,z,p2,_⟩:=I.list hq;have N:=B.length;have M:0=n.length:=z.length;have g:=k;by_cases e:xs.length=0
 ·refine SeqAt.eq_listAt (e:=λ_=>true) f.isList p2.isList (by simp;lia) l (λj T G=>by simp at G;lia) ⟨.bl xs.isEmpty,H,I,?_,g⟩;show _=Value.bool xs.isEmpty
  grind
 ·refine SeqAt.eq_list_lengthsAt f.isList p2.isList (by simp;lia) l ⟨.bl xs.isEmpty,H,I,?_,g⟩;cases xs with
  |nil=>exact absurd rfl e
  |cons a r=>rfl
def Zfo(l:X.A.units<cLine)(E:autoParam (X.K=K) au_0):OpR X (compareOp .NotEq) (Co K true):=by
 subst E;intro pins s J H x y v u Q I w o h;obtain⟨p,q,xs,rfl,rfl,C,hq,k⟩:=h;obtain rfl:=w;obtain rfl:=o;obtain⟨L,B,f,_⟩:=I.list C;obtain⟨n,z,p2,_⟩:=I.list hq;have N:=B.length;have M:0=n.length:=z.length;have g:=k;by_cases e:xs.length=0
 ·refine SeqAt.RcNeAt.lists (e:=λ_=>true) f.isList p2.isList (by simp;lia) l (λj T G=>by simp at G;lia) _ _ _ _ ⟨.bl (!xs.isEmpty),H,I,?_,g⟩;show _=Value.bool (!xs.isEmpty)
  grind
 ·refine SeqAt.RcNeAt.lists_lengths f.isList p2.isList (by simp;lia) l _ _ _ _ ⟨.bl (!xs.isEmpty),H,I,?_,g⟩;cases xs with
  |nil=>exact absurd rfl e
  |cons a r=>rfl
end
end Own
namespace M
open PySem PySem.Spec PyProof.Rows L2 Own
def B9(f:Yd)(r:Ye):Prop:=∀(i:Nat) (x y:Int),r[i]?=some x->r[i+1]?=some y->(x,y)∈f
structure Ring (hs:Ye) (ws:Yd) (r:Ye):Prop where
 two:2<=r.length
 nodup:r.Nodup
 sub:∀x∈r,x∈hs
 chain:B9 ws r
 last:∀x y,r[0]?=some x->r[r.length-1]?=some y->(y,x)∈ws
theorem A3:∀{xs f:Ye},xs.Nodup->(∀x∈xs,x∈f)->xs.length<=f.length
 |[],_,_,_=>QV _
 |x::xs,f,l,h=>by
  obtain⟨o,n⟩:=Q7.mp l;have p:=A3 n λz g=>(List.mem_erase_of_ne (λe:z=x=>o (e▸g))).mpr (h z<|Qf _ g)
  grind
def Zoa(G:∀q∈s,q.1≠q.2)(w:g≠[])(h:∀x∈g,∃y∈g,(y,x)∈s):∃r,Ring g s r:=by
 have grow:∀n r,r≠[]->r.Nodup->(∀x∈r,x∈g)->B9 s r->g.length<r.length+n->∃r,Ring g s r:=by
  intro n
  induction n with
  |zero=>
   intro r B u sub A H
   have:=A3 u sub
   lia
  |succ n E=>
   intro r B u sub A H;cases r with
   |nil=>exact absurd rfl B
   |cons x t=>
    obtain⟨y,v,hw⟩:=h x (sub x (Qy ..));by_cases C:y∈x::t
    ·obtain⟨i,M,e⟩:=Q9.mp C
     have L:i≠0:=λz=>by
      subst z;exact G _ hw e.symm
     have p:((x::t).take (i+1)).length=i+1:=by
      rw[Qs];lia
     refine⟨(x::t).take (i+1),by lia,u.sublist (Jm _ _),λz o=>sub z (Va o),λk a b l f=>?_,λa b l f=>?_⟩
     ·have J:k+1<i+1:=by
       have:=(Qd.mp f).1
       lia
      rw[Vi (by lia)]at l;rw[Vi J]at f;exact A k a b l f
     ·rw[p,Vv,Vi (by lia),WH M,e]at f;cases l
      cases f
      exact hw
    ·refine E (y::x::t) (by simp) (Q7.mpr ⟨C,u⟩) (λz o=>?_) (λk a b l f=>?_) (by rw[Qa];lia)
     ·rcases WU.mp o with rfl|o
      ·exact v
      ·exact sub z o
     ·cases k with
      |zero=>
       cases l
       cases f
       exact hw
      |succ k=>exact A k a b l f
 obtain⟨x,hx⟩:=List.exists_mem_of_ne_nil g w;exact grow (g.length+1) [x] (by simp) (by simp) (λy v=>by rw[WJ.mp v];exact hx) (λi a b l f=>by simp at f) (by show g.length<1+(g.length+1);lia)
end M
namespace M
def sl:Ye->Ye->Prop
 |x::xs,y::f=>x<y\/(x=y/\sl xs f)
 |_,_=>False
def sl_cons:sl (l::a) (l::b)↔sl a b:=by
 show(l<l\/(l=l/\sl a b))↔sl a b;constructor
 ·simp
 ·simp
theorem E8:∀{a b} x y,sl a b->sl (a++[x]) (b++[y])
 |[],[],_,_,h|[],_::_,_,_,h|_::_,[],_,_,h=>by unfold sl at h;exact h.elim
 |p::a,q::b,x,y,h=>by
  rw[Vp,Vp];unfold sl at h ⊢;rcases h with h|⟨g,f⟩
  ·lia
  ·exact .inr ⟨g,E8 x y f⟩
theorem IK:∀{a}{x y:Int},x<y->sl (a++[x]) (a++[y])
 |[],x,y,h=>.inl h
 |p::a,x,y,h=>by
  exact .inr ⟨rfl,IK h⟩
theorem EW:∀{a b c:Ye},sl a b->sl b c->sl a c
 |[],b,c,h,_|_::_,[],_,h,_|_::_,_::_,[],_,h=>by unfold sl at h;exact h.elim
 |x::a,y::b,z::c,g,f=>by
  unfold sl at g f ⊢;rcases g with g|⟨g,n⟩
  ·lia
  ·rcases f with f|⟨f,l⟩
   ·lia
   ·exact .inr ⟨by lia,EW n l⟩
noncomputable def X3(g:Int):Ye->Int
 |[]=>g
 |x::t=>X3 x t
theorem Ph(g:Int):∀a b,X3 g (a++b)=X3 (X3 g a) b
 |[],b=>rfl
 |x::a,b=>Ph x a b
theorem FI(g:Int):∀t,(g::t)[t.length]?=some (X3 g t)
 |[]=>rfl
 |x::t=>by
  exact FI x t
def Path(C:Int->Prop)(f:Yd):Int->Ye->Prop
 |_,[]=>True
 |g,x::t=>C x/\(g,x)∈f/\Path C f x t
section
variable {C:Int->Prop}{ws:Yd}
theorem path_app:∀{g}{a b:Ye},Path C ws g (a++b)↔Path C ws g a/\Path C ws (X3 g a) b
 |g,[],b=>⟨λh=>⟨trivial,h⟩,λh=>h.2⟩
 |g,x::a,b=>by
  constructor
  ·rintro⟨n,l,f⟩
   have:=path_app.mp f
   exact⟨⟨n,l,this.1⟩,this.2⟩
  ·rintro⟨⟨n,l,f⟩,o⟩;exact⟨n,l,path_app.mpr ⟨f,o⟩⟩
theorem DN:∀{g}{t:Ye},Path C ws g t->∀x∈t,C x
 |g,[],_,x,h=>by cases h
 |g,y::t,⟨l,_,f⟩,x,h=>by
  rcases WU.mp h with rfl|h
  ·lia
  ·exact DN f x h
theorem GV:∀{g}{t:Ye},Path C ws g t->B9 ws (g::t)
 |g,[],_=>λi x y o f=>by simp at f
 |g,z::t,⟨o,f,n⟩=>λi x y l h=>by
  cases i with
  |zero=>grind
  |succ i=>exact GV n i x y l h
theorem G9:∀{g}{t:Ye},B9 ws (g::t)->(∀x∈t,C x)->Path C ws g t
 |g,[],_,_=>trivial
 |g,z::t,h,f=>⟨f z Qy,h 0 g z rfl rfl,G9 (λi x y n l=>h (i+1) x y n l) λx hx=>f x (Qf _ hx)⟩
end
def Gr(hs:Ye)(l:Int):Int->Prop:=λx=>x∈hs/\l<x
def Pg(hs:Ye)(f:Yd)(l:Int)(t:Ye):Prop:=Path (Gr hs l) f l t/\(X3 l t,l)∈f
def RF(hs:Ye)(f:Yd)(l:Int)(r:Ye):Prop:=
 (r=[]/\∀t,¬Pg hs f l t)\/∃t,r=l::t/\Pg hs f l t/\∀u,Pg hs f l u->t.length<u.length\/(t.length=u.length/\(t=u\/sl t u))
structure Lev (hs:Ye) (ws:Yd) (l:Int) (k:Nat) (ps:List (Ye)) (ls:Ye):Prop where
 way:∀p∈ps,p.length=k/\Path (Gr hs l) ws l p
 srt:ps.Pairwise sl
 lin:∀h∈ls,Gr hs l h
 lsrt:ls.Pairwise (· < ·)
 cover:∀t,t.length<=k->Path (Gr hs l) ws l t->X3 l t∉ls
 first:∀t,t.length=k->Path (Gr hs l) ws l t->(∃p∈ps,X3 l p=X3 l t/\(p=t\/sl p t))\/∃u,u.length<k/\Path (Gr hs l) ws l u/\X3 l u=X3 l t
 none:∀t,t.length<k->¬Pg hs ws l t
 comp:∀h,Gr hs l h->h∉ls->∃t,t.length<=k/\Path (Gr hs l) ws l t/\X3 l t=h
section
variable {hs:Ye}{ws:Yd}{l:Int}{k:Nat}{ps:List (Ye)}{ls:Ye}
def Lev.start (s:ls.Pairwise (· < ·)) (g:∀h,h∈ls↔Gr hs l h):Lev hs ws l 0 [[]] ls:=by
 have nil:∀t:Ye,t.length=0->t=[]:=λt h=>Jk.mp h;refine⟨λp o=>?_,by simp,λh n=>(g h).mp n,s,λt f _ h=>?_,λt f _=>.inl ⟨[],by simp,by rw[nil t f],.inl (nil t f).symm⟩,λt f=>by lia,λh n r=>absurd ((g h).mpr n) r⟩
 ·rw[WJ.mp o];trivial
 ·rw[nil t (by lia)]at h
  have:=((g _).mp h).2
  exact absurd this (by show ¬l<l;lia)
def Lev.found (L:Lev hs ws l k ps ls) {p i} (r:i<ps.length) (s:ps[i]=p) (H:(X3 l p,l)∈ws) (G:∀j n,j<i->(X3 l ps[j],l)∉ws):RF hs ws l (l::p):=by
 have C:p∈ps:=by rw[←s];exact Qg r
 obtain⟨Q,x⟩:=L.way p C;refine .inr ⟨p,rfl,⟨x,H⟩,λu g=>?_⟩;by_cases M:u.length<k
 ·exact absurd g (L.none u M)
 ·by_cases J:u.length=k
  ·rcases L.first u J g.1 with⟨q,hq,N,h⟩|⟨v,B,A,y⟩
   ·refine .inr ⟨by lia,?_⟩;obtain⟨j,n,w⟩:=Q9.mp hq;have o:(X3 l ps[j],l)∈ws:=by rw[w,N];exact g.2
    have E:=Nat.le_of_not_lt λz=>G j n z o
    have f:p=q\/sl p q:=by
     by_cases e:i=j
     ·grind
     ·have:=QM.mp L.srt i j r n (by lia)
      rw[s,w]at this;exact .inr this
    rcases f with rfl|f
    ·exact h
    ·rcases h with rfl|h
     ·exact .inr f
     ·exact .inr (EW f h)
   ·exact absurd ⟨A,by rw[y];exact g.2⟩ (L.none v B)
  ·exact .inl (by lia)
def Lev.none_here (L:Lev hs ws l k ps ls) (h:∀p∈ps,(X3 l p,l)∉ws):∀t,t.length<k+1->¬Pg hs ws l t:=λt u f=>by
 by_cases r:t.length<k
 ·exact L.none t r f
 ·rcases L.first t (by lia) f.1 with⟨q,hq,s,w⟩|⟨v,o,n,g⟩
  ·exact h q hq (by rw[s];exact f.2)
  ·exact L.none v o ⟨n,by rw[g];exact f.2⟩
def Lev.over (L:Lev hs ws l k [] ls):RF hs ws l []:=by
 refine .inl ⟨rfl,?_⟩
 have early:∀n t,t.length=n->Path (Gr hs l) ws l t->∃u,u.length<k/\Path (Gr hs l) ws l u/\X3 l u=X3 l t:=by
  intro n
  induction n with
  |zero=>
   intro t f g;by_cases N:0<k
   ·exact⟨t,by lia,g,rfl⟩
   ·rcases L.first t (by lia) g with⟨q,hq,_⟩|⟨v,r,_⟩
    ·cases hq
    ·lia
  |succ n J=>
   intro t f g;have A:t≠[]:=λz=>by rw[z]at f;cases f
   have p:=(Vs A).symm;generalize t.getLast A=x at p;generalize t.dropLast=s at p;subst p;obtain⟨H,p2⟩:=path_app.mp g;obtain⟨u,w,o,h⟩:=J s (by simpa using f) H;have y:=path_app.mpr ⟨o,by rw[h];exact p2⟩;have B:X3 l (u++[x])=X3 l (s++[x]):=by rw[Ph,Ph];rfl
   by_cases M:(u++[x]).length<k
   ·exact⟨_,M,y,B⟩
   ·rcases L.first (u++[x]) (by grind) y with⟨q,hq,_⟩|⟨v,r,G,E⟩
    ·cases hq
    ·exact⟨v,r,G,E.trans B⟩
 intro t C;obtain⟨u,w,o,h⟩:=early t.length t rfl C.1;exact L.none u w ⟨o,by rw[h];exact C.2⟩
structure LG (ws:Yd) (l:Int) (P:Ye->Int->Prop) (lg:List (Ye)):Prop where
 mem:∀q∈lg,∃p h,P p h/\q=p++[h]/\(X3 l p,h)∈ws
 srt:lg.Pairwise sl
 has:∀p h,P p h->(X3 l p,h)∈ws->∃p',p'++[h]∈lg/\(p'=p\/sl p' p)
def Lev.next (L:Lev hs ws l k ps ls) (hn:∀p∈ps,(X3 l p,l)∉ws) (G:LG ws l (λp h=>p∈ps/\h∈ls) H)
  (e:A=ls.filter λh=>decide (¬h∈H.map (X3 l))):Lev hs ws l (k+1) H A:=by
 have f:∀h,h∈A↔h∈ls/\¬h∈H.map (X3 l):=λh=>by rw[e,Qv,V4]
 have g:∀q∈H,q.length=k+1/\Path (Gr hs l) ws l q:=λq hq=>by
  obtain⟨p,h,⟨n,h2⟩,rfl,h3⟩:=G.mem q hq;obtain⟨w1,Q⟩:=L.way p n;exact⟨by simp[w1],path_app.mpr ⟨Q,L.lin h h2,h3,trivial⟩⟩
 have reach:∀s x,s.length=k->Path (Gr hs l) ws l s->Gr hs l x->(X3 l s,x)∈ws->x∈ls->∃p∈ps,X3 l p=X3 l s/\(p=s\/sl p s):=λs x n h2 h3 h4 h5=>by
  rcases L.first s n h2 with z|⟨v,v1,v2,v3⟩
  ·exact z
  ·have:=L.cover (v++[x]) (by simp;lia) (path_app.mpr ⟨v2,h3,by rw[v3];exact h4,trivial⟩)
   rw[Ph]at this;exact absurd h5 this
 refine⟨g,G.srt,λh hh=>L.lin h ((f h).mp hh).1,?_,λt B M hl=>?_,λt B M=>?_,L.none_here hn,λh hg hnl=>?_⟩
 ·rw[e];exact L.lsrt.filter _
 ·obtain⟨E,m2⟩:=(f _).mp hl;by_cases n:t.length<=k
  ·exact L.cover t n M E
  ·have y:t≠[]:=λz=>by rw[z]at n;simp at n
   have r:=(Vs y).symm;generalize t.getLast y=x at r;generalize t.dropLast=s at r;subst r;obtain⟨Y,p2,w,_⟩:=path_app.mp M;rw[Ph]at E m2;obtain⟨p,o,C,_⟩:=reach s x (by simp at B n;lia) Y p2 w E;obtain⟨p',k1,_⟩:=G.has p x ⟨o,E⟩ (by rw[C];exact w);exact m2 (Qi.mpr ⟨_,k1,by rw[Ph];rfl⟩)
 ·have y:t≠[]:=λz=>by rw[z]at B;simp at B
  have r:=(Vs y).symm;generalize t.getLast y=x at r;generalize t.dropLast=s at r;subst r;obtain⟨Y,p2,w,_⟩:=path_app.mp M;have hs':s.length=k:=by simpa using B
  by_cases hx:x∈ls
  ·obtain⟨p,o,C,N⟩:=reach s x hs' Y p2 w hx;obtain⟨p',k1,J⟩:=G.has p x ⟨o,hx⟩ (by rw[C];exact w);refine .inl ⟨_,k1,by rw[Ph,Ph];rfl,?_⟩
   have:p'=s\/sl p' s:=by
    rcases J with rfl|J
    ·exact N
    ·rcases N with rfl|N
     ·exact .inr J
     ·exact .inr (EW J N)
   rcases this with rfl|h
   ·exact .inl rfl
   ·exact .inr (E8 x x h)
  ·obtain⟨u,u1,U,T⟩:=L.comp x p2 hx;exact .inr ⟨u,by lia,U,by rw[T,Ph];rfl⟩
 ·by_cases hx:h∈ls
  ·have:=Qx λz=>hnl ((f h).mpr ⟨hx,z⟩)
   obtain⟨q,hq,C⟩:=Qi.mp this;obtain⟨w1,Q⟩:=g q hq;exact⟨q,by lia,Q,C⟩
  ·obtain⟨u,u1,U,T⟩:=L.comp h hg hx;exact⟨u,by lia,U,T⟩
end
def FR(hs:Ye)(f:Yd)(r:Ye):Prop:=
 (r=[]/\∀l∈hs,∀t,¬Pg hs f l t)\/∃l t,r=l::t/\l∈hs/\Pg hs f l t/\∀m∈hs,∀u,Pg hs f m u->t.length<u.length\/(t.length=u.length/\(l<m\/(l=m/\(t=u\/sl t u))))
theorem GZ:∀(r:Ye),r≠[]->∃i,∃h:i<r.length,∀x∈r,r[i]<=x
 |[],h=>absurd rfl h
 |[a],_=>⟨0,by simp,λx hx=>by rw[WJ.mp hx];exact QL _⟩
 |a::b::r,_=>by
  obtain⟨i,f,h⟩:=GZ (b::r) (by simp);by_cases c:a<=(b::r)[i]
  ·refine⟨0,by simp,λx hx=>?_⟩;rcases WU.mp hx with rfl|hx
   ·exact QL _
   ·grind
  ·refine⟨i+1,by simpa using f,λx hx=>?_⟩;have e:(a::b::r)[i+1]'(by grind)=(b::r)[i]:=rfl;rcases WU.mp hx with rfl|hx
   ·lia
   ·exact h x hx
def L9(r:Ye){i j}(f:i<=r.length):(r.drop i++r.take i)[j]?=if i+j<r.length then r[i+j]? else if j<r.length then r[i+j-r.length]? else none:=by grind
def Zfu(R:Ring hs v r):∃l∈hs,∃t,Pg hs v l t/\t.length+1=r.length:=by
 have two:=R.two;obtain⟨i,s,o⟩:=GZ r (λz=>by rw[z]at two;simp at two);have erot:r.drop i++r.take i=r[i]::(r.drop (i+1)++r.take i):=by rw[QN s];rfl
 have p:(r.drop (i+1)++r.take i).length+1=r.length:=by rw[WS,List.length_drop,Qs];lia
 have G:B9 v (r[i]::(r.drop (i+1)++r.take i)):=by
  rw[←erot];intro j x y h f;rw[L9 r (by lia)]at h f;by_cases C:i+(j+1)<r.length
  ·rw[WO C]at f;rw[WO (by lia)]at h;exact R.chain (i+j) x y h f
  ·rw[WM C]at f;by_cases B:j+1<r.length
   ·rw[WO B]at f;by_cases A:i+j<r.length
    ·rw[WO A]at h;have g:i+j=r.length-1:=by lia
     have u:i+(j+1)-r.length=0:=by lia
     rw[g]at h;rw[u]at f;exact R.last y x f h
    ·rw[WM A,WO (by lia)]at h;have e:i+(j+1)-r.length=(i+j-r.length)+1:=by lia
     rw[e]at f;exact R.chain _ x y h f
   ·rw[WM B]at f;cases f
 refine⟨r[i],R.sub _ (Qg s),r.drop (i+1)++r.take i,⟨G9 G λx hx=>?_,?_⟩,p⟩
 ·have n:=(Qc.mp hx).elim JE Va;refine⟨R.sub x n,Int.lt_iff_le_and_ne.mpr ⟨o x n,λz=>?_⟩⟩
  have w:(r.drop i++r.take i).Nodup:=by
   have:(r.take i++r.drop i).Perm (r.drop i++r.take i):=List.perm_append_comm
   rw[←this.nodup_iff,J1];exact R.nodup
  rw[erot]at w;exact(Q7.mp w).1 (by rw[z];exact hx)
 ·have g:=FI r[i] (r.drop (i+1)++r.take i);rw[←erot,L9 r (by lia)]at g;have u:(r.drop (i+1)++r.take i).length=r.length-1:=by lia
  rw[u]at g;by_cases c:i=0
  ·subst c;rw[WO (by lia)]at g;exact R.last _ _ (WH s) (by simpa using g)
  ·rw[WM (by lia),WO (by lia)]at g;have E:i+(r.length-1)-r.length=i-1:=by lia
   rw[E]at g;exact R.chain (i-1) _ _ g (by rw[show i-1+1=i by lia];exact WH s)
theorem RZ:∀{t:Ye},¬t.Nodup->∃a x b c,t=a++x::(b++x::c)
 |[],h=>absurd VO h
 |y::t,h=>by
  by_cases f:y∈t
  ·obtain⟨b,c,e⟩:=List.append_of_mem f;exact⟨[],y,b,c,by rw[e];rfl⟩
  ·obtain⟨a,x,b,c,e⟩:=RZ λz=>h (Q7.mpr ⟨f,z⟩)
   grind
def Mz{h l t}(v:∀q∈h,q.1≠q.2)(w:l∈hs)(f:Pg hs h l t)(p:∀u,Pg hs h l u->t.length<=u.length):Ring hs h (l::t):=by
 have o:t≠[]:=λz=>by
  have g:=f.2;rw[z]at g;exact v _ g rfl
 have r:=DN f.1;refine⟨by have:=VE.mpr o;simp;lia,Q7.mpr ⟨λz=>absurd (r l z).2 (by lia),?_⟩,λx hx=>?_,GV f.1,λx y n g=>?_⟩
 ·refine Qx λz=>?_;obtain⟨a,x,b,c,e⟩:=RZ z;have n:=f.1;rw[e]at n;obtain⟨s,p2⟩:=path_app.mp n
  have B:Pg hs h l (a++x::c):=by
   refine⟨path_app.mpr ⟨s,p2.1,p2.2.1,((path_app (a:=x::b)).mp p2).2.2.2⟩,?_⟩
   have A:X3 l (a++x::c)=X3 l t:=by
    rw[e,Ph,Ph];show X3 x c=X3 x (b++x::c);rw[Ph];rfl
   rw[A];exact f.2
  grind
 ·rcases WU.mp hx with rfl|hx
  ·exact w
  ·exact(r x hx).1
 ·cases n
  simp only[Qa,Vv]at g;rw[(FI l t)]at g;cases g
  exact f.2
def FR.none_iff {f r} (p:∀q∈f,q.1≠q.2) (F:FR hs f r):r=[]↔¬ ∃r,Ring hs f r:=by
 constructor
 ·rintro rfl ⟨r,R⟩;obtain⟨l,g,t,n,_⟩:=Zfu R;rcases F with⟨_,F⟩|⟨_,_,e,_⟩
  ·grind
  ·grind
 ·intro h;rcases F with⟨e,_⟩|⟨l,t,rfl,g,n,s⟩
  ·exact e
  ·refine absurd ⟨_,Mz p g n λu o=>?_⟩ h
   grind
def FR.ring {f r} (o:∀q∈f,q.1≠q.2) (F:FR hs f r) (h:r≠[]):Ring hs f r/\∃l t,r=l::t/\∀x∈t,l<x:=by
 rcases F with⟨e,_⟩|⟨l,t,rfl,p,g,s⟩
 ·grind
 ·refine⟨Mz o p g λu n=>?_,l,t,rfl,λx hx=>(DN g.1 x hx).2⟩
  grind
def Tf(f:Yd):Prop:=f.length<=20/\f.Nodup/\∀q∈f,(1<=q.1/\q.1<=10/\1<=q.2/\q.2<=10)/\q.1≠q.2
open Own
noncomputable def exM(ps:Yd)(ns:Ye)(p:Nat):Int:=(ps.getD (ns.getD (p-1) 0-1).toNat (0,0)).2*(ps.getD (ns.getD p 0-1).toNat (0,0)).2
noncomputable def KY(ns:Ye)(p:Nat):Ye:=ns.take (p-1)++[ns.getD p 0,ns.getD (p-1) 0]++ns.drop (p+1)
def CK{p}(o:1<=p)(h:p<ns.length):(KY ns p).Perm ns:=by
 unfold KY;have n:ns.getD p 0=ns[p]:=by grind
 have l:ns.getD (p-1) 0=ns[p-1]'(by lia):=by grind
 rw[n,l]
 have e:ns=ns.take (p-1)++[ns[p-1]'(by lia),ns[p]]++ns.drop (p+1):=by
  have f:ns.drop (p-1)=ns[p-1]'(by lia)::ns.drop (p-1+1):=QN (by lia);have g:p-1+1=p:=by lia
  rw[g,(QN h)]at f
  calc ns=ns.take (p-1)++ns.drop (p-1):=(J1 _ _).symm
   _=_:=by rw[f];simp
 refine List.Perm.trans ?_ (List.Perm.of_eq e.symm);exact List.Perm.append_right _ (List.Perm.append_left _<|List.Perm.swap _ _ _)
def runI_mem:x∈Km 1 n↔1<=x/\x<=n:=by
 unfold Km;rw[Qi];constructor
 ·grind
 ·intro h;exact⟨(x-1).toNat,Jg.mpr (by lia),by lia⟩
def BH(n:Nat):(Km 1 n).length=n:=by unfold Km;rw[WG,Js]
end M
namespace Pu
open PySem PySem.Spec PyProof.Rows L2 Own
inductive D where
 |int (i:Int)|bl (b:Bool)|non|str (x:Str)|ty (n:String)|tup (ds:List D)|lst (ds:List D)|scr (ns:Ye)|dK (kvs:List (Key×V))|dT (kvs:List (List Key×V))|loc (a:Addr) (d:D)|err (C:Addr)|ref (a:Addr)|ins (C:Addr) (xs:Yl) (ds:List D)|dF (kvs:List (List Key×V))|erM (C:Addr) (r:Ye)|fL (ns:Ye)
mutual
inductive Rp (K:Yc) (H:Hp):D->V->Prop
 |int (i:Int):Rp K H (.int i) (.int i)
 |bl (b:Bool):Rp K H (.bl b) (.bl b)
 |non:Rp K H .non .non
 |str (x:Str):Rp K H (.str x) (.str x)
 |ty (n:String):Rp K H (.ty n) (.ty n)
 |tup {ds:List D} {vs:List V} {a:Addr}:H a=some (.tup vs)->Rps K H ds vs->Rp K H (.tup ds) (.ref a)
 |lst {ds:List D} {vs:List V} {a:Addr}:H a=some (.lst vs)->Rps K H ds vs->Rp K H (.lst ds) (.ref a)
 |scr {ns:Ye} {a:Addr}:SqL K H a (ns.map V.int)->Rp K H (.scr ns) (.ref a)
 |dK {kvs:List (Key×V)} {a:Addr}:H a=some (.dK kvs)->Rp K H (.dK kvs) (.ref a)
 |dT {kvs:List (List Key×V)} {a:Addr}:H a=some (.dT kvs)->Rp K H (.dT kvs) (.ref a)
 |dF {kvs:List (List Key×V)} {o:Obj} {a:Addr}:H a=some (.frz o<|.dT kvs)->Rp K H (.dF kvs) (.ref a)
 |loc {d:D} {a:Addr}:Rp K H d (.ref a)->Rp K H (.loc a d) (.ref a)
 |err {C a:Addr}:H a=some (ExcR.Ak a C)->Rp K H (.err C) (.ref a)
 |ref (a:Addr):Rp K H (.ref a) (.ref a)
 |erM {C a dx l:Addr} {o:Obj} {r:Ye}:H a=some (ExcR.Pf a C<|some dx)->H dx=some (.xd [("members",.ref l)])->H l=some (.frz o<|.lst<|r.map V.int)->Rp K H (.erM C r) (.ref a)
 |fL {a:Addr} {o:Obj} {ns:Ye}:H a=some (.frz o<|.lst<|ns.map V.int)->Rp K H (.fL ns) (.ref a)
 |ins {C a dx:Addr} {xs:Yl} {ds:List D} {vs:List V}:H a=some (.ins C dx<|xs.zip vs)->xs.length=vs.length->Rps K H ds vs->Rp K H (.ins C xs ds) (.ref a)
inductive Rps (K:Yc) (H:Hp):List D->List V->Prop
 |nil:Rps K H [] []
 |cons {d:D} {v:V} {ds:List D} {vs:List V}:Rp K H d v->Rps K H ds vs->Rps K H (d::ds) (v::vs)
end
section
variable {K:Yc}{H H':Hp}
def Rp.mono (S:Same H H') {d:D}{v:V}:Rp K H d v->Rp K H' d v:=
 Rp.rec (motive_1:=λd v _=>Rp K H' d v) (motive_2:=λg f _=>Rps K H' g f) .int .bl .non .str .ty (λh _ r=>.tup (S _ _ h) r) (λh _ r=>.lst (S _ _ h) r) (λh=>.scr (S.seq h)) (λh=>.dK (S _ _ h)) (λh=>.dT (S _ _ h)) (λh=>.dF (S _ _ h)) (λ_ h=>.loc h) (λh=>.err (S _ _ h)) .ref (λa b c=>.erM (S _ _ a) (S _ _ b) (S _ _ c)) (λh=>.fL (S _ _ h)) (λh e _ r=>.ins (S _ _ h) e r) .nil λ_ _=>.cons
def Rps.mono (S:Same H H') {ds:List D}:∀{vs:List V},Rps K H ds vs->Rps K H' ds vs:=by
 induction ds with
 |nil=>intro _ h;cases h;exact .nil
 |cons _ _ f=>intro _ h;cases h with|cons a b=>exact .cons (Rp.mono S a) (f b)
def Rps.len:∀{ds}{vs:List V},Rps K H ds vs->vs.length=ds.length:=by
 intro ds
 induction ds with
 |nil=>
  intro _ h;cases h
  rfl
 |cons _ _ f=>
  intro _ h;cases h with
  |cons h r=>
   exact Q4 (· + 1) (f r)
def Rps.get:∀{ds vs}{i:Nat}{d:D},Rps K H ds vs->ds[i]?=some d->∃v,vs[i]?=some v/\Rp K H d v:=by
 intro ds
 induction ds with
 |nil=>
  intro _ i _ h e;simp at e
 |cons _ _ f=>
  intro _ i d h e;cases h with
  |cons h r=>
   cases i with
   |zero=>
    simp at e;subst e;exact⟨_,rfl,h⟩
   |succ i=>
    obtain⟨v,l,g⟩:=f r (by simpa using e);exact⟨v,by simpa using l,g⟩
def Rps.append:∀{ds es}{vs us:List V},Rps K H ds vs->Rps K H es us->Rps K H (ds++es) (vs++us):=by
 intro ds
 induction ds with
 |nil=>
  intro _ _ _ h s;cases h
  exact s
 |cons _ _ f=>
  intro _ _ _ h s;cases h with
  |cons h r=>
   exact .cons h (f r s)
def Rps.at (r:Rps K H ds vs) (e:atI ds i=some d):∃v,atI vs i=some v/\Rp K H d v:=by
 unfold atI at e ⊢;rw[r.len];cases q:ixN ds.length i with
 |none=>grind
 |some j=>
  rw[q]at e;exact r.get e
theorem Rps.drop:∀{ds vs} n,Rps K H ds vs->Rps K H (ds.drop n) (vs.drop n)
 |_,_,0,r=>r
 |_,_,_+1,.nil=>.nil
 |_,_,n+1,.cons _ r=>Rps.drop n r
theorem Rps.take:∀{ds vs} n,Rps K H ds vs->Rps K H (ds.take n) (vs.take n)
 |_,_,0,_|_,_,_+1,.nil=>.nil
 |_,_,n+1,.cons h r=>.cons h (Rps.take n r)
end
mutual
noncomputable def imm:D->Bool
 | .tup f=>KM f
 | .lst _=>false
 | .scr _=>false
 | .dK _=>false
 | .dT _=>false
 | .loc _ _=>false
 | .err _=>false
 | .erM _ _=>false
 | .ins _ _ _=>false
 |_=>true
noncomputable def KM:List D->Bool
 |[]=>true
 |d::r=>imm d&&KM r
end
open Classical in
noncomputable def off(Z:Addr->Prop)(H:Hp):Hp:=λb=>if Z b then none else H b
section
variable {K:Yc}{H H':Hp}{Z Z':Addr->Prop}
def Td(h:off Z H b=some o):H b=some o/\¬Z b:=by
 unfold off at h;by_cases z:Z b
 ·grind
 ·grind
def XX(h:H b=some o)(z:¬Z b):off Z H b=some o:=by
 unfold off
 grind
def X2(S:Same H H')(g:∀b o,H b=some o->¬Z b->¬Z' b):Same (off Z H) (off Z' H'):=λb o h=>by
 obtain⟨f,l⟩:=Td h;exact XX (S b o f) (g b o f l)
def off_sub:Same (off Z H) H:=λ_ _ h=>(Td h).1
def Rp.off (s:∀b,Z b->Mut (H b)) {d:D}{v:V}:Rp K H d v->imm d=true->Rp K (off Z H) d v:=by
 have g:∀{a o},H a=some o->¬Mut (some o)->Pu.off Z H a=some o:=λh n=>XX h λz=>n (h▸s _ z);have f:∀{d} {P:Prop},imm d=false->imm d=true->P:=λh e=>by rw[h]at e;cases e
 exact Rp.rec (motive_1:=λd v _=>imm d=true->Rp K (Pu.off Z H) d v) (motive_2:=λl p _=>KM l=true->Rps K (Pu.off Z H) l p) (λi _=>.int i) (λb _=>.bl b) (λ_=>.non) (λx _=>.str x) (λn _=>.ty n) (λh _ r e=>.tup (g h id) (r<|by unfold imm at e;exact e)) (λ_ _ _=>f (by unfold imm;rfl)) (λ_=>f (by unfold imm;rfl)) (λ_=>f (by unfold imm;rfl)) (λ_=>f (by unfold imm;rfl)) (λh _=>.dF (g h id)) (λ_ _=>f (by unfold imm;rfl)) (λ_=>f (by unfold imm;rfl)) (λa _=>.ref a) (λ_ _ _=>f (by unfold imm;rfl)) (λh _=>.fL (g h id)) (λ_ _ _ _=>f (by unfold imm;rfl)) (λ_=>.nil) (λ_ _ a b e=>by
  unfold KM at e;rw[Q2]at e;exact .cons (a e.1) (b e.2))
def Rps.off (g:∀b,Z b->Mut (H b)) {ds:List D}:∀{vs:List V},Rps K H ds vs->KM ds=true->Rps K (off Z H) ds vs:=by
 induction ds with
 |nil=>intro _ h _;cases h;exact .nil
 |cons _ _ f=>
  intro _ h e;unfold KM at e;rw[Q2]at e;cases h with|cons a b=>exact .cons (Rp.off g a e.1) (f b e.2)
end
inductive O where
 |lst (ds:List D)|dK (kvs:List (Key×V))|dT (kvs:List (List Key×V))|ins (a C:Addr) (xs:Yl) (cs:List (Addr×List D))|lsA (a:Addr) (ds:List D)|nst (cs:List (Addr×List D))|nsl (a:Addr) (cs:List (Addr×List D))
instance:Coe (List D) O:=⟨O.lst⟩
noncomputable def O.d:O->D
 | .lst h=>.lst h | .dK f=>.dK f | .dT f=>.dT f | .ins _ C xs g=>.ins C xs (g.map λc=>.lst c.2) | .lsA _ h=>.lst h | .nst g=>.tup (g.map λc=>.lst c.2) | .nsl _ g=>.lst (g.map λc=>.lst c.2)
def O.adr (a:Addr):O->Addr->Prop
 | .lst _=>λb=>b=a
 | .dK _=>λb=>b=a
 | .dT _=>λb=>b=a
 | .ins x _ _ f=>λb=>b=x\/∃c∈f,b=c.1
 | .lsA x _=>λb=>b=x
 | .nst f=>λb=>∃c∈f,b=c.1
 | .nsl x f=>λb=>b=x\/∃c∈f,b=c.1
def OR(K:Yc)(F H:Hp)(a:Addr):O->Prop
 | .lst l=>∃f,H a=some (.lst f)/\Rps K F l f
 | .dK h=>H a=some (.dK h)
 | .dT h=>H a=some (.dT h)
 | .lsA x l=>a=x/\∃f,H a=some (.lst f)/\Rps K F l f
 | .ins x C xs g=>a=x/\xs.length=g.length/\(∃n,H a=some (.ins C n<|xs.zip (g.map λc=>V.ref c.1)))/\(∀c∈g,∃f,H c.1=some (.lst f)/\Rps K F c.2 f)/\(g.map (·.1)).Nodup
 | .nsl x g=>a=x/\H a=some (.lst (g.map λc=>V.ref c.1))/\(∀c∈g,∃f,H c.1=some (.lst f)/\Rps K F c.2 f)/\(x::g.map (·.1)).Nodup
 | .nst g=>F a=some (.tup (g.map λc=>V.ref c.1))/\(∀c∈g,∃f,H c.1=some (.lst f)/\Rps K F c.2 f)/\(g.map (·.1)).Nodup
def OR.mono {K F z H H'}{a o} (s:Same F z) (r:∀b,o.adr a b->∀x,H b=some x->H' b=some x) (h:OR K F H a o):OR K z H' a o:=by
 cases o with
 |lst B=>obtain⟨f,n,g⟩:=h;exact⟨f,r _ rfl _ n,Rps.mono s g⟩
 |lsA x B=>obtain⟨rfl,f,n,g⟩:=h;exact⟨rfl,f,r _ rfl _ n,Rps.mono s g⟩
 |nsl x y=>
  obtain⟨e,n,g,w⟩:=h;exact⟨e,r _ (.inl e) _ n,λc p=>let ⟨f,v,u⟩:=g c p;⟨f,r _ (.inr ⟨c,p,rfl⟩) _ v,Rps.mono s u⟩,w⟩
 |nst y=>
  obtain⟨n,g,w⟩:=h;exact⟨s _ _ n,λc p=>let ⟨f,v,u⟩:=g c p;⟨f,r _ ⟨c,p,rfl⟩ _ v,Rps.mono s u⟩,w⟩
 |ins x C xs y=>
  obtain⟨e,l,⟨A,n⟩,g,w⟩:=h;exact⟨e,l,⟨A,r _ (.inl e) _ n⟩,λc p=>let ⟨f,v,u⟩:=g c p;⟨f,r _ (.inr ⟨c,p,rfl⟩) _ v,Rps.mono s u⟩,w⟩
 |_=>exact r _ rfl _ h
theorem Nt{K F}:∀{f:List (Addr×List D)},(∀c∈f,∃vs,F c.1=some (.lst vs)/\Rps K F c.2 vs)->Rps K F (f.map λc=>.lst c.2) (f.map λc=>V.ref c.1)
 |[],_=>.nil
 |c::f,h=>let ⟨_,l,g⟩:=h c Qy;.cons (.lst l g) (Nt λo n=>h o (Qf _ n))
def OR.rpIn {K F y H a o} (s:Same F y) (n:∀b,o.adr a b->∀x,H b=some x->y b=some x) (h:OR K F H a o):Rp K y o.d (.ref a):=by
 cases o with
 |lst B=>obtain⟨r,g,f⟩:=h;exact .lst (n _ rfl _ g) (Rps.mono s f)
 |dK w=>exact .dK (n _ rfl _ h)
 |dT w=>exact .dT (n _ rfl _ h)
 |lsA x B=>obtain⟨rfl,r,g,f⟩:=h;exact .lst (n _ rfl _ g) (Rps.mono s f)
 |nsl x A=>
  obtain⟨e,g,f,z⟩:=h;exact .lst (n _ (.inl e) _ g) (Nt λc p=>let ⟨r,v,u⟩:=f c p;⟨r,n _ (.inr ⟨c,p,rfl⟩) _ v,Rps.mono s u⟩)
 |nst A=>
  obtain⟨g,f,z⟩:=h;exact .tup (s _ _ g) (Nt λc p=>let ⟨r,v,u⟩:=f c p;⟨r,n _ ⟨c,p,rfl⟩ _ v,Rps.mono s u⟩)
 |ins x C xs A=>
  obtain⟨e,l,⟨E,g⟩,f,z⟩:=h;exact .ins (n _ (.inl e) _ g) (by grind) (Nt λc p=>let ⟨r,v,u⟩:=f c p;⟨r,n _ (.inr ⟨c,p,rfl⟩) _ v,Rps.mono s u⟩)
def OR.rp {K F H a o} (f:Same F H) (h:OR K F H a o):Rp K H o.d (.ref a):=h.rpIn f λ_ _ _ e=>e
def OR.mut {K F H a o} (h:OR K F H a o):∀b,o.adr a b->Mut (H b):=by
 cases o with
 |lst y=>obtain⟨u,g,p⟩:=h;intro b e;rw[show b=a from e,g];trivial
 |dK n=>intro b e;rw[show b=a from e,show H a=some (.dK n)from h];trivial
 |dT n=>intro b e;rw[show b=a from e,show H a=some (.dT n)from h];trivial
 |lsA x y=>obtain⟨rfl,u,g,p⟩:=h;intro b e;rw[show b=a from e,g];trivial
 |nsl x w=>
  obtain⟨e,g,p,v⟩:=h;intro b f;rcases f with f|⟨c,s,f⟩
  ·rw[show b=a from f.trans e.symm,g];trivial
  ·obtain⟨u,r,_⟩:=p c s;rw[f,r];trivial
 |nst w=>
  obtain⟨g,p,v⟩:=h;rintro b ⟨c,s,f⟩;obtain⟨u,r,_⟩:=p c s;rw[f,r];trivial
 |ins x C xs w=>
  obtain⟨e,l,⟨z,g⟩,p,v⟩:=h;intro b f;rcases f with f|⟨c,s,f⟩
  ·rw[show b=a from f.trans e.symm,g];trivial
  ·obtain⟨u,r,_⟩:=p c s;rw[f,r];trivial
inductive S where
 |bor (d:D)|sh (d:D)|own (o:O)|view (o:O)|tmp (d:D)
abbrev Γ:=List (Option S)
noncomputable def D.strip:D->D
 | .loc _ d=>d|d=>d
def Rp.strip {K H d v} (h:Rp K H d v):Rp K H d.strip v:=by
 cases h with
 |loc h=>exact h
 |int i=>exact .int i
 |bl b=>exact .bl b
 |non=>exact .non
 |str x=>exact .str x
 |ty n=>exact .ty n
 |tup h r=>exact .tup h r
 |lst h r=>exact .lst h r
 |scr h=>exact .scr h
 |dK h=>exact .dK h
 |dT h=>exact .dT h
 |dF h=>exact .dF h
 |err h=>exact .err h
 |ref a=>exact .ref a
 |erM l g f=>exact .erM l g f
 |fL h=>exact .fL h
 |ins h e r=>exact .ins h e r
noncomputable def S.d:S->D
 | .bor d=>d.strip | .sh d=>d | .own o=>o.d | .view o=>o.d | .tmp d=>d
noncomputable def arg(d:D):S:=match imm d with|true=>.sh d|false=>.bor d
noncomputable def Pm(d:D):S:=match imm d with|true=>.sh d|false=>.tmp d
noncomputable def S.sub:S->D->S
 | .bor _,e=>arg e | .tmp _,e=>Pm e | .own (.nst _),e=>Pm e | .view (.nst _),e=>Pm e | .own (.nsl _ _),e=>Pm e | .view (.nsl _ _),e=>Pm e|_,e=>.sh e
noncomputable def S.shd:S->Option D
 | .sh d=>some d | .own o=>some o.d
 | .bor d=>match imm d with|true=>some d|false=>none
 | .tmp d=>match imm d with|true=>some d|false=>none
 | .view _=>none
noncomputable def S.slot:S->Option S
 | .view _=>none | .bor d=>some (.bor d) | .sh d=>some (.sh d) | .own f=>some (.own f)
 | .tmp d=>match imm d with|true=>some (.sh d)|false=>none
def Zmi(h:Γ)(g:L2.St)(b:Addr):Prop:=∃(i:Nat) (f:O) (a:Addr),h[i]?=some (some<|.own f)/\g[i]?=some (some<|.ref a)/\f.adr a b
def zof(B:Addr->Prop)(g:Γ)(f:L2.St):Addr->Prop:=λb=>B b\/Zmi g f b
def SV(K:Yc)(Z:Addr->Prop)(f H:Hp):S->V->Prop
 | .bor d,v=>Rp K f d v
 | .sh d,v=>Rp K (off Z H) d v
 | .own o,v=>∃a,v=.ref a/\(∀b,o.adr a b->f b=none)/\OR K (off Z H) H a o
 |_,_=>False
def TV(K:Yc)(Z:Addr->Prop)(f H H':Hp):S->V->Prop
 | .bor d,v=>Rp K f d v
 | .sh d,v=>Rp K (off Z H') d v
 | .own o,v=>∃a,v=.ref a/\(∀b,o.adr a b->H b=none)/\OR K (off (λb=>Z b\/o.adr a b) H') H' a o
 | .view o,v=>∃a,v=.ref a/\OR K (off Z H') H' a o
 | .tmp d,v=>Rp K H' d v
structure Xt (K:Yc) (H0:Hp) (B:Addr->Prop) (H:Hp) (σ:L2.St) (γ:Γ):Prop where
 same:Same H0 H
 len:σ.length=γ.length
 bm:∀b,B b->Mut (H b)
 own:∀(i j:Nat) (a a':Addr) (ds es:O) (b:Addr),γ[i]?=some (some<|.own ds)->γ[j]?=some (some<|.own es)->σ[i]?=some (some<|.ref a)->σ[j]?=some (some<|.ref a')->ds.adr a b->es.adr a' b->i=j
 slot:∀(i:Nat) (s:S),γ[i]?=some (some s)->∃v,σ[i]?=some (some v)/\SV K (zof B γ σ) H0 H s v
section
variable {K:Yc}{H0 H H1 H':Hp}{B Z Z':Addr->Prop}{σ:L2.St}{γ:Γ}
def Tx(S:Same H H'){b}(h:Mut (H b)):Mut (H' b):=by
 cases e:H b with
 |none=>rw[e]at h;exact h.elim
 |some o=>rw[S b o e,←e];exact h
def TX(h:Mut (H b)):∃o,H b=some o:=by
 cases e:H b with
 |none=>rw[e]at h;exact h.elim
 |some o=>grind
def Xt.grow (E:Xt K H0 B H σ γ) (S:Same H H'):Xt K H0 B H' σ γ where
 same:=E.same.trans S
 len:=E.len
 bm b h:=Tx S (E.bm b h)
 own:=E.own
 slot i s h:=by
  obtain⟨v,h1,h2⟩:=E.slot i s h;refine⟨v,h1,?_⟩;cases s with
  |bor d=>trivial
  |sh d=>exact Rp.mono (X2 S λ_ _ _ z=>z) h2
  |own ds=>
   obtain⟨a,e1,e3,e4⟩:=h2;exact⟨a,e1,e3,e4.mono (X2 S λ_ _ _ z=>z) λb _ x=>S b x⟩
  |_=>exact h2
def Xt.zm (E:Xt K H0 B H σ γ):∀b,zof B γ σ b->Mut (H b):=λb h=>by
 rcases h with h|⟨i,s,x,n,l,g⟩
 ·exact E.bm b h
 ·obtain⟨v,f,a,p,r,o⟩:=E.slot i _ n;rw[l]at f;cases f
  cases p
  exact o.mut b g
def TV.rp (f:Same H0 H') (h:TV K Z H0 H H' s v):Rp K H' s.d v:=by
 cases s with
 |bor d=>exact(Rp.mono f h).strip
 |sh d=>exact Rp.mono off_sub h
 |own g=>
  obtain⟨a,rfl,_,r⟩:=h;exact r.rp off_sub
 |view g=>
  obtain⟨a,rfl,r⟩:=h;exact r.rp off_sub
 |tmp d=>exact h
def TV.grow (f:Same H' H1) (h:TV K Z H0 H H' s v):TV K Z H0 H H1 s v:=by
 cases s with
 |bor d=>exact h
 |sh d=>exact Rp.mono (X2 f λ_ _ _ z=>z) h
 |own l=>
  obtain⟨a,rfl,g,r⟩:=h;exact⟨a,rfl,g,r.mono (X2 f λ_ _ _ z=>z) λb _ x=>f b x⟩
 |view l=>
  obtain⟨a,rfl,r⟩:=h;exact⟨a,rfl,r.mono (X2 f λ_ _ _ z=>z) λb _ x=>f b x⟩
 |tmp d=>exact Rp.mono f h
def TV.weak (o:Same H H1) (f:∀b,Z b->Z' b) (h:TV K Z' H0 H1 H' s v):TV K Z H0 H H' s v:=by
 cases s with
 |sh d=>exact Rp.mono (X2 (Same.refl _) λb _ _ z y=>z (f b y)) h
 |own n=>
  obtain⟨a,rfl,l,r⟩:=h;exact⟨a,rfl,λb g=>o.free (l b g),r.mono (X2 (Same.refl _) λb _ _ z y=>z (y.imp (f b) id)) λ_ _ _ q=>q⟩
 |view n=>
  obtain⟨a,rfl,r⟩:=h;exact⟨a,rfl,r.mono (X2 (Same.refl _) λb _ _ z y=>z (f b y)) λ_ _ _ q=>q⟩
 |_=>exact h
def TV.shd (o:Same H0 H') (l:∀b,Z b->Mut (H b)) (w:Same H H') (h:TV K Z H0 H H' s v) (e:s.shd=some d):Rp K (off Z H') d v:=by
 have f:=λb z=>Tx w (l b z);cases s with
 |bor g=>
  unfold S.shd at e;cases q:imm g with
  |false=>simp_all
  |true=>
   simp[q]at e;subst e;exact Rp.off f (Rp.mono o h) q
 |sh g=>cases e;exact h
 |own u=>
  cases e
  obtain⟨a,rfl,p,r⟩:=h;exact r.rpIn (X2 (Same.refl _) λb _ _ z y=>z (.inl y)) λb n x e=>XX e λz=>by have:=l _ z;rw[p b n]at this;exact this
 |view u=>cases e
 |tmp g=>
  unfold S.shd at e;cases q:imm g with
  |false=>simp[q]at e
  |true=>
   simp[q]at e;subst e;exact Rp.off f h q
def NF(f:∀b,Z b->Mut (H' b))(g:Same H0 H')(h:Rp K H0 d v):TV K Z H0 H H' (arg d) v:=by
 unfold arg;cases q:imm d with
 |true=>exact Rp.off f (Rp.mono g h) q
 |false=>exact h
def Ti(f:∀b,Z b->Mut (H' b))(h:Rp K H' d v):TV K Z H0 H H' (Pm d) v:=by
 unfold Pm;cases q:imm d with
 |true=>exact Rp.off f h q
 |false=>exact h
def Rp.lst_inv (h:Rp K H (.lst ds) v):∃a vs,v=.ref a/\H a=some (.lst vs)/\Rps K H ds vs:=by
 cases h with
 |lst h r=>grind
def Rp.tup_inv (h:Rp K H (.tup ds) v):∃a vs,v=.ref a/\H a=some (.tup vs)/\Rps K H ds vs:=by
 cases h with
 |tup h r=>grind
def TV.part (E:Same H0 H') (N:∀b,Z b->Mut (H b)) (Q:Same H H') (h:TV K Z H0 H H' s v) :
  (∀ds,s.d=.lst ds->∃a vs,v=.ref a/\H' a=some (.lst vs)/\vs.length=ds.length/\∀(i:Nat) d,ds[i]?=some d->∃u,vs[i]?=some u/\TV K Z H0 H H' (s.sub d) u)/\
  (∀ds,s.d=.tup ds->∃a vs,v=.ref a/\H' a=some (.tup vs)/\vs.length=ds.length/\∀(i:Nat) d,ds[i]?=some d->∃u,vs[i]?=some u/\TV K Z H0 H H' (s.sub d) u):=by
 have l:=λb z=>Tx Q (N b z);cases s with
 |bor d=>
  have h:=Rp.strip h;refine⟨λds e=>?_,λds e=>?_⟩<;>rw[show d.strip=_ from e]at h
  ·obtain⟨a,vs,rfl,h,r⟩:=Rp.lst_inv h;exact⟨_,_,rfl,E _ _ h,r.len,λi d e=>let ⟨u,g,f⟩:=r.get e;⟨u,g,NF l E f⟩⟩
  ·obtain⟨a,vs,rfl,h,r⟩:=Rp.tup_inv h;exact⟨_,_,rfl,E _ _ h,r.len,λi d e=>let ⟨u,g,f⟩:=r.get e;⟨u,g,NF l E f⟩⟩
 |sh d=>
  refine⟨λds e=>?_,λds e=>?_⟩<;>(have L:=e;subst L)
  ·obtain⟨a,vs,rfl,h,r⟩:=Rp.lst_inv h;exact⟨_,_,rfl,off_sub _ _ h,r.len,λi d e=>r.get e⟩
  ·obtain⟨a,vs,rfl,h,r⟩:=Rp.tup_inv h;exact⟨_,_,rfl,off_sub _ _ h,r.len,λi d e=>r.get e⟩
 |own w=>
  cases w with
  |lst w=>
   refine⟨λds e=>?_,λds e=>by cases e⟩;cases e
   obtain⟨a,rfl,J,vs,e,r⟩:=h;exact⟨a,vs,rfl,e,r.len,λi d e=>let ⟨u,g,f⟩:=r.get e;⟨u,g,Rp.mono (X2 (Same.refl _) λb _ _ z y=>z (.inl y)) f⟩⟩
  |lsA x w=>
   refine⟨λds e=>?_,λds e=>by cases e⟩;cases e
   obtain⟨a,rfl,J,_,vs,e,r⟩:=h;exact⟨a,vs,rfl,e,r.len,λi d e=>let ⟨u,g,f⟩:=r.get e;⟨u,g,Rp.mono (X2 (Same.refl _) λb _ _ z y=>z (.inl y)) f⟩⟩
  |nsl x M=>
   refine⟨λds e=>?_,λds e=>by cases e⟩;cases e
   obtain⟨a,rfl,J,_,C,A,G⟩:=h;have r:=Nt λc p=>let ⟨vs,o,n⟩:=A c p;⟨vs,o,Rps.mono off_sub n⟩;exact⟨a,_,rfl,C,r.len,λi d e=>let ⟨u,g,f⟩:=r.get e;⟨u,g,Ti l f⟩⟩
  |nst M=>
   refine⟨(λds e=>by cases e),λds e=>?_⟩;cases e
   obtain⟨a,rfl,J,C,A,G⟩:=h;have r:=Nt λc p=>let ⟨vs,o,n⟩:=A c p;⟨vs,o,Rps.mono off_sub n⟩;exact⟨a,_,rfl,off_sub _ _ C,r.len,λi d e=>let ⟨u,g,f⟩:=r.get e;⟨u,g,Ti l f⟩⟩
  |_=>exact⟨(λds e=>by cases e),(λds e=>by cases e)⟩
 |view w=>
  cases w with
  |lst w=>
   refine⟨λds e=>?_,λds e=>by cases e⟩;cases e
   obtain⟨a,rfl,vs,e,r⟩:=h;exact⟨a,vs,rfl,e,r.len,λi d e=>r.get e⟩
  |lsA x w=>
   refine⟨λds e=>?_,λds e=>by cases e⟩;cases e
   obtain⟨a,rfl,_,vs,e,r⟩:=h;exact⟨a,vs,rfl,e,r.len,λi d e=>r.get e⟩
  |nsl x M=>
   refine⟨λds e=>?_,λds e=>by cases e⟩;cases e
   obtain⟨a,rfl,_,C,A,G⟩:=h;have r:=Nt λc p=>let ⟨vs,o,n⟩:=A c p;⟨vs,o,Rps.mono off_sub n⟩;exact⟨a,_,rfl,C,r.len,λi d e=>let ⟨u,g,f⟩:=r.get e;⟨u,g,Ti l f⟩⟩
  |nst M=>
   refine⟨(λds e=>by cases e),λds e=>?_⟩;cases e
   obtain⟨a,rfl,C,A,G⟩:=h;have r:=Nt λc p=>let ⟨vs,o,n⟩:=A c p;⟨vs,o,Rps.mono off_sub n⟩;exact⟨a,_,rfl,off_sub _ _ C,r.len,λi d e=>let ⟨u,g,f⟩:=r.get e;⟨u,g,Ti l f⟩⟩
  |_=>exact⟨(λds e=>by cases e),(λds e=>by cases e)⟩
 |tmp d=>
  refine⟨λds e=>?_,λds e=>?_⟩<;>(have L:=e;subst L)
  ·obtain⟨a,vs,rfl,h,r⟩:=Rp.lst_inv h;exact⟨_,_,rfl,h,r.len,λi d e=>let ⟨u,g,f⟩:=r.get e;⟨u,g,Ti l f⟩⟩
  ·obtain⟨a,vs,rfl,h,r⟩:=Rp.tup_inv h;exact⟨_,_,rfl,h,r.len,λi d e=>let ⟨u,g,f⟩:=r.get e;⟨u,g,Ti l f⟩⟩
def Fr(B:Addr->Prop)(H:Hp)(σ:L2.St)(γ:Γ)(H':Hp)(f:L2.St)(g:Γ):Prop:=∀b o,H b=some o->¬zof B γ σ b->H' b=some o/\¬zof B g f b
def Fr.refl:Fr B H σ γ H σ γ:=λ_ _ h z=>⟨h,z⟩
def Fr.trans {H1 p g f n l} (a:Fr B H σ γ H1 g n) (b:Fr B H1 g n p f l):Fr B H σ γ p f l:=λx o h z=>let ⟨s,r⟩:=a x o h z;b x o s r
def Fr.grow (f:Same H H'):Fr B H σ γ H' σ γ:=λ_ _ h z=>⟨f _ _ h,z⟩
def Fr.off {H'}{σ'}{γ'} (f:Fr B H σ γ H' σ' γ'):Same (off (zof B γ σ) H) (Pu.off (zof B γ' σ') H'):=λb o h=>by
 obtain⟨p,n⟩:=Td h;obtain⟨l,g⟩:=f b o p n;exact XX l g
def Ka{f:Type}{l:List f}{i j}{x y}(h:(l.set i x)[j]?=some y):(j=i/\x=y/\i<l.length)\/(j≠i/\l[j]?=some y):=by grind
def Ay{f:Type}{l:List f}{i}{x}(h:i<l.length):(l.set i x)[i]?=some x:=by grind
def Tj{f:Type}{l:List f}{i j}{x}(h:j≠i):(l.set i x)[j]?=l[j]?:=by grind
def Xt.drop (E:Xt K H0 B H σ γ) (i:Nat):Xt K H0 B H σ (γ.set i none)/\Fr B H σ γ H σ (γ.set i none):=by
 have p:∀b,zof B (γ.set i none) σ b->zof B γ σ b:=λb z=>z.imp id λ⟨j,l,a,g,f,u⟩=>by
  rcases Ka g with⟨_,e,_⟩|⟨_,e⟩
  ·grind
  ·exact⟨j,l,a,e,f,u⟩
 refine⟨⟨E.same,by rw[QI];exact E.len,E.bm,λk j a G l w b g f=>?_,λk s h=>?_⟩,λb o h z=>⟨h,λy=>z (p b y)⟩⟩
 ·rcases Ka g with⟨_,e,_⟩|⟨_,n⟩
  ·cases e
  ·rcases Ka f with⟨_,e,_⟩|⟨_,C⟩
   ·cases e
   ·exact E.own k j a G l w b n C
 ·rcases Ka h with⟨_,e,_⟩|⟨_,e⟩
  ·cases e
  ·obtain⟨v,g,f⟩:=E.slot k s e;refine⟨v,g,?_⟩;have r:Same (Pu.off (zof B γ σ) H) (Pu.off (zof B (γ.set i none) σ) H):=X2 (Same.refl _) λb _ _ z y=>z (p b y);cases s with
   |sh d=>exact Rp.mono r f
   |own l=>
    obtain⟨a,n,A,x⟩:=f;exact⟨a,n,A,x.mono r λ_ _ _ q=>q⟩
   |_=>exact f
def Xt.put {s L}{v} (E:Xt K H0 B H σ γ) (S1:Same H H') (h:TV K (zof B γ σ) H0 H H' s v) (e:s.slot=some L) (hi:i<γ.length) :
  Xt K H0 B H' (σ.set i<|some v) (γ.set i<|some L)/\Fr B H σ γ H' (σ.set i<|some v) (γ.set i<|some L):=by
 have n:i<σ.length:=by rw[E.len];exact hi
 have E':=E.grow S1
 have isown:∀f,L=.own f->s=.own f:=λf q=>by
  subst q;cases s with
  |own J=>cases e;rfl
  |tmp d=>unfold S.slot at e;cases q:imm d<;>simp[q]at e
  |_=>cases e
 have l:∀b,zof B (γ.set i<|some L) (σ.set i<|some v) b->zof B γ σ b\/∃f a,s=.own f/\v=.ref a/\f.adr a b:=λb z=>by
  rcases z with z|⟨j,f,a,h1,G,A⟩
  ·exact .inl (.inl z)
  ·rcases Ka h1 with⟨Y,g,_⟩|⟨T,g⟩
   ·subst Y;rw[Ay n]at G
    have:=WY g
    exact .inr ⟨f,a,isown f this,WY (WY G),A⟩
   ·rw[Tj T]at G;exact .inl (.inr ⟨j,f,a,g,G,A⟩)
 have fresh:∀f a b,s=.own f->v=.ref a->f.adr a b->H b=none:=λf a b J ev p=>by
  subst J;obtain⟨a',g,e0,_⟩:=h;rw[ev]at g;cases g
  exact e0 b p
 have hz:∀b o,H b=some o->¬zof B γ σ b->¬zof B (γ.set i<|some L) (σ.set i<|some v) b:=λb o p z y=>by
  rcases l b y with y|⟨f,a,y1,y2,y3⟩
  ·exact z y
  ·rw[fresh f a b y1 y2 y3]at p;cases p
 have So:=X2 S1 hz;refine⟨⟨E'.same,by rw[QI,QI];exact E.len,E'.bm,λk j a a' f J b h1 G A M h5 h6=>?_,λk u hk=>?_⟩,λb o p z=>⟨S1 b o p,hz b o p z⟩⟩
 ·have Q:∀(k:Nat) f a b,γ[k]?=some (some<|.own f)->σ[k]?=some (some<|.ref a)->f.adr a b->∃o,H b=some o:=λk f a b g C e3=>by
   obtain⟨u,q1,a',N,_,q3⟩:=E.slot k _ g;rw[C]at q1;cases q1
   cases N
   exact TX (q3.mut b e3)
  rcases Ka h1 with⟨ek,g,_⟩|⟨nk,g⟩
  ·rcases Ka G with⟨Y,C,_⟩|⟨T,C⟩
   ·rw[ek,Y]
   ·subst ek;rw[Ay n]at A;rw[Tj T]at M;obtain⟨o,U⟩:=Q j J a' b C M h6;rw[fresh f a b (isown f<|WY g) (WY<|WY A) h5]at U;cases U
  ·rcases Ka G with⟨Y,C,_⟩|⟨T,C⟩
   ·subst Y;rw[Ay n]at M;rw[Tj nk]at A;obtain⟨o,U⟩:=Q k f a b g A h5;rw[fresh J a' b (isown J<|WY C) (WY<|WY M) h6]at U;cases U
   ·rw[Tj nk]at A;rw[Tj T]at M;exact E.own k j a a' f J b g C A M h5 h6
 ·rcases Ka hk with⟨ek,g,_⟩|⟨nk,g⟩
  ·subst ek
   have:=(WY g).symm
   subst this;refine⟨v,Ay n,?_⟩;cases s with
   |own f=>
    cases e
    obtain⟨a,rfl,e0,r⟩:=h;refine⟨a,rfl,λb p=>E.same.free (e0 b p),r.mono (X2 (Same.refl _) λb o _ z y=>?_) λ_ _ _ q=>q⟩;rcases l b y with y|⟨_,_,y1,y,y2⟩
    ·exact z (.inl y)
    ·cases y;cases y1;exact z (.inr y2)
   |sh d=>
    cases e
    refine Rp.mono (X2 (Same.refl _) λb o _ z y=>?_) h;rcases l b y with y|⟨_,_,y,_⟩
    ·exact z y
    ·cases y
   |bor d=>cases e;exact h
   |view d=>cases e
   |tmp d=>
    unfold S.slot at e;cases q:imm d with
    |false=>simp[q]at e
    |true=>
     simp[q]at e;subst e;refine Rp.off (λb y=>?_) h q;rcases l b y with y|⟨_,_,y,_⟩
     ·exact Tx S1 (E.zm b y)
     ·cases y
  ·obtain⟨w,q1,N⟩:=E.slot k u g;refine⟨w,by rw[Tj nk];exact q1,?_⟩;cases u with
   |sh d=>exact Rp.mono So N
   |own f=>
    obtain⟨a,g,e3,e4⟩:=N;exact⟨a,g,e3,e4.mono So λb _ x=>S1 b x⟩
   |_=>exact N
noncomputable def frz(i:Nat)(γ:Γ):Γ:=match γ[i]? with
 |some (some<|.own o)=>γ.set i (some<|.sh o.d)
 |_=>γ
def Xt.frz (E:Xt K H0 B H σ γ) (hB:∀b,B b->∃o,H0 b=some o) (i:Nat):Xt K H0 B H σ (frz i γ)/\Fr B H σ γ H σ (Pu.frz i γ):=by
 unfold Pu.frz;split
 ·rename_i p J
  have G:∀b,zof B (γ.set i<|some<|.sh p.d) σ b->zof B γ σ b:=λb z=>z.imp id λ⟨j,l,a,g,f,L⟩=>by
   rcases Ka g with⟨_,e,_⟩|⟨_,e⟩
   ·cases e
   ·exact⟨j,l,a,e,f,L⟩
  have C:Same (Pu.off (zof B γ σ) H) (Pu.off (zof B (γ.set i<|some<|.sh p.d) σ) H):=X2 (Same.refl _) λb _ _ z y=>z (G b y);refine⟨⟨E.same,by rw[QI];exact E.len,E.bm,λk j a A l r b g f=>?_,λk s h=>?_⟩,λb o h z=>⟨h,λy=>z (G b y)⟩⟩
  ·rcases Ka g with⟨_,e,_⟩|⟨_,n⟩
   ·cases e
   ·rcases Ka f with⟨_,e,_⟩|⟨_,w⟩
    ·cases e
    ·exact E.own k j a A l r b n w
  ·rcases Ka h with⟨T,e,_⟩|⟨Y,e⟩
   ·subst T
    have:=WY e
    subst this;obtain⟨v,g,a,rfl,L,Q⟩:=E.slot k _ J;refine⟨_,g,Q.rpIn C λb N x f=>XX f λz=>?_⟩;rcases z with z|⟨j,l,A,n,w,u⟩
    ·grind
    ·rcases Ka n with⟨_,q,_⟩|⟨M,q⟩
     ·cases q
     ·exact M (E.own j k A a l p b q J w g u N)
   ·obtain⟨v,g,f⟩:=E.slot k s e;refine⟨v,g,?_⟩;cases s with
    |sh d=>exact Rp.mono C f
    |own p=>
     obtain⟨a,n,u,U⟩:=f;exact⟨a,n,u,U.mono C λ_ _ _ q=>q⟩
    |_=>exact f
 ·exact⟨E,Fr.refl⟩
def Xt.change {o o'} (E:Xt K H0 B H σ γ) (M:γ[i]?=some (some<|.own o)) (A:σ[i]?=some (some<|.ref a))
  (N:∀b x,H b=some x->¬o.adr a b->H' b=some x) (hm:∀b,o.adr a b->Mut (H' b)) (l:∀b,o'.adr a b->o.adr a b\/H b=none) (r:OR K (Pu.off (zof B (γ.set i<|some<|.own o') σ) H') H' a o') :
  Xt K H0 B H' σ (γ.set i<|some<|.own o')/\Fr B H σ γ H' σ (γ.set i<|some<|.own o'):=by
 obtain⟨v,h1,a',rfl,h3,h4⟩:=E.slot i _ M;rw[A]at h1;cases h1
 have za:∀b,o.adr a b->zof B γ σ b:=λb C=>.inr ⟨i,o,a,M,A,C⟩
 have hz:∀b x,H b=some x->zof B (γ.set i<|some<|.own o') σ b->zof B γ σ b:=λb x hx z=>by
  rcases z with z|⟨j,fs,a',U,p,n⟩
  ·exact .inl z
  ·rcases Ka U with⟨T,q,_⟩|⟨_,e⟩
   ·subst T;cases q
    rw[A]at p;cases p
    rcases l b n with k|k
    ·exact za b k
    ·rw[k]at hx;cases hx
   ·exact .inr ⟨j,fs,a',e,p,n⟩
 have S1:=λb x h=>by
  obtain⟨g,f⟩:=Td h;exact XX (N b x g λk=>f (za b k)) λz=>f (hz b x g z)
 have J:∀(k:Nat) ds a b,γ[k]?=some (some<|.own ds)->σ[k]?=some (some<|.ref a)->ds.adr a b->∃o,H b=some o:=λk ds a b U p n=>by
  obtain⟨u,g,a',f,_,q3⟩:=E.slot k _ U;rw[p]at g;cases g
  cases f
  exact TX (q3.mut b n)
 refine⟨⟨λb x h=>?_,by rw[QI];exact E.len,λb C=>?_,λk j x x' fs Q b U p n G e5 e6=>?_,λk s h=>?_⟩,λb x h z=>⟨?_,λy=>z (hz b x h y)⟩⟩
 ·exact N b x (E.same b x h) λk=>by rw[h3 b k]at h;cases h
 ·by_cases k:o.adr a b
  ·exact hm b k
  ·have:=E.bm b C
   obtain⟨x,hx⟩:=TX this;rwa[N b x hx k,←hx]
 ·rcases Ka U with⟨Y,g,_⟩|⟨nk,g⟩
  ·rcases Ka p with⟨T,_,_⟩|⟨nj,f⟩
   ·rw[Y,T]
   ·subst Y;cases g
    rw[A]at n;cases n
    rcases l b e5 with w|w
    ·exact E.own k j _ _ _ _ b M f A G w e6
    ·obtain⟨u,L⟩:=J j Q x' b f G e6;rw[w]at L;cases L
  ·rcases Ka p with⟨T,f,_⟩|⟨nj,f⟩
   ·subst T;cases f
    rw[A]at G;cases G
    rcases l b e6 with w|w
    ·exact E.own k j _ _ _ _ b g M n A e5 w
    ·obtain⟨u,L⟩:=J k fs x b g n e5;rw[w]at L;cases L
   ·exact E.own k j x x' fs Q b g f n G e5 e6
 ·rcases Ka h with⟨Y,e,_⟩|⟨nk,e⟩
  ·subst Y
   have:=WY e
   subst this;exact⟨_,A,a,rfl,λb C=>(l b C).elim (h3 b) λw=>E.same.free w,r⟩
  ·obtain⟨v,g,f⟩:=E.slot k s e;refine⟨v,g,?_⟩;cases s with
   |sh d=>exact Rp.mono S1 f
   |own fs=>
    obtain⟨x,rfl,n,G⟩:=f;exact⟨x,rfl,n,G.mono S1 λb C y p=>N b y p λw=>nk (E.own k i x a fs o b e M g A C w)⟩
   |_=>exact f
 ·exact N b x h λk=>z (za b k)
def Xt.mutate {i:Nat}{a:Addr}{ds es:O}{us:HO} (E:Xt K H0 B H σ γ) (u:γ[i]?=some (some<|.own ds)) (f:σ[i]?=some (some<|.ref a)) (w:Mut (some us)) (r:∀F H':Hp,Same (Pu.off (zof B γ σ) H) F->H' a=some us->OR K F H' a es)
  (k1:autoParam (ds.adr a=λb=>b=a) au_0) (k2:autoParam (es.adr a=λb=>b=a) au_0) :
  Xt K H0 B (upd H a us) σ (γ.set i<|some<|.own es)/\Fr B H σ γ (upd H a us) σ (γ.set i<|some<|.own es):=by
 refine E.change (o:=ds) (o':=es) u f (λb x h n=>by rw[Xw (λz=>n (by rw[k1];exact z))];exact h) (λb h=>by rw[k1]at h;rw[show b=a from h,X9];exact w) (λb h=>.inl (by rw[k1];rw[k2]at h;exact h)) (r _ _ ?_ X9)
 intro b x h;obtain⟨v,p⟩:=Td h;have s:b≠a:=λz=>p (.inr ⟨i,ds,a,u,f,by rw[k1];exact z⟩);refine XX (by rw[Xw s];exact v) λz=>p ?_;rcases z with z|⟨j,fs,C,A,l,g⟩
 ·exact .inl z
 ·rcases Ka A with⟨y,q,_⟩|⟨_,e⟩
  ·subst y;cases q
   rw[f]at l;cases l
   rw[k2]at g;exact absurd g s
  ·exact .inr ⟨j,fs,C,e,l,g⟩
end
end Pu
namespace Pu
open PySem PySem.Spec PyProof.Rows L2 Own
abbrev XR:=Str->Prop
noncomputable def eI:Int->Nat
 | .ofNat n=>2*n
 | .negSucc n=>2*n+1
noncomputable def dI(n:Nat):Int:=if n % 2=0 then .ofNat (n / 2)else .negSucc (n / 2)
def Znk:∀i,dI (eI i)=i
 | .ofNat n=>by
  show dI (2*n)=_;unfold dI;simp
 | .negSucc n=>by
  show dI (2*n+1)=_;unfold dI;lia
noncomputable def ND(r:Ye):Str:=⟨(0::r.map eI).toArray⟩
noncomputable def Zhc:Yj->Option (Ye)
 | 0::t=>some (t.map dI)
 |_=>none
noncomputable def NJ(x:Str):Option (Ye):=Zhc x.cps.toList
def Zah(r:Ye):NJ (ND r)=some r:=by
 show some ((r.map eI).map dI)=some r;rw[Q0];congr 1
 conv=>rhs;rw[←List.map_id r]
 exact Vc λi _=>Znk i
def XE(f:Yg)(E:XK)(c:Str)(H':Hp):Prop:=match NJ c with
 |none=>E (.ref<|ExcR.Xs f c) none H'
 |some r=>∀(g l:Addr) (o:Obj),H' g=some (.xd [("members",.ref l)])->H' l=some (.frz o<|.lst<|r.map V.int)->E (.ref<|ExcR.Xs f "Ringed") (some g) H'
def XE.plain {c H'} (g:NJ c=none) (h:XE f E c H'):E (.ref<|ExcR.Xs f c) none H':=by
 unfold XE at h;simp_all
def XE.of {E c H'} (g:NJ c=none) (h:E (.ref<|ExcR.Xs f c) none H'):XE f E c H':=by
 unfold XE;simp_all
def XE.mem (h:XE g E (ND r) H') {f l o} (p:H' f=some (.xd [("members",.ref l)])) (n:H' l=some (.frz o<|.lst<|r.map V.int)) :
  E (.ref<|ExcR.Xs g "Ringed") (some f) H':=by
 unfold XE at h;rw[Zah]at h
 grind
def XE.ofM {E r H'} (h:∀f l o,H' f=some (.xd [("members",.ref l)])->H' l=some (.frz o<|.lst<|r.map V.int)->E (.ref<|ExcR.Xs g "Ringed") (some f) H'):XE g E (ND r) H':=by
 unfold XE;rw[Zah];lia
abbrev PTE:=Γ->(S->Prop)->XR->Prop
abbrev PTT:=Γ->(Bool->Prop)->XR->Prop
abbrev PTA:=Γ->(List S->Prop)->XR->Prop
abbrev PTO:=Γ->(Option Int->Prop)->XR->Prop
structure Nq where
 nx:Γ->Prop
 rt:S->Prop
 ex:Γ->Str->Prop
 bk:Γ->Prop:=λ_=>False
 ct:Γ->Prop:=λ_=>False
 rv:Γ->D->Prop:=λ_ _=>False
abbrev PTS:=Nq->Γ->Prop
abbrev PTG:=S->Γ->(Γ->Prop)->Prop
abbrev Sy:=List S->Γ->(Γ->Prop)->Prop
inductive TVs (K:Yc) (Z:Addr->Prop) (H0 H H':Hp):List S->List V->Prop
 |nil:TVs K Z H0 H H' [] []
 |cons {s:S} {v:V} {ss:List S} {vs:List V}:TV K Z H0 H H' s v->TVs K Z H0 H H' ss vs->TVs K Z H0 H H' (s::ss) (v::vs)
section
variable (K:Yc) (mg:Yg) (E:L2.St->XK)
def Xp(t:TE)(p:PTE):Prop:=∀(l:Hp) (B:Addr->Prop) (H:Hp) (g:L2.St) (h:Γ) (R:S->Prop) (X:XR) (Q:VK),Xt K l B H g h->p h R X->
 (∀s v f,R s->Same H f->TV K (zof B h g) l H f s v->Q v f)->(∀c f,X c->Same H f->XE mg (E g) c f)->t g H Q
def K6(t:TT)(p:PTT):Prop:=∀(l:Hp) (B:Addr->Prop) (H:Hp) (g:L2.St) (h:Γ) (R:Bool->Prop) (X:XR) (Q:Bool->Hp->Prop),Xt K l B H g h->p h R X->
 (∀b f,R b->Same H f->Q b f)->(∀c f,X c->Same H f->XE mg (E g) c f)->t g H Q
def XC(t:TA)(p:PTA):Prop:=∀(o:Hp) (B:Addr->Prop) (H:Hp) (g:L2.St) (h:Γ) (R:List S->Prop) (X:XR) (Q:List V->Hp->Prop),Xt K o B H g h->p h R X->
 (∀n l f,R n->Same H f->TVs K (zof B h g) o H f n l->Q l f)->(∀c f,X c->Same H f->XE mg (E g) c f)->t g H Q
def TH(t:TO)(p:PTO):Prop:=∀(l:Hp) (B:Addr->Prop) (H:Hp) (g:L2.St) (h:Γ) (R:Option Int->Prop) (X:XR) (Q:Option Int->Hp->Prop),Xt K l B H g h->p h R X->
 (∀o f,R o->Same H f->Q o f)->(∀c f,X c->Same H f->XE mg (E g) c f)->t g H Q
structure Ap (H0:Hp) (B:Addr->Prop) (H:Hp) (σ:L2.St) (γ:Γ) (R:Nq) (D:Ends):Prop where
 nx:∀σ' γ' H',R.nx γ'->Xt K H0 B H' σ' γ'->Fr B H σ γ H' σ' γ'->D.nx σ' H'
 rt:∀s v H',R.rt s->Same H0 H'->TV K B H0 H0 H' s v->D.rt v H'
 ex:∀σ' γ' c H',R.ex γ' c->Xt K H0 B H' σ' γ'->Fr B H σ γ H' σ' γ'->XE mg (E σ') c H'
 bk:∀σ' γ' H',R.bk γ'->Xt K H0 B H' σ' γ'->Fr B H σ γ H' σ' γ'->D.bk σ' H'
 ct:∀σ' γ' H',R.ct γ'->Xt K H0 B H' σ' γ'->Fr B H σ γ H' σ' γ'->D.ct σ' H'
 rv:∀σ' γ' d v H',R.rv γ' d->Xt K H0 B H' σ' γ'->Fr B H σ γ H' σ' γ'->Rp K (off (zof B γ' σ') H') d v->D.rt v H'
def X0(t:TS)(p:PTS):Prop:=∀(h:Hp) (B:Addr->Prop) (H:Hp) (f:L2.St) (g:Γ) (R:Nq) (D:Ends),(∀b,B b->∃o,h b=some o)->Xt K h B H f g->p R g->Ap K mg E h B H f g R D->t D f H
end
section
variable {K:Yc}{mg:Yg}{E:L2.St->XK}{H0 H H1 H':Hp}{B Z Z':Addr->Prop}{σ:L2.St}{γ:Γ}
def TVs.weakG {H1 g}:∀{ss}{vs:List V},Same H H1->TVs K Z H0 H1 g ss vs->TVs K Z H0 H g ss vs:=by
 intro ss
 induction ss with
 |nil=>
  intro _ _ h;cases h
  exact .nil
 |cons _ _ l=>
  intro _ f h;cases h with
  |cons h r=>
   exact .cons (TV.weak f (λ_ z=>z) h) (l f r)
def TVs.rps (g:Same H0 H'):∀{ss}{vs:List V},TVs K Z H0 H H' ss vs->Rps K H' (ss.map S.d) vs:=by
 intro ss
 induction ss with
 |nil=>
  intro _ h;cases h
  exact .nil
 |cons _ _ f=>
  intro _ h;cases h with
  |cons h r=>
   exact .cons (h.rp g) (f r)
theorem TVs.shd {ds:List D} (l:Same H0 H') (g:∀b,Z b->Mut (H b)) (n:Same H H'):∀{f vs}{ds:List D},TVs K Z H0 H H' f vs->f.map S.shd=ds.map some->Rps K (off Z H') ds vs
 |_,_,[],.nil,_=>.nil
 |_,_,_::_,.nil,e|_,_,[],.cons _ _,e=>by cases e
 |_,_,d::ds,.cons h r,e=>by
  rw[Qb,Qb,JF]at e;exact .cons (h.shd l g n e.1) (TVs.shd (ds:=ds) l g n r e.2)
def Rp.int_inv (h:Rp K H (.int i) v):v=.int i:=by cases h;rfl
def Rp.bl_inv (h:Rp K H (.bl b) v):v=.bl b:=by cases h;rfl
def Rp.str_inv (h:Rp K H (.str x) v):v=.str x:=by cases h;rfl
def Rp.non_inv (h:Rp K H .non v):v=.non:=by cases h;rfl
def Rp.ty_inv (h:Rp K H (.ty n) v):v=.ty n:=by cases h;rfl
noncomputable def DC(i:Nat):PTE:=λγ R _=>match γ[i]? with
 |some (some<|.own f)=>R (.view f)
 |some (some s)=>R s
 |_=>False
def Xo(i:Nat):Xp K mg E (K5 i) (DC i):=by
 intro H0 B H σ γ R X Q f h q _;unfold DC at h;split at h
 ·rename_i o e;obtain⟨v,g,a,rfl,r,n⟩:=f.slot i _ e;exact⟨_,g,q _ _ H h (Same.refl _) ⟨a,rfl,n⟩⟩
 ·rename_i s p e;obtain⟨v,g,l⟩:=f.slot i _ e;refine⟨v,g,q _ _ H h (Same.refl _) ?_⟩;cases s with
  |bor d|sh d=>exact l
  |own o=>grind
  |_=>exact l.elim
 ·grind
noncomputable def pC(d:D):PTE:=λ_ R _=>R (.sh d)
def BI(h:∀H,Rp K H d v):Xp K mg E (tC v) (pC d):=by
 intro H0 B H σ γ R X Q f p q _;exact q _ _ H p (Same.refl _) (h _)
def Xx:Xp K mg E (tC<|.int i) (pC<|.int i):=BI λ_=>.int i
def Nw:Xp K mg E (tC<|.bl b) (pC<|.bl b):=BI λ_=>.bl b
def NK:Xp K mg E (tC<|.str x) (pC<|.str x):=BI λ_=>.str x
def TC:Xp K mg E (tC<|.ty n) (pC<|.ty n):=BI λ_=>.ty n
noncomputable def p2(a b:PTE)(f:S->S->(S->Prop)->Prop):PTE:=λγ R X=>a γ (λx=>b γ (λy=>f x y R) X) X
def PB{A w a b f}(Y:Xp K mg E A a)(U:Xp K mg E w b)(N:∀H0 H h Z x y v u R Q,Same H0 h->Same H h->(∀b,Z b->Mut (H b))->TV K Z H0 H h x v->TV K Z H0 H h y u->f x y R->(∀s z H',R s->Same h H'->TV K Z H0 H H' s z->Q z H')->r v u h Q) :
  Xp K mg E (tOp r A w) (p2 a b f):=by
 intro H0 B H σ γ R X Q l p q C;refine Y H0 B H σ γ _ X _ l p (λx v H1 h1 n L=>?_) C;have g:=l.grow n;refine U H0 B H1 σ γ _ X _ g h1 (λy u h h2 o J=>?_) λc H' T S'=>C c H' T (n.trans S');exact N H0 H h _ x y v u R Q (g.same.trans o) (n.trans o) l.zm (L.grow o) (TV.weak n (λ_ z=>z) J) h2 λs z H' M S3 G=>q s z H' M ((n.trans o).trans S3) G
def fI0(g:Int->Int->D):S->S->(S->Prop)->Prop:=λx y R=>match x.d,y.d with
 | .int i,.int j=>R (.sh<|g i j)
 |_,_=>False
def fI(C:Int->Int->Prop)(g:Int->Int->D):S->S->(S->Prop)->Prop:=λx y R=>match x.d,y.d with
 | .int i,.int j=>C i j/\R (.sh<|g i j)
 |_,_=>False
def By{g'}{l f a b}(w:∀H i j,Rp K H (g' i j) (g i j))(A:Xp K mg E l a)(z:Xp K mg E f b):Xp K mg E (tOp (rI0 g) l f) (p2 a b<|fI0 g'):=by
 refine PB A z λH0 H J Z x y v u R Q n L M s r h q=>?_;unfold fI0 at h;have p:=s.rp n;have o:=r.rp n;split at h
 ·rename_i i j G C;rw[G]at p;rw[C]at o;exact⟨i,j,p.int_inv,o.int_inv,q _ _ J h (Same.refl _) (w _ i j)⟩
 ·grind
def As{g r}{l f a b}(z:∀H i j,Rp K H (r i j) (g i j))(G:Xp K mg E l a)(A:Xp K mg E f b):Xp K mg E (tOp (rI C g) l f) (p2 a b<|fI C r):=by
 refine PB G A λH0 H M Z x y v u R Q n N T w s h q=>?_;unfold fI at h;have p:=w.rp n;have o:=s.rp n;split at h
 ·rename_i i j L J;rw[L]at p;rw[J]at o;exact⟨i,j,p.int_inv,o.int_inv,h.1,q _ _ M h.2 (Same.refl _) (z _ i j)⟩
 ·grind
section
variable {ta tb tc:TE}{a b c:PTE}
def XG(g:Xp K mg E ta a)(f:Xp K mg E tb b):Xp K mg E (tOp (rI0 λi j=>.int (i+j)) ta tb) (p2 a b (fI0 λi j=>.int (i+j))):=By (λ_ _ _=>.int _) g f
def Kb(g:Xp K mg E ta a)(f:Xp K mg E tb b):Xp K mg E (tOp (rI0 λi j=>.int (i-j)) ta tb) (p2 a b (fI0 λi j=>.int (i-j))):=By (λ_ _ _=>.int _) g f
def Nn(g:Xp K mg E ta a)(f:Xp K mg E tb b):Xp K mg E (tOp (rI CMul λi j=>.int (i*j)) ta tb) (p2 a b (fI CMul λi j=>.int (i*j))):=As (λ_ _ _=>.int _) g f
def Kq(g:Xp K mg E ta a)(f:Xp K mg E tb b):Xp K mg E (tOp (rI A2 λi j=>.int (i / j)) ta tb) (p2 a b (fI A2 λi j=>.int (i / j))):=As (λ_ _ _=>.int _) g f
def XI(g:Xp K mg E ta a)(f:Xp K mg E tb b):Xp K mg E (tOp (rI (λ_ j=>0<j) λi j=>.int (i % j)) ta tb) (p2 a b (fI (λ_ j=>0<j) λi j=>.int (i % j))):=As (λ_ _ _=>.int _) g f
def Eg(g:Xp K mg E ta a)(f:Xp K mg E tb b):Xp K mg E (tOp (rI D3 λi j=>.int (i ^ j.toNat)) ta tb) (p2 a b (fI D3 λi j=>.int (i ^ j.toNat))):=As (λ_ _ _=>.int _) g f
def Pi(g:Xp K mg E ta a)(f:Xp K mg E tb b):Xp K mg E (tOp (rI0 λi j=>.bl (decide (i<j))) ta tb) (p2 a b (fI0 λi j=>.bl (decide (i<j)))):=By (λ_ _ _=>.bl _) g f
def KE(g:Xp K mg E ta a)(f:Xp K mg E tb b):Xp K mg E (tOp (rI0 λi j=>.bl (decide (j<i))) ta tb) (p2 a b (fI0 λi j=>.bl (decide (j<i)))):=By (λ_ _ _=>.bl _) g f
def N8(g:Xp K mg E ta a)(f:Xp K mg E tb b):Xp K mg E (tOp (rI0 λi j=>.bl (decide (j<=i))) ta tb) (p2 a b (fI0 λi j=>.bl (decide (j<=i)))):=By (λ_ _ _=>.bl _) g f
def fEq(neg:Bool):S->S->(S->Prop)->Prop:=λx y R=>match x.d,y.d with
 | .int i,.int j=>R (.sh<|.bl (if neg then !decide (i=j)else decide (i=j)))
 | .str i,.str j=>R (.sh<|.bl (if neg then !decide (i=j)else decide (i=j)))
 | .bl i,.bl j=>R (.sh<|.bl (if neg then !decide (i=j)else decide (i=j)))
 |_,_=>False
def Si{g h:Type}[DecidableEq g][DecidableEq h]{f:g->h}(l:∀a b,f a=f b->a=b)(a b:g):decide (f a=f b)=decide (a=b):=by grind
def fIx:S->S->(S->Prop)->Prop:=λx y R=>match x.d,y.d with
 | .lst g,.int k=>∃d,atI g k=some d/\R (x.sub d)
 | .tup g,.int k=>∃d,atI g k=some d/\R (x.sub d)
 | .scr f,.int k=>∃i,atI f k=some i/\R (.sh<|.int i)
 | .fL f,.int k=>∃i,atI f k=some i/\R (.sh<|.int i)
 |_,_=>False
def MJ{P:D->V->Prop}(f:vs.length=ds.length)(h:∀(i:Nat) d,ds[i]?=some d->∃u,vs[i]?=some u/\P d u)(e:atI ds k=some d):∃u,atI vs k=some u/\P d u:=by
 unfold atI at e ⊢;cases q:ixN ds.length k with
 |_=>grind
def Kc(ha:Xp K mg E ta a)(hb:Xp K mg E tb b):Xp K mg E (tOp (λx y H Q=>Sb K x y H Q\/SL K x y H Q) ta tb) (p2 a b fIx):=by
 refine PB ha hb λH0 H s Z x y v u R Q r Y hm A U h q=>?_;unfold fIx at h;have f:=U.rp r;obtain⟨pl,pt⟩:=A.part r hm Y;split at h
 ·rename_i T k o n;rw[n]at f;obtain⟨d,hd,g⟩:=h;obtain⟨l,w,rfl,M,L,J⟩:=pl T o;obtain⟨z,C,tz⟩:=MJ L J hd;exact .inl ⟨l,w,k,z,rfl,f.int_inv,SqL.of M,C,q _ _ s g (Same.refl _) tz⟩
 ·rename_i T k o n;rw[n]at f;obtain⟨d,hd,g⟩:=h;obtain⟨l,w,rfl,M,L,J⟩:=pt T o;obtain⟨z,C,tz⟩:=MJ L J hd;exact .inr ⟨l,w,k,z,rfl,f.int_inv,SqT.of M,C,q _ _ s g (Same.refl _) tz⟩
 ·rename_i ns k o n;rw[n]at f;obtain⟨i,N,g⟩:=h;have p:=A.rp r;rw[o]at p;cases p with
  |scr G=>exact .inl ⟨_,_,k,.int i,rfl,f.int_inv,G,Tp N,q _ _ s g (Same.refl _) (.int i)⟩
 ·rename_i ns k o n;rw[n]at f;obtain⟨i,N,g⟩:=h;have p:=A.rp r;rw[o]at p;cases p with
  |fL G=>exact .inl ⟨_,_,k,.int i,rfl,f.int_inv,.inl (.inr ⟨_,G⟩),Tp N,q _ _ s g (Same.refl _) (.int i)⟩
 ·exact h.elim
noncomputable def Zg1(a b:PTE):PTE:=λγ R X=>a γ (λx=>match x.d with | .bl c=>if c=true then b γ R X else R (.sh<|.bl false)|_=>False) X
noncomputable def M7(a:PTE):PTE:=λγ R X=>a γ (λx=>match x.d with | .bl c=>R (.sh<|.bl (!c))|_=>False) X
def Bs(C:Xp K mg E ta a)(A:Xp K mg E tb b):Xp K mg E (Df ta tb) (Zg1 a b):=by
 intro H0 B H σ γ R X Q h p q r;refine C H0 B H σ γ _ X _ h p (λx v H1 n l w=>?_) r;have f:=h.grow l;have o:=w.rp f.same;split at n
 ·rename_i c J;rw[J]at o;refine⟨c,o.bl_inv,?_⟩;split at n
  ·rename_i g;rw[WO g];exact A H0 B H1 σ γ _ X _ f n (λy u N G L s=>q y u N G (l.trans L) (TV.weak l (λ_ z=>z) s)) λc H' g M=>r c H' g (l.trans M)
  ·rename_i g;rw[WM g];exact q _ _ H1 n l (.bl _)
 ·grind
def RJ(r:Xp K mg E ta a):Xp K mg E (OC ta) (M7 a):=by
 intro H0 B H σ γ R X Q f p q o;refine r H0 B H σ γ _ X _ f p (λx v H1 h l n=>?_) o;have g:=n.rp (f.grow l).same;split at h
 ·rename_i c s;rw[s]at g;exact⟨c,g.bl_inv,q _ _ H1 h l (.bl _)⟩
 ·grind
noncomputable def Zig(a:PTE):PTE:=λγ R X=>a γ (λx=>match x.d with | .int i=>R (.sh<|.int (-i))|_=>False) X
def Pp(r:Xp K mg E ta a):Xp K mg E (tUn (rU λi=>.int (-i)) ta) (Zig a):=by
 intro H0 B H σ γ R X Q f p q o;refine r H0 B H σ γ _ X _ f p (λx v H1 h l n=>?_) o;have g:=n.rp (f.grow l).same;split at h
 ·rename_i c s;rw[s]at g;exact⟨c,g.int_inv,q _ _ H1 h l (.int _)⟩
 ·grind
noncomputable def N9(a:PTE):PTT:=λγ R X=>a γ (λx=>match x.d with | .bl c=>R c|_=>False) X
def P1(r:Xp K mg E ta a):K6 K mg E (F5 ta) (N9 a):=by
 intro H0 B H σ γ R X Q f p q o;refine r H0 B H σ γ _ X _ f p (λx v H1 h l n=>?_) o;have g:=n.rp (f.grow l).same;split at h
 ·rename_i c s;rw[s]at g;exact⟨c,g.bl_inv,q _ H1 h l⟩
 ·grind
def Ze4(f:Xp K mg E ta a):K6 K mg E (tB ta) (N9 a):=P1 f
variable {sa sb:TT}{pa pb:PTT}
noncomputable def LJ(a b:PTT):PTT:=λγ R X=>a γ (λc=>if c=true then b γ R X else R false) X
noncomputable def pOr(a b:PTT):PTT:=λγ R X=>a γ (λc=>if c=true then R true else b γ R X) X
noncomputable def Of(a:PTT):PTT:=λγ R X=>a γ (λc=>R (!c)) X
def Zd5(r:K6 K mg E sa pa)(o:K6 K mg E sb pb):K6 K mg E (GC sa sb) (LJ pa pb):=by
 intro H0 B H σ γ R X Q f p q l;refine r H0 B H σ γ _ X _ f p (λc H1 n h=>?_) l;split at n
 ·rename_i g;rw[WO g];exact o H0 B H1 σ γ _ X _ (f.grow h) n (λy w s u=>q y w s (h.trans u)) λc H' g v=>l c H' g (h.trans v)
 ·grind
def Zmp(r:K6 K mg E sa pa)(o:K6 K mg E sb pb):K6 K mg E (tOr sa sb) (pOr pa pb):=by
 intro H0 B H σ γ R X Q f p q l;refine r H0 B H σ γ _ X _ f p (λc H1 n h=>?_) l;split at n
 ·grind
 ·rename_i g;rw[WM g];exact o H0 B H1 σ γ _ X _ (f.grow h) n (λy w s u=>q y w s (h.trans u)) λc H' g v=>l c H' g (h.trans v)
def Zfd(h:K6 K mg E sa pa):K6 K mg E (DG sa) (Of pa):=by
 intro H0 B H σ γ R X Q f p q g;exact h H0 B H σ γ _ X _ f p (λc H1 l n=>q _ H1 l n) g
end
noncomputable def Nb:PTA:=λ_ R _=>R []
noncomputable def Pe(a:PTE)(r:PTA):PTA:=λγ R X=>a γ (λs=>r γ (λf=>R (s::f)) X) X
def X6:XC K mg E KP Nb:=by
 intro H0 B H σ γ R X Q f p q _;exact q _ _ H p (Same.refl _) .nil
def Kz{a r}(y:Xp K mg E te a)(w:XC K mg E n r):XC K mg E (Kv te n) (Pe a r):=by
 intro H0 B H σ γ R X Q f p q h;refine y H0 B H σ γ _ X _ f p (λs v H1 A g u=>?_) h;refine w H0 B H1 σ γ _ X _ (f.grow g) A (λL J G z l o=>?_) λc H' x C=>h c H' x (g.trans C);exact q _ _ G z (g.trans l) (.cons (u.grow l)<|TVs.weakG g o)
noncomputable def Bm:List S->Option (List D)
 |[]=>some []
 |s::r=>match s.shd,Bm r with
  |some d,some f=>some (d::f)
  |_,_=>none
theorem AI:∀{ss}{ds:List D},Bm ss=some ds->ss.map S.shd=ds.map some
 |[],ds,h=>by cases h;rfl
 |s::r,ds,h=>by
  unfold Bm at h;split at h
  ·rename_i d l g f;cases h
   rw[Qb,Qb,g,AI f]
  ·grind
noncomputable def Rg(r:PTA):PTE:=λγ R X=>r γ (λg=>match Bm g with|some f=>f.length<=1000/\R (.sh<|.tup f)|none=>False) X
noncomputable def G3(r:PTA):PTE:=λγ R X=>r γ (λg=>match Bm g with|some f=>f.length<=1000/\R (.own f)|none=>False) X
def AL(h:n<=1000):n<=sizeLine:=VX (Zji h)
def PU(A:XC K mg E w r):Xp K mg E (MF w) (Rg r):=by
 intro H0 B H σ γ R X Q g p q y;refine A H0 B H σ γ _ X _ g p (λC v H1 h n x=>?_) y;split at h
 ·rename_i ds e;have f:=g.grow n;have rp:=x.shd (ds:=ds) f.same g.zm n (AI e);refine⟨by rw[rp.len];exact AL h.1,λl s=>?_⟩;have u:=Kg (o:=.tup v) s;refine q _ _ _ h.2 (n.trans u) (.tup (XX X9 λz=>?_)<|Rps.mono (X2 u λ_ _ _ z=>z) rp)
  have:=f.zm l z
  rw[s]at this;exact this
 ·grind
def NX{H H1 l vs ds}(h:Same H H1)(f:H1 l=none)(rp:Rps K (off Z H1) ds vs):TV K Z H0 H (upd H1 l<|.lst vs) (.own ds) (.ref l):=
 ⟨l,rfl,(λ_ e=>e▸h.free f),vs,X9,Rps.mono (X2 (Kg f) λb o g z y=>y.elim z λe=>by rw[e,f]at g;cases g) rp⟩
def P3(v:XC K mg E o r):Xp K mg E (GH o) (G3 r):=by
 intro H0 B H σ γ R X Q f p q u;refine v H0 B H σ γ _ X _ f p (λx w H1 h g s=>?_) u;split at h
 ·rename_i ds e;have rp:=s.shd (ds:=ds) (f.grow g).same f.zm g (AI e);refine⟨by rw[rp.len];exact AL h.1,λl n=>?_⟩;exact q _ _ _ h.2 (g.trans<|Kg n) (NX g n rp)
 ·grind
abbrev Pc:=List D->(S->Prop)->XR->Prop
noncomputable def Xv(mg:Yg)(c:Pc)(K:Yc):Sp:=λg H Q E=>∃f R X,Rps K H f g/\c f R X/\(∀s v H',R s->Same H H'->TV K (λb=>Mut (H b)) H H H' s v->Q v H')/\∀e H',X e->Same H H'->XE mg E e H'
noncomputable def S.back:S->S
 | .bor d=>Pm d | .view o=>.tmp o.d|s=>s
def TV.back (env:Xt K H0 B H1 σ γ) (o:Same H H1) (f:Same H1 H') (h:TV K (λb=>Mut (H1 b)) H1 H1 H' s v):TV K (zof B γ σ) H0 H H' s.back v:=by
 cases s with
 |bor d=>exact Ti (λb z=>Tx f (env.zm b z)) (Rp.mono f h)
 |sh d=>exact Rp.mono (X2 (Same.refl _) λb _ _ z y=>z (env.zm b y)) h
 |own n=>
  obtain⟨a,rfl,l,r⟩:=h;exact⟨a,rfl,(λb g=>o.free (l b g)),r.mono (X2 (Same.refl _) λb _ _ z y=>z (y.imp (env.zm b) id)) λ_ _ _ q=>q⟩
 |view n=>
  obtain⟨a,rfl,r⟩:=h;exact r.rp off_sub
 |tmp d=>exact h
noncomputable def OA(c:Pc)(r:PTA):PTE:=λγ R X=>r γ (λf=>c (f.map S.d) (λs=>R s.back) λ_=>False) X
noncomputable def Hg(c:Pc)(r:PTA):PTE:=λγ R X=>r γ (λf=>c (f.map S.d) (λs=>R s.back) X) X
def Tw{l r}(y:XC K mg E l r):Xp K mg E (Nh (Xv mg c K) [] E0 l) (OA c r):=by
 intro H0 B H σ γ R X Q g p q w;refine y H0 B H σ γ _ X _ g p (λG C H1 A h u=>?_) w;rw[Q1];have f:=g.grow h;exact⟨_,_,_,u.rps f.same,A,λs v H' x n o=>q _ _ H' x (h.trans n) (o.back f h n),λ_ _ z=>z.elim⟩
def Zp2{o r n}(z:XC K mg (λ_=>n) o r):Xp K mg (λ_=>n) (Nh (Xv mg c K) [] n o) (Hg c r):=by
 intro H0 B H σ γ R X Q g p q u;refine z H0 B H σ γ _ X _ g p (λJ G H1 C l x=>?_) u;rw[Q1];have f:=g.grow l;exact⟨_,_,X,x.rps f.same,C,λs v H' y h w=>q _ _ H' y (l.trans h) (w.back f l h),λe H' A h=>u e H' A (l.trans h)⟩
def Xt.set {s f}{v} (l:Xt K H0 B H σ γ) (g:Same H H') (h:TV K (zof B γ σ) H0 H H' s v) (e:s.slot=some f) :
  Xt K H0 B H' (σ.set i<|some v) (γ.set i<|some f)/\Fr B H σ γ H' (σ.set i<|some v) (γ.set i<|some f):=by
 by_cases n:i<γ.length
 ·exact l.put g h e n
 ·rw[List.set_eq_of_length_le (by rw[l.len];lia),List.set_eq_of_length_le (by lia)];exact⟨l.grow g,Fr.grow g⟩
def Upd(g:Yj)(σ f:L2.St):Prop:=(∀j,j∉g->f[j]?=σ[j]?)/\f.length=σ.length
def N3(K:Yc)(h:Yj)(t:TG)(p:PTG):Prop:=∀(H0:Hp) (B:Addr->Prop) (H H':Hp) (σ:L2.St) (γ:Γ) (s:S) (v:V) (R:Γ->Prop) (Q:L2.St->Hp->Prop),Xt K H0 B H σ γ->Same H H'->TV K (zof B γ σ) H0 H H' s v->p s γ R->
 (∀f g,R g->Xt K H0 B H' f g->Fr B H σ γ H' f g->Upd h σ f->Q f H')->t v σ H' Q
noncomputable def Bo(i:Nat):PTG:=λs γ R=>match s.slot with|some f=>R (γ.set i<|some f)|none=>False
def Kk(i:Nat):N3 K [i] (Sj i) (Bo i):=by
 intro H0 B H H' σ γ s v R Q f n g p q;unfold Bo at p;split at p
 ·rename_i o e;obtain⟨l,f1⟩:=f.set n g e;exact q _ _ p l f1 ⟨λj h=>Tj λz=>h (by grind),QI⟩
 ·grind
noncomputable def GJ:Sy:=λf γ R=>match f with|[]=>R γ|_=>False
noncomputable def Ls(g:PTG)(r:Sy):Sy:=λh γ R=>match h with|s::t=>g s γ λf=>r t f R|[]=>False
def TV.notown {σ'}{γ'}{Hb} (f:Fr B H σ γ H' σ' γ') (g:Same H H') (n:∀ds,s≠.own ds) (l:∀ds,s≠.view ds) (h:TV K (zof B γ σ) H0 Hb H s v):TV K (zof B γ' σ') H0 H' H' s v:=by
 cases s with
 |bor d=>exact h
 |sh d=>exact Rp.mono f.off h
 |tmp d=>exact Rp.mono g h
 |_=>grind
def TVs.notown (f:Fr B H σ γ H g l):∀{ss}{vs:List V},(∀s∈ss,∀ds,s≠.own ds/\s≠.view ds)->TVs K (zof B γ σ) H0 u H ss vs->TVs K (zof B l g) H0 H H ss vs:=by
 intro ss
 induction ss with
 |nil=>
  intro _ _ h;cases h
  exact .nil
 |cons _ _ o=>
  intro _ n h;cases h with
  |cons h r=>
   exact .cons (h.notown f (Same.refl _) (λds=>(n _ Qy ds).1) λds=>(n _ Qy ds).2) (o (λs p=>n s (Qf _ p)) r)
def Eh(d:D):arg d=.sh d\/arg d=.bor d:=by unfold arg;cases imm d<;>simp
def OE(d:D):Pm d=.sh d\/Pm d=.tmp d:=by unfold Pm;cases imm d<;>simp
def Lh(s:S)(d:D):∀ds,s.sub d≠.own ds/\s.sub d≠.view ds:=λds=>by
 cases s with
 |bor b=>rcases Eh d with e|e<;>(show arg d≠_/\arg d≠_;rw[e];exact⟨(λz=>by cases z),(λz=>by cases z)⟩)
 |tmp b=>rcases OE d with e|e<;>(show Pm d≠_/\Pm d≠_;rw[e];exact⟨(λz=>by cases z),(λz=>by cases z)⟩)
 |sh b=>exact⟨(λz=>by cases z),(λz=>by cases z)⟩
 |own b|view b=>
  cases b with
  |nst f|nsl a f=>rcases OE d with e|e<;>(show Pm d≠_/\Pm d≠_;rw[e];exact⟨(λz=>by cases z),(λz=>by cases z)⟩)
  |_=>exact⟨(λz=>by cases z),(λz=>by cases z)⟩
def Bw(K:Yc)(o:Yj)(t:TGs)(p:Sy):Prop:=∀(H0:Hp) (B:Addr->Prop) (H:Hp) (σ:L2.St) (γ:Γ) (h:List S) (l:List V) (R:Γ->Prop) (Q:L2.St->Hp->Prop),Xt K H0 B H σ γ->TVs K (zof B γ σ) H0 H H h l->(∀s∈h,∀n,s≠.own n/\s≠.view n)->p h γ R->
 (∀f g,R g->Xt K H0 B H f g->Fr B H σ γ H f g->Upd o σ f->Q f H)->t l σ H Q
def Ge:Bw K [] O3 GJ:=by
 intro H0 B H σ γ l h R Q f g n p q;cases g with
 |nil=>exact⟨rfl,q _ _ p f Fr.refl ⟨λ_ _=>rfl,rfl⟩⟩
 |cons _ _=>exact p.elim
def Be{g r x w}(U:N3 K N g x)(T:Bw K M r w):Bw K (N++M) (LL g r) (Ls x w):=by
 intro H0 B H σ γ ss vs R Q v J y p q;cases J with
 |nil=>exact p.elim
 |cons h t=>
  refine⟨_,_,rfl,U H0 B H H σ γ _ _ _ _ v (Same.refl _) h p λl o L e1 f1 C=>?_⟩;refine T H0 B H l o _ _ _ _ e1 (TVs.notown f1 (λs u=>y s (Qf _ u)) t) (λs u=>y s (Qf _ u)) L λf n p2 e2 Y A=>?_;exact q f n p2 e2 (f1.trans Y) ⟨λj G=>(A.1 j λz=>G (Qk _ z)).trans (C.1 j λz=>G (QR _ z)),A.2.trans C.2⟩
noncomputable def D9(n:Nat)(r:Sy):PTG:=λs γ R=>match s.d with | .tup f=>f.length=n/\r (f.map s.sub) γ R|_=>False
theorem TVs.of_part {ds:List D}{s:S}:∀{vs}{ds:List D},vs.length=ds.length->(∀(i:Nat) d,ds[i]?=some d->∃u,vs[i]?=some u/\TV K Z H0 H H' (s.sub d) u)->TVs K Z H0 H H' (ds.map s.sub) vs
 |[],[],_,_=>.nil
 |[],_::_,e,_|_::_,[],e,_=>by cases e
 |v::vs,d::ds,e,h=>by
  obtain⟨u,g,f⟩:=h 0 d rfl;cases g
  exact .cons f (TVs.of_part (ds:=ds) (by grind) λi l hd=>by simpa using h (i+1) l (by grind))
def CM{y r x}(J:Bw K y r x):N3 K y (Dr K n r) (D9 n x):=by
 intro H0 B H H' σ γ s v R Q g u A p q;unfold D9 at p;have f:=g.grow u;obtain⟨_,pt⟩:=A.part f.same g.zm u;split at p
 ·rename_i ds e;obtain⟨a,w,rfl,M,z,L⟩:=pt ds e;refine⟨a,w,rfl,SqT.of M,z.trans p.1,?_⟩;refine J H0 B H' σ γ _ w R Q f (TVs.notown (Fr.refl) (λC o ds=>?_)<|TVs.of_part (ds:=ds) z L) (λC o ds=>?_) p.2 λh l N T f1 G=>q h l N T (Fr.trans (Fr.grow u) f1) G
  ·obtain⟨d,_,rfl⟩:=Qi.mp o;exact Lh s d ds
  ·obtain⟨d,_,rfl⟩:=Qi.mp o;exact Lh s d ds
 ·grind
def Ap.from {D p r} (e:Ap K mg E H0 B H σ γ R D) (f:Fr B H σ γ H1 p r):Ap K mg E H0 B H1 p r R D:=
 ⟨λg h H' o n l=>e.nx g h H' o n (f.trans l),e.rt,λg h c H' o n l=>e.ex g h c H' o n (f.trans l),λg h H' o n l=>e.bk g h H' o n (f.trans l),λg h H' o n l=>e.ct g h H' o n (f.trans l),λg h d v H' o n l=>e.rv g h d v H' o n (f.trans l)⟩
variable {te:TE}{a:PTE}{tt:TT}{c:PTT}{t u:TS}{p q:PTS}
noncomputable def Ir:PTS:=λR γ=>R.nx γ
def DM:X0 K mg E Gp Ir:=λ_ _ _ _ _ _ _ _ f h e=>e.nx _ _ _ h f Fr.refl
noncomputable def LZ(p q:PTS):PTS:=λR γ=>p {R with nx:=q R} γ
def M8(o:X0 K mg E t p)(hq:X0 K mg E u q):X0 K mg E (Iw t u) (LZ p q):=by
 intro H0 B H σ γ R D n l h e;refine o H0 B H σ γ _ _ n l h ⟨λf g H' r s f1=>?_,e.rt,e.ex,e.bk,e.ct,e.rv⟩;exact hq H0 B H' f g R D n s r (e.from f1)
structure RK (p q:PTS) (R:Nq) (γ:Γ):Prop where
 w:∃J:Γ->Prop,p {R with nx:=J} γ/\∀γ',J γ'->q R γ'
noncomputable def HF(p q:PTS):PTS:=λR γ=>RK p q R γ
def Zhn(s:X0 K mg E t p)(hq:X0 K mg E u q):X0 K mg E (Ra t u) (HF p q):=by
 intro H0 B H σ γ R D r n h e;obtain⟨J,h,k⟩:=h.w;refine⟨λg H'=>∃f,J f/\Xt K H0 B H' g f/\Fr B H σ γ H' g f,s H0 B H σ γ _ _ r n h ⟨λg f H' l o f1=>⟨f,l,o,f1⟩,e.rt,e.ex,e.bk,e.ct,e.rv⟩,?_⟩;rintro g H' ⟨f,l,o,f1⟩;exact hq H0 B H' g f R D r o (k f l) (e.from f1)
noncomputable def Mn(i:Nat)(p:PTS):PTS:=λR γ=>p R (frz i γ)
def Zcj(i:Nat)(l:X0 K mg E t p):X0 K mg E t (Mn i p):=by
 intro H0 B H σ γ R D g f h e;obtain⟨n,f1⟩:=f.frz g i;exact l H0 B H σ _ R D g n h (e.from f1)
noncomputable def Ed(a:PTE)(g:PTG):PTS:=λR γ=>a γ (λs=>g s γ R.nx) (R.ex γ)
def Tu(z:Xp K mg E te a)(x:N3 K M g w):X0 K mg E (NG te g) (Ed a w):=by
 intro H0 B H σ γ R D N f h e;refine z H0 B H σ γ _ _ _ f h (λs v H1 C L r=>?_) λc H' y o=>e.ex σ γ c H' y (f.grow o) (Fr.grow o);exact x H0 B H H1 σ γ s v _ _ f L r C λl n A J G _=>e.nx l n H1 A J G
noncomputable def DL(i:Nat)(f:Int->Int->Int)(a:PTE):PTS:=λR γ=>match γ[i]? with
 |some (some<|.sh<|.int x)=>a γ (λy=>match y.d with | .int j=>R.nx (γ.set i<|some<|.sh<|.int<|f x j)|_=>False) (R.ex γ)
 |_=>False
def Zpj(A:Xp K mg E te a):X0 K mg E (GG i te<|ipI f) (DL i f a):=by
 intro H0 B H σ γ R D M g h e;unfold DL at h;split at h
 ·rename_i x hx;obtain⟨v,G,C⟩:=g.slot i _ hx;refine⟨v,G,A H0 B H σ γ _ _ _ g h (λy u H1 n o w=>?_) λc H' z r=>e.ex σ γ c H' z (g.grow r) (Fr.grow r)⟩;have l:=w.rp (g.grow o).same;split at n
  ·rename_i j J;rw[J]at l;refine⟨x,j,Rp.int_inv C,l.int_inv,?_⟩;obtain⟨L,f1⟩:=g.set (s:=.sh (.int<|f x j)) o (.int _) rfl;exact e.nx _ _ H1 n L f1
  ·grind
 ·grind
noncomputable def Lk(a:PTE):PTS:=λR γ=>a γ R.rt (R.ex γ)
def DA(o:Xp K mg E te a):X0 K mg E (NV te) (Lk a):=by
 intro H0 B H σ γ R D x f h e;refine o H0 B H σ γ _ _ _ f h (λs v H1 r w l=>?_) λc H' n g=>e.ex σ γ c H' n (f.grow g) (Fr.grow g);exact e.rt s v H1 r (f.same.trans w) (TV.weak f.same (λb z=>.inl z) l)
noncomputable def Dl(i:Nat):PTS:=λR γ=>match γ[i]? with|some (some s)=>R.rt s|_=>False
def Zkw(i:Nat):X0 K mg E (NV<|K5 i) (Dl i):=by
 intro H0 B H σ γ R D C f h e;unfold Dl at h;split at h
 ·rename_i s n;obtain⟨v,o,g⟩:=f.slot i _ n;refine⟨v,o,e.rt s v H h f.same ?_⟩;cases s with
  |bor d=>exact g
  |sh d=>exact Rp.mono (X2 (Same.refl _) λb _ _ z y=>z (.inl y)) g
  |own r=>
   obtain⟨l,rfl,A,x⟩:=g;exact⟨l,rfl,A,x.mono (X2 (Same.refl _) λb _ _ z y=>z (y.elim .inl λw=>.inr ⟨i,r,l,n,o,w⟩)) λ_ _ _ q=>q⟩
  |view r=>exact g.elim
  |tmp d=>trivial
 ·grind
noncomputable def Rr(c:PTT)(p q:PTS):PTS:=λR γ=>c γ (λb=>if b=true then p R γ else q R γ) (R.ex γ)
def Zp7(l:K6 K mg E tt c)(v:X0 K mg E t p)(hq:X0 K mg E u q):X0 K mg E (D5 tt t u) (Rr c p q):=by
 intro H0 B H σ γ R D r f h e;refine l H0 B H σ γ _ _ _ f h (λb H1 o g=>?_) λc H' l s=>e.ex σ γ c H' l (f.grow s) (Fr.grow s);split at o
 ·rename_i n;rw[WO n];exact v H0 B H1 σ γ R D r (f.grow g) o (e.from<|Fr.grow g)
 ·rename_i n;rw[WM n];exact hq H0 B H1 σ γ R D r (f.grow g) o (e.from<|Fr.grow g)
noncomputable def Lz(a:PTE):PTS:=λR γ=>a γ (λ_=>R.nx γ) (R.ex γ)
def SC(o:Xp K mg E te a):X0 K mg E (Fg te) (Lz a):=by
 intro H0 B H σ γ R D x f h e;exact o H0 B H σ γ _ _ _ f h (λs v H1 r g w=>e.nx σ γ H1 r (f.grow g) (Fr.grow g)) λc H' n l=>e.ex σ γ c H' n (f.grow l) (Fr.grow l)
noncomputable def OU(x:Str)(r:PTA):PTS:=λR γ=>r γ (λf=>f.length<=1000/\R.ex γ x) (R.ex γ)
def TVs.len:∀{ss}{vs:List V},TVs K Z H0 H H' ss vs->vs.length=ss.length:=by
 intro ss
 induction ss with
 |nil=>
  intro _ h;cases h
  rfl
 |cons _ _ f=>
  intro _ h;cases h with
  |cons h r=>
   exact Q4 (· + 1) (f r)
def Zo3{l r g}(w:XC K mg (λ_=>g) l r)(hx:autoParam (NJ x=none) au_0):X0 K mg (λ_=>g) (ExcR.HJ (ExcR.Xs mg x) g l) (OU x r):=by
 intro H0 B H σ γ R D C f h e;refine w H0 B H σ γ _ _ _ f h (λA z H1 n o v=>⟨?_,?_⟩) λc H' y s=>e.ex σ γ c H' y (f.grow s) (Fr.grow s)
 ·rw[v.len];exact AL n.1
 ·exact(e.ex σ γ x H1 n.2 (f.grow o)<|Fr.grow o).plain hx
def Zsl(i j:Nat)(γ:Γ)(R:Γ->Prop):List S->Prop
 |[.sh d,.sh e]=>R ((γ.set i<|some<|.sh d).set j (some<|.sh e))
 |_=>False
noncomputable def clr:Yj->Γ->Γ
 |[],γ=>γ
 |i::r,γ=>clr r (γ.set i none)
theorem Xt.clr:∀f {γ:Γ},Xt K H0 B H σ γ->Xt K H0 B H σ (clr f γ)/\Fr B H σ γ H σ (Pu.clr f γ)
 |[],_,e=>⟨e,Fr.refl⟩
 |i::r,γ,e=>by
  obtain⟨l,f1⟩:=e.drop i;obtain⟨h,g⟩:=Xt.clr r l;exact⟨h,f1.trans g⟩
def Later(H0:Hp)(Z:Addr->Prop)(H1:Hp)(Z':Addr->Prop)(H':Hp):Prop:=Same H0 H'/\(∀b,Z' b->Mut (H' b))/\∀b o,H1 b=some o->¬Z b->H' b=some o/\¬Z' b
def Later.of (e:Xt K H0 B H' g h) (f:Fr B H1 σ γ H' g h):Later H0 (zof B γ σ) H1 (zof B h g) H':=⟨e.same,e.zm,f⟩
def Later.off (l:Later H0 Z H1 Z' H'):Same (off Z H1) (Pu.off Z' H'):=λb o h=>by
 obtain⟨r,n⟩:=Td h;obtain⟨g,f⟩:=l.2.2 b o r n;exact XX g f
structure Rb (K:Yc) (H0:Hp) (B:Addr->Prop) (H1:Hp) (σ:L2.St) (γ:Γ) (J:It) (n:Nat) (item:Nat->S):Prop where
 go:∀(i:Nat) (H':Hp) (Z':Addr->Prop),i<n->Later H0 (zof B γ σ) H1 Z' H'->J.go i H'/\∀x H'',J.yld i H' x H''->Same H' H''/\TV K Z' H0 H' H'' (item i) x
 stop:∀(H':Hp) (Z':Addr->Prop),Later H0 (zof B γ σ) H1 Z' H'->J.stop n H'
abbrev PTI:=Γ->(Nat->(Nat->S)->Prop)->XR->Prop
def SndI(K:Yc)(mg:Yg)(E:L2.St->XK)(f:TI)(g:PTI):Prop:=∀(H0:Hp) (B:Addr->Prop) (H:Hp) (σ:L2.St) (γ:Γ) (R:Nat->(Nat->S)->Prop) (X:XR) (Q:It->Hp->Prop),Xt K H0 B H σ γ->g γ R X->
 (∀n item J H1,R n item->Same H H1->Rb K H0 B H1 σ γ J n item->Q J H1)->(∀c H',X c->Same H H'->XE mg (E σ) c H')->f σ H Q
structure E2 (js:Yj) (γ:Γ) (g:PTG) (body:PTS) (R:Nq) (n:Nat) (item:Nat->S):Prop where
 w:∃inv:Nat->Γ->Prop,inv 0 (clr js γ)/\
 (∀i γ',i<n->inv i γ'->g (item i) γ' λγ2=>body {R with nx:=λγ3=>inv (i+1) (clr js γ3),ct:=λγ3=>inv (i+1) (clr js γ3),bk:=R.nx} γ2)/\∀γ',inv n γ'->R.nx γ'
noncomputable def MU(f:Yj)(h:PTI)(g:PTG)(body:PTS):PTS:=λR γ=>h γ (λn item=>E2 f γ g body R n item) (R.ex γ)
def Zh7{wi g it pg}(M:Yj)(hi:SndI K mg E wi it)(hg:N3 K is g pg)(hb:X0 K mg E t p):X0 K mg E (RA wi g t) (MU M it pg p):=by
 intro H0 B H σ γ R D hB Q h e;refine hi H0 B H σ γ _ _ _ Q h (λn item J H1 h1 S1 ok=>?_) λc H' hc S'=>e.ex σ γ c H' hc (Q.grow S') (Fr.grow S');obtain⟨Y,h0,hs,hd⟩:=h1.w;have L:=Q.grow S1;refine⟨λi m z H'=>m=n-i/\i<=n/\∃f,Y i f/\Xt K H0 B H' z f/\Fr B H1 σ γ H' z f,⟨n,by simp,QV _,_,h0,(L.clr M).1,(L.clr M).2⟩,?_⟩;rintro i m z H' ⟨rfl,hin,f,hi',e',f'⟩;by_cases N:i<n
 ·obtain⟨go,yl⟩:=ok.go i H' _ N (Later.of e' f');refine .inr ⟨go,λs H2=>∃r,Y (i+1) r/\Xt K H0 B H2 s r/\Fr B H1 σ γ H2 s r,λs H2 ⟨r,a1,a2,a3⟩=>⟨n-(i+1),by lia,rfl,N,r,a1,a2,a3⟩,λx U y=>?_⟩;obtain⟨S2,tv⟩:=yl x U y;refine hg H0 B H' U z f _ _ _ _ e' S2 tv (hs i f N hi') λs r q2 e2 f2 _=>?_;have fall:=f'.trans f2;refine hb H0 B U s r _ _ hB e2 q2 ⟨λl o T C A G=>?_,e.rt,λl o c T C A G=>e.ex l o c T C A ((Fr.grow S1).trans (fall.trans G)),λl o T C A G=>e.nx l o T C A ((Fr.grow S1).trans (fall.trans G)),λl o T C A G=>?_,λl o d v T C A G=>e.rv l o d v T C A ((Fr.grow S1).trans (fall.trans G))⟩
  ·exact⟨_,C,(A.clr M).1,(fall.trans G).trans (A.clr M).2⟩
  ·exact⟨_,C,(A.clr M).1,(fall.trans G).trans (A.clr M).2⟩
 ·have:i=n:=by lia
  subst this;exact .inl ⟨ok.stop H' _ (Later.of e' f'),e.nx z f H' (hd f hi') e' ((Fr.grow S1).trans f')⟩
noncomputable def S.fix:S->Bool
 | .bor _=>true | .sh _=>true | .own (.nsl _ _)=>false | .own _=>true|_=>false
noncomputable def pIL(a:PTE):PTI:=λγ R X=>a γ (λs=>match s.d with
 | .lst g=>s.fix=true/\R g.length λi=>s.sub (g.getD i .non)
 | .scr f=>s.fix=true/\R f.length λi=>.sh (.int<|f.getD i 0)
 |_=>False) X
def TV.last (env:Xt K H0 B H σ γ) (J:Same H H1) (f:TV K (zof B γ σ) H0 H H1 s v) (A:s.fix=true) (hd:s.d=.lst ds):∃l vs,v=.ref l/\vs.length=ds.length/\
  ∀H' Z',Later H0 (zof B γ σ) H1 Z' H'->H' l=some (.lst vs)/\∀(i:Nat) d,ds[i]?=some d->∃u,vs[i]?=some u/\TV K Z' H0 H' H' (s.sub d) u:=by
 have g:∀{s:S},(∀d,s.sub d=.sh d)->Rp K (Pu.off (zof B γ σ) H1) (.lst ds) v->∃l vs,v=.ref l/\vs.length=ds.length/\
   ∀H' Z',Later H0 (zof B γ σ) H1 Z' H'->H' l=some (.lst vs)/\∀i d,ds[i]?=some d->∃u,vs[i]?=some u/\TV K Z' H0 H' H' (s.sub d) u:=λL h=>by
  obtain⟨l,vs,rfl,y,n⟩:=Rp.lst_inv h;refine⟨l,vs,rfl,n.len,λH' Z' lt=>⟨off_sub _ _ (lt.off _ _ y),λi d o=>?_⟩⟩;obtain⟨u,w,r⟩:=n.get o;refine⟨u,w,?_⟩;rw[L];exact Rp.mono lt.off r
 cases s with
 |bor d=>
  have f:=Rp.strip f;rw[show d.strip=.lst ds from hd]at f
  obtain⟨l,vs,rfl,y,n⟩:=Rp.lst_inv f;refine⟨l,vs,rfl,n.len,λH' Z' lt=>⟨lt.1 _ _ y,λi d o=>?_⟩⟩;obtain⟨u,w,r⟩:=n.get o;exact⟨u,w,NF lt.2.1 lt.1 r⟩
 |sh d=>
  have:=hd
  subst this;exact g (λ_=>rfl) f
 |own z=>
  cases z with
  |dK z|dT z|ins x C xs G|nst G=>cases hd
  |nsl a G=>cases A
  |_=>
   cases hd
   exact g (λ_=>rfl) (f.shd (env.grow J).same env.zm J rfl)
 |_=>cases A
def Zb3(ha:Xp K mg E te a):SndI K mg E (Bh K te) (pIL a):=by
 intro H0 B H σ γ R X Q n h q qx;refine ha H0 B H σ γ _ X _ n h (λs v H1 r M o=>?_) qx;have f:=n.grow M;split at r
 ·rename_i Y C;obtain⟨l,G,rfl,hn,g⟩:=o.last n M r.1 C;obtain⟨N,_⟩:=g H1 _ (Later.of f Fr.refl);refine⟨l,rfl,⟨G,SqL.of N⟩,q _ _ _ H1 r.2 M ⟨λi H' Z' L lt=>?_,λH' Z' lt=>?_⟩⟩
  ·obtain⟨w,k2⟩:=g H' Z' lt;have hd:Y[i]?=some (Y.getD i .non):=by rw[WR,WH L];rfl
   obtain⟨u,z,tu⟩:=k2 i _ hd;refine⟨⟨G,u,SqL.of w,z⟩,λx T y=>?_⟩;obtain⟨rfl,y⟩:=y
   have:=y G (SqL.of w)
   rw[z]at this;cases this
   exact⟨Same.refl _,tu⟩
  ·exact⟨G,SqL.of (g H' Z' lt).1,by lia⟩
 ·rename_i J C
  have A:∃l,v=.ref l/\∀H' Z',Later H0 (zof B γ σ) H1 Z' H'->SqL K H' l (J.map V.int):=by
   cases s with
   |bor d=>
    have o:=Rp.strip o;rw[show d.strip=.scr J from C]at o
    cases o with
    |scr A=>exact⟨_,rfl,λH' Z' lt=>lt.1.seq A⟩
   |sh d=>
    have:=C
    subst this;cases o with
    |scr A=>exact⟨_,rfl,λH' Z' lt=>off_sub.seq (lt.off.seq A)⟩
   |own U|view U=>cases U<;>cases C
   |tmp d=>cases r.1
  obtain⟨l,rfl,g⟩:=A;refine⟨l,rfl,⟨_,g H1 _ (Later.of f Fr.refl)⟩,q _ _ _ H1 r.2 M ⟨λi H' Z' L lt=>?_,λH' Z' lt=>?_⟩⟩
  ·have w:=g H' Z' lt
   have z:(J.map V.int)[i]?=some (.int<|J.getD i 0):=by
    rw[WT,WH L,WR,WH L];rfl
   refine⟨⟨_,_,w,z⟩,λx T y=>?_⟩;obtain⟨rfl,y⟩:=y
   have:=y _ w
   rw[z]at this;cases this
   exact⟨Same.refl _,.int _⟩
  ·exact⟨_,g H' Z' lt,by rw[WG];exact WQ _⟩
 ·exact r.elim
def fR1(R:Nat->(Nat->S)->Prop):List D->Prop
 |[.int j]=>(-(2 ^ 62)<=j/\j<2 ^ 62)/\R j.toNat λi=>.sh (.int (0+(i:Int)))
 |_=>False
def fR2(R:Nat->(Nat->S)->Prop):List D->Prop
 |[.int i,.int j]=>(-(2 ^ 62)<=i/\i<2 ^ 62/\-(2 ^ 62)<=j/\j<2 ^ 62)/\R (j-i).toNat λk=>.sh (.int (i+(k:Int)))
 |_=>False
noncomputable def Ht(r:PTA):PTI:=λγ R X=>r γ (λf=>fR1 R (f.map S.d)) X
noncomputable def Mp(r:PTA):PTI:=λγ R X=>r γ (λf=>fR2 R (f.map S.d)) X
def Rps.one_inv (h:Rps K H [d] vs):∃v,vs=[v]/\Rp K H d v:=by
 cases h with
 |cons h r=>cases r;exact⟨_,rfl,h⟩
def Rps.two_inv (h:Rps K H [d,e] vs):∃v u,vs=[v,u]/\Rp K H d v/\Rp K H e u:=by
 cases h with
 |cons h r=>cases r with|cons f r=>cases r;exact⟨_,_,rfl,h,f⟩
def G7{lo n}:Rb K H0 B H1 σ γ (Itr lo n) n λi=>.sh (.int (lo+(i:Int))):=by
 refine⟨λi H' Z' f lt=>⟨f,λx g y=>?_⟩,λH' Z' lt=>WQ _⟩;obtain⟨e,y⟩:=y;subst e y;exact⟨Same.refl _,.int _⟩
def Zjs(y:XC K mg E o r):SndI K mg E (Oo o) (Ht r):=by
 intro H0 B H σ γ R X Q g h q x;refine y H0 B H σ γ _ X _ g h (λC A H1 f n s=>?_) x;have l:=s.rps (g.grow n).same;unfold fR1 at f;split at f
 ·rename_i j z;rw[z]at l;obtain⟨v,rfl,w⟩:=l.one_inv;rw[w.int_inv];exact⟨j,rfl,f.1.1,f.1.2,q _ _ _ H1 f.2 n G7⟩
 ·grind
def Znc(z:XC K mg E o r):SndI K mg E (MY o) (Mp r):=by
 intro H0 B H σ γ R X Q f h q y;refine z H0 B H σ γ _ X _ f h (λG C H1 g n s=>?_) y;have l:=s.rps (f.grow n).same;unfold fR2 at g;split at g
 ·rename_i i j A;rw[A]at l;obtain⟨v,u,rfl,x,w⟩:=l.two_inv;rw[x.int_inv,w.int_inv];exact⟨i,j,rfl,g.1,q _ _ _ H1 g.2 n G7⟩
 ·grind
structure HL (js:Yj) (γ:Γ) (c:PTT) (body:PTS) (R:Nq):Prop where
 w:∃(inv:Γ->Prop) (μ:Γ->Nat),inv (clr js γ)/\∀γ',inv γ'->c γ' (λb=>if b=true then
  body {R with nx:=λγ3=>inv (clr js γ3)/\μ (clr js γ3)<μ γ',ct:=λγ3=>inv (clr js γ3)/\μ (clr js γ3)<μ γ',bk:=R.nx} γ' else R.nx γ') (R.ex γ')
noncomputable def GK(f:Yj)(c:PTT)(body:PTS):PTS:=λR γ=>HL f γ c body R
def Zk3(z:Yj)(L:K6 K mg E tt c)(hb:X0 K mg E t p):X0 K mg E (G8 tt t) (GK z c p):=by
 intro H0 B H σ γ R D hB G h e;obtain⟨C,J,h0,hs⟩:=h.w;refine⟨λm l H'=>∃f,m=J f/\C f/\Xt K H0 B H' l f/\Fr B H σ γ H' l f,⟨_,_,rfl,h0,(G.clr z).1,(G.clr z).2⟩,?_⟩;rintro m l H' ⟨f,rfl,hi,M,U⟩;refine L H0 B H' l f _ _ _ M (hs f hi) (λb H1 T S1=>?_) λc Q L S'=>e.ex l f c Q L (M.grow S') (U.trans<|Fr.grow S');have Y:=M.grow S1;have f1:=U.trans (Fr.grow S1);cases b with
 |false=>
  exact e.nx l f H1 T Y f1
 |true=>
  refine⟨λy N=>∃o,J o<J f/\C o/\Xt K H0 B N y o/\Fr B H σ γ N y o,λy N ⟨o,k,a1,a2,a3⟩=>⟨_,k,o,rfl,a1,a2,a3⟩,?_⟩;refine hb H0 B H1 l f _ _ hB Y T ⟨λg n A r s x=>?_,e.rt,λg n c A r s x=>e.ex g n c A r s (f1.trans x),λg n A r s x=>e.nx g n A r s (f1.trans x),λg n A r s x=>?_,λg n d v A r s x=>e.rv g n d v A r s (f1.trans x)⟩
  ·exact⟨_,r.2,r.1,(s.clr z).1,(f1.trans x).trans (s.clr z).2⟩
  ·exact⟨_,r.2,r.1,(s.clr z).1,(f1.trans x).trans (s.clr z).2⟩
end
section
variable {K:Yc}{mg:Yg}{E:L2.St->XK}{H0 H H1 H':Hp}{B Z Z':Addr->Prop}{σ:L2.St}{γ:Γ}
noncomputable def PN(N:Yl)(ds:List D):Γ:=ds.map (λd=>some (arg d))++List.replicate (N.length-ds.length) none
def Zk5{ds vs}(r:Rps K H ds vs)(w:ds.length<=N.length):Xt K H (λb=>Mut (H b)) H (start N vs) (PN N ds):=by
 have get:∀i s,(PN N ds)[i]?=some (some s)->∃d,ds[i]?=some d/\s=arg d:=λi s h=>by
  unfold PN at h;by_cases g:i<ds.length
  ·rw[Qm (by rw[WG];exact g),WT,WH g]at h;exact⟨_,WH g,(WY<|WY h).symm⟩
  ·rw[Qq (by rw[WG];lia),VF]at h;split at h<;>cases h
 have noown:∀(i:Nat) f,(PN N ds)[i]?≠some (some<|.own f):=λi f h=>by
  obtain⟨d,_,e⟩:=get i _ h;rcases Eh d with q|q<;>rw[q]at e<;>cases e
 refine⟨Same.refl _,?_,λb h=>h,λi j a x f u b h=>absurd h (noown i f),λi s h=>?_⟩
 ·unfold L2.start PN;simp[r.len]
 ·obtain⟨d,hd,rfl⟩:=get i s h;obtain⟨v,n,o⟩:=r.get hd;refine⟨v,?_,?_⟩
  ·unfold L2.start;rw[Qm (by rw[WG];exact(Qd.mp n).1),WT,n];rfl
  ·have l:=NF (Z:=zof (λb=>Mut (H b)) (PN N ds) (start N vs)) (H:=H) (λb z=>z.elim id λ⟨k,f,_,p,_⟩=>absurd p (noown k f)) (Same.refl _) o;rcases Eh d with q|q<;>rw[q]at l ⊢<;>exact l
def Zkg{t p vs Q y n}(h:Xv mg c K vs H Q y)(o:X0 K mg (λ_=>y) t p)(L:n<=N.length)(u:∀ds R X,c ds R X->ds.length=n/\p {nx:=λ_=>R (.sh .non),rt:=R,ex:=λ_ e=>X e} (PN N ds)):t {nx:=λ_ H'=>Q .non H',rt:=Q} (start N vs) H:=by
 obtain⟨ds,R,X,r,C,x,G⟩:=h;obtain⟨e,u⟩:=u ds R X C;refine o H (λb=>Mut (H b)) H _ _ _ _ (λb z=>TX z) (Zk5 r<|by lia) u ⟨λg l H' f w f1=>x _ _ H' f w.same .non,λs v H' f J A=>x s v H' f J A,λg l c H' f w f1=>G c H' f w.same,λ_ _ _ z=>z.elim,λ_ _ _ z=>z.elim,λ_ _ _ _ _ z=>z.elim⟩
def Zhl(h:Xv mg c K vs H Q l)(f:∀ds R X,c ds R X->ds.length=n):vs.length=n:=by
 obtain⟨ds,R,X,r,g,_⟩:=h;rw[r.len]
 grind
noncomputable def atP(φ:Yi)(γ:Γ):Γ:=φ.map λo=>o.bind λj=>(γ[j]?).join
structure BV (φ:Yi) (γ:Γ) (g:PTG) (c:PTT) (e:PTE) (n:Nat) (item:Nat->S) (R:S->Prop):Prop where
 w:n<=100000/\∃f:Nat->Option D,(∀i,i<n->g (item i) (atP φ γ) λγ2=>c γ2 (λb=>if b=true then e γ2 (λs=>∃d,s.shd=some d/\f i=some d) (λ_=>False)else f i=none) (λ_=>False))/\R (.own ((List.range n).filterMap f))
noncomputable def EZ(φ:Yi)(f:PTI)(g:PTG)(c:PTT)(e:PTE):PTE:=λγ R X=>f γ (λn item=>BV φ γ g c e n item R) X
def F6{i:Nat}{s}(h:(atP φ γ)[i]?=some (some s)):∃j,φ[i]?=some (some j)/\γ[j]?=some (some s):=by
 unfold atP at h;cases e:φ[i]? with
 |none=>grind
 |some o=>
  cases o with
  |_=>grind
theorem EA:∀{φ:Yi},(φ.filterMap id).Nodup->∀(i j k:Nat),φ[i]?=some (some k)->φ[j]?=some (some k)->i=j
 |[],_,i,_,_,h,_=>by simp at h
 |none::r,n,i,j,k,g,f=>by
  cases i with
  |zero=>simp at g
  |succ i=>
   cases j with
   |zero=>simp at f
   |succ j=>exact Q4 (· + 1) (EA (by simpa using n) i j k (by simpa using g)<|by simpa using f)
 |some m::r,n,i,j,k,g,f=>by
  have l:m∉r.filterMap id/\(r.filterMap id).Nodup:=by simpa using n
  have mem:∀{j:Nat},r[j]?=some (some k)->k∈r.filterMap id:=λh=>JO.mpr ⟨some k,Qe h,rfl⟩;cases i with
  |zero=>
   cases j with
   |zero=>rfl
   |succ j=>simp_all
  |succ i=>
   cases j with
   |zero=>simp_all
   |succ j=>exact Q4 (· + 1) (EA l.2 i j k (by simpa using g)<|by simpa using f)
def Fy{i j:Nat}(g:φ[i]?=some (some j)){v}(f:σ[j]?=some (some v)):(atStart φ σ)[i]?=some (some v):=by
 unfold atStart
 grind
def RY{L}(env:Xt K H0 B H σ γ)(s:H L=none):∀b o,H b=some o->¬zof B γ σ b->¬zof (λb=>zof B γ σ b\/b=L) (atP φ γ) (atStart φ σ) b:=λb o v z y=>by
 rcases y with(y|y)|⟨u,r,x,n,f,l⟩
 ·grind
 ·grind
 ·obtain⟨m,p,h⟩:=F6 n;obtain⟨w,g,_⟩:=env.slot m _ h;rw[Fy p g]at f;exact z (.inr ⟨m,r,x,h,by rw[g];exact Q4 some (WY f),l⟩)
def Zpd{L}(env:Xt K H0 B H σ γ)(n:Same H H')(N:H L=none)(Q:∃w,H' L=some (.lst w))(r:(φ.filterMap id).Nodup) :
  Xt K H0 (λb=>zof B γ σ b\/b=L) H' (atStart φ σ) (atP φ γ):=by
 refine⟨env.same.trans n,by unfold atStart atP;simp,λb z=>?_,λi j a a' J es b h1 h2 Y G U T=>?_,λi s h=>?_⟩
 ·rcases z with z|rfl
  ·exact Tx n (env.zm b z)
  ·obtain⟨w,e⟩:=Q;rw[e];trivial
 ·obtain⟨k,g,f⟩:=F6 h1;obtain⟨l,C,A⟩:=F6 h2;obtain⟨v,p,_⟩:=env.slot k _ f;obtain⟨u,y,_⟩:=env.slot l _ A;rw[Fy g p]at Y;rw[Fy C y]at G
  have:=env.own k l a a' J es b f A (by grind) (by rw[y];exact Q4 some (WY G)) U T
  subst this;exact EA r i j k g C
 ·obtain⟨k,g,f⟩:=F6 h;obtain⟨v,p,o⟩:=env.slot k _ f;have M:Same (off (zof B γ σ) H) (off (zof (λb=>zof B γ σ b\/b=L) (atP φ γ)<|atStart φ σ) H'):=X2 n (RY env N);refine⟨v,Fy g p,?_⟩;cases s with
  |sh d=>exact Rp.mono M o
  |own J=>
   obtain⟨a,e1,e3,e4⟩:=o;exact⟨a,e1,e3,e4.mono M λb _ x=>n b x⟩
  |_=>exact o
def Sub.of {g:Yj} (h:f.length=σ.length) (n:∀j,j∉g->f[j]?=σ[j]?) (o:∀j∈g,∀v,σ[j]?≠some (some v)):Sub σ f:=⟨h,λi v e=>by
 by_cases l:i∈g
 ·grind
 ·rw[n i l];exact e⟩
structure Zf4 (K:Yc) (H0:Hp) (B:Addr->Prop) (H1:Hp) (σ:L2.St) (γ:Γ) (J:It) (n:Nat) (item:Nat->S):Prop where
 go:∀(i:Nat) (H':Hp) (Z':Addr->Prop),i<n->Same H1 H'->Later H0 (zof B γ σ) H1 Z' H'->J.go i H'/\∀x H'',J.yld i H' x H''->Same H' H''/\TV K Z' H0 H' H'' (item i) x
 stop:∀(H':Hp) (Z':Addr->Prop),Same H1 H'->Later H0 (zof B γ σ) H1 Z' H'->J.stop n H'
def SS(K:Yc)(mg:Yg)(E:L2.St->XK)(f:TI)(g:PTI):Prop:=∀(H0:Hp) (B:Addr->Prop) (H:Hp) (σ:L2.St) (γ:Γ) (R:Nat->(Nat->S)->Prop) (X:XR) (Q:It->Hp->Prop),Xt K H0 B H σ γ->g γ R X->
 (∀n item J H1,R n item->Same H H1->Zf4 K H0 B H1 σ γ J n item->Q J H1)->(∀c H',X c->Same H H'->XE mg (E σ) c H')->f σ H Q
def SndI.c (h:SndI K mg E g o):SS K mg E g o:=λH0 B H σ γ R X Q f p q l=>
 h H0 B H σ γ R X Q f p (λn item J H1 s u ok=>q n item J H1 s u ⟨λi H' Z' r _ lt=>ok.go i H' Z' r lt,λH' Z' _ lt=>ok.stop H' Z' lt⟩) l
noncomputable def MV(a:PTE):PTI:=λγ R X=>a γ (λs=>match s.d with
 | .lst f=>R f.length λi=>s.sub (f.getD i .non)
 | .tup f=>False
 | .scr g=>R g.length λi=>.sh (.int<|g.getD i 0)
 |_=>False) X
def Sw(ha:Xp K mg E te a):SS K mg E (Bh K te) (MV a):=by
 intro H0 B H σ γ R X Q env h q qx;refine ha H0 B H σ γ _ X _ env h (λs v H1 h1 S1 A=>?_) qx;have M:=env.grow S1;split at h1
 ·rename_i ds G;have U:=A.rp M.same;rw[G]at U;obtain⟨l,T,rfl,f,r1⟩:=U.lst_inv;refine⟨l,rfl,⟨T,SqL.of f⟩,q _ _ _ H1 h1 S1 ⟨λi H' Z' hi J lt=>?_,λH' Z' J lt=>⟨T,SqL.of (J _ _ f),by rw[r1.len];exact WQ _⟩⟩⟩;have hd:ds[i]?=some (ds.getD i .non):=by rw[WR,WH hi];rfl
  have hi':∃u,T[i]?=some u/\TV K Z' H0 H' H' (s.sub<|ds.getD i .non) u:=by
   cases s with
   |bor d=>
    have A:=Rp.strip A;rw[show d.strip=.lst ds from G]at A
    obtain⟨N,o,w,r,p⟩:=Rp.lst_inv A;cases w
    rw[M.same _ _ r]at f;cases f
    obtain⟨u,n,g⟩:=p.get hd;exact⟨u,n,NF lt.2.1 lt.1 g⟩
   |sh d=>
    have:=G
    subst this;obtain⟨N,o,w,r,p⟩:=Rp.lst_inv A;cases w
    rw[off_sub _ _ r]at f;cases f
    obtain⟨u,n,g⟩:=p.get hd;exact⟨u,n,Rp.mono lt.off g⟩
   |own L=>
    cases L with
    |dK L|dT L|ins x C xs cs|nst cs=>cases G
    |nsl x cs=>
     obtain⟨u,n,g⟩:=r1.get hd;exact⟨u,n,Ti lt.2.1 (Rp.mono J g)⟩
    |lsA x L=>
     cases G
     obtain⟨N,w,h0,_,o,r,p⟩:=A;cases w
     rw[r]at f;cases f
     obtain⟨u,n,g⟩:=p.get hd;exact⟨u,n,Rp.mono lt.off (Rp.mono (X2 (Same.refl _) λb _ _ z y=>z (.inl y)) g)⟩
    |lst L=>
    cases G
    obtain⟨N,w,h0,o,r,p⟩:=A;cases w
    rw[r]at f;cases f
    obtain⟨u,n,g⟩:=p.get hd;exact⟨u,n,Rp.mono lt.off (Rp.mono (X2 (Same.refl _) λb _ _ z y=>z (.inl y)) g)⟩
   |view L=>
    cases L with
    |dK L|dT L|ins x C xs cs|nst cs=>cases G
    |nsl x cs=>
     obtain⟨u,n,g⟩:=r1.get hd;exact⟨u,n,Ti lt.2.1 (Rp.mono J g)⟩
    |lsA x L=>
     cases G
     obtain⟨N,w,_,o,r,p⟩:=A;cases w
     rw[r]at f;cases f
     obtain⟨u,n,g⟩:=p.get hd;exact⟨u,n,Rp.mono lt.off g⟩
    |lst L=>
    cases G
    obtain⟨N,w,o,r,p⟩:=A;cases w
    rw[r]at f;cases f
    obtain⟨u,n,g⟩:=p.get hd;exact⟨u,n,Rp.mono lt.off g⟩
   |tmp d=>
    have:=G
    subst this;obtain⟨N,o,w,r,p⟩:=Rp.lst_inv A;cases w
    rw[r]at f;cases f
    obtain⟨u,n,g⟩:=p.get hd;exact⟨u,n,Ti lt.2.1 (Rp.mono J g)⟩
  obtain⟨u,Y,tu⟩:=hi';refine⟨⟨T,u,SqL.of (J _ _ f),Y⟩,λx H'' y=>?_⟩;obtain⟨rfl,y⟩:=y
  have:=y T (SqL.of<|J _ _ f)
  rw[Y]at this;cases this
  exact⟨Same.refl _,tu⟩
 ·exact h1.elim
 ·rename_i ns G;have U:=A.rp M.same;rw[G]at U;cases U with
  |scr hs=>
   refine⟨_,rfl,⟨_,hs⟩,q _ _ _ H1 h1 S1 ⟨λi H' Z' hi J lt=>?_,λH' Z' J lt=>⟨_,J.seq hs,by rw[WG];exact WQ _⟩⟩⟩
   have Y:(ns.map V.int)[i]?=some (.int<|ns.getD i 0):=by
    rw[WT,WH hi,WR,WH hi];rfl
   refine⟨⟨_,_,J.seq hs,Y⟩,λx H'' y=>?_⟩;obtain⟨rfl,y⟩:=y
   have:=y _ (J.seq hs)
   rw[Y]at this;cases this
   exact⟨Same.refl _,.int _⟩
 ·exact h1.elim
def Tv{φ is wi g tc te it pg c a}(hi:SS K mg E wi it)(hg:N3 K is g pg)(hc:K6 K mg E tc c)(he:Xp K mg E te a)(h1:autoParam ((φ.filterMap id).Nodup) au_1)(h2:autoParam (∀j∈is,φ[j]?=some none) au_1):Xp K mg E (BO φ wi g tc te) (EZ φ it pg c a):=by
 intro H0 B H σ γ R X Q env h q qx;refine hi H0 B H σ γ _ X _ env h (λn item J H1 h1' S1 ok=>?_) qx;obtain⟨hn,f,hf,hR⟩:=h1'.w;have l:=env.grow S1;have hbig:n<=sizeLine:=WV hn (by decide);intro L U;refine⟨λi m G C=>m=n-i/\i<=n/\Same H1 C/\C L=some (.lst G)/\Rps K (off (λb=>zof B γ σ b\/b=L) C) ((List.range i).filterMap f) G,⟨n,by simp,QV _,Kg U,X9,.nil⟩,?_⟩;rintro i m G C ⟨rfl,hin,u,hL,p⟩;have A:=l.grow u;by_cases r:i<n
 ·have envI2:=Zpd l u U ⟨G,hL⟩ h1;obtain⟨go,yl⟩:=ok.go i C _ r u ⟨A.same,envI2.zm,λb o Y z=>⟨u _ _ Y,RY l U b o Y z⟩⟩;refine .inr ⟨go,λx H3 y=>?_⟩;obtain⟨S3,tv⟩:=yl x H3 y;refine hg H0 _ C H3 _ _ _ _ _ _ envI2 S3 tv (hf i r) λN T p2 e2 f2 k2=>⟨?_,?_⟩
  ·refine Sub.of k2.2 k2.1 λj hj v z=>?_;obtain⟨k,k1,_⟩:=R9 z;rw[h2 j hj]at k1;cases k1
  ·refine hc H0 _ H3 N T _ _ _ e2 p2 (λb H5 q5 S5=>?_) λ_ _ z=>z.elim;have e5:=e2.grow S5;cases b with
   |false=>
    rw[WM Qh]at q5 ⊢;refine⟨n-(i+1),by lia,rfl,r,(u.trans S3).trans S5,(S3.trans S5) _ _ hL,?_⟩;rw[List.range_succ,VP];simp only[QW,q5,List.filterMap_nil,Q1];exact Rps.mono (X2 (S3.trans S5) λ_ _ _ z=>z) p
   |true=>
    refine he H0 _ H5 N T _ _ _ e5 q5 (λs v H6 q6 S6 t6=>?_) λ_ _ z=>z.elim;obtain⟨d,hd,hfd⟩:=q6;have M:=(S3.trans S5).trans S6
    have hlen:G.length<=i:=by
     rw[p.len];exact WV (List.length_filterMap_le _ _) (by rw[Js];exact WQ _)
    refine⟨M _ _ hL,by lia,n-(i+1),by lia,rfl,r,λb o Y=>?_,X9,?_⟩
    ·rw[Xw (K7 Y U)];exact M _ _ (u _ _ Y)
    ·rw[List.range_succ,VP];have ef:[i].filterMap f=[d]:=by simp[hfd]
     rw[ef]
     have So:Same (off (λb=>zof B γ σ b\/b=L) H6) (off (λb=>zof B γ σ b\/b=L)<|upd H6 L<|.lst (G++[v])):=λb o h=>by
      obtain⟨a1,a2⟩:=Td h;refine XX ?_ a2;rwa[Xw λz=>a2 (.inr z)]
     refine Rps.append (Rps.mono So<|Rps.mono (X2 M λ_ _ _ z=>z) p) (.cons (Rp.mono So<|Rp.mono (X2 (Same.refl _) λb _ _ z y=>z (.inl y)) (t6.shd (e5.grow S6).same e5.zm S6 hd)) .nil)
 ·have:i=n:=by lia
  subst this;exact .inl ⟨ok.stop C _ u (Later.of A<|Fr.grow u),q _ _ C hR (S1.trans u) ⟨L,rfl,(λ_ e=>e▸S1.free U),G,hL,p⟩⟩
noncomputable def R1:PTT:=λ_ R _=>R true
def Sa:K6 K mg E OQ R1:=λ_ _ H _ _ _ _ _ _ p q _=>q _ H p (Same.refl _)
def Za3{g h:Type}(xs:List g)(f:g->Option h):(List.range xs.length).filterMap (λi=>(xs[i]?).bind f)=xs.filterMap f:=by
 induction xs with
 |nil=>rfl
 |cons x r l=>
  rw[Qa,List.range_succ_eq_map,QW,List.filterMap_map,QW];have e:(λi=>((x::r)[i]?).bind f)∘Nat.succ=λi=>(r[i]?).bind f:=rfl;rw[e,l];rfl
end
open M
section
variable {K:Yc}{mg:Yg}{E:L2.St->XK}{H0 H H1 H':Hp}{B Z Z':Addr->Prop}{σ:L2.St}{γ:Γ}
noncomputable def pCB(f:List S->(S->Prop)->Prop)(r:PTA):PTE:=λγ R X=>r γ (λg=>f g R) X
def KZ{f o r}(A:XC K mg E o r)(h:∀H0 H H1 Z l vs R Q,Same H0 H1->Same H H1->(∀b,Z b->Mut (H b))->TVs K Z H0 H H1 l vs->f l R->(∀s z H',R s->Same H1 H'->TV K Z H0 H H' s z->Q z H')->w vs H1 Q) :
  Xp K mg E (tCB w o) (pCB f r):=by
 intro H0 B H σ γ R X Q g p q x;refine A H0 B H σ γ _ X _ g p (λl vs H1 C n v=>?_) x;exact h H0 H H1 _ l vs R Q (g.grow n).same n g.zm v C λs z H' y G u=>q s z H' y (n.trans G) u
noncomputable def S.free:S->List D->Bool
 | .bor _,f=>KM f | .tmp _,f=>KM f | .view (.nst _),f=>KM f | .view (.nsl _ _),f=>KM f|_,_=>true
def TVs.one_inv (h:TVs K Z H0 H H' [s] vs):∃v,vs=[v]/\TV K Z H0 H H' s v:=by
 cases h with
 |cons h r=>cases r;exact⟨_,rfl,h⟩
def TVs.two_inv (h:TVs K Z H0 H H' [s,t] vs):∃v u,vs=[v,u]/\TV K Z H0 H H' s v/\TV K Z H0 H H' t u:=by
 cases h with
 |cons h r=>cases r with|cons f r=>cases r;exact⟨_,_,rfl,h,f⟩
def TV.items (n:Same H0 H') (u:∀b,Z b->Mut (H b)) (C:Same H H') (h:TV K Z H0 H H' s v) (p:s.free ds=true) :
  (s.d=.lst ds->∃a vs,v=.ref a/\H' a=some (.lst vs)/\Rps K (off Z H') ds vs)/\(s.d=.tup ds->∃a vs,v=.ref a/\H' a=some (.tup vs)/\Rps K (off Z H') ds vs):=by
 have g:=λb z=>Tx C (u b z);cases s with
 |bor d=>
  have h:=Rp.strip h;refine⟨λe=>?_,λe=>?_⟩<;>rw[show d.strip=_ from e]at h
  ·obtain⟨a,vs,rfl,f,r⟩:=Rp.lst_inv h;exact⟨a,vs,rfl,n _ _ f,Rps.off g (Rps.mono n r) p⟩
  ·obtain⟨a,vs,rfl,f,r⟩:=Rp.tup_inv h;exact⟨a,vs,rfl,n _ _ f,Rps.off g (Rps.mono n r) p⟩
 |sh d=>
  refine⟨λe=>?_,λe=>?_⟩<;>(have w:=e;subst w)
  ·obtain⟨a,vs,rfl,f,r⟩:=Rp.lst_inv h;exact⟨a,vs,rfl,off_sub _ _ f,r⟩
  ·obtain⟨a,vs,rfl,f,r⟩:=Rp.tup_inv h;exact⟨a,vs,rfl,off_sub _ _ f,r⟩
 |own o=>
  cases o with
  |nsl x A=>
   refine⟨λe=>?_,λe=>by cases e⟩;have l:=h.shd n u C rfl;cases e
   obtain⟨a,vs,rfl,f,r⟩:=Rp.lst_inv l;exact⟨a,vs,rfl,off_sub _ _ f,r⟩
  |nst A=>
   refine⟨(λe=>by cases e),λe=>?_⟩;have l:=h.shd n u C rfl;cases e
   obtain⟨a,vs,rfl,f,r⟩:=Rp.tup_inv l;exact⟨a,vs,rfl,off_sub _ _ f,r⟩
  |lst o=>
   refine⟨λe=>?_,λe=>by cases e⟩;cases e
   obtain⟨a,rfl,G,vs,e,r⟩:=h;exact⟨a,vs,rfl,e,Rps.mono (X2 (Same.refl _) λb _ _ z y=>z (.inl y)) r⟩
  |lsA x o=>
   refine⟨λe=>?_,λe=>by cases e⟩;cases e
   obtain⟨a,rfl,G,_,vs,e,r⟩:=h;exact⟨a,vs,rfl,e,Rps.mono (X2 (Same.refl _) λb _ _ z y=>z (.inl y)) r⟩
  |_=>exact⟨(λe=>by cases e),(λe=>by cases e)⟩
 |view o=>
  cases o with
  |nsl x A=>
   refine⟨λe=>?_,λe=>by cases e⟩;have l:=h.rp n;rw[e]at l;obtain⟨a,vs,rfl,f,r⟩:=Rp.lst_inv l;exact⟨a,vs,rfl,f,Rps.off g r p⟩
  |nst A=>
   refine⟨(λe=>by cases e),λe=>?_⟩;have l:=h.rp n;rw[e]at l;obtain⟨a,vs,rfl,f,r⟩:=Rp.tup_inv l;exact⟨a,vs,rfl,f,Rps.off g r p⟩
  |lst o=>
   refine⟨λe=>?_,λe=>by cases e⟩;cases e
   obtain⟨a,rfl,vs,e,r⟩:=h;exact⟨a,vs,rfl,e,r⟩
  |lsA x o=>
   refine⟨λe=>?_,λe=>by cases e⟩;cases e
   obtain⟨a,rfl,_,vs,e,r⟩:=h;exact⟨a,vs,rfl,e,r⟩
  |_=>exact⟨(λe=>by cases e),(λe=>by cases e)⟩
 |tmp d=>
  refine⟨λe=>?_,λe=>?_⟩<;>(have w:=e;subst w)
  ·obtain⟨a,vs,rfl,f,r⟩:=Rp.lst_inv h;exact⟨a,vs,rfl,f,Rps.off g r p⟩
  ·obtain⟨a,vs,rfl,f,r⟩:=Rp.tup_inv h;exact⟨a,vs,rfl,f,Rps.off g r p⟩
def CV:List S->(S->Prop)->Prop
 |[s],R=>(match s.d with
  | .lst g=>R (.sh<|.int g.length) | .tup g=>R (.sh<|.int g.length) | .scr f=>R (.sh<|.int f.length) | .fL f=>R (.sh<|.int f.length) | .str x=>x.length<=sizeLine/\R (.sh<|.int x.length)|_=>False)
 |_,_=>False
def Sg(C:XC K mg E w r):Xp K mg E (tCB (λxs H Q=>∃x n,xs=[x]/\Ft K x H n/\Q (.int n) H) w) (pCB CV r):=by
 refine KZ C λH0 H H1 Z L J R Q z M N u h q=>?_;unfold CV at h;split at h
 ·rename_i s;obtain⟨v,rfl,y⟩:=u.one_inv;have f:=y.rp z;split at h
  ·rename_i G e;rw[e]at f;obtain⟨a,g,rfl,p,l⟩:=f.lst_inv;exact⟨_,_,rfl,.inl ⟨g,SqL.of p,rfl⟩,by rw[l.len];exact q _ _ H1 h (Same.refl _) (.int _)⟩
  ·rename_i G e;rw[e]at f;obtain⟨a,g,rfl,p,l⟩:=f.tup_inv;exact⟨_,_,rfl,.inr ⟨g,SqT.of p,rfl⟩,by rw[l.len];exact q _ _ H1 h (Same.refl _) (.int _)⟩
  ·rename_i A e;rw[e]at f;cases f with
   |scr o=>exact⟨_,_,rfl,.inl ⟨_,o,rfl⟩,by rw[WG];exact q _ _ H1 h (Same.refl _) (.int _)⟩
  ·rename_i A e;rw[e]at f;cases f with
   |fL o=>exact⟨_,_,rfl,.inl ⟨_,.inl (.inr ⟨_,o⟩),rfl⟩,by rw[WG];exact q _ _ H1 h (Same.refl _) (.int _)⟩
  ·rename_i x e;rw[e]at f;rw[f.str_inv];exact⟨_,_,rfl,⟨h.1,rfl⟩,q _ _ H1 h.2 (Same.refl _) (.int _)⟩
  ·exact h.elim
 ·exact h.elim
def G2:List S->(S->Prop)->Prop
 |[s],R=>(match s.d with
  | .lst f=>s.free f=true/\R (.own f) | .tup f=>s.free f=true/\R (.own f)|_=>False)
 |_,_=>False
def Ff(G:XC K mg E C r):Xp K mg E (tCB (λxs H Q=>∃p n,xs=[.ref p]/\(SqL K H p n\/SqT K H p n)/\∀l,H l=none->Q (.ref l) (upd H l<|.lst n)) C) (pCB G2 r):=by
 refine KZ G λH0 H H1 Z M L R Q y g z A h q=>?_;unfold G2 at h;split at h
 ·rename_i s;obtain⟨v,rfl,x⟩:=A.one_inv;split at h
  ·rename_i J e;obtain⟨a,o,rfl,w,u⟩:=(x.items y z g h.1).1 e;exact⟨a,o,rfl,.inl (SqL.of w),λl f=>q _ _ _ h.2 (Kg f) (NX g f u)⟩
  ·rename_i J e;obtain⟨a,o,rfl,w,u⟩:=(x.items y z g h.1).2 e;exact⟨a,o,rfl,.inr (SqT.of w),λl f=>q _ _ _ h.2 (Kg f) (NX g f u)⟩
  ·grind
 ·grind
def GU:List S->(S->Prop)->Prop
 |[s],R=>(match s.d with
  | .lst f=>s.free f=true/\R (.sh<|.tup f) | .tup f=>s.free f=true/\R (.sh<|.tup f)|_=>False)
 |_,_=>False
def Rx(L:XC K mg E J r):Xp K mg E (tCB (λxs H Q=>∃p n,xs=[.ref p]/\((SqL K H p n/\∀l,H l=none->Q (.ref l) (upd H l<|.tup n))\/(SqT K H p n/\Q (.ref p) H))) J) (pCB GU r):=by
 refine KZ L λH0 H H1 Z T N R Q C u y G h q=>?_;have f:=λb z=>Tx u (y b z);unfold GU at h;split at h
 ·rename_i s;obtain⟨v,rfl,A⟩:=G.one_inv;split at h
  ·rename_i M e;obtain⟨a,o,rfl,g,w⟩:=(A.items C y u h.1).1 e;refine⟨a,o,rfl,.inl ⟨SqL.of g,λl x=>q _ _ _ h.2 (Kg x) (.tup (XX X9 λz=>?_)<|Rps.mono (X2 (Kg x) λ_ _ _ z=>z) w)⟩⟩
   have:=f l z
   rw[x]at this;exact this
  ·rename_i M e;obtain⟨a,o,rfl,g,w⟩:=(A.items C y u h.1).2 e;refine⟨a,o,rfl,.inr ⟨SqT.of g,q _ _ _ h.2 (Same.refl _) (.tup (XX g λz=>?_) w)⟩⟩
   have:=f a z
   rw[g]at this;exact this
  ·grind
 ·exact h.elim
theorem Rps.ints:∀{f:Ye}{vs:List V},Rps K H (f.map D.int) vs->vs=f.map V.int
 |[],_,.nil=>rfl
 |j::r,_,.cons h t=>by rw[Rp.int_inv h,Rps.ints t];rfl
theorem Rps.of_ints:∀(f:Ye),Rps K H (f.map D.int) (f.map V.int)
 |[]=>.nil
 |j::r=>.cons (.int j) (Rps.of_ints r)
def IB:List S->(S->Prop)->Prop
 |[s],R=>∃g:Ye,s.d=.lst (g.map D.int)/\g.length<64/\∀f:Ye,f.Perm g->f.Pairwise (·<=·)->R (.own<|f.map D.int)
 |_,_=>False
def Al{g r}(L:XC K mg E g r):Xp K mg E (tCB (λxs H Q=>∃p f,xs=[.ref p]/\f.length<64/\(SqL K H p (f.map V.int)\/H p=some (NA w p f))/\
  ∀l (ns:Ye),H l=none->ns.Perm f->ns.Pairwise (·<=·)->Q (.ref l) (upd H l<|.lst<|ns.map V.int)) g) (pCB IB r):=by
 refine KZ L λH0 H H1 Z U N R Q A z Y x h q=>?_;unfold IB at h;split at h
 ·rename_i s;obtain⟨v,rfl,y⟩:=x.one_inv;obtain⟨f,e,G,k⟩:=h;have n:=y.rp A;rw[e]at n;obtain⟨a,T,rfl,u,C⟩:=n.lst_inv;rw[C.ints]at u;exact⟨a,f,rfl,G,.inl (SqL.of u),λl ns o M J=>q _ _ _ (k ns M J) (Kg o) (NX z o<|Rps.of_ints ns)⟩
 ·grind
def MK:List S->(S->Prop)->Prop
 |[s,t],R=>(match s.d,t.d with | .int i,.int j=>R (.sh<|.int (if j>i then j else i))|_,_=>False)
 |_,_=>False
def Hq:List S->(S->Prop)->Prop
 |[s,t],R=>(match s.d,t.d with | .int i,.int j=>R (.sh<|.int (if j<i then j else i))|_,_=>False)
 |_,_=>False
def Zae(w:XC K mg E o r):Xp K mg E (tCB (λxs H Q=>∃i j,xs=[.int i,.int j]/\Q (.int (if j>i then j else i)) H) o) (pCB MK r):=by
 refine KZ w λH0 H H1 Z A z R Q f C G n h q=>?_;unfold MK at h;split at h
 ·obtain⟨v,u,rfl,s,p⟩:=n.two_inv;have l:=s.rp f;have g:=p.rp f;split at h
  ·rename_i i j y x;rw[y]at l;rw[x]at g;rw[l.int_inv,g.int_inv];exact⟨i,j,rfl,q _ _ H1 h (Same.refl _) (.int _)⟩
  ·grind
 ·grind
def Zjj(w:XC K mg E o r):Xp K mg E (tCB (λxs H Q=>∃i j,xs=[.int i,.int j]/\Q (.int (if j<i then j else i)) H) o) (pCB Hq r):=by
 refine KZ w λH0 H H1 Z A z R Q f C G n h q=>?_;unfold Hq at h;split at h
 ·obtain⟨v,u,rfl,s,p⟩:=n.two_inv;have l:=s.rp f;have g:=p.rp f;split at h
  ·rename_i i j y x;rw[y]at l;rw[x]at g;rw[l.int_inv,g.int_inv];exact⟨i,j,rfl,q _ _ H1 h (Same.refl _) (.int _)⟩
  ·grind
 ·grind
def Zsk:List S->(S->Prop)->Prop
 |[s],R=>(match s.d with | .int i=>R (.sh<|.int (if i<0 then -i else i))|_=>False)
 |_,_=>False
noncomputable def tyD:D->Option String
 | .int _=>some "int" | .bl _=>some "bool" | .non=>some "NoneType" | .str _=>some "str" | .tup _=>some "tuple" | .lst _=>some "list" | .fL _=>some "list" | .dK _=>some "dict" | .dT _=>some "dict" |_=>none
inductive KC:String->String->Bool->Prop
 |same (n:String):KC n n true
 |ib:KC "int" "bool" false
 |bi:KC "bool" "int" true
 |tl:KC "tuple" "list" false
 |lt:KC "list" "tuple" false
 |it:KC "int" "tuple" false
 |il:KC "int" "list" false
 |bt:KC "bool" "tuple" false
 |bL:KC "bool" "list" false
 |ti:KC "tuple" "int" false
 |li:KC "list" "int" false
 |si:KC "str" "int" false
 |is:KC "int" "str" false
 |ni:KC "NoneType" "int" false
 |nl:KC "NoneType" "list" false
 |nt:KC "NoneType" "tuple" false
def KC.kit (h:KC m n b):PySem.W.kitOne K (.type m) (.type n)=some b:=by
 cases h with
 |same=>exact Zdu K _
 |_=>rfl
def HG:List S->(S->Prop)->Prop
 |[s,t],R=>(match tyD s.d,t.d with|some m,.ty n=>∃b,KC m n b/\R (.sh<|.bl b)|_,_=>False)
 |_,_=>False
def Ze9(h:Rp K H d v)(e:tyD d=some m):KR K H v (.type m):=by
 cases h with
 |int i=>cases e;exact .int i
 |bl b=>cases e;exact .bl b
 |non=>cases e;exact .non
 |str x=>cases e;exact .str x
 |tup h r=>cases e;exact .tup h
 |lst h r=>cases e;exact .lst h
 |dK h=>cases e;exact .dK h
 |dT h=>cases e;exact .dT h
 |fL h=>cases e;exact .frz h
 |_=>cases e
def TR(w:XC K mg E o r):Xp K mg E (tCB (λxs H Q=>∃x n t b,xs=[x,.ty n]/\KR K H x t/\PySem.W.kitOne K t (.type n)=some b/\Q (.bl b) H) o) (pCB HG r):=by
 refine KZ w λH0 H H1 Z G C R Q f J L l h q=>?_;unfold HG at h;split at h
 ·obtain⟨v,u,rfl,s,p⟩:=l.two_inv;have g:=p.rp f;split at h
  ·rename_i m n A z;rw[z]at g;rw[g.ty_inv];obtain⟨b,k,y⟩:=h;exact⟨v,n,_,b,rfl,Ze9 (s.rp f) A,k.kit,q _ _ H1 y (Same.refl _) (.bl _)⟩
  ·grind
 ·grind
noncomputable def pBM(f:S->List S->(S->Prop)->Prop)(a:PTE)(r:PTA):PTE:=λγ R X=>a γ (λs=>(∃h,s.d=.lst h)/\r γ (λg=>f s g R) X) X
def Zqm{f te y a r}(ha:Xp K mg E te a)(U:XC K mg E y r)(h:∀H0 H H1 Z s v u vs R Q,Same H0 H1->Same H H1->(∀b,Z b->Mut (H b))->TV K Z H0 H H1 s v->TVs K Z H0 H H1 u vs->f s u R->(∀s z H',R s->Same H1 H'->TV K Z H0 H H' s z->Q z H')->N v vs H1 Q) :
  Xp K mg E (tBM K "list" N te y) (pBM f a r):=by
 intro H0 B H σ γ R X Q n p q G;refine ha H0 B H σ γ _ X _ n p (λs v H1 x o A=>?_) G;have g:=n.grow o;obtain⟨⟨ds,ed⟩,x⟩:=x;have C:=A.rp g.same;rw[ed]at C;obtain⟨l,J,rfl,Y,_⟩:=C.lst_inv;refine⟨.inl ⟨rfl,J,SqL.of Y⟩,U H0 B H1 σ γ _ X _ g x (λu vs H2 h2 w M=>?_) λc H' hc S'=>G c H' hc (o.trans S')⟩;exact h H0 H H2 _ s _ u vs R Q (g.grow w).same (o.trans w) n.zm (A.grow w) (TVs.weakG o M) h2 λs z H' T S3 L=>q s z H' T ((o.trans w).trans S3) L
def Ly:S->List S->(S->Prop)->Prop:=λs f R=>match f with
 |[t]=>(match t.d with | .int z=>∃xs:Ye,s.d=.lst (xs.map D.int)/\z∈xs/\R (.sh<|.int (xs.idxOf z:Nat))|_=>False)
 |_=>False
def R8{a r}(G:Xp K mg E te a)(C:XC K mg E w r):Xp K mg E (tBM K "list" (Dm K) te w) (pBM Ly a r):=by
 refine Zqm G C λH0 H H1 Z s v T M R Q n U Y y x h q=>?_;unfold Ly at h;split at h
 ·obtain⟨u,rfl,g⟩:=x.one_inv;have o:=g.rp n;split at h
  ·rename_i z e;rw[e]at o;obtain⟨xs,L,A,J⟩:=h;have f:=y.rp n;rw[L]at f;obtain⟨l,N,rfl,p,f⟩:=f.lst_inv;rw[f.ints]at p;exact⟨l,xs,z,rfl,by rw[o.int_inv],SqL.of p,A,q _ _ H1 J (Same.refl _) (.int _)⟩
  ·grind
 ·exact h.elim
noncomputable def prD(p:Int×Int):D:=.tup [.int p.1,.int p.2]
inductive InR:D->D->Bool->Prop
 |li (i:Int) (hs:Ye):InR (.int i) (.lst<|hs.map D.int) (decide (i∈hs))
 |ti (i:Int) (hs:Ye):InR (.int i) (.tup<|hs.map D.int) (decide (i∈hs))
 |lp (q:Int×Int) (ps:Yd):InR (prD q) (.lst<|ps.map prD) (decide (q∈ps))
def fIn(neg:Bool):S->S->(S->Prop)->Prop:=λx y R=>∃b,InR x.d y.d b/\R (.sh<|.bl (if neg then !b else b))
def Rp.pair (h:Rp K H (prD q) v):Pt H v q:=by
 obtain⟨a,n,rfl,f,r⟩:=Rp.tup_inv h;obtain⟨x,y,rfl,l,g⟩:=r.two_inv;rw[l.int_inv,g.int_inv]at f;exact⟨a,rfl,f⟩
def Rps.lv {vs} (h:Rps K H (ps.map prD) vs):LV Pt H vs ps:=by
 refine⟨by rw[h.len,WG],λi p f=>?_⟩;obtain⟨v,l,g⟩:=h.get (by rw[WT,f];rfl);exact⟨v,l,g.pair⟩
def Ag{C A a b}(U:Xp K mg E C a)(T:Xp K mg E A b):Xp K mg E (tOp (λx y H Q=>rIn K neg x y H Q\/BB neg x y H Q) C A) (p2 a b<|fIn neg):=by
 refine PB U T λH0 H z Z x y v u R Q G Y hm L J h q=>?_;obtain⟨k,s,w⟩:=h;have n:=L.rp G;have g:=J.rp G;generalize ex:x.d=dx at s n;generalize ey:y.d=dy at s g;cases s with
 |li i N=>
  obtain⟨l,o,rfl,f,r⟩:=g.lst_inv;rw[r.ints]at f;rw[n.int_inv];refine .inl ⟨l,_,rfl,.inl (SqL.of f),rfl,Nx _,?_⟩;rw[Ig];exact q _ _ z w (Same.refl _) (.bl _)
 |ti i N=>
  obtain⟨l,o,rfl,f,r⟩:=g.tup_inv;rw[r.ints]at f;rw[n.int_inv];refine .inl ⟨l,_,rfl,.inr (SqT.of f),rfl,Nx _,?_⟩;rw[Ig];exact q _ _ z w (Same.refl _) (.bl _)
 |lp p M=>
  obtain⟨l,o,rfl,f,r⟩:=g.lst_inv;exact .inr ⟨l,M,p,rfl,n.pair,⟨o,f,r.lv⟩,q _ _ z w (Same.refl _) (.bl _)⟩
def SM(neg:Bool):S->S->(S->Prop)->Prop:=λx y R=>match x.d,y.d with
 | .lst h,.lst g=>∃xs f:Ye,h=xs.map D.int/\g=f.map D.int/\R (.sh<|.bl (if neg then !decide (xs=f)else decide (xs=f)))
 |_,_=>fEq neg x y R
def NR{a b}(T:Xp K mg E L a)(N:Xp K mg E J b):Xp K mg E (tOp (λx y H Q=>rEq x y H Q\/T1 K false x y H Q) L J) (p2 a b<|SM false):=by
 refine PB T N λH0 H p Z x y v u R Q w s1 s G C h q=>?_;have g:=G.rp w;have f:=C.rp w;unfold SM at h;split at h
 ·rename_i ds es o n;obtain⟨xs,Y,rfl,rfl,U⟩:=h;rw[o]at g;rw[n]at f;obtain⟨l,us,rfl,A,r⟩:=g.lst_inv;obtain⟨m,ws,rfl,s,M⟩:=f.lst_inv;rw[r.ints]at A;rw[M.ints]at s;refine .inr ⟨l,m,_,_,rfl,rfl,SqL.of A,SqL.of s,Nx _,Nx _,?_⟩;rw[Dn];exact q _ _ p U (Same.refl _) (.bl _)
 ·refine .inl ?_;unfold fEq at h;split at h
  ·rename_i i j o n;rw[o]at g;rw[n]at f;rw[g.int_inv,f.int_inv];refine⟨rfl,?_⟩;rw[Si λ_ _ z=>V.int.inj z];exact q _ _ p h (Same.refl _) (.bl _)
  ·rename_i i j o n;rw[o]at g;rw[n]at f;rw[g.str_inv,f.str_inv];refine⟨rfl,?_⟩;rw[Si λ_ _ z=>V.str.inj z];exact q _ _ p h (Same.refl _) (.bl _)
  ·rename_i i j o n;rw[o]at g;rw[n]at f;rw[g.bl_inv,f.bl_inv];refine⟨rfl,?_⟩;rw[Si λ_ _ z=>V.bl.inj z];exact q _ _ p h (Same.refl _) (.bl _)
  ·exact h.elim
def Di{a b}(T:Xp K mg E L a)(N:Xp K mg E J b):Xp K mg E (tOp (λx y H Q=>rNe x y H Q\/T1 K true x y H Q) L J) (p2 a b<|SM true):=by
 refine PB T N λH0 H p Z x y v u R Q w s1 s G C h q=>?_;have g:=G.rp w;have f:=C.rp w;unfold SM at h;split at h
 ·rename_i ds es o n;obtain⟨xs,Y,rfl,rfl,U⟩:=h;rw[o]at g;rw[n]at f;obtain⟨l,us,rfl,A,r⟩:=g.lst_inv;obtain⟨m,ws,rfl,s,M⟩:=f.lst_inv;rw[r.ints]at A;rw[M.ints]at s;refine .inr ⟨l,m,_,_,rfl,rfl,SqL.of A,SqL.of s,Nx _,Nx _,?_⟩;rw[Dn];exact q _ _ p U (Same.refl _) (.bl _)
 ·refine .inl ?_;unfold fEq at h;split at h
  ·rename_i i j o n;rw[o]at g;rw[n]at f;rw[g.int_inv,f.int_inv];refine⟨rfl,?_⟩;rw[Si λ_ _ z=>V.int.inj z];exact q _ _ p h (Same.refl _) (.bl _)
  ·rename_i i j o n;rw[o]at g;rw[n]at f;rw[g.str_inv,f.str_inv];refine⟨rfl,?_⟩;rw[Si λ_ _ z=>V.str.inj z];exact q _ _ p h (Same.refl _) (.bl _)
  ·rename_i i j o n;rw[o]at g;rw[n]at f;rw[g.bl_inv,f.bl_inv];refine⟨rfl,?_⟩;rw[Si λ_ _ z=>V.bl.inj z];exact q _ _ p h (Same.refl _) (.bl _)
  ·exact h.elim
noncomputable abbrev Ep(K:Yc)(f:TE):TT:=λσ H Q=>f σ H λx H'=>∃k,EH K x H' k/\Q k H'
noncomputable def Lo(a:PTE):PTT:=λγ R X=>a γ (λx=>match x.d with
 | .bl b=>R b | .lst f=>R (!f.isEmpty) | .tup f=>R (!f.isEmpty) | .int i=>R (i != 0) | .non=>R false|_=>False) X
def DS{g f:Type}{l:List g}{m:List f}(h:l.length=m.length):l.isEmpty=m.isEmpty:=by
 cases l<;>cases m<;>simp at h ⊢
def Zlm(y:Xp K mg E te a):K6 K mg E (Ep K te) (Lo a):=by
 intro H0 B H σ γ R X Q o p q w;refine y H0 B H σ γ _ X _ o p (λx v H1 g h u=>?_) w;have f:=u.rp (o.grow h).same;split at g
 ·rename_i b e;rw[e]at f;rw[f.bl_inv];exact⟨b,rfl,q _ H1 g h⟩
 ·rename_i z e;rw[e]at f;obtain⟨l,n,rfl,s,r⟩:=f.lst_inv;exact⟨!n.isEmpty,.inl ⟨n,SqL.of s,rfl⟩,by rw[DS r.len];exact q _ H1 g h⟩
 ·rename_i z e;rw[e]at f;obtain⟨l,n,rfl,s,r⟩:=f.tup_inv;exact⟨!n.isEmpty,.inr (.inl ⟨n,SqT.of s,rfl⟩),by rw[DS r.len];exact q _ H1 g h⟩
 ·rename_i i e;rw[e]at f;rw[f.int_inv];exact⟨_,rfl,q _ H1 g h⟩
 ·rename_i e;rw[e]at f;rw[f.non_inv];exact⟨_,rfl,q _ H1 g h⟩
 ·exact g.elim
noncomputable def cutD{f:Type}(xs:List f)(lo g:Option Int):List f:=(xs.drop<|HT.sIx xs.length 0 lo).take (HT.sIx xs.length xs.length g-HT.sIx xs.length 0 lo)
noncomputable def O5:PTO:=λ_ R _=>R none
noncomputable def HI(a:PTE):PTO:=λγ R X=>a γ (λs=>match s.d with | .int i=>R (some i)|_=>False) X
def HM:TH K mg E G5 O5:=λ_ _ H _ _ _ _ _ _ p q _=>q _ H p (Same.refl _)
def Fu(r:Xp K mg E te a):TH K mg E (Ld te) (HI a):=by
 intro H0 B H σ γ R X Q f p q o;refine r H0 B H σ γ _ X _ f p (λx v H1 h l n=>?_) o;have g:=n.rp (f.grow l).same;split at h
 ·rename_i i e;rw[e]at g;exact⟨i,g.int_inv,q _ H1 h l⟩
 ·grind
noncomputable def pSl(a:PTE)(l u:PTO):PTE:=λγ R X=>a γ (λs=>l γ (λlo=>u γ (λg=>match s.d with | .lst f=>s.free f=true/\R (.own<|cutD f lo g)|_=>False) X) X) X
def Rps.cut {lo f} (r:Rps K H ds vs):Rps K H (cutD ds lo f) (TJ vs lo f):=by
 unfold cutD TJ;rw[r.len];exact Rps.take _ (Rps.drop _ r)
def Znx{a l u}(U:Xp K mg E te a)(N:TH K mg E G l)(M:TH K mg E J u):Xp K mg E (tSl (B7 K) te G J) (pSl a l u):=by
 intro H0 B H σ γ R X Q f p q o;refine U H0 B H σ γ _ X _ f p (λx v H1 h1 h L=>?_) o;refine N H0 B H1 σ γ _ X _ (f.grow h) h1 (λlo H2 Y n=>?_) λc H' s y=>o c H' s (h.trans y);refine M H0 B H2 σ γ _ X _ ((f.grow h).grow n) Y (λhi H3 w A=>?_) λc H' s y=>o c H' s ((h.trans n).trans y);have g:=(h.trans n).trans A;split at w
 ·rename_i ds e;obtain⟨b,C,rfl,T,r⟩:=((L.grow<|n.trans A).items (f.grow g).same f.zm g w.1).1 e;exact⟨b,C,rfl,SqL.of T,λm z=>q _ _ _ w.2 (g.trans<|Kg z) (NX g z r.cut)⟩
 ·grind
def Zad:S->S->(S->Prop)->Prop:=λx y R=>match x.d,y.d with
 | .lst g,.lst f=>x.free g=true/\y.free f=true/\g.length+f.length<=100000/\R (.own (g++f))
 |_,_=>False
def Kw{a b}(U:Xp K mg E L a)(T:Xp K mg E J b):Xp K mg E (tOp Hz L J) (p2 a b Zad):=by
 refine PB U T λH0 H H2 Z x y v u R Q s f A G C h q=>?_;unfold Zad at h;split at h
 ·rename_i ds es e1 Y;obtain⟨l,o,rfl,N,r⟩:=(G.items s A f h.1).1 e1;obtain⟨m,n,rfl,g,w⟩:=(C.items s A f h.2.1).1 Y;have M:o.length+n.length<=sizeLine:=by rw[r.len,w.len];exact WV h.2.2.1 (by decide)
  exact⟨l,m,o,n,rfl,rfl,N,g,M,λp z=>q _ _ _ h.2.2.2 (Kg z) (NX f z<|r.append w)⟩
 ·grind
noncomputable def D6(i:Nat)(a:PTE):PTS:=λR γ=>match γ[i]? with
 |some (some<|.own<|.lst f)=>a γ (λs=>match s.shd with
  |some d=>f.length<10000000/\R.nx (γ.set i<|some<|.own (f++[d]))
  |none=>False) (R.ex γ)
 |some (some<|.own<|.lsA x f)=>a γ (λs=>match s.shd with
  |some d=>f.length<10000000/\R.nx (γ.set i<|some<|.own<|.lsA x (f++[d]))
  |none=>False) (R.ex γ)
 |_=>False
def Zls(i:Nat){te a}(T:Xp K mg E te a):X0 K mg E (Fg<|tBM K "list" AE (K5 i)<|Kv te KP) (D6 i a):=by
 intro H0 B H σ γ R D U f h e;unfold D6 at h;split at h
 ·rename_i N w;obtain⟨v,r,b,rfl,J,us,y,p⟩:=f.slot i _ w;refine⟨_,r,.inl ⟨rfl,us,SqL.of y⟩,T H0 B H σ γ _ _ _ f h (λs u H1 n l C=>?_) λc H' G A=>e.ex σ γ c H' G (f.grow A) (Fr.grow A)⟩;have g:=f.grow l;split at n
  ·rename_i d o;refine⟨b,us,u,rfl,rfl,l _ _ y,by rw[p.len];exact V8 n.1 (by decide),?_⟩;obtain⟨o,M⟩:=g.mutate (es:=.lst (N++[d])) (us:=.lst (us++[u])) w r trivial λF H' Q L=>⟨_,L,Rps.mono Q (Rps.append (Rps.mono (X2 l λ_ _ _ z=>z) p)<|.cons (C.shd g.same f.zm l o) .nil)⟩;exact e.nx _ _ _ n.2 o ((Fr.grow l).trans M)
  ·exact n.elim
 ·rename_i x N w;obtain⟨v,r,b,rfl,J,rfl,us,y,p⟩:=f.slot i _ w;refine⟨_,r,.inl ⟨rfl,us,SqL.of y⟩,T H0 B H σ γ _ _ _ f h (λs u H1 n l C=>?_) λc H' G A=>e.ex σ γ c H' G (f.grow A) (Fr.grow A)⟩;have g:=f.grow l;split at n
  ·rename_i d o;refine⟨b,us,u,rfl,rfl,l _ _ y,by rw[p.len];exact V8 n.1 (by decide),?_⟩;obtain⟨o,M⟩:=g.mutate (es:=.lsA b (N++[d])) (us:=.lst (us++[u])) w r trivial λF H' Q L=>⟨rfl,_,L,Rps.mono Q (Rps.append (Rps.mono (X2 l λ_ _ _ z=>z) p)<|.cons (C.shd g.same f.zm l o) .nil)⟩;exact e.nx _ _ _ n.2 o ((Fr.grow l).trans M)
  ·exact n.elim
 ·exact h.elim
end
section
variable {X:Cx}{K:Yc}
def AX(f:X.A.in1.units<cLine)(g:autoParam (X.K=K) au_0):OpR X (compareOp .In) (λx y H Q=>rIn K false x y H Q\/BB false x y H Q):=(Zhk g).or (Zrc f)
def Zbw(f:X.A.in1.units<cLine)(g:autoParam (X.K=K) au_0):OpR X (compareOp .NotIn) (λx y H Q=>rIn K true x y H Q\/BB true x y H Q):=(Zmf g).or (Zqv f)
def S9(f:X.A.units<cLine)(g:autoParam (X.K=K) au_0):OpR X (compareOp .Eq) (λx y H Q=>rEq x y H Q\/T1 K false x y H Q):=by subst g;exact op_eq.or (MZ f)
def Zeb(f:X.A.units<cLine)(g:autoParam (X.K=K) au_0):OpR X (compareOp .NotEq) (λx y H Q=>rNe x y H Q\/T1 K true x y H Q):=by subst g;exact op_ne.or (Zcr f)
def Ga(g:PE X e te)(h:autoParam (X.K=K) au_0)(f:autoParam (∀whole,isTrue e X.env whole=(do let v ←whole;standAt e.pos;holding [v] (truthy v))) au_3):PT X e (Ep K te):=by
 subst h;exact Zfw g f
def BN(g:autoParam (X.K=K) au_0):Kl X (.type "list") (λxs H Q=>∃p f,xs=[.ref p]/\(SqL K H p f\/SqT K H p f)/\∀l,H l=none->Q (.ref l) (upd H l<|.lst f)):=by subst g;exact HS
def IU(g:autoParam (X.K=K) au_0):Kl X (.type "tuple") (λxs H Q=>∃p f,xs=[.ref p]/\((SqL K H p f/\∀l,H l=none->Q (.ref l) (upd H l<|.tup f))\/(SqT K H p f/\Q (.ref p) H))):=by subst g;exact Zdf
def TM(f:autoParam (X.K=K) au_0):Kl X (.builtin "isinstance") (λxs H Q=>∃x n t b,xs=[x,.ty n]/\KR K H x t/\PySem.W.kitOne K t (.type n)=some b/\Q (.bl b) H):=by subst f;exact Zqg
def AO(f:autoParam (X.K=K) au_0):SlR X (B7 K):=by subst f;exact Zow
def FP(g:X.calm=true){w}(h:autoParam (X.K=K) au_0)(hw:autoParam (X.w=w) au_0):Kl X (.builtin "sorted") (λxs H Q=>∃p f,xs=[.ref p]/\f.length<64/\(SqL K H p (f.map V.int)\/H p=some (NA w p f))/\
  ∀l (ns:Ye),H l=none->ns.Perm f->ns.Pairwise (·<=·)->Q (.ref l) (upd H l<|.lst<|ns.map V.int)):=by subst h;subst hw;exact Hr g
def N0{g l f}(h:PE X l f)(n:autoParam (X.K=K) au_0):PI X g l (Bh K f):=by subst n;exact ON h
end
section
variable {P:Program}{w:World}{K:Yc}{mg:Yg}{base:Heap}{H H':Hp}
def Znj(C:Callee P w K mg base CX k x ps sp)(h:∀ds R X vs H Q E,Rps K H ds vs->c ds R X->(∀s v H',R s->Same H H'->TV K (λb=>Mut (H b)) H H H' s v->Q v H')->(∀e H',X e->Same H H'->XE mg E e H')->sp vs H Q E) :
  Callee P w K mg base CX k x ps (Xv mg c K):=by
 obtain⟨f,o,F,rest⟩:=C.ex;exact⟨f,o,F.imp λvs H Q E ⟨ds,R,X,r,g,n,l⟩=>h ds R X vs H Q E r g n l,rest⟩
def Rp.scr_inv (h:Rp K H (.scr ns) v):∃a,v=.ref a/\SqL K H a (ns.map V.int):=by
 cases h with
 |scr h=>grind
def Rp.ints_inv {ns:Ye}{v} (h:Rp K H (.lst<|ns.map D.int) v):∃a,v=.ref a/\H a=some (.lst<|ns.map V.int):=by
 obtain⟨a,g,rfl,f,r⟩:=h.lst_inv;rw[r.ints]at f
 grind
def Rp.pairs_inv {v} (h:Rp K H (.lst<|ps.map prD) v):∃a,v=.ref a/\LAt Pt H a ps:=by
 obtain⟨a,f,rfl,g,r⟩:=h.lst_inv;exact⟨a,rfl,f,g,r.lv⟩
def Zf5{ns:Ye}(n:H a=none)(h:H' a=some (.lst<|ns.map V.int)):TV K (λb=>Mut (H b)) H H H' (.own<|ns.map D.int) (.ref a):=⟨a,rfl,(λ_ e=>e▸n),_,h,Rps.of_ints ns⟩
theorem Sh:∀(ns:Ye),KM (ns.map D.int)=true
 |[]=>rfl
 |n::r=>by rw[Qb];unfold KM;rw[Sh r];unfold imm;rfl
def Zjh(p:Int×Int):imm (prD p)=true:=rfl
theorem T5:∀(ps:Yd),KM (ps.map prD)=true
 |[]=>rfl
 |p::r=>by rw[Qb];unfold KM;rw[T5 r,Zjh];rfl
def Zsi{g:Type}{f:g->D}{xs:List g}{i}(h:i<xs.length):(xs.map f).getD i .non=f xs[i]:=by grind
def Pr{g:Type}{f:g->D}{xs:List g}{i}(l:0<=i)(h:i<(xs.length:Int)):atI (xs.map f) i=some (f (xs[i.toNat]'(by lia))):=by
 have n:i.toNat<xs.length:=by lia
 exact Tp (B5 l<|WH n)
def BL{g:Type}{f:g->D}{xs:List g}{i}(h:i<xs.length):atI (xs.map f) (i:Int)=some (f xs[i]):=Tp (Th<|WH h)
def K8{l:Type}{φ}{γ}{g}{c}{e}{s:S}{R}{xs:List l}{emb}(f:l->Option D)(n:xs.length<=100000)(turn:∀x∈xs,g (s.sub<|emb x) (atP φ γ) λh=>c h (λb=>if b=true then e h (λs=>∃d,s.shd=some d/\f x=some d) (λ_=>False)else f x=none) λ_=>False)(done:R (.own<|xs.filterMap f)) :
  BV φ γ g c e (xs.map emb).length (λi=>s.sub ((xs.map emb).getD i .non)) R:=by
 rw[WG];refine⟨⟨n,λi=>(xs[i]?).bind f,λi o=>?_,by rw[Za3];exact done⟩⟩;simp_all
def E3{g c e item R n}(f:Nat->Option D)(o:n<=100000)(turn:∀i,i<n->g (item i) (atP φ l) λh=>c h (λb=>if b=true then e h (λs=>∃d,s.shd=some d/\f i=some d) (λ_=>False)else f i=none) λ_=>False)(done:R (.own ((List.range n).filterMap f))) :
  BV φ l g c e n item R:=⟨⟨o,f,turn,done⟩⟩
def Tz{p:Type}{js}{γ}{g}{body}{s:S}{R}{xs:List p}{emb}(l:Nat->Γ->Prop)(u:l 0 (clr js γ))(turn:∀i r f,l i f->g (s.sub (emb xs[i])) f λo=>body {R with nx:=λn=>l (i+1) (clr js n),ct:=λn=>l (i+1) (clr js n),bk:=R.nx} o)(done:∀f,l xs.length f->R.nx f) :
  E2 js γ g body R (xs.map emb).length (λi=>s.sub ((xs.map emb).getD i .non)):=by
 refine⟨⟨l,u,λi f r h=>?_,λf h=>?_⟩⟩
 ·grind
 ·grind
def PZ{n item}(f:Nat->Γ->Prop)(s:f 0 (clr p r))(turn:∀i h,i<n->f i h->g (item i) h λo=>body {R with nx:=λl=>f (i+1) (clr p l),ct:=λl=>f (i+1) (clr p l),bk:=R.nx} o)(done:∀h,f n h->R.nx h):E2 p r g body R n item:=⟨⟨f,s,turn,done⟩⟩
def Af(h:Γ->Prop)(l:Γ->Nat)(p:h (clr n o))(turn:∀f,h f->c f (λb=>if b=true then body {R with nx:=λg=>h (clr n g)/\l (clr n g)<l f,ct:=λg=>h (clr n g)/\l (clr n g)<l f,bk:=R.nx} f else R.nx f) (R.ex f)):HL n o c body R:=⟨⟨h,l,p,turn⟩⟩
def TL(J:Γ->Prop)(l:p {R with nx:=J} g)(h:∀f,J f->q R f):RK p q R g:=⟨⟨J,l,h⟩⟩
theorem PX{f:Type}(c:f->Bool)(emb:f->D):∀g:List f,g.filterMap (λq=>if c q=true then some (emb q)else none)=(g.filter c).map emb
 |[]=>rfl
 |q::r=>by
  by_cases h:c q=true
  ·rw[List.filterMap_cons_some (by rw[WO h]),List.filter_cons_of_pos h,Qb,PX c emb r]
  ·rw[List.filterMap_cons_none (by grind),List.filter_cons_of_neg h,PX c emb r]
def T7{f:Type}(emb:f->D)(g:List f):g.filterMap (λq=>some (emb q))=g.map emb:=by simp
def TN(f:h->D)(xs:List h)(lo g:Option Int):cutD (xs.map f) lo g=(cutD xs lo g).map f:=by
 unfold cutD;simp
def B3(xs:List f){n}(h:0<=n):cutD xs none (some n)=xs.take n.toNat:=by
 unfold cutD;have e:n=(n.toNat:Int):=by lia
 rw[HT.LB,e,HT.Fl,List.drop_zero,Nat.sub_zero,Q3];by_cases c:n.toNat<=xs.length
 ·simp
 ·simp
def Se(xs:List f){n}(h:0<=n):cutD xs (some n) none=xs.drop n.toNat:=by
 unfold cutD;have e:n=(n.toNat:Int):=by lia
 rw[HT.LB,e,HT.Fl,Q3];by_cases c:n.toNat<=xs.length
 ·grind
 ·rw[Nat.min_eq_right (by lia),List.drop_of_length_le (WQ _),List.drop_of_length_le (by lia)];simp
noncomputable def ET(K:Yc):Sp:=λf H Q _=>∃(a:Addr) (g:Ye),f=[.ref a]/\SqL K H a (g.map V.int)/\∀H',Q (.bl true) H'
noncomputable def R4:Pc:=λg R _=>∃f:Ye,g=[.scr f]/\R (.sh<|.bl true)
def Zkx(h:ET K vs H Q n):Xv mg R4 K vs H Q n:=by
 obtain⟨a,f,rfl,l,q⟩:=h;refine⟨[.scr f],λs=>s=.sh (.bl true),λ_=>False,.cons (.scr l) .nil,⟨f,rfl,rfl⟩,λs v H' e o g=>?_,λ_ _ z=>z.elim⟩;subst e;cases g
 grind
end
section
variable {K:Yc}{mg:Yg}{E:L2.St->XK}{H0 H H1 H':Hp}{B Z Z':Addr->Prop}{σ:L2.St}{γ:Γ}
noncomputable def BE:D->Option V
 | .int i=>some (.int i) | .bl b=>some (.bl b) | .non=>some .non | .str x=>some (.str x)|_=>none
noncomputable def vD:V->D
 | .int i=>.int i | .bl b=>.bl b | .str x=>.str x|_=>.non
noncomputable def FX:V->Bool
 | .int _=>true | .bl _=>true | .str _=>true | .non=>true|_=>false
def EN(h:FX v=true):Rp K H (vD v) v:=by
 cases v with
 |int i=>exact .int i
 |bl b=>exact .bl b
 |str x=>exact .str x
 |non=>exact .non
 |_=>cases h
def FY(h:Rp K H d v)(e:BE d=some u):v=u:=by
 cases h with
 |int i|bl b|non|str x=>cases e;rfl
 |_=>cases e
noncomputable def BR:D->Option Key
 | .int i=>some (.inl i) | .str x=>some (.inr x)|_=>none
noncomputable def SW:List D->Option (List Key)
 |[]=>some []
 |d::r=>match BR d,SW r with
  |some k,some f=>some (k::f)
  |_,_=>none
noncomputable def Sq:D->Option (List Key)
 | .tup f=>SW f
 |_=>none
def Fk(h:Rp K H d v)(e:BR d=some k):v=kV k:=by
 cases h with
 |int i|str x=>cases e;rfl
 |_=>cases e
def Zna:∀{ds vs}{f:List Key},Rps K H ds vs->SW ds=some f->vs=f.map kV:=by
 intro ds
 induction ds with
 |nil=>
  intro _ _ h e;cases h
  cases e
  rfl
 |cons _ _ g=>
  intro _ f h e;cases h with
  |cons h r=>
   unfold SW at e;split at e
   ·rename_i k o n l;cases e
    rw[Fk h n,g r l];rfl
   ·grind
def Fm(h:Rp K H d v)(e:Sq d=some f):∃b,v=.ref b/\H b=some (.tup<|f.map kV):=by
 cases h with
 |tup h r=>
  rw[Zna r e]at h
  grind
 |_=>cases e
def Rp.dK_inv (h:Rp K H (.dK f) v):∃a,v=.ref a/\H a=some (.dK f):=by
 cases h with
 |dK h=>grind
def Rp.dT_inv (h:Rp K H (.dT f) v):∃a,v=.ref a/\H a=some (.dT f):=by
 cases h with
 |dT h=>grind
noncomputable def Zf7:PTE:=λ_ R _=>R (.own<|.dK [])
noncomputable def Zg5:PTE:=λ_ R _=>R (.own<|.dT [])
def Zj5:Xp K mg E GE Zf7:=by
 intro H0 B H σ γ R X Q g p q _ l f;exact q _ _ _ p (Kg f) ⟨l,rfl,(λ_ e=>e▸f),X9⟩
def Zga:Xp K mg E IS Zg5:=by
 intro H0 B H σ γ R X Q g p q _ l f;exact q _ _ _ p (Kg f) ⟨l,rfl,(λ_ e=>e▸f),X9⟩
def MQ:S->S->(S->Prop)->Prop:=λx y R=>match x.d with
 | .dK f=>∃k v,BR y.d=some k/\X8 f k=some v/\FX v=true/\R (.sh<|vD v)
 | .dT f=>∃k v,Sq y.d=some k/\X8 f k=some v/\FX v=true/\R (.sh<|vD v)
 |_=>False
def Fd{a b}(N:Xp K mg E M a)(p:Xp K mg E g b):Xp K mg E (IJ M g) (p2 a b MQ):=by
 refine PB N p λH0 H J Z x y v u R Q C T U L g h q=>?_;have f:=L.rp C;have G:=g.rp C;unfold MQ at h;split at h
 ·rename_i n e;rw[e]at f;obtain⟨l,rfl,o⟩:=f.dK_inv;obtain⟨k,w,A,z,s,r⟩:=h;refine⟨l,w,rfl,?_,q _ _ J r (Same.refl _) (EN s)⟩;rw[Fk G A,←z];exact DGet.k o
 ·rename_i n e;rw[e]at f;obtain⟨l,rfl,o⟩:=f.dT_inv;obtain⟨k,w,A,z,s,r⟩:=h;obtain⟨b,rfl,p⟩:=Fm G A;refine⟨l,w,rfl,?_,q _ _ J r (Same.refl _) (EN s)⟩;rw[←z];exact DGet.t o p
 ·grind
def Lm(neg:Bool):S->S->(S->Prop)->Prop:=λy x R=>match x.d with
 | .dK f=>∃k,BR y.d=some k/\R (.sh<|.bl (if neg then !(X8 f k).isSome else(X8 f k).isSome))
 | .dT f=>∃k,Sq y.d=some k/\R (.sh<|.bl (if neg then !(X8 f k).isSome else(X8 f k).isSome))
 |_=>False
def Zry{w f a b}(J:Xp K mg E f a)(p:Xp K mg E w b):Xp K mg E (Zaa f w) (p2 a b<|Lm true):=by
 refine PB J p λH0 H C Z y x u v R Q z L M f G h q=>?_;have g:=G.rp z;have A:=f.rp z;unfold Lm at h;split at h
 ·rename_i n e;rw[e]at g;obtain⟨l,rfl,o⟩:=g.dK_inv;obtain⟨k,s,r⟩:=h;refine⟨l,_,rfl,?_,q _ _ C r (Same.refl _) (.bl _)⟩;rw[Fk A s];exact DGet.k o
 ·rename_i n e;rw[e]at g;obtain⟨l,rfl,o⟩:=g.dT_inv;obtain⟨k,s,r⟩:=h;obtain⟨b,rfl,p⟩:=Fm A s;exact⟨l,_,rfl,DGet.t o p,q _ _ C r (Same.refl _) (.bl _)⟩
 ·grind
noncomputable def MR(i:Nat)(b a:PTE):PTS:=λR γ=>match γ[i]? with
 |some (some<|.own<|.dK f)=>a γ (λs=>b γ (λy=>∃k u,BR y.d=some k/\BE s.d=some u/\f.length<100000/\R.nx (γ.set i<|some<|.own<|.dK<|putK f k u)) (R.ex γ)) (R.ex γ)
 |some (some<|.own<|.dT f)=>a γ (λs=>b γ (λy=>∃k u,Sq y.d=some k/\BE s.d=some u/\f.length<100000/\R.nx (γ.set i<|some<|.own<|.dT<|putK f k u)) (R.ex γ)) (R.ex γ)
 |_=>False
def Cf(i:Nat){ty tv a b}(hb:Xp K mg E ty b)(ha:Xp K mg E tv a):X0 K mg E (RP (K5 i) ty tv) (MR i b a):=by
 intro H0 B H σ γ R D hB n h e;have hx:=λc H' G x=>e.ex σ γ c H' G (n.grow x) (Fr.grow x);unfold MR at h;split at h
 ·rename_i o C;obtain⟨v,A,l,rfl,Y,U⟩:=n.slot i _ C;refine ha H0 B H σ γ _ _ _ n h (λs u H1 h1 p L=>⟨_,A,?_⟩) hx;have f:=n.grow p;refine hb H0 B H1 σ γ _ _ _ f h1 (λy w H2 h2 r J=>?_) λc H' G x=>hx c H' G (p.trans x);obtain⟨k,z,T,Q,N,M⟩:=h2;have g:=f.grow r;have eu:=FY (L.rp f.same) Q;have ew:=Fk (J.rp g.same) T;subst eu ew;refine⟨l,_,rfl,DPut.k (r _ _<|p _ _ U) (V8 N<|by decide),?_⟩;obtain⟨e2,f2⟩:=g.mutate (es:=.dK (putK o k u)) (us:=.dK (putK o k u)) C A trivial λF H' SF hF=>hF;exact e.nx _ _ _ M e2 ((Fr.grow<|p.trans r).trans f2)
 ·rename_i o C;obtain⟨v,A,l,rfl,Y,U⟩:=n.slot i _ C;refine ha H0 B H σ γ _ _ _ n h (λs u H1 h1 p L=>⟨_,A,?_⟩) hx;have f:=n.grow p;refine hb H0 B H1 σ γ _ _ _ f h1 (λy w H2 h2 r J=>?_) λc H' G x=>hx c H' G (p.trans x);obtain⟨k,z,T,Q,N,M⟩:=h2;have g:=f.grow r;have eu:=FY (L.rp f.same) Q;obtain⟨b',rfl,hb'⟩:=Fm (J.rp g.same) T;subst eu;refine⟨l,_,rfl,DPut.t (r _ _<|p _ _ U) hb' (V8 N<|by decide),?_⟩;obtain⟨e2,f2⟩:=g.mutate (es:=.dT (putK o k u)) (us:=.dT (putK o k u)) C A trivial λF H' SF hF=>hF;exact e.nx _ _ _ M e2 ((Fr.grow<|p.trans r).trans f2)
 ·exact h.elim
noncomputable def Gv(a:PTE):PTS:=λR γ=>a γ (λs=>match s.shd with|some d=>R.rt (.sh d)|none=>False) (R.ex γ)
def Zjf(r:Xp K mg E te a):X0 K mg E (NV te) (Gv a):=by
 intro H0 B H σ γ R D u f h e;refine r H0 B H σ γ _ _ _ f h (λs v H1 l g o=>?_) λc H' p n=>e.ex σ γ c H' p (f.grow n) (Fr.grow n);split at l
 ·rename_i d hd;exact e.rt (.sh d) v H1 l (f.same.trans g) (Rp.mono (X2 (Same.refl _) λb _ _ z y=>z (.inl y)) (o.shd (f.grow g).same f.zm g hd))
 ·grind
noncomputable def LR(i:Nat)(γ:Γ):Nat:=match γ[i]? with
 |some (some<|.own<|.lst f)=>f.length
 |_=>0
def KL(d:f)(ds:List f):atI (d::ds) 0=some d:=B5 (by simp) rfl
noncomputable def em(l:Int)(p:Ye):D:=.lst ((l::p).map D.int)
def Ez(l:Int)(p:Ye):atI ((l::p).map D.int) (-1)=some (.int<|X3 l p):=by
 refine Tp ?_;unfold atI ixN;rw[WM (by lia),WO (by grind)];have e:(-1+((l::p).length:Int)).toNat=p.length:=by grind
 rw[e];exact FI l p
def Mr:List S->(S->Prop)->Prop
 |[s],R=>∃f:Ye,s.d=.lst (f.map D.int)/\R (.sh<|.int f.sum)
 |_,_=>False
def Gx(s:XC K mg E l r):Xp K mg E (tCB (λxs H Q=>∃(p:Addr) (ns:Ye),xs=[.ref p]/\SqL K H p (ns.map V.int)/\Q (.int ns.sum) H) l) (pCB Mr r):=by
 refine KZ s λH0 H H1 Z y x R Q o z A g h q=>?_;unfold Mr at h;split at h
 ·obtain⟨v,rfl,n⟩:=g.one_inv;obtain⟨ns,e,w⟩:=h;have f:=n.rp o;rw[e]at f;obtain⟨a,rfl,u⟩:=f.ints_inv;exact⟨a,ns,rfl,SqL.of u,q _ _ H1 w (Same.refl _) (.int _)⟩
 ·grind
def Lv:List S->(S->Prop)->Prop
 |[s],R=>∃f:Ye,s.d=.lst (f.map D.int)/\0<f.length/\∀m,m∈f->(∀a∈f,m<=a)->R (.sh<|.int m)
 |_,_=>False
def Zcs(u:XC K mg E n r):Xp K mg E (tCB (λxs H Q=>∃(p:Addr) (ns:Ye),xs=[.ref p]/\SqL K H p (ns.map V.int)/\0<ns.length/\∀M,M∈ns->(∀a∈ns,M<=a)->Q (.int M) H) n) (pCB Lv r):=by
 refine KZ u λH0 H H1 Z C A R Q s G J l h q=>?_;unfold Lv at h;split at h
 ·obtain⟨v,rfl,o⟩:=l.one_inv;obtain⟨ns,e,f,x⟩:=h;have g:=o.rp s;rw[e]at g;obtain⟨a,rfl,w⟩:=g.ints_inv;exact⟨a,ns,rfl,SqL.of w,f,λm z y=>q _ _ H1 (x m z y) (Same.refl _) (.int _)⟩
 ·grind
def Mf:List S->(S->Prop)->Prop
 |[s],R=>∃bs:List Bool,s.d=.lst (bs.map D.bl)/\R (.sh<|.bl<|bs.any id)
 |_,_=>False
theorem Rps.bls:∀{f:List Bool}{vs:List V},Rps K H (f.map D.bl) vs->vs=f.map V.bl
 |[],_,.nil=>rfl
 |j::r,_,.cons h t=>by rw[Rp.bl_inv h,Rps.bls t];rfl
def L0(w:XC K mg E n r):Xp K mg E (tCB (λxs H Q=>∃(p:Addr) (bs:List Bool),xs=[.ref p]/\SqL K H p (bs.map V.bl)/\Q (.bl<|bs.any id) H) n) (pCB Mf r):=by
 refine KZ w λH0 H H1 Z A y R Q s C G l h q=>?_;unfold Mf at h;split at h
 ·obtain⟨v,rfl,o⟩:=l.one_inv;obtain⟨bs,e,x⟩:=h;have f:=o.rp s;rw[e]at f;obtain⟨a,z,rfl,g,u⟩:=f.lst_inv;rw[u.bls]at g;exact⟨a,bs,rfl,SqL.of g,q _ _ H1 x (Same.refl _) (.bl _)⟩
 ·grind
def HZ(neg:Bool):S->S->(S->Prop)->Prop:=λx y R=>match x.d,y.d with
 | .lst f,.lst []=>R (.sh<|.bl (if neg then !f.isEmpty else f.isEmpty))
 |_,_=>False
def AZ{n g a b}(L:Xp K mg E n a)(J:Xp K mg E g b):Xp K mg E (tOp (Co K neg) n g) (p2 a b<|HZ neg):=by
 refine PB L J λH0 H T Z x y v u R Q o Y hm A z h q=>?_;have s:=A.rp o;have p:=z.rp o;unfold HZ at h;split at h
 ·rename_i ds N M;rw[N]at s;rw[M]at p;obtain⟨l,w,rfl,G,r⟩:=s.lst_inv;obtain⟨m,U,rfl,f,C⟩:=p.lst_inv;cases C
  refine⟨l,m,w,rfl,rfl,SqL.of G,SqL.of f,?_⟩;rw[DS r.len];exact q _ _ T h (Same.refl _) (.bl _)
 ·grind
def OG(x y:Int){k}(h:k=0\/k=1):atI [D.int x,D.int y] k=some (.int (if k=0 then x else y)):=by
 rcases h with rfl|rfl
 ·rfl
 ·rfl
def TB(xs:List g)(lo f:Option Int):(cutD xs lo f).Sublist xs:=(Jm _ _).trans (List.drop_sublist _ _)
def Xt.gone (Q:Xt K H0 B H σ γ) (i:Nat):Xt K H0 B H (σ.set i none) (γ.set i none)/\Fr B H σ γ H (σ.set i none) (γ.set i none):=by
 obtain⟨l,f1⟩:=Q.drop i
 have f:∀j s,(γ.set i none)[j]?=some (some s)->j≠i:=λj s h=>by
  rcases Ka h with⟨_,e,_⟩|⟨n,_⟩
  ·cases e
  ·exact n
 have G:∀b,zof B (γ.set i none) (σ.set i none) b↔zof B (γ.set i none) σ b:=λb=>by
  constructor
  ·rintro(z|⟨j,p,x,g,r,u⟩)
   ·exact .inl z
   ·rw[Tj (f j _ g)]at r;exact .inr ⟨j,p,x,g,r,u⟩
  ·rintro(z|⟨j,p,x,g,r,u⟩)
   ·exact .inl z
   ·exact .inr ⟨j,p,x,g,by rw[Tj (f j _ g)];exact r,u⟩
 have ez:=funext λb=>propext (G b);refine⟨⟨l.same,by rw[QI];exact l.len,l.bm,λk j a N p M b y w C A L J=>?_,λj s h=>?_⟩,λb o h z=>?_⟩
 ·rw[Tj (f k _ y)]at C;rw[Tj (f j _ w)]at A;exact l.own k j a N p M b y w C A L J
 ·obtain⟨v,y,w⟩:=l.slot j s h
  grind
 ·rw[ez];exact f1 b o h z
noncomputable def Zd2(mg:Yg)(n:Yl)(i:Nat)(l h:PTS):PTS:=λR γ=>l {R with ex:=λf c=>c∈n/\h {nx:=λg=>R.nx (g.set i none),rt:=R.rt,ex:=λ_ _=>False,bk:=λg=>R.bk (g.set i none),ct:=λg=>R.ct (g.set i none),rv:=R.rv} (f.set i<|some<|.sh<|.err<|ExcR.Xs mg c)} γ
def Zfv{C0}{L:Ends->TS}{ts}{N M}{E'}(J:Yl)(C:∀c∈J,ExcR.Ks K (ExcR.Xs mg c)/\PySem.W.exmOne K (.ref<|ExcR.Xs mg c) (.ref C0)=some true)(hb:∀D,X0 K mg (ExcR.hx K C0 i ts D) (L D) N)(hh:X0 K mg E' ts M)(hd:autoParam (∀c∈J,NJ c=none) au_1):X0 K mg E (λD σ H=>L D D σ H) (Zd2 mg J i N M):=by
 intro H0 B H σ γ R D T G h e;refine hb D H0 B H σ γ _ D T G h ⟨e.nx,e.rt,λy A c H' hc U f'=>?_,e.bk,e.ct,e.rv⟩;obtain⟨u,hp⟩:=hc;obtain⟨k1,k2⟩:=C c u;refine .of (hd c u) ⟨_,rfl,k2,λa Q=>?_⟩;have Y:TV K (zof B A y) H0 H' (upd H' a<|ExcR.Ak a<|ExcR.Xs mg c) (.sh<|.err<|ExcR.Xs mg c) (.ref a):=.err (XX X9 λz=>by have:=U.zm a z;rw[Q]at this;exact this);obtain⟨e2,f2⟩:=U.set (Kg (o:=ExcR.Ak a (ExcR.Xs mg c)) Q) Y rfl;have l:=f'.trans f2;refine hh H0 B _ _ _ _ _ T e2 hp ⟨λf g s n r p=>?_,e.rt,λ_ _ _ _ z=>z.elim,λf g s n r p=>?_,λf g s n r p=>?_,λf g d v s n r p=>e.rv f g d v s n r (l.trans p)⟩
 ·obtain⟨x,w⟩:=r.gone i;exact e.nx _ _ s n x (l.trans<|p.trans w)
 ·obtain⟨x,w⟩:=r.gone i;exact e.bk _ _ s n x (l.trans<|p.trans w)
 ·obtain⟨x,w⟩:=r.gone i;exact e.ct _ _ s n x (l.trans<|p.trans w)
def Zfl:Xp K mg E (tC<|.ref a) (pC<|.ref a):=BI λ_=>.ref a
def Mg(K:Yc):List S->(S->Prop)->Prop
 |[s,t],R=>(match s.d,t.d with
  | .err C,.ref f=>∃b,ExcR.Ks K C/\PySem.W.kitOne K (.ref C) (.ref f)=some b/\R (.sh<|.bl b)
  | .err C,.ty n=>∃b,ExcR.Ks K C/\PySem.W.kitOne K (.ref C) (.type n)=some b/\R (.sh<|.bl b)
  | .erM C _,.ref f=>∃b,ExcR.PP K C/\PySem.W.kitOne K (.ref C) (.ref f)=some b/\R (.sh<|.bl b)
  | .erM C _,.ty n=>∃b,ExcR.PP K C/\PySem.W.kitOne K (.ref C) (.type n)=some b/\R (.sh<|.bl b)
  |_,_=>False)
 |_,_=>False
def Rp.err_inv (h:Rp K H (.err C) v):∃a,v=.ref a/\H a=some (ExcR.Ak a C):=by
 cases h with
 |err h=>grind
def Rp.ref_inv (h:Rp K H (.ref a) v):v=.ref a:=by cases h;rfl
def Rp.erM_inv (h:Rp K H (.erM C r) v):∃a f l o,v=.ref a/\H a=some (ExcR.Pf a C<|some f)/\H f=some (.xd [("members",.ref l)])/\H l=some (.frz o<|.lst<|r.map V.int):=by
 cases h with
 |erM p n g=>grind
def Le(U:XC K mg E M r):Xp K mg E (tCB (λxs H Q=>∃a C z c b,xs=[.ref a,c]/\H a=some (ExcR.Pf a C z)/\ExcR.PP K C/\(∃J,(∀u,RelV c u->u=J)/\PySem.W.kitOne K (.ref C) J=some b)/\Q (.bl b) H) M) (pCB (Mg K) r):=by
 refine KZ U λH0 H H1 Z ss Y R Q G s1 hm L h q=>?_;unfold Mg at h;split at h
 ·obtain⟨v,u,rfl,T,N⟩:=L.two_inv;have g:=T.rp G;have f:=N.rp G;split at h
  ·rename_i C A y x;rw[y]at g;rw[x]at f;obtain⟨a,rfl,o⟩:=g.err_inv;obtain⟨b,w,s,p⟩:=h;rw[f.ref_inv];exact⟨a,C,_,_,b,rfl,o,w.any,⟨.ref A,λu l=>l,s⟩,q _ _ H1 p (Same.refl _) (.bl _)⟩
  ·rename_i C n y x;rw[y]at g;rw[x]at f;obtain⟨a,rfl,o⟩:=g.err_inv;obtain⟨b,w,s,p⟩:=h;rw[f.ty_inv];exact⟨a,C,_,_,b,rfl,o,w.any,⟨.type n,λu l=>l,s⟩,q _ _ H1 p (Same.refl _) (.bl _)⟩
  ·rename_i C r A y x;rw[y]at g;rw[x]at f;obtain⟨a,z,_,_,rfl,o,_,_⟩:=g.erM_inv;obtain⟨b,w,s,p⟩:=h;rw[f.ref_inv];exact⟨a,C,_,_,b,rfl,o,w,⟨.ref A,λu l=>l,s⟩,q _ _ H1 p (Same.refl _) (.bl _)⟩
  ·rename_i C r n y x;rw[y]at g;rw[x]at f;obtain⟨a,z,_,_,rfl,o,_,_⟩:=g.erM_inv;obtain⟨b,w,s,p⟩:=h;rw[f.ty_inv];exact⟨a,C,_,_,b,rfl,o,w,⟨.type n,λu l=>l,s⟩,q _ _ H1 p (Same.refl _) (.bl _)⟩
  ·exact h.elim
 ·exact h.elim
noncomputable def E4(i:Nat)(b a:PTE):PTS:=λR γ=>match γ[i]? with
 |some (some<|.own<|.lst f)=>a γ (λs=>b γ (λy=>match y.d with
   | .int k=>∃j d,ixN f.length k=some j/\s.shd=some d/\R.nx (γ.set i<|some<|.own<|.lst<|f.set j d)
   |_=>False) (R.ex γ)) (R.ex γ)
 |some (some<|.own<|.lsA x f)=>a γ (λs=>b γ (λy=>match y.d with
   | .int k=>∃j d,ixN f.length k=some j/\s.shd=some d/\R.nx (γ.set i<|some<|.own<|.lsA x<|f.set j d)
   |_=>False) (R.ex γ)) (R.ex γ)
 |_=>False
theorem Rps.set (h:Rp K H d v):∀{ds vs} j,Rps K H ds vs->Rps K H (ds.set j d) (vs.set j v)
 |_,_,_,.nil=>.nil
 |_,_,0,.cons _ r=>.cons h r
 |_,_,j+1,.cons k r=>.cons k (Rps.set h j r)
def Zps(i:Nat){tb te a b}(hb:Xp K mg E tb b)(ha:Xp K mg E te a):X0 K mg E (NG te<|Oe (K5 i) tb Og) (E4 i b a):=by
 intro H0 B H σ γ R D hB g h e;have hx:=λc H' M A=>e.ex σ γ c H' M (g.grow A) (Fr.grow A);unfold E4 at h;split at h
 ·rename_i ds L;obtain⟨v,J,l,rfl,Y,us,U,G⟩:=g.slot i _ L;refine ha H0 B H σ γ _ _ _ g h (λs u H1 h1 o Q=>⟨_,J,?_⟩) hx;have f:=g.grow o;refine hb H0 B H1 σ γ _ _ _ f h1 (λy w H2 r p N=>?_) λc H' M A=>hx c H' M (o.trans A);have n:=f.grow p;have C:=N.rp n.same;split at r
  ·rename_i k ek;rw[ek]at C;obtain⟨j,d,h3,h4,h5⟩:=r;have T:=Rp.mono (X2 p λ_ _ _ z=>z) (Q.shd f.same g.zm o h4);refine⟨l,us,k,j,rfl,C.int_inv,(o.trans p) _ _ U,by rw[G.len];exact h3,?_⟩;obtain⟨e2,f2⟩:=n.mutate (es:=.lst (ds.set j d)) (us:=.lst (us.set j u)) L J trivial λF H' SF hF=>⟨_,hF,Rps.mono SF (Rps.set T j<|Rps.mono (X2 (o.trans p) λ_ _ _ z=>z) G)⟩;exact e.nx _ _ _ h5 e2 ((Fr.grow<|o.trans p).trans f2)
  ·exact r.elim
 ·rename_i x ds L;obtain⟨v,J,l,rfl,Y,rfl,us,U,G⟩:=g.slot i _ L;refine ha H0 B H σ γ _ _ _ g h (λs u H1 h1 o Q=>⟨_,J,?_⟩) hx;have f:=g.grow o;refine hb H0 B H1 σ γ _ _ _ f h1 (λy w H2 r p N=>?_) λc H' M A=>hx c H' M (o.trans A);have n:=f.grow p;have C:=N.rp n.same;split at r
  ·rename_i k ek;rw[ek]at C;obtain⟨j,d,h3,h4,h5⟩:=r;have T:=Rp.mono (X2 p λ_ _ _ z=>z) (Q.shd f.same g.zm o h4);refine⟨l,us,k,j,rfl,C.int_inv,(o.trans p) _ _ U,by rw[G.len];exact h3,?_⟩;obtain⟨e2,f2⟩:=n.mutate (es:=.lsA l (ds.set j d)) (us:=.lst (us.set j u)) L J trivial λF H' SF hF=>⟨rfl,_,hF,Rps.mono SF (Rps.set T j<|Rps.mono (X2 (o.trans p) λ_ _ _ z=>z) G)⟩;exact e.nx _ _ _ h5 e2 ((Fr.grow<|o.trans p).trans f2)
  ·exact r.elim
 ·exact h.elim
def Zsf:S->S->(S->Prop)->Prop:=λx y R=>match x.d,y.d with
 | .lst f,.int k=>x.free f=true/\(-(2 ^ 63)<=k/\k<2 ^ 63)/\f.length*k.toNat<=10000000/\R (.own (.lst (List.replicate k.toNat f).flatten))
 |_,_=>False
noncomputable def BZ:List D->Option (List V)
 |[]=>some []
 |d::r=>match BE d,BZ r with
  |some v,some f=>some (v::f)
  |_,_=>none
theorem Gm:∀{ds}{vs us:List V},Rps K H ds vs->BZ ds=some us->vs=us
 |[],_,_,.nil,e=>by cases e;rfl
 |d::r,_,us,.cons h t,e=>by
  unfold BZ at e;split at e
  ·rename_i v vs g f;cases e
   rw[FY h g,Gm t f]
  ·grind
def Zag(neg:Bool):S->S->(S->Prop)->Prop:=λx y R=>match x.d,y.d with
 | .lst l,.lst h=>∃g f,BZ l=some g/\BZ h=some f/\g.all KJ=true/\f.all KJ=true/\R (.sh<|.bl (if neg then !eqL g f else eqL g f))
 |_,_=>False
def Zr7{n g a b}(N:Xp K mg E n a)(M:Xp K mg E g b):Xp K mg E (tOp (T1 K neg) n g) (p2 a b<|Zag neg):=by
 refine PB N M λH0 H H2 Z x y v u R Q o s1 hm J G h q=>?_;unfold Zag at h;have s:=J.rp o;have p:=G.rp o;split at h
 ·rename_i ds es e1 e2;rw[e1]at s;rw[e2]at p;obtain⟨C,z,h1,h2,Y,U,T⟩:=h;obtain⟨l,vs,rfl,w,r⟩:=s.lst_inv;obtain⟨m,A,rfl,f,L⟩:=p.lst_inv;rw[Gm r h1]at w;rw[Gm L h2]at f;exact⟨l,m,C,z,rfl,rfl,SqL.of w,SqL.of f,Y,U,q _ _ H2 T (Same.refl _) (.bl _)⟩
 ·grind
def Zdl(f:X.A.units<cLine)(g:autoParam (X.K=K) au_0):OpR X (compareOp .Eq) (T1 K false):=by subst g;exact MZ f
end
end Pu
namespace PySem
open Sem (wp)
structure Zkr {K:Type} (es:List DictEntry) (kvs:List (K×Value)):Prop where
 length:es.length=kvs.length
 get?:∀{i:Nat} {e:DictEntry} {k:K} {v:Value},es[i]?=some e->kvs[i]?=some (k,v)->True/\e.val=v
def VDict{K:Type}(h:Heap)(a:Addr)(f:List (K×Value))(l:Nat):Prop:=
 ∃o g,h.get? a=some o/\o.ExactDict/\o.data=.dict g l/\True/\Zkr g.toList f/\True
section
variable {prog:Program}{w:World}{K:Type}{A:Around}{E:Yh}{s:Shared}
def Zqy(d:Addr)(hd:(d==sysModules)=false) :
  MeetsIn prog w (Builtin.«dict.values» ⟨[.ref d],[]⟩) (λ_ R s=>s.TypeIs (.ref d) "dict"/\
   R (.ok<|.ret<|.ref s.heap.objs.size) {s with heap:=s.heap.push {cls:=.type "dict_values",data:=.fields #[.ref d]}}):=
 .of_wp λA R s ⟨f,h⟩=>by
  refine WE ?_;unfold Builtin.Dict.noArgs;refine WE (wpAny_notOrdered_dict f ?_);show wpAny _ _ (pure d) _ _ s;refine WK ?_;show wpAny _ _ (Builtin.Dict.showsAll d >>= _) _ _ s;unfold Builtin.Dict.showsAll;rw[WM (by rw[hd];exact Qh)];refine WE (WK ?_);exact WE (QB<|WK ⟨_,rfl,h⟩)
def Zra{v d:Addr}{g:List (K×Value)}{y:Nat}{Q:Yh}(l:s.heap.IsValuesView v d)(B:VDict s.heap d g y)(G:Q (.ref s.heap.objs.size) {s with heap:=s.heap.push {cls:=.type "dict_valueiterator",data:=.fields #[.ref d,.int 0 0,.int g.length 0,.int y 0]}}) :
  wpAny (model prog w) A (pyIter<|.ref v) Q E s:=by
 obtain⟨J,p,C,r⟩:=id l;obtain⟨o,H,u,N,f,M,z,L⟩:=id B;refine wpAny_pyIter_slot l.typeIs F.slot_dict_values_iter (Vr F.slot_dict_values_iter l.typeIs F.entry_dict_values_iter ?_<|F.args_dict_values_iter_1 _);unfold Builtin.«dict_values.__iter__»;refine WE (WK ?_);refine WE ?_;unfold Builtin.Dict_items.dictOf;refine WE (JN p r (x:=.ref d) rfl<|WK ?_);refine WE ?_;unfold Builtin.Dict_items.newIterator;refine WE (wpAny_dictEntries u f ?_);refine WE (wpAny_dictEpoch u f ?_);have n:H.size=g.length:=by rw[←z.length];simp
 have h:Builtin.Dict_items.ownsTuple "dict_valueiterator"=false:=by decide
 simp only[h,Jd,Jz];refine QB (WK ⟨_,rfl, "dict_valueiterator",_,⟨_,WX _ rfl,rfl⟩,F.slot_dict_valueiterator_next.lookup,?_⟩);simpa [rawInt,n]using G
def Zl0{n d:Addr}{i C:Nat}{f:List (K×Value)}{k:K}{v:Value}{Q:Yo->Shared->Prop}(g:s.heap.IsValIter n d i f.length C)(M:VDict s.heap d f C)(hx:f[i]?=some (k,v))(U:∀J,J.IsValIter n d (i+1) f.length C->Heap.SameBut n s.heap J->Q (some v) {s with heap:=J}) :
  wpAny (model prog w) A (pyNext<|.ref n) Q E s:=by
 obtain⟨o,G,T,hd⟩:=id g;obtain⟨Y,B,y,N,z,hk,L,hn⟩:=id M;unfold pyNext
 refine WE (wpAny_attempt (Jj (name:=Str.ofString "__next__") g.typeIs Vj
  (Vr Vj g.typeIs F.entry_dict_valueiterator_next ?_<|F.args_dict_valueiterator_next_1 _)))
 refine WE (WK ?_);refine WE ?_;refine WE ?_
 first|refine WE (Vl g.typeIs<|WK ?_)|refine WE (VA g.typeIs<|WK ?_)
 refine WE (wpAny_fieldsOf G hd ?_);have x:Builtin.Dict_items.ownsTuple "dict_valueiterator"=false:=by decide
 simp only[x,Jd,Jz];show wpAny _ _ (if (Value.ref d==Value.none)=true then _ else _) _ _ s;rw[WM (show ¬((Value.ref d==Value.none)=true)from Qh)]
 refine WE (WK ?_);refine WE (wpAny_dictEntries y z ?_);have u:B.size=f.length:=by rw[←L.length];simp
 rw[WM (by rw[u];simp)];refine WE (WK ?_);refine WE (wpAny_dictEpoch y z ?_);rw[WM (by simp)];refine WK ?_
 have H:i<f.length:=by
  rcases Nat.lt_or_ge i f.length with h|h
  ·exact h
  ·simp[Vg h]at hx
 have p:i<B.size:=by rw[u];exact H
 have r:B[i].val=v:=(L.get? (e:=B[i]) (by simp[p]) hx).2;simp only[show ¬((i:Int)<0)from by omega,Jz,Q3,QX p]
 refine WE ?_
 first|refine WE (Vl g.typeIs<|WK ?_)|refine WE (VA g.typeIs<|WK ?_)
 refine WE (J2 g.typeIs ?_);show wpAny _ _ (setField (.ref n) 1 (rawInt ((i:Int)+1)) >>= _) _ _ s;refine WE (Ve G hd (by simp) ?_)
 have l:(s.heap.update n<|Obj.mapFields (·.setIfInBounds 1 (rawInt ((i:Int)+1)))).IsValIter n d (i+1) f.length C:=
  ⟨_,Q5 _ G (Vf<|QJ hd _),(Jp ..).trans T,by rw[QJ hd];simp[rawInt]⟩
 refine WE (QU ?_);refine WE (J2 (s:={s with heap:=s.heap.update n (Obj.mapFields (·.setIfInBounds 1 (rawInt ((i:Int)+1))))}) l.typeIs ?_)
 refine WE (J2 (s:={s with heap:=s.heap.update n (Obj.mapFields (·.setIfInBounds 1 (rawInt ((i:Int)+1))))}) l.typeIs ?_)
 show wpAny _ _ (pure B[i].val) _ _ _;exact WK (WK ⟨_,rfl,WK (r▸U _ l (QO ..))⟩)
def Zlp{r d:Addr}{i z:Nat}{g:List (K×Value)}{Q:Yo->Shared->Prop}(G:A.handled=none)(f:s.heap.IsValIter r d i g.length z)(C:VDict s.heap d g z)(hx:g[i]?=none)(J:∀x,Heap.ExtBut r s.heap x->Q none {s with heap:=x}):wpAny (model prog w) A (pyNext<|.ref r) Q E s:=by
 obtain⟨o,v,U,hd⟩:=id f;obtain⟨L,y,n,H,p,N,B,M⟩:=id C;unfold pyNext
 refine WE (wpAny_attempt (Jj (name:=Str.ofString "__next__") f.typeIs Vj
  (Vr Vj f.typeIs F.entry_dict_valueiterator_next ?_<|F.args_dict_valueiterator_next_1 _)))
 refine WE (WK ?_);refine WE ?_;refine WE ?_
 first|refine WE (Vl f.typeIs<|WK ?_)|refine WE (VA f.typeIs<|WK ?_)
 refine WE (wpAny_fieldsOf v hd ?_);have l:Builtin.Dict_items.ownsTuple "dict_valueiterator"=false:=by decide
 simp only[l,Jd,Jz];show wpAny _ _ (if (Value.ref d==Value.none)=true then _ else _) _ _ s;rw[WM (show ¬((Value.ref d==Value.none)=true)from Qh)]
 refine WE (WK ?_);refine WE (wpAny_dictEntries n p ?_);have h:y.size=g.length:=by rw[←B.length];simp
 rw[WM (by rw[h];simp)];refine WE (WK ?_);refine WE (wpAny_dictEpoch n p ?_);rw[WM (by simp)];refine WK ?_;have u:y.size<=i:=by rw[h];simpa using hx
 simp only[show ¬((i:Int)<0)from by omega,Jz,Q3,Jv u]
 refine WE ?_
 first|refine WE (Vl f.typeIs<|WK ?_)|refine WE (VA f.typeIs<|WK ?_)
 show wpAny _ _ (setField (.ref r) 0 .none >>= _) _ _ s;refine WE (Ve v hd (by simp) ?_);show wpAny _ _ (newExc (.type "StopIteration") [] >>= _) _ _ _;refine WE ?_;simp only[newExc,newTuple];refine WE (QB ?_<|by size_fits);refine WE (m:=firstArgMember _ _) (wpAny_of_eq (a:=Value.none) (by first|rfl|(simp only[firstArgMember];rfl)) ?_)
 refine QB ?_ (by size_fits);simp only[raiseNew];refine WE (wpAny_handled ?_);rw[show A.in1.handled=none from G]
 refine WE (WK<|wpAny_throw ?_);refine WE (wpAny_isInstance (T:="StopIteration") (b:=true) ⟨_,WX _ rfl,rfl⟩ isSubtype_stop ?_);exact WK (J _ (((QO ..).extBut.push _).push _))
end
end PySem
open PySem PySem.Spec PyProof.Rows
namespace Own
open L2
noncomputable def R5(K:Yc):R2:=λx y H Q=>∃a b xs f,x=.ref a/\y=.ref b/\SqT K H a xs/\SqT K H b f/\xs.length+f.length<=sizeLine/\
 (xs=[]->Q (.ref b) H)/\(xs≠[]->f=[]->Q (.ref a) H)/\(xs≠[]->f≠[]->∀p,H p=none->Q (.ref p) (upd H p<|.tup (xs++f)))
section
variable {X:Cx}{K:Yc}
def Zrw(hK:autoParam (X.K=K) au_0):OpR X (binaryOp .Add) (R5 K):=by
 subst hK;intro pins s G H x y v u Q I M L h;obtain⟨a,b,xs,J,rfl,rfl,C,B,hz,Y,U,T⟩:=h;cases M
 cases L
 by_cases hx:xs=[]
 ·obtain⟨r,N,p1,_⟩:=I.tuple C;obtain⟨f,r2,p2,_⟩:=I.tuple B;have e:=N.nil_iff.mpr hx;obtain⟨⟨cls,dd,data,sl⟩,z,A,n,hd⟩:=id p1;obtain⟨⟨E,w,data2,p⟩,g,o,n2,l⟩:=id p2;simp only at A hd o l;subst A hd o l
  exact concat_meets ⟨_,z,rfl⟩ ⟨_,g,rfl⟩ noFill_tuple_add seq_tuple_add Ju Ji (VZ _ _)
   (tuple_addW0 a b r.toArray f.toArray n n2 dd w sl p<|by grind) ⟨z,g,⟨.ref b,H,I,rfl,Y hx⟩⟩
 ·exact Zn3 pins s G H (.ref a) (.ref b) _ _ Q I rfl rfl ⟨a,b,xs,J,rfl,rfl,C,B,hx,hz,U hx,T hx⟩
def Zrx(h:VV [(.ref b,x)] f):∃r,f=[(.ref b,r)]/\RelV x r:=by
 cases h with
 |cons h t=>
  cases t
  rename_i y;obtain⟨u,r⟩:=y;obtain⟨g,l⟩:=h;cases g
  grind
noncomputable def LI(n l:TE):TE:=λg H Q=>∀p,H p=none->n g (upd H p<|.dT []) λy o=>l g o λx f=>f p=some (.dT [])/\∃b h,y=.ref b/\f b=some (.tup<|h.map kV)/\Q (.ref p) (upd f p<|.dT [(h,x)])
def Zle{r p pos}(M:X.A.units+1<cLine)(T:PE X k r)(L:PE X v p):PE X (.Dict [some k] [v] pos) (LI r p):=by
 intro pins s C H Q I q
 refine wpAny_Dict_any rfl rfl (by simp) (by simp) (thn ((Zpe T L Zd3) pins _ C _ (λw l=>match w with
  |[(y,x)]=>l s.heap.objs.size=some (.dT [])/\∃b g,y=.ref b/\l b=some (.tup<|g.map kV)/\Q (.ref s.heap.objs.size) (upd l s.heap.objs.size<|.dT [(g,x)])
  |_=>False) (I.laid (t':=s.toks) (λ_ _ q=>WL _ q) (WQ _)<|IY s.heap I.big)<|q _<|I.hok.fresh<|WQ s.heap.objs.size) λws s2 ⟨w,l,o,rel,h⟩=>?_)
 split at h
 ·rename_i y x;obtain⟨e,b,g,ey,B,J⟩:=h;subst ey;obtain⟨E,ew,G⟩:=Zrx rel;subst ew;obtain⟨z,hd,xs,f,dd⟩:=FA o.hok e;cases f
  unfold storeAll;rw[List.forIn_cons];refine WE (WE (wpAny_dictSet_heap (Nat.lt_of_succ_lt M) (Bi o.hok B) dd λh' n N=>WK ?_))
  dsimp only
  refine WK ?_;obtain⟨u,es,ep,hq,h,h3,Y,_,U⟩:=n;refine⟨.ref s.heap.objs.size,_,Fx (ob:=.dT [(g,x)]) o (by rw[e];exact True.intro) N ⟨u,hq⟩ ⟨(by show 1<=sizeLine;decide),hd,[(g,b,E)],?_,u,es,ep,hq,h,h3,Y,U⟩,rfl,J⟩;refine .cons ⟨rfl,?_,G⟩ .nil;rwa[Xw (D1 B e (λz=>nomatch z))]
 ·exact h.elim
end
section
variable {prog:Program}{w:World}{A:Around}{K:Type}{d r:Addr}{kvs:List (K×Value)}{ep:Nat}{h h':Heap}
def VDict.at (x:VDict h d kvs ep) (e:∀o,h.get? d=some o->h'.get? d=some o):VDict h' d kvs ep:=let ⟨o,g,f,r⟩:=x;⟨o,g,e _ f,r⟩
def VDict.lt (x:VDict h d kvs ep):d<h.objs.size:=let ⟨_,_,f,_⟩:=x;WW f
def Zol(hh:A.handled=none)(I d:Addr)(hne:d≠I)(kvs:List (K×Value))(ep:Nat) :
  Walks prog w A I [I,d] [I] kvs.length (λi v=>∃k,kvs[i]?=some (k,v)) (λi h=>h.IsValIter I d i kvs.length ep/\VDict h d kvs ep) where
 sub:=λb hb=>by simp at hb;simp[hb]
 frame:=λ_ _ _ st hk=>⟨st.1.at λo e=>hk I (by simp) o e,VDict.at st.2 λo e=>hk d (by simp) o e⟩
 item:=λi s Q E hi st hQ=>by
  refine Zl0 (k:=(kvs[i]).1) (v:=(kvs[i]).2) st.1 st.2 (by grind) λh' hit' hs'=>?_;exact hQ _ h' s.toks ⟨(kvs[i]).1,by simp[hi]⟩ ⟨hit',VDict.at st.2 λo e=>hs'.extBut d o hne e⟩ λb o hb e=>hs'.extBut b o (λh=>hb (by grind)) e
 done:=λs Q E st hQ=>Zlp hh st.1 st.2 (by simp) λh' he'=>hQ h' s.toks λb o hb e=>he' b o (λh=>hb (by grind)) e
 self:=λ_ _ _ _ st hQ=>wpAny_pyIter_valiter st.1 hQ
def Zix:PySem.W.KdlSrc prog w "dict_values" r d kvs.length (λi v=>∃k,kvs[i]?=some (k,v)) (λh=>h.IsValuesView r d/\VDict h d kvs ep) where
 type:=λ_ hm=>hm.1.typeIs
 there:=λ_ hm=>⟨let ⟨_,ho,_⟩:=hm.1;WW ho,VDict.lt hm.2⟩
 keep:=λ_ _ hm hk=>⟨let ⟨o,ho,x⟩:=hm.1;⟨o,hk r (.inl rfl) o ho,x⟩,VDict.at hm.2 λo e=>hk d (.inr rfl) o e⟩
 notList:=by decide
 notTuple:=by decide
 hint:=λ_ _ _ _ hm hq=>PySem.W.kdl_hint_values hm.1.typeIs hq
 iter:=λ_ _ hh hm=>⟨_,_,(λ_ _ hq=>Zra hm.1 hm.2 hq),Zol hh _ d (Qj<|VDict.lt hm.2) kvs ep,⟨⟨_,WX _ rfl,rfl,rfl⟩,VDict.at hm.2 λo e=>WL _ e⟩⟩
end
noncomputable def Bc(v d:Addr):HO:=.ext λh=>h.IsValuesView v d
def Dz:V->List V->Hp->VK->Prop:=λx g H Q=>∃d f,x=.ref d/\g=[]/\H d=some (.dT f)/\∀v,H v=none->Q (.ref v) (upd H v<|Bc v d)
section
variable {X:Cx}
def Zhp:MtR X "dict.values" Dz:=by
 intro pins s w H x xs v y Q I l n h;obtain⟨d,p,rfl,rfl,hd,q⟩:=h;cases l
 have g:=n.zero;subst g;obtain⟨z,lo,xs,rel,u⟩:=FA I.hok hd;obtain⟨o,C,E,f,hx,_⟩:=id u;refine call_meetsIn PySem.F.slot_dict_values ⟨o,f,hx.1⟩ PySem.F.entry_dict_values (PySem.F.args_dict_values_1 _) (Zqy d lo) ⟨⟨o,f,hx.1⟩,?_⟩;refine⟨.ref s.heap.objs.size,_,I.laid (o:=Bc s.heap.objs.size d) (λ_ _ q=>WL _ q) (WQ _) ⟨⟨_,WX _ rfl,rfl,rfl⟩,⟨_,WX _ rfl⟩,λB A ⟨o,f,r⟩ e=>⟨o,e o f,r⟩⟩,rfl,q _ (I.hok.fresh<|WQ _)⟩
def Zlu{K}{o}{to}{name:Str}{apos cpos}(h:PE X o to)(n:autoParam (X.K=K) au_0)(l:autoParam (name = "values") au_0)(g:autoParam (attributeBase o name X.env (eval o X.env)=eval o X.env) au_0)(f:autoParam ((apos.endLine==cpos.line)=true) au_0):PE X (.Call (.Attribute o name apos) [] [] cpos) (Fb K "dict" Dz to):=by
 subst n l;exact SE PySem.F.plainAttrs_dict PySem.F.slot_dict_values PySem.F.type_dict_values Zhp h g f
def MT:∀{kvs}{xs:List (List Key×Addr×Value)},KT H kvs xs->Vals (kvs.map (·.2)) (xs.map (·.2.2)):=by
 intro g
 induction g with
 |nil=>
  intro _ h;cases h
  exact .nil
 |cons _ _ f=>
  intro _ h;cases h with
  |cons h r=>
   exact .cons h.2.2 (f r)
def Zhb(N:X.calm=true):Kl X (.type "list") (λxs H Q=>∃v d f,xs=[.ref v]/\H v=some (Bc v d)/\H d=some (.dT f)/\∀l,H l=none->Q (.ref l) (upd H l<|.lst<|f.map (·.2))):=by
 intro pins s σ H xs us Q I C h;obtain⟨v,d,f,rfl,G,hd,q⟩:=h;obtain⟨u,rfl,E⟩:=C.one;obtain rfl:=E;obtain⟨z,lo,xs,rel,dd⟩:=FA I.hok hd;obtain⟨o,U,Y,L,hx,p,A,y,hn⟩:=id dd;have hl:xs.length=f.length:=by simpa using(MT rel).length.symm
 have B:VDict s.heap d (xs.map λx=>((),x.2.2)) Y:=by
  refine⟨o,U,L,hx,p,trivial,⟨by rw[A,WG,WG],λ{i e k v} w r=>⟨trivial,?_⟩⟩,trivial⟩;rw[A,WT]at w;rw[WT]at r;cases M:xs[i]? with
  |none=>grind
  |some x=>
   rw[M]at w r;cases w
   cases r
   rfl
 refine PySem.W.kdl_call Zix (I.ok.hd N) ⟨((I.hok v _ G).1),B⟩ (by rw[WG];lia) λh' tk n c' y T g=>?_;refine⟨.ref s.heap.objs.size,upd H s.heap.objs.size (.lst<|f.map (·.2)),?_,rfl,q _ (I.hok.fresh<|WQ _)⟩;refine I.laid y (WQ _) ⟨by rw[WG];exact z,n.toList,c',?_,by simpa using T⟩;rw[(PySem.W.kdl_vals_eq n.toList (by rw[QF];exact g.1) λj u J=>g.2 j u (by rw[←J,QY])),Q0];exact MT rel
end
end Own
namespace Pu
open L2 Own M
section
variable {K:Yc}{mg:Yg}{E:L2.St->XK}{H0 H H1 H':Hp}{B Z Z':Addr->Prop}{σ:L2.St}{γ:Γ}
noncomputable def SQ:Option D->Option (List D)
 |some (.tup f)=>some f|_=>none
def D8(h:SQ o=some ds):o=some (.tup ds):=by
 unfold SQ at h;split at h
 ·grind
 ·grind
def Zcd:S->S->(S->Prop)->Prop:=λx y R=>∃g f,SQ x.shd=some g/\SQ y.shd=some f/\g.length+f.length<=100000/\R (.sh<|.tup (g++f))
def Zk6{a b}(Y:Xp K mg E M a)(U:Xp K mg E L b):Xp K mg E (tOp (R5 K) M L) (p2 a b Zcd):=by
 refine PB Y U λH0 H H2 Z x y v u R Q s f r J G h q=>?_;obtain⟨ds,es,e1,e2,T,h⟩:=h;have N:=J.shd s r f (D8 e1);have w:=G.shd s r f (D8 e2);obtain⟨l,C,rfl,h1,o⟩:=Rp.tup_inv N;obtain⟨m,A,rfl,h2,n⟩:=Rp.tup_inv w;refine⟨l,m,C,A,rfl,rfl,SqT.of (off_sub _ _ h1),SqT.of (off_sub _ _ h2),by rw[o.len,n.len];exact WV T (by decide),λe=>?_,λ_ e=>?_,λ_ _ p g=>?_⟩
 ·subst e;cases o
  exact q _ _ _ h (Same.refl _) w
 ·subst e;cases n
  refine q _ _ _ h (Same.refl _) ?_;rw[Q1];trivial
 ·refine q _ _ _ h (Kg g) (.tup (XX X9 λz=>?_)<|Rps.mono (X2 (Kg g) λ_ _ _ z=>z)<|o.append n)
  have:=(λb z=>Tx f (r b z)) p z
  rw[g]at this;exact this
noncomputable def pIT(a:PTE):PTI:=λγ R X=>a γ (λs=>∃f,SQ s.shd=some f/\R f.length λi=>.sh (f.getD i .non)) X
def BS(L:Xp K mg E te a):SndI K mg E (AY K te) (pIT a):=by
 intro H0 B H σ γ R X Q f h q G;refine L H0 B H σ γ _ X _ f h (λs v H1 o p C=>?_) G;obtain⟨z,M,o⟩:=o;obtain⟨l,g,rfl,n,r⟩:=Rp.tup_inv (C.shd (f.grow p).same f.zm p (D8 M));refine⟨l,rfl,⟨g,SqT.of (off_sub _ _ n)⟩,q _ _ _ H1 o p ⟨λi H' Z' J lt=>?_,λH' Z' lt=>?_⟩⟩
 ·have hd:z[i]?=some (z.getD i .non):=by rw[WR,WH J];rfl
  obtain⟨u,w,A⟩:=r.get hd;have k:=off_sub _ _ (lt.off _ _ n);refine⟨⟨g,u,SqT.of k,w⟩,λx N y=>?_⟩;obtain⟨rfl,y⟩:=y
  have:=y g (SqT.of k)
  rw[w]at this;cases this
  exact⟨Same.refl _,Rp.mono lt.off A⟩
 ·exact⟨g,SqT.of (off_sub _ _<|lt.off _ _ n),by rw[r.len];exact WQ _⟩
noncomputable def SH:List (List Key×V)->Bool
 |[]=>true
 |p::r=>FX p.2&&SH r
theorem Rt:∀{f:List (List Key×V)},SH f=true->Rps K H (f.map λp=>vD p.2) (f.map (·.2))
 |[],_=>.nil
 |p::r,h=>by
  unfold SH at h;rw[Q2]at h;exact .cons (EN h.1) (Rt h.2)
def Zkd:List V->Hp->VK->Prop:=λxs H Q=>∃(v d:Addr) (f:List (List Key×V)),xs=[.ref v]/\H v=some (Bc v d)/\H d=some (.dT f)/\∀l,H l=none->Q (.ref l) (upd H l<|.lst<|f.map (·.2))
noncomputable def Zoy(a:PTE):PTE:=λγ R X=>a γ (λs=>∃f,s.d=.dT f/\SH f=true/\R (.own<|.lst (f.map λp=>vD p.2))) X
def Zhv(C:Xp K mg E te a):Xp K mg E (tCB Zkd<|Kv (Fb K "dict" Dz te) KP) (Zoy a):=by
 intro H0 B H σ γ R X Q g h q z;refine C H0 B H σ γ _ X _ g h (λs v H1 J o y=>?_) z;obtain⟨f,e,A,G⟩:=J;have r:=y.rp (g.grow o).same;rw[e]at r;obtain⟨l,rfl,n⟩:=r.dT_inv;refine⟨.inr (.inr<|.inl ⟨rfl,.inr ⟨f,n⟩⟩),l,f,rfl,rfl,n,λp u=>?_⟩;refine⟨p,l,f,rfl,X9,by rw[Xw (K7 n u)];exact n,λm w=>?_⟩;have x:Same H1 (upd H1 p<|Bc p l):=Kg u;exact q _ _ _ G ((o.trans x).trans (Kg w)) ⟨m,rfl,(λ_ e=>e▸(o.trans x).free w),_,X9,Rt A⟩
noncomputable def Zns(a b:PTE):PTE:=λγ R X=>a γ (λy=>b γ (λx=>∃f u,Sq y.d=some f/\BE x.d=some u/\R (.own<|.dT [(f,u)])) X) X
def Zbd{a b}(ha:Xp K mg E L a)(hb:Xp K mg E J b):Xp K mg E (LI L J) (Zns a b):=by
 intro H0 B H σ γ R X Q A h q G p s;have r:Same H (upd H p<|.dT []):=Kg s;have env0:=A.grow r;refine ha H0 B _ σ γ _ X _ env0 h (λy v H1 h1 n N=>?_) λc H' g C=>G c H' g (r.trans C);have f:=env0.grow n;refine hb H0 B H1 σ γ _ X _ f h1 (λx w H2 h2 l M=>?_) λc H' g C=>G c H' g ((r.trans n).trans C);obtain⟨T,u,k1,Y,U⟩:=h2;have eu:=FY (M.rp (f.grow l).same) Y;obtain⟨b',rfl,z⟩:=Fm (Rp.mono l<|N.rp f.same) k1;subst eu;refine⟨l _ _ (n _ _ X9),b',T,rfl,z,q _ _ _ U (λc o g=>?_) ⟨p,rfl,(λ_ e=>e▸s),X9⟩⟩
 have:c≠p:=λe=>by subst e;rw[s]at g;cases g
 rw[Xw this];exact l _ _ (n _ _<|r _ _ g)
end
section
variable {X:Cx}{K:Yc}
def Bg{g l f}(h:PE X l f)(n:autoParam (X.K=K) au_0):PI X g l (AY K f):=by subst n;exact Zam h
end
end Pu
namespace M
open L2 Own Pu
noncomputable def tD(f:Ye):D:=.tup (f.map D.int)
noncomputable def kT(f:Ye):List Key:=f.map Sum.inl
def Zcl(f:Ye):arg (tD f)=.sh (tD f):=by
 unfold arg tD imm;rw[Sh]
def B8:PN N (tD f::ds)=some (.sh<|tD f)::(ds.map (λd=>some (arg d))++List.replicate (N.length-(ds.length+1)) none):=by
 unfold PN;rw[Qb,Zcl];rfl
def FN(f:Ye):Sq (tD f)=some (kT f):=by
 show SW (f.map D.int)=some (f.map Sum.inl)
 induction f with
 |nil=>rfl
 |cons m r g=>
  rw[Qb,Qb];unfold SW;rw[g];rfl
def Zcz(f:Ye):SQ (some<|tD f)=some (f.map D.int):=rfl
noncomputable def X7(f:Ye)(h:Int):Ye:=f.filter λm=>decide (m≠h)
noncomputable def Nf(f:Yd)(g:Ye)(h:Int):Bool:=!(f.any λq=>decide (q.1=h)&&decide (q.2∈g))
noncomputable def firstM(f:Yd)(g:Ye)(h:Int):Bool:=!(f.any λq=>decide (q.2=h)&&decide (q.1∈g))
noncomputable def XF(hs:Ye):List (Ye):=hs.foldl (λS h=>S++S.map (·++[h])) [[]]
def NH(hs:Ye)(h:Int):XF (hs++[h])=XF hs++(XF hs).map (·++[h]):=by
 unfold XF;simp
def SX{P:Ye->Prop}(n:P [])(g:∀r h,P r->P (r++[h]))(l:Ye):P l:=by
 have f:∀r:Ye,P r.reverse:=λr=>by
  induction r with
  |_=>grind
 rw[←List.reverse_reverse l]
 grind
def DR(hs:Ye):(XF hs).length=2 ^ hs.length:=by
 refine SX (P:=λhs=>(XF hs).length=2 ^ hs.length) rfl (λr h f=>?_) hs;rw[NH,WS,WG,f,WS,Q6,Nat.pow_succ];lia
def Sd(hs:Ye):∀f∈XF hs,f.Sublist hs:=by
 refine SX (P:=λhs=>∀f∈XF hs,f.Sublist hs) (λf h=>?_) (λr h g f hm=>?_) hs
 ·have:f=[]:=by simpa [XF]using h
  grind
 ·rw[NH,Qc]at hm;rcases hm with hm|hm
  ·grind
  ·grind
noncomputable def oc(c:Int->Int->Int):Ye->Int
 |[]=>0
 |a::r=>(r.map<|c a).sum+oc c r
def Keeps(f:Yd)(o:Ye):Prop:=o.Pairwise λa b=>(b,a)∉f
structure KA (ws:Yd) (c:Int->Int->Int) (ms:Ye) (v:Int):Prop where
 is:∃o:Ye,o.Perm ms/\Keeps ws o/\oc c o=v
 le:∀o:Ye,o.Perm ms->Keeps ws o->v<=oc c o
def KA.uniq (h:KA f c n v) (k:KA f c n u):v=u:=by
 obtain⟨o,o1,l,s⟩:=h.is;obtain⟨p,g,p2,r⟩:=k.is
 have:=h.le p g p2
 have:=k.le o o1 l
 lia
theorem FG(c:Int->Int->Int)(l:Int):∀o,oc c (o++[l])=oc c o+(o.map (c · l)).sum
 |[]=>by simp[oc]
 |a::r=>by
  rw[Vp];unfold oc;rw[FG c l r]
  grind
def SY{f:Int->Int}{xs g:Ye}(h:xs.Perm g):(xs.map f).sum=(g.map f).sum:=by
 induction h with
 |nil=>rfl
 |trans _ _ n l=>lia
 |_=>grind
def TK{f:Ye}{h}(g:f.Nodup)(l:h∈f):f.Perm (h::X7 f h):=by
 have e:X7 f h=f.erase h:=by
  unfold X7;rw[g.erase_eq_filter]
  grind
 grind
def less_sub:(X7 f h).Sublist f:=List.filter_sublist
def lastM_iff:Nf f g h=true↔∀b∈g,(h,b)∉f:=by
 unfold Nf;constructor
 ·grind
 ·grind
def firstM_iff:firstM f g h=true↔∀b∈g,(b,h)∉f:=by
 unfold firstM;constructor
 ·grind
 ·grind
def Zdx{ms}{vs:Int->Int}{M}(s:ms.Nodup)(hw:∀q∈h,q.1≠q.2)(w:∀l∈ms,KA h c (X7 ms l) (vs l))(E:∃l∈ms,Nf h ms l=true/\M=vs l+((X7 ms l).map (c · l)).sum)(C:∀l∈ms,Nf h ms l=true->M<=vs l+((X7 ms l).map (c · l)).sum):KA h c ms M:=by
 constructor
 ·obtain⟨l,g,f,e⟩:=E;obtain⟨o,o1,n,x⟩:=(w l g).is;refine⟨o++[l],?_,?_,?_⟩
  ·exact(List.perm_append_singleton l o).trans (((List.Perm.cons l o1)).trans (TK s g).symm)
  ·refine VR.mpr ⟨n,List.pairwise_singleton _ _,λa B b v=>?_⟩;rw[WJ.mp v];exact lastM_iff.mp f a (less_sub.subset<|o1.mem_iff.mp B)
  ·rw[FG,x,e,SY o1]
 ·intro o o1 n;rcases QZ o with rfl|⟨p,l,rfl⟩
  ·grind
  ·rw[Vy]at o1 n ⊢;have g:l∈ms:=o1.mem_iff.mp (by simp);obtain⟨A,_,y⟩:=VR.mp n
   have r:p.Perm (X7 ms l):=by
    have:=((List.perm_append_singleton l p).symm.trans o1).trans (TK s g)
    exact this.cons_inv
   have f:=lastM_iff.mpr λb v=>by
    rcases WU.mp ((TK s g).mem_iff.mp v)with e|u
    ·subst e;exact λz=>hw _ z rfl
    ·exact y b (r.mem_iff.mpr u) l (WJ.mpr rfl)
   have a1:=C l g f;have a2:=(w l g).le p r A;rw[FG,SY r];lia
def LA(a b:Ye)(l:Int):X7 (a++b) l=X7 a l++X7 b l:=List.filter_append ..
def HW(h:l∉a):X7 a l=a:=List.filter_eq_self.mpr λm f=>WI λe=>h (e▸f)
def Zbl(hs:Ye):∃T,XF hs=[]::T:=by
 refine SX (P:=λhs=>∃T,XF hs=[]::T) ⟨[],rfl⟩ (λr h ⟨T,e⟩=>?_) hs;rw[NH,e]
 grind
def OJ(hs:Ye):(XF hs).getLast?=some hs:=by
 refine SX (P:=λhs=>(XF hs).getLast?=some hs) rfl (λr h e=>?_) hs;rw[NH,List.getLast?_append,List.getLast?_map,e];rfl
def M2:hs.Nodup->(XF hs).Nodup:=by
 refine SX (P:=λhs=>hs.Nodup->(XF hs).Nodup) (λ_=>by simp[XF]) (λr h l n=>?_) hs;obtain⟨g,_,o⟩:=Vk.mp n;rw[NH];refine Vk.mpr ⟨l g,?_,λa s b p e=>?_⟩
 ·exact List.Pairwise.map _ (λa b f e=>f (List.append_cancel_right e)) (l g)
 ·obtain⟨c,u,rfl⟩:=Qi.mp p;subst e;exact o h ((Sd r _ s).subset (by simp)) h (by simp) rfl
def Li:hs.Nodup->∀k f,(XF hs)[k]?=some f->∀l∈f,∃j:Nat,j<k/\(XF hs)[j]?=some (X7 f l):=by
 refine SX (P:=λhs=>hs.Nodup->∀k f,(XF hs)[k]?=some f->∀l∈f,∃j,j<k/\(XF hs)[j]?=some (X7 f l)) (λ_ k f e l p=>?_) (λr h x y k f e l p=>?_) hs
 ·have:f=[]:=by
   have:=Qe e
   simpa [XF]using this
  subst this;cases p
 ·obtain⟨w,_,A⟩:=Vk.mp y;rw[NH]at e ⊢;by_cases B:k<(XF r).length
  ·rw[Qm B]at e;obtain⟨j,g,o⟩:=x w k f e l p;exact⟨j,g,by rw[Qm (by lia)];exact o⟩
  ·rw[Qq (by lia),WT]at e;cases q:(XF r)[k-(XF r).length]? with
   |none=>rw[q]at e;cases e
   |some n=>
    rw[q]at e;cases e
    have C:=λz=>A h ((Sd r n<|Qe q).subset z) h (by simp) rfl;by_cases u:l=h
    ·subst u
     have v:X7 (n++[l]) l=n:=by
      rw[LA,HW C];simp[X7]
     obtain⟨j,g,o⟩:=Q9.mp (Qe q);refine⟨j,by lia,?_⟩;rw[Qm g,v,WH g,o]
    ·have s:l∈n:=by
      rcases Qc.mp p with z|z
      ·exact z
      ·exact absurd (WJ.mp z) u
     have v:X7 (n++[h]) l=X7 n l++[h]:=by
      rw[LA];congr 1;exact HW λz=>u (WJ.mp z)
     obtain⟨j,g,o⟩:=x w _ n q l s;refine⟨(XF r).length+j,by lia,?_⟩;rw[Qq (by lia),WT,Nat.add_sub_cancel_left,o,v];rfl
def Au(h:kT a=kT b):a=b:=List.map_inj_right (λ_ _=>Sum.inl.inj) |>.mp h
def Hl(hs:Ye)(g:Yd):Prop:=∀f:Ye,f.Sublist hs->f≠[]->∃l∈f,∀b∈f,(l,b)∉g
structure Tab (ws:Yd) (c:Int->Int->Int) (S:List (Ye)) (kvs:List (List Key×V)):Prop where
 keys:kvs.map (·.1)=S.map kT
 val:∀ms∈S,∃v,X8 kvs (kT ms)=some (.int v)/\KA ws c ms v
def Zmc(f:Yd)(c:Int->Int->Int):Tab f c [[]] [([],.int 0)]:=by
 refine⟨rfl,λl h=>?_⟩;rw[WJ.mp h];refine⟨0,rfl,⟨[],.refl _,.nil,rfl⟩,λo g _=>?_⟩;rw[g.eq_nil];exact QL _
def Tab.put {S f h v} (T:Tab l c S f) (s:h∉S) (L:KA l c h v):Tab l c (S++[h]) (putK f (kT h)<|.int v):=by
 have p:X8 f (kT h)=none:=by
  cases e:X8 f (kT h)with
  |none=>rfl
  |some u=>
   unfold X8 at e;cases q:f.find? (λr=>decide (r.1=kT h))with
   |none=>rw[q]at e;cases e
   |some x=>
    have w:=List.find?_some q;have o:x.1∈f.map (·.1):=Qi.mpr ⟨x,(List.mem_of_find?_eq_some q),rfl⟩;rw[T.keys,WN w]at o;obtain⟨n,g,y⟩:=Qi.mp o;rw[Au y]at g;exact absurd g s
 constructor
 ·rw[Zf9 _ p,WZ,WZ,T.keys];rfl
 ·intro n g;rw[Av];by_cases e:n=h
  ·grind
  ·rw[WM λz=>e (Au z)];rcases Qc.mp g with z|z
   ·exact T.val n z
   ·exact absurd (WJ.mp z) e
open Classical in
def Oq{n:Ye}{P:Int->Int->Prop}(h:∀l∈n,∃v,P l v):∃f:Int->Int,∀l∈n,P l (f l):=
 ⟨λl=>if g:l∈n then Classical.choose (h l g)else 0,λl g=>by
  simp only[dif_pos g];exact Classical.choose_spec (h l g)⟩
def Zg3{r}(R:Ring o (l.map λq=>(q.2,q.1)) r):Ring o l r.reverse:=by
 have n:∀{x y:Int},(x,y)∈(l.map λq=>(q.2,q.1))->(y,x)∈l:=λh=>by
  obtain⟨q,hq,e⟩:=Qi.mp h;cases e
  exact hq
 refine⟨by rw[JK];exact R.two,List.pairwise_reverse.mpr (R.nodup.imp λh=>Ne.symm h),λx hx=>R.sub x (List.mem_reverse.mp hx),λi x y g f=>?_,λx y g f=>?_⟩
 ·have p:i+1<r.length:=by
   have:=(Qd.mp f).1
   rw[JK]at this;exact this
  rw[J4 (by lia)]at g f;exact n (R.chain (r.length-1-(i+1)) y x f<|by rw[←g];congr 1;lia)
 ·have two:=R.two;rw[J4 (by lia)]at g;rw[JK,J4 (by lia)]at f;exact n (R.last y x (by rw[←f];congr 1;lia)<|by rw[←g];congr 1)
def GD{ws}(l:∀q∈ws,q.1≠q.2)(h:¬ ∃r,Ring hs ws r):Hl hs ws:=λg o f=>by
 refine Qx λz=>h ?_
 have s:∀x∈g,∃y∈g,(y,x)∈(ws.map λq=>(q.2,q.1)):=λx hx=>by
  grind
 obtain⟨r,R⟩:=Zoa (λq hq=>by
  obtain⟨p,n,e⟩:=Qi.mp hq;subst e;exact λe=>l p n e.symm) f s
 have F:=Zg3 R;exact⟨_,F.two,F.nodup,λx hx=>o.subset (F.sub x hx),F.chain,F.last⟩
theorem RU:∀{f:List (List Key×V)},(f.map (·.1)).Nodup->∀p∈f,X8 f p.1=some p.2
 |[],_,p,h=>by cases h
 |q::r,g,p,h=>by
  rw[Qb,Q7]at g;rcases WU.mp h with e|h
  ·rw[e];exact Tc rfl
  ·rw[Ta λe=>g.1 (Qi.mpr ⟨p,h,e.symm⟩)];exact RU g.2 p h
def TabV(g:Yd)(c:Int->Int->Int)(S:List (Ye))(vs:Ye):Prop:=vs.length=S.length/\∀(i:Nat) (f:Ye) (v:Int),S[i]?=some f->vs[i]?=some v->KA g c f v
def Tab.vals {S f} (T:Tab s c S f) (z:S.Nodup):∃vs,f.map (·.2)=vs.map V.int/\TabV s c S vs:=by
 have y:(f.map (·.1)).Nodup:=by
  rw[T.keys];exact List.Pairwise.map _ (λa b r e=>r (Au e)) z
 have x:∀p∈f,∃g∈S,p.1=kT g/\∃v,p.2=.int v/\KA s c g v:=λp l=>by
  have o:p.1∈f.map (·.1):=Qi.mpr ⟨p,l,rfl⟩;rw[T.keys]at o;obtain⟨g,w,e⟩:=Qi.mp o;obtain⟨v,h,n⟩:=T.val g w;rw[e,RU y p l]at h;exact⟨g,w,e.symm,v,WY h,n⟩
 have C:f.length=S.length:=by
  have:=Q4 List.length T.keys
  rw[WG,WG]at this;exact this
 refine⟨f.map λp=>match p.2 with | .int v=>v|_=>0,?_,by rw[WG,C],λi g v o h=>?_⟩
 ·rw[Q0];refine Vc λp l=>?_;obtain⟨g,_,_,v,e,_⟩:=x p l;show p.2=V.int (match p.2 with | .int v=>v|_=>0)
  rw[e]
 ·rw[WT]at h;cases q:f[i]? with
  |none=>rw[q]at h;cases h
  |some p=>
   obtain⟨A,B,E,u,H,L⟩:=x p (Qe q);have n:(f.map (·.1))[i]?=some p.1:=by rw[WT,q];rfl
   rw[T.keys,WT,o]at n;have G:=Au ((WY n).trans E);simp_all
theorem MP:∀{kvs}{vs:Ye},kvs.map (·.2)=vs.map V.int->SH kvs=true/\kvs.map (λp=>vD p.2)=vs.map D.int
 |[],[],_=>⟨rfl,rfl⟩
 |p::r,v::vs,h=>by
  rw[Qb,Qb,JF]at h;obtain⟨g,f⟩:=MP h.2;unfold SH;rw[g,Qb,Qb,f,h.1];trivial
structure KU (ws:Yd) (c:Int->Int->Int) (ms o:Ye):Prop where
 perm:o.Perm ms
 keeps:Keeps ws o
 le:∀p:Ye,p.Perm ms->Keeps ws p->oc c o<=oc c p
 first:∀p:Ye,p.Perm ms->Keeps ws p->oc c p=oc c o->o=p\/sl o p
def Zbe(g:Yd)(c:Int->Int->Int):KU g c [] []:=by
 refine⟨.refl _,.nil,λp f _=>?_,λp f _ _=>.inl f.eq_nil.symm⟩;simp_all
def LK{ms}{vs:Int->Int}{V g}{p}(r:ms.Nodup)(A:∀q∈n,q.1≠q.2)(v:∀l∈ms,KA n c (X7 ms l) (vs l))(G:KA n c ms V)(w:(g::p).Perm ms)(B:Keeps n (g::p))(e:oc c (g::p)=V):g∈ms/\firstM n ms g=true/\vs g+((X7 ms g).map (c g)).sum=V/\p.Perm (X7 ms g)/\oc c p=vs g:=by
 have h:=w.mem_iff.mp (Qy ..);have u:=(w.trans<|TK r h).cons_inv;obtain⟨M,y⟩:=Vu.mp B
 have C:=firstM_iff.mpr λb s=>by
  rcases WU.mp ((TK r h).mem_iff.mp s)with e|E
  ·subst e;exact λz=>A _ z rfl
  ·grind
 have a1:=(v g h).le p u y;obtain⟨o,o1,x,L⟩:=(v g h).is;have a2:=G.le (g::o) ((List.Perm.cons g o1).trans (TK r h).symm) (Vu.mpr ⟨λb s=>firstM_iff.mp C b (less_sub.subset<|o1.mem_iff.mp s),x⟩);have Q:oc c (g::p)=(p.map<|c g).sum+oc c p:=rfl;have N:oc c (g::o)=(o.map<|c g).sum+oc c o:=rfl;have J:=SY (f:=c g) u;have H:=SY (f:=c g) o1
 grind
def Zdq{h o}{vs:Int->Int}{V f}(w:h.Nodup)(H:∀q∈n,q.1≠q.2)(s:∀l∈h,KA n c (X7 h l) (vs l))(x:KA n c h V)(u:f∈h)(N:firstM n h f=true)(U:vs f+((X7 h f).map (c f)).sum=V)(M:∀g∈h,firstM n h g=true->vs g+((X7 h g).map (c g)).sum=V->f<=g)(B:KU n c (X7 h f) o):KU n c h (f::o):=by
 have Q:oc c o=vs f:=by
  obtain⟨p,r,p2,v⟩:=(s f u).is
  have:=(s f u).le o B.perm B.keeps
  have:=B.le p r p2
  lia
 have Y:=SY (f:=c f) B.perm
 have e:oc c (f::o)=V:=by
  show(o.map<|c f).sum+oc c o=V;lia
 refine⟨(List.Perm.cons f B.perm).trans (TK w u).symm,Vu.mpr ⟨λb L=>firstM_iff.mp N b (less_sub.subset<|B.perm.mem_iff.mp L),B.keeps⟩,λp r p2=>?_,λp r p2 v=>?_⟩
 ·rw[e];exact x.le p r p2
 ·cases p with
  |nil=>grind
  |cons g p=>
   obtain⟨G,E,C,A,y⟩:=LK w H s x r p2 (v.trans e);have J:=M g G E C;by_cases T:f=g
   ·subst T;rcases B.first p A (Vu.mp p2).2 (y.trans Q.symm)with z|z
    ·exact .inl (by rw[z])
    ·exact .inr (sl_cons.mpr z)
   ·exact .inr (.inl<|by lia)
end M
namespace Pu
open L2 Own
section
variable {K:Yc}{mg:Yg}{E:L2.St->XK}{H0 H H1 H':Hp}{B Z Z':Addr->Prop}{σ:L2.St}{γ:Γ}
def O.from:O->O->Prop
 | .ins x _ _ h,.ins f _ _ g=>f=x/\∀c∈h,∃l∈g,l.1=c.1
 | .lsA x _,.lsA f _=>f=x
 |_,_=>False
def O.from_adr {o o':O}{a} (h:o.from o'):∀b,o.adr a b->o'.adr a b:=by
 unfold O.from at h
 split at h
 ·intro b f;rcases f with f|⟨c,n,f⟩
  ·exact .inl (f.trans h.1.symm)
  ·obtain⟨p,l,g⟩:=h.2 c n;exact .inr ⟨p,l,f.trans g.symm⟩
 ·intro b f;exact f.trans h.symm
 ·grind
def O.from_at {a l}{F n H H'} (h:o.from o') (g:OR K F H a o) (f:OR K n H' l o'):l=a:=by
 unfold O.from at h
 split at h
 ·exact f.1.trans (h.1.trans g.1.symm)
 ·exact f.1.trans (h.trans g.1.symm)
 ·grind
abbrev Pw:=O->List S->(O->D->Prop)->(O->Str->Prop)->Prop
noncomputable def S.pass:S->Option S
 | .sh d=>some (.sh d) | .own o=>some (.sh o.d)
 | .bor d=>match imm d with|true=>some (.sh d)|false=>some (.bor d)
 | .tmp d=>match imm d with|true=>some (.sh d)|false=>none
 | .view _=>none
def S.flat:S->Prop
 | .sh _=>True | .bor _=>True|_=>False
noncomputable def passes:List S->Option (List S)
 |[]=>some []
 |s::r=>match s.pass,passes r with|some f,some g=>some (f::g)|_,_=>none
structure After (K:Yc) (B:Addr->Prop) (H:Hp) (a:Addr) (o o':O) (H':Hp):Prop where
 same:Same (off (o.adr a) H) H'
 old:∀b,o.adr a b->o'.adr a b
 new:∀b,o'.adr a b->o.adr a b\/H b=none
 at_:OR K (off (λb=>B b\/o'.adr a b) H') H' a o'
noncomputable def spW(mg:Yg)(c:Pw)(K:Yc):Sp:=λl H Q E=>∃(o:O) (a:Addr) (g:List S) (h:List V) (B:Addr->Prop) (R:O->D->Prop) (X:O->Str->Prop),
 l=.ref a::h/\(∀b,B b->Mut (H b)/\¬o.adr a b)/\OR K (off (λb=>B b\/o.adr a b) H) H a o/\TVs K (λb=>B b\/o.adr a b) (off (o.adr a) H) H H g h/\(∀s∈g,s.flat)/\c o g R X/\
 (∀f d v H',R f d->After K B H a o f H'->Rp K (off (λb=>B b\/f.adr a b) H') d v->Q v H')/\∀f e H',X f e->After K B H a o f H'->XE mg E e H'
def TVs.get:∀{f vs}{i:Nat}{s:S},TVs K Z H0 H H' f vs->f[i]?=some s->∃v,vs[i]?=some v/\TV K Z H0 H H' s v:=by
 intro o
 induction o with
 |nil=>
  intro _ i _ h e;simp at e
 |cons _ _ g=>
  intro _ i d h e;cases h with
  |cons h r=>
   cases i with
   |zero=>
    simp at e;subst e;exact⟨_,rfl,h⟩
   |succ i=>
    obtain⟨v,n,l⟩:=g r (by simpa using e);exact⟨v,by simpa using n,l⟩
noncomputable def Nl(N:Yl)(o:O)(f:List S):Γ:=some (.own o)::(f.map some++List.replicate (N.length-(f.length+1)) none)
def Zeh{o a f us}(T:∀b,B b->Mut (H b)/\¬o.adr a b)(M:OR K (off (λb=>B b\/o.adr a b) H) H a o)(r:TVs K (λb=>B b\/o.adr a b) (off (o.adr a) H) H H f us)(L:∀s∈f,s.flat)(hn:f.length+1<=N.length) :
  Xt K (off (o.adr a) H) B H (start N (.ref a::us)) (Nl N o f):=by
 have get:∀i s,(Nl N o f)[i+1]?=some (some s)->f[i]?=some s:=λi s h=>by
  unfold Nl at h;rw[QG]at h;by_cases p:i<f.length
  ·rw[Qm (by rw[WG];exact p),WT,WH p]at h;rw[WH p];exact Q4 some (WY<|WY h)
  ·rw[Qq (by rw[WG];lia),VF]at h;split at h<;>cases h
 have noown:∀i g,(Nl N o f)[i+1]?≠some (some<|.own g):=λi g h=>L _ (Qe<|get i _ h)
 have n:(start N (V.ref a::us))[0]?=some (some<|.ref a):=by
  unfold L2.start;rfl
 have C:∀b,zof B (Nl N o f) (start N (V.ref a::us)) b->B b\/o.adr a b:=λb z=>by
  rcases z with z|⟨i,g,a',l,u,U⟩
  ·exact .inl z
  ·cases i with
   |zero=>
    cases u
    have:o=g:=by
     cases l
     rfl
    subst this;exact .inr U
   |succ i=>exact absurd l (noown i g)
 refine⟨off_sub,?_,λb h=>(T b h).1,λi j x Y g w b l u _ _ _ _=>?_,λi s h=>?_⟩
 ·unfold L2.start Nl;simp[r.len]
 ·cases i with
  |succ i=>exact absurd l (noown i g)
  |zero=>
   cases j with
   |zero=>rfl
   |succ j=>exact absurd u (noown j w)
 ·cases i with
  |zero=>
   have h:=h;cases h
   refine⟨_,n,a,rfl,λb Q=>?_,M.mono (X2 (Same.refl _) λb _ _ z y=>z (C b y)) λ_ _ _ q=>q⟩;unfold off;rw[WO Q]
  |succ i=>
   have J:=get i s h;obtain⟨v,G,A⟩:=r.get J;refine⟨v,?_,?_⟩
   ·unfold L2.start;rw[Qm (by rw[WG,Qa];have:=(Qd.mp G).1;lia),WT,QG,G];rfl
   ·have:=L s (Qe J)
    cases s with
    |bor d=>exact A
    |sh d=>exact Rp.mono (X2 (Same.refl _) λb _ _ z y=>z (C b y)) A
    |_=>exact this.elim
def IG(o:O)(R:O->D->Prop)(γ:Γ)(d:D):Prop:=∃f,γ[0]?=some (some<|.own f)/\o.from f/\R f d
def Zp8(o:O)(X:O->Str->Prop)(γ:Γ)(e:Str):Prop:=∃f,γ[0]?=some (some<|.own f)/\o.from f/\X f e
noncomputable def MN(o:O)(R:O->D->Prop)(X:O->Str->Prop):Nq:={nx:=λγ=>IG o R γ .non,rt:=λ_=>False,ex:=Zp8 o X,rv:=IG o R}
def Ce{σ'}{γ'}(n:OR K (off (λb=>B b\/o.adr a b) H) H a o)(e:Xt K (off (o.adr a) H) B H' σ' γ')(h:γ'[0]?=some (some<|.own o'))(k:o.from o'):After K B H a o o' H'/\∀b,B b\/o'.adr a b->zof B γ' σ' b:=by
 obtain⟨v,s,f,rfl,r,l⟩:=e.slot 0 _ h;have u:=O.from_at k n l;subst u;have g:∀b,B b\/o'.adr f b->zof B γ' σ' b:=λb z=>z.imp id λz=>⟨0,o',f,h,s,z⟩;refine⟨⟨e.same,O.from_adr k,λb p=>?_,l.mono (X2 (Same.refl _) λb _ _ z y=>z (g b y)) λ_ _ _ q=>q⟩,g⟩
 have:=r b p
 unfold off at this;by_cases q:o.adr f b
 ·exact .inl q
 ·grind
def Zm4{t p vs Q Y n}(h:spW mg c K vs H Q Y)(L:X0 K mg (λ_=>Y) t p)(hn:n+1<=N.length)(M:∀o u R X,c o u R X->u.length=n/\p (MN o R X) (Nl N o u)):t {nx:=λ_ H'=>Q .non H',rt:=Q} (start N vs) H:=by
 obtain⟨o,a,u,us,B,R,X,rfl,U,J,r,hf,hc,T,hX⟩:=h;obtain⟨e,M⟩:=M o u R X hc;refine L _ B H _ _ _ _ (λb z=>?_) (Zeh U J r hf<|by rw[e];exact hn) M ⟨λl s H' C G f1=>?_,λ_ _ _ z=>z.elim,λl s c H' C G f1=>?_,λ_ _ _ z=>z.elim,λ_ _ _ z=>z.elim,λl s d v H' C G f1 rd=>?_⟩
 ·obtain⟨g,f⟩:=U b z;obtain⟨x,hx⟩:=TX g;exact⟨x,XX hx f⟩
 ·obtain⟨A,g,f,w⟩:=C;exact T A .non .non H' w (Ce J G g f).1 .non
 ·obtain⟨A,g,f,w⟩:=C;exact hX A c H' w (Ce J G g f).1
 ·obtain⟨A,g,f,w⟩:=C;obtain⟨k1,k2⟩:=Ce J G g f;exact T A d v H' w k1 (Rp.mono (X2 (Same.refl _) λb _ _ z y=>z (k2 b y)) rd)
def Zh8(h:spW mg c K vs H Q s)(g:∀o f R X,c o f R X->f.length=n):vs.length=n+1:=by
 obtain⟨o,a,f,p,B,R,X,rfl,_,_,r,_,l,_⟩:=h;rw[Qa,r.len,g o f R X l]
abbrev PTW:=Γ->(Γ->D->Prop)->(Γ->Str->Prop)->Prop
def KO(K:Yc)(mg:Yg)(E:L2.St->XK)(t:TE)(p:PTW):Prop:=∀(H0:Hp) (B:Addr->Prop) (H:Hp) (σ:L2.St) (γ:Γ) (R:Γ->D->Prop) (X:Γ->Str->Prop) (Q:VK),(∀b,B b->∃o,H0 b=some o)->Xt K H0 B H σ γ->p γ R X->
 (∀f d v H',R f d->Xt K H0 B H' σ f->Fr B H σ γ H' σ f->Rp K (off (zof B f σ) H') d v->Q v H')->(∀f c H',X f c->Xt K H0 B H' σ f->Fr B H σ γ H' σ f->XE mg (E σ) c H')->t σ H Q
variable {te:TE}{w:PTW}
noncomputable def Zds(w:PTW)(g:PTG):PTS:=λR γ=>w γ (λf d=>g (.sh d) f R.nx) R.ex
def CQ(hw:KO K mg E te w)(s:N3 K M g r):X0 K mg E (NG te g) (Zds w r):=by
 intro H0 B H σ γ R D x o h e;refine hw H0 B H σ γ _ _ _ x o h (λf d v H1 z J f1 p=>?_) λf c H' u L C=>e.ex σ f c H' u L C;exact s H0 B H1 H1 σ f (.sh d) v _ _ J (Same.refl _) p z λl n y G A _=>e.nx l n H1 y G (f1.trans A)
noncomputable def Zdg(w:PTW):PTS:=λR γ=>w γ (λf _=>R.nx f) R.ex
def NI(hw:KO K mg E te w):X0 K mg E (Fg te) (Zdg w):=by
 intro H0 B H σ γ R D n g h e;exact hw H0 B H σ γ _ _ _ n g h (λf d v H1 o r f1 _=>e.nx σ f H1 o r f1) λf c H' l s p=>e.ex σ f c H' l s p
noncomputable def Ziu(w:PTW):PTS:=λR γ=>w γ R.rv R.ex
def Tr(hw:KO K mg E te w):X0 K mg E (NV te) (Ziu w):=by
 intro H0 B H σ γ R D o g h e;exact hw H0 B H σ γ _ _ _ o g h (λf d v H1 p s f1 l=>e.rv σ f d v H1 p s f1 l) λf c H' n u r=>e.ex σ f c H' n u r
noncomputable def Zq6(a:PTE):PTS:=λR γ=>a γ (λs=>match s.shd with|some d=>R.rv γ d|none=>False) (R.ex γ)
def SK(r:Xp K mg E te a):X0 K mg E (NV te) (Zq6 a):=by
 intro H0 B H σ γ R D x f h e;refine r H0 B H σ γ _ _ _ f h (λs v H1 l g o=>?_) λc H' p n=>e.ex σ γ c H' p (f.grow n) (Fr.grow n);split at l
 ·rename_i d u;exact e.rv σ γ d v H1 l (f.grow g) (Fr.grow g) (o.shd (f.grow g).same f.zm g u)
 ·grind
noncomputable def Zoi(w:PTW):PTS:=λR γ=>w γ (λ_ d=>R.rt (.sh d)) R.ex
def Zdm(hw:KO K mg E te w):X0 K mg E (NV te) (Zoi w):=by
 intro H0 B H σ γ R D o g h e;exact hw H0 B H σ γ _ _ _ o g h (λf d v H1 p s f1 l=>e.rt (.sh d) v H1 p s.same (Rp.mono (X2 (Same.refl _) λb _ _ z y=>z (.inl y)) l)) λf c H' n u r=>e.ex σ f c H' n u r
def Zjw{s f:S}(h:s.pass=some f):f.flat:=by
 cases s with
 |bor d=>unfold S.pass at h;cases q:imm d<;>simp[q]at h<;>subst h<;>trivial
 |tmp d=>
  unfold S.pass at h;cases q:imm d<;>simp[q]at h
  subst h;trivial
 |view o=>cases h
 |_=>cases h;trivial
theorem Bz:∀{g f:List S},passes g=some f->∀s∈f,s.flat
 |[],_,h=>by cases h;simp
 |s::r,_,h=>by
  unfold passes at h;split at h
  ·rename_i o p n l;cases h
   intro x hx;rcases WU.mp hx with rfl|hx
   ·exact Zjw n
   ·exact Bz l x hx
  ·grind
def TV.pass {v P W f} (p:Same H0 H') (l:∀b,Z b->Mut (H b)) (u:Same H H') (n:Same H0 (off P f)) (hs:Same (off Z H') (off W f)) (h:TV K Z H0 H H' s v) (e:s.pass=some g):TV K W (off P f) f f g v:=by
 have shd:∀d,s.shd=some d->Rp K (off W f) d v:=λd r=>Rp.mono hs (h.shd p l u r);cases s with
 |view o=>cases e
 |tmp d=>
  unfold S.pass at e;cases q:imm d with
  |false=>simp_all
  |true=>simp[q]at e;subst e;exact shd d (by unfold S.shd;simp[q])
 |bor d=>
  unfold S.pass at e;cases q:imm d with
  |false=>simp[q]at e;subst e;exact Rp.mono n h
  |true=>simp[q]at e;subst e;exact shd d (by unfold S.shd;simp[q])
 |_=>cases e;exact shd _ rfl
theorem TVs.pass {HB} (o:Same H0 H') (l:∀b,Z b->Mut (H b)) (p:Same H H') (n:Same H0 (off P HB)) (hs:Same (off Z H') (off W HB)):∀{g f}{vs:List V},TVs K Z H0 H H' g vs->passes g=some f->TVs K W (off P HB) HB HB f vs
 |_,_,_,.nil,e=>by cases e;exact .nil
 |_,_,_,.cons h r,e=>by
  unfold passes at e;split at e
  ·rename_i v x u s;cases e
   exact .cons (h.pass o l p n hs u) (TVs.pass o l p n hs r s)
  ·grind
def E6{c:Pw}{i:Nat}{o:O}{a:Addr}{ss l:List S}{us:List V}{R:Γ->D->Prop}{X:Γ->Str->Prop}{Q:VK}{Ec:XK}(env:Xt K H0 B H σ γ)(hB:∀b,B b->∃o,H0 b=some o)(U:Same H H1)(L:γ[i]?=some (some<|.own o))(G:σ[i]?=some (some<|.ref a))(t1:TVs K (zof B γ σ) H0 H H1 ss us)(hp:passes ss=some l)(hc:c o l (λo' d=>R (γ.set i<|some<|.own o') d) (λo' e=>X (γ.set i<|some<|.own o') e))(q:∀f d v H',R f d->Xt K H0 B H' σ f->Fr B H σ γ H' σ f->Rp K (off (zof B f σ) H') d v->Q v H')(qx:∀f c H',X f c->Xt K H0 B H' σ f->Fr B H σ γ H' σ f->XE mg Ec c H'):spW mg c K (.ref a::us) H1 Q Ec:=by
 have g:=env.grow U;obtain⟨v,h1,T,ev,h3,h4⟩:=g.slot i _ L;rw[G]at h1;cases h1
 cases ev
 have Y:∀b,o.adr a b->zof B γ σ b:=λb p=>.inr ⟨i,o,a,L,G,p⟩
 have J:∀o' H',After K (λb=>zof B γ σ b/\¬o.adr a b) H1 a o o' H'->Xt K H0 B H' σ (γ.set i<|some<|.own o')/\Fr B H σ γ H' σ (γ.set i<|some<|.own o')/\∀b x,H' b=some x->¬((zof B γ σ b/\¬o.adr a b)\/o'.adr a b)->¬zof B (γ.set i<|some<|.own o') σ b:=λo' H' A=>by
  have C:∀b x,H' b=some x->¬((zof B γ σ b/\¬o.adr a b)\/o'.adr a b)->¬zof B (γ.set i<|some<|.own o') σ b:=λb x _ n z=>by
   rcases z with z|⟨j,fs,T,e1,M,N⟩
   ·refine n (.inl ⟨.inl z,λw=>?_⟩);obtain⟨u,hu⟩:=hB b z;rw[h3 b w]at hu;cases hu
   ·rcases Ka e1 with⟨ej,q,_⟩|⟨nj,q⟩
    ·subst ej;cases q
     rw[G]at M;cases M
     exact n (.inr N)
    ·exact n (.inl ⟨.inr ⟨j,fs,T,q,M,N⟩,λw=>nj (env.own j i T a fs o b q L M G N w)⟩)
  obtain⟨s,r⟩:=g.change (o':=o') (H':=H') L G (λb x hx n=>A.same b x (XX hx n)) (λb p=>A.at_.mut b (A.old b p)) A.new (A.at_.mono (X2 (Same.refl _) λb x hx z=>C b x hx z) λ_ _ _ q=>q);exact⟨s,(Fr.grow U).trans r,C⟩
 refine⟨o,a,l,us,λb=>zof B γ σ b/\¬o.adr a b,_,_,rfl,λb p=>⟨g.zm b p.1,p.2⟩,h4.mono (X2 (Same.refl _) λb _ _ z y=>z (y.elim (λy=>y.1)<|Y b)) λ_ _ _ q=>q,?_,Bz hp,hc,λo' d v H' hR A rd=>?_,λo' e H' hX A=>?_⟩
 ·refine t1.pass g.same env.zm U (λb x hx=>XX (g.same b x hx) λw=>?_) (X2 (Same.refl _) λb _ _ z y=>z (y.elim (λy=>y.1)<|Y b)) hp;rw[h3 b w]at hx;cases hx
 ·obtain⟨s,r,k3⟩:=J o' H' A;exact q _ d v H' hR s r (Rp.mono (λb x h=>let ⟨p1,p2⟩:=Td h;XX p1 (k3 b x p1 p2)) rd)
 ·obtain⟨s,r,_⟩:=J o' H' A;exact qx _ e H' hX s r
noncomputable def Zsm(i:Nat)(c:Pw)(r:PTA):PTW:=λγ R X=>match γ[i]? with
 |some (some<|.own o)=>r γ (λh=>match passes h with|some f=>c o f (λg d=>R (γ.set i<|some<|.own g) d) (λg e=>X (γ.set i<|some<|.own g) e)|none=>False) (X γ)
 |_=>False
noncomputable def Lq(i:Nat)(c:Pw)(r:PTA):PTW:=λγ R X=>match γ[i]? with
 |some (some<|.own o)=>r γ (λg=>match passes g with|some f=>c o f (λh d=>R (γ.set i<|some<|.own h) d) (λ_ _=>False)|none=>False) (X γ)
 |_=>False
def Zoe(i:Nat){c g r}(C:XC K mg E g r):KO K mg E (Nh (spW mg c K) [] E0<|Kv (K5 i) g) (Lq i c r):=by
 intro H0 B H σ γ R X Q J f h q A;unfold Lq at h;split at h
 ·rename_i o n;obtain⟨v,l,a,rfl,_,_⟩:=f.slot i _ n;refine⟨_,l,C H0 B H σ γ _ _ _ f h (λN u H1 p M x=>?_) λc H' G s=>A γ c H' G (f.grow s) (Fr.grow s)⟩;show spW mg c K ((V.ref a::u)++[]) H1 Q E0;rw[Q1];split at p
  ·rename_i y L;exact E6 (X:=λ_ _=>False) f J M n l x L p q λ_ _ _ z=>z.elim
  ·grind
 ·grind
def MB(C:Addr)(xs:Yl)(j:Nat):S->(S->Prop)->Prop
 | .view (.ins _ g f l),R=>g=C/\f=xs/\∃c,l[j]?=some c/\R (.view<|.lst c.2)
 | .bor (.ins g f h),R=>g=C/\f=xs/\∃d,h[j]?=some d/\R (arg d)
 |_,_=>False
noncomputable def Zn9(C:Addr)(xs:Yl)(j:Nat)(a:PTE):PTE:=λγ R X=>a γ (λs=>MB C xs j s R) X
def Rp.ins_inv (h:Rp K H (.ins C xs ds) v):∃a f vs,v=.ref a/\H a=some (.ins C f<|xs.zip vs)/\xs.length=vs.length/\Rps K H ds vs:=by
 cases h with
 |ins h e r=>grind
def FldAt(f:Str)(xs:Yl)(j:Nat):Prop:=∀g:List V,xs.length=g.length->(xs.zip g).lookup f=g[j]?
def Sl(j:Nat){a}(L:Cls K C)(G:NoAttr K C f)(J:FldAt f xs j)(ha:Xp K mg E te a):Xp K mg E (F2 K te f) (Zn9 C xs j a):=by
 intro H0 B H σ γ R X Q l p q qx;refine ha H0 B H σ γ _ X _ l p (λs v H1 h z A=>?_) qx;have g:=l.grow z;unfold MB at h;split at h
 ·rename_i x C' n cs;obtain⟨rfl,rfl,c,M,o⟩:=h;obtain⟨b,rfl,T,N,⟨y,r⟩,e4,e5⟩:=A;obtain⟨U,u1,Y⟩:=e4 c (Qe M);refine⟨b,_,y,_,_,rfl,r,L,G,?_,q _ _ H1 o z ⟨c.1,rfl,U,u1,Y⟩⟩;rw[J _ (by grind),WT,M];rfl
 ·rename_i C' n ds;obtain⟨rfl,rfl,d,ed,o⟩:=h;obtain⟨b,y,vs,rfl,T,N,r⟩:=Rp.ins_inv A;obtain⟨u,hu,ru⟩:=r.get ed;refine⟨b,_,y,_,u,rfl,g.same _ _ T,L,G,by rw[J _ N];exact hu,q _ _ H1 o z (NF g.zm g.same ru)⟩
 ·exact h.elim
noncomputable def O2(C:Addr)(xs:Yl)(c:Pc)(a:PTE)(r:PTA):PTE:=λγ R X=>a γ (λs=>match s.d with
 | .ins g f l=>g=C/\f=xs/\r γ (λh=>c (.ins g f l::h.map S.d) (λs=>R s.back) X) X
 |_=>False) X
def NoFld(m:Str)(xs:Yl):Prop:=∀f:List V,(xs.zip f).lookup m=none
noncomputable def Dw(C:Addr)(m:Str)(sp:Sp)(E:L2.St->XK)(g:TE)(t:TA):TE:=λσ H Q=>g σ H λx H1=>∃a h fs,x=.ref a/\H1 a=some (.ins C h fs)/\fs.lookup m=none/\t σ H1 λf l=>sp (x::(f++[])) l Q (E σ)
def Sn{m xs c z a r}(hx:NoFld m xs)(ha:Xp K mg E te a)(T:XC K mg E z r):Xp K mg E (Dw C m (Xv mg c K) E te z) (O2 C xs c a r):=by
 intro H0 B H σ γ R X Q h p q y;refine ha H0 B H σ γ _ X _ h p (λs v H1 o n M=>?_) y;have f:=h.grow n;split at o
 ·rename_i C' A ds ed;obtain⟨rfl,rfl,o⟩:=o;have x:=M.rp f.same;rw[ed]at x;obtain⟨b,dx,G,rfl,e1,e2,e3⟩:=Rp.ins_inv x;refine⟨b,dx,_,rfl,e1,hx G,T H0 B H1 σ γ _ X _ f o (λss us H2 h2 l L=>?_) λc H' Y S'=>y c H' Y (n.trans S')⟩;have g:=f.grow l;rw[Q1];refine⟨_,_,X,Rps.cons (Rp.mono l x) (L.rps g.same),h2,λs v H' N u J=>q _ _ H' N ((n.trans l).trans u) (J.back g (n.trans l) u),λe H' U u=>y e H' U ((n.trans l).trans u)⟩
 ·grind
def NO{m xs c g a r f}(hx:NoFld m xs)(l:Xp K mg (λ_=>f) te a)(h:XC K mg (λ_=>f) g r):Xp K mg (λ_=>f) (Ng C m (Xv mg c K) [] f te g) (O2 C xs c a r):=Sn hx l h
noncomputable def Zfb(C:Addr)(xs:Yl)(c:Pc)(a:PTE)(r:PTA):PTE:=λγ R X=>a γ (λs=>match s.d with
 | .ins g f l=>g=C/\f=xs/\r γ (λh=>c (.ins g f l::h.map S.d) (λs=>R s.back) λ_=>False) X
 |_=>False) X
def Kh{m xs c x a r}(hx:NoFld m xs)(ha:Xp K mg E te a)(U:XC K mg E x r):Xp K mg E (Ng C m (Xv mg c K) [] E0 te x) (Zfb C xs c a r):=by
 intro H0 B H σ γ R X Q h p q y;refine ha H0 B H σ γ _ X _ h p (λs v H1 l o N=>?_) y;have f:=h.grow o;split at l
 ·rename_i C' G ds ed;obtain⟨rfl,rfl,l⟩:=l;have u:=N.rp f.same;rw[ed]at u;obtain⟨b,dx,J,rfl,e1,e2,e3⟩:=Rp.ins_inv u;refine⟨b,dx,_,rfl,e1,hx J,U H0 B H1 σ γ _ X _ f l (λss us H2 h2 n M=>?_) λc H' Y S'=>y c H' Y (o.trans S')⟩;have g:=f.grow n;rw[Q1];exact⟨_,_,_,Rps.cons (Rp.mono n u) (M.rps g.same),h2,λs v H' T A L=>q _ _ H' T ((o.trans n).trans A) (L.back g (o.trans n) A),λ_ _ z=>z.elim⟩
 ·grind
noncomputable def EL(i:Nat)(C:Addr)(xs:Yl)(c:Pw)(r:PTA):PTW:=λγ R X=>match γ[i]? with
 |some (some<|.own<|.ins x l f o)=>l=C/\f=xs/\r γ (λn=>match passes n with|some g=>c (.ins x l f o) g (λh d=>R (γ.set i<|some<|.own h) d) (λh e=>X (γ.set i<|some<|.own h) e)|none=>False) (X γ)
 |_=>False
def HE(i:Nat){C m xs c g r}(hx:NoFld m xs)(A:XC K mg E g r):KO K mg E (Dw C m (spW mg c K) E (K5 i) g) (EL i C xs c r):=by
 intro H0 B H σ γ R X Q J f h q l;unfold EL at h;split at h
 ·rename_i x C' u cs o;obtain⟨rfl,rfl,h⟩:=h;obtain⟨v,n,a,rfl,_,e1,e2,⟨N,M⟩,e4⟩:=f.slot i _ o;refine⟨_,n,a,N,_,rfl,M,hx _,A H0 B H σ γ _ _ _ f h (λY U H1 p T y=>?_) λc H' G s=>l γ c H' G (f.grow s) (Fr.grow s)⟩;rw[Q1];split at p
  ·rename_i z L;exact E6 f J T o n y L p q l
  ·grind
 ·grind
def BC(i:Nat){C m xs c g r f}(hx:NoFld m xs)(h:XC K mg (λ_=>f) g r):KO K mg (λ_=>f) (Ng C m (spW mg c K) [] f (K5 i) g) (EL i C xs c r):=HE i hx h
noncomputable def Ib(i:Nat)(C:Addr)(xs:Yl)(c:Pw)(r:PTA):PTW:=λγ R X=>match γ[i]? with
 |some (some<|.own<|.ins x h f o)=>h=C/\f=xs/\r γ (λl=>match passes l with|some g=>c (.ins x h f o) g (λn d=>R (γ.set i<|some<|.own n) d) (λ_ _=>False)|none=>False) (X γ)
 |_=>False
def SR(i:Nat){C m xs c g r}(hx:NoFld m xs)(G:XC K mg E g r):KO K mg E (Ng C m (spW mg c K) [] E0 (K5 i) g) (Ib i C xs c r):=by
 intro H0 B H σ γ R X Q L f h q A;unfold Ib at h;split at h
 ·rename_i x C' s cs n;obtain⟨rfl,rfl,h⟩:=h;obtain⟨v,l,a,rfl,_,e1,e2,⟨T,N⟩,e4⟩:=f.slot i _ n;refine⟨_,l,a,T,_,rfl,N,hx _,G H0 B H σ γ _ _ _ f h (λss Y H1 o U u=>?_) λc H' J p=>A γ c H' J (f.grow p) (Fr.grow p)⟩;rw[Q1];split at o
  ·rename_i y M;exact E6 (X:=λ_ _=>False) f L U n l u M o q λ_ _ _ z=>z.elim
  ·grind
 ·grind
theorem HP{g:Type}:∀{l:List g}{i j:Nat}{x:g},l.Nodup->l[i]?=some x->l[j]?=some x->i=j
 |[],_,_,_,_,h,_=>by simp at h
 |y::r,0,0,_,_,_,_=>rfl
 |y::r,0,j+1,x,f,o,n|y::r,i+1,0,x,f,o,n=>by
  grind
 |y::r,i+1,j+1,x,f,o,n=>Q4 (· + 1) (HP (Q7.mp f).2 (by trivial)<|by grind)
def Xt.cell {f b ds es us} (env:Xt K H0 B H σ γ) (L:γ[i]?=some (some<|.own<|.ins x C xs f)) (s:f[j]?=some (b,ds)) (r:Rps K (off (zof B γ σ) H) es us) :
  Xt K H0 B (upd H b<|.lst us) σ (γ.set i<|some<|.own<|.ins x C xs<|f.set j (b,es))/\Fr B H σ γ (upd H b<|.lst us) σ (γ.set i<|some<|.own<|.ins x C xs<|f.set j (b,es)):=by
 obtain⟨v,Y,a,rfl,e0,e1,e2,⟨dx,e3⟩,e4,e5⟩:=env.slot i _ L;subst e1;have l:=Qe s
 have M:a≠b:=λz=>by
  obtain⟨T,o,_⟩:=e4 _ l;rw[←show a=b from z,e3]at o
  cases o
 have em:(f.set j (b,es)).map (·.1)=f.map (·.1):=by
  apply JV;intro k;rw[WT,WT,List.getElem?_set];by_cases e:j=k
  ·subst e;rw[WO rfl,WO ((Qd.mp s).1),s];rfl
  ·rw[WM e]
 have N:(f.set j (b,es)).map (λc=>V.ref c.1)=f.map λc=>V.ref c.1:=by
  have:=Q4 (List.map V.ref) em
  rw[Q0,Q0]at this;exact this
 have adr:∀c,(O.ins a C xs<|f.set j (b,es)).adr a c->(O.ins a C xs f).adr a c:=λc g=>by
  rcases g with g|⟨d,hd,g⟩
  ·exact .inl g
  ·have:d.1∈(f.set j (b,es)).map (·.1):=JL hd
   rw[em]at this;obtain⟨d',A,p⟩:=Qi.mp this;exact .inr ⟨d',A,g.trans p.symm⟩
 have y:∀c,(O.ins a C xs f).adr a c->zof B γ σ c:=λc g=>.inr ⟨i,_,a,L,Y,g⟩
 have So:Same (off (zof B γ σ) H) (off (zof B (γ.set i<|some<|.own<|.ins a C xs<|f.set j (b,es)) σ)<|upd H b<|.lst us):=λc u h=>by
  obtain⟨A,p⟩:=Td h;have G:=λz=>p (y c<|.inr ⟨_,l,z⟩);refine XX (by rw[Xw G];exact A) λz=>p ?_;rcases z with z|⟨k,fs,a',k1,k2,U⟩
  ·exact .inl z
  ·rcases Ka k1 with⟨Q,q,_⟩|⟨_,q⟩
   ·subst Q;cases q
    exact y c (adr c U)
   ·exact .inr ⟨k,fs,a',q,k2,U⟩
 refine env.change L Y (λc u hu n=>?_) (λc g=>?_) (λc g=>.inl (adr c g)) ⟨rfl,by rw[QI];exact e2,⟨dx,?_⟩,λc g=>?_,by rw[em];exact e5⟩
 ·rw[Xw λz=>n (.inr ⟨_,l,z⟩)];exact hu
 ·by_cases z:c=b
  ·rw[z,X9];trivial
  ·rw[Xw z];exact env.zm c (y c g)
 ·rw[Xw M,N];exact e3
 ·obtain⟨k,hk,Q⟩:=List.getElem_of_mem g;have J:(f.set j (b,es))[k]?=some c:=by rw[WH hk,Q]
  rcases Ka J with⟨_,q,_⟩|⟨nk,q⟩
  ·subst q;exact⟨us,X9,Rps.mono So r⟩
  ·obtain⟨T,o,w2⟩:=e4 c (Qe q)
   have G:=λz=>nk (by
    have h1:(f.map (·.1))[k]?=some b:=by rw[WT,q];exact Q4 some z
    have h2:(f.map (·.1))[j]?=some b:=by rw[WT,s];rfl
    exact HP e5 h1 h2)
   exact⟨T,by rw[Xw G];exact o,Rps.mono So w2⟩
noncomputable def Lp(i j:Nat)(C:Addr)(xs:Yl)(a:PTE):PTW:=λγ R X=>match γ[i]? with
 |some (some<|.own<|.ins x h f g)=>h=C/\f=xs/\∃c,g[j]?=some c/\a γ (λs=>match s.shd with
  |some d=>c.2.length<10000000/\R (γ.set i<|some<|.own<|.ins x h f<|g.set j (c.1,c.2++[d])) .non
  |none=>False) (X γ)
 |_=>False
def E7(i j:Nat){C f xs a}(p:Cls K C)(hn:NoAttr K C f)(hj:FldAt f xs j)(ha:Xp K mg E te a):KO K mg E (tBM K "list" AE (F2 K (K5 i) f)<|Kv te KP) (Lp i j C xs a):=by
 intro H0 B H σ γ R X Q hB g h q T;unfold Lp at h;split at h
 ·rename_i x C' M cs J;obtain⟨rfl,rfl,c,r,h⟩:=h;obtain⟨v,hv,b,rfl,_,e1,e2,⟨dx,e3⟩,e4,e5⟩:=g.slot i _ J;obtain⟨y,G,A⟩:=e4 c (Qe r);refine⟨_,hv,b,_,dx,_,V.ref c.1,rfl,e3,p,hn,?_,.inl ⟨rfl,y,SqL.of G⟩,ha H0 B H σ γ _ _ _ g h (λs u H1 o n N=>?_) λc H' p L=>T γ c H' p (g.grow L) (Fr.grow L)⟩
  ·rw[hj _ (by grind),WT,r];rfl
  ·have l:=g.grow n;split at o
   ·rename_i d ed;refine⟨c.1,y,u,rfl,rfl,n _ _ G,by rw[A.len];exact V8 o.1 (by decide),?_⟩;obtain⟨Y,U⟩:=l.cell J r (Rps.append (Rps.mono (X2 n λ_ _ _ z=>z) A)<|.cons (N.shd l.same g.zm n ed) .nil);exact q _ _ _ _ o.2 Y ((Fr.grow n).trans U) .non
   ·exact o.elim
 ·exact h.elim
noncomputable def IR(i j:Nat)(C:Addr)(xs:Yl):PTW:=λγ R _=>match γ[i]? with
 |some (some<|.own<|.ins x h f g)=>h=C/\f=xs/\∃c d,g[j]?=some c/\c.2[c.2.length-1]?=some d/\R (γ.set i<|some<|.own<|.ins x h f<|g.set j (c.1,c.2.dropLast)) d
 |_=>False
def Rps.dropLast:∀{ds}{vs:List V},Rps K H ds vs->Rps K H ds.dropLast vs.dropLast:=by
 intro ds
 induction ds with
 |nil=>
  intro _ h;cases h
  exact .nil
 |cons _ _ f=>
  intro _ h;cases h with
  |cons h r=>
   cases r with
   |nil=>exact .nil
   |cons c e=>exact .cons h (f<|.cons c e)
def EC(i j:Nat){C f xs}(N:Cls K C)(L:NoAttr K C f)(M:FldAt f xs j):KO K mg E (Fb K "list" Eu<|F2 K (K5 i) f) (IR i j C xs):=by
 intro H0 B H σ γ R X Q hB g h q qx;unfold IR at h;split at h
 ·rename_i x C' y cs s;obtain⟨rfl,rfl,c,d,n,T,h⟩:=h;obtain⟨v,G,b,rfl,_,e1,e2,⟨dx,Y⟩,U,e5⟩:=g.slot i _ s;obtain⟨o,p,l⟩:=U c (Qe n);obtain⟨u,J,z⟩:=l.get T;refine⟨_,G,b,_,dx,_,V.ref c.1,rfl,Y,N,L,?_,.inl ⟨rfl,o,SqL.of p⟩,c.1,o,u,rfl,rfl,p,by rw[l.len];exact J,?_⟩
  ·rw[M _ (by grind),WT,n];rfl
  ·obtain⟨A,r⟩:=g.cell s n (Rps.dropLast l);exact q _ _ _ _ h A r (Rp.mono r.off z)
 ·grind
def PutAt(f:Str)(xs:Yl):Prop:=∀(g:List V) (y:V),xs.length=g.length->KH f y (xs.zip g)=(xs++[f]).zip (g++[y])
noncomputable def Zil(i:Nat)(C:Addr)(f:Str)(xs:Yl)(a:PTE):PTS:=λR γ=>a γ (λs=>match s with
 | .own (.lst l)=>(match γ[i]? with
  |some (some<|.own<|.ins x h g n)=>h=C/\g=xs/\xs.length<1000/\∀b,R.nx (γ.set i<|some<|.own<|.ins x h (xs++[f]) (n++[(b,l)]))
  |_=>False)
 |_=>False) (R.ex γ)
def Dk(i:Nat){C f xs a}(g:Cls K C)(hn:NoAttr K C f)(hp:PutAt f xs)(ha:Xp K mg E te a):X0 K mg E (Zai K (K5 i) te f) (Zil i C f xs a):=by
 intro H0 B H σ γ R D hB p h e;refine ha H0 B H σ γ _ _ _ p h (λs v H1 G Q t1=>?_) λc H' g S'=>e.ex σ γ c H' g (p.grow S') (Fr.grow S');split at G
 ·rename_i ds;split at G
  ·rename_i x M o r hi;obtain⟨rfl,rfl,hl,G⟩:=G;obtain⟨u,hv,b,rfl,e0,e1,e2,⟨dx,e3⟩,e4,e5⟩:=p.slot i _ hi;subst e1;obtain⟨l,rfl,L,vs,l1,l2⟩:=t1;have L:=L l rfl;refine⟨_,hv,b,_,dx,_,rfl,Q _ _ e3,g,hn,?_,?_⟩
   ·rw[List.length_zip,WG];lia
   ·rw[hp _ _ (by rw[WG];exact e2)]
    have nl:∀c∈r,c.1≠l:=λc g=>by
     obtain⟨ws,J,_⟩:=e4 c g;exact K7 J L
    have nb:∀c∈r,c.1≠b:=λc g z=>by
     obtain⟨ws,J,_⟩:=e4 c g;rw[z,e3]at J;cases J
    have T:∀c,(O.ins b M o r).adr b c->zof B γ σ c:=λc g=>.inr ⟨i,_,b,hi,hv,g⟩
    have key:∀c u,H1 c=some u->¬(zof B γ σ c\/c=l)->¬zof B (γ.set i<|some<|.own<|.ins b M (o++[f]) (r++[(l,ds)])) σ c:=λc u _ n z=>by
     rcases z with z|⟨k,fs,a',k1,N,A⟩
     ·exact n (.inl<|.inl z)
     ·rcases Ka k1 with⟨ek,q,_⟩|⟨_,q⟩
      ·subst ek;cases q
       rw[hv]at N;cases N
       rcases A with A|⟨d,hd,A⟩
       ·exact n (.inl<|T c<|.inl A)
       ·rcases Qc.mp hd with hd|hd
        ·exact n (.inl<|T c<|.inr ⟨d,hd,A⟩)
        ·rw[WJ]at hd;subst hd;exact n (.inr A)
      ·exact n (.inl<|.inr ⟨k,fs,a',q,N,A⟩)
    have So:Same (off (λc=>zof B γ σ c\/c=l) H1) (off (zof B (γ.set i<|some<|.own<|.ins b M (o++[f]) (r++[(l,ds)])) σ)<|upd H1 b<|.ins M dx ((o++[f]).zip ((r.map λc=>V.ref c.1)++[.ref l]))):=λc u h=>by
     obtain⟨Y,U⟩:=Td h;exact XX (by rw[Xw λz=>U (.inl<|T c<|.inl z)];exact Y) (key c u Y U)
    have S0:Same (off (zof B γ σ) H) (off (λc=>zof B γ σ c\/c=l) H1):=X2 Q λc u g z y=>y.elim z λy=>by rw[y,L]at g;cases g
    obtain⟨k1,N⟩:=p.change (o':=.ins b M (o++[f]) (r++[(l,ds)])) (H':=upd H1 b (.ins M dx ((o++[f]).zip ((r.map λc=>V.ref c.1)++[.ref l])))) hi hv
     (λc u hu n=>by rw[Xw λz=>n (.inl z)];exact Q _ _ hu)
     (λc g=>by
      by_cases z:c=b
      ·rw[z,X9];trivial
      ·rw[Xw z];exact(p.grow Q).zm c (T c g))
     (λc g=>by
      rcases g with g|⟨d,hd,g⟩
      ·exact .inl (.inl g)
      ·rcases Qc.mp hd with hd|hd
       ·exact .inl (.inr ⟨d,hd,g⟩)
       ·rw[WJ]at hd;subst hd;exact .inr (by rw[show c=l from g];exact L))
     ⟨rfl,by rw[WS,WS,e2];rfl,⟨dx,by rw[X9,WZ];rfl⟩,λc g=>by
      rcases Qc.mp g with g|g
      ·obtain⟨ws,J,w2⟩:=e4 c g;exact⟨ws,by rw[Xw (nb c g)];exact Q _ _ J,Rps.mono So (Rps.mono S0 w2)⟩
      ·rw[WJ]at g;subst g;exact⟨vs,by rw[Xw (λz=>(K7 e3 L) z.symm)];exact l1,Rps.mono So l2⟩,by
      rw[WZ,Vk]
      exact⟨e5,by simp,λc g d hd z=>by
       obtain⟨c',Y,U⟩:=Qi.mp g
       have:d=l:=by simpa using hd
       exact nl c' Y (U.trans<|z.trans this)⟩⟩
    exact e.nx _ _ _ (G l) k1 N
  ·exact G.elim
 ·exact G.elim
def Zi4{c}{M l}{us}{R:S->Prop}{X:XR}{Q:VK}{Ec}(env:Xt K H0 B H σ γ)(p:Same H H1)(T:TVs K (zof B γ σ) H0 H H1 M us)(N:passes M=some l)(h1:∀x,c (.ins x C [] []) l (λo' d=>d=.non/\R (.own o')) (λ_ e=>X e))(q:∀s v H',R s->Same H H'->TV K (zof B γ σ) H0 H H' s v->Q v H')(Y:∀c H',X c->Same H H'->XE mg Ec c H') :
  ∀x h,H1 x=none->H1 h=none->h≠x->spW mg c K (.ref x::us) (upd (upd H1 h<|.own x) x<|.ins C h []) (λv H2=>v=.non/\Q (.ref x) H2) Ec:=by
 have f:=env.grow p;intro x h n J nex
 have u:Same H1 (upd (upd H1 h<|.own x) x<|.ins C h []):=λb o e=>by
  rwa[Xw (K7 e n),Xw (K7 e J)]
 have r:∀o' H',After K (zof B γ σ) (upd (upd H1 h<|.own x) x<|.ins C h []) x (.ins x C [] []) o' H'->Same H1 H'/\∀b,o'.adr x b->H b=none:=λo' H' A=>by
  refine⟨λb o e=>A.same b o (XX (u b o e) λz=>?_),λb G=>?_⟩
  ·rcases z with z|⟨c,g,_⟩
   ·rw[z,n]at e;cases e
   ·cases g
  ·rcases A.new b G with(z|⟨c,g,_⟩)|z
   ·rw[z];exact p.free n
   ·cases g
   ·exact p.free (u.free z)
 refine⟨.ins x C [] [],x,l,us,zof B γ σ,_,_,rfl,λb G=>⟨Tx u (f.zm b G),λz=>?_⟩,⟨rfl,rfl,⟨h,X9⟩,(λc g=>by cases g),VO⟩,?_,Bz N,h1 x,λo' d v H' L A U=>?_,λo' e H' hX A=>?_⟩
 ·rcases z with z|⟨c,g,_⟩
  ·have:=f.zm b G
   rw[z,n]at this;exact this
  ·cases g
 ·refine T.pass f.same env.zm p (λb o e=>XX (u _ _<|f.same b o e) λz=>?_) (X2 u λb o e z y=>?_) N
  ·rcases z with z|⟨c,g,_⟩
   ·rw[z,(f.same).free n]at e;cases e
   ·cases g
  ·rcases y with y|y|⟨c,g,_⟩
   ·exact z y
   ·rw[y,n]at e;cases e
   ·cases g
 ·obtain⟨rfl,L⟩:=L;obtain⟨k1,k2⟩:=r o' H' A;exact⟨Rp.non_inv U,q _ _ H' L (p.trans k1) ⟨x,rfl,k2,A.at_⟩⟩
 ·exact Y e H' hX (p.trans (r o' H' A).1)
noncomputable def Zbk(C:Addr)(c:Pw)(r:PTA):PTE:=λγ R X=>r γ (λg=>match passes g with|some f=>∀x,c (.ins x C [] []) f (λh d=>d=.non/\R (.own h)) (λ_ _=>False)|none=>False) X
def Zgw{g r}(s:XC K mg E g r):Xp K mg E (A5 C (spW mg c K) [] E0 g) (Zbk C c r):=by
 intro H0 B H σ γ R X Q f p q o;refine s H0 B H σ γ _ X _ f p (λy x H1 h v l=>?_) o;split at h
 ·rename_i n u;rw[Q1];exact Zi4 f v l u h q λ_ _ z=>z.elim
 ·grind
end
def BW{f:Type}{us:List f}(h:us.length=1):∃a,us=[a]:=List.length_eq_one_iff.mp h
def Bb{f:Type}{us:List f}(h:us.length=2):∃a b,us=[a,b]:=by
 cases us with
 |nil=>grind
 |cons a r=>obtain⟨b,rfl⟩:=BW (by simpa using h);exact⟨a,b,rfl⟩
def F9{f:Type}{us:List f}(h:us.length=3):∃a b c,us=[a,b,c]:=by
 cases us with
 |nil=>grind
 |cons a r=>obtain⟨b,c,rfl⟩:=Bb (by simpa using h);exact⟨a,b,c,rfl⟩
def Cn{f:Type}{us:List f}(h:us.length=4):∃a b c d,us=[a,b,c,d]:=by
 cases us with
 |nil=>grind
 |cons a r=>obtain⟨b,c,d,rfl⟩:=F9 (by simpa using h);exact⟨a,b,c,d,rfl⟩
def Zjb{f:Type}{us:List f}(h:us.length=5):∃a b c d e,us=[a,b,c,d,e]:=by
 cases us with
 |nil=>grind
 |cons a r=>obtain⟨b,c,d,e,rfl⟩:=Cn (by simpa using h);exact⟨a,b,c,d,e,rfl⟩
structure XD (K:Yc) (W:Addr->Prop) (x q:Str) (st:Stmt) (ps:Yl):Prop where
 ex:∃f fd,Fun K x q st f fd/\W f/\Binds K fd ps []
structure Pa (P:Program) (w:World) (K:Yc) (mg:Yg) (base:Heap) (CX:CXT) (k:Nat) (W:Addr->Prop) (ps:Yl) (sp:Sp):Prop where
 ex:∃f fd,K9 P w K mg base CX k f fd ps sp/\W f/\Binds K fd ps []
section
variable {P:Program}{w:World}{K:Yc}{mg:Yg}{base:Heap}{W:Addr->Prop}
def XD.ok {st N ps k sp} (D:XD K W x q st ps) (S:Xr N ps (Xq st)) (len:∀vs H Q E,sp vs H Q E->vs.length=ps.length)
  (l:∀f g A outer s H vs Q E,Xz k (A.deeper<|envOfC q (Xq st) s.heap.objs.size f g)->sp vs H Q E->
   ∃t,PSs (Kf CX0 P w K mg base N q (Xq st) f g A outer s H E).nox (XU st) t/\t {nx:=λ_ H'=>Q .non H',rt:=Q} (start N vs) H):Pa P w K mg base CX0 (k+1) W ps sp:=by
 obtain⟨f,r,F,o,p⟩:=D.ex;exact⟨f,r,F.ok S len λg A outer s H vs Q E n h=>l f g A outer s H vs Q E n h,o,p⟩
def XD.okX {st N ps k sp} (D:XD K W x q st ps) (S:Xr N ps (Xq st)) (len:∀vs H Q E,sp vs H Q E->vs.length=ps.length)
  (h:∀f g A outer s H vs Q E,Xz k (A.deeper<|envOfC q (Xq st) s.heap.objs.size f g)->sp vs H Q E->
   ∃t,PSs (Kf (ExcR.CXe P w) P w K mg base N q (Xq st) f g A outer s H E) (XU st) t/\t {nx:=λ_ H'=>Q .non H',rt:=Q} (start N vs) H):Pa P w K mg base (ExcR.CXe P w) (k+1) W ps sp:=by
 obtain⟨f,C,F,u,v⟩:=D.ex;obtain⟨oc,B,kV,y,z,J,g,G,o,rfl,p,n⟩:=F.ex;exact⟨f,_,DO p n S len λA outer s H vs Q E r l=>h f g A outer s H vs Q E r l,u,v⟩
def Ao:Pz (ExcR.CXe P w) X E0:=λ_ _ _ _ _ _ _ h=>by
 obtain⟨a,T,C,f,g,_,_,z⟩:=h
 grind
end
section
variable {X:Cx}{CX:CXT}{k:Nat}{Cc:Addr}{ps:Yl}{sp:Sp}{E:XK}{ES:L2.St->XK}{x m:Str}{p pos apos:Pos}{e o:Expr}{es:Ym}{ta:TE}{t:TA}
def T3{pl}(C:Pa X.prog X.w X.K X.mg X.base CX k (XB X.K Cc m) ps sp)(c:Cls X.K Cc)(r:Xz k X.A)(hx:Pz CX X E)(u:PE X o ta)(y:PA X (e::es) t)(g:autoParam (starEach (e::es) X.env=(false,eval e X.env)::starEach es X.env) au_0)(h:autoParam ((backTo pos<|starEach es X.env).any (·.1)=false) au_0)
  (n:autoParam (eval (.Call (.Attribute o m apos) (e::es) [] pos) X.env=(do
   let l ←eval o X.env
   standAt apos.atName
   let (f,first) ←holding [l] (getMethod l m pl)
   callWith pos f first (backTo pos<|starEach (e::es) X.env) (backToKw pos<|keywordEach [] X.env))) au_0) :
  PE X (.Call (.Attribute o m apos) (e::es) [] pos) (Ng Cc m sp [] E ta t):=by
 obtain⟨f,z,F,s,v⟩:=C.ex;exact Zla u c s F r v .nil hx y g h n
def XN(C:Pa X.prog X.w X.K X.mg X.base CX k (XB X.K Cc m) ps sp)(c:Cls X.K Cc)(l:Xz k X.A)(hx:Pz CX X E)(r:PE X o ta)
  (h:autoParam (eval (.Call (.Attribute o m apos) [] [] pos) X.env=(do
   let g ←eval o X.env
   standAt apos.atName
   let (f,first) ←holding [g] (getMethod g m u)
   callWith pos f first (backTo pos<|starEach [] X.env) (backToKw pos<|keywordEach [] X.env))) au_0) :
  PE X (.Call (.Attribute o m apos) [] [] pos) (Ng Cc m sp [] E ta KP):=by
 obtain⟨f,v,F,n,s⟩:=C.ex;exact Zbx r c n F l s .nil hx h
def Zka{g:L2.St}{H}{s}{Q}{us}{vs}(F:K9 X.prog X.w X.K X.mg X.base CX k f B ps sp)(n:Xz k X.A)(y:Binds X.K B ps [])(hx:ExcR.Ca CX X ES)(I:Inv X pins g H s)(r:Vals vs us)(h:sp vs H Q (ES g)):wpAny (model X.prog X.w) X.A (call (.ref f) us) (EP X pins g Q) X.xe s:=by
 have v:(us++[]).length=ps.length:=by rw[Q1,←r.length];exact F.len _ _ _ _ h
 refine JA (Vt (F.run X.A X.stack s H ⟨us,[]⟩ (us++[]) vs Q (ES g) n I.env0 (y s us I.kIn v) (by grind) h) λr l hq=>?_);cases r with
 |error e=>exact hx pins g H s e l I hq
 |ok z=>
  cases z with
  |ret u=>exact I.after hq
  |cont=>exact False.elim hq
  |_=>trivial
def SA(C:Pa X.prog X.w X.K X.mg X.base CX k (XB X.K Cc m) ps sp)(c:Cls X.K Cc)(B:Xz k X.A)(hx:ExcR.Ca CX X ES)(G:PE X o ta)
  (z:autoParam (eval (.Call (.Attribute o m apos) [] [] pos) X.env=(do
   let n ←eval o X.env
   standAt apos.atName
   let (f,first) ←holding [n] (getMethod n m T)
   callWith pos f first (backTo pos<|starEach [] X.env) (backToKw pos<|keywordEach [] X.env))) au_0) :
  PE X (.Call (.Attribute o m apos) [] [] pos) (Dw Cc m sp ES ta KP):=by
 obtain⟨f,U,F,r,J⟩:=C.ex;intro pins s v H Q I h;refine VN (thn (G pins s v H _ I h) ?_) z;rintro u N ⟨x,H1,g,y,a,Y,fs,L,M,l,q⟩;subst L;obtain rfl:=y;refine F1 g M c r l ?_;exact PySem.W.callWith_K0 g.kIn r.kp (Zka (vs:=[.ref a]) F B J hx g (.cons rfl .nil) q)
def Zh0(C:Pa X.prog X.w X.K X.mg X.base CX k (Mk X.K Cc) ps sp)(n:X.mg x=some (.ref Cc))(l:Xz (k+1) X.A)(hx:Pz CX X E)(v:PA X (e::es) t)(r:autoParam (Gl X x) au_0)(h:autoParam ((x==("__debug__" : Str))=false) au_1)(s:autoParam (starEach (e::es) X.env=(false,eval e X.env)::starEach es X.env) au_0)(g:autoParam ((backTo pos<|starEach es X.env).any (·.1)=false) au_0) :
  PE X (.Call (.Name x p) (e::es) [] pos) (A5 Cc sp [] E t):=by
 obtain⟨f,y,F,M,u⟩:=C.ex;exact Zrk M F l r n u .nil hx v h s g
end
abbrev PTF:=Γ->Str->(Str->Prop)->XR->Prop
section
variable {K:Yc}{mg:Yg}{E:L2.St->XK}{t:ExcR.TF}{p:PTF}{te:TE}{a:PTE}
def S8(K:Yc)(mg:Yg)(E:L2.St->XK)(t:ExcR.TF)(p:PTF):Prop:=∀(n:Hp) (B:Addr->Prop) (H:Hp) (h:L2.St) (l:Γ) (f:Str) (R:Str->Prop) (X:XR) (Q:Str->Hp->Prop),Xt K n B H h l->p l f R X->
 (∀x g,R x->Same H g->Q x g)->(∀c g,X c->Same H g->XE mg (E h) c g)->t h H f Q
noncomputable def Zgm:PTF:=λ_ f R _=>f.length<=sizeLine/\R f
def NW:S8 K mg E ExcR.Zac Zgm:=λo B H l n f R X Q g h q _=>⟨h.1,q _ H h.2 (Same.refl _)⟩
noncomputable def Zqh(x:Str)(p:PTF):PTF:=λg f R X=>(f++x).length<=sizeLine/\p g (f++x) R X
def PQ(h:S8 K mg E t p):S8 K mg E (ExcR.GN x t) (Zqh x p):=λs B H l n r R X Q f g q o=>⟨g.1,h s B H l n _ R X Q f g.2 q o⟩
noncomputable def Ze2(a:PTE)(p:PTF):PTF:=λg f R X=>a g (λs=>match s.d with
 | .int i=>i.natAbs.log2<1920/\(f++(Str.ofString<|toString i)).length<=sizeLine/\p g (f++Str.ofString (toString i)) R X
 | .str x=>x.length<=sizeLine/\(f++x).length<=sizeLine/\p g (f++x) R X
 |_=>False) X
def NY(N:Xp K mg E te a)(h:S8 K mg E t p):S8 K mg E (ExcR.L5 te t) (Ze2 a p):=λC B H w y L R X Q o M q z=>by
 refine N C B H w y _ X _ o M (λs v G g r J=>?_) z;have f:=o.grow r;have u:=J.rp f.same;split at g
 ·rename_i i ei;rw[ei]at u;exact .inl ⟨i,u.int_inv,g.1,g.2.1,h C B G w y _ R X Q f g.2.2 (λx n hx l=>q x n hx (r.trans l)) λc n A l=>z c n A (r.trans l)⟩
 ·rename_i x T;rw[T]at u;exact .inr ⟨x,u.str_inv,g.1,g.2.1,h C B G w y _ R X Q f g.2.2 (λx n hx l=>q x n hx (r.trans l)) λc n A l=>z c n A (r.trans l)⟩
 ·grind
noncomputable def pF(p:PTF):PTE:=λf R X=>p f Str.empty (λx=>R (.sh<|.str x)) X
def NP(h:S8 K mg E t p):Xp K mg E (ExcR.tF t) (pF p):=λs B H g l R X Q f o q n=>
 h s B H g l _ _ X _ f o (λx u hx r=>q _ _ u hx r (.str x)) n
end
open M
noncomputable abbrev plD(f:Yd):D:=.lst (f.map prD)
noncomputable abbrev dD(q:Str×Ye):D:=.tup (.str q.1::q.2.map D.int)
noncomputable abbrev vF:Yl:=["book","fields","wished"]
noncomputable abbrev vO(C x b1 b2 g:Addr)(bk:List (Str×Ye))(fs f:List (Yd)):O:=.ins x C vF [(b1,bk.map dD),(b2,fs.map plD),(g,f.map plD)]
noncomputable abbrev PD(C:Addr)(bk:List (Str×Ye))(fs f:List (Yd)):D:=.ins C vF [.lst (bk.map dD),.lst (fs.map plD),.lst (f.map plD)]
def F3{g:Type}(f:g->D)(xs:List g)(x:g):atI ((xs++[x]).map f) (-1)=some (f x):=by
 refine Tp ?_;unfold atI ixN;rw[WM (by lia),WO (by grind)];show(xs++[x])[_]?=some x;have e:((-1:Int)+((xs++[x]).length:Int)).toNat=xs.length:=by grind
 rw[e,Qq (WQ _),JX];rfl
def Kn(e:Option Str)(X:Str->Prop)(R:Prop):Prop:=match e with|some c=>X c|none=>R
noncomputable def SO(h:Int):Option Str:=if 1<=h/\h<=10 then none else some "BadHolder"
noncomputable def Nm:Yd->Option Str
 |[]=>none
 |q::r=>if ¬(1<=q.1/\q.1<=10)then some "BadHolder" else if ¬(1<=q.2/\q.2<=1000)then some "BadWidth" else Nm r
noncomputable def Sr(ps:Yd):Option Str:=if 40<ps.length then some "TooManyStrips" else Nm ps
theorem IQ:∀{ps:Yd},Field ps->Nm ps=none
 |[],_=>rfl
 |q::r,h=>by
  obtain⟨n,l,g,f⟩:=h q Qy;unfold Nm;rw[WM (λz=>z ⟨n,l⟩),WM (λz=>z ⟨g,f⟩)];exact IQ λx hx=>h x (Qf _ hx)
def Zfx(h:Field ps)(f:ps.length<=40):Sr ps=none:=by
 unfold Sr;rw[WM (by lia)];exact IQ h
noncomputable def Fp(ps:Yd)(p:Int):Option Str:=if p<1\/(ps.length:Int)<p then some "NoStrip" else none
noncomputable def X1(ps:Yd)(p:Int):Int×Int:=ps.getD (p-1).toNat (0,0)
noncomputable def KD(ps:Yd)(p h:Int):Option Str:=if p<1\/(ps.length:Int)<p then some "NoStrip" else if ¬(1<=h/\h<=10)then some "BadHolder" else if (X1 ps p).1=h then some "OwnStrip" else none
noncomputable def TZ(ps:Yd)(p h:Int):Yd:=ps.set (p-1).toNat (h,(X1 ps p).2)
def MS{ps:Yd}{p:Int}{x}(g:1<=p)(f:p<=ps.length):cutD (ps.map prD) none (some (p-1))++[prD x]++cutD (ps.map prD) (some p) none=(ps.set (p-1).toNat x).map prD:=by
 rw[TN,TN,B3 ps (by lia),Se ps (by lia)];have e:p.toNat=(p-1).toNat+1:=by lia
 rw[e,List.set_eq_take_append_cons_drop,WO (by lia),WZ,Qb,Jq];rfl
def TY{p}(g:1<=p)(f:p<=ps.length):atI (ps.map prD) (p-1)=some (prD<|X1 ps p):=by
 rw[Pr (by lia) (by lia)];unfold X1;rw[WR,WH (by lia)];rfl
def Zis(ps:Yd)(p h:Int):(TZ ps p h).length=ps.length:=QI ..
def Zh5(f:Field ps)(e:KD ps p h=none):Field (TZ ps p h):=by
 unfold KD at e;split at e
 ·cases e
 ·split at e
  ·cases e
  ·rename_i r o;have g:(p-1).toNat<ps.length:=by lia
   intro q hq;rcases List.mem_or_eq_of_mem_set hq with hq|rfl
   ·exact f q hq
   ·have:X1 ps p∈ps:=by
     unfold X1;rw[WR,WH g]
     grind
    obtain⟨_,_,n,l⟩:=f _ this;lia
def Zop(q:Int×Int)(r:Yd):Nm (q::r)=if ¬(1<=q.1/\q.1<=10)then some ("BadHolder" : Str)else if ¬(1<=q.2/\q.2<=1000)then some ("BadWidth" : Str)else Nm r:=rfl
def Ih(q:Str×Ye):imm (dD q)=true:=by
 unfold dD imm KM;rw[Sh];rfl
theorem Il:∀(bk:List (Str×Ye)),KM (bk.map dD)=true
 |[]=>rfl
 |q::r=>by
  rw[Qb];unfold KM;rw[Ih,Il r];rfl
def FV(q:Str×Ye):arg (dD q)=.sh (dD q):=by
 unfold arg;rw[Ih]
def Zrm:PN N (dD q::ds)=some (.sh<|dD q)::(ds.map (λd=>some (arg d))++List.replicate (N.length-(ds.length+1)) none):=by
 unfold PN;rw[Qb,FV];rfl
def EJ{q:Str×Ye}{i}(h:i<q.2.length):atI (.str q.1::q.2.map D.int) (1+(i:Int))=some (.int q.2[i]):=Th (by grind)
noncomputable def Ku(ps:Yd)(p w:Int):Option Str:=if p<1\/(ps.length:Int)<p then some "NoStrip" else if w<1\/(X1 ps p).2<=w then some "BadPart" else if 40<=ps.length then some "TooManyStrips" else none
noncomputable def PR(ps:Yd)(p w:Int):Yd:=ps.take (p-1).toNat++[((X1 ps p).1,w),((X1 ps p).1,(X1 ps p).2-w)]++ps.drop p.toNat
noncomputable def Bx(ps:Yd)(p w:Int):List Bool:=if p<1\/(ps.length:Int)<p then[true,true,false,false]else if w<1\/(X1 ps p).2<=w then[true,false,true,false]else if 40<=ps.length then[true,false,false,true]else[]
def Rf(ps:Yd)(p w:Int):(Ku ps p w=some ("NoStrip" : Str)/\Bx ps p w=[true,true,false,false])\/(Ku ps p w=some ("BadPart" : Str)/\Bx ps p w=[true,false,true,false])\/(Ku ps p w=some ("TooManyStrips" : Str)/\Bx ps p w=[true,false,false,true])\/
  (Ku ps p w=none/\Bx ps p w=[]/\1<=p/\p<=ps.length/\1<=w/\w<(X1 ps p).2/\ps.length<40):=by
 unfold Ku Bx;by_cases c:p<1\/(ps.length:Int)<p
 ·grind
 ·grind
def Bq{p}(h:1<=p)(g:p<=ps.length):X1 ps p∈ps:=by
 have f:(p-1).toNat<ps.length:=by lia
 unfold X1;rw[WR,WH f]
 grind
def Ip{p w}(f:1<=p):cutD (ps.map prD) none (some (p-1))++[prD ((X1 ps p).1,w),prD ((X1 ps p).1,(X1 ps p).2-w)]++cutD (ps.map prD) (some p) none=(PR ps p w).map prD:=by
 rw[TN,TN,B3 ps (by lia),Se ps (by lia)];unfold PR
 grind
def Zct{p w}(g:1<=p)(f:p<=ps.length):(PR ps p w).length=ps.length+1:=by
 unfold PR
 grind
def Zo5{p w:Int}(f:Field ps)(h:1<=p)(g:p<=ps.length)(n:1<=w)(l:w<(X1 ps p).2):Field (PR ps p w):=by
 obtain⟨a1,a2,a3,a4⟩:=f _ (Bq h g);intro q hq;rcases Qc.mp hq with hq|hq
 ·rcases Qc.mp hq with hq|hq
  ·exact f q (Va hq)
  ·grind
 ·exact f q (JE hq)
section
variable {K:Yc}{mg:Yg}{E:L2.St->XK}
noncomputable def LP(i:Nat)(a:PTE):PTS:=λR f=>match f[i]? with
 |some (some<|.own<|.lst h)=>a f (λs=>match s.shd with
  |some (.lst g)=>h.length+g.length<=10000000/\R.nx (f.set i<|some<|.own (h++g))
  |_=>False) (R.ex f)
 |_=>False
def Zd0(i:Nat){te a}(U:Xp K mg E te a):X0 K mg E (Fg<|tBM K "list" IA (K5 i)<|Kv te KP) (LP i a):=by
 intro H0 B H w x R D hB f h e;unfold LP at h;split at h
 ·rename_i ds G;obtain⟨v,C,b,rfl,T,us,J,A⟩:=f.slot i _ G;refine⟨_,C,.inl ⟨rfl,us,SqL.of J⟩,U H0 B H w x _ _ _ f h (λs u H1 p n N=>?_) λc M Q L=>e.ex w x c M Q (f.grow L) (Fr.grow L)⟩;have g:=f.grow n;split at p
  ·rename_i es r;obtain⟨a',y,rfl,o,l⟩:=Rp.lst_inv (N.shd g.same f.zm n r);refine⟨b,a',us,y,rfl,rfl,n _ _ J,off_sub _ _ o,by rw[A.len,l.len];exact WV p.1 (by decide),?_⟩;obtain⟨r,f2⟩:=g.mutate (es:=.lst (ds++es)) (us:=.lst (us++y)) G C trivial λF M SF Y=>⟨_,Y,Rps.mono SF (Rps.append (Rps.mono (X2 n λ_ _ _ z=>z) A) l)⟩;exact e.nx _ _ _ p.2 r ((Fr.grow n).trans f2)
  ·grind
 ·exact h.elim
end
theorem E9:∀{a b:Ye},sl a b->¬sl b a
 |[],_,h,_|_::_,[],h,_=>by cases h
 |a::r,b::t,h,k=>by
  rcases h with h|⟨e,h⟩
  ·rcases k with k|⟨e,_⟩<;>lia
  ·rcases k with k|⟨_,k⟩
   ·lia
   ·exact E9 h k
def KU.uniq (h:KU f c g o) (k:KU f c g p):o=p:=by
 have e:oc c p=oc c o:=by
  have n:=h.le p k.perm k.keeps;have l:=k.le o h.perm h.keeps;lia
 rcases h.first p k.perm k.keeps e with z|z
 ·lia
 ·rcases k.first o h.perm h.keeps e.symm with y|y
  ·grind
  ·exact absurd y (E9 z)
def run_mem:x∈Km 1 n↔1<=x/\x<=n:=by
 unfold Km;rw[Qi];constructor
 ·grind
 ·rintro⟨g,f⟩;exact⟨(x-1).toNat,Jg.mpr (by lia),by lia⟩
noncomputable def Kj(f:Yd)(a b:Int):Option Str:=if ¬(1<=a/\a<=10)then some "BadHolder" else if ¬(1<=b/\b<=10)then some "BadHolder" else if a=b then some "LikeHolders" else if (a,b)∈f then some "WishStands" else if 20<=f.length then some "TooManyWishes" else none
noncomputable def Kr(f:Yd)(a b:Int):Option Str:=if (a,b)∈f then none else some "NoWish"
noncomputable def SU(f:Yd)(a b:Int):Yd:=f.filter λq=>!decide (q=(a,b))
noncomputable def Ki(ps:Yd)(p:Int):Option Str:=if p<1\/(ps.length:Int)<=p then some "NoStrip" else if ¬(X1 ps p).1=(X1 ps (p+1)).1 then some "UnlikeHolders" else if 1000<(X1 ps p).2+(X1 ps (p+1)).2 then some "TooWide" else none
noncomputable def PJ(ps:Yd)(p:Int):Yd:=ps.take (p-1).toNat++[((X1 ps p).1,(X1 ps p).2+(X1 ps (p+1)).2)]++ps.drop (p+1).toNat
def Ll{p}(f:1<=p):cutD (ps.map prD) none (some (p-1))++[prD ((X1 ps p).1,(X1 ps p).2+(X1 ps (p+1)).2)]++cutD (ps.map prD) (some (p+1)) none=(PJ ps p).map prD:=by
 rw[TN,TN,B3 ps (by lia),Se ps (by lia)];unfold PJ
 grind
def Zbh{p}(g:1<=p)(f:p<ps.length):(PJ ps p).length+1=ps.length:=by
 unfold PJ
 grind
def Zlo(f:Field ps)(e:Ki ps p=none):Field (PJ ps p):=by
 unfold Ki at e;split at e
 ·grind
 split at e
 ·cases e
 split at e
 ·cases e
 obtain⟨a1,a2,a3,a4⟩:=f _ (Bq (p:=p) (by lia)<|by lia);obtain⟨b1,l,h,g⟩:=f _ (Bq (p:=p+1) (by lia)<|by lia);intro q hq;rcases Qc.mp hq with hq|hq
 ·rcases Qc.mp hq with hq|hq
  ·exact f q (Va hq)
  ·grind
 ·exact f q (JE hq)
def Zqu(h:Tf f)(e:Kj f a b=none):Tf (f++[(a,b)]):=by
 unfold Kj at e;split at e
 ·cases e
 split at e
 ·cases e
 split at e
 ·cases e
 split at e
 ·cases e
 split at e
 ·cases e
 rename_i v u s n r;obtain⟨p,l,o⟩:=h;refine⟨by rw[WS,Q6];lia,?_,λq hq=>?_⟩
 ·rw[Vk];exact⟨l,by simp,λx hx y g z=>by rw[WJ]at g;subst g;exact n (z▸hx)⟩
 ·grind
def Zrt(h:Tf f):Tf (SU f a b):=
 ⟨WV (QA _ _) h.1,h.2.1.filter _,λq hq=>h.2.2 q (Qv.mp hq).1⟩
def Zrp:Tf []:=by trivial
noncomputable def Zpz(m:Ye)(k:Int):Int:=1+(k*m.getD 1 0+m.getD 2 0) % 10
noncomputable def Sv(ps:Yd)(os:Ye):Option Str:=if os.isPerm (Xy ps)=true then none else some "BadOrder"
def Hn{os}(h:os.Perm (Xy ps)):Sv ps os=none:=by
 unfold Sv;rw[WO (List.isPerm_iff.mpr h)]
def Zr2{os ns}(f:ns.Perm os)(g:ns.Pairwise (·<=·)):(ns=Xy ps)↔os.isPerm (Xy ps)=true:=by
 rw[List.isPerm_iff];exact⟨λz=>z▸f.symm,λz=>HU z f g⟩
noncomputable def B0(ps:Yd)(p:Int):List Bool:=if p<1\/(ps.length:Int)<=p then[true,true,false,false]else if ¬(X1 ps p).1=(X1 ps (p+1)).1 then[true,false,true,false]else if 1000<(X1 ps p).2+(X1 ps (p+1)).2 then[true,false,false,true]else[]
def Ob(ps:Yd)(p:Int):(Ki ps p=some ("NoStrip" : Str)/\B0 ps p=[true,true,false,false])\/(Ki ps p=some ("UnlikeHolders" : Str)/\B0 ps p=[true,false,true,false])\/(Ki ps p=some ("TooWide" : Str)/\B0 ps p=[true,false,false,true])\/
  (Ki ps p=none/\B0 ps p=[]/\1<=p/\p<ps.length):=by
 unfold Ki B0;by_cases c:p<1\/(ps.length:Int)<=p
 ·grind
 ·grind
def Zmq{p}(g:1<=p)(f:p<ps.length):atI (ps.map prD) p=some (prD<|X1 ps (p+1)):=by
 have:=TY (ps:=ps) (p:=p+1) (by lia) (by lia)
 grind
noncomputable abbrev d3(k:Str)(a b:Int):D:=.tup [.str k,.int a,.int b]
end Pu
namespace M
open L2 Own Pu
theorem Znv(c:Int->Int->Int):∀o,oc c o.reverse=oc (λx y=>c y x) o
 |[]=>rfl
 |a::r=>by
  rw[List.reverse_cons,FG,Znv c r,SY (List.reverse_perm r)];simp only[oc];lia
theorem R6(ps:Yd):∀o,oc (λx y=>pcM ps x y ps.length) o=Te ps ps.length o
 |[]=>rfl
 |a::r=>by
  unfold oc Te;rw[R6 ps r]
def Za6(g:Field ps)(h:o.Perm (Xy ps)):oc (λx y=>pcM ps x y ps.length) o=Tg ps o ps.length:=by
 rw[R6];refine Rj (h.nodup_iff.mpr ((Nc ps).imp (λh=>Je h))) ps.length λj f=>?_;rw[WR,WH f];exact h.mem_iff.mpr ((Fj g).mpr (Qi.mpr ⟨_,Qg f,rfl⟩))
def RQ{o:Ye}(g:Field ps)(h:o.Perm (Xy ps)):∀p∈ps,p.1∈o:=λp f=>h.mem_iff.mpr ((Fj g).mpr (Qi.mpr ⟨p,f,rfl⟩))
end M
namespace Pu
open L2 Own
section
variable {K:Yc}{mg:Yg}{E:L2.St->XK}
noncomputable def II(K:Yc):R2:=λx y H Q=>∃(p q:Addr) (xs f:List V),x=.ref p/\y=.ref q/\SqT K H p xs/\SqT K H q f/\xs.all KJ=true/\f.all KJ=true/\Q (.bl (!eqL xs f)) H
def Oy(w:X.A.units<cLine)(B:autoParam (X.K=K) au_0):OpR X (compareOp .NotEq) (II K):=by
 subst B;intro pins s L H x y v u Q I o n h;obtain⟨p,q,xs,f,rfl,rfl,z,hq,f1,J,k⟩:=h;obtain rfl:=o;obtain rfl:=n;obtain⟨N,l,r,_⟩:=I.tuple z;obtain⟨M,g,p2,_⟩:=I.tuple hq;have U:=l.length;have T:=g.length;refine SeqAt.RcNeAt.tuples r p2 w (λj G C=>A7 l g f1 J j G C) _ _ _ _ ⟨.bl (!eqL xs f),H,I,?_,k⟩;show _=Value.bool (!eqL xs f);unfold eqL;by_cases e:xs.length=f.length
 ·grind
 ·grind
def CH:S->S->(S->Prop)->Prop:=λx y R=>∃xs f:Ye,x.d=.tup (xs.map D.int)/\y.d=.tup (f.map D.int)/\R (.sh<|.bl (!decide (xs=f)))
def My{a b}(J:Xp K mg E z a)(G:Xp K mg E w b):Xp K mg E (tOp (II K) z w) (p2 a b CH):=by
 refine PB J G λH0 H T Z x y v u R Q g s1 hm s r h q=>?_;obtain⟨xs,U,N,M,L⟩:=h;have n:=s.rp g;have l:=r.rp g;rw[N]at n;rw[M]at l;obtain⟨p,us,rfl,o,B⟩:=Rp.tup_inv n;obtain⟨C,Y,rfl,f,A⟩:=Rp.tup_inv l;rw[B.ints]at o;rw[A.ints]at f;refine⟨p,C,_,_,rfl,rfl,SqT.of o,SqT.of f,Nx _,Nx _,?_⟩;rw[Dn];exact q _ _ T L (Same.refl _) (.bl _)
def HN:List S->(S->Prop)->Prop
 |[s],R=>(match s.d with | .int i=>R (.sh<|.int i) | .bl k=>R (.sh<|.int (if k then 1 else 0))|_=>False)
 |_,_=>False
def Zd7(u:XC K mg E n r):Xp K mg E (tCB (λxs H Q=>(∃i,xs=[.int i]/\Q (.int i) H)\/∃k,xs=[.bl k]/\Q (.int (if k then 1 else 0)) H) n) (pCB HN r):=by
 refine KZ u λA H g Z x w R Q p y z l h q=>?_;unfold HN at h;split at h
 ·rename_i s;obtain⟨v,rfl,o⟩:=l.one_inv;have f:=o.rp p;split at h
  ·rename_i i e;rw[e]at f;exact .inl ⟨i,by rw[f.int_inv],q _ _ g h (Same.refl _) (.int _)⟩
  ·rename_i k e;rw[e]at f;exact .inr ⟨k,by rw[f.bl_inv],q _ _ g h (Same.refl _) (.int _)⟩
  ·grind
 ·exact h.elim
def Zql(p q:Int×Int):decide ([p.1,p.2]=[q.1,q.2])=decide (p=q):=by grind
def Zi0{R}(h:R (.sh<|.bl (!decide (p=q)))):CH (.sh<|prD p) (.sh<|prD q) R:=by
 refine⟨[p.1,p.2],[q.1,q.2],rfl,rfl,?_⟩;have e:decide ([p.1,p.2]=[q.1,q.2])=decide (p=q):=by grind
 rw[e];omega
end
structure DI (K:Yc) (x:Str) (st:Stmt):Prop where
 ex:∃f fd,PySem.W.nsIn K mainGlobals x=some (some<|.ref f)/\Fun K x x st f fd
structure MI (K:Yc) (C:Addr) (m q:Str) (st:Stmt):Prop where
 ex:∃f fd,PySem.W.findIn K (.ref C) m=some (some<|.ref f)/\PySem.W.isFn K (.ref f)=true/\Fun K m q st f fd
section
variable {K:Yc}{h:Heap}{mg:Yg}
def di{st f oc od r n kV o p g ct}(a:PySem.W.nsIn K mainGlobals x=some (some<|.ref f))(l:K.lookup f=some ⟨oc,od,.func (PySem.W.fnOf x x (Px st) (XU st) (Xq st) .none kV o p r g ct),n⟩)(c:PySem.W.codeIn K g x=true)(k:PySem.W.keepIn K (.ref f)=true):DI K x st:=⟨f,_,a,Ae l c k⟩
def mi{st f oc od r n kV o p g ct}(a:PySem.W.findIn K (.ref C) m=some (some<|.ref f))(i:PySem.W.isFn K (.ref f)=true)(l:K.lookup f=some ⟨oc,od,.func (PySem.W.fnOf m q (Px st) (XU st) (Xq st) .none kV o p r g ct),n⟩)(c:PySem.W.codeIn K g q=true)(k:PySem.W.keepIn K (.ref f)=true):MI K C m q st:=⟨f,_,a,i,Ae l c k⟩
def DI.d {st ps} (D:DI K x st) (X:K.In h) (o:h.Ns mainGlobals mg)
  (b:∀kV f l n g ct us,us.length=ps.length->bindArgs (PySem.W.fnOf x x (Px st) (XU st) (Xq st) .none kV f l n g ct) ⟨us,[]⟩=pure (ps.zip us)):Def K mg x st ps:=
 let ⟨_,_,a,F⟩:=D.ex
 ⟨_,_,F,QE X o a,F.binds b⟩
def MI.d {m q st ps} (D:MI K C m q st) (e:o=C)
  (b:∀kV f l n g ct us,us.length=ps.length->bindArgs (PySem.W.fnOf m q (Px st) (XU st) (Xq st) .none kV f l n g ct) ⟨us,[]⟩=pure (ps.zip us)):XD K (XB K o m) m q st ps:=
 let ⟨_,_,a,i,F⟩:=D.ex
 ⟨_,_,F,by rw[e];exact⟨a,i,F.kp⟩,F.binds b⟩
def MI.i {q st ps} (D:MI K C "__init__" q st) (e:p=C) (mk:PySem.W.makesIn K C=true) (n:PySem.W.keepIn K (.ref C)=true)
  (b:∀kV f l o g ct us,us.length=ps.length->bindArgs (PySem.W.fnOf "__init__" q (Px st) (XU st) (Xq st) .none kV f l o g ct) ⟨us,[]⟩=pure (ps.zip us)):XD K (Mk K p) "__init__" q st ps:=
 let ⟨_,_,a,i,F⟩:=D.ex
 ⟨_,_,F,by rw[e];exact⟨mk,a,i,n⟩,F.binds b⟩
end
def fs{N P f}(r:autoParam (f.kind=.function) au_0)(p:autoParam (f.isCoroutine=false) au_0)(o:autoParam (f.isGenerator=false) au_0)(n:autoParam (N.Nodup) au_5)(l:autoParam (N.take P.length=P) au_0)(h:autoParam (∀x∈P,f.names.lookup x=some .local\/f.names.lookup x=some .cell) au_5)(g:autoParam (∀y∈f.names,y.2≠.free) au_5):Xr N P f:=⟨r,p,o,n,l,h,g⟩
def pz{pos x e te f}(i:Nat)(n:X.N.Nodup)(l:PE X e te)(g:autoParam (X.N[i]?=some x) au_0)(hx:autoParam (Loc X.env.scope x) au_6)(hs:autoParam (swapsWith e (some<|.Name x f) pos.line X.env=pure false) au_0)(h:autoParam (X.fn x=true\/X.env.scope.names.lookup x=some .local) au_2) :
  PS X (.Assign [.Name x f] e pos) (NG te<|Sj i):=Zfp n g hx l hs h
section
variable {K:Yc}{mg:Yg}{E:L2.St->XK}{H0 H H1 H':Hp}{B Z Z':Addr->Prop}{σ:L2.St}{γ:Γ}
def Xt.named (env:Xt K H0 B H σ γ) (f:γ[i]?=some (some<|.own<|.lst ds)) (g:σ[i]?=some (some<|.ref a)):Xt K H0 B H σ (γ.set i<|some<|.own<|.lsA a ds)/\Fr B H σ γ H σ (γ.set i<|some<|.own<|.lsA a ds):=by
 obtain⟨v,l,b,rfl,u,p,n,r⟩:=env.slot i _ f;rw[g]at l;cases l
 have s:∀b,zof B (γ.set i<|some<|.own<|.lsA a ds) σ b->zof B γ σ b:=λb z=>by
  rcases z with z|⟨j,fs,C,A,x,o⟩
  ·exact .inl z
  ·rcases Ka A with⟨w,q,_⟩|⟨_,e⟩
   ·subst w;cases q
    exact .inr ⟨j,_,a,f,g,o⟩
   ·exact .inr ⟨j,fs,C,e,x,o⟩
 exact env.change f g (λ_ _ h _=>h) (λb h=>by rw[show b=a from h,n];trivial) (λb h=>.inl h) ⟨rfl,p,n,Rps.mono (X2 (Same.refl _) λb _ _ z y=>z (s b y)) r⟩
noncomputable def pNm(i:Nat)(p:PTS):PTS:=λR γ=>match γ[i]? with
 |some (some<|.own<|.lst f)=>∀a,p R (γ.set i<|some<|.own<|.lsA a f)
 |_=>p R γ
def Zim(i:Nat){t p}(g:X0 K mg E t p):X0 K mg E t (pNm i p):=by
 intro H0 B H σ γ R D n f h e;unfold pNm at h;split at h
 ·rename_i y l;obtain⟨v,o,b,rfl,r,u,x,w⟩:=f.slot i _ l;obtain⟨s,f1⟩:=f.named l o;exact g H0 B H σ _ R D n s (h b) (e.from f1)
 ·exact g H0 B H σ γ R D n f h e
def Xt.change2 {o1 p Y g} (E:Xt K H0 B H σ γ) (hij:i≠j) (hi:γ[i]?=some (some<|.own o1)) (hj:γ[j]?=some (some<|.own Y)) (A:σ[i]?=some (some<|.ref a1)) (r:σ[j]?=some (some<|.ref a2))
  (hH:∀b x,H b=some x->¬o1.adr a1 b->¬Y.adr a2 b->H' b=some x) (hm:∀b,o1.adr a1 b\/Y.adr a2 b->Mut (H' b)) (n1:∀b,p.adr a1 b->o1.adr a1 b\/H b=none) (n2:∀b,g.adr a2 b->Y.adr a2 b\/H b=none) (ap:∀b,p.adr a1 b->¬g.adr a2 b)
  (r1:OR K (Pu.off (zof B ((γ.set i<|some<|.own p).set j (some<|.own g)) σ) H') H' a1 p) (r2:OR K (Pu.off (zof B ((γ.set i<|some<|.own p).set j (some<|.own g)) σ) H') H' a2 g) :
  Xt K H0 B H' σ ((γ.set i<|some<|.own p).set j (some<|.own g))/\Fr B H σ γ H' σ ((γ.set i<|some<|.own p).set j (some<|.own g)):=by
 generalize eg:(γ.set i<|some<|S.own p).set j (some<|.own g)=γ2 at r1 r2 ⊢
 have get:∀k s,γ2[k]?=some (some s)->(k=j/\s=.own g)\/(k=i/\k≠j/\s=.own p)\/(k≠i/\k≠j/\γ[k]?=some (some s)):=λk s h=>by
  rw[←eg]at h;rcases Ka h with⟨G,C,_⟩|⟨G,C⟩
  ·exact .inl ⟨G,(WY C).symm⟩
  ·rcases Ka C with⟨f1,f2,_⟩|⟨f1,f2⟩
   ·exact .inr (.inl ⟨f1,G,(WY f2).symm⟩)
   ·exact .inr (.inr ⟨f1,G,f2⟩)
 obtain⟨v1,T,x1,rfl,h1,k1⟩:=E.slot i _ hi;rw[A]at T;cases T
 obtain⟨v2,U,x2,rfl,h2,k2⟩:=E.slot j _ hj;rw[r]at U;cases U
 have za:∀b,o1.adr a1 b\/Y.adr a2 b->zof B γ σ b:=λb M=>M.elim (λM=>.inr ⟨i,o1,a1,hi,A,M⟩) λM=>.inr ⟨j,Y,a2,hj,r,M⟩
 have hz:∀b x,H b=some x->zof B γ2 σ b->zof B γ σ b:=λb x hx z=>by
  rcases z with z|⟨k,fs,a',G,C,f⟩
  ·exact .inl z
  ·rcases get k _ G with⟨J,N⟩|⟨J,_,N⟩|⟨_,_,e⟩
   ·subst J;cases N;rw[r]at C;cases C;rcases n2 b f with w|w
    ·exact za b (.inr w)
    ·rw[w]at hx;cases hx
   ·subst J;cases N;rw[A]at C;cases C;rcases n1 b f with w|w
    ·exact za b (.inl w)
    ·rw[w]at hx;cases hx
   ·exact .inr ⟨k,fs,a',e,C,f⟩
 have hH':∀b x,H b=some x->¬(o1.adr a1 b\/Y.adr a2 b)->H' b=some x:=λb x hx n=>hH b x hx (λz=>n (.inl z)) λz=>n (.inr z)
 have S1:=λb x h=>by
  obtain⟨T,U⟩:=Td h;exact XX (hH' b x T λk=>U (za b k)) λz=>U (hz b x T z)
 have old:∀(k:Nat) L a b,γ[k]?=some (some<|.own L)->σ[k]?=some (some<|.ref a)->L.adr a b->∃o,H b=some o:=λk L a b G C f=>by
  obtain⟨u,T,a',U,_,q3⟩:=E.slot k _ G;rw[C]at T;cases T
  cases U
  exact TX (q3.mut b f)
 have apart1:∀k L a b,k≠i->γ[k]?=some (some<|.own L)->σ[k]?=some (some<|.ref a)->L.adr a b->¬p.adr a1 b:=λk L a b nk G C f w=>by
  rcases n1 b w with w|w
  ·exact nk (E.own k i a a1 L o1 b G hi C A f w)
  ·obtain⟨u,hu⟩:=old k L a b G C f;rw[w]at hu;cases hu
 have apart2:∀k L a b,k≠j->γ[k]?=some (some<|.own L)->σ[k]?=some (some<|.ref a)->L.adr a b->¬g.adr a2 b:=λk L a b nk G C f w=>by
  rcases n2 b w with w|w
  ·exact nk (E.own k j a a2 L Y b G hj C r f w)
  ·obtain⟨u,hu⟩:=old k L a b G C f;rw[w]at hu;cases hu
 refine⟨⟨λb x h=>?_,by rw[←eg,QI,QI];exact E.len,λb M=>?_,λk l x x' fs fs' b G C f Q e5 e6=>?_,λk s h=>?_⟩,λb x h z=>⟨?_,λy=>z (hz b x h y)⟩⟩
 ·exact hH' b x (E.same b x h) λk=>by
   rcases k with k|k
   ·rw[h1 b k]at h;cases h
   ·rw[h2 b k]at h;cases h
 ·by_cases k:o1.adr a1 b\/Y.adr a2 b
  ·exact hm b k
  ·have:=E.bm b M
   obtain⟨x,hx⟩:=TX this;rwa[hH' b x hx k,←hx]
 ·rcases get k _ G with⟨J,N⟩|⟨J,nk,N⟩|⟨nk,nk',e⟩<;>rcases get l _ C with⟨el,et⟩|⟨el,nl,et⟩|⟨nl,nl',e'⟩
  ·rw[J,el]
  ·subst J el;cases N;cases et;rw[r]at f;cases f;rw[A]at Q;cases Q;exact absurd e5 (ap b e6)
  ·subst J;cases N;rw[r]at f;cases f;exact absurd e5 (apart2 l fs' x' b nl' e' Q e6)
  ·subst J el;cases N;cases et;rw[A]at f;cases f;rw[r]at Q;cases Q;exact absurd e6 (ap b e5)
  ·rw[J,el]
  ·subst J;cases N;rw[A]at f;cases f;exact absurd e5 (apart1 l fs' x' b nl e' Q e6)
  ·subst el;cases et;rw[r]at Q;cases Q;exact absurd e6 (apart2 k fs x b nk' e f e5)
  ·subst el;cases et;rw[A]at Q;cases Q;exact absurd e6 (apart1 k fs x b nk e f e5)
  ·exact E.own k l x x' fs fs' b e e' f Q e5 e6
 ·rcases get k s h with⟨J,N⟩|⟨J,_,N⟩|⟨nk,nk',e⟩
  ·subst J N;exact⟨_,r,a2,rfl,λb M=>(n2 b M).elim (h2 b) λw=>E.same.free w,r2⟩
  ·subst J N;exact⟨_,A,a1,rfl,λb M=>(n1 b M).elim (h1 b) λw=>E.same.free w,r1⟩
  ·obtain⟨v,T,U⟩:=E.slot k s e;refine⟨v,T,?_⟩;cases s with
   |sh d=>exact Rp.mono S1 U
   |own fs=>
    obtain⟨x,rfl,f,Q⟩:=U;exact⟨x,rfl,f,Q.mono S1 λb M y C=>hH b y C (λw=>nk (E.own k i x a1 fs o1 b e hi T A M w)) λw=>nk' (E.own k j x a2 fs Y b e hj T r M w)⟩
   |_=>exact U
 ·exact hH' b x h λk=>z (za b k)
abbrev Pw2:=O->O->List S->(O->O->D->Prop)->(O->O->Str->Prop)->Prop
def two(o1 f:O)(a1 a2:Addr):Addr->Prop:=λb=>o1.adr a1 b\/f.adr a2 b
structure Aj (K:Yc) (B:Addr->Prop) (H:Hp) (a1 a2:Addr) (o1 o2 o1' o2':O) (H':Hp):Prop where
 same:Same (off (two o1 o2 a1 a2) H) H'
 old1:∀b,o1.adr a1 b->o1'.adr a1 b
 old2:∀b,o2.adr a2 b->o2'.adr a2 b
 new1:∀b,o1'.adr a1 b->o1.adr a1 b\/H b=none
 new2:∀b,o2'.adr a2 b->o2.adr a2 b\/H b=none
 apart:∀b,o1'.adr a1 b->¬o2'.adr a2 b
 at1:OR K (off (λb=>B b\/two o1' o2' a1 a2 b) H') H' a1 o1'
 at2:OR K (off (λb=>B b\/two o1' o2' a1 a2 b) H') H' a2 o2'
noncomputable def Ny(mg:Yg)(c:Pw2)(K:Yc):Sp:=λo H Q E=>∃(o1 h:O) (a1 a2:Addr) (l:List S) (n:List V) (B:Addr->Prop) (R:O->O->D->Prop) (X:O->O->Str->Prop),
 o=.ref a1 :: .ref a2::n/\(∀b,B b->Mut (H b)/\¬two o1 h a1 a2 b)/\(∀b,o1.adr a1 b->¬h.adr a2 b)/\OR K (off (λb=>B b\/two o1 h a1 a2 b) H) H a1 o1/\OR K (off (λb=>B b\/two o1 h a1 a2 b) H) H a2 h/\
 TVs K (λb=>B b\/two o1 h a1 a2 b) (off (two o1 h a1 a2) H) H H l n/\(∀s∈l,s.flat)/\c o1 h l R X/\
 (∀g f d v H',R g f d->Aj K B H a1 a2 o1 h g f H'->Rp K (off (λb=>B b\/two g f a1 a2 b) H') d v->Q v H')/\∀g f e H',X g f e->Aj K B H a1 a2 o1 h g f H'->XE mg E e H'
noncomputable def Tn(N:Yl)(o1 g:O)(f:List S):Γ:=some (.own o1)::some (.own g)::(f.map some++List.replicate (N.length-(f.length+2)) none)
def Znr{o1 f a1 a2 n us}(hB:∀b,B b->Mut (H b)/\¬two o1 f a1 a2 b)(ap:∀b,o1.adr a1 b->¬f.adr a2 b)(Q:OR K (off (λb=>B b\/two o1 f a1 a2 b) H) H a1 o1)(M:OR K (off (λb=>B b\/two o1 f a1 a2 b) H) H a2 f)(r:TVs K (λb=>B b\/two o1 f a1 a2 b) (off (two o1 f a1 a2) H) H H n us)(hf:∀s∈n,s.flat)(hn:n.length+2<=N.length) :
  Xt K (off (two o1 f a1 a2) H) B H (start N (.ref a1 :: .ref a2::us)) (Tn N o1 f n):=by
 have get:∀i s,(Tn N o1 f n)[i+2]?=some (some s)->n[i]?=some s:=λi s h=>by
  unfold Tn at h;rw[QG,QG]at h;by_cases T:i<n.length
  ·rw[Qm (by rw[WG];exact T),WT,WH T]at h;rw[WH T];exact Q4 some (WY<|WY h)
  ·rw[Qq (by rw[WG];lia),VF]at h;split at h<;>cases h
 have noown:∀i C,(Tn N o1 f n)[i+2]?≠some (some<|.own C):=λi C h=>hf _ (Qe<|get i _ h)
 have w:(start N (V.ref a1::V.ref a2::us))[0]?=some (some<|.ref a1):=by
  unfold L2.start;rfl
 have u:(start N (V.ref a1::V.ref a2::us))[1]?=some (some<|.ref a2):=by
  unfold L2.start;rfl
 have g0:∀s,(Tn N o1 f n)[0]?=some (some s)->s=.own o1:=λs h=>by
  have h:some (some<|S.own o1)=some (some s):=h;cases h
  rfl
 have L:∀s,(Tn N o1 f n)[1]?=some (some s)->s=.own f:=λs h=>by
  have h:some (some<|S.own f)=some (some s):=h;cases h
  rfl
 have hz:∀b,zof B (Tn N o1 f n) (start N (V.ref a1::V.ref a2::us)) b->B b\/two o1 f a1 a2 b:=λb z=>by
  rcases z with z|⟨i,C,a',l,g,p⟩
  ·exact .inl z
  ·match i,l,g with
   | 0,l,g=>
    rw[w]at g;cases g
    cases g0 _ l
    exact .inr (.inl p)
   | 1,l,g=>
    rw[u]at g;cases g
    cases L _ l
    exact .inr (.inr p)
   |i+2,l,_=>exact absurd l (noown i C)
 have G:∀{o:O} {a:Addr},OR K (off (λb=>B b\/two o1 f a1 a2 b) H) H a o->OR K (off (zof B (Tn N o1 f n)<|start N (V.ref a1::V.ref a2::us)) H) H a o:=λh=>h.mono (X2 (Same.refl _) λb _ _ z y=>z (hz b y)) λ_ _ _ q=>q;refine⟨off_sub,?_,λb h=>(hB b h).1,λi j x x' C J b l g p A h5 h6=>?_,λi s h=>?_⟩
 ·unfold L2.start Tn;simp[r.len]
 ·match i,j,l,g,p,A with
  | 0,0,_,_,_,_=>rfl
  | 1,1,_,_,_,_=>rfl
  | 0,1,l,g,p,A=>
   cases g0 _ l
   cases L _ g
   rw[w]at p;cases p
   rw[u]at A;cases A
   exact absurd h6 (ap b h5)
  | 1,0,l,g,p,A=>
   cases L _ l
   cases g0 _ g
   rw[u]at p;cases p
   rw[w]at A;cases A
   exact absurd h5 (ap b h6)
  |i+2,_,l,_,_,_=>exact absurd l (noown i C)
  | 0,j+2,_,g,_,_=>exact absurd g (noown j J)
  | 1,j+2,_,g,_,_=>exact absurd g (noown j J)
 ·match i,h with
  | 0,h=>
   cases g0 _ h
   refine⟨_,w,a1,rfl,λb U=>?_,G Q⟩;unfold off;rw[WO (.inl U)]
  | 1,h=>
   cases L _ h
   refine⟨_,u,a2,rfl,λb U=>?_,G M⟩;unfold off;rw[WO (.inr U)]
  |i+2,h=>
   have hs:=get i s h;obtain⟨v,hv,Y⟩:=r.get hs;refine⟨v,?_,?_⟩
   ·unfold L2.start;rw[Qm (by rw[WG,Qa,Qa];have:=(Qd.mp hv).1;lia),WT,QG,QG,hv];rfl
   ·have:=hf s (Qe hs)
    cases s with
    |bor d=>exact Y
    |sh d=>exact Rp.mono (X2 (Same.refl _) λb _ _ z y=>z (hz b y)) Y
    |own _=>exact this.elim
    |view _=>exact this.elim
    |tmp _=>exact this.elim
def Hv(o1 h:O)(R:O->O->D->Prop)(γ:Γ)(d:D):Prop:=∃g f,γ[0]?=some (some<|.own g)/\γ[1]?=some (some<|.own f)/\o1.from g/\h.from f/\R g f d
def Zir(o1 h:O)(X:O->O->Str->Prop)(γ:Γ)(e:Str):Prop:=∃g f,γ[0]?=some (some<|.own g)/\γ[1]?=some (some<|.own f)/\o1.from g/\h.from f/\X g f e
noncomputable def Iv(o1 f:O)(R:O->O->D->Prop)(X:O->O->Str->Prop):Nq:={nx:=λγ=>Hv o1 f R γ .non,rt:=λ_=>False,ex:=Zir o1 f X,rv:=Hv o1 f R}
def Cd{o1 l g f}{σ'}{γ'}(u:OR K (off (λb=>B b\/two o1 l a1 a2 b) H) H a1 o1)(s:OR K (off (λb=>B b\/two o1 l a1 a2 b) H) H a2 l)(e:Xt K (off (two o1 l a1 a2) H) B H' σ' γ')(x:γ'[0]?=some (some<|.own g))(v:γ'[1]?=some (some<|.own f))(k1:o1.from g)(k2:l.from f) :
  Aj K B H a1 a2 o1 l g f H'/\∀b,B b\/two g f a1 a2 b->zof B γ' σ' b:=by
 obtain⟨T,G,p,rfl,N,L⟩:=e.slot 0 _ x;obtain rfl:=O.from_at k1 u L;obtain⟨Q,C,n,rfl,p2,J⟩:=e.slot 1 _ v;obtain rfl:=O.from_at k2 s J
 have M:∀b,B b\/two g f p n b->zof B γ' σ' b:=λb z=>by
  rcases z with z|z|z
  ·exact .inl z
  ·exact .inr ⟨0,g,p,x,G,z⟩
  ·exact .inr ⟨1,f,n,v,C,z⟩
 have A:∀b,g.adr p b->¬f.adr n b:=λb z y=>absurd (e.own 0 1 p n g f b x v G C z y) (by decide);have fromZ:∀{o:O} {a:Addr},OR K (off (zof B γ' σ') H') H' a o->OR K (off (λb=>B b\/two g f p n b) H') H' a o:=λh=>h.mono (X2 (Same.refl _) λb _ _ z y=>z (M b y)) λ_ _ _ q=>q
 have free:∀b,off (two o1 l p n) H b=none->two o1 l p n b\/H b=none:=λb w=>by
  unfold off at w;by_cases q:two o1 l p n b
  ·exact .inl q
  ·rw[WM q]at w;exact .inr w
 refine⟨⟨e.same,O.from_adr k1,O.from_adr k2,λb r=>?_,λb r=>?_,A,fromZ L,fromZ J⟩,M⟩
 ·rcases free b (N b r)with(w|w)|w
  ·exact .inl w
  ·exact absurd (O.from_adr k2 b w) (A b r)
  ·exact .inr w
 ·rcases free b (p2 b r)with(w|w)|w
  ·exact absurd r (A b<|O.from_adr k1 b w)
  ·exact .inl w
  ·exact .inr w
def Zas{t p vs Q Ec n}(h:Ny mg c K vs H Q Ec)(Y:X0 K mg (λ_=>Ec) t p)(hn:n+2<=N.length)(hp:∀o1 M C R X,c o1 M C R X->C.length=n/\p (Iv o1 M R X) (Tn N o1 M C)):t {nx:=λ_ H'=>Q .non H',rt:=Q} (start N vs) H:=by
 obtain⟨o1,M,a1,a2,C,us,B,R,X,rfl,hB,ap,o,l,r,hf,hc,hQ,hX⟩:=h;obtain⟨e,hp⟩:=hp o1 M C R X hc;refine Y _ B H _ _ _ _ (λb z=>?_) (Znr hB ap o l r hf<|by rw[e];exact hn) hp ⟨λw A H' T U f1=>?_,λ_ _ _ z=>z.elim,λw A c H' T U f1=>?_,λ_ _ _ z=>z.elim,λ_ _ _ z=>z.elim,λw A d v H' T U f1 rd=>?_⟩
 ·obtain⟨u,s⟩:=hB b z;obtain⟨x,hx⟩:=TX u;exact⟨x,XX hx s⟩
 ·obtain⟨g,f,u,s,L,J,G⟩:=T;exact hQ g f .non .non H' G (Cd o l U u s L J).1 .non
 ·obtain⟨g,f,u,s,L,J,G⟩:=T;exact hX g f c H' G (Cd o l U u s L J).1
 ·obtain⟨g,f,u,s,L,J,G⟩:=T;obtain⟨k1,k2⟩:=Cd o l U u s L J;exact hQ g f d v H' G k1 (Rp.mono (X2 (Same.refl _) λb _ _ z y=>z (k2 b y)) rd)
def Za0(h:Ny mg c K vs H Q s)(l:∀o1 g f R X,c o1 g f R X->f.length=n):vs.length=n+2:=by
 obtain⟨o1,g,a1,a2,f,p,B,R,X,rfl,_,_,_,_,r,_,o,_⟩:=h;rw[Qa,Qa,r.len,l o1 g f R X o]
def Zqb{i j}{o1 r}{a1 a2}{ss L}{us}{R:Γ->D->Prop}{X:Γ->Str->Prop}{Q}{Ec}(env:Xt K H0 B H σ γ)(hB:∀b,B b->∃o,H0 b=some o)(S1:Same H H1)(hij:i≠j)(hi:γ[i]?=some (some<|.own o1))(Y:γ[j]?=some (some<|.own r))(G:σ[i]?=some (some<|.ref a1))(C:σ[j]?=some (some<|.ref a2))(t1:TVs K (zof B γ σ) H0 H H1 ss us)(hp:passes ss=some L)(hc:c o1 r L (λg f d=>R ((γ.set i<|some<|.own g).set j (some<|.own f)) d) (λg f e=>X ((γ.set i<|some<|.own g).set j (some<|.own f)) e))(q:∀p d v H',R p d->Xt K H0 B H' σ p->Fr B H σ γ H' σ p->Rp K (off (zof B p σ) H') d v->Q v H')(qx:∀p c H',X p c->Xt K H0 B H' σ p->Fr B H σ γ H' σ p->XE mg Ec c H'):Ny mg c K (.ref a1 :: .ref a2::us) H1 Q Ec:=by
 have l:=env.grow S1;obtain⟨v1,h1,x1,e1,h3,h4⟩:=l.slot i _ hi;rw[G]at h1;cases h1
 cases e1
 obtain⟨v2,h2,x2,J,h5,h6⟩:=l.slot j _ Y;rw[C]at h2;cases h2
 cases J
 have za:∀b,two o1 r a1 a2 b->zof B γ σ b:=λb s=>s.elim (λs=>.inr ⟨i,o1,a1,hi,G,s⟩) λs=>.inr ⟨j,r,a2,Y,C,s⟩;have h0:∀b,two o1 r a1 a2 b->H0 b=none:=λb s=>s.elim (h3 b) (h5 b);have down:∀{o:O} {a:Addr},OR K (off (zof B γ σ) H1) H1 a o->OR K (off (λb=>(zof B γ σ b/\¬two o1 r a1 a2 b)\/two o1 r a1 a2 b) H1) H1 a o:=λh=>h.mono (X2 (Same.refl _) λb _ _ z y=>z (y.elim (λy=>y.1)<|za b)) λ_ _ _ q=>q
 have aft:∀g f H',Aj K (λb=>zof B γ σ b/\¬two o1 r a1 a2 b) H1 a1 a2 o1 r g f H'->Xt K H0 B H' σ ((γ.set i<|some<|.own g).set j (some<|.own f))/\Fr B H σ γ H' σ ((γ.set i<|some<|.own g).set j (some<|.own f))/\∀b x,H' b=some x->¬((zof B γ σ b/\¬two o1 r a1 a2 b)\/two g f a1 a2 b)->¬zof B ((γ.set i<|some<|.own g).set j (some<|.own f)) σ b:=λg f H' A=>by
  have U:∀b x,H' b=some x->¬((zof B γ σ b/\¬two o1 r a1 a2 b)\/two g f a1 a2 b)->¬zof B ((γ.set i<|some<|.own g).set j (some<|.own f)) σ b:=λb x _ n z=>by
   rcases z with z|⟨k,fs,a',e1,J,e3⟩
   ·refine n (.inl ⟨.inl z,λw=>?_⟩);obtain⟨u,hu⟩:=hB b z;rw[h0 b w]at hu;cases hu
   ·rcases Ka e1 with⟨ek,q,_⟩|⟨nk,q⟩
    ·subst ek;cases q
     rw[C]at J;cases J
     exact n (.inr<|.inr e3)
    ·rcases Ka q with⟨ek,M,_⟩|⟨nk',M⟩
     ·subst ek;cases M
      rw[G]at J;cases J
      exact n (.inr<|.inl e3)
     ·refine n (.inl ⟨.inr ⟨k,fs,a',M,J,e3⟩,λw=>?_⟩);rcases w with w|w
      ·exact nk' (env.own k i a' a1 fs o1 b M hi J G e3 w)
      ·exact nk (env.own k j a' a2 fs r b M Y J C e3 w)
  have up:∀{o:O} {a:Addr},OR K (off (λb=>(zof B γ σ b/\¬two o1 r a1 a2 b)\/two g f a1 a2 b) H') H' a o->OR K (off (zof B ((γ.set i<|some<|.own g).set j (some<|.own f)) σ) H') H' a o:=λh=>h.mono (X2 (Same.refl _) λb x hx z=>U b x hx z) λ_ _ _ q=>q;obtain⟨T,N⟩:=l.change2 hij hi Y G C (λb x hx n1 n2=>A.same b x (XX hx λw=>w.elim n1 n2)) (λb s=>s.elim (λs=>A.at1.mut b (A.old1 b s)) λs=>A.at2.mut b (A.old2 b s)) A.new1 A.new2 A.apart (up A.at1) (up A.at2);exact⟨T,(Fr.grow S1).trans N,U⟩
 refine⟨o1,r,a1,a2,L,us,λb=>zof B γ σ b/\¬two o1 r a1 a2 b,_,_,rfl,λb s=>⟨l.zm b s.1,s.2⟩,(λb z y=>hij (env.own i j a1 a2 o1 r b hi Y G C z y)),down h4,down h6,?_,Bz hp,hc,λg f d v H' hR A rd=>?_,λg f e H' hX A=>?_⟩
 ·refine t1.pass l.same env.zm S1 (λb x hx=>XX (l.same b x hx) λw=>?_) (X2 (Same.refl _) λb _ _ z y=>z (y.elim (λy=>y.1)<|za b)) hp;rw[h0 b w]at hx;cases hx
 ·obtain⟨T,N,k3⟩:=aft g f H' A;exact q _ d v H' hR T N (Rp.mono (λb x h=>let ⟨p1,p2⟩:=Td h;XX p1 (k3 b x p1 p2)) rd)
 ·obtain⟨T,N,_⟩:=aft g f H' A;exact qx _ e H' hX T N
noncomputable def Zsj(i j:Nat)(c:Pw2)(r:PTA):PTW:=λγ R X=>match γ[i]?,γ[j]? with
 |some (some<|.own o1),some (some<|.own n)=>r γ (λl=>match passes l with|some h=>c o1 n h (λg f d=>R ((γ.set i<|some<|.own g).set j (some<|.own f)) d) (λg f e=>X ((γ.set i<|some<|.own g).set j (some<|.own f)) e)|none=>False) (X γ)
 |_,_=>False
noncomputable def Iu(i j:Nat)(c:Pw2)(r:PTA):PTW:=λγ R X=>match γ[i]?,γ[j]? with
 |some (some<|.own o1),some (some<|.own n)=>r γ (λl=>match passes l with|some f=>c o1 n f (λh g d=>R ((γ.set i<|some<|.own h).set j (some<|.own g)) d) (λ_ _ _=>False)|none=>False) (X γ)
 |_,_=>False
def DJ(i j:Nat)(n:i≠j){c o r}(C:XC K mg E o r):KO K mg E (Nh (Ny mg c K) [] E0<|Kv (K5 i)<|Kv (K5 j) o) (Iu i j c r):=by
 intro H0 B H σ γ R X Q J f h q A;unfold Iu at h;split at h
 ·rename_i o1 Y s p;obtain⟨T,l,a1,rfl,_,_⟩:=f.slot i _ s;obtain⟨N,g,a2,rfl,_,_⟩:=f.slot j _ p;refine⟨_,l,_,g,C H0 B H σ γ _ _ _ f h (λU w H1 u M x=>?_) λc H' G v=>A γ c H' G (f.grow v) (Fr.grow v)⟩;show Ny mg c K ((V.ref a1::V.ref a2::w)++[]) H1 Q E0;rw[Q1];split at u
  ·rename_i y L;exact Zqb (X:=λ_ _=>False) f J M n s p l g x L u q λ_ _ _ z=>z.elim
  ·grind
 ·grind
abbrev PTV:=Γ->(Γ->Bool->Prop)->(Γ->Str->Prop)->Prop
def Nv(K:Yc)(mg:Yg)(E:L2.St->XK)(t:TT)(p:PTV):Prop:=∀(H0:Hp) (B:Addr->Prop) (H:Hp) (σ:L2.St) (γ:Γ) (R:Γ->Bool->Prop) (X:Γ->Str->Prop) (Q:Bool->Hp->Prop),(∀b,B b->∃o,H0 b=some o)->Xt K H0 B H σ γ->p γ R X->
 (∀f b H',R f b->Xt K H0 B H' σ f->Fr B H σ γ H' σ f->Q b H')->(∀f c H',X f c->Xt K H0 B H' σ f->Fr B H σ γ H' σ f->XE mg (E σ) c H')->t σ H Q
noncomputable def pVW(w:PTW):PTV:=λγ R X=>w γ (λf d=>match d with | .bl c=>R f c|_=>False) X
def Zal(hw:KO K mg E te w):Nv K mg E (Ep K te) (pVW w):=by
 intro H0 B H σ γ R X Q p f h q o;refine hw H0 B H σ γ _ _ _ p f h (λl d v H' g r f1 n=>?_) o;split at g
 ·rw[n.bl_inv];exact⟨_,rfl,q _ _ _ g r f1⟩
 ·grind
noncomputable def pVP(p:PTT):PTV:=λγ R X=>p γ (λb=>R γ b) (X γ)
def Zlk(n:K6 K mg E t p):Nv K mg E t (pVP p):=by
 intro H0 B H σ γ R X Q s f h q l;exact n H0 B H σ γ _ _ _ f h (λb H' r g=>q γ b H' r (f.grow g) (Fr.grow g)) λc H' o g=>l γ c H' o (f.grow g) (Fr.grow g)
noncomputable def Zlb(p:PTV):PTV:=λγ R X=>p γ (λf b=>R f (!b)) X
def OV(n:Nv K mg E t p):Nv K mg E (DG t) (Zlb p):=by
 intro H0 B H σ γ R X Q o g h q l;exact n H0 B H σ γ _ _ _ o g h (λf b H' r s f1=>q f (!b) H' r s f1) l
noncomputable def Zi5(p r:PTV):PTV:=λγ R X=>p γ (λf b=>if b=true then R f true else r f R X) X
def Zf3{p r}(z:Nv K mg E t p)(y:Nv K mg E u r):Nv K mg E (tOr t u) (Zi5 p r):=by
 intro H0 B H σ γ R X Q x s h q w;refine z H0 B H σ γ _ _ _ x s h (λf b H' G A f1=>?_) w;cases b with
 |true=>grind
 |false=>
  have n:r f R X:=by grind
  exact y H0 B H' σ f _ _ _ x A n (λg b C l v o=>q _ _ _ l v (f1.trans o)) λg c C l v o=>w _ _ _ l v (f1.trans o)
noncomputable def Zax(c:PTV)(p q:PTS):PTS:=λR γ=>c γ (λf b=>if b=true then p R f else q R f) R.ex
def RH{p q}(s:Nv K mg E tt c)(r:X0 K mg E t p)(hq:X0 K mg E u q):X0 K mg E (D5 tt t u) (Zax c p q):=by
 intro H0 B H σ γ R D l n h e;refine s H0 B H σ γ _ _ _ l n h (λf b H' o g f1=>?_) λf c H' o g f1=>e.ex _ _ _ _ o g f1;cases b with
 |true=>
  exact r H0 B H' σ f R D l g (by grind) (e.from f1)
 |false=>
  exact hq H0 B H' σ f R D l g (by grind) (e.from f1)
noncomputable def Hm(i:Nat):PTW:=λγ R _=>match γ[i]? with
 |some (some<|.own<|.lsA x f)=>∃d,f[f.length-1]?=some d/\R (γ.set i<|some<|.own<|.lsA x f.dropLast) d
 |some (some<|.own<|.lst f)=>∃d,f[f.length-1]?=some d/\R (γ.set i<|some<|.own<|.lst f.dropLast) d
 |_=>False
def Hf(i:Nat):KO K mg E (Fb K "list" Eu<|K5 i) (Hm i):=by
 intro H0 B H σ γ R X Q L f h q J;unfold Hm at h;split at h
 ·rename_i x C n;obtain⟨d,z,h⟩:=h;obtain⟨v,l,b,rfl,w,rfl,us,o,g⟩:=f.slot i _ n;obtain⟨u,s,r⟩:=g.get z;refine⟨_,l,.inl ⟨rfl,us,SqL.of o⟩,b,us,u,rfl,rfl,o,by rw[g.len];exact s,?_⟩;obtain⟨A,p⟩:=f.mutate (es:=.lsA b C.dropLast) (us:=.lst us.dropLast) n l trivial λF H' G y=>⟨rfl,_,y,Rps.mono G (Rps.dropLast g)⟩;exact q _ _ _ _ h A p (Rp.mono p.off r)
 ·rename_i C n;obtain⟨d,z,h⟩:=h;obtain⟨v,l,b,rfl,w,us,o,g⟩:=f.slot i _ n;obtain⟨u,s,r⟩:=g.get z;refine⟨_,l,.inl ⟨rfl,us,SqL.of o⟩,b,us,u,rfl,rfl,o,by rw[g.len];exact s,?_⟩;obtain⟨A,p⟩:=f.mutate (es:=.lst C.dropLast) (us:=.lst us.dropLast) n l trivial λF H' G y=>⟨_,y,Rps.mono G (Rps.dropLast g)⟩;exact q _ _ _ _ h A p (Rp.mono p.off r)
 ·grind
noncomputable def Zph(w:PTW)(k:Int):PTW:=λγ R X=>w γ (λf d=>match d with | .tup g=>∃e,atI g k=some e/\R f e|_=>False) X
def Zdc(hw:KO K mg E te w):KO K mg E (tOp (λx y H Q=>Sb K x y H Q\/SL K x y H Q) te<|tC<|.int k) (Zph w k):=by
 intro H0 B H σ γ R X Q G g h q s;refine hw H0 B H σ γ _ _ _ G g h (λl d v H' f J f1 p=>?_) s;split at f
 ·rename_i L;obtain⟨e,A,f⟩:=f;obtain⟨a,n,rfl,C,r⟩:=Rp.tup_inv p;obtain⟨u,z,o⟩:=r.at A;exact .inr ⟨a,n,k,u,rfl,rfl,SqT.of (off_sub _ _ C),z,q _ _ _ _ f J f1 o⟩
 ·grind
abbrev Pq:=List S->(S->Prop)->(Str->Prop)->Prop
noncomputable def spS(mg:Yg)(c:Pq)(K:Yc):Sp:=λg H Q E=>∃(f:List S) (B:Addr->Prop) (R:S->Prop) (X:Str->Prop),(∀b,B b->Mut (H b))/\TVs K B H H H f g/\(∀s∈f,s.flat)/\c f R X/\
 (∀s v H',R s->Same H H'->TV K B H H H' s v->Q v H')/\∀e H',X e->Same H H'->XE mg E e H'
noncomputable def N2(N:Yl)(f:List S):Γ:=f.map some++List.replicate (N.length-f.length) none
def Zhy{f us}(C:∀b,B b->Mut (H b))(r:TVs K B H H H f us)(w:∀s∈f,s.flat)(L:f.length<=N.length):Xt K H B H (start N us) (N2 N f):=by
 have get:∀i s,(N2 N f)[i]?=some (some s)->f[i]?=some s:=λi s h=>by
  unfold N2 at h;by_cases l:i<f.length
  ·rw[Qm (by rw[WG];exact l),WT,WH l]at h;rw[WH l];exact Q4 some (WY<|WY h)
  ·grind
 have noown:∀(i:Nat) g,(N2 N f)[i]?≠some (some<|.own g):=λi g h=>w _ (Qe<|get i _ h)
 have A:∀b,zof B (N2 N f) (start N us) b->B b:=λb z=>by
  rcases z with z|⟨i,g,T,n,Q,M⟩
  ·exact z
  ·exact absurd n (noown i g)
 refine⟨Same.refl _,?_,C,λi j x J g G b n _ _ _ _ _=>absurd n (noown i g),λi s h=>?_⟩
 ·unfold L2.start N2;simp[r.len]
 ·have u:=get i s h;obtain⟨v,p,o⟩:=r.get u;refine⟨v,?_,?_⟩
  ·unfold L2.start;rw[Qm (by rw[WG];exact(Qd.mp p).1),WT,p];rfl
  ·have:=w s (Qe u)
   cases s with
   |bor d=>exact o
   |sh d=>exact Rp.mono (X2 (Same.refl _) λb _ _ z y=>z (A b y)) o
   |_=>exact this.elim
def Zbu{t p vs Q C n}(h:spS mg c K vs H Q C)(u:X0 K mg (λ_=>C) t p)(U:n<=N.length)(w:∀f R X,c f R X->f.length=n/\p {nx:=λ_=>R (.sh .non),rt:=R,ex:=λ_ e=>X e} (N2 N f)):t {nx:=λ_ H'=>Q .non H',rt:=Q} (start N vs) H:=by
 obtain⟨f,B,R,X,A,r,J,L,y,M⟩:=h;obtain⟨e,w⟩:=w f R X L;exact u H B H _ _ _ _ (λb z=>TX (A b z)) (Zhy A r J<|by lia) w ⟨λl o H' g x f1=>y _ _ H' g x.same .non,λs v H' g T G=>y s v H' g T G,λl o c H' g x f1=>M c H' g x.same,λ_ _ _ z=>z.elim,λ_ _ _ z=>z.elim,λ_ _ _ _ _ z=>z.elim⟩
def Zc9(h:spS mg c K vs H Q o)(g:∀f R X,c f R X->f.length=n):vs.length=n:=by
 obtain⟨f,B,R,X,_,r,_,l,_⟩:=h;rw[r.len]
 grind
def TV.backS (env:Xt K H0 B H1 σ γ) (o:Same H H1) (f:Same H1 H') (h:TV K (zof B γ σ) H1 H1 H' s v):TV K (zof B γ σ) H0 H H' s.back v:=by
 cases s with
 |bor d=>exact Ti (λb z=>Tx f (env.zm b z)) (Rp.mono f h)
 |own n=>
  obtain⟨a,rfl,l,r⟩:=h;exact⟨a,rfl,(λb g=>o.free (l b g)),r⟩
 |view n=>
  obtain⟨a,rfl,r⟩:=h;exact r.rp off_sub
 |_=>exact h
def TV.passS {v} (env:Xt K H0 B H1 σ γ) (g:∀b,zof B γ σ b->Mut (H b)) (n:Same H H1) (h:TV K (zof B γ σ) H0 H H1 s v) (e:s.pass=some f):TV K (zof B γ σ) H1 H1 H1 f v:=by
 have shd:∀d,s.shd=some d->Rp K (off (zof B γ σ) H1) d v:=λd l=>h.shd env.same g n l;cases s with
 |view o=>cases e
 |tmp d=>
  unfold S.pass at e;cases q:imm d with
  |false=>simp_all
  |true=>simp[q]at e;subst e;exact shd d (by unfold S.shd;simp[q])
 |bor d=>
  unfold S.pass at e;cases q:imm d with
  |false=>simp[q]at e;subst e;exact Rp.mono env.same h
  |true=>simp[q]at e;subst e;exact shd d (by unfold S.shd;simp[q])
 |_=>cases e;exact shd _ rfl
theorem TVs.passS (env:Xt K H0 B H1 σ γ) (l:∀b,zof B γ σ b->Mut (H b)) (n:Same H H1):∀{g f}{vs:List V},TVs K (zof B γ σ) H0 H H1 g vs->passes g=some f->TVs K (zof B γ σ) H1 H1 H1 f vs
 |_,_,_,.nil,e=>by cases e;exact .nil
 |_,_,_,.cons h r,e=>by
  unfold passes at e;split at e
  ·rename_i s u p o;cases e
   exact .cons (h.passS env l n p) (TVs.passS env l n r o)
  ·grind
noncomputable def Zew(c:Pq)(r:PTA):PTE:=λγ R X=>r γ (λg=>match passes g with|some f=>c f (λs=>R s.back) (λ_=>False)|none=>False) X
def Dj{n r}(G:XC K mg E n r):Xp K mg E (Nh (spS mg c K) [] E0 n) (Zew c r):=by
 intro H0 B H σ γ R X Q g p q A;refine G H0 B H σ γ _ X _ g p (λL J H1 o h y=>?_) A;rw[Q1];have f:=g.grow h;split at o
 ·rename_i l u;exact⟨l,zof B γ σ,_,_,f.zm,y.passS f g.zm h u,Bz u,o,λs v H' C w x=>q _ _ H' C (h.trans w) (x.backS f h w),λ_ _ z=>z.elim⟩
 ·grind
noncomputable def Zsh(a:PTE)(l u:PTO):PTE:=λγ R X=>a γ (λs=>l γ (λlo=>u γ (λf=>match s.d with | .lst g=>R (.tmp<|.lst<|cutD g lo f)|_=>False) X) X) X
noncomputable def Zc5(a:PTE)(l u:PTO):PTI:=λγ R X=>a γ (λs=>l γ (λlo=>u γ (λf=>match s with
 | .bor d=>(match d.strip with | .lst g=>R (cutD g lo f).length (λi=>arg ((cutD g lo f).getD i .non))|_=>False)
 |_=>False) X) X) X
def Zfi{a l u}(ha:Xp K mg E te a)(hl:TH K mg E tl l)(hu:TH K mg E th u):SS K mg E (Bh K<|tSl (B7 K) te tl th) (Zc5 a l u):=by
 intro H0 B H σ γ R X Q f p q C;refine ha H0 B H σ γ _ X _ f p (λx v H1 h1 o s=>?_) C;refine hl H0 B H1 σ γ _ X _ (f.grow o) h1 (λlo H2 h2 L=>?_) λc H' J M=>C c H' J (o.trans M);refine hu H0 B H2 σ γ _ X _ ((f.grow o).grow L) h2 (λg U h S3=>?_) λc H' J M=>C c H' J ((o.trans L).trans M);have n:=(o.trans L).trans S3;split at h
 ·rename_i d;split at h
  ·rename_i w ed;have s:=Rp.strip s;rw[ed]at s;obtain⟨b,A,rfl,hb,r⟩:=Rp.lst_inv s;refine⟨b,A,rfl,SqL.of ((f.grow n).same _ _ hb),λm nm=>?_⟩;have S4:Same U (upd U m<|.lst<|TJ A lo g):=Kg nm;have N:Rps K H0 (cutD w lo g) (TJ A lo g):=r.cut;refine⟨m,rfl,⟨_,SqL.of X9⟩,q _ _ _ _ h (n.trans S4) ⟨λi H' Z' G z lt=>?_,λH' Z' z lt=>⟨_,SqL.of (z _ _ X9),by rw[N.len];exact WQ _⟩⟩⟩;have hd:(cutD w lo g)[i]?=some ((cutD w lo g).getD i .non):=by rw[WR,WH G];rfl
   obtain⟨u,T,h5⟩:=N.get hd;have Y:TV K Z' H0 H' H' (arg ((cutD w lo g).getD i .non)) u:=NF lt.2.1 lt.1 h5;refine⟨⟨_,u,SqL.of (z _ _ X9),T⟩,λx H'' y=>?_⟩;obtain⟨rfl,y⟩:=y
   have:=y _ (SqL.of<|z _ _ X9)
   rw[T]at this;cases this
   exact⟨Same.refl _,Y⟩
  ·exact h.elim
 ·exact h.elim
def Zfs{n:Type}{φ}{γ}{g}{c}{e}{R}{xs:List n}{emb}(f:n->Option D)(u:xs.length<=100000)(turn:∀x∈xs,g (arg<|emb x) (atP φ γ) λh=>c h (λb=>if b=true then e h (λs=>∃d,s.shd=some d/\f x=some d) (λ_=>False)else f x=none) λ_=>False)(done:R (.own<|xs.filterMap f)) :
  BV φ γ g c e (xs.map emb).length (λi=>arg ((xs.map emb).getD i .non)) R:=by
 refine⟨⟨by rw[WG];exact u,λi=>(xs[i]?).bind f,λi v=>?_,?_⟩⟩
 ·simp_all
 ·have:(List.range (xs.map emb).length).filterMap (λi=>(xs[i]?).bind f)=xs.filterMap f:=by
   rw[WG]
   have o:∀l:List n,(List.range l.length).filterMap (λi=>(l[i]?).bind f)=l.filterMap f:=λl=>by
    induction l with
    |nil=>rfl
    |cons x r p=>
     rw[Qa,List.range_succ_eq_map,QW,List.filterMap_map,QW];simp only[List.getElem?_cons_zero,Option.bind_some];have e:((λi=>((x::r)[i]?).bind f)∘Nat.succ)=λi=>(r[i]?).bind f:=rfl;rw[e,p]
   exact o xs
  grind
noncomputable def Zce(a:PTE)(l u:PTO):PTE:=λγ R X=>a γ (λs=>l γ (λlo=>u γ (λg=>match s.d with | .scr f=>R (.own ((cutD f lo g).map D.int))|_=>False) X) X) X
def Zem(ns:Ye)(lo f:Option Int):TJ (ns.map V.int) lo f=(cutD ns lo f).map V.int:=by
 unfold TJ cutD;simp
def Zee{a l u}(T:Xp K mg E te a)(M:TH K mg E C l)(L:TH K mg E G u):Xp K mg E (tSl (B7 K) te C G) (Zce a l u):=by
 intro H0 B H σ γ R X Q f p q o;refine T H0 B H σ γ _ X _ f p (λx v H1 Y h J=>?_) o;refine M H0 B H1 σ γ _ X _ (f.grow h) Y (λlo H2 U n=>?_) λc H' r s=>o c H' r (h.trans s);refine L H0 B H2 σ γ _ X _ ((f.grow h).grow n) U (λhi H3 z A=>?_) λc H' r s=>o c H' r ((h.trans n).trans s);have g:=(h.trans n).trans A;split at z
 ·rename_i ns e;have w:=(J.grow<|n.trans A).rp (f.grow g).same;rw[e]at w;obtain⟨b,rfl,N⟩:=w.scr_inv;refine⟨b,_,rfl,N,λm y=>?_⟩;rw[Zem];exact q _ _ _ z (g.trans<|Kg y) (NX g y<|Rps.of_ints _)
 ·grind
end
open M
inductive Dd where
 |sell (p h:Int)|part (p w:Int)|unite (p:Int)|wish (a b:Int)|drop (a b:Int)
noncomputable def Dd.q:Dd->Str×Ye
 | .sell p h=>("sell",[p,h]) | .part p w=>("part",[p,w]) | .unite p=>("unite",[p]) | .wish a b=>("wish",[a,b]) | .drop a b=>("drop",[a,b])
noncomputable def Dd.land:Dd->Bool
 | .sell _ _=>true | .part _ _=>true | .unite _=>true|_=>false
noncomputable def Dd.err (f w:Yd):Dd->Option Str
 | .sell p h=>KD f p h | .part p v=>Ku f p v | .unite p=>Ki f p | .wish a b=>Kj w a b | .drop a b=>Kr w a b
noncomputable def Dd.fld (f:Yd):Dd->Yd
 | .sell p h=>TZ f p h | .part p v=>PR f p v | .unite p=>PJ f p|_=>f
noncomputable def Dd.wsh (w:Yd):Dd->Yd
 | .wish a b=>w++[(a,b)] | .drop a b=>SU w a b|_=>w
noncomputable def codeN:Option Str->Int
 |none=>0
 |some c=>if c=("NoStrip" : Str)then 1 else if c=("BadHolder" : Str)then 2 else if c=("OwnStrip" : Str)then 3 else if c=("BadPart" : Str)then 4 else if c=("TooManyStrips" : Str)then 5 else if c=("UnlikeHolders" : Str)then 6 else if c=("TooWide" : Str)then 7 else if c=("LikeHolders" : Str)then 8 else if c=("WishStands" : Str)then 9 else if c=("TooManyWishes" : Str)then 10 else 11
def D2:codeN (some "NoStrip")=1:=rfl
def Fs:codeN (some "BadHolder")=2:=rfl
def Gq:codeN (some "OwnStrip")=3:=rfl
def AW:codeN (some "BadPart")=4:=rfl
def Io:codeN (some "TooManyStrips")=5:=rfl
def Oc:codeN (some "UnlikeHolders")=6:=rfl
def HX:codeN (some "TooWide")=7:=rfl
def Zaj:codeN (some "LikeHolders")=8:=rfl
def L8:codeN (some "WishStands")=9:=rfl
def He:codeN (some "TooManyWishes")=10:=rfl
def LQ:codeN (some "NoWish")=11:=rfl
noncomputable def Dd.fld' (f:Yd) (x:Dd):Yd:=if x.err f []=none then x.fld f else f
noncomputable def Dd.wsh' (w:Yd) (x:Dd):Yd:=if x.err [] w=none then x.wsh w else w
noncomputable def Dd.nf (f w:Yd) (x:Dd):Yd:=if x.err f w=none then x.fld f else f
noncomputable def Dd.nw (f w:Yd) (x:Dd):Yd:=if x.err f w=none then x.wsh w else w
def Dd.err_land {x:Dd} (h:x.land=true) (f w u:Yd):x.err f w=x.err f u:=by
 cases x<;>first|rfl|cases h
def Dd.err_wish {x:Dd} (h:x.land=false) (f g w:Yd):x.err f w=x.err g w:=by
 cases x<;>first|rfl|cases h
def Dd.err_cases (f w : Yd) (x : Dd) : x.err f w = none ∨ x.err f w = some ("NoStrip" : Str) ∨ x.err f w = some ("BadHolder" : Str) ∨ x.err f w = some ("OwnStrip" : Str) ∨ x.err f w = some ("BadPart" : Str) ∨ x.err f w = some ("TooManyStrips" : Str) ∨ x.err f w = some ("UnlikeHolders" : Str) ∨ x.err f w = some ("TooWide" : Str) ∨ x.err f w = some ("LikeHolders" : Str) ∨ x.err f w = some ("WishStands" : Str) ∨ x.err f w = some ("TooManyWishes" : Str) ∨ x.err f w = some ("NoWish" : Str) := by
  cases x with
  | sell p h => show KD f p h = _ ∨ KD f p h = _ ∨ KD f p h = _ ∨ KD f p h = _ ∨ _; unfold KD; repeat' split
                all_goals simp
  | part p h => show Ku f p h = _ ∨ Ku f p h = _ ∨ Ku f p h = _ ∨ Ku f p h = _ ∨ Ku f p h = _ ∨ Ku f p h = _ ∨ _; unfold Ku; repeat' split
                all_goals simp
  | unite p => show Ki f p = _ ∨ Ki f p = _ ∨ Ki f p = _ ∨ Ki f p = _ ∨ Ki f p = _ ∨ Ki f p = _ ∨ Ki f p = _ ∨ Ki f p = _ ∨ _; unfold Ki; repeat' split
               all_goals simp
  | wish a b => show Kj w a b = _ ∨ Kj w a b = _ ∨ Kj w a b = _ ∨ Kj w a b = _ ∨ Kj w a b = _ ∨ Kj w a b = _ ∨ Kj w a b = _ ∨ Kj w a b = _ ∨ Kj w a b = _ ∨ Kj w a b = _ ∨ Kj w a b = _ ∨ _; unfold Kj; repeat' split
                all_goals simp
  | drop a b => show Kr w a b = _ ∨ Kr w a b = _ ∨ Kr w a b = _ ∨ Kr w a b = _ ∨ Kr w a b = _ ∨ Kr w a b = _ ∨ Kr w a b = _ ∨ Kr w a b = _ ∨ Kr w a b = _ ∨ Kr w a b = _ ∨ Kr w a b = _ ∨ Kr w a b = _; unfold Kr; repeat' split
                all_goals simp
abbrev XM:=List (Dd×Yd×Yd)
noncomputable def bkH(hs:XM):List (Str×Ye):=hs.map λh=>h.1.q
noncomputable def fsH(f0:Yd)(hs:XM):List (Yd):=f0::hs.map λh=>h.2.1
noncomputable def wsH(hs:XM):List (Yd):=[]::hs.map λh=>h.2.2
noncomputable def Sf(h:Dd×Yd×Yd):D:=.tup [plD h.2.1,plD h.2.2,dD h.1.q]
noncomputable def Zru(f0:Yd):D:=.tup [plD f0,.lst [],.tup []]
noncomputable def XA(f0:Yd)(hs:XM):List D:=Zru f0::hs.map Sf
noncomputable def XS(f0:Yd)(hs:XM):Yd:=match hs.getLast? with|some h=>h.2.1|none=>f0
noncomputable def XO(hs:XM):Yd:=match hs.getLast? with|some h=>h.2.2|none=>[]
def Bu(f0:Yd)(hs:XM):∃fs,fsH f0 hs=fs++[XS f0 hs]/\fs.length=hs.length:=by
 unfold fsH XS;rcases QZ hs with rfl|⟨h,x,rfl⟩
 ·exact⟨[],rfl,rfl⟩
 ·refine⟨f0::h.map λh=>h.2.1,?_,by simp⟩;simp
def BJ(hs:XM):∃f,wsH hs=f++[XO hs]/\f.length=hs.length:=by
 unfold wsH XO;rcases QZ hs with rfl|⟨h,x,rfl⟩
 ·exact⟨[],rfl,rfl⟩
 ·refine⟨[]::h.map λh=>h.2.2,?_,by simp⟩;simp
def FZ(f0:Yd)(hs:XM):∃d,atI (XA f0 hs) (-1)=some (.tup [plD (XS f0 hs),plD (XO hs),d]):=by
 have f:∀l (x:D),l≠[]->l[l.length-1]?=some x->atI l (-1)=some x:=λl x g h=>by
  have n:=VE.mpr g;unfold atI ixN;rw[WM (by lia),WO (by lia)];show l[_]?=_;rw[show((-1:Int)+(l.length:Int)).toNat=l.length-1 by lia];lia
 unfold XA XS XO;rcases QZ hs with rfl|⟨h,x,rfl⟩
 ·exact⟨.tup [],f _ _ (by simp) rfl⟩
 ·refine⟨dD x.1.q,f _ _ (by simp) ?_⟩;rw[Vy,List.getLast?_concat,Qa,WG,WS,Q6,Vv,QG,WZ,Qq (by simp),WG,JX];rfl
def Bv(hs:XM)(h:Dd×Yd×Yd):bkH (hs++[h])=bkH hs++[h.1.q]:=by unfold bkH;rw[WZ];rfl
def B4(f0:Yd)(hs:XM)(h:Dd×Yd×Yd):fsH f0 (hs++[h])=fsH f0 hs++[h.2.1]:=by unfold fsH;rw[WZ];rfl
def Bf(hs:XM)(h:Dd×Yd×Yd):wsH (hs++[h])=wsH hs++[h.2.2]:=by unfold wsH;rw[WZ];rfl
def BA(f0:Yd)(hs:XM)(h:Dd×Yd×Yd):XA f0 (hs++[h])=XA f0 hs++[Sf h]:=by unfold XA;rw[WZ];rfl
def SD(hs:XM):(bkH hs).length=hs.length:=WG ..
def LY(f0:Yd)(hs:XM):(fsH f0 hs).length=hs.length+1:=by unfold fsH;rw[Qa,WG]
def OT(hs:XM):(wsH hs).length=hs.length+1:=by unfold wsH;rw[Qa,WG]
def Ts(f0:Yd)(hs:XM):(XA f0 hs).length=hs.length+1:=by unfold XA;rw[Qa,WG]
def Dd.q_len (x:Dd):x.q.2.length<=2:=by cases x<;>simp[Dd.q]
end Pu
namespace Pu
@[irreducible] def mixP (c k:Int):Int:=((c % 2147483647+7919*k+1)*48271 % 2147483647+104729*k+11)*69621 % 2147483647
open L2 M Own PyProof.Rows PySem PySem.Spec
def Dd.fld_ok {d:Dd} (g:Field f) (o:f.length<=40) (e:d.err f w=none):Field (d.fld f)/\(d.fld f).length<=40:=by
 cases d with
 |sell p h=>exact⟨Zh5 g e,by rw[show(Dd.sell p h).fld f=TZ f p h from rfl,Zis];exact o⟩
 |part p v=>
  have e:Ku f p v=none:=e;rcases Rf f p v with⟨z,_⟩|⟨z,_⟩|⟨z,_⟩|⟨_,_,n,l,s,r,u⟩
  ·grind
  ·rw[e]at z;cases z
  ·rw[e]at z;cases z
  ·exact⟨Zo5 g n l s r,by rw[show(Dd.part p v).fld f=PR f p v from rfl,Zct n l];lia⟩
 |unite p=>
  have e:Ki f p=none:=e;rcases Ob f p with⟨z,_⟩|⟨z,_⟩|⟨z,_⟩|⟨_,_,n,l⟩
  ·rw[e]at z;cases z
  ·rw[e]at z;cases z
  ·rw[e]at z;cases z
  ·exact⟨Zlo g e,by rw[show(Dd.unite p).fld f=PJ f p from rfl];have:=Zbh n l;lia⟩
 |_=>exact⟨g,o⟩
def Dd.wsh_ok {f w}{d:Dd} (g:Tf w) (e:d.err f w=none):Tf (d.wsh w):=by
 cases d with
 |wish a b=>exact Zqu g e
 |drop a b=>exact Zrt g
 |_=>trivial
def FineH(f0:Yd)(hs:XM):Prop:=(∀g∈fsH f0 hs,Field g/\g.length<=40)/\∀g∈wsH hs,Tf g
def FineH.cur (h:FineH f0 hs):(Field (XS f0 hs)/\(XS f0 hs).length<=40)/\Tf (XO hs):=by
 obtain⟨fs,l,_⟩:=Bu f0 hs;obtain⟨f,g,_⟩:=BJ hs;exact⟨h.1 _ (by grind),h.2 _ (by grind)⟩
def FineH.nil (l:Field f0) (h:f0.length<=40):FineH f0 []:=
 ⟨λg f=>by rw[show fsH f0 []=[f0]from rfl,WJ]at f;subst f;exact⟨l,h⟩,λg f=>by rw[show wsH []=[[]]from rfl,WJ]at f;subst f;exact Zrp⟩
def FineH.snoc (h:FineH f0 hs) (n:Field x.2.1/\x.2.1.length<=40) (l:Tf x.2.2):FineH f0 (hs++[x]):=
 ⟨λg f=>by rw[B4]at f;rcases Qc.mp f with f|f;{exact h.1 g f};{rw[WJ]at f;subst f;exact n},λg f=>by rw[Bf]at f;rcases Qc.mp f with f|f;{exact h.2 g f};{rw[WJ]at f;subst f;exact l}⟩
def FineH.init (h:FineH f0 (hs++[x])):FineH f0 hs:=
 ⟨λg f=>h.1 g (by rw[B4];exact QR _ f),λg f=>h.2 g (by rw[Bf];exact QR _ f)⟩
def FineH.back (h:FineH f0 hs):FineH f0 hs.dropLast:=by
 rcases QZ hs with rfl|⟨l,x,rfl⟩
 ·grind
 ·rw[Vy]at h ⊢;rw[QC];exact h.init
noncomputable def KW(f0:Yd)(hs:XM)(d:Dd):XM:=if d.err (XS f0 hs) (XO hs)=none then hs++[(d,d.fld (XS f0 hs),d.wsh (XO hs))]else hs
def Zhe(f0:Yd)(hs:XM)(d:Dd):(KW f0 hs d).length<=hs.length+1:=by
 unfold KW;split
 ·simp
 ·simp
def FineH.add (h:FineH f0 hs) (d:Dd):FineH f0 (KW f0 hs d):=by
 unfold KW;split
 ·rename_i e;obtain⟨⟨l,g⟩,f⟩:=h.cur;exact h.snoc (Dd.fld_ok l g e) (Dd.wsh_ok f e)
 ·lia
def FineH.len (h:FineH f0 hs):(∀g∈fsH f0 hs,g.length<=1000)/\∀g∈wsH hs,g.length<=1000:=⟨λg f=>by have:=(h.1 g f).2;lia,λg f=>by have:=(h.2 g f).1;lia⟩
def Dd.code_pos {x:Dd} (h:¬x.err f w=none):0<codeN (x.err f w):=by
 rcases x.err_cases f w with e|e|e|e|e|e|e|e|e|e|e|e<;>rw[e]at h ⊢
 ·grind
 ·trivial
 ·rw[Fs];decide
 ·rw[Gq];decide
 ·rw[AW];decide
 ·rw[Io];decide
 ·rw[Oc];decide
 ·rw[HX];decide
 ·rw[Zaj];decide
 ·rw[L8];decide
 ·rw[He];decide
 ·rw[LQ];decide
def Dd.not_back (d:Dd):¬d.q.1=("back" : Str):=by
 cases d with
 |sell p h=>exact(by decide +kernel:¬("sell" : Str) = "back")
 |part p h=>exact(by decide +kernel:¬("part" : Str) = "back")
 |unite p=>exact(by decide +kernel:¬("unite" : Str) = "back")
 |wish p h=>exact(by decide +kernel:¬("wish" : Str) = "back")
 |drop p h=>exact(by decide +kernel:¬("drop" : Str) = "back")
def Zkm(n:Nr m){v}(h:1<=v/\v<=10):Nr (m.set 0 v):=by
 obtain⟨a,b,c,d,e,rfl,o,l,g,hd,f⟩:=n;exact⟨v,b,c,d,e,rfl,h,l,g,hd,f⟩
def TabV.uniq {S vs us} (h:TabV l c S vs) (k:TabV l c S us):vs=us:=by
 refine List.ext_getElem (by rw[h.1,k.1]) λi g n=>?_;have f:i<S.length:=by rw[←h.1];exact g
 exact(h.2 i S[i] vs[i] (WH f) (WH g)).uniq (k.2 i S[i] us[i] (WH f) (WH n))
end Pu
namespace Own
open L2
section
variable {prog:Program}{w:World}{A:Around}{E:Yh}{s:Shared}{l:Addr}{xs:Array (Int×Tok)}
def Zao(y:A.handled=none)(r:s.heap.IsTuple l (intItems xs))(n:0<xs.size)(h:∀v f g,(intItems xs)[argBest (λi j=>decide (numAt xs i<numAt xs j)) (xs.size-1)]?=some v->(∀b o,s.heap.get? b=some o->f.get? b=some o)->Q v {s with heap:=f,toks:=g}) :
  wpAny (model prog w) A (call (.builtin "min") [.ref l]) Q E s:=by
 have p:l<s.heap.objs.size:=by obtain⟨_,e,_⟩:=r;exact WW e
 refine call_min_walk (wpAny_pyIter_tuple r ?_);refine⟨_,[_,l],[_],_,_,_,_,rfl,Walks.tuple (A:=A.in1) y _ l (Qj p) (intItems xs),⟨⟨_,WX _ rfl,rfl,rfl⟩,r.push _⟩,λc u=>?_,by simpa [intItems]using n,CmpOf.ints_lt (numAt xs) (λ_ _=>intItems_at),λv f g z x=>?_⟩
 ·show c<(s.heap.push _).objs.size;rw[Vo];rcases WU.mp u with rfl|u
  ·exact V7 _
  ·grind
 ·refine h v f g (by simpa [intItems]using z) λb o e=>x b o (λhm=>?_) (WL _ e);rcases WU.mp hm with B|hm
  ·exact absurd (B▸WW e) (QT _)
  ·cases hm
def Zco(y:A.handled=none)(r:s.heap.IsTuple l (intItems xs))(n:0<xs.size)(h:∀v f g,(intItems xs)[argBest (λi j=>decide (numAt xs i>numAt xs j)) (xs.size-1)]?=some v->(∀b o,s.heap.get? b=some o->f.get? b=some o)->Q v {s with heap:=f,toks:=g}) :
  wpAny (model prog w) A (call (.builtin "max") [.ref l]) Q E s:=by
 have p:l<s.heap.objs.size:=by obtain⟨_,e,_⟩:=r;exact WW e
 refine call_max_walk (wpAny_pyIter_tuple r ?_);refine⟨_,[_,l],[_],_,_,_,_,rfl,Walks.tuple (A:=A.in1) y _ l (Qj p) (intItems xs),⟨⟨_,WX _ rfl,rfl,rfl⟩,r.push _⟩,λc u=>?_,by simpa [intItems]using n,CmpOf.ints_gt (numAt xs) (λ_ _=>intItems_at),λv f g z x=>?_⟩
 ·show c<(s.heap.push _).objs.size;rw[Vo];rcases WU.mp u with rfl|u
  ·exact V7 _
  ·grind
 ·refine h v f g (by simpa [intItems]using z) λb o e=>x b o (λhm=>?_) (WL _ e);rcases WU.mp hm with B|hm
  ·exact absurd (B▸WW e) (QT _)
  ·cases hm
end
section
variable {X:Cx}{K:Yc}
def Zec(E:X.calm=true)(L:autoParam (X.K=K) au_0):Kl X (.builtin "min") (λxs H Q=>∃p a b,xs=[.ref p]/\SqT K H p [.int a,.int b]/\Q (.int (if b<a then b else a)) H):=by
 subst L;intro pins s M H xs N Q I w h;obtain⟨p,a,b,rfl,G,q⟩:=h;obtain⟨u,rfl,x⟩:=w.one;obtain rfl:=x;obtain⟨B,r,A,_⟩:=I.tuple G;cases r with
 |cons z r=>
  cases r with
  |cons y r=>
   cases r
   obtain⟨g,rfl⟩:=z;obtain⟨f,rfl⟩:=y;have C:s.heap.IsTuple p (intItems #[(a,g),(b,f)]):=by have this:s.heap.IsTuple p _:=A;simpa [intItems]using this
   refine Zao (I.ok.hd E) C (by simp) λv U T J o=>?_;have n:(intItems #[(a,g),(b,f)])[argBest (λi j=>decide (numAt #[(a,g),(b,f)] i<numAt #[(a,g),(b,f)] j)) 1]?=some v:=J;by_cases l:b<a
   ·have e:argBest (λi j=>decide (numAt #[(a,g),(b,f)] i<numAt #[(a,g),(b,f)] j)) 1=1:=by simp[argBest,numAt,l]
    rw[e]at n;obtain rfl:Value.int b f=v:=by simpa [intItems]using n
    rw[WO l]at q;exact⟨.int b,H,I.kept o,⟨_,rfl⟩,q⟩
   ·have e:argBest (λi j=>decide (numAt #[(a,g),(b,f)] i<numAt #[(a,g),(b,f)] j)) 1=0:=by simp[argBest,numAt,l]
    rw[e]at n;obtain rfl:Value.int a g=v:=by simpa [intItems]using n
    rw[WM l]at q;exact⟨.int a,H,I.kept o,⟨_,rfl⟩,q⟩
def Zha(E:X.calm=true)(L:autoParam (X.K=K) au_0):Kl X (.builtin "max") (λxs H Q=>∃p a b,xs=[.ref p]/\SqT K H p [.int a,.int b]/\Q (.int (if b>a then b else a)) H):=by
 subst L;intro pins s M H xs N Q I w h;obtain⟨p,a,b,rfl,G,q⟩:=h;obtain⟨u,rfl,x⟩:=w.one;obtain rfl:=x;obtain⟨B,r,A,_⟩:=I.tuple G;cases r with
 |cons z r=>
  cases r with
  |cons y r=>
   cases r
   obtain⟨g,rfl⟩:=z;obtain⟨f,rfl⟩:=y;have C:s.heap.IsTuple p (intItems #[(a,g),(b,f)]):=by have this:s.heap.IsTuple p _:=A;simpa [intItems]using this
   refine Zco (I.ok.hd E) C (by simp) λv U T J o=>?_;have n:(intItems #[(a,g),(b,f)])[argBest (λi j=>decide (numAt #[(a,g),(b,f)] i>numAt #[(a,g),(b,f)] j)) 1]?=some v:=J;by_cases l:b>a
   ·have e:argBest (λi j=>decide (numAt #[(a,g),(b,f)] i>numAt #[(a,g),(b,f)] j)) 1=1:=by simp[argBest,numAt,l]
    rw[e]at n;obtain rfl:Value.int b f=v:=by simpa [intItems]using n
    rw[WO l]at q;exact⟨.int b,H,I.kept o,⟨_,rfl⟩,q⟩
   ·have e:argBest (λi j=>decide (numAt #[(a,g),(b,f)] i>numAt #[(a,g),(b,f)] j)) 1=0:=by simp[argBest,numAt,l]
    rw[e]at n;obtain rfl:Value.int a g=v:=by simpa [intItems]using n
    rw[WM l]at q;exact⟨.int a,H,I.kept o,⟨_,rfl⟩,q⟩
end
end Own
namespace Pu
open L2 Own
section
variable {K:Yc}{mg:Yg}{E:L2.St->XK}
def GT:List S->(S->Prop)->Prop
 |[s],R=>(match s.d with | .tup [.int a,.int b]=>R (.sh<|.int (if b<a then b else a))|_=>False)
 |_,_=>False
def RW:List S->(S->Prop)->Prop
 |[s],R=>(match s.d with | .tup [.int a,.int b]=>R (.sh<|.int (if b>a then b else a))|_=>False)
 |_,_=>False
def Zqj(B:XC K mg E n r):Xp K mg E (tCB (λxs H Q=>∃p a b,xs=[.ref p]/\SqT K H p [.int a,.int b]/\Q (.int (if b<a then b else a)) H) n) (pCB GT r):=by
 refine KZ B λT H C Z L G R Q u M N l h q=>?_;unfold GT at h;split at h
 ·rename_i s;obtain⟨v,rfl,o⟩:=l.one_inv;have f:=o.rp u;split at h
  ·rename_i a b e;rw[e]at f;obtain⟨p,J,rfl,g,w⟩:=Rp.tup_inv f;obtain⟨x,y,rfl,A,z⟩:=w.two_inv;rw[A.int_inv,z.int_inv]at g;exact⟨p,a,b,rfl,SqT.of g,q _ _ C h (Same.refl _) (.int _)⟩
  ·exact h.elim
 ·exact h.elim
def Zjx(B:XC K mg E n r):Xp K mg E (tCB (λxs H Q=>∃p a b,xs=[.ref p]/\SqT K H p [.int a,.int b]/\Q (.int (if b>a then b else a)) H) n) (pCB RW r):=by
 refine KZ B λT H C Z L G R Q u M N l h q=>?_;unfold RW at h;split at h
 ·rename_i s;obtain⟨v,rfl,o⟩:=l.one_inv;have f:=o.rp u;split at h
  ·rename_i a b e;rw[e]at f;obtain⟨p,J,rfl,g,w⟩:=Rp.tup_inv f;obtain⟨x,y,rfl,A,z⟩:=w.two_inv;rw[A.int_inv,z.int_inv]at g;exact⟨p,a,b,rfl,SqT.of g,q _ _ C h (Same.refl _) (.int _)⟩
  ·grind
 ·grind
end
end Pu
namespace M
open L2 Own Pu
noncomputable def ltS(k:Int):Yd->Int
 |[]=>0
 |q::l=>(if q.1<k then q.2 else 0)+ltS k l
noncomputable def N7:Yd->Int
 |[]=>0
 |p::l=>ltS p.1 l*p.2+N7 l
theorem Rm(k:Int)(a b:Int×Int)(B:Yd):∀A,ltS k (A++a::b::B)=ltS k (A++b::a::B)
 |[]=>by simp only[List.nil_append,ltS];lia
 |q::A=>by simp only[Vp,ltS];rw[Rm k a b B A]
theorem M1(a b:Int×Int)(B:Yd):∀A,N7 (A++a::b::B)+(if a.1<b.1 then a.2*b.2 else 0)=N7 (A++b::a::B)+(if b.1<a.1 then a.2*b.2 else 0)
 |[]=>by
  simp only[List.nil_append,N7,ltS];by_cases f:a.1<b.1
  ·grind
  ·grind
 |q::A=>by
  simp only[Vp,N7];rw[Rm q.1 a b B A]
  have:=M1 a b B A
  lia
noncomputable def hdN(ps:Yd)(m:Int):Int:=(ps.getD (m-1).toNat (0,0)).1
def Zn4{p}(o:1<=p)(g:p<ns.length):∃A x y B,ns=A++x::y::B/\A.length+1=p/\KY ns p=A++y::x::B/\ns.getD (p-1) 0=x/\ns.getD p 0=y:=by
 have f:ns.drop (p-1)=ns[p-1]'(by lia)::ns.drop (p-1+1):=QN (by lia);have n:p-1+1=p:=by lia
 rw[n,(QN g)]at f;have l:ns.getD p 0=ns[p]:=by rw[WR,WH g];rfl
 have h:ns.getD (p-1) 0=ns[p-1]'(by lia):=by grind
 refine⟨ns.take (p-1),ns[p-1]'(by lia),ns[p],ns.drop (p+1),by rw[←f,J1],by rw[Qs];lia,?_,h,l⟩;unfold KY;rw[l,h];simp
def Zpm{p}(g:1<=p)(f:p<ns.length):(KY ns p).length=ns.length:=(CK g f).length_eq
noncomputable def rkN(ps:Yd)(o:Ye)(m:Int):Int:=(o.idxOf (hdN ps m):Nat)
def FW(f:Ye)(p:Nat):Prop:=(∀q,1<=q->q<(if p=0 then f.length else p)->f.getD (q-1) 0<=f.getD q 0)/\(p=0\/(1<=p/\p<f.length/\f.getD p 0<f.getD (p-1) 0))
def FW.uniq (h:FW f p) (k:FW f g):p=g:=by
 have n:∀{a b:Nat},FW f a->FW f b->b≠0->(a=0\/b<a)->False:=λ{a b} s o l r=>by
  obtain⟨u,w,v⟩:=o.2.resolve_left l
  have:=s.1 b u (by grind)
  lia
 by_cases x:p=0
 ·grind
 ·grind
abbrev Mo:=Int×Int×Int×Int
inductive Mv (ps:Yd) (f:Int->Int):Ye->List Mo->Prop
 |done (ns:Ye):FW (ns.map f) 0->Mv ps f ns []
 |step (ns:Ye) (p:Nat) (ms:List Mo):FW (ns.map f) p->p≠0->Mv ps f (KY ns p) ms->Mv ps f ns (((p:Int),ns.getD (p-1) 0,ns.getD p 0,exM ps ns p)::ms)
def BG{f:Int->Int}{ns:Ye}{i}(h:i<ns.length):(ns.map f).getD i 0=f (ns.getD i 0):=by grind
noncomputable def Pb(f:Int->Int)(ns:Ye):Int:=N7 (ns.map λm=>(f m,1))
def Ru(f:Int->Int){ns p}(l:1<=p)(g:p<ns.length)(h:f (ns.getD p 0)<f (ns.getD (p-1) 0)):Pb f ns=Pb f (KY ns p)+1:=by
 obtain⟨A,x,y,B,e,_,o,n,ey⟩:=Zn4 l g;rw[n,ey]at h;rw[o,e];unfold Pb;rw[WZ,Qb,Qb,WZ,Qb,Qb];have k:=M1 (f x,1) (f y,1) (B.map λm=>(f m,1)) (A.map λm=>(f m,1));lia
theorem GB(f:Int->Int)(k:Int):∀l:Ye,0<=ltS k (l.map λm=>(f m,1))/\ltS k (l.map λm=>(f m,1))<=l.length
 |[]=>⟨QL 0,QL 0⟩
 |m::l=>by
  have:=GB f k l
  rw[Qb,Qa];unfold ltS;lia
theorem Sk(f:Int->Int):∀l,0<=Pb f l/\Pb f l<=(l.length:Int)*l.length
 |[]=>⟨QL 0,QL 0⟩
 |m::l=>by
  have g:=Sk f l;have h:=GB f (f m) l;unfold Pb at g ⊢;rw[Qb,Qa];unfold N7
  grind
noncomputable def toI:D->Int
 | .int i=>i
 |_=>0
noncomputable def mvN(f:List (Option Pu.S)):Nat:=match f[2]?,f[3]? with
 |some (some<|Pu.S.own<|Pu.O.lst g),some (some<|Pu.S.own<|Pu.O.lst h)=>(Pb (λm=>(g.map toI).getD (m-1).toNat 0)<|h.map toI).toNat
 |_,_=>0
def Gb(xs:Ye):(xs.map D.int).map toI=xs:=by
 rw[Q0];exact List.map_id _
end M
namespace Pu
open L2 Own M
noncomputable abbrev mvD(m:Mo):D:=.tup [.int m.1,.int m.2.1,.int m.2.2.1,.int m.2.2.2]
end Pu
namespace M
open L2 Own Pu
def Mv.len (h:Mv ps f ns l):(l.length:Int)<=Pb f ns:=by
 induction h with
 |done ns hw=>exact(Sk f ns).1
 |step ns p l o s v u=>
  obtain⟨r,g,n⟩:=o.2.resolve_left s;rw[WG]at g;rw[BG g,BG (by lia)]at n
  have:=Ru f r g n
  grind
end M
namespace Pu
open L2 Own
section
variable {X:Cx}{k j:Nat}{x:Str}{ps:Yl}{sp:Sp}{e a b c:Expr}{es:Ym}{t:TA}{te tf tg:TE}{p pos:Pos}
def fz(C:Callee X.prog X.w X.K X.mg X.base CX0 k x ps sp)(h:Xz j X.A)(r:PA X (e::es) t)(l:autoParam (k<=j) au_1)(n:autoParam (Gl X x) au_0)(g:autoParam ((x==("__debug__" : Str))=false) au_1)(o:autoParam (starEach (e::es) X.env=(false,eval e X.env)::starEach es X.env) au_0)(f:autoParam ((backTo pos<|starEach es X.env).any (·.1)=false) au_0) :
  PE X (.Call (.Name x p) (e::es) [] pos) (Nh sp [] E0 t):=Ai C (h.mono l) XT r n g o f
def jx(K:Yc)(g:PE X a te)(f:PE X b tf)(h:autoParam (X.K=K) au_0)(hs:autoParam (Ey b) au_7):PE X (.Subscript a b pos) (tOp (λx y H Q=>Sb K x y H Q\/SL K x y H Q) te tf):=Lg (M9 h) g f hs
def ln(K:Yc)(g:X.mg "len"=none)(l:PE X a te)(o:autoParam (X.K=K) au_0)(h:autoParam (Gl X "len") au_0)(hs:autoParam (starEach [a] X.env=(false,eval a X.env)::starEach [] X.env) au_0)(f:autoParam ((backTo pos<|starEach [] X.env).any (·.1)=false) au_0) :
  PE X (.Call (.Name "len" p) [a] [] pos) (tCB (λxs H Q=>∃x n,xs=[x]/\Ft K x H n/\Q (.int (n:Nat)) H)<|Kv te KP):=XW (Zhh o) h g PySem.boot_len (XY l KB hs) (by decide) rfl hs f
def cq(K:Yc)(f:Xz j X.A)(h:PE X a te)(g:PE X b tf)(l:autoParam (X.K=K) au_0):PT X (.Compare a [.Eq] [b] pos) (F5<|tOp (λx y H Q=>rEq x y H Q\/T1 K false x y H Q) te tf):=T8 (S9 f.units0 l) h g (Pj _)
def cn(K:Yc)(f:Xz j X.A)(h:PE X a te)(g:PE X b tf)(l:autoParam (X.K=K) au_0):PT X (.Compare a [.NotEq] [b] pos) (F5<|tOp (λx y H Q=>rNe x y H Q\/T1 K true x y H Q) te tf):=T8 (Zeb f.units0 l) h g (Pj _)
def az(f:PE X a te)(g:autoParam (starEach [a] X.env=(false,eval a X.env)::starEach [] X.env) au_0):PA X [a] (Kv te KP):=XY f KB g
def bz(g:PE X a te)(f:PE X b tf)(l:autoParam (starEach [a,b] X.env=(false,eval a X.env)::starEach [b] X.env) au_0)(h:autoParam (starEach [b] X.env=(false,eval b X.env)::starEach [] X.env) au_0):PA X [a,b] (Kv te<|Kv tf KP):=XY g (XY f KB h) l
def dz(h:PE X a te)(g:PE X b tf)(f:PE X c tg)(o:autoParam (starEach [a,b,c] X.env=(false,eval a X.env)::starEach [b,c] X.env) au_0)(n:autoParam (starEach [b,c] X.env=(false,eval b X.env)::starEach [c] X.env) au_0)(l:autoParam (starEach [c] X.env=(false,eval c X.env)::starEach [] X.env) au_0):PA X [a,b,c] (Kv te<|Kv tf<|Kv tg KP):=XY h (XY g (XY f KB l) n) o
end
section
variable {K:Yc}{mg:Yg}{E:L2.St->XK}{ta tb tc:TE}{a b c:PTE}
def sz(f:Xp K mg E ta a):XC K mg E (Kv ta KP) (Pe a Nb):=Kz f X6
def tz(g:Xp K mg E ta a)(f:Xp K mg E tb b):XC K mg E (Kv ta<|Kv tb KP) (Pe a<|Pe b Nb):=Kz g (sz f)
def uz(h:Xp K mg E ta a)(g:Xp K mg E tb b)(f:Xp K mg E tc c):XC K mg E (Kv ta<|Kv tb<|Kv tc KP) (Pe a<|Pe b<|Pe c Nb):=Kz h (tz g f)
end
section
variable {K:Yc}{h:Heap}{mg:Yg}{C C':Addr}{x m q:Str}{st:Stmt}{ps:Yl}
abbrev Bd(x q:Str)(st:Stmt)(ps:Yl):Prop:=∀(kV g n:Value) (p:Yp) (l o:Value) (f:Yk),f.length=ps.length->bindArgs (PySem.W.fnOf x q (Px st) (XU st) (Xq st) .none kV g n p l o) ⟨f,[]⟩=pure (ps.zip f)
def DI.e (D:DI K x st) (X:K.In h) (g:h.Ns mainGlobals mg) (b:Bd x x st ps:=by
  intro _ _ _ _ _ _ us f
  first
   |(obtain⟨_,rfl⟩:=Pu.BW f;rfl)
   |(obtain⟨_,_,rfl⟩:=Pu.Bb f;rfl)
   |(obtain⟨_,_,_,rfl⟩:=Pu.F9 f;rfl)
   |(obtain⟨_,_,_,_,rfl⟩:=Pu.Cn f;rfl)
   |(obtain⟨_,_,_,_,_,rfl⟩:=Pu.Zjb f;rfl)):Def K mg x st ps:=D.d X g b
def MI.e (D:MI K C m q st) (e:C'=C) (b:Bd m q st ps:=by
  intro _ _ _ _ _ _ us f
  first
   |(obtain⟨_,rfl⟩:=Pu.BW f;rfl)
   |(obtain⟨_,_,rfl⟩:=Pu.Bb f;rfl)
   |(obtain⟨_,_,_,rfl⟩:=Pu.F9 f;rfl)
   |(obtain⟨_,_,_,_,rfl⟩:=Pu.Cn f;rfl)):XD K (XB K C' m) m q st ps:=D.d e b
def MI.j (D:MI K C "__init__" q st) (e:C'=C) (mk:PySem.W.makesIn K C=true) (g:PySem.W.keepIn K (.ref C)=true) (b:Bd "__init__" q st ps:=by
  intro _ _ _ _ _ _ us f
  first
   |(obtain⟨_,rfl⟩:=Pu.BW f;rfl)
   |(obtain⟨_,_,rfl⟩:=Pu.Bb f;rfl)
   |(obtain⟨_,_,_,rfl⟩:=Pu.F9 f;rfl)):XD K (Mk K C') "__init__" q st ps:=D.i e mk g b
end
section
variable {P:Program}{w:World}{K:Yc}{mg:Yg}{base:Heap}{N ps:Yl}{sp:Sp}{p:PTS}{x q:Str}{st:Stmt}{k:Nat}{W:Addr->Prop}
structure Uz (K:Yc) (mg:Yg) (N ps:Yl) (sp:Sp) (p:PTS):Prop where
 len:∀vs H Q E,sp vs H Q E->vs.length=ps.length
 run:∀vs H Q E t,sp vs H Q E->X0 K mg (λ_=>E) t p->t {nx:=λ_ H'=>Q .non H',rt:=Q} (start N vs) H
def Uz.a (f:∀ds R X,c ds R X->ds.length=ps.length/\p {nx:=λ_=>R (.sh .non),rt:=R,ex:=λ_ e=>X e} (PN N ds)) (g:autoParam (ps.length<=N.length) au_1):Uz K mg N ps (Xv mg c K) p:=
 ⟨λ_ _ _ _ h=>Zhl h λds R X z=>(f ds R X z).1,λ_ _ _ _ _ h s=>Zkg h s g f⟩
def Uz.b (g:∀f R X,c f R X->f.length=ps.length/\p {nx:=λ_=>R (.sh .non),rt:=R,ex:=λ_ e=>X e} (N2 N f)) (l:autoParam (ps.length<=N.length) au_1):Uz K mg N ps (spS mg c K) p:=
 ⟨λ_ _ _ _ h=>Zc9 h λn R X z=>(g n R X z).1,λ_ _ _ _ _ h s=>Zbu h s l g⟩
def Uz.c {c y} (g:∀o f R X,c o f R X->f.length=ps.length/\p (MN o R X) (Nl N o f)) (l:autoParam (ps.length+1<=N.length) au_1):Uz K mg N (y::ps) (spW mg c K) p:=
 ⟨λ_ _ _ _ h=>Zh8 h λo n R X z=>(g o n R X z).1,λ_ _ _ _ _ h s=>Zm4 h s l g⟩
def Uz.d {c y z} (l:∀o1 f g R X,c o1 f g R X->g.length=ps.length/\p (Iv o1 f R X) (Tn N o1 f g)) (n:autoParam (ps.length+2<=N.length) au_1):Uz K mg N (y::z::ps) (Ny mg c K) p:=
 ⟨λ_ _ _ _ h=>Za0 h λo1 f o R X z=>(l o1 f o R X z).1,λ_ _ _ _ _ h s=>Zas h s n l⟩
def _root_.Own.Def.oz (D:Def K mg x st ps) (S:Xr N ps (Xq st))
  (l:∀f g A outer s H E,Xz k (A.deeper<|envOfC x (Xq st) s.heap.objs.size f g)->
   ∃t,PSs (Kf CX0 P w K mg base N x (Xq st) f g A outer s H E).nox (XU st) t/\X0 K mg (λ_=>E) t p) (u:Uz K mg N ps sp p):Callee P w K mg base CX0 (k+1) x ps sp:=
 D.ok S u.len λf g A outer s H o Q E n h=>(l f g A outer s H E n).elim λt z=>⟨t,z.1,u.run _ _ _ _ _ h z.2⟩
def _root_.Own.Def.ox (D:Def K mg x st ps) (S:Xr N ps (Xq st))
  (l:∀f g A outer s H E,Xz k (A.deeper<|envOfC x (Xq st) s.heap.objs.size f g)->
   ∃t,PSs (Kf (ExcR.CXe P w) P w K mg base N x (Xq st) f g A outer s H E) (XU st) t/\X0 K mg (λ_=>E) t p) (u:Uz K mg N ps sp p):Callee P w K mg base (ExcR.CXe P w) (k+1) x ps sp:=
 ExcR.Def.okX D S u.len λf g A outer s H o Q E n h=>(l f g A outer s H E n).elim λt z=>⟨t,z.1,u.run _ _ _ _ _ h z.2⟩
def XD.oz (D:XD K W x q st ps) (S:Xr N ps (Xq st))
  (l:∀f g A outer s H E,Xz k (A.deeper<|envOfC q (Xq st) s.heap.objs.size f g)->
   ∃t,PSs (Kf CX0 P w K mg base N q (Xq st) f g A outer s H E).nox (XU st) t/\X0 K mg (λ_=>E) t p) (u:Uz K mg N ps sp p):Pa P w K mg base CX0 (k+1) W ps sp:=
 D.ok S u.len λf g A outer s H o Q E n h=>(l f g A outer s H E n).elim λt z=>⟨t,z.1,u.run _ _ _ _ _ h z.2⟩
def XD.ox (D:XD K W x q st ps) (S:Xr N ps (Xq st))
  (l:∀f g A outer s H E,Xz k (A.deeper<|envOfC q (Xq st) s.heap.objs.size f g)->
   ∃t,PSs (Kf (ExcR.CXe P w) P w K mg base N q (Xq st) f g A outer s H E) (XU st) t/\X0 K mg (λ_=>E) t p) (u:Uz K mg N ps sp p):Pa P w K mg base (ExcR.CXe P w) (k+1) W ps sp:=
 D.okX S u.len λf g A outer s H o Q E n h=>(l f g A outer s H E n).elim λt z=>⟨t,z.1,u.run _ _ _ _ _ h z.2⟩
end
section
variable {K:Yc}{h:Heap}{mg:Yg}{x:Str}{C:Addr}
structure EI (K:Yc) (x:Str) (C:Addr):Prop where
 a:PySem.W.nsIn K mainGlobals x=some (some<|.ref C)
 g:ExcR.Ks K C
def ei(a:PySem.W.nsIn K mainGlobals x=some (some<|.ref C))(q:PySem.W.excIn K C [.type "ValueError",.type "Exception",.type "BaseException",.type "object"] "ValueError.__new__"=true)(g:PySem.W.findIn K (.ref C) "__getattribute__"=some (some<|.builtin "BaseException.__getattribute__"))(f:PySem.W.findIn K (.ref C) "__getattr__"=some none)(l:PySem.W.findIn K (.ref C) "__class__"=some (some<|.builtin "object.__class__"))(i:PySem.W.clsIn K C=some d):EI K x C:=⟨a,⟨⟨q⟩,g,f,l,by rw[i];rfl⟩⟩
def EI.c (y:EI K x C) (X:K.In h) (f:h.Ns mainGlobals mg):ExcR.Xs mg x=C:=ExcR.Cb (QE X f y.a)
def EI.m (y:EI K x C) (X:K.In h) (f:h.Ns mainGlobals mg):mg x=some (.ref<|ExcR.Xs mg x):=by rw[y.c X f];exact QE X f y.a
def EI.k (y:EI K x C) (X:K.In h) (f:h.Ns mainGlobals mg):ExcR.Ks K (ExcR.Xs mg x):=by rw[y.c X f];exact y.g
end
theorem NoFld.of:∀{xs:Yl},(xs.all λx=>!(m==x))=true->NoFld m xs
 |[],_,_|_::_,_,[]=>rfl
 |x::xs,h,v::f=>by
  rw[Jx,Q2]at h;show(match m==x with|true=>some v|false=>(xs.zip f).lookup m)=none
  rw[show(m==x)=false by simpa using h.1];exact NoFld.of h.2 f
theorem FldAt.of (n:(f==f)=true):∀{xs}{j:Nat},((xs.take j).all λx=>!(f==x))=true->xs[j]?=some f->FldAt f xs j
 |[],_,_,e,_,_=>by simp at e
 |_::_,_,_,_,[],e=>rfl
 |x::xs,0,_,e,v::g,_=>by
  simp_all
 |x::xs,j+1,h,e,v::g,l=>by
  rw[List.take_succ_cons,Jx,Q2]at h;show(match f==x with|true=>some v|false=>(xs.zip g).lookup f)=(v::g)[j+1]?
  rw[show(f==x)=false by simpa using h.1];exact FldAt.of n h.2 (by grind) g (by grind)
theorem PutAt.of:∀{xs:Yl},(xs.all λx=>decide (x≠f))=true->PutAt f xs
 |[],_,[],_,_=>rfl
 |[],_,_::_,_,e|_::_,_,[],_,e=>by cases e
 |x::xs,h,v::g,y,e=>by
  rw[Jx,Q2]at h;show(if x=f then(x,y)::xs.zip g else(x,v)::KH f y (xs.zip g))=(x,v)::(xs++[f]).zip (g++[y]);rw[WM (WN h.1),PutAt.of h.2 g y (by grind)]
end Pu
namespace Lam
open L2 Own
section
variable {X:Cx}{pins:Yf}{σ:L2.St}{H:Hp}{A:Around}{E:Yh}{s:Shared}{kS D:Addr}{vs:Yk}{kz:Ye}{keys:Array Value}{e e1:Nat}
def Zb8{H h a o}(x:HOk P w H h)(f:H a=none)(new:ObjOk P w (upd H a o) h a o):HOk P w (upd H a o) h:=λb u e=>by
 by_cases g:b=a
 ·subst g;rw[X9]at e;cases e;exact new
 ·rw[Xw g]at e;exact(x b u e).stay (λc v _ q=>q) (λc q=>by rw[Xw (K7 q f)];exact q) λc xs q=>by rw[Xw (K7 q f)];exact q
variable {P:PySem.Fin->Shared->Prop}
end
end Lam
namespace ExcR
open L2
open Sem (wp)
section
variable {prog:Program}{w:World}{A:Around}{E:Yh}{h:Heap}{g:Array GenState}{d:Drawn}{t:Nat}{os:OsState}
variable {nm q:Str}{C N:Addr}{bs bm bmB:Yk}{hdct:Bool}{sn:Yl}{sub:Yk}{ab:Bool}{col:Option Bool}{dd:Yp}{k0 k1 k2 k3 k5:Yo}{B Bn newId nid initId inN:String}{bmN:Yk}
noncomputable def T9(C t:Addr)(f:Yp):Obj:={cls:=.ref C,dict:=f,data:=.fields #[.ref t,.none,.none,.none,.bool false,.none]}
def Zmx(H:ExcBaseFacts Bn newId inN bmN)(u:bmB.contains (.type Bn)=true)(F:ExcBaseFacts B nid initId bmB)(T:OwnTail h bmB bm){M rest fI L Q}(s:h.get? C=some (excClassObj nm q C N bs bm hdct sn sub ab col dd k0 k1 k2 k3 k5 newId))(hn:h.Ns N M)(hi:M "__init__"=some (.ref fI))(z:h.get? fI=some L)(y:L.cls=.type "function")(hq:∀U e,Heap.MadeExcOf h U e (.ref C) rest->wpAny (model prog w) A (call (.ref fI) (.ref e::rest)) (λr J=>r=.none/\Q (.done<|.ret<|.ref e) J) E ⟨U,g,d,t,os⟩)(hrest:autoParam (rest.length<=sizeLine) au_8) :
  wpAny (model prog w) A (Builtin.«type.__call__» ⟨.ref C::rest,[]⟩) Q E ⟨h,g,d,t,os⟩:=by
 repeat (first|with_reducible refine Q8 s ?_|with_reducible refine wpAny_madeBy_exc s ?_|wp_step)
 refine codeAny_call_builtin_code (Jc _ H.quiet) (wpAny_check_new_subU H u T s ?_);refine codeAny_exc_new_subU H u F T s ?_ hrest;show wpAny _ _ _ _ _ _
 have k:∀b o,h.get? b=some o->((h.push {cls:=.type "tuple",data:=.seq rest.toArray}).push {cls:=.ref C,data:=.fields #[.ref h.objs.size,.none,.none,.none,.bool false,.none]}).get? b=some o:=
  λb o e=>WL _ (WL _ e)
 have f:=k _ _ s;have l:=k _ _ z;have p:=hn.keeps k;have v:=T.keeps k
 have n:((h.push {cls:=.type "tuple",data:=.seq rest.toArray}).push
   {cls:=.ref C,data:=.fields #[.ref h.objs.size,.none,.none,.none,.bool false,.none]}).get? (h.objs.size+1)=some
   {cls:=.ref C,data:=.fields #[.ref h.objs.size,.none,.none,.none,.bool false,.none]}:=by heap_get
 have G:(Value.ref C::bm).contains (.ref C)=true:=by simp
 unfold isInstance
 repeat (first|with_reducible refine Q8 n ?_|(with_reducible refine VD f ?_;rw[G])|wp_step)
 show wpAny _ _ (typeLookup (.ref C) _) _ _ _;refine wpAny_typeLookup_tail f p v F.mroIs F.init.lookup ?_;rw[hi];refine QU (WE ?_);unfold bindSpecial;refine WE (wpAny_typeOf ⟨_,l,y⟩ ?_);rw[WO (by decide)];refine WK (WE (Qz (hq _ (h.objs.size+1) ⟨k,V5 (VJ _),h.objs.size,n,V5 (WQ _),?_⟩) (λr J Y=>?_) λ_ _ x=>x))
 ·exact WL _ (Heap.get?_push_at rfl rfl)
 ·obtain⟨rfl,hQ⟩:=Y
  wp_walk
  exact hQ
def Zku(G:ExcBaseFacts Bn newId inN bmN)(p:bmB.contains (.type Bn)=true)(F:ExcBaseFacts B nid initId bmB)(T:OwnTail h bmB bm){u rest fI s Q}(f:h.get? C=some (excClassObj nm q C N bs bm hdct sn sub ab col dd k0 k1 k2 k3 k5 newId))(x:h.Ns N u)(z:u "__init__"=some (.ref fI))(o:h.get? fI=some s)(n:s.cls=.type "function")(hq:∀l e,Heap.MadeExcOf h l e (.ref C) rest->wpAny (model prog w) (A.under<|.builtin "type.__call__" ⟨.ref C::rest,[]⟩) (call (.ref fI) (.ref e::rest)) (λr v=>r=.none/\Q (.ref e) v) E ⟨l,g,d,t,os⟩)(hrest:autoParam (rest.length<=sizeLine) au_8) :
  wpAny (model prog w) A (call (.ref C) rest) Q E ⟨h,g,d,t,os⟩:=by
 have f1:=tc_lookup;have J:=tc_bind (.ref C);have H:(⟨h,g,d,t,os⟩:Shared).TypeIs (.ref C) "type":=⟨_,f,rfl⟩;refine JA (codeAny_of_tree ?_);show wpAny _ _ (callAny (.ref C) _) _ _ _
 repeat (any_goals (first|assumption|with_reducible refine Q8 f ?_|wp_step))
 refine⟨rfl,?_⟩;refine codeAny_call_builtin_at (Jc _<|by decide +kernel) entry_typeCall (wpAny_check_type_call_sub f (Zmx (hrest:=hrest) G p F T f x z o n λl e y=>?_));exact hq l e y
end
section
variable {prog:Program}{w:World}{A:Around}{E:Yh}{s:Shared}{env:Env}
variable {nm q:Str}{C N:Addr}{bs bm bmB:Yk}{hdct:Bool}{sn:Yl}{sub:Yk}{ab:Bool}{col:Option Bool}{dd:Yp}{k0 k1 k2 k3 k5:Yo}{B Bn newId nid initId inN:String}{bmN:Yk}
def Zi7(l:bm.contains (.type "BaseException")=true)(y:A.handled=none)(h:wpAny (model prog w) A x (λv f=>∃e t u,v=.ref e/\f.heap.get? C=some (excClassObj nm q C N bs bm hdct sn sub ab col dd k0 k1 k2 k3 k5 newId)/\f.heap.get? e=some (T9 C t u)/\E (.ref e) f) E s) :
  wpAny (model prog w) A (raiseStmt env (some x) none) Q E s:=by
 have o:(Value.ref C::bm).contains (.type "BaseException")=true:=by rw[VH,l,Bool.or_true]
 unfold raiseStmt;refine WE (Qz h (λv f n=>?_) λ_ _ x=>x);obtain⟨e,t,u,rfl,r,p,z⟩:=n;obtain⟨H,g,d,G,os⟩:=f;unfold T9 at p
 repeat (first|with_reducible refine Q8 p ?_|with_reducible refine Q8 r ?_|(with_reducible refine VD r ?_;rw[o])|wp_step)
 exact wpAny_raiseNew_none y z
def Zkb(Fn:ExcBaseFacts Bn newId inN bmN)(Y:bmB.contains (.type Bn)=true)(F:ExcBaseFacts B nid initId bmB){mN x np cpos pos args fI oI Q}(u:bm.contains (.type "BaseException")=true)(hh:A.handled=none)(o:(backTo cpos<|starEach args env).any (·.1)=false)(hi:mN "__init__"=some (.ref fI))(L:oI.cls=.type "function")
  (h:wpAny (model prog w) A (eval (.Name x np) env) (λf p=>f=.ref C/\wpAny (model prog w) A (evalArgs (.ref C) true (backTo cpos<|starEach args env) [])
   (λa g=>a.kw=[]/\a.pos.length<=sizeLine/\g.heap.get? C=some (excClassObj nm q C N bs bm hdct sn sub ab col dd k0 k1 k2 k3 k5 newId)/\g.heap.Ns N mN/\OwnTail g.heap bmB bm/\g.heap.get? fI=some oI/\
    ∀H e,Heap.MadeExcOf g.heap H e (.ref C) a.pos->wpAny (model prog w) (A.under<|.builtin "type.__call__" ⟨.ref C::a.pos,[]⟩) (call (.ref fI) (.ref e::a.pos))
     (λr G=>r=.none/\G.heap.get? C=some (excClassObj nm q C N bs bm hdct sn sub ab col dd k0 k1 k2 k3 k5 newId)/\(∃t dx,G.heap.get? e=some (T9 C t dx))/\E (.ref e) G) E {g with heap:=H}) E p) E s) :
  wpAny (model prog w) A (exec (.Raise (some<|.Call (.Name x np) args [] cpos) none pos) env) Q E s:=by
 refine WE (VT<|Zi7 (C:=C) (nm:=nm) (q:=q) (N:=N) (bs:=bs) (hdct:=hdct) (sn:=sn) (sub:=sub) (ab:=ab) (col:=col) (dd:=dd) (k0:=k0) (k1:=k1) (k2:=k2) (k3:=k3) (k5:=k5) (newId:=newId) u hh<|WE (Qz (wpAny_Call_ofName (Qz h (λf p n=>?_) λ_ _ x=>x)) (λv s₃ y=>WE (VT<|WK y)) λ_ _ x=>x));obtain⟨rfl,n⟩:=n;refine WE (QU (Qz n (λa g l=>WE (VT ?_)) λ_ _ x=>x));obtain⟨apos,akw⟩:=a;obtain⟨J,hlen,hC,hn,T,M,l⟩:=l;obtain rfl:=J;simp only[o];refine WE (wpAny_keeperOf_exc hC ?_);refine WE (Zku Fn Y F T hC hn hi M L λH e hm=>Qz (l H e hm) (λr G z=>?_) λ_ _ x=>x);obtain⟨rfl,U,⟨t,dx,he⟩,hE⟩:=z;exact⟨rfl,WE (QU<|wpAny_point<|WK ⟨e,t,dx,rfl,U,he,hE⟩)⟩
end
end ExcR
namespace ExcR
open L2
open Sem (wp)
open Builtin Builtin.ObjectAttr
noncomputable def SN:Yk:=[.type "ValueError",.type "Exception",.type "BaseException",.type "object"]
noncomputable def Bp:Yk->Bool
 | .ref _::r=>Bp r
 |l=>l==SN
theorem RO(self:Value):∀{l:Yk},Bp l=true->refuseLoop self "__setattr__" l=pure ()
 | .ref c::r,e=>by rw[refuseLoop_ref];exact RO self e
 |[],e=>rfl
 | .type n::r,e=>by
  have:=beq_iff_eq.mp e
  rw[this];exact PySem.F.store_ValueError.passes self
theorem IV:∀{l:Yk},Bp l=true->l.contains (.type "object")=true
 | .ref c::r,e=>by rw[VH,IV (l:=r) e,Bool.or_true]
 |[],e=>by cases e
 | .type n::r,e=>by
  have:=beq_iff_eq.mp e
  rw[this];decide
structure Aa (K:Yc) (C:Addr):Prop where
 po:(PySem.W.clsIn K C).any (λcd=>Bp cd.mro&&cd.hasDict)=true
 sa:PySem.W.findIn K (.ref C) "__setattr__"=some (some<|.builtin "object.__setattr__")
section
variable {prog:Program}{w:World}{A:Around}{E:Yh}{s:Shared}{K:Yc}{x C t:Addr}{name:Str}{v:Value}
def Zcm(X:K.In s.heap)(hx:s.heap.get? x=some (T9 C t none))(c:Aa K C)(n:NoAttr K C name)
  (h:∀g,g.get? x=some (T9 C t<|some s.heap.objs.size)->g.Ns1 s.heap.objs.size (λy=>if y=name then some v else none)->(∀b o,b≠x->s.heap.get? b=some o->g.get? b=some o)->s.heap.objs.size<=g.objs.size->
   Q () {s with heap:=g,toks:=s.toks+2}):wpAny (model prog w) A (setAttr (.ref x) name v) Q E s:=by
 have u:=PySem.F.store_object;have J:PySem.W.InstAt s.heap x (T9 C t none) C none:=⟨hx,rfl,rfl,True.intro⟩;obtain⟨Y,T,l⟩:=Jy c.po;obtain⟨l,M⟩:=(Q2 _ _▸l:_/\_);have ne:Y.mro.isEmpty=false:=by cases q:Y.mro with|nil=>rw[q]at l;cases l|cons _ _=>rfl
 have sub:PySem.W.Looks (model prog w) s.heap (isInstance (.ref x)<|.type "object") true:=J.type.andThen (PySem.W.looks_mroIn X<|by unfold PySem.W.mroIn;rw[T,Option.bind_some,WM (by rw[ne];decide),IV l]);have hm:PySem.W.Looks (model prog w) s.heap (mroOf<|.ref C) Y.mro:=(JJ X T).andThen .now;refine PySem.W.set_plain X J c.sa (V6 u.slot.plain u.entry (@PySem.W.check_slot (model prog w) _ _ {s with toks:=s.toks+1} "object.__setattr__" "object" "__setattr__" (.ref x) [.str name s.toks,v] [] _ u.kind u.split sub (u.args (.ref x) (.str name s.toks) v) ?_))
 rw[PySem.W.osa_eq,refuse_eq];refine WE (WE<|J.type.here (s:={s with toks:=s.toks+1})<|WE<|hm.here (s:={s with toks:=s.toks+1}) ?_)
 rw[RO _ l];refine WK (WE<|J.type.here (s:={s with toks:=s.toks+1})<|WE<|JP (QS X n)<|WE<|WK ?_)
 refine WE (WK<|WE<|WE<|wpAny_loadPart hx<|WE<|JP (JJ X T) ?_);rw[M];have f:(s.heap.push {cls:=.type "dict",data:=.dict #[]}).get? x=some (T9 C t none):=WL _ hx;have p:=Qj (WW hx);refine WE (wpAny_alloc' ?_);refine WE (wpAny_update' f ?_);refine WK ?_
 have H:((s.heap.push {cls:=.type "dict",data:=.dict #[]}).update x λo=>{cls:=o.cls,dict:=some s.heap.objs.size,data:=o.data,slots:=o.slots}).get? s.heap.objs.size
   = some {cls:=.type "dict",data:=.dict #[]}:=
  (Heap.get?_update_ne _ _ _ _ p.symm).trans (Heap.get?_push_at rfl rfl)
 have G:((s.heap.push {cls:=.type "dict",data:=.dict #[]}).update x λo=>{cls:=o.cls,dict:=some s.heap.objs.size,data:=o.data,slots:=o.slots}).Ns s.heap.objs.size (λ_=>none):=
  ⟨_,#[],_,H,rfl,λe he=>absurd he (by simp),λ_=>rfl⟩
 refine WE (WK<|WE (wpAny_nsSet1 (Heap.Ns1.of_empty G) λg r z=>?_));obtain⟨oD,esD,epD,B,L,N⟩:=r.count (Within.cons name v Within.nil);refine WE (wpAny_lookBehind B (by rw[L];exact pastItsLine_dict (WV N<|by rw[Qa,List.length_nil,Jt];lia)) ?_);refine WK (h g ?_ r (λb ob U hb=>?_) ?_)
 ·refine(z.2 x p).trans (Q5 _ f rfl)
 ·exact(z.2 b<|Qj<|WW hb).trans ((Heap.get?_update_ne _ _ _ _ U).trans (WL _ hb))
 ·rw[z.1,Heap.size_update,Vo];exact VJ _
end
end ExcR
namespace ExcR
open L2
open Sem (wp)
open Builtin Builtin.ObjectAttr
section
variable {prog:Program}{w:World}{A:Around}{E:Yh}{h:Heap}{g:Array GenState}{d:Drawn}{t:Nat}{os:OsState}{a C dx:Addr}{o:Obj}{K:Yc}{name:Str}{v:Value}{mA:Yg}
def Zdh(k:K.In h)(p:PySem.W.hasDictIn K C=true)(hx:h.get? a=some o)(s:o.cls=.ref C)(hd:o.dict=some dx)(l:PySem.W.notCls o=true)(ns:h.Ns1 dx mA)(u:mA name=some v) :
  PySem.W.Looks (model prog w) h (inOwnDict name<|.ref a) (some v):=by
 obtain⟨od,n,x⟩:=LU ns;obtain⟨y,f,r⟩:=Jy p;refine PySem.W.looks_own k (od:=some od) ⟨hx,s,l,by rw[hd];exact n⟩ f ?_;unfold PySem.W.ownOf
 grind
def Zpc{Q}(k:K.In h)(r:PySem.W.hasDictIn K C=true)(n:NoAttr K C name)(hx:h.get? a=some o)(f:o.cls=.ref C)(hd:o.dict=some dx)(l:PySem.W.notCls o=true)(ns:h.Ns1 dx mA)(p:mA name=some v)(hq:Q (.done<|.ret v) ⟨h,g,d,t,os⟩):wpAny (model prog w) A (Builtin.«object.__getattribute__» ⟨[.ref a,.str name s],[]⟩) Q E ⟨h,g,d,t,os⟩:=by
 have L:=QS (M:=model prog w) k n
 repeat (any_goals (first|assumption|(with_reducible refine Q8 hx ?_;rw[f])|with_reducible refine L.at ?_|with_reducible refine(Zdh (prog:=prog) (w:=w) k r hx f hd l ns p).at ?_|wp_step))
def Zm1{fill expr Q}(k:K.In h)(G:PySem.W.findIn K (.ref C) "__getattribute__"=some (some<|.builtin "BaseException.__getattribute__"))(B:PySem.W.findIn K (.ref C) "__getattr__"=some none)(H:∀{A E t u} {Q:Unit->Shared->Prop},Q () ⟨h,g,d,t,os⟩->wpAny (model prog w) A (checkBuiltinCall "BaseException.__getattribute__" ⟨[.ref a,u],[]⟩) Q E ⟨h,g,d,t,os⟩)(z:PySem.W.hasDictIn K C=true)(n:NoAttr K C name)(hx:h.get? a=some o)(p:o.cls=.ref C)(hd:o.dict=some dx)(s:PySem.W.notCls o=true)(ns:h.Ns1 dx mA)(y:mA name=some v)(l:PySem.W.handedIn v=true)(hq:Q v ⟨h,g,d,t,os⟩):wpAny (model prog w) A (getAttrBy (.ref a) (.str name N) fill expr) Q E ⟨h,g,d,t,os⟩:=by
 have f0:=F.attrBase_ValueError.ga.bind (.ref a);have x:(expr&&onTheHeap (Value.builtin "BaseException.__getattribute__"))=false:=by cases expr<;>rfl
 have r:(Value.builtin "BaseException.__getattribute__" == Value.builtin "object.__getattribute__")=false:=by decide +kernel
 have J:(onTheHeap (Value.ref C)&&Value.builtin "BaseException.__getattribute__" == Value.builtin "object.__getattribute__")=false:=by rw[r];rfl
 have L:=QS (M:=model prog w) k G;have L2:=QS (M:=model prog w) k B
 repeat (any_goals (first|assumption|(with_reducible refine Q8 hx ?_;rw[p])|with_reducible refine L.at ?_|with_reducible refine L2.at ?_|wp_step))
 refine V6 F.attrBase_ValueError.ga.plain F.entry_bexc_ga (H<|Zpc k z n hx p hd s ns y ?_);have f:=PySem.W.handedOut_of l;unfold handedOut at f
 repeat (any_goals (first|assumption|rw[f]|wp_step))
def Zin{Q}(k:K.In h)(y:PySem.W.findIn K (.ref C) "__getattribute__"=some (some<|.builtin "BaseException.__getattribute__"))(x:PySem.W.findIn K (.ref C) "__getattr__"=some none)(z:∀{A E t u} {Q:Unit->Shared->Prop},Q () ⟨h,g,d,t,os⟩->wpAny (model prog w) A (checkBuiltinCall "BaseException.__getattribute__" ⟨[.ref a,u],[]⟩) Q E ⟨h,g,d,t,os⟩)(r:PySem.W.hasDictIn K C=true)(n:NoAttr K C name)(hx:h.get? a=some o)(s:o.cls=.ref C)(hd:o.dict=some dx)(l:PySem.W.notCls o=true)(ns:h.Ns1 dx mA)(p:mA name=some v)(f:PySem.W.handedIn v=true)(hq:Q v ⟨h,g,d,t+1,os⟩):wpAny (model prog w) A (getAttr (.ref a) name expr) Q E ⟨h,g,d,t,os⟩:=by
 repeat (any_goals (first|assumption|with_reducible apply Zm1 k y x z r n hx s hd l ns p f|wp_step))
end
end ExcR
namespace ExcR
open L2
section
variable {X:Cx}{pins:Yf}{σ:L2.St}{H:Hp}{s:Shared}{a b:Addr}
def IP(I:Inv X pins σ H s)(n:H b=none)(E:b≠X.env.locals)(C:∀x c,X.env.cells.lookup x=some c->c≠b)(B:∀p∈X.pn++pins,p.1≠b)(A:∀c u,X.s₀.heap.get? c=some u->c≠b)(new:ObjOk X.prog X.w (upd H b o) s.heap b o):Inv X pins σ (upd H b o) s:=by
 refine⟨I.ok,I.os,I.bare,⟨λc u g h f r=>I.base.keep c u g h f r,λc u g h f r=>I.base.slot c u g h f r,λc u g h f=>?_,I.base.there,λc y g=>?_,λc u v g=>?_,λc z g=>?_⟩,I.loc,I.cell,?_,λx c g=>?_,λp l=>?_,?_,I.len⟩
 ·rw[Xw (A c u g)];exact I.base.free c u g h f
 ·rw[Xw (K7 (I.base.tups c y g) n)];exact I.base.tups c y g
 ·rw[Xw (K7 (I.base.frzs c u v g) n)];exact I.base.frzs c u v g
 ·obtain⟨m,q⟩:=I.base.tbls c z g;exact⟨m,by rw[Xw (K7 q n)];exact q⟩
 ·rw[Xw (Ne.symm E)];exact I.free
 ·rw[Xw (C x c g)];exact I.freeC x c g
 ·obtain⟨a1,a2,a3,a4,a5⟩:=I.pin p l;exact⟨a1,by rw[Xw (B p l)];exact a2,a3,a4,a5⟩
 ·exact Lam.Zb8 I.hok n new
def Zml(I:Inv X pins σ H s)(hex:X.ex=[])(h:s.heap.get? b=none)(k:∀c u,s.heap.get? c=some u->l.get? c=some u)(new:ObjOk X.prog X.w (upd H b o) l b o) :
  Inv X pins σ (upd H b o) {s with heap:=l,toks:=t'}:=by
 have g:∀{c u},s.heap.get? c=some u->c≠b:=λ{c u} e z=>by rw[z,h]at e;cases e
 refine IP (I.kept k) (A0 I.hok h) ?_ (λx c e=>?_) (λp n=>g (I.pin p n).1) (λc u e=>?_) new
 ·obtain⟨m,⟨o1,y,A,f,_⟩,_⟩:=I.loc
  grind
 ·obtain⟨v,o1,f,_⟩:=I.cell x c e
  grind
 ·obtain⟨r,f⟩:=I.base.there c u e (by grind);exact g f
noncomputable def er(H:Hp)(a:Addr):Hp:=λb=>if b=a then none else H b
def Ab:er H a a=none:=by unfold er;rw[WO rfl]
def N4(h:b≠a):er H a b=H b:=by unfold er;rw[WM h]
def Zm0(h:er H a b=some o):H b=some o:=by
 by_cases z:b=a
 ·rw[z,Ab]at h;cases h
 ·rw[N4 z]at h;exact h
def forget(I:Inv X pins σ H s)(G:H a=some (.ext φ)):Inv X pins σ (er H a) s:=by
 have f:∀{c o},H c=some o->(∀B,o≠HO.ext B)->c≠a:=λ{c o} e n z=>by rw[z,G]at e;exact n _ (WY e).symm
 have r:∀{c},H c=none->er H a c=none:=λ{c} e=>by
  by_cases z:c=a
  ·rw[z];exact Ab
  ·rw[N4 z];exact e
 refine⟨I.ok,I.os,I.bare,⟨λc u g l h y=>I.base.keep c u g l h y,λc u g l h y=>I.base.slot c u g l h y,λc u g l h=>r (I.base.free c u g l h),I.base.there,λc C g=>?_,λc u v g=>?_,λc E g=>?_⟩,I.loc,I.cell,r I.free,λx c g=>r (I.freeC x c g),λp A=>?_,λc o e=>?_,I.len⟩
 ·have q:=I.base.tups c C g;rw[N4 (f q λ_ z=>nomatch z)];exact q
 ·have q:=I.base.frzs c u v g;rw[N4 (f q λ_ z=>nomatch z)];exact q
 ·obtain⟨m,q⟩:=I.base.tbls c E g;exact⟨m,by rw[N4 (f q λ_ z=>nomatch z)];exact q⟩
 ·obtain⟨a1,a2,a3,a4,a5⟩:=I.pin p A
  grind
 ·refine(I.hok c o<|Zm0 e).stay (λ_ _ _ z=>z) (λd z=>?_) λd xs z=>?_
  ·rw[N4 (f z λ_ w=>nomatch w)];exact z
  ·rw[N4 (f z λ_ w=>nomatch w)];exact z
def Zot(I:Inv X pins σ H s)(h:H l=some (.lst xs)):∃o,Inv X pins σ (upd H l<|.frz o<|.lst xs) s:=by
 obtain⟨z,f,n,r,e⟩:=(I.hok l _ h);exact⟨_,Fx I (by rw[h];trivial) ⟨rfl,λ_ _=>rfl⟩ ⟨_,e⟩ ⟨e,z,f,n,r,e⟩⟩
end
def Zfe(K:Yc)(C f:Addr):Prop:=∃(s:Yp) (g:ClassData) (sl:Array (Yo)) (h:Yk) (r p o n l:Yo),K.lookup C=some ⟨.type "type",s,.cls g,sl⟩/\g.mro=.ref C::h/\
 sl.toList=[r,p,o,n,some (.builtin "ValueError.__new__"),l]/\g.hasDel=false/\PySem.W.tailIn K SN h=true/\PySem.W.nsOkIn K g.ns=true/\PySem.W.nsIn K g.ns "__init__"=some (some<|.ref f)
def Zqw{K h N f n v}(X:K.In h)(G:h.Ns N f)(e:PySem.W.nsIn K N n=some (some v)):f n=some v:=by
 obtain⟨o,u,w,r,hd,_,g⟩:=G;unfold PySem.W.nsIn at e;split at e
 ·rename_i c d l p sl q
  have:=X _ _ q
  split at e
  ·rename_i x s;rw[←g];unfold nsFind findBy
   grind
  ·grind
 ·cases e
structure KQ (K:Yc) (C f:Addr):Prop where
 q:Zfe K C f
 fn:PySem.W.typeIn K (.ref f)=some (.type "function")
 st:Aa K C
 ga:PySem.W.findIn K (.ref C) "__getattribute__"=some (some<|.builtin "BaseException.__getattribute__")
 gt:PySem.W.findIn K (.ref C) "__getattr__"=some none
 nm:NoAttr K C "members"
 cl:PySem.W.findIn K (.ref C) "__class__"=some (some<|.builtin "object.__class__")
def KQ.hd {K C f} (c:KQ K C f):PySem.W.hasDictIn K C=true:=by
 obtain⟨l,h,g⟩:=Jy c.st.po;unfold PySem.W.hasDictIn
 grind
def KQ.obj {K C f h} (c:KQ K C f) (k:K.In h):∃g N nm q bs hdct sn sub ab col dd k0 k1 k2 k3 k5 o,h.get? C=some (excClassObj nm q C N bs g hdct sn sub ab col dd k0 k1 k2 k3 k5 "ValueError.__new__")/\h.Ns N o/\o "__init__"=some (.ref f)/\
  OwnTail h SN g:=by
 obtain⟨dd,B,sl,g,k0,k1,k2,k3,k5,y,p,E,u,z,n,s⟩:=c.q;have r:=k _ _ y;cases B with
 |mk nm bs x w v hd sn sub ab col A=>
  simp only at p u n s;have l:sl=#[k0,k1,k2,k3,some (.builtin "ValueError.__new__"),k5]:=by grind
  rw[p,u,l]at r;exact⟨g,w,nm,v,bs,hd,sn,sub,ab,col,dd,k0,k1,k2,k3,k5,_,r,.of_isNs (JS k n),Zqw k (.of_isNs<|JS k n) s,PySem.W.tail_of_in k z⟩
noncomputable def PK(a C t:Addr)(f:Yp):HO:=.ext λh=>h.get? a=some (T9 C t f)
def G4{a C t f}(e:h.get? a=some (T9 C t f)):ObjOk P w H h a (PK a C t f):=⟨e,⟨_,e⟩,λ_ _ q k=>k _ q⟩
noncomputable def G6(K:Yc)(f:Str)(p te:TE):TS:=λD h H=>te h H λy r=>p h r λx g=>∃a C t l xs,x=.ref a/\y=.ref l/\g a=some (PK a C t none)/\Aa K C/\NoAttr K C f/\g l=some (.lst xs)/\
 ∀o n,g n=none->D.nx h (upd (upd (upd g l<|.frz o<|.lst xs) a<|PK a C t<|some n) n<|.xd [(f,.ref l)])
def Zpa{pos p}{N M}(ha:PE X o N)(hv:PE X value M)(hs:swapsWith value (some<|.Attribute o f p) pos.line X.env=pure false):PS X (.Assign [.Attribute o f p] value pos) (G6 X.K f N M):=by
 intro pins s w H D I h;refine plainObj_wpAny_Assign_Attribute (thn (hv pins s w H _ I h) ?_) hs;rintro u Y ⟨y,H1,I1,ry,q⟩;refine thn (ha pins Y w H1 _ I1 q) ?_;rintro ov A ⟨x,L,v,rx,a,C,t,l,xs,ex,ey,E,c,n,T,q2⟩;subst ex ey;obtain rfl:=rx;obtain rfl:=ry;obtain⟨B,J⟩:=Zot v T;have G:upd L l (.frz B<|.lst xs) a=some (PK a C t none):=by rw[Xw (D1 E T λz=>nomatch z)];exact E
 have Q:=v.hok.fresh (WQ _);refine Zcm v.kIn ((v.hok a _ E).1) c n λh' U h2 h3 h4=>?_;have f0:=J.fpOk (H':=upd (upd L l<|.frz B<|.lst xs) a (PK a C t<|some A.heap.objs.size)) (WQ _) (by rw[Xw (K7 E Q |>.symm)];exact(J.hok.fresh<|WQ _))
 have I4:Inv X pins w (upd (upd L l<|.frz B<|.lst xs) a<|PK a C t<|some A.heap.objs.size) {A with heap:=h',toks:=A.toks+2}:=
  J.write (by rw[G];exact True.intro) (.inl rfl) (λb q r z=>h3 b q r z) ⟨_,U⟩ (G4 U)
 have I5:=IP (o:=.xd [(f,.ref l)]) I4 f0.1 f0.2.1 f0.2.2.2.2.1 f0.2.2.2.2.2 (λc u e z=>by
  have:=WW e
  rw[z]at this
  exact absurd (Qn this v.sz) (QT _)) ⟨_,h2,λg=>by
   by_cases r:g=f
   ·subst r;simp only[List.lookup,beq_self_eq_true];exact rfl
   ·rw[WM r];simp only[List.lookup,Vm.mpr r];exact True.intro⟩
 exact⟨w,_,I5,q2 B _ Q⟩
noncomputable def Ro(K:Yc)(f:Str)(o:TE):TE:=λn H Q=>o n H λx h=>∃a C g l fs v,x=.ref a/\h a=some (Pf a C<|some l)/\KQ K C g/\NoAttr K C f/\h l=some (.xd fs)/\fs.lookup f=some v/\Q v h
def Zox{h g d t os a C f o K v Q}(k:K.In h)(G:KQ K C f)(hx:h.get? a=some o)(r:o.cls=.ref C)(hq:Q () ⟨h,g,d,t,os⟩) :
  wpAny (model prog w) A (checkBuiltinCall "BaseException.__getattribute__" ⟨[.ref a,v],[]⟩) Q E ⟨h,g,d,t,os⟩:=by
 obtain⟨B,N,J,q,bs,n,H,sub,ab,z,dd,k0,Y,U,T,M,L,u,hN,p,s⟩:=G.obj k;have l:(Value.ref C::B).contains (.type "BaseException")=true:=by rw[VH,s.hasType (b:=true) (by decide +kernel)];rfl
 have y:builtinKind "BaseException.__getattribute__"=some .slot:=by decide +kernel
 have x:splitId "BaseException.__getattribute__"=some ("BaseException","__getattribute__"):=by decide +kernel
 have e3:=F.args_bexc_ga (.ref a) v;simp only[checkBuiltinCall,y,x];refine WE ?_;unfold isInstance
 repeat (first|(with_reducible refine Q8 hx ?_;rw[r])|(with_reducible refine VD u ?_;rw[l])|wp_step)
 exact hq
def Ba{ta}(L:PE X e ta)(M:attributeBase e f X.env (eval e X.env)=eval e X.env):PE X (.Attribute e f pos) (Ro X.K f ta):=by
 intro pins s B H Q I h;refine Ij M (thn (L pins s B H _ I h) ?_);rintro u s1 ⟨x,H1,r,E,a,C,g,Y,fs,v,T,U,c,n,hd,l,q⟩;subst T;obtain rfl:=E;obtain⟨⟨o,A,z,vs,N⟩,_⟩:=(r.hok a _ U);obtain⟨mA,J,G⟩:=(r.hok Y _ hd);obtain⟨w,hw,p⟩:=RelO.some_of (by rw[←l];exact G f);have y:=Q4 Prod.fst z;refine Zin r.kIn c.ga c.gt (λhq=>Zox r.kIn c A y hq) c.hd n A y (Q4 Prod.snd z) (by unfold PySem.W.notCls;rw[N]) J hw (Oh p) ⟨v,H1,r.tok _,p,q⟩
def Mt(X:Cx)(E:XK):Prop:=∀(pins:Yf) (g:L2.St) (H:Hp) (s:Shared) (C a t:Addr) (f:Yp),Inv X pins g H s->s.heap.get? a=some (T9 C t f)->H a=none->X.s₀.heap.get? a=none->E (.ref C) f H->X.xe (.ref a) s
noncomputable def Bl(K:Yc):Sp:=λg H Q _=>∃(a C t p:Addr) (xs:List V),g=[.ref a,.ref p]/\H a=some (PK a C t none)/\SqL K H p xs/\Aa K C/\NoAttr K C "members"/\
 ∀(l f:Addr) (o:Obj),H l=none->H f=none->f≠l->Q .non (upd (upd (upd H l<|.frz o<|.lst xs) a<|PK a C t<|some f) f<|.xd [("members",.ref l)])
noncomputable def Lr(K:Yc)(C:Addr)(E:XK)(t:TA):TS:=λ_ h H=>t h H λn g=>∃(p:Addr) (xs:List V),n=[.ref p]/\SqL K g p xs/\
 ∀(l f:Addr) (o:Obj),g l=none->g f=none->f≠l->E (.ref C) (some f) (upd (upd g l<|.frz o<|.lst xs) f<|.xd [("members",.ref l)])
def Znm{a l f o0 o1 F D}(h:H a=none)(g:l≠a)(hd:f≠a):er (upd (upd (upd (upd H a o0) l F) a o1) f D) a=upd (upd H l F) f D:=by
 funext b;by_cases z:b=a
 ·subst z;rw[Ab,Xw (Ne.symm hd),Xw (Ne.symm g),h]
 ·rw[N4 z];by_cases y:b=f
  ·rw[y,X9,X9]
  ·rw[Xw y,Xw y,Xw z];by_cases x:b=l
   ·rw[x,X9,X9]
   ·rw[Xw x,Xw x,Xw z]
section
variable {X:Cx}{x:Str}{C:Addr}{E:XK}{e:Expr}{t:TA}{p cpos pos:Pos}{k:Nat}{ps:Yl}
def Zkp(Ci:Pu.Pa X.prog X.w X.K X.mg X.base CX0 k (KQ X.K C) ps (Bl X.K))(hr:Xz (k+1) X.A)(hm:X.mg x=some (.ref C))(hR:Mt X E)(hex:X.ex=[])(hc:X.calm=true)(ha:PA X [e] t)(hg:autoParam (Gl X x) au_0)(hdb:autoParam ((x==("__debug__" : Str))=false) au_1)(he:autoParam (starEach [e] X.env=[(false,eval e X.env)]) au_0):PS X (.Raise (some<|.Call (.Name x p) [e] [] cpos) none pos) (Lr X.K C E t):=by
 obtain⟨f,fd,F,G,hb⟩:=Ci.ex;intro pins s σ H D I h;obtain⟨bm,N,nm,q,bs,hdct,sn,sub,ab,col,dd,k0,k1,k2,k3,k5,mN,hC,hN,hni,hT⟩:=G.obj I.ok.mod.kin;obtain⟨oI,hoI,hcI⟩:=Option.map_eq_some_iff.mp G.fn
 have Y:(backTo cpos<|starEach [e] X.env).any (·.1)=false:=by
  rw[he];rfl
 refine Zkb (nm:=nm) (q:=q) (N:=N) (bs:=bs) (hdct:=hdct) (sn:=sn) (sub:=sub) (ab:=ab) (col:=col) (dd:=dd) (k0:=k0) (k1:=k1) (k2:=k2) (k3:=k3) (k5:=k5)
  V1 (by decide +kernel) V1 (hT.hasType<|by decide +kernel) (I.ok.hd hc) Y hni hcI (Sz I hg hm ⟨rfl,?_⟩ hdb)
 have hA:=ha cpos pins s σ H _ I h;rw[he]at hA ⊢;refine JB (thn hA ?_);rintro us s2 ⟨vs,U,J,r2,p2,xs,ev,hp,q2⟩;subst ev;obtain⟨u,rfl,ru⟩:=r2.one;obtain rfl:=ru;refine⟨rfl,by show 1<=_;rw[Jt];lia,J.bk _ _ hC,hN.keeps J.bk,hT.keeps J.bk,J.bk _ _ (I.ok.mod.kin _ _ hoI),λh' a n=>?_⟩;obtain⟨y,ht,_,_⟩:=n.there;have na:=A0 J.hok n.new;have I3:=Zml (t':=s2.toks) J hex n.new n.keeps (G4 ht)
 have L:Bl X.K [.ref a,.ref p2] (upd U a<|PK a C y none) (λv H3=>v=.non/\∃l g o,U l=none/\U g=none/\g≠l/\l≠a/\g≠a/\H3=upd (upd (upd (upd U a<|PK a C y none) l<|.frz o<|.lst xs) a<|PK a C y<|some g) g (.xd [("members",.ref l)])) (λ_ _ _=>False):=by
  refine⟨a,C,y,p2,xs,rfl,X9,(Own.Kg na).seq hp,G.st,G.nm,λl g o T Q h3=>⟨rfl,l,g,o,?_⟩⟩;have e1:l≠a:=λz=>by rw[z,X9]at T;cases T
  have e2:g≠a:=λz=>by rw[z,X9]at Q;cases Q
  rw[Xw e1]at T;rw[Xw e2]at Q;exact⟨T,Q,h3,e1,e2,rfl⟩
 have r3:Vals [V.ref a,V.ref p2] [Value.ref a,Value.ref p2]:=.cons rfl (.cons rfl .nil)
 have hl:([Value.ref a,Value.ref p2]++[]).length=ps.length:=by
  have:=F.len _ _ _ _ L
  exact this
 refine JA (Vt (F.run _ X.stack _ _ ⟨[Value.ref a,Value.ref p2],[]⟩ [Value.ref a,Value.ref p2] _ _ (λ_ _ _=>False) (hr.make C [.ref p2] []) (I3.env0.make C [.ref p2] []) (hb _ [Value.ref a,Value.ref p2] I3.kIn hl) r3 L) λr s' B=>?_);cases r with
 |error e=>exact False.elim B
 |ok fl=>
  cases fl with
  |ret u=>
   obtain⟨v,H',I4,rv,ev,l,g,o,n1,n2,n3,n4,n5,eH⟩:=I3.after B;subst ev;obtain rfl:=rv;have ea:H' a=some (PK a C y<|some g):=by rw[eH,Xw (Ne.symm n5),X9]
   have M:=(I4.hok a _ ea).1;refine⟨rfl,I4.bk _ _ hC,⟨y,some g,M⟩,hR pins σ (er H' a) s' C a y (some g) (forget I4 ea) M Ab (BU J hex n.new) ?_⟩;rw[eH,Znm na n4 n5];exact q2 l g o n1 n2 n3
  |_=>exact False.elim B
def Zc0{K h base N qual scope f cd A outer s H E} :
  Mt (Kf (CXe P w) P w K h base N qual scope f cd A outer s H E) E:=by
 intro pins v u G C a t o I l n g q;exact Qz (Hh I rfl rfl rfl g n l rfl rfl rfl rfl) (λ_ B ⟨r,y⟩=>⟨a,r,C,o,u,rfl,y,q⟩) λ_ _ z=>z
def Zh9{K vs H Q E D}(h:Bl K vs H Q E)(v:D.nx=λ_ H'=>Q .non H') :
  G6 K "members" (K5 0) (tCB (λxs H Q=>∃p f,xs=[.ref p]/\(SqL K H p f\/SqT K H p f)/\∀l,H l=none->Q (.ref l) (upd H l<|.lst f))<|Kv (K5 1) KP) D (start ["self","members"] vs) H:=by
 obtain⟨a,C,t,p,xs,rfl,r,u,c,n,q⟩:=h;refine⟨_,rfl,p,xs,rfl,.inl u,λl s=>⟨_,rfl,a,C,t,l,xs,rfl,rfl,?_,c,n,X9,λo y g=>?_⟩⟩
 ·rw[Xw (K7 r s)];exact r
 ·have w:y≠l:=λz=>by rw[z,X9]at g;cases g
  rw[Xw w]at g;rw[v,Mc]
  grind
end
end ExcR
namespace Pu
open L2 Own M
section
variable {K:Yc}{mg:Yg}{E:L2.St->XK}{H0 H H1 H':Hp}{B Z Z':Addr->Prop}{σ:L2.St}{γ:Γ}
theorem RL:∀{ns:Ye}{vs:List V},Rps K H (ns.map D.int) vs->vs=ns.map V.int
 |[],_,h=>by cases h;rfl
 |n::ns,_,h=>by
  cases h with
  |cons h r=>rw[RL r,h.int_inv];rfl
noncomputable def Zks(r:PTA):PTS:=λR γ=>r γ (λg=>match g with
 |[s]=>(∃f:Ye,s.d=.lst (f.map D.int)/\R.ex γ (ND f))
 |_=>False) (R.ex γ)
def Zqe{Ec}(T:XC K mg (λ_=>Ec) J r):X0 K mg (λ_=>Ec) (ExcR.Lr K (ExcR.Xs mg "Ringed") Ec J) (Zks r):=by
 intro H0 B H σ γ R D hB f h e;refine T H0 B H σ γ _ _ _ f h (λss C H1 x z L=>?_) λc H' U A=>e.ex σ γ c H' U (f.grow A) (Fr.grow A);split at x
 ·rename_i s;obtain⟨n,ed,Y⟩:=x;obtain⟨v,rfl,G⟩:=L.one_inv;have g:=G.rp (f.grow z).same;rw[ed]at g;obtain⟨p,C,rfl,w,M⟩:=g.lst_inv;rw[RL M]at w;refine⟨p,_,rfl,SqL.of w,λl dx o N Q u=>?_⟩;have S2:Same H1 (upd (upd H1 l<|.frz o<|.lst<|n.map V.int) dx<|.xd [("members",.ref l)]):=(Kg N).trans (Kg<|by rw[Xw u];exact Q);have y:=z.trans S2;exact(e.ex σ γ (ND n) _ Y (f.grow y)<|Fr.grow y).mem X9 (by rw[Xw (Ne.symm u)];exact X9)
 ·grind
noncomputable def Zeg(mg:Yg)(i:Nat)(l h:PTS):PTS:=λR γ=>l {R with ex:=λf c=>∃r,c=ND r/\h {nx:=λg=>R.nx (g.set i none),rt:=R.rt,ex:=λ_ _=>False,bk:=λg=>R.bk (g.set i none),ct:=λg=>R.ct (g.set i none),rv:=R.rv} (f.set i<|some<|.sh<|.erM (ExcR.Xs mg "Ringed") r)} γ
def Ziq{C0}{Q:Ends->TS}{ts}{U T}{E'}(J:PySem.W.exmOne K (.ref<|ExcR.Xs mg "Ringed") (.ref C0)=some true)(hb:∀D,X0 K mg (ExcR.hx K C0 i ts D) (Q D) U)(hh:X0 K mg E' ts T):X0 K mg E (λD σ H=>Q D D σ H) (Zeg mg i U T):=by
 intro H0 B H σ γ R D hB L h e;refine hb D H0 B H σ γ _ D hB L h ⟨e.nx,e.rt,λC G c H' hc A f'=>?_,e.bk,e.ct,e.rv⟩;obtain⟨r,rfl,hp⟩:=hc;refine .ofM λM l o hd hl=>⟨_,rfl,J,λa Y=>?_⟩;have N:=Kg (o:=ExcR.Pf a (ExcR.Xs mg "Ringed") (some M)) Y
 have tv:TV K (zof B G C) H0 H' (upd H' a<|ExcR.Pf a (ExcR.Xs mg "Ringed")<|some M) (.sh<|.erM (ExcR.Xs mg "Ringed") r) (.ref a):=
  .erM (XX X9 λz=>by have:=A.zm a z;rw[Y]at this;exact this) (XX (N _ _ hd) λz=>by have:=A.zm M z;rw[hd]at this;exact this) (XX (N _ _ hl) λz=>by have:=A.zm l z;rw[hl]at this;exact this)
 obtain⟨e2,f2⟩:=A.set N tv rfl;have n:=f'.trans f2;refine hh H0 B _ _ _ _ _ hB e2 hp ⟨λf g w p u s=>?_,e.rt,λ_ _ _ _ z=>z.elim,λf g w p u s=>?_,λf g w p u s=>?_,λf g d v w p u s=>e.rv f g d v w p u (n.trans s)⟩
 ·obtain⟨y,x⟩:=u.gone i;exact e.nx _ _ w p y (n.trans<|s.trans x)
 ·obtain⟨y,x⟩:=u.gone i;exact e.bk _ _ w p y (n.trans<|s.trans x)
 ·obtain⟨y,x⟩:=u.gone i;exact e.ct _ _ w p y (n.trans<|s.trans x)
noncomputable def Za4(f:Addr)(a:PTE):PTE:=λγ R X=>a γ (λs=>match s.d with
 | .erM C r=>C=f/\R (.sh<|.fL r)
 |_=>False) X
def Zof(G:∃g,ExcR.KQ K Y g)(J:Xp K mg E te a):Xp K mg E (ExcR.Ro K "members" te) (Za4 Y a):=by
 obtain⟨g,c⟩:=G;intro H0 B H σ γ R X Q h p q A;refine J H0 B H σ γ _ X _ h p (λs v H1 u x y=>?_) A;have f:=h.grow x;have n:=y.rp f.same;split at u
 ·rename_i C r T;obtain⟨rfl,L⟩:=u;rw[T]at n;obtain⟨b,U,l,o,rfl,N,M,w⟩:=n.erM_inv;exact⟨b,_,g,U,_,.ref l,rfl,N,c,c.nm,M,rfl,q _ _ H1 L x (.fL (XX w λz=>by have:=f.zm l z;rw[w]at this;exact this))⟩
 ·grind
end
end Pu
namespace Pu
open L2 Own
structure RI (K:Yc) (x:Str) (C:Addr) (q:Str) (st:Stmt):Prop where
 a:PySem.W.nsIn K mainGlobals x=some (some<|.ref C)
 ex:∃f fd,ExcR.KQ K C f/\Fun K "__init__" q st f fd
section
variable {K:Yc}{h:Heap}{mg:Yg}{x q:Str}{st:Stmt}{C M N f:Addr}
def Zjy{cd:ClassData}(m:PySem.W.excIn K M ExcR.SN "ValueError.__new__"=true):PySem.W.tailIn K ExcR.SN (.ref M::ExcR.SN)=true:=by
 unfold PySem.W.excIn at m;split at m
 next A cd sl g=>
  split at m
  next E B v u s r n p y w=>
   simp only[Q2,beq_iff_eq,Bool.not_eq_true']at m;obtain⟨⟨⟨_,z⟩,o⟩,l⟩:=m;unfold PySem.W.tailIn;rw[Bool.or_eq_true];right
   try dsimp only
   rw[g]
   try dsimp only
   rw[o,l];rfl
  grind
 next=>cases m
def ri{cd sl y k0 k1 k2 k3 k5 Q es n oc od T o kV s z g ct}(a:PySem.W.nsIn K mainGlobals x=some (some<|.ref C))(l:K.lookup C=some ⟨.type "type",dd,.cls cd,sl⟩)(u:cd.mro=.ref C :: .ref M::[.type "ValueError",.type "Exception",.type "BaseException",.type "object"])(dl:cd.hasDel=false)(r:cd.hasDict=true)(p:sl.toList=[k0,k1,k2,k3,some (.builtin "ValueError.__new__"),k5])(v:cd.ns=N)(E:K.lookup N=some ⟨Q,U,.dict es n,y⟩)(A:(es.toList.all λe=>match e.key with | .str _ _=>true|_=>false)=true)(i:PySem.W.nsIn K N "__init__"=some (some<|.ref f))(m:PySem.W.excIn K M [.type "ValueError",.type "Exception",.type "BaseException",.type "object"] "ValueError.__new__"=true)(fn:PySem.W.isFn K (.ref f)=true)(w:PySem.W.findIn K (.ref C) "__setattr__"=some (some<|.builtin "object.__setattr__"))(J:PySem.W.findIn K (.ref C) "__getattribute__"=some (some<|.builtin "BaseException.__getattribute__"))(H:PySem.W.findIn K (.ref C) "__getattr__"=some none)(G:PySem.W.findIn K (.ref C) "__class__"=some (some<|.builtin "object.__class__"))(nm:PySem.W.findIn K (.ref C) "members"=some none)(B:K.lookup f=some ⟨oc,od,.func (PySem.W.fnOf "__init__" q (Px st) (XU st) (Xq st) .none kV s z T g ct),o⟩)(c:PySem.W.codeIn K g q=true)(k:PySem.W.keepIn K (.ref f)=true):RI K x C q st:=by
 have L:PySem.W.clsIn K C=some cd:=by unfold PySem.W.clsIn;rw[l]
 refine⟨a,f,_,⟨?_,beq_iff_eq.mp fn,⟨?_,w⟩,J,H,nm,G⟩,Ae B c k⟩
 ·refine⟨dd,cd,sl,_,k0,k1,k2,k3,k5,l,u,p,dl,Zjy (cd:=cd) m,?_,by rw[v];exact i⟩;rw[v];unfold PySem.W.nsOkIn;rw[E];show(es.all _)=true;rw[←Array.all_toList];omega
 ·rw[L];show(ExcR.Bp cd.mro&&cd.hasDict)=true;rw[u,r];rfl
def RI.c (y:RI K x C q st) (X:K.In h) (g:h.Ns mainGlobals mg):ExcR.Xs mg x=C:=ExcR.Cb (QE X g y.a)
def RI.m (y:RI K x C q st) (X:K.In h) (g:h.Ns mainGlobals mg):mg x=some (.ref<|ExcR.Xs mg x):=by rw[y.c X g];exact QE X g y.a
def RI.i (y:RI K x C q st) (X:K.In h) (l:h.Ns mainGlobals mg):∃g,ExcR.KQ K (ExcR.Xs mg x) g:=by
 obtain⟨f,n,e,_⟩:=y.ex;rw[y.c X l]
 grind
def RI.d (y:RI K x C q st) (e:p=C)
  (b:∀kV g n o l ct us,us.length=ps.length->bindArgs (PySem.W.fnOf "__init__" q (Px st) (XU st) (Xq st) .none kV g n o l ct) ⟨us,[]⟩=pure (ps.zip us)):XD K (ExcR.KQ K p) "__init__" q st ps:=
 let ⟨_,_,i,F⟩:=y.ex
 ⟨_,_,F,by rw[e];exact i,F.binds b⟩
def RI.j (y:RI K x C q st) (e:l=C) (b:Bd "__init__" q st ps:=by
  intro _ _ _ _ _ _ us g;obtain⟨_,_,rfl⟩:=Pu.Bb g;rfl):XD K (ExcR.KQ K l) "__init__" q st ps:=y.d e b
end
end Pu
namespace M
open L2 Own Pu
def Na(hs:Ye)(f:Yd)(X:Str->Prop)(A:Prop):Prop:=(∀r,FR hs f r->r≠[]->X (ND r))/\((¬ ∃r,Ring hs f r)->A)
def FR.one (h:FR hs x r) (o:FR hs x A):r=A:=by
 rcases h with⟨rfl,h⟩|⟨l,t,rfl,v,w,B⟩
 ·rcases o with⟨rfl,_⟩|⟨s,p,rfl,g,n,_⟩
  ·rfl
  ·exact absurd n (h s g p)
 ·rcases o with⟨rfl,o⟩|⟨s,p,rfl,g,n,u⟩
  ·exact absurd w (o l v t)
  ·rcases B s g p n with z|⟨z,y⟩
   ·grind
   ·rcases u l v t w with C|⟨_,f⟩
    ·lia
    ·rcases y with y|⟨rfl,y⟩
     ·rcases f with f|⟨rfl,_⟩<;>lia
     ·rcases f with f|⟨_,f⟩
      ·lia
      ·rcases y with rfl|y
       ·rfl
       ·rcases f with rfl|f
        ·rfl
        ·exact absurd f (E9 y)
noncomputable def pcc(ps:Yd):Int->Int->Int:=λx y=>pcM ps x y ps.length
end M
namespace Pu
open L2 Own
def hq{A}(h:Xz j A)(f:autoParam (k<=j) au_1):Xz k A:=h.mono f
section
variable {X:Cx}{sc:Scope}{elt iter tg:Expr}{ifs:Ym}{pos:Pos}{wi:TI}{g:TG}{tc:TT}{te:TE}{x:Str}
def cz(N':Yl)(φ:Yi)(p:PI X tg iter wi)(n:∀{o C f h ex},PG (Kt X N' sc o C f h ex) tg g/\NQ (Kt X N' sc o C f h ex) ifs tc/\PE (Kt X N' sc o C f h ex) elt te)(l:autoParam (X.calm=true) au_0)(S:autoParam (Fe sc X.env.scope X.N N' φ=true) au_0)(hs:autoParam (∀x,foldedSetIterable iter X.env x=pure x) au_3):PE X (.ListComp elt [⟨tg,iter,ifs,0⟩] sc pos) (BO φ wi g tc te):=Dg l (.of S) p (λ_ _ _ _ _=>n) hs
def gk(i:Nat)(l:autoParam (decide X.N.Nodup=true) au_9)(f:autoParam (X.N[i]?=some x) au_0)(hx:autoParam (Loc X.env.scope x) au_6)(h:autoParam (X.fn x=true\/X.env.scope.names.lookup x=some .local) au_2):PG X (.Name x pos) (Sj i):=Et (WN l) f hx h
end
section
variable {P:Program}{w:World}{K:Yc}{mg:Yg}{base:Heap}{N ps:Yl}{sp:Sp}{p:PTS}{x q:Str}{st:Stmt}{k:Nat}{W:Addr->Prop}
def _root_.Own.Def.ez (D:Def K mg x st ps) (S:Xr N ps (Xq st))
  (h:∀{f g A outer s H} {E:XK},Xz k (A.deeper<|envOfC x (Xq st) s.heap.objs.size f g)->
   ∃t,PSs (Kf CX0 P w K mg base N x (Xq st) f g A outer s H E).nox (XU st) t/\X0 K mg (λ_=>E) t p) (u:Uz K mg N ps sp p):Callee P w K mg base CX0 (k+1) x ps sp:=D.oz S (λ_ _ _ _ _ _ _=>h) u
def _root_.Own.Def.ey (D:Def K mg x st ps) (S:Xr N ps (Xq st))
  (h:∀{f g A outer s H} {E:XK},Xz k (A.deeper<|envOfC x (Xq st) s.heap.objs.size f g)->
   ∃t,PSs (Kf (ExcR.CXe P w) P w K mg base N x (Xq st) f g A outer s H E) (XU st) t/\X0 K mg (λ_=>E) t p) (u:Uz K mg N ps sp p):Callee P w K mg base (ExcR.CXe P w) (k+1) x ps sp:=D.ox S (λ_ _ _ _ _ _ _=>h) u
def XD.ez (D:XD K W x q st ps) (S:Xr N ps (Xq st))
  (h:∀{f g A outer s H} {E:XK},Xz k (A.deeper<|envOfC q (Xq st) s.heap.objs.size f g)->
   ∃t,PSs (Kf CX0 P w K mg base N q (Xq st) f g A outer s H E).nox (XU st) t/\X0 K mg (λ_=>E) t p) (u:Uz K mg N ps sp p):Pa P w K mg base CX0 (k+1) W ps sp:=D.oz S (λ_ _ _ _ _ _ _=>h) u
def XD.ey (D:XD K W x q st ps) (S:Xr N ps (Xq st))
  (h:∀{f g A outer s H} {E:XK},Xz k (A.deeper<|envOfC q (Xq st) s.heap.objs.size f g)->
   ∃t,PSs (Kf (ExcR.CXe P w) P w K mg base N q (Xq st) f g A outer s H E) (XU st) t/\X0 K mg (λ_=>E) t p) (u:Uz K mg N ps sp p):Pa P w K mg base (ExcR.CXe P w) (k+1) W ps sp:=D.ox S (λ_ _ _ _ _ _ _=>h) u
end
structure Fit {ι:Type} (F:ι->Cx) (K:Yc) (mg:Yg):Prop where
 k:∀j,(F j).K=K
 m:∀j,(F j).mg=mg
section
variable {ι:Type} (F:ι->Cx) (K:Yc) (mg:Yg) (E:L2.St->XK)
structure CE (e:Expr) (p:PTE):Prop where
 h:Fit F K mg->∃t,(∀j,PE (F j) e t)/\Xp K mg E t p
structure CT (e:Expr) (p:PTT):Prop where
 h:Fit F K mg->∃t,(∀j,PT (F j) e t)/\K6 K mg E t p
structure CW (e:Expr) (p:PTT):Prop where
 h:Fit F K mg->∃t,(∀j,PW (F j) e t)/\K6 K mg E t p
structure CA (es:Ym) (p:PTA):Prop where
 h:Fit F K mg->∃t,(∀j,PA (F j) es t)/\XC K mg E t p
structure CS (s:Stmt) (p:PTS):Prop where
 h:Fit F K mg->∃t,(∀j,PS (F j) s t)/\X0 K mg E t p
structure CB (b:Yn) (p:PTS):Prop where
 h:Fit F K mg->∃t,(∀j,PSs (F j) b t)/\X0 K mg E t p
structure CI (tg e:Expr) (p:PTI):Prop where
 h:Fit F K mg->∃t,(∀j,PI (F j) tg e t)/\SndI K mg E t p
structure CJ (tg e:Expr) (p:PTI):Prop where
 h:Fit F K mg->∃t,(∀j,PI (F j) tg e t)/\SS K mg E t p
structure CG (e:Expr) (is:Yj) (p:PTG):Prop where
 h:Fit F K mg->∃t,(∀j,PG (F j) e t)/\N3 K is t p
structure CGs (es:Ym) (is:Yj) (p:Sy):Prop where
 h:Fit F K mg->∃t,(∀j,PGs (F j) es t)/\Bw K is t p
structure CF (es:Ym) (p:PTT):Prop where
 h:Fit F K mg->∃t,(∀j,NQ (F j) es t)/\K6 K mg E t p
end
section
variable {ι:Type}{F:ι->Cx}{K:Yc}{mg:Yg}{E:L2.St->XK}{e f g:Expr}{es:Ym}{a b c:PTE}{r:PTA}{x:Str}{pos p1:Pos}{k n:Nat}{s:Stmt}{d1 d2:Yn}{p q:PTS}{t u:PTT}{is:Yj}{pg:PTG}{it:PTI}
def xv(i:Nat)(o:autoParam (∀j,(F j).N[i]?=some x) au_3)(h:autoParam (∀j,Vis (F j).env.scope x) au_10)(hd:autoParam ((x==("__debug__" : Str))=false) au_1)(l:autoParam ((x==("__classdict__" : Str))=false) au_1):CE F K mg E (.Name x pos) (DC i):=.mk λ_=>⟨_,λj=>pv i (o j) (h j) hd l,Xo i⟩
def xi:CE F K mg E (.Constant (.int i) k pos) (pC<|.int i):=.mk λ_=>⟨_,λ_=>X5,Xx⟩
def xb:CE F K mg E (.Constant (.bool i) k pos) (pC<|.bl i):=.mk λ_=>⟨_,λ_=>Nu,Nw⟩
def xs:CE F K mg E (.Constant (.str i) k pos) (pC<|.str i):=.mk λ_=>⟨_,λ_=>NS,NK⟩
def xe(h:∀{j},PE (F j) e te)(k:Xp K mg E te a):CE F K mg E e a:=.mk λ_=>⟨_,λ_=>h,k⟩
def xo{r}(w:∀{X},OpR X (binaryOp l) r)(hs:∀{t u},Xp K mg E t a->Xp K mg E u b->Xp K mg E (tOp r t u) c)(A:CE F K mg E e a)(B:CE F K mg E f b):CE F K mg E (.BinOp e l f pos) c:=
 .mk λh=>let ⟨_,z,v⟩:=A.h h;let ⟨_,y,o⟩:=B.h h;⟨_,λj=>Ni w (z j) (y j),hs v o⟩
def xx(A:CE F K mg E e a)(B:CE F K mg E f b)(hs:autoParam (Ey f) au_7):CE F K mg E (.Subscript e f pos) (p2 a b fIx):=
 .mk λh=>let ⟨_,w,o⟩:=A.h h;let ⟨_,v,l⟩:=B.h h;⟨_,λj=>jx K (w j) (v j) (h.k j) hs,Kc o l⟩
def xl(v:mg "len"=none)(A:CE F K mg E e a)(w:autoParam (∀j,Gl (F j) "len") au_3)(hs:autoParam (∀j,starEach [e] (F j).env=(false,eval e (F j).env)::starEach [] (F j).env) au_3)(l:autoParam (∀j,(backTo pos (starEach [] (F j).env)).any (·.1)=false) au_3) :
  CE F K mg E (.Call (.Name "len" p1) [e] [] pos) (pCB CV<|Pe a Nb):=
 .mk λh=>let ⟨_,y,o⟩:=A.h h;⟨_,λj=>ln K (by rw[h.m j];exact v) (y j) (h.k j) (w j) (hs j) (l j),Sg (sz o)⟩
def xf{ps v}(C:Callee P w K mg base CX0 k x ps (Xv mg v K))(H:∀j,Xz m (F j).A)(A:CA F K mg E (e::es) r)(N:autoParam (∀j,(F j).prog=P/\(F j).w=w/\(F j).base=base) au_11)(J:autoParam (k<=m) au_1)(L:autoParam (∀j,Gl (F j) x) au_3)(o:autoParam ((x==("__debug__" : Str))=false) au_1)(M:autoParam (∀j,starEach (e::es) (F j).env=(false,eval e (F j).env)::starEach es (F j).env) au_3)(l:autoParam (∀j,(backTo pos (starEach es (F j).env)).any (·.1)=false) au_3) :
  CE F K mg E (.Call (.Name x p1) (e::es) [] pos) (OA v r):=
 .mk λh=>let ⟨_,Q,G⟩:=A.h h;⟨_,λj=>fz (by obtain⟨B,z,y⟩:=N j;rw[B,z,y,h.k j,h.m j];exact C) (H j) (Q j) J (L j) o (M j) (l j),Tw G⟩
def xt(A:CA F K mg E es r):CE F K mg E (.Tuple es k pos) (Rg r):=.mk λh=>let ⟨_,o,l⟩:=A.h h;⟨_,λj=>PY (o j),PU l⟩
def xL(A:CA F K mg E es r):CE F K mg E (.List es pos) (G3 r):=.mk λh=>let ⟨_,o,l⟩:=A.h h;⟨_,λj=>KG (o j),P3 l⟩
def a0:CA F K mg E [] Nb:=.mk λ_=>⟨_,λ_=>KB,X6⟩
def ac(A:CE F K mg E e a)(B:CA F K mg E es r)(y:autoParam (∀j,starEach (e::es) (F j).env=(false,eval e (F j).env)::starEach es (F j).env) au_3):CA F K mg E (e::es) (Pe a r):=
 .mk λh=>let ⟨_,w,o⟩:=A.h h;let ⟨_,v,l⟩:=B.h h;⟨_,λj=>XY (w j) (v j) (y j),Kz o l⟩
def a1(A:CE F K mg E e a)(h:autoParam (∀j,starEach [e] (F j).env=(false,eval e (F j).env)::starEach [] (F j).env) au_3):CA F K mg E [e] (Pe a Nb):=ac A a0 h
def a2(A:CE F K mg E e a)(B:CE F K mg E f b)(l:autoParam (∀j,starEach [e,f] (F j).env=(false,eval e (F j).env)::starEach [f] (F j).env) au_3)(h:autoParam (∀j,starEach [f] (F j).env=(false,eval f (F j).env)::starEach [] (F j).env) au_3):CA F K mg E [e,f] (Pe a<|Pe b Nb):=ac A (a1 B h) l
def a3(A:CE F K mg E e a)(B:CE F K mg E f b)(C:CE F K mg E g c)(o:autoParam (∀j,starEach [e,f,g] (F j).env=(false,eval e (F j).env)::starEach [f,g] (F j).env) au_3)(l:autoParam (∀j,starEach [f,g] (F j).env=(false,eval f (F j).env)::starEach [g] (F j).env) au_3)(h:autoParam (∀j,starEach [g] (F j).env=(false,eval g (F j).env)::starEach [] (F j).env) au_3):CA F K mg E [e,f,g] (Pe a<|Pe b<|Pe c Nb):=ac A (a2 B C l h) o
def te(h:∀{j},PT (F j) e tt)(k:K6 K mg E tt t):CT F K mg E e t:=.mk λ_=>⟨_,λ_=>h,k⟩
def tc{r}(w:∀{X},OpR X (compareOp l) r)(hs:∀{t u},Xp K mg E t a->Xp K mg E u b->Xp K mg E (tOp r t u) c)(A:CE F K mg E e a)(B:CE F K mg E f b)(y:behindInMarks l f=false:=by exact Pj _):CT F K mg E (.Compare e [l] [f] pos) (N9 c):=
 .mk λh=>let ⟨_,C,v⟩:=A.h h;let ⟨_,z,o⟩:=B.h h;⟨_,λj=>T8 w (C j) (z j) y,P1 (hs v o)⟩
def tq(v:∀j,Xz n (F j).A)(A:CE F K mg E e a)(B:CE F K mg E f b):CT F K mg E (.Compare e [.Eq] [f] pos) (N9<|p2 a b<|SM false):=
 .mk λh=>let ⟨_,y,o⟩:=A.h h;let ⟨_,w,l⟩:=B.h h;⟨_,λj=>cq K (v j) (y j) (w j) (h.k j),P1 (NR o l)⟩
def tn(v:∀j,Xz n (F j).A)(A:CE F K mg E e a)(B:CE F K mg E f b):CT F K mg E (.Compare e [.NotEq] [f] pos) (N9<|p2 a b<|SM true):=
 .mk λh=>let ⟨_,y,o⟩:=A.h h;let ⟨_,w,l⟩:=B.h h;⟨_,λj=>cn K (v j) (y j) (w j) (h.k j),P1 (Di o l)⟩
def ti(v:∀j,Xz n (F j).A)(A:CE F K mg E e a)(B:CE F K mg E f b)(w:autoParam (behindInMarks .In f=false) au_12):CT F K mg E (.Compare e [.In] [f] pos) (N9<|p2 a b<|fIn false):=
 .mk λh=>let ⟨_,z,o⟩:=A.h h;let ⟨_,y,l⟩:=B.h h;⟨_,λj=>T8 (AX (Pv<|v j)<|h.k j) (z j) (y j) w,P1 (Ag o l)⟩
def tI(v:∀j,Xz n (F j).A)(A:CE F K mg E e a)(B:CE F K mg E f b)(w:autoParam (behindInMarks .NotIn f=false) au_12):CT F K mg E (.Compare e [.NotIn] [f] pos) (N9<|p2 a b<|fIn true):=
 .mk λh=>let ⟨_,z,o⟩:=A.h h;let ⟨_,y,l⟩:=B.h h;⟨_,λj=>T8 (Zbw (Pv<|v j)<|h.k j) (z j) (y j) w,P1 (Ag o l)⟩
def tt(A:CE F K mg E e a)(o:autoParam (∀j whole,isTrue e (F j).env whole=(do let v ←whole;standAt e.pos;holding [v] (truthy v))) au_7):CT F K mg E e (Lo a):=.mk λh=>let ⟨_,w,l⟩:=A.h h;⟨_,λj=>Ga (w j) (h.k j) (o j),Zlm l⟩
def tN(A:CT F K mg E e t):CT F K mg E (.UnaryOp .Not e pos) (Of t):=.mk λh=>let ⟨_,o,l⟩:=A.h h;⟨_,λj=>AC (o j),Zfd l⟩
def tp(A:CW F K mg E e t):CT F K mg E e t:=.mk λh=>let ⟨_,o,l⟩:=A.h h;⟨_,λj=>(o j).pt,l⟩
def wa(A:CT F K mg E e t)(B:CW F K mg E (.BoolOp .And (f::es) pos) u):CW F K mg E (.BoolOp .And (e::f::es) pos) (LJ t u):=.mk λh=>let ⟨_,w,o⟩:=A.h h;let ⟨_,v,l⟩:=B.h h;⟨_,λj=>Zcu (w j) (v j),Zd5 o l⟩
def wo(A:CT F K mg E e t)(B:CW F K mg E (.BoolOp .Or (f::es) pos) u):CW F K mg E (.BoolOp .Or (e::f::es) pos) (pOr t u):=.mk λh=>let ⟨_,w,o⟩:=A.h h;let ⟨_,v,l⟩:=B.h h;⟨_,λj=>Rv (w j) (v j),Zmp o l⟩
def wA(A:CT F K mg E e t):CW F K mg E (.BoolOp .And [e] pos) t:=.mk λh=>let ⟨_,o,l⟩:=A.h h;⟨_,λj=>Zlg (o j),l⟩
def wO(A:CT F K mg E e t):CW F K mg E (.BoolOp .Or [e] pos) t:=.mk λh=>let ⟨_,o,l⟩:=A.h h;⟨_,λj=>MM (o j),l⟩
def se(h:∀{j},PS (F j) s l)(k:X0 K mg E l p):CS F K mg E s p:=.mk λ_=>⟨_,λ_=>h,k⟩
def sS(i:Nat)(w:∀j,(F j).N.Nodup)(A:CE F K mg E e a)(o:autoParam (∀j,(F j).N[i]?=some x) au_3)(hx:autoParam (∀j,Loc (F j).env.scope x) au_13)(hs:autoParam (∀j,swapsWith e (some<|.Name x p1) pos.line (F j).env=pure false) au_3)(v:autoParam (∀j,(F j).fn x=true\/(F j).env.scope.names.lookup x=some .local) au_14):CS F K mg E (.Assign [.Name x p1] e pos) (Ed a<|Bo i):=
 .mk λh=>let ⟨_,y,l⟩:=A.h h;⟨_,λj=>pz i (w j) (y j) (o j) (hx j) (hs j) (v j),Tu l (Kk i)⟩
def sR(A:CE F K mg E e a):CS F K mg E (.Return (some e) pos) (Lk a):=.mk λh=>let ⟨_,o,l⟩:=A.h h;⟨_,λj=>Kp (o j),DA l⟩
def sF(i:Nat)(A:CS F K mg E s p):CS F K mg E s (Mn i p):=.mk λh=>let ⟨_,o,l⟩:=A.h h;⟨_,o,Zcj i l⟩
def sI(A:CT F K mg E e t)(B:CB F K mg E d1 p)(C:CB F K mg E d2 q):CS F K mg E (.If e d1 d2 pos) (Rr t p q):=.mk λh=>let ⟨_,z,v⟩:=A.h h;let ⟨_,y,o⟩:=B.h h;let ⟨_,w,l⟩:=C.h h;⟨_,λj=>Da (z j) (y j) (w j),Zp7 v o l⟩
def sE(A:CE F K mg E e a)(hs:autoParam (∀j,swapsWith e none pos.line (F j).env=pure false) au_3):CS F K mg E (.Expr e pos) (Lz a):=.mk λh=>let ⟨_,o,l⟩:=A.h h;⟨_,λj=>Pn (o j) (hs j),SC l⟩
def sO(l:Yj)(z:∀{j},PassesOwn (model (F j).prog (F j).w) (F j).A (F j).env (F j).xe)(I:CI F K mg E f e it)(G:CG F K mg f is pg)(B:CB F K mg E d1 p)(C:autoParam (∀j,(F j).calm=true) au_3)(hs:autoParam (∀j x,foldedSetIterable e (F j).env x=pure x) au_7) :
  CS F K mg E (.For f e d1 [] pos) (MU l it pg p):=
 .mk λh=>let ⟨_,L,y⟩:=I.h h;let ⟨_,J,v⟩:=G.h h;let ⟨_,H,o⟩:=B.h h;⟨_,λj=>Zri z (C j) (L j) (J j) (H j) (hs j),Zh7 l y v o⟩
def sW(l:Yj)(y:∀{j},PassesOwn (model (F j).prog (F j).w) (F j).A (F j).env (F j).xe)(A:CT F K mg E e t)(B:CB F K mg E d1 p):CS F K mg E (.While e d1 [] pos) (GK l t p):=
 .mk λh=>let ⟨_,C,v⟩:=A.h h;let ⟨_,z,o⟩:=B.h h;⟨_,λj=>Zrl y (C j) (z j),Zk3 l v o⟩
def b0:CB F K mg E [] Ir:=.mk λ_=>⟨_,λ_=>Ek,DM⟩
def b1(A:CS F K mg E s p):CB F K mg E [s] p:=.mk λh=>let ⟨_,o,l⟩:=A.h h;⟨_,λj=>P9 (o j),l⟩
def bc(A:CS F K mg E s p)(B:CB F K mg E d1 q):CB F K mg E (s::d1) (LZ p q):=.mk λh=>let ⟨_,w,o⟩:=A.h h;let ⟨_,v,l⟩:=B.h h;⟨_,λj=>L7 (w j) (v j),M8 o l⟩
def bj(A:CS F K mg E s p)(B:CB F K mg E d1 q):CB F K mg E (s::d1) (HF p q):=.mk λh=>let ⟨_,w,o⟩:=A.h h;let ⟨_,v,l⟩:=B.h h;⟨_,λj=>Zcx (w j) (v j),Zhn o l⟩
def iL(A:CE F K mg E e a):CI F K mg E f e (pIL a):=.mk λh=>let ⟨_,o,l⟩:=A.h h;⟨_,λj=>N0 (o j) (h.k j),Zb3 l⟩
def ir(o:mg "range"=none)(A:CA F K mg E [e] r)(v:autoParam (∀j,Gl (F j) "range") au_3)(hs:autoParam (∀j,starEach [e] (F j).env=[(false,eval e (F j).env)]) au_3):CI F K mg E f (.Call (.Name "range" p1) [e] [] pos) (Ht r):=
 .mk λh=>let ⟨_,w,l⟩:=A.h h;⟨_,λj=>Zff (v j) (by rw[h.m j];exact o) (w j) (hs j),Zjs l⟩
def iR(v:mg "range"=none)(A:CA F K mg E [e,g] r)(w:autoParam (∀j,Gl (F j) "range") au_3)(hs:autoParam (∀j,starEach [e,g] (F j).env=[(false,eval e (F j).env),(false,eval g (F j).env)]) au_3)(l:autoParam (∀j,starEach [g] (F j).env=[(false,eval g (F j).env)]) au_3):CI F K mg E f (.Call (.Name "range" p1) [e,g] [] pos) (Mp r):=
 .mk λh=>let ⟨_,y,o⟩:=A.h h;⟨_,λj=>Zg6 (w j) (by rw[h.m j];exact v) (y j) (hs j) (l j),Znc o⟩
def je(h:∀{j},PI (F j) f e l)(k:SS K mg E l it):CJ F K mg E f e it:=.mk λ_=>⟨_,λ_=>h,k⟩
def jL(A:CE F K mg E e a):CJ F K mg E f e (MV a):=.mk λh=>let ⟨_,o,l⟩:=A.h h;⟨_,λj=>N0 (o j) (h.k j),Sw l⟩
def jI(I:CI F K mg E f e it):CJ F K mg E f e it:=.mk λh=>let ⟨_,o,l⟩:=I.h h;⟨_,o,l.c⟩
def gN(i:Nat)(o:autoParam (∀j,decide (F j).N.Nodup=true) au_15)(h:autoParam (∀j,(F j).N[i]?=some x) au_3)(hx:autoParam (∀j,Loc (F j).env.scope x) au_13)(l:autoParam (∀j,(F j).fn x=true\/(F j).env.scope.names.lookup x=some .local) au_14):CG F K mg (.Name x pos) [i] (Bo i):=.mk λ_=>⟨_,λj=>gk i (o j) (h j) (hx j) (l j),Kk i⟩
def gT(n:Nat){pr}(G:CGs F K mg es is pr)(w:autoParam (∀j,(F j).calm=true) au_3)(v:autoParam (∀j,(assignEach es (F j).env).length=n) au_3)(l:autoParam (∀j,(assignEach es (F j).env).findIdx? (·.1)=none) au_3):CG F K mg (.Tuple es k pos) is (D9 n pr):=
 .mk λh=>let ⟨_,y,o⟩:=G.h h;⟨_,λj=>FF (w j) (y j) (h.k j) (v j) (l j),CM o⟩
def g0:CGs F K mg [] [] GJ:=.mk λ_=>⟨_,λ_=>F8,Ge⟩
def gc(G:CG F K mg e is pg)(B:CGs F K mg es w l)(hs:autoParam (∀j,(assignEach (e::es) (F j).env).map (·.2)=assign e (F j).env::(assignEach es (F j).env).map (·.2)) au_3):CGs F K mg (e::es) (is++w) (Ls pg l):=
 .mk λh=>let ⟨_,z,v⟩:=G.h h;let ⟨_,y,o⟩:=B.h h;⟨_,λj=>NB (z j) (y j) (hs j),Be v o⟩
def f0:CF F K mg E [] R1:=.mk λ_=>⟨_,λ_=>Nk,Sa⟩
def f1(A:CT F K mg E e t):CF F K mg E [e] t:=.mk λh=>let ⟨_,o,l⟩:=A.h h;⟨_,λj=>FJ (o j),l⟩
noncomputable abbrev Blk(F:ι->Cx)(N':Yl)(h:Scope):ι×List (Str×Addr)×Addr×Shared×Hp×List Addr->Cx:=λj=>Kt (F j.1) N' h j.2.1 j.2.2.1 j.2.2.2.1 j.2.2.2.2.1 j.2.2.2.2.2
def xC(N':Yl)(φ:Yi)(I:CJ F K mg E f e it)(G:CG (Blk F N' v) K mg f is pg)(T:CF (Blk F N' v) K mg E es t)(A:CE (Blk F N' v) K mg E g a)(hc:autoParam (∀j,(F j).calm=true) au_3)(S:autoParam (∀j,Fe v (F j).env.scope (F j).N N' φ=true) au_3)(hs:autoParam (∀j x,foldedSetIterable e (F j).env x=pure x) au_7)(h1:autoParam ((φ.filterMap id).Nodup) au_1)(h2:autoParam (∀j∈is,φ[j]?=some none) au_1) :
  CE F K mg E (.ListComp g [⟨f,e,es,0⟩] v pos) (EZ φ it pg t a):=.mk λh=>by
 have w:Fit (Blk F N' v) K mg:=⟨λj=>h.k j.1,λj=>h.m j.1⟩;obtain⟨_,Y,L⟩:=I.h h;obtain⟨_,U,J⟩:=G.h w;obtain⟨_,Q,H⟩:=T.h w;obtain⟨_,M,B⟩:=A.h w;exact⟨_,λj=>Dg (hc j) (.of<|S j) (Y j) (λz C l o y=>⟨U (j,z,C,l,o,y),Q (j,z,C,l,o,y),M (j,z,C,l,o,y)⟩) (hs j),Tv L J H B h1 h2⟩
def sN(i:Nat)(A:CS F K mg E s p):CS F K mg E s (pNm i p):=.mk λh=>let ⟨_,o,l⟩:=A.h h;⟨_,o,Zim i l⟩
def sr(A:CE F K mg E e a):CS F K mg E (.Return (some e) pos) (Gv a):=.mk λh=>let ⟨_,o,l⟩:=A.h h;⟨_,λj=>Kp (o j),Zjf l⟩
def sV(i:Nat)(o:autoParam (∀j,(F j).N[i]?=some x) au_3)(h:autoParam (∀j,Vis (F j).env.scope x) au_10)(hd:autoParam ((x==("__debug__" : Str))=false) au_1)(l:autoParam ((x==("__classdict__" : Str))=false) au_1):CS F K mg E (.Return (some<|.Name x p1) pos) (Dl i):=.mk λ_=>⟨_,λj=>Kp (pv i (o j) (h j) hd l),Zkw i⟩
def sA(i:Nat)(A:CE F K mg E e a)(C:autoParam (∀j,(F j).N[i]?=some x) au_3)(z:autoParam (∀j,Vis (F j).env.scope x) au_10)(hd:autoParam ((x==("__debug__" : Str))=false) au_1)(B:autoParam ((x==("__classdict__" : Str))=false) au_1){apos cpos}(v:autoParam (∀j,attributeBase (.Name x p1) "append" (F j).env (eval (.Name x p1) (F j).env)=eval (.Name x p1) (F j).env) au_3)(w:autoParam (∀j,((backTo cpos (starEach [e] (F j).env)).all (λx=>!x.1)&&(backToKw cpos (keywordEach [] (F j).env)).all (λx=>x.1.isSome)&&decide ([e].length+([]:List Keyword).length+(if ([]:List Keyword).isEmpty then 0 else 1)<30))=true) au_3)(o:autoParam ((apos.endLine==cpos.line)=true) au_0)(hs:autoParam (∀j,starEach [e] (F j).env=(false,eval e (F j).env)::starEach [] (F j).env) au_3)(l:autoParam (∀j,(backTo cpos (starEach [] (F j).env)).any (·.1)=false) au_3)(hw:autoParam (∀j,swapsWith (.Call (.Attribute (.Name x p1) "append" apos) [e] [] cpos) none pos.line (F j).env=pure false) au_3):CS F K mg E (.Expr (.Call (.Attribute (.Name x p1) "append" apos) [e] [] cpos) pos) (D6 i a):=
 .mk λh=>let ⟨_,G,y⟩:=A.h h;⟨_,λj=>Pn (Es Qw VB VC Bk (pv i (C j) (z j) hd B) (XY (G j) KB<|hs j) (h.k j) (v j) (w j) o (hs j)<|l j) (hw j),Zls i y⟩
def sU(i:Nat){l o}(B:∀j,(F j).N.Nodup)(w:∀{X},PIp X l (ipI o))(A:CE F K mg E e a)(y:autoParam (∀j,(F j).N[i]?=some x) au_3)(hx:autoParam (∀j,Loc (F j).env.scope x) au_13)(z:autoParam (∀j,(F j).fn x=true\/(F j).env.scope.names.lookup x=some .local) au_14):CS F K mg E (.AugAssign (.Name x p1) l e pos) (DL i o a):=
 .mk λh=>let ⟨_,C,v⟩:=A.h h;⟨_,λj=>Zfr (B j) (y j) (hx j) (C j) w (z j),Zpj v⟩
def sC(i:Nat)(N':Yl)(φ:Yi){y py spos}(hN:∀j,(F j).N.Nodup)(I:CJ F K mg E f e it)(G:CG (Blk F N' v) K mg f is pg)(T:CF (Blk F N' v) K mg E es t)(A:CE (Blk F N' v) K mg E g a)(hy:autoParam (∀j,(F j).N[i]?=some y) au_3)(hl:autoParam (∀j,(F j).env.scope.names.lookup y=some .local) au_3)(hc:autoParam (∀j,(F j).calm=true) au_3)(S:autoParam (∀j,Fe v (F j).env.scope (F j).N N' φ=true) au_3)(hs:autoParam (∀j x,foldedSetIterable e (F j).env x=pure x) au_7)(h1:autoParam ((φ.filterMap id).Nodup) au_1)(h2:autoParam (∀j∈is,φ[j]?=some none) au_1)(hw:autoParam (∀j,swapsWith (.ListComp g [⟨f,e,es,0⟩] v pos) (some<|.Name y py) spos.line (F j).env=pure true) au_3) :
  CS F K mg E (.Assign [.Name y py] (.ListComp g [⟨f,e,es,0⟩] v pos) spos) (Ed (EZ φ it pg t a)<|Bo i):=.mk λh=>by
 have w:Fit (Blk F N' v) K mg:=⟨λj=>h.k j.1,λj=>h.m j.1⟩;obtain⟨_,i1,M⟩:=I.h h;obtain⟨_,Y,L⟩:=G.h w;obtain⟨_,U,J⟩:=T.h w;obtain⟨_,Q,H⟩:=A.h w;exact⟨_,λj=>Zn7 (hN j) (hy j) (hl j) (hc j) (.of<|S j) (i1 j) (λB C l o z=>⟨Y (j,B,C,l,o,z),U (j,B,C,l,o,z),Q (j,B,C,l,o,z)⟩) (hs j) (hw j),Tu (Tv M L J H h1 h2) (Kk i)⟩
def sX(i:Nat)(B:CE F K mg E f b)(A:CE F K mg E e a)(L:autoParam (∀j,(F j).N[i]?=some x) au_3)(G:autoParam (∀j,Vis (F j).env.scope x) au_10)(hd:autoParam ((x==("__debug__" : Str))=false) au_1)(H:autoParam ((x==("__classdict__" : Str))=false) au_1){q1}(J:autoParam (∀j v,assign (.Subscript (.Name x p1) f q1) (F j).env v=(do
   let l ←holding [v] (eval (.Name x p1) (F j).env)
   let o ←holding [v,l] (eval f (F j).env)
   standAt q1
   holding [v,l,o] (setItem l o v)
   release [v,l,o] [])) au_7)(hs:autoParam (∀j,swapsWithSole [.Subscript (.Name x p1) f q1] e pos.line (F j).env=pure false) au_3)(hw:autoParam (∀j,swappedStores [.Subscript (.Name x p1) f q1] e (F j).env=pure none) au_3)(M:autoParam (∀j,(assignEach [.Subscript (.Name x p1) f q1] (F j).env).map (·.2)=[assign (.Subscript (.Name x p1) f q1) (F j).env]) au_3):CS F K mg E (.Assign [.Subscript (.Name x p1) f q1] e pos) (E4 i b a):=
 .mk λh=>let ⟨_,C,y⟩:=B.h h;let ⟨_,z,w⟩:=A.h h;⟨_,λj=>Zp4 (z j) (Zo0 (pv i (L j) (G j) hd H) (C j) Zcq<|J j) (hs j) (hw j) (M j),Zps i y w⟩
structure CO {ι:Type} (F:ι->Cx) (K:Yc) (mg:Yg) (E:L2.St->XK) (o:Option Expr) (p:PTO):Prop where
 h:Fit F K mg->∃t,(∀j,PO (F j) o t)/\TH K mg E t p
def o0:CO F K mg E none O5:=.mk λ_=>⟨_,λ_=>RD,HM⟩
def o1(A:CE F K mg E e a):CO F K mg E (some e) (HI a):=.mk λh=>let ⟨_,o,l⟩:=A.h h;⟨_,λj=>F7 (o j),Fu l⟩
def xp{lo o l u v}(A:CE F K mg E e a)(L:CO F K mg E lo l)(U:CO F K mg E o u):CE F K mg E (.Subscript e (.Slice lo o none v) pos) (pSl a l u):=
 .mk λh=>let ⟨_,G,z⟩:=A.h h;let ⟨_,C,y⟩:=L.h h;let ⟨_,B,w⟩:=U.h h;⟨_,λj=>De (AO<|h.k j) (G j) (C j) (B j),Znx z y w⟩
def xn(A:CE F K mg E e a):CE F K mg E (.UnaryOp .Not e pos) (M7 a):=.mk λh=>let ⟨_,o,l⟩:=A.h h;⟨_,λj=>OF (o j),RJ l⟩
def sQ{cpos v}(B:ExcR.Ks K (ExcR.Xs mg x))(y:mg x=some (.ref<|ExcR.Xs mg x))(H:∀{j},ExcR.AB (F j) v)(A:CA F K mg (λ_=>v) (e::es) r)(G:autoParam (∀j,(F j).calm=true) au_3)(z:autoParam (∀j,Gl (F j) x) au_3)(o:autoParam ((x==("__debug__" : Str))=false) au_1)(C:autoParam (∀j,starEach (e::es) (F j).env=(false,eval e (F j).env)::starEach es (F j).env) au_3)(l:autoParam (∀j,(backTo cpos (starEach es (F j).env)).any (·.1)=false) au_3)(hx:autoParam (NJ x=none) au_0) :
  CS F K mg (λ_=>v) (.Raise (some<|.Call (.Name x p1) (e::es) [] cpos) none pos) (OU x r):=
 .mk λh=>let ⟨_,J,w⟩:=A.h h;⟨_,λj=>ExcR.Zp3 (by rw[h.k j];exact B.c) (by rw[h.m j];exact y) H (G j) (J j) (z j) o (C j) (l j),Zo3 w hx⟩
def xg{ps y v}(C:Callee P w K mg base (ExcR.CXe P w) k x ps (Xv mg y K))(J:∀j,Xz m (F j).A)(hx:∀{j},Pz (ExcR.CXe P w) (F j) v)(A:CA F K mg (λ_=>v) (e::es) r)(Q:autoParam (∀j,(F j).prog=P/\(F j).w=w/\(F j).base=base) au_11)(L:autoParam (k<=m) au_1)(M:autoParam (∀j,Gl (F j) x) au_3)(o:autoParam ((x==("__debug__" : Str))=false) au_1)(N:autoParam (∀j,starEach (e::es) (F j).env=(false,eval e (F j).env)::starEach es (F j).env) au_3)(l:autoParam (∀j,(backTo pos (starEach es (F j).env)).any (·.1)=false) au_3) :
  CE F K mg (λ_=>v) (.Call (.Name x p1) (e::es) [] pos) (Hg y r):=
 .mk λh=>let ⟨_,T,H⟩:=A.h h;⟨_,λj=>Ai (by obtain⟨G,B,z⟩:=Q j;rw[G,B,z,h.k j,h.m j];exact C) ((J j).mono L) hx (T j) (M j) o (N j) (l j),Zp2 H⟩
variable {pw:PTW}
end
section
variable {P:Program}{w:World}{K:Yc}{mg:Yg}{base:Heap}{N ps:Yl}{sp:Sp}{p:PTS}{x q:Str}{st:Stmt}{k:Nat}{W:Addr->Prop}
def _root_.Own.Def.fz (D:Def K mg x st ps) (S:Xr N ps (Xq st))
  (o:∀{f g A outer s H} {E:XK},(∀{n:Type},n->Xz k (A.deeper<|envOfC x (Xq st) s.heap.objs.size f g))->(Unit->N.Nodup)->
   CB (λ_:Unit=>(Kf CX0 P w K mg base N x (Xq st) f g A outer s H E).nox) K mg (λ_=>E) (XU st) p) (u:Uz K mg N ps sp p):Callee P w K mg base CX0 (k+1) x ps sp:=
 D.ez S (λr=>let ⟨t,h,l⟩:=(o (λ_=>r) λ_=>S.nd).h ⟨λ_=>rfl,λ_=>rfl⟩;⟨t,h (),l⟩) u
def _root_.Own.Def.fy (D:Def K mg x st ps) (S:Xr N ps (Xq st))
  (o:∀{f g A outer s H} {E:XK},(∀{n:Type},n->Xz k (A.deeper<|envOfC x (Xq st) s.heap.objs.size f g))->(Unit->N.Nodup)->
   CB (λ_:Unit=>Kf (ExcR.CXe P w) P w K mg base N x (Xq st) f g A outer s H E) K mg (λ_=>E) (XU st) p) (u:Uz K mg N ps sp p):Callee P w K mg base (ExcR.CXe P w) (k+1) x ps sp:=
 D.ey S (λr=>let ⟨t,h,l⟩:=(o (λ_=>r) λ_=>S.nd).h ⟨λ_=>rfl,λ_=>rfl⟩;⟨t,h (),l⟩) u
def XD.fz (D:XD K W x q st ps) (S:Xr N ps (Xq st))
  (o:∀{f g A outer s H} {E:XK},(∀{n:Type},n->Xz k (A.deeper<|envOfC q (Xq st) s.heap.objs.size f g))->(Unit->N.Nodup)->
   CB (λ_:Unit=>(Kf CX0 P w K mg base N q (Xq st) f g A outer s H E).nox) K mg (λ_=>E) (XU st) p) (u:Uz K mg N ps sp p):Pa P w K mg base CX0 (k+1) W ps sp:=
 D.ez S (λr=>let ⟨t,h,l⟩:=(o (λ_=>r) λ_=>S.nd).h ⟨λ_=>rfl,λ_=>rfl⟩;⟨t,h (),l⟩) u
def XD.fy (D:XD K W x q st ps) (S:Xr N ps (Xq st))
  (o:∀{f g A outer s H} {E:XK},(∀{n:Type},n->Xz k (A.deeper<|envOfC q (Xq st) s.heap.objs.size f g))->(Unit->N.Nodup)->
   CB (λ_:Unit=>Kf (ExcR.CXe P w) P w K mg base N q (Xq st) f g A outer s H E) K mg (λ_=>E) (XU st) p) (u:Uz K mg N ps sp p):Pa P w K mg base (ExcR.CXe P w) (k+1) W ps sp:=
 D.ey S (λr=>let ⟨t,h,l⟩:=(o (λ_=>r) λ_=>S.nd).h ⟨λ_=>rfl,λ_=>rfl⟩;⟨t,h (),l⟩) u
end
mutual
noncomputable def py:D->PyData
 | .int i=>.int i
 | .bl b=>.bool b
 | .str x=>.str x
 | .tup f=>.tuple (pys f)
 | .lst f=>.list (pys f)
 | .fL g=>.list (g.map .int)
 |_=>.none
noncomputable def pys:List D->List PyData
 |[]=>[]
 |d::r=>py d::pys r
end
mutual
noncomputable def okS:D->Bool
 | .int _=>true
 | .bl _=>true
 | .str _=>true
 | .tup f=>PH f
 | .lst f=>PH f
 | .fL _=>true
 | .non=>true
 |_=>false
noncomputable def PH:List D->Bool
 |[]=>true
 |d::r=>okS d&&PH r
end
theorem okSs_iff:∀{ds:List D},PH ds=true↔∀d∈ds,okS d=true
 |[]=>by simp[PH]
 |d::r=>by
  unfold PH;rw[Q2,okSs_iff];simp
theorem NZ{g:Type}(f:g->D):∀xs:List g,pys (xs.map f)=xs.map λx=>py (f x)
 |[]=>rfl
 |x::r=>by
  rw[Qb,Qb];unfold pys;rw[NZ f r]
def RdV(H:Hp)(v:V)(p:PyData):Prop:=∀(P:Program) (w:World) (h:Heap) (u:Value),HOk P w H h->RelV v u->∃f,Reads h u p f
def Zcc(H:Hp)(vs:List V)(ps:List PyData):Prop:=∀(P:Program) (w:World) (h:Heap) (f:Yk),HOk P w H h->Vals vs f->∃g,ReadsAll h f ps g
theorem Mj{h:Heap}:∀{ns:Ye}{us:Yk},Vals (ns.map V.int) us->∃f,ReadsAll h us (ns.map .int) f
 |[],_,r=>by cases r;exact⟨_,.nil⟩
 |n::ns,_,r=>by
  cases r with
  |cons l g=>
   obtain⟨t,rfl⟩:=l;obtain⟨f,q⟩:=Mj g;exact⟨_,.cons (.int _ _) q⟩
section
variable {K:Yc}{H:Hp}
def Rp.reads {d:D}{v:V}:Rp K H d v->okS d=true->RdV H v (py d):=by
 have f:∀{d} {P:Prop},okS d=false->okS d=true->P:=λh e=>by rw[h]at e;cases e
 refine Rp.rec (motive_1:=λd v _=>okS d=true->RdV H v (py d)) (motive_2:=λy z _=>PH y=true->Zcc H z (pys y)) ?_ ?_ ?_ ?_ (λ_=>f rfl) ?_ ?_ (λ_=>f rfl) (λ_=>f rfl) (λ_=>f rfl) (λ_=>f rfl) (λ_ _=>f rfl) (λ_=>f rfl) (λ_=>f rfl) (λ_ _ _=>f rfl) ?_ (λ_ _ _ _=>f rfl) ?_ ?_
 ·intro i _ P w h u ok r;obtain⟨t,rfl⟩:=r;exact⟨_,.int _ _⟩
 ·intro b _ P w h u ok r;cases r
  exact⟨_,.bool _⟩
 ·intro _ P w h u ok r;cases r
  exact⟨_,.none⟩
 ·intro x _ P w h u ok r;obtain⟨t,rfl⟩:=r;exact⟨_,.str _ _⟩
 ·intro y z a s E A e P w h u ok r;cases r
  obtain⟨_,g,l,o,p,N,n,hd⟩:=(show ObjOk P w H h _ (.tup _)from ok _ _ s)
  obtain⟨B,q⟩:=A (by unfold okS at e;exact e) P w h g ok l;exact⟨_,.tuple p N hd (by simpa using q)⟩
 ·intro y z a s E A e P w h u ok r;cases r
  obtain⟨_,g,n,l,p⟩:=(show ObjOk P w H h _ (.lst _)from ok _ _ s)
  obtain⟨B,q⟩:=A (by unfold okS at e;exact e) P w h g ok l;exact⟨_,.list p rfl rfl (by simpa using q)⟩
 ·intro a o Q s _ P w h u ok r;cases r
  obtain⟨_,_,g,n,l,p⟩:=(show ObjOk P w H h _ (.frz _<|.lst _)from ok _ _ s)
  obtain⟨B,q⟩:=Mj (h:=h) l;exact⟨_,.list p rfl rfl (by simpa using q)⟩
 ·intro _ P w h C ok r;cases r
  exact⟨_,.nil⟩
 ·intro d v y z _ _ M L e P w h C ok r;unfold PH at e;rw[Q2]at e;cases r with
  |cons a b=>
   obtain⟨B,J⟩:=M e.1 P w h _ ok a;obtain⟨bs,G⟩:=L e.2 P w h _ ok b;exact⟨_,.cons J G⟩
end
structure Rk (p:PyData) (k b:Nat):Prop where
 ls:p.leavesShort 24=true
 sh:p.showable=true
 hd:p.hasDict=false
 bk:p.bulk<=b
 dp:p.depth<=k
structure RkA (ps:List PyData) (k b:Nat):Prop where
 ls:PyData.leavesShortAll 24 ps=true
 sh:PyData.showableAll ps=true
 hd:PyData.hasDictAll ps=false
 bk:PyData.bulkAll ps<=b
 dp:PyData.depthAll ps<=k
def Rk.int {i:Int} (h:i.natAbs<10 ^ 23) (k b:Nat):Rk (.int i) k b:=by
 refine⟨?_,?_,by simp only[PyData.hasDict],by simp only[PyData.bulk];lia,by simp only[PyData.depth];lia⟩
 ·simp only[PyData.leavesShort,V4]
  have:=int_text_length_le10 (a:=i) (k:=23) (by decide) h
  rw[PyData.shown_int,PySem.ofString_length];exact this
 ·simp only[PyData.showable,V4];by_cases z:i.natAbs=0
  ·rw[z];decide
  ·exact Qn ((Nat.log2_lt z).mpr (V8 h<|show 10 ^ 23<2 ^ 77 by decide)) (by decide)
def Rk.str {x:Str}{b:Nat} (h:(x.cps.toList.all λc=>decide (c<16 ^ 8))=true) (f:x.cps.size<=b) (k:Nat):Rk (.str x) k b:=by
 refine⟨?_,by simp only[PyData.showable],by simp only[PyData.hasDict],by simp only[PyData.bulk];exact f,by simp only[PyData.depth];lia⟩;simp only[PyData.leavesShort];exact h
def RkA.nil (k b:Nat):RkA [] k b:=⟨rfl,rfl,rfl,by simp only[PyData.bulkAll];lia,by simp only[PyData.depthAll];lia⟩
def RkA.cons {p:PyData}{ps:List PyData}{k b1 b2 b:Nat} (h:Rk p k b1) (r:RkA ps k b2) (f:b1+1+b2<=b):RkA (p::ps) k b:=by
 refine⟨?_,?_,?_,?_,?_⟩
 ·simp only[PyData.leavesShortAll,h.ls,r.ls,Bool.and_self]
 ·simp only[PyData.showableAll,h.sh,r.sh,Bool.and_self]
 ·simp only[PyData.hasDictAll,h.hd,r.hd,Bool.or_self]
 ·simp only[PyData.bulkAll];have:=h.bk;have:=r.bk;lia
 ·simp only[PyData.depthAll];have:=h.dp;have:=r.dp;lia
theorem RkA.map {g:Type}{f:g->PyData}{k b:Nat}:∀{xs:List g},(∀x∈xs,Rk (f x) k b)->RkA (xs.map f) k (xs.length*(b+1))
 |[],_=>.nil _ _
 |x::r,h=>by
  rw[Qb];refine .cons (h x Qy) (RkA.map λy l=>h y (Qf _ l)) ?_;rw[Qa,Nat.add_mul];lia
def Rk.list {ps:List PyData}{k b b':Nat} (h:RkA ps k b) (f:autoParam (b<=b') au_16):Rk (.list ps) (k+1) b':=by
 refine⟨?_,?_,?_,?_,?_⟩
 ·simp only[PyData.leavesShort];exact h.ls
 ·simp only[PyData.showable];exact h.sh
 ·simp only[PyData.hasDict];exact h.hd
 ·simp only[PyData.bulk];have:=h.bk;lia
 ·simp only[PyData.depth];have:=h.dp;lia
def Rk.tuple {ps:List PyData}{k b b':Nat} (h:RkA ps k b) (f:autoParam (b<=b') au_16):Rk (.tuple ps) (k+1) b':=by
 refine⟨?_,?_,?_,?_,?_⟩
 ·simp only[PyData.leavesShort];exact h.ls
 ·simp only[PyData.showable];exact h.sh
 ·simp only[PyData.hasDict];exact h.hd
 ·simp only[PyData.bulk];have:=h.bk;lia
 ·simp only[PyData.depth];have:=h.dp;lia
def Rk.mono {p:PyData}{k k' b b':Nat} (h:Rk p k b) (f:k<=k') (g:b<=b'):Rk p k' b':=⟨h.ls,h.sh,h.hd,WV h.bk g,WV h.dp f⟩
def Rk.fits {p:PyData}{k b:Nat} (h:Rk p k b) (f:b<=200000):p.shown.length<=sizeLine:=by
 have l:=PyData.shown_le_bulk 24 (by decide) p h.ls;have g:=h.bk;rw[Jt];lia
end Pu
namespace Own
open L2
section
variable {X:Cx}
def MG:List V->Hp->VK->Prop:=λxs H Q=>∃a p,xs=[.ref a]/\Pu.RdV H (.ref a) p/\Pu.Rk p 60 200000/\Q (.str p.shown) H
def FT(o:X.A.guards=some [])(z:X.A.units+64<cLine):Kl X (.builtin "repr") MG:=by
 intro pins s v H xs x Q I r h;obtain⟨a,p,rfl,n,f,q⟩:=h;obtain⟨u,rfl,g⟩:=r.one;obtain rfl:u=Value.ref a:=g;obtain⟨C,l⟩:=n X.prog X.w s.heap (.ref a) I.hok rfl;exact repr_of_reads' l f.sh (PyData.noDict_hsm f.hd) o (by have:=f.dp;lia) (λ_ _ e=>e) (λB u y hx=>⟨.str _,H,I.kept hx,⟨_,rfl⟩,q⟩) (f.fits<|WQ _)
end
end Own
namespace Pu
open L2 Own
section
variable {K:Yc}{mg:Yg}{E:L2.St->XK}
structure Zll (d:D) (R:S->Prop):Prop where
 w:okS d=true/\(∃ds,d=.lst ds)/\Rk (py d) 60 200000/\R (.sh (.str (py d).shown))
def HV:List S->(S->Prop)->Prop
 |[s],R=>Zll s.d R
 |_,_=>False
def Fz{g:TA}{r:PTA}(u:XC K mg E g r):Xp K mg E (tCB MG g) (pCB HV r):=by
 refine KZ u λN H A Z G B R Q o J L l h q=>?_;unfold HV at h;split at h
 ·rename_i s;obtain⟨v,rfl,n⟩:=l.one_inv;have f:=n.rp o;obtain⟨z,⟨M,hd⟩,y,x⟩:=h.w;have p:=f.reads z;rw[hd]at f;obtain⟨a,C,rfl,_,_⟩:=f.lst_inv;exact⟨a,_,rfl,p,y,q _ _ A x (Same.refl _) (.str _)⟩
 ·exact h.elim
end
end Pu
namespace M
open L2 Own Pu
def Mv.uniq {ps:Yd}{f:Int->Int}{ns:Ye}{n g:List Mo} (h:Mv ps f ns n) (k:Mv ps f ns g):n=g:=by
 induction h generalizing g with
 |done ns hw=>
  cases k with
  |done=>rfl
  |step _ p _ l s _=>exact absurd (l.uniq hw) s
 |step ns p n l s w u=>
  cases k with
  |done _ hw=>exact absurd (l.uniq hw) s
  |step _ v _ o _ r=>
   obtain rfl:=l.uniq o;rw[u r]
def FH{ps:Yd}(f:Field ps)(j:Nat):0<=(ps.getD j (0,0)).2/\(ps.getD j (0,0)).2<=1000:=by
 rw[WR];by_cases h:j<ps.length
 ·rw[WH h]
  have:=f _ (Qg h)
  show 0<=ps[j].2/\ps[j].2<=1000;lia
 ·rw[Vg (by lia)];exact⟨QL 0,by decide⟩
theorem RG{ps:Yd}(f:Field ps)(y:Int):∀n:Nat,0<=tpM ps y n/\tpM ps y n<=1000*n
 | 0=>⟨QL 0,QL 0⟩
 |n+1=>by
  have h:=RG f y n;have w:=FH f n;unfold tpM;split<;>lia
theorem HY{ps:Yd}(f:Field ps)(g:ps.length<=40)(x y:Int):∀n:Nat,n<=ps.length->0<=pcM ps x y n/\pcM ps x y n<=40000000*n
 | 0,_=>⟨QL 0,QL 0⟩
 |n+1,l=>by
  have h:=HY f g x y n (by lia);have w:=FH f n;have t:=RG f y n;unfold pcM;split
  ·have p:=Int.mul_nonneg t.1 w.1;have o:tpM ps y n*(ps.getD n (0,0)).2<=40000*1000:=JM (by lia) w.2 w.1 (by decide);lia
  ·lia
theorem Hj{c:Int->Int->Int}(f:∀x y,0<=c x y/\c x y<=1600000000):∀o:Ye,o.length<=10->0<=oc c o/\oc c o<=16000000000*o.length
 |[],_=>⟨QL 0,QL 0⟩
 |a::r,g=>by
  rw[Qa]at g;have h:=Hj f r (by lia)
  have s:∀l:Ye,0<=(l.map<|c a).sum/\(l.map<|c a).sum<=1600000000*l.length:=λl=>by
   induction l with
   |nil=>exact⟨QL 0,QL 0⟩
   |cons b l n=>
    have:=f a b
    rw[Qb,List.sum_cons,Qa];lia
  have s:=s r;unfold oc;rw[Qa];lia
def LM{ps l:Yd}{f:Ye}{v:Int}(r:Field ps)(n:ps.length<=40)(p:f.length<=10)(h:KA l (pcc ps) f v):0<=v/\v<=160000000000:=by
 obtain⟨o,g,_,rfl⟩:=h.is
 have:=Hj (c:=pcc ps) (λx y=>by have:=HY r n x y ps.length (WQ _);unfold pcc;lia) o (by rw[g.length_eq];exact p)
 have:=g.length_eq
 lia
def Zko{ps n:Yd}{hs vs:Ye}(u:Field ps)(o:ps.length<=40)(l:hs.length<=10)(h:TabV n (pcc ps) (XF hs) vs):vs.length<=1024/\∀v∈vs,0<=v/\v<=160000000000:=by
 obtain⟨r,p⟩:=h;have e:=DR hs;refine⟨?_,λv g=>?_⟩
 ·rw[r,e];exact WV (JG (by decide) l) (by decide)
 ·obtain⟨i,s,ei⟩:=List.getElem_of_mem g;have f:i<(XF hs).length:=by lia
  refine LM u o ?_ (p i (XF hs)[i] v (WH f) (by rw[WH s,ei]));exact WV (Sd hs _<|Qg f).length_le l
def Zq0{ps:Yd}{f:Int->Int}{ns:Ye}{n:List Mo}(v:Field ps)(z:ps.length<=40)(h:Mv ps f ns n)(o:ns.Perm (Km 1 ps.length)):∀m∈n,(0<=m.1/\m.1<=40)/\(0<=m.2.1/\m.2.1<=40)/\(0<=m.2.2.1/\m.2.2.1<=40)/\(0<=m.2.2.2/\m.2.2.2<=1000000):=by
 induction h with
 |done=>intro m s;cases s
 |step ns p n hw y s w=>
  obtain⟨x,r,_⟩:=hw.2.resolve_left y;rw[WG]at r;have A:ns.length=ps.length:=by rw[o.length_eq,BH]
  have g:∀i,i<ns.length->0<=ns.getD i 0/\ns.getD i 0<=40:=λi u=>by
   rw[WR,WH u]
   have:=run_mem.mp (o.mem_iff.mp<|Qg u)
   show 0<=ns[i]/\ns[i]<=40;lia
  intro m l;rcases WU.mp l with rfl|l
  ·refine⟨by dsimp only;lia,g _ (by lia),g _ r,?_⟩;have a:=FH v (ns.getD (p-1) 0-1).toNat;have b:=FH v (ns.getD p 0-1).toNat;exact⟨Int.mul_nonneg a.1 b.1,Int.le_trans (JM a.2 b.2 b.1<|by decide) (by decide)⟩
  ·exact w ((CK x r).trans o) m l
def Zhi{ps:Yd}{f:Int->Int}{g:List Mo}(p:ps.length<=40)(h:Mv ps f (Km 1 ps.length) g):g.length<=1600:=by
 have o:=h.len;have l:=(Sk f<|Km 1 ps.length).2;rw[BH]at l;have n:(ps.length:Int)*(ps.length:Int)<=40*40:=JM (by lia) (by lia) (by lia) (by lia);lia
end M
namespace Pu
open L2 Own M
def Rk.nat {i:Int} (h:0<=i/\i<=160000000000) (k b:Nat):Rk (.int i) k b:=by
 have c:(160000000001:Nat)<=10 ^ 23:=by decide
 exact .int (by lia) k b
def Rk.ints {ns:Ye} (h:∀n∈ns,0<=n/\n<=160000000000):Rk (py<|.lst<|ns.map D.int) 1 ns.length:=by
 have e:py (.lst<|ns.map D.int)=.list (ns.map PyData.int):=by unfold py;rw[NZ];rfl
 rw[e];exact .list (RkA.map (b:=0) λn f=>.nat (h n f) _ _) (by lia)
def Rk.pairs {ps:Yd} (h:∀q∈ps,(0<=q.1/\q.1<=1000)/\(0<=q.2/\q.2<=1000)):Rk (py<|plD ps) 2 (ps.length*3):=by
 have e:py (plD ps)=.list (ps.map λq=>.tuple [.int q.1,.int q.2]):=by unfold plD py;rw[NZ];rfl
 rw[e];exact .list (RkA.map (b:=2) λq hq=>.tuple (b:=2) (.cons (b1:=0) (b2:=1) (.nat (by have:=h q hq;lia) _ _) (.cons (b1:=0) (b2:=0) (.nat (by have:=h q hq;lia) _ _) (.nil _ _)<|by lia)<|by lia)) (by lia)
def Rk.mvs {f:List Mo} (h:∀m∈f,(0<=m.1/\m.1<=40)/\(0<=m.2.1/\m.2.1<=40)/\(0<=m.2.2.1/\m.2.2.1<=40)/\(0<=m.2.2.2/\m.2.2.2<=1000000)):Rk (py<|.lst<|f.map mvD) 2 (f.length*5):=by
 have e:py (.lst<|f.map mvD)=.list (f.map λm=>.tuple [.int m.1,.int m.2.1,.int m.2.2.1,.int m.2.2.2]):=by unfold py;rw[NZ];rfl
 rw[e];exact .list (RkA.map (b:=4) λm g=>.tuple (b:=4) (.cons (b1:=0) (b2:=3) (.nat (by have:=h m g;lia) _ _) (.cons (b1:=0) (b2:=2) (.nat (by have:=h m g;lia) _ _) (.cons (b1:=0) (b2:=1) (.nat (by have:=h m g;lia) _ _) (.cons (b1:=0) (b2:=0) (.nat (by have:=h m g;lia) _ _) (.nil _ _)<|by lia)<|by lia)<|by lia)<|by lia)) (by lia)
def DV(ns:Ye):okS (.lst<|ns.map D.int)=true:=by
 unfold okS;exact okSs_iff.mpr λd hd=>by obtain⟨n,_,rfl⟩:=Qi.mp hd;rfl
def EB(ps:Yd):okS (plD ps)=true:=by
 unfold plD okS;exact okSs_iff.mpr λd hd=>by obtain⟨n,_,rfl⟩:=Qi.mp hd;rfl
def Zoh(f:List Mo):okS (.lst<|f.map mvD)=true:=by
 unfold okS;exact okSs_iff.mpr λd hd=>by obtain⟨n,_,rfl⟩:=Qi.mp hd;rfl
end Pu
namespace M
open L2 Own Pu
def AllT(f w:Yd)(ds:List D):Prop:=
 (∃r,FR (Xy f) w r/\r≠[]/\r.length<=60/\ds=[.lst (r.map D.int),.fL r])\/
 ((¬ ∃r,Ring (Xy f) w r)/\∃(o:Ye) (v:Int) (g:Ye) (l:List Mo),KU w (pcc f) (Xy f) o/\KA w (pcc f) (Xy f) v/\TabV w (pcc f) (XF<|Xy f) g/\Mv f (rkN f o) (Km 1 f.length) l/\
  ds=[.lst [],.lst (o.map D.int),.int v,.lst (g.map D.int),.lst (l.map mvD),plD (o.flatMap λh=>f.filter λq=>decide (q.1=h))])
def AllT.uniq {f w:Yd}{ds es:List D} (x:∀q∈w,q.1≠q.2) (h:AllT f w ds) (k:AllT f w es):ds=es:=by
 rcases h with⟨r,n,s,_,rfl⟩|⟨p,o,v,G,L,n,s,E,C,rfl⟩
 ·rcases k with⟨u,g,l,_,rfl⟩|⟨p,_⟩
  ·rw[n.one g]
  ·exact absurd ⟨r,(n.ring x s).1⟩ p
 ·rcases k with⟨u,g,l,_,rfl⟩|⟨_,J,H,y,z,g,l,B,A,rfl⟩
  ·exact absurd ⟨u,(g.ring x l).1⟩ p
  ·obtain rfl:=KU.uniq n g;obtain rfl:=s.uniq l;obtain rfl:=TabV.uniq E B;obtain rfl:=C.uniq A;rfl
def AllT.len {f w:Yd}{ds:List D} (h:AllT f w ds):ds.length<=6:=by
 rcases h with⟨r,_,_,_,rfl⟩|⟨_,o,v,g,l,_,_,_,_,rfl⟩<;>simp
theorem MO{f:Yd}(g:Int->Int×Int->Bool):∀o:Ye,(o.flatMap λh=>f.filter (g h)).length<=o.length*f.length
 |[]=>by simp
 |a::r=>by
  rw[List.flatMap_cons,WS,Qa,Nat.add_mul];have n:=MO (f:=f) g r;have l:=QA (g a) f;lia
def AllT.rk {f w:Yd}{ds:List D} (p:Field f) (s:f.length<=40) (M:∀q∈w,q.1≠q.2) (h:AllT f w ds):PH ds=true/\RkA (pys ds) 50 20000:=by
 have l:∀x∈Xy f,0<=x/\x<=10:=λx hx=>by
  obtain⟨q,hq,rfl⟩:=Qi.mp ((Fj p).mp hx)
  have:=p q hq
  lia
 rcases h with⟨r,y,C,B,rfl⟩|⟨hN,o,v,z,A,y,C,B,H,rfl⟩
 ·have N:∀n∈r,0<=n/\n<=160000000000:=λn u=>by have:=l n ((y.ring M C).1.sub n u);lia
  refine⟨okSs_iff.mpr λd hd=>?_,?_⟩
  ·simp only[WU,Vq,or_false]at hd;rcases hd with rfl|rfl
   ·exact DV r
   ·rfl
  ·have U:py (.fL r)=py (.lst<|r.map D.int):=by unfold py;rw[NZ];rfl
   have e:pys [.lst (r.map D.int),.fL r]=[py (.lst<|r.map D.int),py (.fL r)]:=rfl;rw[e,U];have k:=(Rk.ints N).mono (k':=50) (b':=60) (by decide) B;exact .cons k (.cons k (.nil _ 0)<|WQ _) (by decide)
 ·have lo:o.length<=10:=by rw[y.perm.length_eq];exact P7 f
  have Q:∀n∈o,0<=n/\n<=160000000000:=λn u=>by have:=l n (y.perm.mem_iff.mp u);lia
  have L:=LM p s (P7 f) C;have E:=Zko p s (P7 f) B;have T:=Zq0 p s H (.refl _);have hc:=Zhi s H;have J:=MO (f:=f) (λh q=>decide (q.1=h)) o
  have G:∀q∈o.flatMap λh=>f.filter λq=>decide (q.1=h),(0<=q.1/\q.1<=1000)/\(0<=q.2/\q.2<=1000):=λq hq=>by
   obtain⟨h,_,hq⟩:=List.mem_flatMap.mp hq
   have:=p q (Qv.mp hq).1
   lia
  have Y:o.length*f.length<=10*40:=Nat.mul_le_mul lo s;generalize (o.flatMap λh=>f.filter λq=>decide (q.1=h))=g at J G ⊢;refine⟨okSs_iff.mpr λd hd=>?_,?_⟩
  ·simp only[WU,Vq,or_false]at hd;rcases hd with rfl|rfl|rfl|rfl|rfl|rfl
   ·rfl
   ·exact DV o
   ·rfl
   ·exact DV z
   ·exact Zoh A
   ·exact EB g
  ·have e:pys [.lst [],.lst (o.map D.int),.int v,.lst (z.map D.int),.lst (A.map mvD),plD g]=[py (.lst (([]:Ye).map D.int)),py (.lst<|o.map D.int),.int v,py (.lst<|z.map D.int),py (.lst<|A.map mvD),py (plD g)]:=rfl;rw[e];refine .cons (b2:=19990) ((Rk.ints (ns:=[]) (λn u=>by cases u)).mono (by decide) (QV 0)) ?_ (by decide);refine .cons (b2:=19970) ((Rk.ints Q).mono (b':=10) (by decide) lo) ?_ (by decide);refine .cons (b2:=19960) (.nat L _ 0) ?_ (by decide);refine .cons (b2:=18000) ((Rk.ints E.2).mono (b':=1024) (by decide) E.1) ?_ (by decide);refine .cons (b2:=2000) ((Rk.mvs T).mono (b':=8000) (by decide) (by lia)) ?_ (by decide);exact .cons (b2:=0) ((Rk.pairs G).mono (b':=1200) (by decide) (by lia)) (.nil _ _) (by decide)
def FineH.take {f0:Yd}{hs:XM} (h:FineH f0 hs) (i:Nat):FineH f0 (hs.take i):=by
 refine⟨λg f=>h.1 g ?_,λg f=>h.2 g ?_⟩
 ·unfold fsH at f ⊢;rw[List.map_take]at f;rcases WU.mp f with rfl|f
  ·exact Qy
  ·exact Qf _ (Va f)
 ·unfold wsH at f ⊢;rw[List.map_take]at f;rcases WU.mp f with rfl|f
  ·exact Qy
  ·exact Qf _ (Va f)
end M
namespace Pu
open L2 Own
section
variable {K:Yc}{mg:Yg}{E:L2.St->XK}
noncomputable def Zj8(w:PTW)(b:PTE):PTW:=λg R X=>w g (λf d=>match d with | .bl c=>if c=true then b f (λs=>match s.d with | .bl h=>R f (.bl h)|_=>False) (X f)else R f (.bl false)|_=>False) X
def Znf{te y:TE}{w:PTW}{b:PTE}(hw:KO K mg E te w)(N:Xp K mg E y b):KO K mg E (Df te y) (Zj8 w b):=by
 intro G B H x J R X Q T r h q A;refine hw G B H x J _ _ _ T r h (λf d v C n o f1 M=>?_) A;split at n
 ·rename_i c;refine⟨c,M.bl_inv,?_⟩;split at n
  ·rename_i p;rw[WO p];refine N G B C x f _ _ _ o n (λs v u l g L=>?_) λc u l g=>A f c u l (o.grow g) (f1.trans<|Fr.grow g);split at l
   ·rename_i Y U;have z:=L.rp (o.grow g).same;rw[U]at z;rw[z.bl_inv];exact q f _ _ u l (o.grow g) (f1.trans<|Fr.grow g) (.bl _)
   ·exact l.elim
  ·rename_i p;rw[WM p];exact q f _ _ C n o f1 (.bl _)
 ·exact n.elim
end
end Pu
namespace T
open L2
noncomputable def top(i:Nat):Stmt:=PySem.Challenge.pw_stripmeld_k43_whole_taken_back.main.body.getD i (.Pass ⟨0,0,0,0⟩)
noncomputable abbrev Du:Stmt:=inClass (top 18) 0
def Zn8:Xr ["self","members"] ["self","members"] (Xq Du):=Pu.fs
noncomputable abbrev CY:Stmt:=top 23
def Zii:Xr ["holder"] ["holder"] (Xq CY):=Pu.fs
noncomputable abbrev Dh:Stmt:=top 24
def Zba:Xr ["width"] ["width"] (Xq Dh):=Pu.fs
noncomputable abbrev AQ:Stmt:=top 25
def Zay:Xr ["strips","holder","width"] ["strips"] (Xq AQ):=Pu.fs
noncomputable abbrev Ee:Stmt:=top 26
def Zlh:Xr ["strips"] ["strips"] (Xq Ee):=Pu.fs
noncomputable abbrev AD:Stmt:=top 27
def Zq2:Xr ["strips","order"] ["strips","order"] (Xq AD):=Pu.fs
noncomputable abbrev Az:Stmt:=top 28
def Zg4:Xr ["strips","order","field","holder"] ["strips","order"] (Xq Az):=Pu.fs
noncomputable abbrev EM:Stmt:=top 30
def Zh3:Xr ["strips","ahead","behind","to_pass","cost","holder","width"] ["strips","ahead","behind"] (Xq EM):=Pu.fs
noncomputable abbrev Cy:Stmt:=top 32
def Zqk:Xr ["strips"] ["strips"] (Xq Cy):=Pu.fs
noncomputable abbrev Cp:Stmt:=top 33
def Zn6:Xr ["strips","numbers","place","left","right"] ["strips","numbers","place"] (Xq Cp):=Pu.fs
noncomputable abbrev DZ:Stmt:=top 34
def Zc2:Xr ["numbers","place"] ["numbers","place"] (Xq DZ):=Pu.fs
noncomputable abbrev Cq:Stmt:=top 35
def Zey:Xr ["numbers","ranks","place"] ["numbers","ranks"] (Xq Cq):=Pu.fs
noncomputable abbrev Ds:Stmt:=top 36
def Zhm:Xr ["strips","order","ranks","numbers","moves","place"] ["strips","order"] (Xq Ds):=Pu.fs
noncomputable abbrev CN:Stmt:=top 37
def Zsb:Xr ["strips","place"] ["strips","place"] (Xq CN):=Pu.fs
noncomputable abbrev Gf:Stmt:=top 40
def Mm:Xr ["paths","left","wishes","longer","reached","path","holder"] ["paths","left","wishes"] (Xq Gf):=Pu.fs
noncomputable abbrev ED:Stmt:=top 41
def Zmg:Xr ["least","holders","wishes","paths","left","rings","reached"] ["least","holders","wishes"] (Xq ED):=Pu.fs
noncomputable abbrev CL:Stmt:=top 42
def Zm8:Xr ["holders","wishes","ring","least","found"] ["holders","wishes"] (Xq CL):=Pu.fs
noncomputable abbrev Dt:Stmt:=top 43
def Zj3:Xr ["strips","wishes","ring"] ["strips","wishes"] (Xq Dt):=Pu.fs
noncomputable abbrev Eb:Stmt:=top 45
def Zdr:Xr ["strips","place"] ["strips","place"] (Xq Eb):=Pu.fs
noncomputable abbrev A4:Stmt:=top 46
def Zms:Xr ["strips","place","holder","strip"] ["strips","place","holder"] (Xq A4):=Pu.fs
noncomputable abbrev Cv:Stmt:=top 47
def Zn1:Xr ["strips","place","width","strip"] ["strips","place","width"] (Xq Cv):=Pu.fs
noncomputable abbrev A6:Stmt:=top 48
def Zcy:Xr ["strips","place","left","right"] ["strips","place"] (Xq A6):=Pu.fs
noncomputable abbrev Ck:Stmt:=top 49
def Zjn:Xr ["wishes","ahead","behind"] ["wishes","ahead","behind"] (Xq Ck):=Pu.fs
noncomputable abbrev E5:Stmt:=top 50
def Zm6:Xr ["wishes","ahead","behind"] ["wishes","ahead","behind"] (Xq E5):=Pu.fs
noncomputable abbrev A1:Stmt:=top 52
def Ha:Xr ["strips","holders","costs","ahead","behind"] ["strips"] (Xq A1):=Pu.fs
noncomputable abbrev Dp:Stmt:=top 53
def Zhw:Xr ["holders","sets","holder"] ["holders"] (Xq Dp):=Pu.fs
noncomputable abbrev CZ:Stmt:=top 54
def Zk2:Xr ["members","holder"] ["members","holder"] (Xq CZ):=Pu.fs
noncomputable abbrev Gd:Stmt:=top 55
def Zqn:Xr ["members","holder","wishes"] ["members","holder","wishes"] (Xq Gd):=Pu.fs
noncomputable abbrev Dq:Stmt:=top 56
def Zkc:Xr ["members","holder","wishes"] ["members","holder","wishes"] (Xq Dq):=Pu.fs
noncomputable abbrev Cu:Stmt:=top 57
def Zr1:Xr ["members","last","least","pairs","others"] ["members","last","least","pairs"] (Xq Cu):=Pu.fs
noncomputable abbrev Em:Stmt:=top 58
def Zfn:Xr ["members","first","least","pairs","others"] ["members","first","least","pairs"] (Xq Em):=Pu.fs
noncomputable abbrev Gc:Stmt:=top 59
def Ma:Xr ["strips","wishes","pairs","least","members","lasts"] ["strips","wishes","pairs"] (Xq Gc):=Pu.fs
noncomputable abbrev Ex:Stmt:=top 60
def Zjq:Xr ["strips","wishes","least"] ["strips","wishes"] (Xq Ex):=Pu.fs
noncomputable abbrev Dy:Stmt:=top 61
def Rw:Xr ["strips","wishes","pairs","least","members","order","firsts","best"] ["strips","wishes"] (Xq Dy):=Pu.fs
noncomputable abbrev AF:Stmt:=top 62
def Zl2:Xr ["strips","wishes"] ["strips","wishes"] (Xq AF):=Pu.fs
noncomputable abbrev AH:Stmt:=inClass (top 65) 0
def Zlt:Xr ["self","strips"] ["self","strips"] (Xq AH):=Pu.fs
noncomputable abbrev CC:Stmt:=inClass (top 65) 1
def Zeq:Xr ["self"] ["self"] (Xq CC):=Pu.fs
noncomputable abbrev DU:Stmt:=inClass (top 65) 2
def Zl7:Xr ["self"] ["self"] (Xq DU):=Pu.fs
noncomputable abbrev Cg:Stmt:=inClass (top 65) 3
def Zj4:Xr ["self"] ["self"] (Xq Cg):=Pu.fs
noncomputable abbrev D7:Stmt:=inClass (top 65) 4
def Zdk:Xr ["self"] ["self"] (Xq D7):=Pu.fs
noncomputable abbrev Ct:Stmt:=inClass (top 65) 5
def Zgz:Xr ["self","deed","field","wishes"] ["self","deed","field","wishes"] (Xq Ct):=Pu.fs
noncomputable abbrev D4:Stmt:=inClass (top 65) 6
def Zez:Xr ["self","place","holder","field"] ["self","place","holder"] (Xq D4):=Pu.fs
noncomputable abbrev Er:Stmt:=inClass (top 65) 7
def Zqa:Xr ["self","place","width","field"] ["self","place","width"] (Xq Er):=Pu.fs
noncomputable abbrev A9:Stmt:=inClass (top 65) 8
def Zhf:Xr ["self","place","field"] ["self","place"] (Xq A9):=Pu.fs
noncomputable abbrev AG:Stmt:=inClass (top 65) 9
def Zo1:Xr ["self","ahead","behind","wishes"] ["self","ahead","behind"] (Xq AG):=Pu.fs
noncomputable abbrev Dv:Stmt:=inClass (top 65) 10
def Zan:Xr ["self","ahead","behind","wishes"] ["self","ahead","behind"] (Xq Dv):=Pu.fs
noncomputable abbrev DE:Stmt:=inClass (top 65) 11
def Zft:Xr ["self"] ["self"] (Xq DE):=Pu.fs
noncomputable abbrev EX:Stmt:=inClass (top 65) 13
def Zgs:Xr ["self"] ["self"] (Xq EX):=Pu.fs
noncomputable abbrev El:Stmt:=inClass (top 65) 14
def Zj0:Xr ["self"] ["self"] (Xq El):=Pu.fs
noncomputable abbrev DQ:Stmt:=inClass (top 65) 15
def Zb7:Xr ["self"] ["self"] (Xq DQ):=Pu.fs
noncomputable abbrev Gk:Stmt:=inClass (top 65) 16
def Zpk:Xr ["self"] ["self"] (Xq Gk):=Pu.fs
noncomputable abbrev Gj:Stmt:=inClass (top 65) 17
def Zj7:Xr ["self"] ["self"] (Xq Gj):=Pu.fs
noncomputable abbrev Eo:Stmt:=inClass (top 65) 18
def Zi6:Xr ["self"] ["self"] (Xq Eo):=Pu.fs
noncomputable abbrev AA:Stmt:=top 67
def Zg2:Xr ["_law_script","_law_k"] ["_law_script","_law_k"] (Xq AA):=Pu.fs
noncomputable abbrev AK:Stmt:=top 68
def Zno:Xr ["_law_found"] ["_law_found"] (Xq AK):=Pu.fs
noncomputable abbrev En:Stmt:=top 69
def Zk0:Xr ["_law_cell","_law_place_here","_law_first"] ["_law_cell","_law_place_here"] (Xq En):=Pu.fs
noncomputable abbrev Dx:Stmt:=top 70
def Zj1:Xr ["_law_script","_law_k"] ["_law_script","_law_k"] (Xq Dx):=Pu.fs
noncomputable abbrev Cz:Stmt:=top 71
def Zgf:Xr ["_law_cell","_law_wide","_law_least"] ["_law_cell"] (Xq Cz):=Pu.fs
noncomputable abbrev DT:Stmt:=top 72
def Zda:Xr ["_law_menu_here","_law_k"] ["_law_menu_here","_law_k"] (Xq DT):=Pu.fs
noncomputable abbrev CP:Stmt:=top 73
def Zsa:Xr ["_law_found","_law_due","_law_k"] ["_law_found","_law_due"] (Xq CP):=Pu.fs
noncomputable abbrev DW:Stmt:=top 74
def Zlv:Xr ["_law_found","_law_due","_law_k","_law_j"] ["_law_found","_law_due"] (Xq DW):=Pu.fs
noncomputable abbrev EY:Stmt:=top 75
def Zb1:Xr ["_law_found","_law_due","_law_j"] ["_law_found","_law_due"] (Xq EY):=Pu.fs
noncomputable abbrev Ef:Stmt:=top 76
def Zcn:Xr ["_law_found","_law_due","_law_k"] ["_law_found","_law_due"] (Xq Ef):=Pu.fs
noncomputable abbrev Ej:Stmt:=top 77
def Zky:Xr ["_law_strips","_law_owners"] ["_law_strips"] (Xq Ej):=Pu.fs
noncomputable abbrev Cs:Stmt:=top 78
def Zgp:Xr ["_law_strips","_law_order","_law_ranks","_law_total","_law_k","_law_j"] ["_law_strips","_law_order"] (Xq Cs):=Pu.fs
noncomputable abbrev EV:Stmt:=top 79
def Zb6:Xr ["_law_strips","_law_deed_here","_law_place_here","_law_holder_here","_law_width_here","_law_parts"] ["_law_strips","_law_deed_here"] (Xq EV):=Pu.fs
noncomputable abbrev CD:Stmt:=top 80
def Zok:Xr ["_law_wishes","_law_deed_here","_law_pair_here"] ["_law_wishes","_law_deed_here"] (Xq CD):=Pu.fs
noncomputable abbrev DB:Stmt:=top 81
def Zpb:Xr ["_law_now","_law_deed_here","_law_step_here"] ["_law_now","_law_deed_here"] (Xq DB):=Pu.fs
noncomputable abbrev AJ:Stmt:=top 82
def Zc3:Xr ["_law_village","_law_deed_here"] ["_law_village","_law_deed_here"] (Xq AJ):=Pu.fs
noncomputable abbrev Cr:Stmt:=top 83
def Fh:Xr ["_law_village","_law_past","_law_found","_law_refused","e","_law_due"] ["_law_village","_law_past"] (Xq Cr):=Pu.fs
noncomputable abbrev Gg:Stmt:=top 84
def Zik:Xr ["_law_village","_law_past"] ["_law_village","_law_past"] (Xq Gg):=Pu.fs
noncomputable abbrev DF:Stmt:=top 85
def LW:Xr ["_law_village","_law_past","_law_deed_here","_law_step_here","_law_found"] ["_law_village","_law_past","_law_deed_here"] (Xq DF):=Pu.fs
noncomputable abbrev E1:Stmt:=top 86
def Zlq:Xr ["_law_script","_law_menu_here","_law_many","_law_rest","_law_strips","_law_k","_law_cell","_law_width_here"] ["_law_script","_law_menu_here","_law_many"] (Xq E1):=Pu.fs
noncomputable abbrev EG:Stmt:=top 87
def Znd:Xr ["_law_script","_law_most"] ["_law_script","_law_most"] (Xq EG):=Pu.fs
noncomputable abbrev AN:Stmt:=top 88
def Zaw:Xr ["_law_cell","_law_good"] ["_law_cell","_law_good"] (Xq AN):=Pu.fs
noncomputable abbrev Ea:Stmt:=top 89
def Zgr:Xr ["_law_cell","_law_strips"] ["_law_cell","_law_strips"] (Xq Ea):=Pu.fs
noncomputable abbrev Gi:Stmt:=top 90
def Zgu:Xr ["_law_cell","_law_menu_here","_law_pool","_law_one","_law_two","_law_ahead"] ["_law_cell","_law_menu_here"] (Xq Gi):=Pu.fs
noncomputable abbrev DY:Stmt:=top 91
def Oa:Xr ["_law_script","_law_menu_here","_law_seed","_law_many","_law_deeds","_law_k","_law_pair_here"] ["_law_script","_law_menu_here"] (Xq DY):=Pu.fs
noncomputable abbrev AV:Stmt:=top 92
def Zmz:Xr ["_law_cell","_law_strips","_law_place_here"] ["_law_cell","_law_strips","_law_place_here"] (Xq AV):=Pu.fs
noncomputable abbrev Ei:Stmt:=top 93
def Zog:Xr ["_law_cell","_law_menu_here","_law_now","_law_kind","_law_rest","_law_place_here","_law_more","_law_pair_here"] ["_law_cell","_law_menu_here","_law_now"] (Xq Ei):=Pu.fs
noncomputable abbrev DH:Stmt:=top 94
def P6:Xr ["_law_village","_law_ring","_law_told","e"] ["_law_village"] (Xq DH):=Pu.fs
noncomputable abbrev AU:Stmt:=top 95
def Zrr:Xr ["_law_told","_law_strips"] ["_law_told","_law_strips"] (Xq AU):=Pu.fs
noncomputable abbrev T6:Stmt:=top 96
def Zrv:Xr ["_law_script","_law_menu_here","_law_strips","_law_village","_law_past","_law_kept","_law_first","_law_cells","_law_k","_law_deed_here","_law_told"] ["_law_script"] (Xq T6):=Pu.fs
structure Glob (K:Yc) (mg:Yg):Prop where
 ZA:mg "ValueError"=none
 ZV:mg "any"=none
 ZY:mg "bool"=none
 ZW:mg "int"=none
 Zb:mg "isinstance"=none
 len:mg "len"=none
 Zi:mg "list"=none
 ZK:mg "max"=none
 ZL:mg "min"=none
 Zd:mg "range"=none
 Zx:mg "repr"=none
 ZZ:mg "set"=none
 Zj:mg "sorted"=none
 Ya:mg "str"=none
 ZX:mg "sum"=none
 Zt:mg "tuple"=none
 Z2:∃u,mg "HOLDERS"=some u/\RelV (.int 10) u
 Zo:∃u,mg "STRIPS"=some u/\RelV (.int 40) u
 Zp:∃u,mg "WIDEST"=some u/\RelV (.int 1000) u
 Zs:∃u,mg "MOST_WISHES"=some u/\RelV (.int 20) u
 Zu:∃u,mg "MOST_DEEDS"=some u/\RelV (.int 100) u
 Z7:mg "MeldError"=some (.ref<|ExcR.Xs mg "MeldError")
 Yb:ExcR.Ks K (ExcR.Xs mg "MeldError")
 Zk:mg "TooManyStrips"=some (.ref<|ExcR.Xs mg "TooManyStrips")
 Zl:ExcR.Ks K (ExcR.Xs mg "TooManyStrips")
 Z8:mg "BadHolder"=some (.ref<|ExcR.Xs mg "BadHolder")
 Z9:ExcR.Ks K (ExcR.Xs mg "BadHolder")
 ZC:mg "BadWidth"=some (.ref<|ExcR.Xs mg "BadWidth")
 ZD:ExcR.Ks K (ExcR.Xs mg "BadWidth")
 Zv:mg "NoStrip"=some (.ref<|ExcR.Xs mg "NoStrip")
 Zw:ExcR.Ks K (ExcR.Xs mg "NoStrip")
 ZE:mg "BadOrder"=some (.ref<|ExcR.Xs mg "BadOrder")
 ZF:ExcR.Ks K (ExcR.Xs mg "BadOrder")
 ZG:mg "OwnStrip"=some (.ref<|ExcR.Xs mg "OwnStrip")
 ZH:ExcR.Ks K (ExcR.Xs mg "OwnStrip")
 ZM:mg "BadPart"=some (.ref<|ExcR.Xs mg "BadPart")
 ZN:ExcR.Ks K (ExcR.Xs mg "BadPart")
 Zy:mg "UnlikeHolders"=some (.ref<|ExcR.Xs mg "UnlikeHolders")
 Zz:ExcR.Ks K (ExcR.Xs mg "UnlikeHolders")
 ZO:mg "TooWide"=some (.ref<|ExcR.Xs mg "TooWide")
 ZP:ExcR.Ks K (ExcR.Xs mg "TooWide")
 Z3:mg "LikeHolders"=some (.ref<|ExcR.Xs mg "LikeHolders")
 Z4:ExcR.Ks K (ExcR.Xs mg "LikeHolders")
 Z5:mg "WishStands"=some (.ref<|ExcR.Xs mg "WishStands")
 Z6:ExcR.Ks K (ExcR.Xs mg "WishStands")
 Z0:mg "TooManyWishes"=some (.ref<|ExcR.Xs mg "TooManyWishes")
 Z1:ExcR.Ks K (ExcR.Xs mg "TooManyWishes")
 ZR:mg "NoWish"=some (.ref<|ExcR.Xs mg "NoWish")
 ZS:ExcR.Ks K (ExcR.Xs mg "NoWish")
 ZI:mg "BookFull"=some (.ref<|ExcR.Xs mg "BookFull")
 ZJ:ExcR.Ks K (ExcR.Xs mg "BookFull")
 Zm:mg "NothingDone"=some (.ref<|ExcR.Xs mg "NothingDone")
 Zg:ExcR.Ks K (ExcR.Xs mg "NothingDone")
 Zh:mg "Ringed"=some (.ref<|ExcR.Xs mg "Ringed")
 ZT:∃g,ExcR.KQ K (ExcR.Xs mg "Ringed") g
 ZU:PySem.W.exmOne K (.ref<|ExcR.Xs mg "Ringed") (.ref<|ExcR.Xs mg "Ringed")=some true
 Zn:PySem.W.exmOne K (.ref<|ExcR.Xs mg "NothingDone") (.ref<|ExcR.Xs mg "NothingDone")=some true
 Zr:PySem.W.kitOne K (.ref<|ExcR.Xs mg "NothingDone") (.ref<|ExcR.Xs mg "MeldError")=some true
 Zq:PySem.W.kitOne K (.ref<|ExcR.Xs mg "NothingDone") (.type "ValueError")=some true
 ZQ:mg "Village"=some (.ref<|ExcR.Xs mg "Village")
 Za:Cls K (ExcR.Xs mg "Village")
 Zc:NoAttr K (ExcR.Xs mg "Village") "book"
 Ze:NoAttr K (ExcR.Xs mg "Village") "fields"
 Zf:NoAttr K (ExcR.Xs mg "Village") "wished"
def Ss:Pu.FldAt "book" ["book","fields","wished"] 0:=.of (by decide +kernel) (by decide +kernel) rfl
def Znz:Pu.PutAt "book" []:=.of (by decide +kernel)
def Cj:Pu.FldAt "fields" ["book","fields","wished"] 1:=.of (by decide +kernel) (by decide +kernel) rfl
def Zrb:Pu.PutAt "fields" ["book"]:=.of (by decide +kernel)
def EO:Pu.FldAt "wished" ["book","fields","wished"] 2:=.of (by decide +kernel) (by decide +kernel) rfl
def Zav:Pu.PutAt "wished" ["book","fields"]:=.of (by decide +kernel)
def P8:Pu.NoFld "strips" ["book","fields","wished"]:=.of (by decide +kernel)
def Tq:Pu.NoFld "wishes" ["book","fields","wished"]:=.of (by decide +kernel)
def Iy:Pu.NoFld "deeds" ["book","fields","wished"]:=.of (by decide +kernel)
def BY:Pu.NoFld "check_room" ["book","fields","wished"]:=.of (by decide +kernel)
def BX:Pu.NoFld "enter" ["book","fields","wished"]:=.of (by decide +kernel)
def Zoo:Pu.NoFld "sell" ["book","fields","wished"]:=.of (by decide +kernel)
def Zme:Pu.NoFld "part" ["book","fields","wished"]:=.of (by decide +kernel)
def Zr8:Pu.NoFld "unite" ["book","fields","wished"]:=.of (by decide +kernel)
def Ze8:Pu.NoFld "wish" ["book","fields","wished"]:=.of (by decide +kernel)
def Zrj:Pu.NoFld "drop" ["book","fields","wished"]:=.of (by decide +kernel)
def Oj:Pu.NoFld "take_back" ["book","fields","wished"]:=.of (by decide +kernel)
def Zrs:Pu.NoFld "ring" ["book","fields","wished"]:=.of (by decide +kernel)
def EF:Pu.NoFld "order" ["book","fields","wished"]:=.of (by decide +kernel)
def Zbs:Pu.NoFld "cost" ["book","fields","wished"]:=.of (by decide +kernel)
def Zrq:Pu.NoFld "table" ["book","fields","wished"]:=.of (by decide +kernel)
def Zl1:Pu.NoFld "moves" ["book","fields","wished"]:=.of (by decide +kernel)
def Zm7:Pu.NoFld "melded" ["book","fields","wished"]:=.of (by decide +kernel)
end T
namespace M
open L2 Own Pu
noncomputable def Zit:Pc:=λf R X=>∃h:Int,f=[.int h]/\Kn (SO h) X (R<|.sh .non)
noncomputable def AS(h:Int):Option Str:=if 1<=h/\h<=1000 then none else some "BadWidth"
noncomputable def Zpp:Pc:=λf R X=>∃h:Int,f=[.int h]/\Kn (AS h) X (R<|.sh .non)
noncomputable def Ie(_:Yc):Sp:=λh H Q _=>∃(l:Addr) (f:Yd),h=[.ref l]/\LAt Pt H l f/\Field f/\f.length<=50/\
 ∀(q:Addr) (g:Hp),H q=none->Same H g->g q=some (.lst ((Xy f).map V.int))->Q (.ref q) g
noncomputable def Rz:Pc:=λg R _=>∃f:Yd,g=[.lst (f.map prD)]/\Field f/\f.length<=50/\R (.own ((Xy f).map D.int))
def SJ{P:Program}{w:World}{K:Yc}{f:Yg}{base:Heap}(C:Callee P w K f base CX0 1 "holders_of" ["strips"] (Ie K)):Callee P w K f base CX0 1 "holders_of" ["strips"] (Xv f Rz K):=Znj C λG R X A H Q E r p x B=>by
 obtain⟨l,rfl,y,o,u⟩:=p;obtain⟨v,rfl,g⟩:=r.one_inv;obtain⟨a,rfl,s⟩:=g.pairs_inv;exact⟨a,l,rfl,s,y,o,λq z n S h=>x _ _ z u S (Zf5 n h)⟩
noncomputable def Zmt:Pc:=λg R _=>∃(f:Yd) (x y:Int),g=[.lst (f.map prD),.int x,.int y]/\Field f/\R (.sh<|.int<|pcM f x y f.length)
noncomputable def Za5:Pc:=λg R _=>∃f:Yd,g=[.lst (f.map prD)]/\f.length<=1000/\R (.own ((Km 1 f.length).map D.int))
noncomputable def Zie:Pc:=λh R _=>∃(f:Yd) (g:Ye) (p:Int),h=[.lst (f.map prD),.lst (g.map D.int),.int p]/\Field f/\(∀n∈g,1<=n/\n<=f.length)/\1<=p/\p<g.length/\R (.sh<|.int<|exM f g p.toNat)
noncomputable def Zb5:Pc:=λg R _=>∃(f:Ye) (p:Int),g=[.lst (f.map D.int),.int p]/\1<=p/\p<f.length/\f.length<=1000/\R (.own ((KY f p.toNat).map D.int))
noncomputable def Zqr:Pc:=λh R _=>∃f g:Ye,h=[.lst (f.map D.int),.lst (g.map D.int)]/\(∀m∈f,1<=m/\m<=g.length)/\f.length<=1000/\∀p:Nat,FW (f.map λm=>g.getD (m-1).toNat 0) p->R (.sh<|.int p)
noncomputable def Zje:Pc:=λg R X=>∃(f:Yd) (p:Int),g=[.lst (f.map prD),.int p]/\(if p<1\/(f.length:Int)<=p then X "NoStrip" else R (.sh .non))
noncomputable def Zbp:Pc:=λr R _=>∃(l:Int) (g:List (Ye)) (f:Ye) (o:Yd),r=[.lst (g.map<|em l),.lst (f.map D.int),.lst (o.map prD)]/\g.Pairwise sl/\f.Pairwise (· < ·)/\(∀p∈g,p.length<=100)/\f.length<=100/\
 ∀n,LG o l (λp h=>p∈g/\h∈f) n->n.length<=f.length->R (.own<|n.map<|em l)
noncomputable def Zdt:Pc:=λg R X=>∃(f:Yd) (p:Int),g=[plD f,.int p]/\Kn (Fp f p) X (R<|.sh .non)
noncomputable def Zf1:Pc:=λg R X=>∃(f:Yd) (a b:Int),g=[plD f,.int a,.int b]/\f.length<=1000/\Kn (Kr f a b) X (R<|.own ((SU f a b).map prD))
noncomputable def Zdj:Pc:=λg R _=>∃f:Ye,g=[.lst (f.map D.int)]/\f.length<=10/\R (.own ((XF f).map tD))
noncomputable def Zpr:Pc:=λg R _=>∃(f:Ye) (h:Int),g=[tD f,.int h]/\f.length<=1000/\R (.sh<|tD<|X7 f h)
noncomputable def Zrz:Pc:=λl R _=>∃(g:Ye) (h:Int) (f:Yd),l=[tD g,.int h,.lst (f.map prD)]/\f.length<=50/\R (.sh<|.bl<|Nf f g h)
noncomputable def Zm5:Pc:=λl R _=>∃(g:Ye) (h:Int) (f:Yd),l=[tD g,.int h,.lst (f.map prD)]/\f.length<=50/\R (.sh<|.bl<|firstM f g h)
noncomputable def Zq5(C:Addr):Pc:=λh R _=>∃(bk:List (Str×Ye)) (fs g:List (Yd)) (f:Yd),h=[PD C bk (fs++[f]) g]/\R (.own<|f.map prD)
noncomputable def Zqt(C:Addr):Pc:=λh R _=>∃(bk:List (Str×Ye)) (fs g:List (Yd)) (f:Yd),h=[PD C bk fs (g++[f])]/\R (.own<|f.map prD)
noncomputable def Zj2(C:Addr):Pc:=λg R _=>∃(bk:List (Str×Ye)) (fs f:List (Yd)),g=[PD C bk fs f]/\R (.own<|bk.map dD)
noncomputable def NL(bk:List (Str×Ye)):Option Str:=if 100<=bk.length then some "BookFull" else none
noncomputable def Zjd(C:Addr):Pc:=λg R X=>∃(bk:List (Str×Ye)) (fs f:List (Yd)),g=[PD C bk fs f]/\Kn (NL bk) X (R<|.sh .non)
noncomputable def Zca(C:Addr):Pw:=λo n R _=>∃(x b1 l h:Addr) (bk:List (Str×Ye)) (fs g:List (Yd)) (q:Str×Ye) (f w:Yd),o=vO C x b1 l h bk fs g/\n=[.sh (dD q),.sh (plD f),.sh (plD w)]/\bk.length<=1000/\fs.length<=1000/\g.length<=1000/\
 R (vO C x b1 l h (bk++[q]) (fs++[f]) (g++[w])) (.int (bk.length+1))
noncomputable def Zo9(C:Addr):Pw:=λo l R X=>∃(x b1 h g:Addr) (bk:List (Str×Ye)) (fs f:List (Yd)),o=vO C x b1 h g bk fs f/\l=[]/\fs.length=bk.length+1/\f.length=bk.length+1/\
 (bk=[]->X (vO C x b1 h g bk fs f) "NothingDone")/\∀b0 q,bk=b0++[q]->R (vO C x b1 h g b0 fs.dropLast f.dropLast) (dD q)
noncomputable def Zpn:Pc:=λg R _=>∃(f:Ye) (k:Int),g=[.scr f,.int k]/\0<=k/\R (.sh<|.int<|f.getD k.toNat 0)
noncomputable def Zj6:Pc:=λf R _=>∃i:Int,f=[.int i]/\R (.sh<|.bl true)
noncomputable def Zbb:Pc:=λf R _=>∃c p:Int,f=[.int c,.int p]/\R (.sh<|.int<|mixP c p)
noncomputable def Zfy:Pc:=λf R _=>∃c:Int,f=[.int c]/\∀m,Nr m->R (.own<|m.map D.int)
noncomputable def Zkk:Pc:=λf R _=>∃(m:Ye) (k:Int),f=[.lst (m.map D.int),.int k]/\Nr m/\∀h:Int,1<=h->h<=10->h=Zpz m k->R (.sh<|.int h)
noncomputable def Zio:Pc:=λg R _=>∃f:Yd,g=[.lst (f.map prD)]/\f.length<=50/\R (.own ((Xy f).map D.int))
noncomputable def Zq9:Pc:=λg R _=>∃(f:Yd) (os:Ye),g=[.lst (f.map prD),.lst (os.map D.int)]/\Field f/\f.length<=50/\(∀p∈f,p.1∈os)/\R (.sh<|.int<|Tg f os f.length)
noncomputable def Zih:Pq:=λg R _=>∃(f:Yd) (x:Dd),g=[.sh (plD f),.sh (dD x.q)]/\x.land=true/\f.length<=40/\R (.own [.int (codeN<|x.err f []),plD (x.fld' f)])
noncomputable def Zaz:Pq:=λf R _=>∃(w:Yd) (x:Dd),f=[.sh (plD w),.sh (dD x.q)]/\x.land=false/\w.length<=20/\R (.own [.int (codeN<|x.err [] w),plD (x.wsh' w)])
noncomputable def Zn0:Pc:=λf R _=>∃c g:Int,f=[.int c,.int g]/\∀v:Int,R (.sh<|.int v)
noncomputable def Zrd:Pc:=λg R _=>∃(c:Int) (f:Yd),g=[.int c,plD f]/\f.length<=1000/\∀v:Int,R (.sh<|.int v)
noncomputable def Zfq:Pc:=λg R _=>∃(c:Int) (f:Yd) (p:Int),g=[.int c,plD f,.int p]/\f.length<=1000/\Field f/\∀v:Int,R (.sh<|.int v)
noncomputable def Zex:Pc:=λg R X=>∃f:Yd,g=[plD f]/\f.length<=1000/\Kn (Sr f) X (R<|.sh .non)
noncomputable def Zlr:Pc:=λg R X=>∃(f:Yd) (os:Ye),g=[plD f,.lst (os.map D.int)]/\Field f/\f.length<=50/\os.length<64/\Kn (Sv f os) X (R<|.sh .non)
noncomputable def Zrf:Pc:=λh R _=>∃(l:Int) (f:Ye) (g:Yd),h=[.int l,.lst (f.map D.int),.lst (g.map prD)]/\f.Nodup/\f.length<=50/\∀r,RF f g l r->r.length<=60->R (.sh<|.lst<|r.map D.int)
noncomputable def Zre:Pc:=λg R X=>∃(f:Yd) (p h:Int),g=[plD f,.int p,.int h]/\f.length<=1000/\Kn (KD f p h) X (R<|.own (TZ f p h |>.map prD))
noncomputable def Zjr:Pc:=λg R X=>∃(f:Yd) (p w:Int),g=[plD f,.int p,.int w]/\f.length<=1000/\Kn (Ku f p w) X (R<|.own ((PR f p w).map prD))
noncomputable def Zl8:Pc:=λg R X=>∃(f:Yd) (p:Int),g=[plD f,.int p]/\f.length<=1000/\Kn (Ki f p) X (R<|.own ((PJ f p).map prD))
noncomputable def Zbv:Pc:=λg R X=>∃(f:Yd) (a b:Int),g=[plD f,.int a,.int b]/\f.length<=1000/\Kn (Kj f a b) X (R<|.own ((f++[(a,b)]).map prD))
noncomputable def Zni:Pc:=λh R _=>∃f:Yd,h=[.lst (f.map prD)]/\Field f/\f.length<=50/\
 ∀g:List (List Key×V),(∀x∈Xy f,∀y∈Xy f,X8 g [.inl x,.inl y]=some (.int<|pcM f x y f.length))->R (.own<|.dT g)
noncomputable def Znw:Pc:=λh R _=>∃(f:Ye) (l:Int) (le g:List (List Key×V)) (c:Int->Int) (v:Int),h=[tD f,.int l,.dT le,.dT g]/\f.length<=1000/\X8 le (kT<|X7 f l)=some (.int v)/\
 (∀m∈X7 f l,X8 g [.inl m,.inl l]=some (.int<|c m))/\R (.sh<|.int (v+((X7 f l).map c).sum))
noncomputable def Zne:Pc:=λh R _=>∃(f:Ye) (l:Int) (le g:List (List Key×V)) (c:Int->Int) (v:Int),h=[tD f,.int l,.dT le,.dT g]/\f.length<=1000/\X8 le (kT<|X7 f l)=some (.int v)/\
 (∀m∈X7 f l,X8 g [.inl l,.inl m]=some (.int<|c m))/\R (.sh<|.int (v+((X7 f l).map c).sum))
noncomputable def Ac(bk:List (Str×Ye))(w:Yd)(a b:Int):Option Str:=if 100<=bk.length then some "BookFull" else Kr w a b
noncomputable def Zjk(C:Addr):Pw:=λo r R X=>∃(x b1 n l:Addr) (bk:List (Str×Ye)) (fs g:List (Yd)) (f w:Yd) (p h:Int),o=vO C x b1 n l bk (fs++[f]) (g++[w])/\r=[.sh (.int p),.sh (.int h)]/\bk.length<=1000/\fs.length<=900/\g.length<=900/\w.length<=1000/\
 Kn (Ac bk w p h) (X<|vO C x b1 n l bk (fs++[f]) (g++[w])) (R (vO C x b1 n l (bk++[(("drop" : Str),[p,h])]) (fs++[f]++[f]) (g++[w]++[SU w p h]))<|.int (bk.length+1))
noncomputable def Zea:Pc:=λg R _=>∃(f:Ye) (k:Int),g=[.scr f,.int k]/\0<=k/\∀v:Int,R (.sh<|.int v)
noncomputable def Zdd:Pc:=λf R _=>∃xs:Ye,(f=[.lst (xs.map D.int),.lst (xs.map D.int)]\/f=[.fL xs,.lst (xs.map D.int)])/\xs.length<=1000000/\R (.sh<|.bl true)
noncomputable def Zpt:Pc:=λg R _=>∃f:Yd,g=[.lst (f.map prD),.lst (f.map prD)]/\f.length<=1000000/\R (.sh<|.bl true)
noncomputable def Zhd:Pc:=λf R _=>∃q:Str×Ye,f=[dD q,dD q]/\q.2.length<=100/\R (.sh<|.bl true)
noncomputable def Zbc:Pq:=λg R _=>∃(f w:Yd) (h:List D) (x:Dd),g=[.sh (.tup (plD f::plD w::h)),.sh (dD x.q)]/\f.length<=40/\w.length<=20/\R (.own [.int (codeN<|x.err f w),plD (x.nf f w),plD (x.nw f w)])
noncomputable def Zd1:Pc:=λh R _=>∃(g m:Ye) (n:Int),h=[.scr g,.lst (m.map D.int),.int n]/\Nr m/\0<=n/\n<=1000/\∀f:Yd,Field f->f.length=n.toNat->R (.own<|f.map prD)
noncomputable def Zo8:Pc:=λh R _=>∃(g:Ye) (n:Int),h=[.scr g,.int n]/\0<=n/\n<=1000/\∀f:Ye,(f.length:Int)<=n->R (.own<|f.map D.int)
noncomputable def Zoz:Pc:=λf R _=>∃(c:Int) (m:Ye),f=[.int c,.lst (m.map D.int)]/\Nr m/\∀a b:Int,R (.sh<|prD (a,b))
noncomputable def TQ(ps:Yd)(os:Ye):Yd:=os.flatMap λh=>ps.filter λq=>decide (q.1=h)
noncomputable def Zhj:Pc:=λg R X=>∃(f:Yd) (os:Ye),g=[plD f,.lst (os.map D.int)]/\Field f/\f.length<=50/\os.length<64/\Kn (Sv f os) X (R<|.own ((TQ f os).map prD))
noncomputable def Zap:Pc:=λh R _=>∃(f:Yd) (o:Ye),h=[plD f,.lst (o.map D.int)]/\Field f/\f.length<=40/\o.Perm (Xy f)/\∀g:List Mo,Mv f (rkN f o) (Km 1 f.length) g->R (.own<|g.map mvD)
noncomputable def Zon:Pc:=λh R _=>∃(f:Ye) (g:Yd),h=[.lst (f.map D.int),.lst (g.map prD)]/\f.Nodup/\f.length<=50/\∀r,FR f g r->r.length<=60->R (.sh<|.lst<|r.map D.int)
noncomputable def Zc7:Pc:=λn R _=>∃(f g:Yd) (l:List (List Key×V)) (c:Int->Int->Int),n=[.lst (f.map prD),.lst (g.map prD),.dT l]/\Field f/\f.length<=50/\g.length<=50/\(∀q∈g,q.1≠q.2)/\
 (∀x∈Xy f,∀y∈Xy f,X8 l [.inl x,.inl y]=some (.int<|c x y))/\Hl (Xy f) g/\∀h,Tab g c (XF<|Xy f) h->R (.own<|.dT h)
noncomputable def Ziy(C:Addr):Pw:=λo g R X=>∃(x:Addr) (f:Yd),o=.ins x C [] []/\g=[.sh (plD f)]/\f.length<=1000/\Kn (Sr f) (X<|.ins x C [] []) (∀b1 l h,R (vO C x b1 l h [] [f] [[]]) .non)
noncomputable def FL(bk:List (Str×Ye))(f:Yd)(p h:Int):Option Str:=if 100<=bk.length then some "BookFull" else KD f p h
noncomputable def Zoj(C:Addr):Pw:=λo r R X=>∃(x b1 n l:Addr) (bk:List (Str×Ye)) (fs g:List (Yd)) (f w:Yd) (p h:Int),o=vO C x b1 n l bk (fs++[f]) (g++[w])/\r=[.sh (.int p),.sh (.int h)]/\bk.length<=1000/\fs.length<=900/\g.length<=900/\f.length<=1000/\
 Kn (FL bk f p h) (X<|vO C x b1 n l bk (fs++[f]) (g++[w])) (R (vO C x b1 n l (bk++[(("sell" : Str),[p,h])]) (fs++[f]++[TZ f p h]) (g++[w]++[w]))<|.int (bk.length+1))
noncomputable def An(bk:List (Str×Ye))(f:Yd)(p h:Int):Option Str:=if 100<=bk.length then some "BookFull" else Ku f p h
noncomputable def Zg0(C:Addr):Pw:=λo r R X=>∃(x b1 n l:Addr) (bk:List (Str×Ye)) (fs g:List (Yd)) (f w:Yd) (p h:Int),o=vO C x b1 n l bk (fs++[f]) (g++[w])/\r=[.sh (.int p),.sh (.int h)]/\bk.length<=1000/\fs.length<=900/\g.length<=900/\f.length<=1000/\
 Kn (An bk f p h) (X<|vO C x b1 n l bk (fs++[f]) (g++[w])) (R (vO C x b1 n l (bk++[(("part" : Str),[p,h])]) (fs++[f]++[PR f p h]) (g++[w]++[w]))<|.int (bk.length+1))
noncomputable def FQ(bk:List (Str×Ye))(f:Yd)(p:Int):Option Str:=if 100<=bk.length then some "BookFull" else Ki f p
noncomputable def Zdo(C:Addr):Pw:=λo n R X=>∃(x b1 l h:Addr) (bk:List (Str×Ye)) (fs g:List (Yd)) (f w:Yd) (p:Int),o=vO C x b1 l h bk (fs++[f]) (g++[w])/\n=[.sh (.int p)]/\bk.length<=1000/\fs.length<=900/\g.length<=900/\f.length<=1000/\
 Kn (FQ bk f p) (X<|vO C x b1 l h bk (fs++[f]) (g++[w])) (R (vO C x b1 l h (bk++[(("unite" : Str),[p])]) (fs++[f]++[PJ f p]) (g++[w]++[w]))<|.int (bk.length+1))
noncomputable def FC(bk:List (Str×Ye))(w:Yd)(a b:Int):Option Str:=if 100<=bk.length then some "BookFull" else Kj w a b
noncomputable def Zo6(C:Addr):Pw:=λo r R X=>∃(x b1 n l:Addr) (bk:List (Str×Ye)) (fs g:List (Yd)) (f w:Yd) (p h:Int),o=vO C x b1 n l bk (fs++[f]) (g++[w])/\r=[.sh (.int p),.sh (.int h)]/\bk.length<=1000/\fs.length<=900/\g.length<=900/\w.length<=1000/\
 Kn (FC bk w p h) (X<|vO C x b1 n l bk (fs++[f]) (g++[w])) (R (vO C x b1 n l (bk++[(("wish" : Str),[p,h])]) (fs++[f]++[f]) (g++[w]++[w++[(p,h)]]))<|.int (bk.length+1))
noncomputable def Zk4:Pc:=λf R _=>∃bk:List (Str×Ye),f=[.lst (bk.map dD),.lst (bk.map dD)]/\(∀q∈bk,q.2.length<=100)/\bk.length<=1000/\R (.sh<|.bl true)
noncomputable def Zlc(C:Addr):Pw2:=λo1 n l R _=>∃(x b1 h g a:Addr) (f0:Yd) (f:XM),o1=vO C x b1 h g (bkH f) (fsH f0 f) (wsH f)/\n=.lsA a (XA f0 f)/\l=[]/\f.length<=200/\R (vO C x b1 h g (bkH f.dropLast) (fsH f0 f.dropLast)<|wsH f.dropLast) (.lsA a<|XA f0 f.dropLast) (.bl true)
noncomputable def Zkq:Pc:=λh R _=>∃(g m:Ye),h=[.scr g,.lst (m.map D.int)]/\Nr m/\∀f:Yd,f.length<=24->R (.own (f.map λq=>dD (Dd.wish q.1 q.2).q))
noncomputable def Zdp:Pc:=λh R _=>∃(c:Int) (m:Ye) (f w:Yd) (g:List D),h=[.int c,.lst (m.map D.int),.tup (plD f::plD w::g)]/\Nr m/\f.length<=1000/\Field f/\w.length<=1000/\(∀x:Dd,R (.sh<|dD x.q))/\R (.sh<|.tup [.str "back"])
noncomputable def Zd6:Pc:=λh R _=>∃(a b c:D) (g:List D) (f w:Yd),h=[.lst (a::b::c::g),plD f]/\AllT f w g/\Field f/\f.length<=40/\(∀q∈w,q.1≠q.2)/\R (.sh<|.bl true)
noncomputable def Zod:Pc:=λh R X=>∃(f g:Yd),h=[.lst (f.map prD),.lst (g.map prD)]/\Field f/\f.length<=50/\(∀q∈g,q.1≠q.2)/\Na (Xy f) g X (R<|.sh .non)
noncomputable def Zgx(C:Addr):Pc:=λh R _=>∃(bk:List (Str×Ye)) (fs g:List (Yd)) (f w:Yd),h=[PD C bk (fs++[f]) (g++[w])]/\Field f/\f.length<=50/\∀r,FR (Xy f) w r->r.length<=60->R (.sh<|.lst<|r.map D.int)
noncomputable def Cm(bk:List (Str×Ye))(f w:Yd)(d:Dd):Option Str:=if 100<=bk.length then some "BookFull" else d.err f w
noncomputable def Zmr(C:Addr):Pw:=λo n R X=>∃(x b1 l h:Addr) (bk:List (Str×Ye)) (fs g:List (Yd)) (f w:Yd) (d:Dd),o=vO C x b1 l h bk (fs++[f]) (g++[w])/\n=[.sh (dD d.q)]/\bk.length<=1000/\fs.length<=900/\g.length<=900/\f.length<=1000/\w.length<=1000/\
 Kn (Cm bk f w d) (X<|vO C x b1 l h bk (fs++[f]) (g++[w])) (R (vO C x b1 l h (bk++[d.q]) (fs++[f]++[d.fld f]) (g++[w]++[d.wsh w]))<|.int (bk.length+1))
noncomputable def Zfk(C:Addr):Pc:=λh R _=>∃(f0:Yd) (f:List (Dd×Yd×Yd)),h=[PD C (bkH f) (fsH f0 f) (wsH f),.lst (XA f0 f)]/\f.length<=200/\(∀g∈fsH f0 f,g.length<=1000)/\(∀g∈wsH f,g.length<=1000)/\R (.sh<|.bl true)
noncomputable def Zpq:Pc:=λl R X=>∃(f g:Yd),l=[.lst (f.map prD),.lst (g.map prD)]/\Field f/\f.length<=50/\g.length<=50/\(∀q∈g,q.1≠q.2)/\Na (Xy f) g X (∀h,TabV g (pcc f) (XF<|Xy f) h->R (.own<|h.map D.int))
noncomputable def Zlz:Pc:=λh R X=>∃(f g:Yd),h=[.lst (f.map prD),.lst (g.map prD)]/\Field f/\f.length<=50/\g.length<=50/\(∀q∈g,q.1≠q.2)/\Na (Xy f) g X (∀o,KU g (pcc f) (Xy f) o->R (.own<|o.map D.int))
noncomputable def Zi1(C:Addr):Pw2:=λo1 n l R _=>∃(x b1 h g a:Addr) (f0:Yd) (f:XM) (q:D),o1=vO C x b1 h g (bkH f) (fsH f0 f) (wsH f)/\n=.lsA a (XA f0 f)/\l=[.sh q]/\f.length<100/\FineH f0 f/\
 ((q=.tup [.str "back"]/\R (vO C x b1 h g (bkH f.dropLast) (fsH f0 f.dropLast)<|wsH f.dropLast) (.lsA a<|XA f0 f.dropLast) (.bl true))\/
  ∃d:Dd,q=dD d.q/\R (vO C x b1 h g (bkH<|KW f0 f d) (fsH f0<|KW f0 f d)<|wsH<|KW f0 f d) (.lsA a<|XA f0<|KW f0 f d) (.bl true))
noncomputable def Zes:Pc:=λh R X=>∃(f g:Yd),h=[.lst (f.map prD),.lst (g.map prD)]/\Field f/\f.length<=50/\g.length<=50/\(∀q∈g,q.1≠q.2)/\Na (Xy f) g X (∀v,KA g (pcc f) (Xy f) v->R (.sh<|.int v))
noncomputable def Zd8(C:Addr):Pc:=λh R X=>∃(bk:List (Str×Ye)) (fs g:List (Yd)) (f w:Yd),h=[PD C bk (fs++[f]) (g++[w])]/\Field f/\f.length<=50/\w.length<=50/\(∀q∈w,q.1≠q.2)/\Na (Xy f) w X (∀o,KU w (pcc f) (Xy f) o->R (.own<|o.map D.int))
noncomputable def Zjz(C:Addr):Pc:=λl R X=>∃(bk:List (Str×Ye)) (fs h:List (Yd)) (f w:Yd),l=[PD C bk (fs++[f]) (h++[w])]/\Field f/\f.length<=50/\w.length<=50/\(∀q∈w,q.1≠q.2)/\Na (Xy f) w X (∀g,TabV w (pcc f) (XF<|Xy f) g->R (.own<|g.map D.int))
noncomputable def Ze3(C:Addr):Pc:=λh R X=>∃(bk:List (Str×Ye)) (fs g:List (Yd)) (f w:Yd),h=[PD C bk (fs++[f]) (g++[w])]/\Field f/\f.length<=50/\w.length<=50/\(∀q∈w,q.1≠q.2)/\Na (Xy f) w X (∀v,KA w (pcc f) (Xy f) v->R (.sh<|.int v))
noncomputable def Zq8(C:Addr):Pc:=λl R X=>∃(bk:List (Str×Ye)) (fs h:List (Yd)) (f w:Yd),l=[PD C bk (fs++[f]) (h++[w])]/\Field f/\f.length<=40/\w.length<=50/\(∀q∈w,q.1≠q.2)/\Na (Xy f) w X (∀o g,KU w (pcc f) (Xy f) o->Mv f (rkN f o) (Km 1 f.length) g->R (.own<|g.map mvD))
noncomputable def Zj9(C:Addr):Pc:=λh R X=>∃(bk:List (Str×Ye)) (fs g:List (Yd)) (f w:Yd),h=[PD C bk (fs++[f]) (g++[w])]/\Field f/\f.length<=50/\w.length<=50/\(∀q∈w,q.1≠q.2)/\Na (Xy f) w X (∀o,KU w (pcc f) (Xy f) o->R (.own ((TQ f o).map prD)))
noncomputable def Zmh(C:Addr):Pc:=λl R _=>∃(bk:List (Str×Ye)) (fs h:List (Yd)) (f w:Yd),l=[PD C bk (fs++[f]) (h++[w])]/\Field f/\f.length<=40/\w.length<=50/\(∀q∈w,q.1≠q.2)/\∀g,AllT f w g->R (.own<|.lst (plD f::plD w :: .lst (bk.map dD)::g))
structure Fv (P:Program) (w:World) (K:Yc) (mg:Yg) (base:Heap):Type
variable {P:Program}{w:World}{K:Yc}{mg:Yg}{base:Heap}
abbrev Cal(_:Fv P w K mg base):=Callee P w K mg base
abbrev Cam(_:Fv P w K mg base):=Pa P w K mg base
abbrev Cxe(_:Fv P w K mg base):=ExcR.CXe P w
abbrev X4(_:Fv P w K mg base):=ExcR.Xs mg "Village"
variable (ζ:Fv P w K mg base)
abbrev Zr3:Prop:=Cam ζ CX0 1 (ExcR.KQ K<|ExcR.Xs mg "Ringed") ["self","members"] (ExcR.Bl K)
abbrev OS:Prop:=Cal ζ (Cxe ζ) 1 "check_holder" ["holder"] (Xv mg Zit K)
abbrev OI:Prop:=Cal ζ (Cxe ζ) 1 "check_width" ["width"] (Xv mg Zpp K)
abbrev Ze7:Prop:=Cal ζ CX0 1 "holders_of" ["strips"] (Xv mg Rz K)
abbrev IT:Prop:=Cal ζ CX0 1 "pair_cost" ["strips","ahead","behind"] (Xv mg Zmt K)
abbrev LH:Prop:=Cal ζ CX0 1 "own_numbers" ["strips"] (Xv mg Za5 K)
abbrev IE:Prop:=Cal ζ CX0 1 "exchange_cost" ["strips","numbers","place"] (Xv mg Zie K)
abbrev OH:Prop:=Cal ζ CX0 1 "exchanged" ["numbers","place"] (Xv mg Zb5 K)
abbrev Ms:Prop:=Cal ζ CX0 1 "first_wrong_place" ["numbers","ranks"] (Xv mg Zqr K)
abbrev GF:Prop:=Cal ζ (Cxe ζ) 1 "check_neighbours" ["strips","place"] (Xv mg Zje K)
abbrev HC:Prop:=Cal ζ CX0 1 "longer_paths" ["paths","left","wishes"] (Xv mg Zbp K)
abbrev LF:Prop:=Cal ζ (Cxe ζ) 1 "check_place" ["strips","place"] (Xv mg Zdt K)
abbrev IZ:Prop:=Cal ζ (Cxe ζ) 1 "without_wish" ["wishes","ahead","behind"] (Xv mg Zf1 K)
abbrev ML:Prop:=Cal ζ CX0 1 "sets_of" ["holders"] (Xv mg Zdj K)
abbrev Hw:Prop:=Cal ζ CX0 1 "without" ["members","holder"] (Xv mg Zpr K)
abbrev Ot:Prop:=Cal ζ CX0 1 "may_lie_last" ["members","holder","wishes"] (Xv mg Zrz K)
abbrev Ry:Prop:=Cal ζ CX0 1 "may_lie_first" ["members","holder","wishes"] (Xv mg Zm5 K)
abbrev Lf:Prop:=Cam ζ CX0 1 (XB K (X4 ζ) "strips") ["self"] (Xv mg (Zq5<|X4 ζ) K)
abbrev GP:Prop:=Cam ζ CX0 1 (XB K (X4 ζ) "wishes") ["self"] (Xv mg (Zqt<|X4 ζ) K)
abbrev GM:Prop:=Cam ζ CX0 1 (XB K (X4 ζ) "deeds") ["self"] (Xv mg (Zj2<|X4 ζ) K)
abbrev Oi:Prop:=Cam ζ (Cxe ζ) 1 (XB K (X4 ζ) "check_room") ["self"] (Xv mg (Zjd<|X4 ζ) K)
abbrev GR:Prop:=Cam ζ CX0 1 (XB K (X4 ζ) "enter") ["self","deed","field","wishes"] (Pu.spW mg (Zca<|X4 ζ) K)
abbrev Lj:Prop:=Cam ζ (Cxe ζ) 1 (XB K (X4 ζ) "take_back") ["self"] (Pu.spW mg (Zo9<|X4 ζ) K)
abbrev Hd:Prop:=Cal ζ CX0 1 "_law_at" ["_law_script","_law_k"] (Xv mg Zpn K)
abbrev Mx:Prop:=Cal ζ CX0 1 "_law_whole" ["_law_found"] (Xv mg Zj6 K)
abbrev Ml:Prop:=Cal ζ CX0 1 "_law_mix" ["_law_cell","_law_place_here"] (Xv mg Zbb K)
abbrev MX:Prop:=Cal ζ CX0 1 "_law_menu" ["_law_cell"] (Xv mg Zfy K)
abbrev O6:Prop:=Cal ζ CX0 1 "_law_holder" ["_law_menu_here","_law_k"] (Xv mg Zkk K)
abbrev RT:Prop:=Cal ζ CX0 1 "_law_present" ["_law_strips"] (Xv mg Zio K)
abbrev RN:Prop:=Cal ζ CX0 1 "_law_price" ["_law_strips","_law_order"] (Xv mg Zq9 K)
abbrev Hu:Prop:=Cal ζ CX0 1 "_law_field_step" ["_law_strips","_law_deed_here"] (Pu.spS mg Zih K)
abbrev OL:Prop:=Cal ζ CX0 1 "_law_wish_step" ["_law_wishes","_law_deed_here"] (Pu.spS mg Zaz K)
abbrev Mq:Prop:=Cal ζ CX0 1 "_law_odd" ["_law_cell","_law_good"] (Xv mg Zn0 K)
abbrev ID:Prop:=Cal ζ CX0 1 "_law_place" ["_law_cell","_law_strips"] (Xv mg Zrd K)
abbrev MD:Prop:=Cal ζ CX0 1 "_law_width" ["_law_cell","_law_strips","_law_place_here"] (Xv mg Zfq K)
abbrev OO:Prop:=Cal ζ (Cxe ζ) 2 "check_strips" ["strips"] (Xv mg Zex K)
abbrev M3:Prop:=Cal ζ (Cxe ζ) 2 "check_order" ["strips","order"] (Xv mg Zlr K)
abbrev Hi:Prop:=Cal ζ CX0 2 "ring_from" ["least","holders","wishes"] (Xv mg Zrf K)
abbrev RV:Prop:=Cal ζ (Cxe ζ) 2 "sold" ["strips","place","holder"] (Xv mg Zre K)
abbrev OX:Prop:=Cal ζ (Cxe ζ) 2 "parted" ["strips","place","width"] (Xv mg Zjr K)
abbrev GA:Prop:=Cal ζ (Cxe ζ) 2 "united" ["strips","place"] (Xv mg Zl8 K)
abbrev Mu:Prop:=Cal ζ (Cxe ζ) 2 "with_wish" ["wishes","ahead","behind"] (Xv mg Zbv K)
abbrev ME:Prop:=Cal ζ CX0 2 "pair_costs" ["strips"] (Xv mg Zni K)
abbrev RE:Prop:=Cal ζ CX0 2 "cost_with_last" ["members","last","least","pairs"] (Xv mg Znw K)
abbrev O8:Prop:=Cal ζ CX0 2 "cost_with_first" ["members","first","least","pairs"] (Xv mg Zne K)
abbrev IX:Prop:=Cam ζ (Cxe ζ) 2 (XB K (X4 ζ) "drop") ["self","ahead","behind"] (Pu.spW mg (Zjk<|X4 ζ) K)
abbrev I0:Prop:=Cal ζ CX0 2 "_law_draw" ["_law_script","_law_k"] (Xv mg Zea K)
abbrev Zab:Prop:=Cal ζ CX0 2 "_law_row" ["_law_found","_law_due"] (Xv mg Zdd K)
abbrev Ov:Prop:=Cal ζ CX0 2 "_law_tuples" ["_law_found","_law_due"] (Xv mg Zpt K)
abbrev Mh:Prop:=Cal ζ CX0 2 "_law_deed_is" ["_law_found","_law_due"] (Xv mg Zhd K)
abbrev OM:Prop:=Cal ζ CX0 2 "_law_step" ["_law_now","_law_deed_here"] (Pu.spS mg Zbc K)
abbrev Mb:Prop:=Cal ζ CX0 2 "_law_start" ["_law_script","_law_menu_here","_law_many"] (Xv mg Zd1 K)
abbrev Im:Prop:=Cal ζ CX0 2 "_law_days" ["_law_script","_law_most"] (Xv mg Zo8 K)
abbrev Rl:Prop:=Cal ζ CX0 2 "_law_pair" ["_law_cell","_law_menu_here"] (Xv mg Zoz K)
abbrev OP:Prop:=Cal ζ (Cxe ζ) 3 "gathered" ["strips","order"] (Xv mg Zhj K)
abbrev Hx:Prop:=Cal ζ CX0 3 "told_moves" ["strips","order"] (Xv mg Zap K)
abbrev LN:Prop:=Cal ζ CX0 3 "find_ring" ["holders","wishes"] (Xv mg Zon K)
abbrev Ia:Prop:=Cal ζ CX0 3 "least_costs" ["strips","wishes","pairs"] (Xv mg Zc7 K)
abbrev O1:Prop:=Cam ζ (Cxe ζ) 3 (Mk K<|X4 ζ) ["self","strips"] (Pu.spW mg (Ziy<|X4 ζ) K)
abbrev M5:Prop:=Cam ζ (Cxe ζ) 3 (XB K (X4 ζ) "sell") ["self","place","holder"] (Pu.spW mg (Zoj<|X4 ζ) K)
abbrev Hs:Prop:=Cam ζ (Cxe ζ) 3 (XB K (X4 ζ) "part") ["self","place","width"] (Pu.spW mg (Zg0<|X4 ζ) K)
abbrev G1:Prop:=Cam ζ (Cxe ζ) 3 (XB K (X4 ζ) "unite") ["self","place"] (Pu.spW mg (Zdo<|X4 ζ) K)
abbrev IF:Prop:=Cam ζ (Cxe ζ) 3 (XB K (X4 ζ) "wish") ["self","ahead","behind"] (Pu.spW mg (Zo6<|X4 ζ) K)
abbrev R0:Prop:=Cal ζ CX0 3 "_law_book_is" ["_law_found","_law_due"] (Xv mg Zk4 K)
abbrev Rh:Prop:=Cal ζ CX0 3 "_law_back" ["_law_village","_law_past"] (Ny mg (Zlc<|X4 ζ) K)
abbrev M4:Prop:=Cal ζ CX0 3 "_law_opening" ["_law_script","_law_menu_here"] (Xv mg Zkq K)
abbrev OW:Prop:=Cal ζ CX0 3 "_law_deed" ["_law_cell","_law_menu_here","_law_now"] (Xv mg Zdp K)
abbrev Ic:Prop:=Cal ζ CX0 3 "_law_priced" ["_law_told","_law_strips"] (Xv mg Zd6 K)
abbrev La:Prop:=Cal ζ (Cxe ζ) 4 "check_no_ring" ["strips","wishes"] (Xv mg Zod K)
abbrev RS:Prop:=Cam ζ CX0 4 (XB K (X4 ζ) "ring") ["self"] (Xv mg (Zgx<|X4 ζ) K)
abbrev M6:Prop:=Cal ζ (Cxe ζ) 4 "_law_call" ["_law_village","_law_deed_here"] (Pu.spW mg (Zmr<|X4 ζ) K)
abbrev RM:Prop:=Cal ζ CX0 4 "_law_stands" ["_law_village","_law_past"] (Xv mg (Zfk<|X4 ζ) K)
abbrev MH:Prop:=Cal ζ (Cxe ζ) 5 "cost_table" ["strips","wishes"] (Xv mg Zpq K)
abbrev Ln:Prop:=Cal ζ (Cxe ζ) 5 "best_order" ["strips","wishes"] (Xv mg Zlz K)
abbrev RR:Prop:=Cal ζ CX0 5 "_law_go" ["_law_village","_law_past","_law_deed_here"] (Ny mg (Zi1<|X4 ζ) K)
abbrev Iq:Prop:=Cal ζ (Cxe ζ) 6 "least_cost" ["strips","wishes"] (Xv mg Zes K)
abbrev LO:Prop:=Cam ζ (Cxe ζ) 6 (XB K (X4 ζ) "order") ["self"] (Xv mg (Zd8<|X4 ζ) K)
abbrev LC:Prop:=Cam ζ (Cxe ζ) 6 (XB K (X4 ζ) "table") ["self"] (Xv mg (Zjz<|X4 ζ) K)
abbrev LX:Prop:=Cam ζ (Cxe ζ) 7 (XB K (X4 ζ) "cost") ["self"] (Xv mg (Ze3<|X4 ζ) K)
abbrev Lu:Prop:=Cam ζ (Cxe ζ) 7 (XB K (X4 ζ) "moves") ["self"] (Xv mg (Zq8<|X4 ζ) K)
abbrev LS:Prop:=Cam ζ (Cxe ζ) 7 (XB K (X4 ζ) "melded") ["self"] (Xv mg (Zj9<|X4 ζ) K)
abbrev Od:Prop:=Cal ζ CX0 8 "_law_all" ["_law_village"] (Xv mg (Zmh<|X4 ζ) K)
abbrev Zp0:Prop:=Cal ζ CX0 9 "law" ["_law_script"] (Xv mg R4 K)
end M
namespace M
open L2 Own Pu
def Aw{f:Type}{xs:List f}{i:Nat}{d:f}(h:i<xs.length):xs.getD i d=xs[i]:=by rw[WR,WH h];rfl
def MC{f:Type}{xs:List f}{i:Nat}{d:f}(h:i<xs.length):xs.getD i d=xs[i]:=by rw[WR,WH h];rfl
def Zcf{ns:Ye}{p:Int}(l:1<=p)(h:p<ns.length){b1:p.toNat<ns.length}{b2:(p-1).toNat<ns.length}:cutD (ns.map D.int) none (some (p-1))++[D.int ns[p.toNat],D.int ns[(p-1).toNat]]++cutD (ns.map D.int) (some (p+1)) none=(KY ns p.toNat).map D.int:=by
 unfold KY;rw[TN,TN,B3 ns (by lia),Se ns (by lia),WZ,WZ];have g:p.toNat-1=(p-1).toNat:=by lia
 have f:p.toNat+1=(p+1).toNat:=by lia
 rw[g,f,MC b1,MC b2];rfl
def Pd(ps:List (Ye))(f:Ye)(i j:Nat)(p:Ye)(h:Int):Prop:=(p∈ps.take i/\h∈f)\/(ps[i]?=some p/\h∈f.take j)
structure LGs (ws:Yd) (l:Int) (P:Ye->Int->Prop) (ls:Ye) (lg:List (Ye)) (kvs:List (Key×V)):Prop where
 g:LG ws l P lg
 nd:(lg.map<|X3 l).Nodup
 sub:∀h∈lg.map (X3 l),h∈ls
 rc:∀h:Int,(X8 kvs<|.inl h).isSome=true↔h∈lg.map (X3 l)
 len:kvs.length<=lg.length
def LGs.len_le {n:Yd}{l:Int}{P:Ye->Int->Prop}{g:Ye}{h:List (Ye)}{f:List (Key×V)} (L:LGs n l P g h f):h.length<=g.length:=by
 have:=A3 L.nd L.sub
 rwa[WG]at this
def LG.congr {f:Yd}{l:Int}{P n:Ye->Int->Prop}{g:List (Ye)} (h:∀p x,P p x↔n p x) (G:LG f l P g):LG f l n g:=
 ⟨λq hq=>let ⟨p,x,a,b⟩:=G.mem q hq;⟨p,x,(h p x).mp a,b⟩,G.srt,λp x a b=>G.has p x ((h p x).mpr a) b⟩
def LGs.congr {n:Yd}{l:Int}{P s:Ye->Int->Prop}{o:Ye}{r:List (Ye)}{f:List (Key×V)} (h:∀p x,P p x↔s p x) (G:LGs n l P o r f):LGs n l s o r f:=⟨G.g.congr h,G.nd,G.sub,G.rc,G.len⟩
def LGs.start {ps:List (Ye)}{f:Ye}{g:Yd}{l:Int}:LGs g l (Pd ps f 0 0) f [] []:=by
 refine⟨⟨(λq hq=>by cases hq),List.Pairwise.nil,λp h a=>?_⟩,VO,(λh n=>by cases n),(λh=>by simp[X8]),WQ _⟩;rcases a with⟨a,_⟩|⟨_,a⟩
 ·rw[Jh]at a;cases a
 ·rw[Jh]at a;cases a
def LGs.skip {ps:List (Ye)}{f:Ye}{u:Yd}{l:Int}{A:List (Ye)}{n:List (Key×V)}{i j:Nat}{p:Ye}{h:Int} (w:ps[i]?=some p) (J:f[j]?=some h) (hs:ps.Pairwise sl)
  (G:LGs u l (Pd ps f i j) f A n) (no:(X8 n<|.inl h).isSome=true\/(X3 l p,h)∉u):LGs u l (Pd ps f i (j+1)) f A n:=by
 obtain⟨E,M⟩:=Qd.mp J;obtain⟨H,ei⟩:=Qd.mp w;have y:∀x,x∈f.take (j+1)↔x∈f.take j\/x=h:=λx=>by rw[Qp E,Qc,WJ,M]
 refine⟨⟨λq hq=>?_,G.g.srt,λs x a b=>?_⟩,G.nd,G.sub,G.rc,G.len⟩
 ·obtain⟨s,x,a,b⟩:=G.g.mem q hq;exact⟨s,x,a.imp id λz=>⟨z.1,(y x).mpr (.inl z.2)⟩,b⟩
 ·rcases a with a|⟨a1,a2⟩
  ·exact G.g.has s x (.inl a) b
  ·rcases(y x).mp a2 with a2|rfl
   ·exact G.g.has s x (.inr ⟨a1,a2⟩) b
   ·rw[w]at a1;cases a1
    rcases no with no|no
    ·obtain⟨q,hq,e⟩:=Qi.mp ((G.rc x).mp no);obtain⟨v,B,o,rfl,N⟩:=G.g.mem q hq;have L:B=x:=by rw[Ph]at e;exact e
     subst L;refine⟨v,hq,?_⟩;rcases o with⟨o,_⟩|⟨o,_⟩
     ·obtain⟨m,C,r⟩:=Q9.mp o;rw[Qs]at C;rw[VM]at r
      have:=QM.mp hs m i (by lia) H (by lia)
      rw[r,ei]at this;exact .inr this
     ·rw[w]at o;cases o
      exact .inl rfl
    ·exact absurd b no
def LGs.put {ps:List (Ye)}{r:Ye}{v:Yd}{l:Int}{y:List (Ye)}{s:List (Key×V)}{i j:Nat}{p:Ye}{h:Int} (A:ps[i]?=some p) (Y:r[j]?=some h) (hs:ps.Pairwise sl) (T:r.Pairwise (· < ·))
  (G:LGs v l (Pd ps r i j) r y s) (new:(X8 s<|.inl h).isSome=false) (hw:(X3 l p,h)∈v):LGs v l (Pd ps r i (j+1)) r (y++[p++[h]]) (putK s (.inl h)<|.bl true):=by
 obtain⟨J,L⟩:=Qd.mp Y;obtain⟨U,ei⟩:=Qd.mp A;have B:∀x,x∈r.take (j+1)↔x∈r.take j\/x=h:=λx=>by rw[Qp J,Qc,WJ,L]
 have C:X3 l (p++[h])=h:=by rw[Ph];rfl
 have M:h∉y.map (X3 l):=λz=>by rw[(G.rc h).mpr z]at new;cases new
 refine⟨⟨λq hq=>?_,?_,λf x a b=>?_⟩,?_,λx hx=>?_,λx=>?_,?_⟩
 ·rcases Qc.mp hq with hq|hq
  ·obtain⟨f,x,a,b⟩:=G.g.mem q hq;exact⟨f,x,a.imp id λz=>⟨z.1,(B x).mpr (.inl z.2)⟩,b⟩
  ·rw[WJ.mp hq];exact⟨p,h,.inr ⟨A,(B h).mpr (.inr rfl)⟩,rfl,hw⟩
 ·refine VR.mpr ⟨G.g.srt,by simp,λq hq q' E=>?_⟩;rw[WJ.mp E];obtain⟨f,x,a,rfl,b⟩:=G.g.mem q hq;rcases a with⟨a,_⟩|⟨a1,a2⟩
  ·obtain⟨m,H,o⟩:=Q9.mp a;rw[Qs]at H;rw[VM]at o
   have:=QM.mp hs m i (by lia) U (by lia)
   rw[o,ei]at this;exact E8 x h this
  ·rw[A]at a1;cases a1
   obtain⟨m,H,o⟩:=Q9.mp a2;rw[Qs]at H;rw[VM]at o
   have:=QM.mp T m j (by lia) J (by lia)
   rw[o,L]at this;exact IK this
 ·have u:∀f x,Pd ps r i j f x->(X3 l f,x)∈v->∃n,n++[x]∈y++[p++[h]]/\(n=f\/sl n f):=λf x a b=>let ⟨n,Q,N⟩:=G.g.has f x a b;⟨n,QR _ Q,N⟩;rcases a with a|⟨a1,a2⟩
  ·exact u f x (.inl a) b
  ·rcases(B x).mp a2 with a2|rfl
   ·exact u f x (.inr ⟨a1,a2⟩) b
   ·rw[A]at a1;cases a1
    exact⟨p,Qk _ (WJ.mpr rfl),.inl rfl⟩
 ·rw[WZ,VI,C];refine Vk.mpr ⟨G.nd,by simp,λa ha b hb=>?_⟩;rw[WJ.mp hb];rintro rfl;exact M ha
 ·rw[WZ,VI,C]at hx;rcases Qc.mp hx with hx|hx
  ·exact G.sub x hx
  ·rw[WJ.mp hx,←L];exact Qg J
 ·rw[WZ,VI,C,Av,Qc,WJ];by_cases e:x=h
  ·subst e;rw[WO rfl];exact⟨λ_=>.inr rfl,λ_=>rfl⟩
  ·rw[WM (λz=>e (Sum.inl.inj z)),G.rc];exact⟨.inl,λz=>z.elim id λw=>absurd w e⟩
 ·rw[WS]
  have:=FS s (.inl h) (.bl true)
  have:=G.len
  simp;lia
theorem Ii{f:Type}{c:f->Bool}:∀{xs:List f}{x:f}{r:List f},xs.filter c=x::r->∃i,∃o:i<xs.length,xs[i]=x/\c x=true/\∀j (l:j<xs.length),j<i->c xs[j]=false
 |[],x,r,h=>by cases h
 |y::v,x,r,h=>by
  by_cases g:c y=true
  ·rw[List.filter_cons_of_pos g]at h;cases h
   exact⟨0,by simp,rfl,g,λj _ l=>by lia⟩
  ·rw[List.filter_cons_of_neg g]at h;obtain⟨i,o,u,s,p⟩:=Ii h;refine⟨i+1,by simp;lia,by simpa using u,s,λj l n=>?_⟩;cases j with
   |zero=>simpa using g
   |succ j=>simpa using p j (by simpa using l) (by lia)
def OZ(c:Int->Bool):∀f:Ye,f.filterMap (λq=>if c q=true then some (D.int q)else none)=(f.filter c).map D.int:=PX c D.int
def Zjm(ps:Yd)(os:Ye):(TQ ps os).length<=os.length*ps.length:=by
 unfold TQ
 induction os with
 |nil=>simp
 |cons h r f=>
  rw[List.flatMap_cons,WS,Qa,Nat.add_mul]
  have:=QA (λq:Int×Int=>decide (q.1=h)) ps
  lia
def FRi(hs:Ye)(f:Yd)(ns:Ye)(r:Ye):Prop:=
 (r=[]/\∀l∈ns,∀t,¬Pg hs f l t)\/∃l t,r=l::t/\l∈ns/\Pg hs f l t/\∀m∈ns,∀u,Pg hs f m u->t.length<u.length\/(t.length=u.length/\(l<m\/(l=m/\(t=u\/sl t u))))
def FRi.keep {hs:Ye}{o:Yd}{ns r f:Ye}{l:Int} (h:FRi hs o ns r) (x:∀m∈ns,m<l) (g:RF hs o l f) (c:f=[]\/(r≠[]/\r.length<=f.length)):FRi hs o (ns++[l]) r:=by
 rcases h with⟨rfl,h⟩|⟨v,t,rfl,w,A,y⟩
 ·rcases c with rfl|⟨c,_⟩
  ·rcases g with⟨_,g⟩|⟨t,e,_⟩
   ·refine .inl ⟨rfl,λm hm=>?_⟩;rcases Qc.mp hm with hm|hm
    ·exact h m hm
    ·rw[WJ.mp hm];exact g
   ·cases e
  ·exact absurd rfl c
 ·refine .inr ⟨v,t,rfl,QR _ w,A,λm hm u n=>?_⟩;rcases Qc.mp hm with hm|hm
  ·exact y m hm u n
  ·rw[WJ.mp hm]at n ⊢;rcases g with⟨rfl,g⟩|⟨s,rfl,_,g⟩
   ·exact absurd n (g u)
   ·rcases c with c|⟨_,c⟩
    ·cases c
    ·have p:=x v w;simp at c;rcases g u n with z|⟨z,_⟩
     ·exact .inl (by lia)
     ·by_cases e:t.length<u.length
      ·exact .inl e
      ·exact .inr ⟨by lia,.inl p⟩
def FRi.take {hs:Ye}{n:Yd}{ns r f:Ye}{l:Int} (h:FRi hs n ns r) (y:∀m∈ns,m<l) (p:RF hs n l f) (c:f≠[]/\(r=[]\/f.length<r.length)):FRi hs n (ns++[l]) f:=by
 rcases p with⟨rfl,_⟩|⟨s,rfl,f1,w⟩
 ·exact absurd rfl c.1
 ·refine .inr ⟨l,s,rfl,Qk _ (WJ.mpr rfl),f1,λm hm u g=>?_⟩;rcases Qc.mp hm with hm|hm
  ·rcases h with⟨rfl,h⟩|⟨x,t,rfl,B,A,v⟩
   ·exact absurd g (h m hm u)
   ·rcases c.2 with c|c
    ·cases c
    ·simp at c;rcases v m hm u g with z|⟨z,_⟩
     ·exact .inl (by lia)
     ·exact .inl (by lia)
  ·rw[WJ.mp hm]at g ⊢;rcases w u g with z|⟨z,o⟩
   ·exact .inl z
   ·exact .inr ⟨z,.inr ⟨rfl,o⟩⟩
def FRi.all {hs:Ye}{g:Yd}{ns r:Ye} (f:∀z,z∈ns↔z∈hs) (h:FRi hs g ns r):FR hs g r:=by
 rcases h with⟨rfl,h⟩|⟨l,t,rfl,u,s,p⟩
 ·exact .inl ⟨rfl,λl o=>h l ((f l).mpr o)⟩
 ·exact .inr ⟨l,t,rfl,(f l).mp u,s,λm n=>p m ((f m).mpr n)⟩
noncomputable def Zi8(f:List (Option Pu.S)):Nat:=match f[4]? with
 |some (some<|Pu.S.sh<|Pu.D.tup g)=>g.length
 |_=>0
def F3{f:Type}{xs:List f}{x:f}(h:xs[xs.length-1]?=some x):atI xs (-1)=some x:=by
 have g:=(Qd.mp h).1;unfold atI ixN;rw[WM (by lia),WO (by lia)];show xs[_]?=some x;rw[←h];congr 1;lia
def Sm(hs:XM):Prop:=∀h∈hs,∀n∈h.1.q.2,0<=n/\n<=1000
def Sm.take {hs:XM} (h:Sm hs) (i:Nat):Sm (hs.take i):=λg f=>h g (Va f)
def Zn2{f w:Yd}{d:Dd}(x:Field f)(y:f.length<=40)(u:Tf w)(e:d.err f w=none):∀n∈d.q.2,0<=n/\n<=1000:=by
 cases d with
 |sell p h=>
  have e:KD f p h=none:=e;unfold KD at e;split at e
  ·cases e
  split at e
  ·cases e
  rename_i s r
  have:=Vb.mp r
  intro n g;rcases WU.mp g with rfl|g
  ·lia
  ·rw[WJ]at g;lia
 |part p v=>
  have e:Ku f p v=none:=e;rcases Rf f p v with⟨z,_⟩|⟨z,_⟩|⟨z,_⟩|⟨_,_,o,l,C,B,A⟩
  ·rw[e]at z;cases z
  ·rw[e]at z;cases z
  ·rw[e]at z;cases z
  have:=x _ (Bq o l)
  intro n g;rcases WU.mp g with rfl|g
  ·lia
  ·rw[WJ]at g;lia
 |unite p=>
  have e:Ki f p=none:=e;rcases Ob f p with⟨z,_⟩|⟨z,_⟩|⟨z,_⟩|⟨_,_,o,l⟩
  ·rw[e]at z;cases z
  ·rw[e]at z;cases z
  ·rw[e]at z;cases z
  intro n g;rcases WU.mp g with rfl|g
  ·lia
  ·cases g
 |wish a b=>
  have e:Kj w a b=none:=e;unfold Kj at e;split at e
  ·cases e
  split at e
  ·cases e
  rename_i s r;have o:=Vb.mp s;have l:=Vb.mp r;intro n g;rcases WU.mp g with rfl|g
  ·lia
  ·rw[WJ]at g;lia
 |drop a b=>
  have e:Kr w a b=none:=e;unfold Kr at e;split at e
  ·rename_i h
   have:=(u.2.2 _ h).1
   intro n g;rcases WU.mp g with rfl|g
   ·lia
   ·rw[WJ]at g;lia
  ·cases e
def Sm.add {f0:Yd}{hs:XM} (h:Sm hs) (l:FineH f0 hs) (d:Dd):Sm (KW f0 hs d):=by
 unfold KW;split
 ·rename_i e;obtain⟨⟨p,o⟩,n⟩:=l.cur;intro g f;rcases Qc.mp f with f|f
  ·exact h g f
  ·rw[WJ.mp f];exact Zn2 p o n e
 ·exact h
def Zau(d:Dd)(h:∀n∈d.q.2,0<=n/\n<=1000):Rk (py<|dD d.q) 2 20:=by
 have f:∀(x:Str) (g:Ye),(x.cps.toList.all λc=>decide (c<16 ^ 8))=true->x.cps.size<=8->g.length<=2->(∀n∈g,0<=n/\n<=1000)->Rk (py<|dD (x,g)) 2 20:=λx g u s v o=>by
  have e:py (dD (x,g))=.tuple (.str x::g.map PyData.int):=by unfold dD py pys;rw[NZ];rfl
  rw[e];have r:RkA (g.map PyData.int) 1 (g.length*(0+1)):=RkA.map λn l=>.nat (by have:=o n l;lia) _ _;exact .tuple (b:=20) (.cons (b1:=8) (b2:=2) (.str u s _) ⟨r.ls,r.sh,r.hd,WV r.bk (by lia),r.dp⟩<|by decide) (by decide)
 cases d with
 |sell p x=>exact f "sell" _ (by decide +kernel) (by decide +kernel) (by simp) h
 |part p x=>exact f "part" _ (by decide +kernel) (by decide +kernel) (by simp) h
 |unite p=>exact f "unite" _ (by decide +kernel) (by decide +kernel) (by simp) h
 |wish p x=>exact f "wish" _ (by decide +kernel) (by decide +kernel) (by simp) h
 |drop p x=>exact f "drop" _ (by decide +kernel) (by decide +kernel) (by simp) h
def Zjo{hs:XM}(h:Sm hs)(l:hs.length<=60):okS (.lst ((bkH hs).map dD))=true/\Rk (py<|.lst ((bkH hs).map dD)) 3 1260:=by
 have e:py (.lst ((bkH hs).map dD))=.list (hs.map λg=>py (dD g.1.q)):=by unfold bkH py;rw[NZ,Q0];rfl
 refine⟨?_,?_⟩
 ·unfold okS;refine okSs_iff.mpr λd hd=>?_;obtain⟨q,_,rfl⟩:=Qi.mp hd;unfold dD okS;refine okSs_iff.mpr λd hd=>?_;rcases WU.mp hd with rfl|hd
  ·rfl
  ·obtain⟨n,_,rfl⟩:=Qi.mp hd;rfl
 ·rw[e];have r:RkA (hs.map λg=>py (dD g.1.q)) 2 (hs.length*(20+1)):=RkA.map λg f=>Zau g.1 (h g f);exact .list (b:=hs.length*(20+1)) r (by lia)
noncomputable def KS(f0:Yd)(hs:XM):List D:=plD (XS f0 hs)::plD (XO hs) :: .lst ((bkH hs).map dD)::Classical.epsilon (AllT (XS f0 hs)<|XO hs)
noncomputable def AR(f0:Yd)(hs:XM):D:=.str (py<|.lst<|KS f0 hs).shown
noncomputable def Py(f0:Yd)(hs:XM):List D:=(List.range (hs.length+1)).map λi=>AR f0 (hs.take i)
def FD{f0:Yd}{hs:XM}{es:List D}(f:FineH f0 hs)(h:AllT (XS f0 hs) (XO hs) es):plD (XS f0 hs)::plD (XO hs) :: .lst ((bkH hs).map dD)::es=KS f0 hs:=by
 unfold KS;rw[h.uniq (λq hq=>(f.cur.2.2.2 q hq).2) (Jw ⟨es,h⟩)]
def Am{f0:Yd}{hs:XM}(u:FineH f0 hs)(r:Sm hs)(s:hs.length<=60)(hx:∃es,AllT (XS f0 hs) (XO hs) es):okS (.lst<|KS f0 hs)=true/\Rk (py<|.lst<|KS f0 hs) 60 200000:=by
 have h:=Jw hx;obtain⟨⟨g,v⟩,f⟩:=u.cur;obtain⟨p,o⟩:=h.rk g v λq hq=>(f.2.2 q hq).2;obtain⟨b1,b2⟩:=Zjo r s;have hw:=f.1;have n:Rk (py<|plD<|XS f0 hs) 50 150:=(Rk.pairs λq hq=>by have:=g q hq;lia).mono (by decide) (by lia);have l:Rk (py<|plD<|XO hs) 50 150:=(Rk.pairs λq hq=>by have:=f.2.2 q hq;lia).mono (by decide) (by lia);have e:py (.lst<|KS f0 hs)=.list (pys<|KS f0 hs):=by unfold py;rfl
 refine⟨?_,e▸(Rk.list (k:=50) (b:=22000) (b':=22000) ?_<|by decide).mono (by decide) (by decide)⟩
 ·unfold KS okS PH;rw[EB];unfold PH;rw[EB];unfold PH;rw[b1,p];rfl
 ·unfold KS;show RkA (py _::py _::py _::pys _) 50 22000;exact .cons (b2:=21800) n (.cons (b2:=21500) l (.cons (b2:=20000) (b2.mono (by decide)<|WQ _) o<|by decide)<|by decide) (by decide)
def Zju{f0:Yd}{hs f:XM}(h:f=hs\/f=hs.dropLast\/∃x,f=hs++[x]):(Py f0 hs).take f.length++[AR f0 f]=Py f0 f:=by
 have l:∀i,i<f.length->f.take i=hs.take i:=λi g=>by
  rcases h with rfl|rfl|⟨x,rfl⟩
  ·rfl
  ·rw[J6,List.take_take];rw[JH]at g;congr 1;lia
  ·rw[WS,Q6]at g;rw[List.take_append_of_le_length (by lia)]
 have n:f.length<=hs.length+1:=by
  rcases h with rfl|rfl|⟨x,rfl⟩
  ·lia
  ·rw[JH];lia
  ·rw[WS,Q6];exact WQ _
 unfold Py;rw[←List.map_take,List.take_range,Nat.min_eq_left n,List.range_succ,WZ,VI,QK];congr 1;exact Vc λi g=>by rw[l i (Jg.mp g)]
def IL{f0:Yd}{hs:XM}{i:Nat}(h:i<=hs.length):atI (Py f0 hs) (i:Int)=some (AR f0<|hs.take i):=by
 refine Th ?_;unfold Py;rw[WT,List.getElem?_range (by lia)];rfl
def Zhz(f:Yd)(k:Int)(l:0<=k):∃q,atI (f.map (λq=>dD (Dd.wish q.1 q.2).q)++[D.tup [.str "back"]]) (if (((f.map λq=>dD (Dd.wish q.1 q.2).q).length:Nat):Int)<k then(((f.map λq=>dD (Dd.wish q.1 q.2).q).length:Nat):Int)else k)=some q/\(q=.tup [.str "back"]\/∃d:Dd,q=dD d.q):=by
 rw[WG];by_cases h:k<f.length
 ·rw[WM (by lia)];obtain⟨j,rfl⟩:=Int.eq_ofNat_of_zero_le l;have g:j<f.length:=by lia
  refine⟨dD (Dd.wish f[j].1 f[j].2).q,Th ?_,.inr ⟨_,rfl⟩⟩;rw[Qm (by rw[WG];exact g),WT,WH g];rfl
 ·have e:(if (f.length:Int)<k then(f.length:Int)else k)=(f.length:Int):=by split<;>lia
  rw[e];refine⟨_,Th ?_,.inl rfl⟩;rw[Qq (by rw[WG];exact WQ _),WG,JX];rfl
def Zgl(hs:XM){j:Nat}(h:j<=hs.length):(hs.take j).dropLast=hs.take (j-1):=by
 rw[J6,List.take_take,Qs];congr 1;lia
noncomputable def Zgy(f:List (Option Pu.S)):Nat:=match f[4]? with
 |some (some<|Pu.S.own<|Pu.O.lsA _ g)=>g.length
 |_=>0
end M
namespace T
open L2 Own M
section
variable {P:Program}{w:World}{K:Yc}{mg:Yg}{base:Heap}
def Zb4(G:Glob K mg)(D:Pu.XD K (ExcR.KQ K<|ExcR.Xs mg "Ringed") "__init__" "Ringed.__init__" Du ["self","members"])
  : Pu.Pa P w K mg base CX0 1 (ExcR.KQ K<|ExcR.Xs mg "Ringed") ["self","members"] (ExcR.Bl K):=by
 refine D.ok (k:=0) Zn8 (λg H Q E h=>?_) (λf l A outer s H g Q E n h=>?_)
 ·obtain⟨_,_,_,_,_,rfl,_⟩:=h;rfl
 ·exact⟨_,P9 (ExcR.Zpa (pv 0) (To HS (by rfl) G.Zi boot_list<|XY (pv 1) KB)<|by rfl),ExcR.Zh9 h rfl⟩
def Zhq(G:Glob K mg)(D:Def K mg "holders_of" Ee ["strips"])
  : Callee P w K mg base CX0 1 "holders_of" ["strips"] (Ie K):=by
 refine D.ok (k:=0) Zlh (λu H Q E h=>?_) (λf cdv A outer s H u Q E hr h=>?_)
 ·obtain⟨l,g,rfl,⟨u,y,v⟩,L,J,q⟩:=h;rfl
 ·obtain⟨l,g,rfl,⟨u,y,v⟩,L,J,q⟩:=h;refine⟨_,(P9<|Kp<|XW (Hr rfl) (by rfl) G.Zj boot_sorted<|XY (To (Zbi rfl) (by rfl) G.ZZ boot_set<|XY (Dg (N':=["holder","width"]) (φ:=[none,none]) rfl (Su.of<|by rfl) (ON<|pv 0) (λ_ _ _ _ _=>⟨(FF (K:=K) (n:=2) rfl<|NB (Et (i:=0) (show(["holder","width"]:Yl).Nodup from by decide +kernel) rfl (by first|exact Or.inl rfl|exact Or.inr rfl))<|NB (Et (i:=1) (show(["holder","width"]:Yl).Nodup from by decide +kernel) rfl (by first|exact Or.inl rfl|exact Or.inr rfl)) F8),Nk,(pv 0)⟩)) KB) KB),?_⟩
  have e1:=v.1;refine⟨_,rfl,l,rfl,⟨_,SqL.of y⟩,λD B=>Zf6 (ds:=g) (λd=>some (V.int d.1)) (SqL.of y) e1 B (WV J<|by decide) (λi x d H2 hx hd S k Y=>?_) ?_⟩
  ·obtain⟨d',p,a,rfl,ha⟩:=v.get hx;rw[hd]at p;cases p
   exact⟨a,_,rfl,SqT.of (S _ _ ha),rfl,_,_,rfl,_,_,rfl,rfl,.skip (.skip .refl),_,rfl,Y⟩
  ·have em:g.filterMap (λd=>some (V.int d.1))=(g.map (·.1)).map V.int:=by
    rw[VL,Q0];rfl
   rw[em];have S1:Same H (upd H D<|.lst ((g.map (·.1)).map V.int)):=Kg B;refine⟨D,g.map (·.1),rfl,SqL.of X9,by rw[WG];lia,λz N=>?_⟩;have M:=Own.Same.new (o:=NA w z ((g.map (·.1)).foldl SetR.K0 [])) S1 N;refine⟨z,_,rfl,?_,.inr X9,λr ns C U T=>?_⟩
   ·have:=Zaf (g.map (·.1)) []
    rw[WG]at this;simp at this ⊢;lia
   ·rw[Zbr L U T];exact q r _ (M.free C) (Own.Same.new M C) X9
end
open Pu
section
variable {P:Program}{w:World}{K:Yc}{mg:Yg}{base:Heap} (ζ:Fv P w K mg base)
variable (G:Glob K mg) (YL:Zr3 ζ) (Yz:OS ζ) (YM:OI ζ) (Yu:Ze7 ζ) (YN:IT ζ) (YO:LH ζ) (YQ:IE ζ) (YR:OH ζ) (Y6:Ms ζ) (YS:GF ζ) (YT:HC ζ) (Y7:LF ζ) (YU:IZ ζ) (YV:ML ζ) (Y2:Hw ζ) (YW:Ot ζ) (YX:Ry ζ) (Yr:Lf ζ) (Ys:GP ζ) (Y8:GM ζ) (Yw:Oi ζ) (Yx:GR ζ) (YA:Lj ζ) (Yt:Hd ζ) (Y0:Mx ζ) (Yy:Ml ζ) (YY:MX ζ) (Yv:O6 ζ) (YZ:RT ζ) (Wa:RN ζ) (Wb:Hu ζ) (Wc:OL ζ) (Y3:Mq ζ) (Wd:ID ζ) (We:MD ζ) (Wf:OO ζ) (YB:M3 ζ) (Wg:Hi ζ) (Wh:RV ζ) (Wi:OX ζ) (Wj:GA ζ) (Wk:Mu ζ) (YC:ME ζ) (Wl:RE ζ) (Wm:O8 ζ) (Wn:IX ζ) (Wo:I0 ζ) (Y4:Zab ζ) (YD:Ov ζ) (YE:Mh ζ) (Wp:OM ζ) (Wq:Mb ζ) (Wr:Im ζ) (YF:Rl ζ) (Ws:OP ζ) (Wt:Hx ζ) (YG:LN ζ) (YH:Ia ζ) (Wu:O1 ζ) (Wv:M5 ζ) (Ww:Hs ζ) (Wx:G1 ζ) (Wy:IF ζ) (Wz:R0 ζ) (YI:Rh ζ) (W1:M4 ζ) (W2:OW ζ) (W3:Ic ζ) (YJ:La ζ) (W4:RS ζ) (W5:M6 ζ) (W6:RM ζ) (YK:MH ζ) (W7:Ln ζ) (W8:RR ζ) (W9:Iq ζ) (Y5:LO ζ) (WA:LC ζ) (WB:LX ζ) (WC:Lu ζ) (WD:LS ζ) (Y1:Od ζ)
def Zb0(p:Def K mg "check_holder" CY ["holder"])
  : OS ζ:=by
 refine p.fy Zii (λr n=>(b1<|sI (tp<|wo (tc Pk Pi (xv 0) xi)<|wO<|tc KF KE (xv 0)<|xe (ExcR.P0 G.Z2) Xx) (b1<|sQ G.Z9 G.Z8 ExcR.KI<|a1<|xe (ExcR.NN<|ExcR.PL<|ExcR.NU (ExcR.P0 G.Z2) ExcR.NC)<|NP<|PQ<|NY Xx NW) b0)) (.a ?_)
 ·rintro u R X ⟨h,rfl,f⟩;refine⟨rfl,?_⟩;unfold SO at f;refine Xu (λg=>Kx ?_) (λg=>?_)
  ·rw[WM (by have:=WN g;lia)]at f;exact⟨by decide,by decide,by decide,by decide,by simp,f⟩
  ·have s:¬h<1:=λz=>g (WI z);refine Xu (λl=>?_) (λl=>?_)
   ·rw[WM (by have:=WN l;lia)]at f;exact⟨by decide,by decide,by decide,by decide,by simp,f⟩
   ·have o:¬10<h:=λz=>l (WI z);rw[WO (by lia)]at f;exact f
def Zcw(p:Def K mg "check_width" Dh ["width"])
  : OI ζ:=by
 refine p.fy Zba (λr n=>(b1<|sI (tp<|wo (tc Pk Pi (xv 0) xi)<|wO<|tc KF KE (xv 0)<|xe (ExcR.P0 G.Zp) Xx) (b1<|sQ G.ZD G.ZC ExcR.KI<|a1<|xe (ExcR.NN<|ExcR.PL<|ExcR.NU (ExcR.P0 G.Zp) ExcR.NC)<|NP<|PQ<|NY Xx NW) b0)) (.a ?_)
 ·rintro u R X ⟨h,rfl,f⟩;refine⟨rfl,?_⟩;unfold AS at f;refine Xu (λg=>Kx ?_) (λg=>?_)
  ·rw[WM (by have:=WN g;lia)]at f;exact⟨by decide,by decide,by decide,by decide,by simp,f⟩
  ·have s:¬h<1:=λz=>g (WI z);refine Xu (λl=>?_) (λl=>?_)
   ·rw[WM (by have:=WN l;lia)]at f;exact⟨by decide,by decide,by decide,by decide,by simp,f⟩
   ·have o:¬1000<h:=λz=>l (WI z);rw[WO (by lia)]at f;exact f
def Zej(J:Def K mg "pair_cost" EM ["strips","ahead","behind"])
  : IT ζ:=by
 refine J.fz Zh3 (λu n=>(bc (sS 3 n xi)<|bc (sS 4 n xi)<|bc (sF 0<|sO [5,6] Ql (iL<|xv 0) (gT 2<|gc (gN 5)<|gc (gN 6) g0)<|b1<|sI (tq u (xv 5)<|xv 2) (b1<|sU 3 n O0<|xv 6)<|b1<|sI (tq u (xv 5)<|xv 1) (b1<|sU 4 n O0<|xo N1 Nn (xv 3)<|xv 6) b0)<|b1<|sV 4)) (.a ?_)
 ·rintro L R X ⟨f,x,y,rfl,C,B⟩;refine⟨rfl,rfl,Tz (xs:=f) (emb:=prD) (λi h=>h=[some (.bor<|.lst<|f.map prD),some (.sh<|.int x),some (.sh<|.int y),some (.sh<|.int<|tpM f y i),some (.sh<|.int<|pcM f x y i),none,none]) rfl ?_ ?_⟩
  ·rintro i A h rfl;have v:f.getD i (0,0)=f[i]:=by rw[WR,WH A];rfl
   have hw:=C _ (Qg A);have H:tpM f y (i+1)=tpM f y i+(if f[i].1=y then f[i].2 else 0):=by simp only[tpM];rw[v]
   have E:pcM f x y (i+1)=pcM f x y i+(if x≠y/\f[i].1=x then tpM f y i*f[i].2 else 0):=by simp only[pcM];rw[v]
   rw[H,E];generalize f[i]=p at hw;refine⟨rfl,Xu (λg=>?_) (λg=>Xu (λr=>?_) (λr=>?_))⟩
   ·have e:p.1=y:=WN g;rw[WO e,WM (by rintro⟨s,o⟩;exact s (o.symm.trans e)),Jf];rfl
   ·have e:¬p.1=y:=λz=>g (WI z);have l:p.1=x:=WN r;rw[WM e,WO ⟨λz=>e (l.trans z),l⟩,Jf];exact⟨.inr ⟨by show -(2 ^ 64)<p.2;lia,by show p.2<2 ^ 64;lia⟩,rfl⟩
   ·have e:¬p.1=y:=λz=>g (WI z);have l:¬p.1=x:=λz=>r (WI z);rw[WM e,WM (by rintro⟨s,o⟩;exact l o),Jf,Jf];rfl
  ·rintro h rfl;exact B
def Zr0(l:Def K mg "own_numbers" Cy ["strips"])
  : LH ζ:=by
 refine l.fz Zqk (λp n=>(b1<|sR<|xC ["index"] [none] (jI<|ir G.Zd<|a1<|xl G.len<|xv 0) (gN 0) f0<|xo XJ XG (xv 0) xi)) (.a ?_)
 ·rintro r R X ⟨f,rfl,o,h⟩;refine⟨rfl,?_⟩;have g:(f.map prD).length=f.length:=WG ..;refine⟨⟨by lia,by lia⟩,E3 (λi=>some (.int (0+(i:Int)+1))) (by lia) (λi _=>⟨_,rfl,rfl⟩) ?_⟩
  have e:(List.range ((f.map prD).length:Int).toNat).filterMap (λ(i:Nat)=>some (D.int (0+(i:Int)+1)))=(Km 1 f.length).map D.int:=by
   unfold Km;rw[VL,Q0,g,Q3];refine Vc λi _=>?_;show D.int (0+(i:Int)+1)=D.int (1+(i:Int));congr 1;lia
  rw[e];exact h
def Zl3(x:Def K mg "exchange_cost" Cp ["strips","numbers","place"])
  : IE ζ:=by
 refine x.fz Zn6 (λA n=>(bc (sS 3 n<|xx (xv 0)<|xo Kd Kb (xx (xv 1)<|xo Kd Kb (xv 2) xi) xi)<|bc (sS 4 n<|xx (xv 0)<|xo Kd Kb (xx (xv 1)<|xv 2) xi)<|b1<|sR<|xo N1 Nn (xx (xv 3) xi)<|xx (xv 4) xi)) (.a ?_)
 ·rintro E R X ⟨g,f,p,rfl,s,h,C,B,l⟩;refine⟨rfl,?_⟩;have b1:(p-1).toNat<f.length:=by omega
  have r:p.toNat<f.length:=by omega
  have z:=h _ (Qg b1);have y:=h _ (Qg r);refine⟨_,Pr (by omega) (by omega),_,Pr (by omega) (by omega),_,Pr (by omega) (by omega),_,Pr (by omega) (by omega),_,rfl,_,rfl,?_⟩;have o:(f[(p-1).toNat]-1).toNat<g.length:=by omega
  have v:(f[p.toNat]-1).toNat<g.length:=by omega
  have f1:=s _ (Qg o);refine⟨.inl ⟨by show -(2 ^ 64)<(g[(f[(p-1).toNat]-1).toNat]).2;omega,by show(g[(f[(p-1).toNat]-1).toNat]).2<2 ^ 64;omega⟩,?_⟩
  have e:exM g f p.toNat=(g[(f[(p-1).toNat]-1).toNat]).2*(g[(f[p.toNat]-1).toNat]).2:=by
   unfold exM
   have u:f.getD (p.toNat-1) 0=f[(p-1).toNat]:=by
    rw[show p.toNat-1=(p-1).toNat by omega];exact Aw b1
   rw[u,Aw r,Aw o,Aw v]
  rw[e]at l;exact l
def Zqx(s:Def K mg "exchanged" DZ ["numbers","place"])
  : OH ζ:=by
 refine s.fz Zc2 (λv n=>(b1<|sR<|xo Ky Kw (xo Ky Kw (xp (xv 0) o0<|o1<|xo Kd Kb (xv 1) xi)<|xL<|a2 (xx (xv 0)<|xv 1)<|xx (xv 0)<|xo Kd Kb (xv 1) xi)<|xp (xv 0) (o1<|xo XJ XG (xv 1) xi) o0)) (.a ?_)
 ·rintro x R X ⟨f,p,rfl,r,o,u,h⟩;refine⟨rfl,?_⟩;have b1:p.toNat<f.length:=by lia
  have b2:(p-1).toNat<f.length:=by lia
  have g:(cutD (f.map D.int) none<|some (p-1)).length<=1000:=by have:=(TB (f.map D.int) none<|some (p-1)).length_le;rw[WG]at this;lia
  have l:(cutD (f.map D.int) (some (p+1)) none).length<=1000:=by have:=(TB (f.map D.int) (some (p+1)) none).length_le;rw[WG]at this;lia
  refine⟨Sh _,_,Pr (by lia) (by lia),_,Pr (by lia) (by lia),by simp,rfl,rfl,WV (Qo g<|WQ 2) (by decide),Sh _,rfl,rfl,WV (Qo (by rw[WS];exact Qo g (WQ 2)) l) (by decide),?_⟩;have e:=Zcf r o (b1:=b1) (b2:=b2);rw[←e]at h;exact h
def Zdb(L:Def K mg "first_wrong_place" Cq ["numbers","ranks"])
  : Ms ζ:=by
 refine L.fz Zey (λN n=>(bc (sO [2] Ql (iR G.Zd<|a2 xi<|xl G.len<|xv 0) (gN 2)<|b1<|sI (tc KF KE (xx (xv 1)<|xo Kd Kb (xx (xv 0)<|xo Kd Kb (xv 2) xi) xi)<|xx (xv 1)<|xo Kd Kb (xx (xv 0)<|xv 2) xi) (b1<|sV 2) b0)<|b1<|sR xi)) (.a ?_)
 ·rintro U R X ⟨h,l,rfl,y,M,E⟩;refine⟨rfl,?_⟩;have Q:(h.map D.int).length=h.length:=WG ..
  have C:∀(i:Nat) (k:Int),i<h.length->k=(i:Int)->atI (h.map D.int) k=some (.int<|h.getD i 0):=λi k p e=>by
   rw[e];exact Tp (f:=D.int) (Th<|by rw[WR,WH p];rfl)
  have A:∀i:Nat,i<h.length->atI (l.map D.int) (h.getD i 0-1)=some (.int (l.getD (h.getD i 0-1).toNat 0)):=λi p=>by
   have J:h.getD i 0∈h:=by
    rw[WR,WH p];exact Qg p
   have:=y _ J
   generalize h.getD i 0=z at this;rw[Pr (f:=D.int) (xs:=l) (by lia) (by lia),WR,WH (show(z-1).toNat<l.length by lia)];rfl
  have x:∀i:Nat,i<h.length->(h.map λm=>l.getD (m-1).toNat 0).getD i 0=l.getD (h.getD i 0-1).toNat 0:=λi p=>BG p;have B:(h.map λm=>l.getD (m-1).toNat 0).length=h.length:=WG ..;refine⟨⟨by lia,by lia⟩,PZ (λi r=>(∀q,1<=q->q<1+i->(h.map λm=>l.getD (m-1).toNat 0).getD (q-1) 0<=(h.map λm=>l.getD (m-1).toNat 0).getD q 0)/\r=[some (.bor<|.lst<|h.map D.int),some (.bor<|.lst<|l.map D.int),none]) ⟨λq u T=>by lia,rfl⟩ ?_ ?_⟩
  ·rintro i r p ⟨u,rfl⟩
   have o:i+1<h.length:=by
    have:i<((((h.map D.int).length:Nat):Int)-1).toNat:=p
    lia
   refine⟨_,C i _ (by lia) (by lia),_,A i (by lia),_,C (i+1) _ o (by lia),_,A (i+1) o,?_⟩;refine Xu (λg=>?_) (λg=>?_)
   ·have H:l.getD (h.getD (i+1) 0-1).toNat 0<l.getD (h.getD i 0-1).toNat 0:=WN g
    have:=E (i+1) ⟨λq s v=>u q s (by rw[WM (by lia)]at v;lia),.inr ⟨by lia,by rw[B];exact o,by rw[x _ o,Vv,x _ (by lia)];exact H⟩⟩
    rw[show((i+1:Nat):Int)=1+(i:Int) by lia]at this;exact this
   ·have H:¬l.getD (h.getD (i+1) 0-1).toNat 0<l.getD (h.getD i 0-1).toNat 0:=λz=>g (WI z);refine⟨λq s v=>?_,rfl⟩;by_cases c:q<1+i
    ·exact u q s c
    ·have:q=i+1:=by lia
     subst this;rw[x _ o,Vv,x _ (by lia)];lia
  ·rintro r ⟨u,rfl⟩;refine E 0 ⟨λq s v=>u q s ?_,.inl rfl⟩;rw[WO rfl,B]at v;lia
def Zfj(r:Def K mg "check_neighbours" CN ["strips","place"])
  : GF ζ:=by
 refine r.fy Zsb (λs n=>(b1<|sI (tp<|wo (tc Pk Pi (xv 1) xi)<|wO<|tc NT N8 (xv 1)<|xl G.len<|xv 0) (b1<|sQ G.Zw G.Zv ExcR.KI<|a1 xs) b0)) (.a ?_)
 ·rintro x R X ⟨h,p,rfl,f⟩;refine⟨rfl,?_⟩;have u:(h.map prD).length=h.length:=WG ..;refine Xu (λg=>Kx ?_) (λg=>?_)
  ·rw[WO (.inl<|WN g)]at f;exact⟨by simp,f⟩
  ·have v:¬p<1:=λz=>g (WI z);refine Xu (λo=>?_) (λo=>?_)
   ·have l:((h.map prD).length:Int)<=p:=WN o;rw[WO (.inr<|by lia)]at f;exact⟨by simp,f⟩
   ·have l:¬((h.map prD).length:Int)<=p:=λz=>o (WI z);rw[WM (by lia)]at f;exact f
def Zeu(DD:Def K mg "longer_paths" Gf ["paths","left","wishes"])
  : HC ζ:=by
 refine DD.fz Mm (λE n=>(bc (sS 3 n<|xL a0)<|bc (se (Pu.pz 4 Mm.nd Zb9)<|Tu Zj5<|Kk 4)<|bc (sF 1<|sF 0<|sO [5,6] Ql (iL<|xv 0) (gN 5)<|b1<|sF 1<|sO [6] Ql (iL<|xv 1) (gN 6)<|b1<|sI (tp<|wa (te (Zqo<|Zkv (Pv<|E ()) (pv 6)<|pv 4)<|Ze4<|Zry (Xo 6)<|Xo 4)<|wA<|ti E (xt<|a2 (xx (xv 5)<|xe (P2 Po X5)<|Pp Xx)<|xv 6)<|xv 2) (bc (se (EU (Pv<|E ()) (pv 4) (pv 6) Nu rfl)<|Cf 4 (Xo 6) Nw)<|b1<|sF 6<|sA 3<|xo Ky Kw (xv 5)<|xL<|a1<|xv 6) b0)<|b1<|sV 3)) (.a ?_)
 ·rintro ds R X ⟨l,v,u,A,rfl,C,Y,H,U,hR⟩;refine⟨rfl,?_⟩
  refine⟨by simp,rfl,Tz (xs:=v) (emb:=em l) (λi o=>∃r f,o=[some (.bor<|.lst<|v.map<|em l),some (.bor<|.lst<|u.map D.int),some (.bor<|.lst<|A.map prD),some (.own<|r.map<|em l),some (.own<|.dK f),none,none]/\LGs A l (Pd v u i 0) u r f)
   ⟨[],[],rfl,LGs.start⟩ ?_ ?_⟩
  ·rintro i L o ⟨r,f,rfl,s⟩;have y:v[i]?=some v[i]:=WH L;have J:=H v[i] (Qg L);generalize v[i]=p at y J ⊢;refine⟨rfl,Tz (xs:=u) (emb:=D.int) (λj o=>∃r f,o=[some (.bor<|.lst<|v.map<|em l),some (.bor<|.lst<|u.map D.int),some (.bor<|.lst<|A.map prD),some (.own<|r.map<|em l),some (.own<|.dK f),some (.bor<|em l p),none]/\LGs A l (Pd v u i j) u r f) ⟨r,f,rfl,s⟩ ?_ ?_⟩
   ·rintro j hj o ⟨r,f,rfl,s⟩;have B:u[j]?=some u[j]:=WH hj;generalize u[j]=h at B ⊢;have Q:=s.len_le;have hkl:=s.len;refine⟨.inl h,rfl,Xu (λg=>?_) (λg=>?_)⟩
    ·have N:(X8 f<|.inl h).isSome=false:=by
      cases e:(X8 f<|.inl h).isSome with
      |false=>rfl
      |true=>rw[e]at g;cases g
     refine⟨_,Ez l p,by simp,_,.lp (X3 l p,h) A,Xu (λM=>?_) (λM=>?_)⟩
     ·refine⟨.inl h,.bl true,rfl,rfl,by lia,by simp,Sh _,rfl,by simp;lia,by rw[WG];lia,r++[p++[h]],_,?_,s.put y B C Y N (WN M)⟩;rw[WZ]
      have e:em l (p++[h])=.lst ((l::p).map D.int++[.int h]):=by
       unfold em;rw[←Vp,WZ];rfl
      rw[VI,e];rfl
     ·exact⟨r,f,rfl,s.skip y B C (.inr λz=>M (WI z))⟩
    ·have N:(X8 f<|.inl h).isSome=true:=by
      cases e:(X8 f<|.inl h).isSome with
      |true=>rfl
      |false=>rw[e]at g;exact absurd rfl g
     exact Ke ⟨r,f,rfl,s.skip y B C (.inl N)⟩
   ·rintro o ⟨r,f,rfl,s⟩;refine⟨r,f,rfl,s.congr λT x=>?_⟩;unfold Pd;rw[QK,Jh];obtain⟨hi',ei⟩:=Qd.mp y;rw[Qp L,Qc,WJ,y,ei];constructor
    ·rintro(⟨a,b⟩|⟨a,b⟩)
     ·exact .inl ⟨.inl a,b⟩
     ·exact .inl ⟨.inr (WY a).symm,b⟩
    ·rintro(⟨a|a,b⟩|⟨_,a⟩)
     ·exact .inl ⟨a,b⟩
     ·exact .inr ⟨Q4 some a.symm,b⟩
     ·cases a
  ·rintro o ⟨r,f,rfl,s⟩;refine hR r (s.g.congr λT x=>?_) s.len_le;unfold Pd;rw[QK,Jh];exact⟨(λz=>z.elim id λw=>by cases w.2),.inl⟩
def Zbf(r:Def K mg "check_place" Eb ["strips","place"])
  : LF ζ:=by
 refine r.fy Zdr (λs n=>(b1<|sI (tp<|wo (tc Pk Pi (xv 1) xi)<|wO<|tc KF KE (xv 1)<|xl G.len<|xv 0) (b1<|sQ G.Zw G.Zv ExcR.KI<|a1 xs) b0)) (.a ?_)
 ·rintro x R X ⟨h,p,rfl,f⟩;refine⟨rfl,?_⟩;have u:(h.map prD).length=h.length:=WG ..;unfold Fp at f;refine Xu (λg=>Kx ?_) (λg=>?_)
  ·rw[WO (.inl<|WN g)]at f;exact⟨by simp,f⟩
  ·have v:¬p<1:=λz=>g (WI z);refine Xu (λo=>?_) (λo=>?_)
   ·have l:((h.map prD).length:Int)<p:=WN o;rw[WO (.inr<|by lia)]at f;exact⟨by simp,f⟩
   ·have l:¬((h.map prD).length:Int)<p:=λz=>o (WI z);rw[WM (by lia)]at f;exact f
def Zro(r:Def K mg "without_wish" E5 ["wishes","ahead","behind"])
  : IZ ζ:=by
 refine r.fy Zm6 (λp n=>(bc (sI (tI p (xt<|a2 (xv 1)<|xv 2)<|xv 0) (b1<|sQ G.ZS G.ZR ExcR.KI<|a1 xs) b0)<|b1<|sF 2<|sF 1<|sR<|xC ["wish","ahead","behind"] [none,some 1,some 2] (jL<|xv 0) (gN 0) (f1<|te (T8 (Oy (K:=K)<|show _<cLine from(p ()).units0) (pv 0) (PY<|bz (pv 1)<|pv 2)<|Pj _)<|P1<|My (Xo 0)<|PU<|tz (Xo 1)<|Xo 2)<|xv 0)) (.a ?_)
 ·rintro u R X ⟨l,a,b,rfl,s,f⟩;refine⟨rfl,?_⟩;unfold Kr at f;refine⟨by simp,_,.lp (a,b) l,Xu (λg=>?_) (λg=>?_)⟩
  ·have o:¬(a,b)∈l:=λz=>by rw[WO rfl,WI z]at g;cases g
   rw[WM o]at f;exact⟨by simp,f⟩
  ·have o:(a,b)∈l:=Qx λz=>g (by rw[WO rfl,Qu z];rfl);rw[WO o]at f;refine K8 (xs:=l) (emb:=prD) (λq=>if (!decide (q=(a,b)))=true then some (prD q)else none) (by lia) (λq hq=>?_) ?_
   ·refine⟨by simp,?_⟩;show CH (.sh<|prD q) (.sh<|prD (a,b)) _;refine Zi0 ?_;exact Xu (λh=>⟨_,rfl,WO h⟩) (λh=>WM h)
   ·rw[PX (λq:Int×Int=>!decide (q=(a,b)))];exact f
def Zde(v:Def K mg "sets_of" Dp ["holders"])
  : ML ζ:=by
 refine v.fz Zhw (λy n=>(bc (sS 1 n<|xL<|a1<|xt a0)<|bc (sF 0<|sO [2] Ql (iL<|xv 0) (gN 2)<|b1<|sF 2<|sS 1 n<|xo Ky Kw (xv 1)<|xC ["members","holder"] [none,some 2] (jL<|xv 1) (gN 0) f0<|xe (Ni (Zrw (K:=K)) (pv 0)<|PY<|az<|pv 1)<|Zk6 (Xo 0)<|PU<|sz<|Xo 1)<|b1<|sV 1)) (.a ?_)
 ·rintro z R X ⟨l,rfl,x,u⟩;refine⟨rfl,by simp,by simp,rfl,Tz (xs:=l) (emb:=D.int) (λi g=>g=[some (.bor<|.lst<|l.map D.int),some (.own ((XF<|l.take i).map tD)),none]) rfl ?_ ?_⟩
  ·rintro i s g rfl
   have o:(XF<|l.take i).length<=1024:=by
    rw[DR,Qs];exact JG (j:=10) (by decide) (by lia)
   have p:∀f∈XF (l.take i),f.length<=10:=λf r=>by
    have:=(Sd _ f r).length_le
    rw[Qs]at this;lia
   rw[Qp s,NH];generalize XF (l.take i)=S at o p ⊢;generalize l[i]=h;refine K8 (xs:=S) (emb:=tD) (λf=>some (tD (f++[h]))) (by lia) (λf r=>?_) ?_
   ·refine⟨by simp,_,_,Zcz f,rfl,?_,_,rfl,?_⟩
    ·have:=p f r
     rw[WG];show f.length+1<=100000;lia
    ·unfold tD;rw[WZ];rfl
   ·rw[T7];refine⟨rfl,rfl,?_,?_⟩
    ·rw[WG,WG];lia
    ·show[_,_,_]=[_,_,_];rw[WZ,Q0];rfl
  ·rintro g rfl;rw[QK];exact u
def Zp6(o:Def K mg "without" CZ ["members","holder"])
  : Hw ζ:=by
 refine o.fz Zk2 (λg n=>(b1<|sR<|xe (To (IU (K:=K)) (by rfl) G.Zt boot_tuple<|az<|cz ["member","holder"] [none,some 1] (Bg (K:=K)<|pv 0) ⟨(gk 0),(FJ<|cn K (g ()) (pv 0)<|pv 1),(pv 0)⟩)<|Rx<|sz<|Tv (SndI.c<|BS<|Xo 0) (Kk 0) (P1<|Di (Xo 0)<|Xo 1)<|Xo 0)) (.a ?_)
 ·rintro u R X ⟨f,h,rfl,p,l⟩;refine⟨rfl,?_⟩;rw[B8];refine⟨_,rfl,K8 (s:=.sh .non) (xs:=f) (emb:=D.int) (λm=>if decide (m≠h)=true then some (.int m)else none) (by lia) (λm r=>?_) ?_⟩
  ·show if (!decide (m=h))=true then _ else _;by_cases e:m=h
   ·rw[WI e];exact Ke (by simp[e])
   ·rw[Qu e];exact Kx ⟨_,rfl,WO (WI e)⟩
  ·rw[PX (λm=>decide (m≠h))];exact⟨rfl,l⟩
def Zqf(r:Def K mg "may_lie_last" Gd ["members","holder","wishes"])
  : Ot ζ:=by
 refine r.fz Zqn (λo n=>(b1<|sR<|xn<|xe (XW (OD (K:=K) rfl) (by rfl) G.ZV boot_any<|az<|cz ["ahead","behind","holder","members"] [none,none,some 1,some 0] (N0 (K:=K)<|pv 2) ⟨(FF (K:=K) (n:=2) rfl<|NB (gk 0)<|NB (gk 1) F8),Nk,(SB (TU (S9 (K:=K)<|show _<cLine from(o ()).units0) (pv 0) (pv 2)<|Pj _)<|Sx<|TU (AX (K:=K)<|show _<cLine from Pv (o ())) (pv 1) (pv 3)<|by with_unfolding_all rfl)⟩)<|L0<|sz<|Tv (Sw<|Xo 2) (CM<|Be (Kk 0)<|Be (Kk 1) Ge) Sa<|Bs (NR (Xo 0)<|Xo 2)<|Ag (Xo 1)<|Xo 3)) (.a ?_)
 ·rintro u R X ⟨f,h,l,rfl,s,p⟩;refine⟨rfl,?_⟩;rw[B8];refine K8 (xs:=l) (emb:=prD) (λq=>some (.bl (decide (q.1=h)&&decide (q.2∈f)))) (by lia) (λq hq=>?_) ?_
  ·refine⟨rfl,?_⟩;show if true=true then(if decide (q.1=h)=true then _ else _)else(some (D.bl (decide (q.1=h)&&decide (q.2∈f)))=none);refine Kx (Xu (λg=>⟨_,.ti _ _,?_⟩) (λg=>?_))
   ·refine⟨_,rfl,?_⟩;rw[g,JU];rfl
   ·refine⟨_,rfl,?_⟩;rw[Jr.mpr g,Bool.false_and]
  ·rw[T7];refine⟨l.map λq=>decide (q.1=h)&&decide (q.2∈f),by rw[Q0];rfl,?_⟩;rw[List.any_map];exact p
def Zgt(r:Def K mg "may_lie_first" Dq ["members","holder","wishes"])
  : Ry ζ:=by
 refine r.fz Zkc (λo n=>(b1<|sR<|xn<|xe (XW (OD (K:=K) rfl) (by rfl) G.ZV boot_any<|az<|cz ["ahead","behind","holder","members"] [none,none,some 1,some 0] (N0 (K:=K)<|pv 2) ⟨(FF (K:=K) (n:=2) rfl<|NB (gk 0)<|NB (gk 1) F8),Nk,(SB (TU (S9 (K:=K)<|show _<cLine from(o ()).units0) (pv 1) (pv 2)<|Pj _)<|Sx<|TU (AX (K:=K)<|show _<cLine from Pv (o ())) (pv 0) (pv 3)<|by with_unfolding_all rfl)⟩)<|L0<|sz<|Tv (Sw<|Xo 2) (CM<|Be (Kk 0)<|Be (Kk 1) Ge) Sa<|Bs (NR (Xo 1)<|Xo 2)<|Ag (Xo 0)<|Xo 3)) (.a ?_)
 ·rintro u R X ⟨f,h,l,rfl,s,p⟩;refine⟨rfl,?_⟩;rw[B8];refine K8 (xs:=l) (emb:=prD) (λq=>some (.bl (decide (q.2=h)&&decide (q.1∈f)))) (by lia) (λq hq=>?_) ?_
  ·refine⟨rfl,?_⟩;show if true=true then(if decide (q.2=h)=true then _ else _)else(some (D.bl (decide (q.2=h)&&decide (q.1∈f)))=none);refine Kx (Xu (λg=>⟨_,.ti _ _,?_⟩) (λg=>?_))
   ·refine⟨_,rfl,?_⟩;rw[g,JU];rfl
   ·refine⟨_,rfl,?_⟩;rw[Jr.mpr g,Bool.false_and]
  ·rw[T7];refine⟨l.map λq=>decide (q.2=h)&&decide (q.1∈f),by rw[Q0];rfl,?_⟩;rw[List.any_map];exact p
def Zht(h:XD K (XB K (X4 ζ) "strips") "strips" "Village.strips" CC ["self"])
  : Lf ζ:=by
 refine h.fz Zeq (λo n=>(b1<|sR<|xe (To (BN (K:=K)) (by rfl) G.Zi boot_list<|az<|jx K (PM (pv 0) rfl)<|P2 Po X5)<|Ff<|sz<|Kc (Sl 1 G.Za G.Ze Cj<|Xo 0)<|Pp Xx)) (.a ?_)
 ·rintro p R X ⟨bk,fs,l,f,rfl,g⟩;refine⟨rfl,?_⟩;exact⟨rfl,rfl,_,rfl,_,F3 plD fs f,T5 _,g⟩
def Zid(l:XD K (XB K (X4 ζ) "wishes") "wishes" "Village.wishes" DU ["self"])
  : GP ζ:=by
 refine l.fz Zl7 (λo n=>(b1<|sR<|xe (To (BN (K:=K)) (by rfl) G.Zi boot_list<|az<|jx K (PM (pv 0) rfl)<|P2 Po X5)<|Ff<|sz<|Kc (Sl 2 G.Za G.Zf EO<|Xo 0)<|Pp Xx)) (.a ?_)
 ·rintro p R X ⟨bk,fs,g,f,rfl,h⟩;refine⟨rfl,?_⟩;exact⟨rfl,rfl,_,rfl,_,F3 plD g f,T5 _,h⟩
def Zmy(g:XD K (XB K (X4 ζ) "deeds") "deeds" "Village.deeds" Cg ["self"])
  : GM ζ:=by
 refine g.fz Zj4 (λl n=>(b1<|sR<|xe (To (BN (K:=K)) (by rfl) G.Zi boot_list<|az<|PM (pv 0) rfl)<|Ff<|sz<|Sl 0 G.Za G.Zc Ss<|Xo 0)) (.a ?_)
 ·rintro o R X ⟨bk,fs,h,rfl,f⟩;refine⟨rfl,?_⟩;exact⟨rfl,rfl,_,rfl,Il _,f⟩
def Znl(l:XD K (XB K (X4 ζ) "check_room") "check_room" "Village.check_room" D7 ["self"])
  : Oi ζ:=by
 refine l.fy Zdk (λp n=>(b1<|sI (tc NT N8 (xl G.len<|xe (PM (pv 0) rfl)<|Sl 0 G.Za G.Zc Ss<|Xo 0)<|xe (ExcR.P0 G.Zu) Xx) (b1<|sQ G.ZJ G.ZI ExcR.KI<|a1<|xe (ExcR.NN<|ExcR.PL<|ExcR.NU (ExcR.P0 G.Zu)<|ExcR.PL ExcR.NC)<|NP<|PQ<|NY Xx<|PQ NW) b0)) (.a ?_)
 ·rintro s R X ⟨bk,fs,o,rfl,f⟩;refine⟨rfl,?_⟩;have r:(bk.map dD).length=bk.length:=WG ..;unfold NL at f;refine⟨rfl,rfl,_,rfl,Xu (λg=>?_) (λg=>?_)⟩
  ·have h:(100:Int)<=((bk.map dD).length:Int):=WN g;rw[WO (by lia)]at f;exact⟨by decide,by decide,by decide,by decide,by decide,by simp,f⟩
  ·have h:¬(100:Int)<=((bk.map dD).length:Int):=λz=>g (WI z);rw[WM (by lia)]at f;exact f
def Zqi(A:XD K (XB K (X4 ζ) "enter") "enter" "Village.enter" Ct ["self","deed","field","wishes"])
  : GR ζ:=by
 refine A.fz Zgz (λC n=>(bc (sF 1<|se (Pn<|BK Qw VB VC Bk (PM (pv 0) rfl)<|az<|pv 1)<|NI<|E7 0 0 G.Za G.Zc Ss<|Xo 1)<|bc (sF 2<|se (Pn<|BK Qw VB VC Bk (PM (pv 0) rfl)<|az<|pv 2)<|NI<|E7 0 1 G.Za G.Ze Cj<|Xo 2)<|bc (sF 3<|se (Pn<|BK Qw VB VC Bk (PM (pv 0) rfl)<|az<|pv 3)<|NI<|E7 0 2 G.Za G.Zf EO<|Xo 3)<|b1<|se (Kp<|ln K G.len<|PM (pv 0) rfl)<|SK<|Sg<|sz<|Sl 0 G.Za G.Zc Ss<|Xo 0)) (.c ?_)
 ·rintro o B R X ⟨x,b1,z,y,bk,fs,g,q,f,w,rfl,rfl,J,H,E,r⟩;refine⟨rfl,?_⟩;have p:(bk.map dD).length<10000000:=by rw[WG];lia
  have l:(fs.map plD).length<10000000:=by rw[WG];lia
  have h:(g.map plD).length<10000000:=by rw[WG];lia
  refine⟨rfl,rfl,_,rfl,p,rfl,rfl,_,rfl,l,rfl,rfl,_,rfl,h,rfl,rfl,_,rfl,_,rfl,⟨rfl,by simp⟩,?_⟩;have e:(((bk.map dD++[dD q]).length:Nat):Int)=(bk.length:Int)+1:=by rw[WS,WG];simp
  show R (.ins x _ vF [(b1,bk.map dD++[dD q]),(z,fs.map plD++[plD f]),(y,g.map plD++[plD w])]) (.int (((bk.map dD++[dD q]).length:Nat):Int));rw[e];have v:bk.map dD++[dD q]=(bk++[q]).map dD:=by rw[WZ];rfl
  have u:fs.map plD++[plD f]=(fs++[f]).map plD:=by rw[WZ];rfl
  have s:g.map plD++[plD w]=(g++[w]).map plD:=by rw[WZ];rfl
  rw[v,u,s];exact r
def Zn5(H:XD K (XB K (X4 ζ) "take_back") "take_back" "Village.take_back" DE ["self"])
  : Lj ζ:=by
 refine H.fy Zft (λL n=>(bc (sI (tN<|tt<|xe (PM (pv 0) rfl)<|Sl 0 G.Za G.Zc Ss<|Xo 0) (b1<|sQ G.Zg G.Zm ExcR.KI<|a1 xs) b0)<|bc (se (Pn<|SE Qw Vz V0 BD<|PM (pv 0) rfl)<|NI<|EC 0 1 G.Za G.Ze Cj)<|bc (se (Pn<|SE Qw Vz V0 BD<|PM (pv 0) rfl)<|NI<|EC 0 2 G.Za G.Zf EO)<|b1<|se (Kp<|SE Qw Vz V0 BD<|PM (pv 0) rfl)<|Tr<|EC 0 0 G.Za G.Zc Ss)) (.c ?_)
 ·rintro o J R X ⟨x,b1,r,p,bk,fs,f,rfl,rfl,N,M,y,A⟩;refine⟨rfl,?_⟩;have l:(bk.map dD).isEmpty=decide (bk=[]):=by cases bk<;>simp
  refine⟨rfl,rfl,_,rfl,?_⟩;show if (!(!(bk.map dD).isEmpty))=true then _ else _;rw[Bool.not_not,l];refine Xu (λg=>⟨by simp,_,rfl,⟨rfl,by simp⟩,y (WN g)⟩) (λg=>?_);have h:bk≠[]:=λz=>g (WI z);obtain⟨b0,q,rfl⟩:∃b0 q,bk=b0++[q]:=⟨_,_,(Vs h).symm⟩;have v:(b0++[q]).length=b0.length+1:=by simp
  have f1:(fs.map plD)[(fs.map plD).length-1]?=some (plD (fs[fs.length-1]'(by lia))):=by
   rw[WG,WT,WH (by lia)];rfl
  have s:(f.map plD)[(f.map plD).length-1]?=some (plD (f[f.length-1]'(by lia))):=by
   rw[WG,WT,WH (by lia)];rfl
  have u:((b0++[q]).map dD)[((b0++[q]).map dD).length-1]?=some (dD q):=by
   rw[WG,WT,v,Vv,Qq (WQ _),JX];rfl
  refine⟨rfl,rfl,_,_,rfl,f1,rfl,rfl,_,_,rfl,s,rfl,rfl,_,_,rfl,u,_,rfl,⟨rfl,by simp⟩,?_⟩;have E:((b0++[q]).map dD).dropLast=b0.map dD:=by rw[WZ];exact QC
  have C:(fs.map plD).dropLast=fs.dropLast.map plD:=List.map_dropLast.symm;have B:(f.map plD).dropLast=f.dropLast.map plD:=List.map_dropLast.symm
  have:=A b0 q rfl
  rw[show vO (ExcR.Xs mg "Village") x b1 r p b0 fs.dropLast f.dropLast=.ins x (ExcR.Xs mg "Village") vF [(b1,((b0++[q]).map dD).dropLast),(r,(fs.map plD).dropLast),(p,(f.map plD).dropLast)] by rw[E,C,B]]at this;exact this
def Ze6(p:Def K mg "_law_at" AA ["_law_script","_law_k"])
  : Hd ζ:=by
 refine p.fz Zg2 (λr n=>(bc (sI (tc Pk Pi (xv 1)<|xl G.len<|xv 0) (b1<|sR<|xx (xv 0)<|xv 1) b0)<|b1<|sR xi)) (.a ?_)
 ·rintro s R X ⟨h,k,rfl,l,f⟩;refine⟨rfl,?_⟩;refine Xu (λg=>?_) (λg=>?_)
  ·have o:k<(h.length:Int):=WN g;have e:=WH (show k.toNat<h.length by omega);rw[WR,e]at f;exact⟨_,B5 l e,f⟩
  ·have o:¬k<(h.length:Int):=λz=>g (WI z);rw[WR,Vg (by omega)]at f;exact f
def Zpy(g:Def K mg "_law_whole" AK ["_law_found"])
  : Mx ζ:=by
 refine g.fz Zno (λh n=>(b1<|sR<|xe (SB (XW (TM (K:=K)) (by rfl) G.Zb QP<|bz (pv 0)<|T4 (v:=.ty "int") rfl G.ZW boot_int rfl)<|Sx<|OF<|XW (TM (K:=K)) (by rfl) G.Zb QP<|bz (pv 0)<|T4 (v:=.ty "bool") rfl G.ZY boot_bool rfl)<|Bs (TR<|tz (Xo 0) TC)<|RJ<|TR<|tz (Xo 0) TC)) (.a ?_)
 ·rintro l R X ⟨i,rfl,f⟩;refine⟨rfl,?_⟩;exact⟨_,.same _,_,.ib,f⟩
def Zgh(g:Def K mg "_law_mix" En ["_law_cell","_law_place_here"])
  : Ml ζ:=by
 refine g.fz Zk0 (λh n=>(bc (sS 2 n<|xo XH XI (xo N1 Nn (xo XJ XG (xo XJ XG (xo XH XI (xv 0) xi)<|xo N1 Nn xi<|xv 1) xi) xi) xi)<|b1<|sR<|xo XH XI (xo N1 Nn (xo XJ XG (xo XJ XG (xv 2)<|xo N1 Nn xi<|xv 1) xi) xi) xi)) (.a ?_)
 ·rintro l R X ⟨c,p,rfl,f⟩;refine⟨rfl,?_⟩;unfold mixP at f;exact⟨(by show(0:Int)<2147483647;decide),.inl ⟨by decide,by decide⟩,.inr ⟨by decide,by decide⟩,(by show(0:Int)<2147483647;decide),.inl ⟨by decide,by decide⟩,.inr ⟨by decide,by decide⟩,(by show(0:Int)<2147483647;decide),f⟩
def Zkf(z:Def K mg "_law_menu" Cz ["_law_cell"])
  : MX ζ:=by
 refine z.fz Zgf (λA n=>(bc (sS 1 n<|xx (xL<|ac xi<|ac xi<|ac xi<|ac xi<|ac xi a0)<|xo XH XI (xo Ko Kq (xv 0) xi) xi)<|bc (sS 2 n<|xx (xL<|ac xi<|ac xi<|ac xi<|ac xi<|ac xi a0)<|xo XH XI (xo Ko Kq (xv 0) xi) xi)<|b1<|sF 2<|sF 1<|sR<|xL<|ac (xo XJ XG xi<|xo XH XI (xv 0) xi)<|ac (xx (xL<|ac xi<|ac xi<|ac xi<|ac xi a0)<|xo XH XI (xo Ko Kq (xv 0) xi) xi)<|ac (xo XH XI (xo Ko Kq (xv 0) xi) xi)<|ac (xv 1)<|ac (xv 2) a0)) (.a ?_)
 ·rintro B R X ⟨c,rfl,u⟩;refine⟨rfl,?_⟩;have p:0<=c / 10 % 4/\c / 10 % 4<4:=by lia
  have o:0<=c / 400 % 5/\c / 400 % 5<5:=by lia
  have s:∀v∈([1,3,7,9]:Ye),1<=v/\v<=9/\(v=1\/v=3\/v=7\/v=9):=by decide
  have g:∀i:Int,0<=i->i<5->∃d e:Int,atI [D.int 1000,.int 3,.int 1,.int 2,.int 3] i=some (.int d)/\atI [D.int 1,.int 1,.int 1,.int 1,.int 998] i=some (.int e)/\(1<=d/\d<=1000)/\1<=e/\e+d<=1001:=λi a b=>by
   have:i=0\/i=1\/i=2\/i=3\/i=4:=by lia
   rcases this with rfl|rfl|rfl|rfl|rfl
   ·exact⟨1000,1,rfl,rfl,by decide,by decide,by decide⟩
   ·exact⟨3,1,rfl,rfl,by decide,by decide,by decide⟩
   ·exact⟨1,1,rfl,rfl,by decide,by decide,by decide⟩
   ·exact⟨2,1,rfl,rfl,by decide,by decide,by decide⟩
   ·exact⟨3,998,rfl,rfl,by decide,by decide,by decide⟩
  obtain⟨d,e,y,x,hd,r⟩:=g _ o.1 o.2;have h:=s _ (Qg (l:=([1,3,7,9]:Ye)) (n:=(c / 10 % 4).toNat)<|by show(c / 10 % 4).toNat<4;lia);refine⟨by simp,⟨by decide,by decide⟩,(by show(0:Int)<5;decide),_,y,by simp,⟨by decide,by decide⟩,(by show(0:Int)<5;decide),_,x,(by show(0:Int)<10;decide),by simp,⟨by decide,by decide⟩,(by show(0:Int)<4;decide),_,Pr (f:=D.int) (xs:=[1,3,7,9]) p.1 p.2,⟨by decide,by decide⟩,(by show(0:Int)<10;decide),by simp,?_⟩;exact u [_,_,_,_,_] ⟨_,_,_,_,_,rfl,by lia,h,by lia,hd,r⟩
def Zk8(h:Def K mg "_law_holder" DT ["_law_menu_here","_law_k"])
  : O6 ζ:=by
 refine h.fz Zda (λl n=>(b1<|sR<|xo XJ XG xi<|xo XH XI (xo XJ XG (xo N1 Nn (xv 1)<|xx (xv 0) xi)<|xx (xv 0) xi) xi)) (.a ?_)
 ·rintro u R X ⟨m,k,rfl,g,f⟩;refine⟨rfl,?_⟩;obtain⟨a,b,c,d,e,rfl,s,r,p,hd,o⟩:=g;exact⟨_,rfl,.inr ⟨by lia,by lia⟩,_,rfl,(by show(0:Int)<10;decide),f _ (by lia) (by lia) rfl⟩
def Za1(o:Def K mg "_law_present" Ej ["_law_strips"])
  : RT ζ:=by
 refine o.fz Zky (λh n=>(bc (sS 1 n<|xC ["_law_strip"] [none] (jL<|xv 0) (gN 0) f0<|xx (xv 0) xi)<|b1<|sR<|xC ["_law_holder_here","_law_owners"] [none,some 1] (jI<|iR G.Zd<|a2 xi xi) (gN 0) (f1<|ti h (xv 0)<|xv 1)<|xv 0)) (.a ?_)
 ·rintro s R X ⟨f,rfl,p,l⟩;refine⟨rfl,?_⟩;refine K8 (xs:=f) (emb:=prD) (λq=>some (.int q.1)) (by lia) (λq hq=>⟨_,rfl,_,rfl,rfl⟩) ?_;rw[T7 (λq:Int×Int=>D.int q.1),show f.map (λq:Int×Int=>D.int q.1)=(f.map (·.1)).map D.int by rw[Q0];rfl];refine⟨⟨by decide,by decide,by decide,by decide⟩,E3 (n:=10) (λi=>if decide ((1:Int)+(i:Int)∈f.map (·.1))=true then some (.int (1+(i:Int)))else none) (by decide) (λi r=>?_) ?_⟩
  ·exact⟨_,.li _ _,Xu (λg=>⟨_,rfl,WO g⟩) (λg=>WM g)⟩
  rw[PX (λi:Nat=>decide ((1:Int)+(i:Int)∈f.map (·.1)))]
  have e:((List.range 10).filter λi:Nat=>decide ((1:Int)+(i:Int)∈f.map (·.1))).map (λi:Nat=>D.int (1+(i:Int)))=(Xy f).map D.int:=by
   unfold Xy;rw[Zd4,List.filter_map,Q0];rfl
  rw[e];exact l
def Zar(T:Def K mg "_law_price" Cs ["_law_strips","_law_order"])
  : RN ζ:=by
 refine T.fz Zgp (λY n=>(bc (sC 2 ["_law_strip","_law_order"] [none,some 1] n (jL<|xv 0) (gN 0) f0<|xe (Es (K:=K) Qw Jl PySem.F.type_list_index (RB (K:=K)) (pv 1)<|az<|jx K (pv 0) X5)<|R8 (Xo 1)<|sz<|Kc (Xo 0) Xx)<|bc (sS 3 n xi)<|bc (sO [4,5] Ql (ir G.Zd<|a1<|xl G.len<|xv 0) (gN 4)<|b1<|sO [5] Ql (ir G.Zd<|a1<|xv 4) (gN 5)<|b1<|sI (tc KF KE (xx (xv 2)<|xv 5)<|xx (xv 2)<|xv 4) (b1<|sS 3 n<|xo XJ XG (xv 3)<|xo N1 Nn (xx (xx (xv 0)<|xv 5) xi)<|xx (xx (xv 0)<|xv 4) xi) b0)<|b1<|sV 3)) (.a ?_)
 ·rintro ds R X ⟨h,os,rfl,C,U,u,M⟩;refine⟨rfl,?_⟩;have J:(h.map prD).length=h.length:=WG ..;refine K8 (xs:=h) (emb:=prD) (λq=>some (.int (os.idxOf q.1:Nat))) (by lia) (λq hq=>⟨⟨_,rfl⟩,_,rfl,os,rfl,u q hq,_,rfl,rfl⟩) ?_;rw[T7 (λq:Int×Int=>D.int (os.idxOf q.1:Nat)),show h.map (λq:Int×Int=>D.int (os.idxOf q.1:Nat))=(h.map λq:Int×Int=>((os.idxOf q.1:Nat):Int)).map D.int by rw[Q0];rfl];generalize y:(h.map λq:Int×Int=>((os.idxOf q.1:Nat):Int))=s
  have A:∀(j:Nat) (r:j<h.length),atI (s.map D.int) (0+(j:Int))=some (.int (os.idxOf h[j].1:Nat)):=λj r=>by
   rw[show(0:Int)+(j:Int)=(j:Int) by lia,←y];exact Tp (f:=D.int) (Th<|by rw[WT,WH r];rfl)
  have B:∀(j:Nat) (r:j<h.length),atI (h.map prD) (0+(j:Int))=some (prD h[j]):=λj r=>by
   rw[show(0:Int)+(j:Int)=(j:Int) by lia];exact Tp (f:=prD) (Th<|WH r)
  refine⟨⟨by lia,by lia⟩,PZ (λk l=>l=[some (.bor<|.lst<|h.map prD),some (.bor<|.lst<|os.map D.int),some (.own<|s.map D.int),some (.sh<|.int<|Tg h os k),none,none]) rfl ?_ ?_⟩
  ·rintro k l L rfl
   have o:k<h.length:=by
    have:k<(((h.map prD).length:Nat):Int).toNat:=L
    lia
   have v:h.getD k (0,0)=h[k]:=by rw[WR,WH o];rfl
   have Q:Tg h os (k+1)=Tg h os k+rsM h os h[k].1 k*h[k].2:=by simp only[Tg];rw[v]
   have E:=C h[k] (Qg o);refine⟨⟨by lia,by lia⟩,PZ (λj l=>l=[some (.bor<|.lst<|h.map prD),some (.bor<|.lst<|os.map D.int),some (.own<|s.map D.int),some (.sh<|.int (Tg h os k+rsM h os h[k].1 j*h[k].2)),some (.sh<|.int (0+(k:Int))),none]) ?_ ?_ ?_⟩
   ·rw[show rsM h os h[k].1 0=0 from rfl,Int.zero_mul,Jf]
    rfl
   ·rintro j l r rfl
    have p:j<h.length:=by
     have:j<((0:Int)+(k:Int)).toNat:=r
     lia
    have x:h.getD j (0,0)=h[j]:=by rw[WR,WH p];rfl
    have H:=C h[j] (Qg p);have step:rsM h os h[k].1 (j+1)=rsM h os h[k].1 j+(if os.idxOf h[k].1<os.idxOf h[j].1 then h[j].2 else 0):=by simp only[rsM];rw[x]
    refine⟨_,A j p,_,A k o,Xu (λg=>?_) (λg=>?_)⟩
    ·have N:((os.idxOf h[k].1:Nat):Int)<((os.idxOf h[j].1:Nat):Int):=WN g;refine⟨_,B j p,_,rfl,_,B k o,_,rfl,.inl ⟨by show -(2 ^ 64)<h[j].2;lia,by show h[j].2<2 ^ 64;lia⟩,?_⟩;rw[step,WO (by lia),Int.add_mul,←Int.add_assoc];rfl
    ·have N:¬((os.idxOf h[k].1:Nat):Int)<((os.idxOf h[j].1:Nat):Int):=λz=>g (WI z);rw[step,WM (by lia),Jf];rfl
   ·rintro l rfl;rw[show((0:Int)+(k:Int)).toNat=k by lia,←Q];rfl
  ·rintro l rfl;rw[show(((h.map prD).length:Nat):Int).toNat=h.length by lia];exact M
def Zfa(N:Def K mg "_law_field_step" EV ["_law_strips","_law_deed_here"])
  : Hu ζ:=by
 refine N.fz Zb6 (λB n=>(bc (sS 2 n<|xx (xv 1) xi)<|bc (sI (tp<|wo (tc Pk Pi (xv 2) xi)<|wO<|tc KF KE (xv 2)<|xo Kd Kb (xl G.len<|xv 0)<|xe (To Zbq (by rfl) G.ZW boot_int<|az<|TU (S9 (K:=K)<|show _<cLine from(B ()).units0) (jx K (pv 1) X5) NS<|Pj _)<|Zd7<|sz<|NR (Kc (Xo 1) Xx) NK) (b1<|sF 0<|sR<|xL<|a2 xi<|xv 0) b0)<|bc (sS 3 n<|xx (xx (xv 0)<|xo Kd Kb (xv 2) xi) xi)<|bc (sS 4 n<|xx (xx (xv 0)<|xo Kd Kb (xv 2) xi) xi)<|bc (sI (tq B (xx (xv 1) xi) xs) (bc (sI (tp<|wo (tc Pk Pi (xx (xv 1) xi) xi)<|wO<|tc KF KE (xx (xv 1) xi) xi) (b1<|sF 0<|sR<|xL<|a2 xi<|xv 0) b0)<|bc (sI (tq B (xx (xv 1) xi)<|xv 3) (b1<|sF 0<|sR<|xL<|a2 xi<|xv 0) b0)<|b1<|sR<|xL<|a2 xi<|xo Ky Kw (xo Ky Kw (xp (xv 0) o0<|o1<|xo Kd Kb (xv 2) xi)<|xL<|a1<|xt<|a2 (xx (xv 1) xi)<|xv 4)<|xp (xv 0) (o1<|xv 2) o0) b0)<|bc (sI (tq B (xx (xv 1) xi) xs) (bc (sI (tp<|wo (tc Pk Pi (xx (xv 1) xi) xi)<|wO<|tc NT N8 (xx (xv 1) xi)<|xv 4) (b1<|sF 0<|sR<|xL<|a2 xi<|xv 0) b0)<|bc (sI (tq B (xl G.len<|xv 0) xi) (b1<|sF 0<|sR<|xL<|a2 xi<|xv 0) b0)<|bc (sS 5 n<|xL<|a2 (xt<|a2 (xv 3)<|xx (xv 1) xi)<|xt<|a2 (xv 3)<|xo Kd Kb (xv 4)<|xx (xv 1) xi)<|b1<|sR<|xL<|a2 xi<|xo Ky Kw (xo Ky Kw (xp (xv 0) o0<|o1<|xo Kd Kb (xv 2) xi)<|xv 5)<|xp (xv 0) (o1<|xv 2) o0) b0)<|bc (sI (tn B (xx (xx (xv 0)<|xv 2) xi)<|xv 3) (b1<|sF 0<|sR<|xL<|a2 xi<|xv 0) b0)<|bc (sI (tc KF KE (xo XJ XG (xv 4)<|xx (xx (xv 0)<|xv 2) xi) xi) (b1<|sF 0<|sR<|xL<|a2 xi<|xv 0) b0)<|b1<|sR<|xL<|a2 xi<|xo Ky Kw (xo Ky Kw (xp (xv 0) o0<|o1<|xo Kd Kb (xv 2) xi)<|xL<|a1<|xt<|a2 (xv 3)<|xo XJ XG (xv 4)<|xx (xx (xv 0)<|xv 2) xi)<|xp (xv 0) (o1<|xo XJ XG (xv 2) xi) o0)) (.b ?_)
 ·rintro U R X ⟨f,x,rfl,hx,Q,l⟩;refine⟨rfl,?_⟩;have T:(f.map prD).length=f.length:=WG ..;have A:∀p:Int,(cutD (f.map prD) none<|some (p-1)).length<=1000:=λp=>by have:=(TB (f.map prD) none<|some (p-1)).length_le;rw[WG]at this;lia
  have E:∀p:Int,(cutD (f.map prD) (some p) none).length<=1000:=λp=>by have:=(TB (f.map prD) (some p) none).length_le;rw[WG]at this;lia
  cases x with
  |wish a b=>cases hx
  |drop a b=>cases hx
  |sell p h=>
   have l:R (.own [.int (codeN<|KD f p h),plD (if KD f p h=none then TZ f p h else f)]):=l
   have o:∀c:Str,KD f p h=some c->R (.own [.int (codeN<|some c),plD f]):=λc e=>by
    rw[e,WM (by intro z;cases z)]at l;exact l
   unfold KD at o l
   have one:(p<1\/(f.length:Int)<p)->R (.own [.int 1,plD f]):=λz=>by
    rw[←D2];exact o _ (WO z)
   refine⟨_,rfl,Xu (λg=>Kx ?_) (λg=>⟨_,rfl,Xu (λv=>?_) (λv=>?_)⟩)⟩
   ·exact⟨by simp,one (.inl<|WN g)⟩
   ·have r:(((f.map prD).length:Nat):Int)-0<p:=WN v;exact⟨by simp,one (.inr<|by lia)⟩
   ·have J:¬p<1:=λz=>g (WI z);have H:¬(((f.map prD).length:Nat):Int)-0<p:=λz=>v (WI z);rw[WM (by lia)]at o l;have a1:=TY (ps:=f) (p:=p) (by lia) (by lia);refine⟨_,a1,_,rfl,_,a1,_,rfl,_,rfl,?_⟩;refine⟨_,rfl,Xu (λs=>Kx ?_) (λs=>⟨_,rfl,Xu (λu=>?_) (λu=>?_)⟩)⟩
    ·have r:h<1:=WN s
     have:=o _ (WO<|by lia)
     rw[Fs]at this;exact⟨by simp,this⟩
    ·have r:10<h:=WN u
     have:=o _ (WO<|by lia)
     rw[Fs]at this;exact⟨by simp,this⟩
    ·have M:¬h<1:=λz=>s (WI z);have L:¬10<h:=λz=>u (WI z);rw[WM (Vb.mpr ⟨by lia,by lia⟩)]at o l;refine⟨_,rfl,Xu (λy=>?_) (λy=>?_)⟩
     ·have r:h=(X1 f p).1:=WN y
      have:=o _ (WO r.symm)
      rw[Gq]at this;exact⟨by simp,this⟩
     ·have r:¬h=(X1 f p).1:=λz=>y (WI z);rw[WM (λz=>r z.symm),WO rfl]at l;have e:=MS (ps:=f) (p:=p) (x:=(h,(X1 f p).2)) (by lia) (by lia);refine⟨rfl,_,rfl,by simp,by simp,rfl,rfl,WV (Qo (A p)<|WQ 1) (by decide),rfl,rfl,rfl,WV (Qo (by rw[WS];exact Qo (A p) (WQ 1))<|E p) (by decide),by simp,?_⟩;have C:plD (TZ f p h)=.lst (cutD (f.map prD) none (some (p-1))++[prD (h,(X1 f p).2)]++cutD (f.map prD) (some p) none):=Q4 D.lst e.symm;rw[C]at l;exact l
  |part p w=>
   have l:R (.own [.int (codeN<|Ku f p w),plD (if Ku f p w=none then PR f p w else f)]):=l
   have o:∀c:Str,Ku f p w=some c->R (.own [.int (codeN<|some c),plD f]):=λc e=>by
    rw[e,WM (by intro z;cases z)]at l;exact l
   unfold Ku at o l
   have one:(p<1\/(f.length:Int)<p)->R (.own [.int 1,plD f]):=λz=>by
    rw[←D2];exact o _ (WO z)
   refine⟨_,rfl,Xu (λg=>Kx ?_) (λg=>⟨_,rfl,Xu (λv=>?_) (λv=>?_)⟩)⟩
   ·exact⟨by simp,one (.inl<|WN g)⟩
   ·have r:(((f.map prD).length:Nat):Int)-0<p:=WN v;exact⟨by simp,one (.inr<|by lia)⟩
   ·have J:¬p<1:=λz=>g (WI z);have H:¬(((f.map prD).length:Nat):Int)-0<p:=λz=>v (WI z);rw[WM (by lia)]at o l;have a1:=TY (ps:=f) (p:=p) (by lia) (by lia);refine⟨_,a1,_,rfl,_,a1,_,rfl,_,rfl,_,rfl,?_⟩;refine⟨_,rfl,Xu (λs=>Kx ?_) (λs=>⟨_,rfl,Xu (λu=>?_) (λu=>?_)⟩)⟩
    ·have:=o _ (WO<|.inl<|WN s)
     rw[AW]at this;exact⟨by simp,this⟩
    ·have:=o _ (WO<|.inr<|WN u)
     rw[AW]at this;exact⟨by simp,this⟩
    ·have M:¬w<1:=λz=>s (WI z);have L:¬(X1 f p).2<=w:=λz=>u (WI z);rw[WM (by lia)]at o l;refine Xu (λy=>?_) (λy=>?_)
     ·have r:(((f.map prD).length:Nat):Int)=40:=WN y
      have:=o _ (WO<|by lia)
      rw[Io]at this;exact⟨by simp,this⟩
     ·have r:¬(((f.map prD).length:Nat):Int)=40:=λz=>y (WI z);rw[WM (by lia),WO rfl]at l;refine⟨_,rfl,by simp,_,rfl,by simp,by simp,?_⟩;refine⟨rfl,rfl,rfl,WV (Qo (A p)<|WQ 2) (by decide),rfl,rfl,rfl,WV (Qo (by rw[WS];exact Qo (A p) (WQ 2))<|E p) (by decide),by simp,?_⟩;have C:plD (PR f p w)=.lst (cutD (f.map prD) none (some (p-1))++[prD ((X1 f p).1,w),prD ((X1 f p).1,(X1 f p).2-w)]++cutD (f.map prD) (some p) none):=Q4 D.lst (Ip<|by lia).symm;rw[C]at l;exact l
  |unite p=>
   have l:R (.own [.int (codeN<|Ki f p),plD (if Ki f p=none then PJ f p else f)]):=l
   have o:∀c:Str,Ki f p=some c->R (.own [.int (codeN<|some c),plD f]):=λc e=>by
    rw[e,WM (by intro z;cases z)]at l;exact l
   unfold Ki at o l
   have one:(p<1\/(f.length:Int)<=p)->R (.own [.int 1,plD f]):=λz=>by
    rw[←D2];exact o _ (WO z)
   refine⟨_,rfl,Xu (λg=>Kx ?_) (λg=>⟨_,rfl,Xu (λv=>?_) (λv=>?_)⟩)⟩
   ·exact⟨by simp,one (.inl<|WN g)⟩
   ·have r:(((f.map prD).length:Nat):Int)-1<p:=WN v;exact⟨by simp,one (.inr<|by lia)⟩
   ·have J:¬p<1:=λz=>g (WI z);have H:¬(((f.map prD).length:Nat):Int)-1<p:=λz=>v (WI z);rw[WM (by lia)]at o l;have a1:=TY (ps:=f) (p:=p) (by lia) (by lia);have a2:=Zmq (ps:=f) (p:=p) (by lia) (by lia);refine⟨_,a1,_,rfl,_,a1,_,rfl,_,rfl,_,rfl,?_⟩;refine⟨_,a2,_,rfl,Xu (λs=>?_) (λs=>?_)⟩
    ·have r:¬(X1 f (p+1)).1=(X1 f p).1:=λz=>by rw[WI z]at s;cases s
     have:=o _ (WO (λz=>r z.symm))
     rw[Oc]at this;exact⟨by simp,this⟩
    ·have r:(X1 f (p+1)).1=(X1 f p).1:=Qx λz=>s (by rw[Qu z];rfl);rw[WM (Vb.mpr r.symm)]at o l;refine⟨_,a2,_,rfl,Xu (λu=>?_) (λu=>?_)⟩
     ·have:=o _ (WO<|WN u)
      rw[HX]at this;exact⟨by simp,this⟩
     ·rw[WM (λz=>u (WI z)),WO rfl]at l;refine⟨rfl,_,a2,_,rfl,by simp,by simp,rfl,rfl,WV (Qo (A p)<|WQ 1) (by decide),rfl,rfl,rfl,WV (Qo (by rw[WS];exact Qo (A p) (WQ 1))<|E (p+1)) (by decide),by simp,?_⟩;have C:plD (PJ f p)=.lst (cutD (f.map prD) none (some (p-1))++[prD ((X1 f p).1,(X1 f p).2+(X1 f (p+1)).2)]++cutD (f.map prD) (some (p+1)) none):=Q4 D.lst (Ll<|by lia).symm;rw[C]at l;exact l
def Zgj(T:Def K mg "_law_wish_step" CD ["_law_wishes","_law_deed_here"])
  : OL ζ:=by
 refine T.fz Zok (λr n=>(bc (sS 2 n<|xt<|a2 (xx (xv 1) xi)<|xx (xv 1) xi)<|bc (sI (tq r (xx (xv 1) xi) xs) (bc (sI (tI r (xv 2)<|xv 0) (b1<|sF 0<|sR<|xL<|a2 xi<|xv 0) b0)<|b1<|sR<|xL<|a2 xi<|xC ["_law_one","_law_pair_here"] [none,some 2] (jL<|xv 0) (gN 0) (f1<|te (T8 (Oy (K:=K)<|show _<cLine from(r ()).units0) (pv 0) (pv 1)<|Pj _)<|P1<|My (Xo 0)<|Xo 1)<|xv 0) b0)<|bc (sI (tp<|wo (tc Pk Pi (xe (XW (Zec (K:=K) rfl) (by rfl) G.ZL boot_min<|az<|pv 2)<|Zqj<|sz<|Xo 2) xi)<|wO<|tc KF KE (xe (XW (Zha (K:=K) rfl) (by rfl) G.ZK boot_max<|az<|pv 2)<|Zjx<|sz<|Xo 2) xi) (b1<|sF 0<|sR<|xL<|a2 xi<|xv 0) b0)<|bc (sI (tq r (xx (xv 1) xi)<|xx (xv 1) xi) (b1<|sF 0<|sR<|xL<|a2 xi<|xv 0) b0)<|bc (sI (ti r (xv 2)<|xv 0) (b1<|sF 0<|sR<|xL<|a2 xi<|xv 0) b0)<|bc (sI (tq r (xl G.len<|xv 0) xi) (b1<|sF 0<|sR<|xL<|a2 xi<|xv 0) b0)<|b1<|sF 2<|sR<|xL<|a2 xi<|xo Ky Kw (xv 0)<|xL<|a1<|xv 2)) (.b ?_)
 ·rintro ds R X ⟨w,x,rfl,hx,hz,f⟩;refine⟨rfl,?_⟩;have M:(w.map prD).length=w.length:=WG ..;cases x with
  |sell p h=>cases hx
  |part p h=>cases hx
  |unite p=>cases hx
  |drop a b=>
   refine⟨_,rfl,_,rfl,by simp,_,rfl,?_⟩;show ∃c,InR (prD (a,b)) (plD w) c/\_;have f:R (.own [.int (codeN<|Kr w a b),plD (if Kr w a b=none then SU w a b else w)]):=f;refine⟨_,.lp (a,b) w,Xu (λg=>?_) (λg=>?_)⟩
   ·have o:¬(a,b)∈w:=λz=>by rw[WO rfl,WI z]at g;cases g
    have e:Kr w a b=some ("NoWish" : Str):=WM o;rw[e,LQ,WM (by intro z;cases z)]at f;exact⟨by simp,f⟩
   ·have o:(a,b)∈w:=Qx λz=>g (by rw[WO rfl,Qu z];rfl);have e:Kr w a b=none:=WO o;rw[e,WO rfl]at f;refine K8 (xs:=w) (emb:=prD) (λq=>if (!decide (q=(a,b)))=true then some (prD q)else none) (by omega) (λq hq=>?_) ?_
    ·refine⟨[q.1,q.2],[a,b],rfl,rfl,?_⟩;have e:decide ([q.1,q.2]=[a,b])=decide (q=(a,b)):=Zql q (a,b);show if (!decide ([q.1,q.2]=[a,b]))=true then _ else _;rw[e];exact Xu (λh=>⟨_,rfl,WO h⟩) (λh=>WM h)
    ·rw[PX (λq:Int×Int=>!decide (q=(a,b)))];exact⟨by simp,f⟩
  |wish a b=>
   refine⟨_,rfl,_,rfl,by simp,_,rfl,?_⟩;have f:R (.own [.int (codeN<|Kj w a b),plD (if Kj w a b=none then w++[(a,b)]else w)]):=f
   have l:∀c:Str,Kj w a b=some c->R (.own [.int (codeN<|some c),plD w]):=λc e=>by
    rw[e,WM (by intro z;cases z)]at f;exact f
   have u:¬((1<=a/\a<=10)/\(1<=b/\b<=10))->R (.own [.int 2,plD w]):=λz=>by
    rw[←Fs];refine l _ ?_;unfold Kj;by_cases s:1<=a/\a<=10
    ·rw[WM (Vb.mpr s),WO (λy=>z ⟨s,y⟩)]
    ·rw[WO s]
   have L:∀x y:Int,(if y<x then y else x)<=x/\(if y<x then y else x)<=y/\((if y<x then y else x)=x\/(if y<x then y else x)=y):=λx y=>by split<;>omega
   have J:∀x y:Int,x<=(if y>x then y else x)/\y<=(if y>x then y else x)/\((if y>x then y else x)=x\/(if y>x then y else x)=y):=λx y=>by split<;>omega
   have m1:=L a b;have m2:=J a b;refine Xu (λg=>Kx ?_) (λg=>Xu (λC=>?_) (λC=>?_))
   ·have o:(if b<a then b else a)<1:=WN g;exact⟨by simp,u (by omega)⟩
   ·have o:10<(if b>a then b else a):=WN C;exact⟨by simp,u (by omega)⟩
   ·have Y:¬(if b<a then b else a)<1:=λz=>g (WI z);have U:¬10<(if b>a then b else a):=λz=>C (WI z);have s:1<=a/\a<=10:=by omega
    have Q:1<=b/\b<=10:=by omega
    unfold Kj at l f;rw[WM (Vb.mpr s),WM (Vb.mpr Q)]at l f;refine⟨_,rfl,_,rfl,Xu (λB=>?_) (λB=>?_)⟩
    ·have:=l _ (WO<|WN B)
     rw[Zaj]at this;exact⟨by simp,this⟩
    ·have H:¬a=b:=λz=>B (WI z);rw[WM H]at l f;show ∃c,InR (prD (a,b)) (plD w) c/\_;refine⟨_,.lp (a,b) w,Xu (λA=>?_) (λA=>?_)⟩
     ·have:=l _ (WO<|WN A)
      rw[L8]at this;exact⟨by simp,this⟩
     ·have E:¬(a,b)∈w:=λz=>A (WI z);rw[WM E]at l f;refine Xu (λv=>?_) (λv=>?_)
      ·have o:(((w.map prD).length:Nat):Int)=20:=WN v
       have:=l _ (WO<|by omega)
       rw[He]at this;exact⟨by simp,this⟩
      ·have o:¬(((w.map prD).length:Nat):Int)=20:=λz=>v (WI z);rw[WM (by omega),WO rfl]at f;refine⟨by simp,rfl,rfl,WV (Qo (Vh M)<|WQ 1) (by omega),by simp,?_⟩;have N:plD (w++[(a,b)])=.lst (w.map prD++[prD (a,b)]):=Q4 D.lst WZ;rw[N]at f;exact f
def Zki(p:Def K mg "_law_odd" AN ["_law_cell","_law_good"])
  : Mq ζ:=by
 refine p.fz Zaw (λo n=>(bc (sI (tq o (xo XH XI (xv 0) xi) xi) (b1<|sR<|xx (xL<|ac xi<|ac xi<|ac (xe (P2 Po X5)<|Pp Xx)<|ac (xo Gh Eg xi xi) a0)<|xo XH XI (xo Ko Kq (xv 0) xi) xi) b0)<|b1<|sV 1)) (.a ?_)
 ·rintro r R X ⟨c,g,rfl,h⟩;refine⟨rfl,?_⟩;have l:0<=c / 7 % 4/\c / 7 % 4<4:=by lia
  refine⟨(by show(0:Int)<7;decide),Xu (λ_=>?_) (λ_=>h _)⟩;exact⟨⟨by decide,by decide,by decide⟩,by simp,⟨by decide,by decide⟩,(by show(0:Int)<4;decide),_,Pr (f:=D.int) (xs:=[0,11,-3,10 ^ (30:Int).toNat]) l.1 l.2,h _⟩
def Znp(u:Def K mg "_law_place" Ea ["_law_cell","_law_strips"])
  : ID ζ:=by
 refine u.fz Zgr (λp n=>(bc (sI (tq p (xo XH XI (xv 0) xi) xi) (b1<|sR<|xx (xL<|ac xi<|ac (xe (P2 Po X5)<|Pp Xx)<|ac (xo XJ XG (xl G.len<|xv 1) xi)<|ac (xo Gh Eg xi xi) a0)<|xo XH XI (xo Ko Kq (xv 0) xi) xi) b0)<|bc (sI (te (T8 (GO (K:=K)<|show _<cLine from(p ()).units0) (pv 1) (KG KB)<|Pj _)<|P1<|AZ (Xo 1)<|P3 X6) (b1<|sR xi) b0)<|b1<|sR<|xo XJ XG xi<|xo XH XI (xo Ko Kq (xv 0) xi)<|xl G.len<|xv 1)) (.a ?_)
 ·rintro y R X ⟨c,h,rfl,v,l⟩;refine⟨rfl,?_⟩;have r:0<=c / 11 % 4/\c / 11 % 4<4:=by lia
  have x:(h.map prD).length=h.length:=WG ..;refine⟨(by show(0:Int)<11;decide),Xu (λ_=>?_) (λ_=>?_)⟩
  ·exact⟨⟨by decide,by decide,by decide⟩,by simp,⟨by decide,by decide⟩,(by show(0:Int)<4;decide),_,Pr (f:=D.int) (xs:=[0,-1,(((h.map prD).length:Nat):Int)+1,10 ^ (30:Int).toNat]) r.1 r.2,l _⟩
  ·refine⟨by simp,?_⟩;have o:(h.map prD).isEmpty=decide (h=[]):=by cases h<;>simp
   show if (h.map prD).isEmpty=true then _ else _;rw[o];refine Xu (λ_=>l _) (λg=>?_);have s:0<h.length:=VE.mpr λz=>g (WI z);exact⟨⟨by decide,by decide⟩,(by show 0<(((h.map prD).length:Nat):Int);lia),l _⟩
def Zh6(A:Def K mg "_law_width" AV ["_law_cell","_law_strips","_law_place_here"])
  : MD ζ:=by
 refine A.fz Zmz (λu n=>(bc (sI (tp<|wo (tc Pk Pi (xv 2) xi)<|wo (tc KF KE (xv 2)<|xl G.len<|xv 1)<|wO<|tq u (xo XH XI (xv 0) xi) xi) (b1<|sR<|xx (xL<|ac xi<|ac (xe (P2 Po X5)<|Pp Xx)<|ac xi<|ac xi<|ac xi<|ac xi<|ac (xo Gh Eg xi xi) a0)<|xo XH XI (xo Ko Kq (xv 0) xi) xi) b0)<|b1<|sR<|xo XH XI (xo Ko Kq (xv 0) xi)<|xo XJ XG (xx (xx (xv 1)<|xo Kd Kb (xv 2) xi) xi) xi)) (.a ?_)
 ·rintro L R X ⟨c,ps,p,rfl,E,x,h⟩;refine⟨rfl,?_⟩;have J:(ps.map prD).length=ps.length:=WG ..;have r:0<=c / 5 % 7/\c / 5 % 7<7:=by lia
  have l:∃v:Int,atI ([0,-1,1,1000,1001,999,10 ^ (30:Int).toNat].map D.int) (c / 5 % 7)=some (.int v):=⟨_,Pr (f:=D.int) (xs:=[0,-1,1,1000,1001,999,10 ^ (30:Int).toNat]) r.1 r.2⟩;obtain⟨v,o⟩:=l;refine Xu (λg=>Kx ?_) (λg=>Xu (λs=>Kx ?_) (λs=>⟨(by show(0:Int)<5;decide),Xu (λy=>?_) (λy=>?_)⟩))
  ·exact⟨⟨by decide,by decide,by decide⟩,by simp,⟨by decide,by decide⟩,(by show(0:Int)<7;decide),_,o,h _⟩
  ·exact⟨⟨by decide,by decide,by decide⟩,by simp,⟨by decide,by decide⟩,(by show(0:Int)<7;decide),_,o,h _⟩
  ·exact⟨⟨by decide,by decide,by decide⟩,by simp,⟨by decide,by decide⟩,(by show(0:Int)<7;decide),_,o,h _⟩
  ·have C:¬p<1:=λz=>g (WI z);have B:¬(((ps.map prD).length:Nat):Int)<p:=λz=>s (WI z);have H:=x _ (Bq (ps:=ps) (p:=p) (by lia)<|by lia);exact⟨⟨by decide,by decide⟩,_,TY (by lia) (by lia),_,rfl,(by show 0<(X1 ps p).2+1;lia),h _⟩
def Zrg(y:Def K mg "check_strips" AQ ["strips"])
  : OO ζ:=by
 refine y.fy Zay (λs n=>(bc (sI (tc KF KE (xl G.len<|xv 0)<|xe (ExcR.P0 G.Zo) Xx) (b1<|sQ G.Zl G.Zk ExcR.KI<|a1<|xe (ExcR.NN<|ExcR.PL<|ExcR.NU (ExcR.P0 G.Zo)<|ExcR.PL ExcR.NC)<|NP<|PQ<|NY Xx<|PQ NW) b0)<|b1<|sF 0<|sO [1,2] ExcR.EK (iL<|xv 0) (gT 2<|gc (gN 1)<|gc (gN 2) g0)<|bc (sE<|xg Yz s ExcR.XQ<|a1<|xv 1)<|b1<|sE<|xg YM s ExcR.XQ<|a1<|xv 2)) (.a ?_)
 ·rintro C R X ⟨f,rfl,A,l⟩;refine⟨rfl,?_⟩;have B:(f.map prD).length=f.length:=WG ..;unfold Sr at l;refine Xu (λg=>?_) (λg=>?_)
  ·have v:(40:Int)<((f.map prD).length:Int):=WN g;rw[WO (by lia)]at l;exact⟨by decide,by decide,by decide,by decide,by decide,by simp,l⟩
  ·have v:¬(40:Int)<((f.map prD).length:Int):=λz=>g (WI z);rw[WM (by lia)]at l;refine⟨rfl,Tz (xs:=f) (emb:=prD) (λi o=>o=[some (.bor<|plD f),none,none]/\Nm (f.drop i)=Nm f) ⟨rfl,rfl⟩ ?_ ?_⟩
   ·rintro i u o ⟨rfl,h⟩;have x:f.drop i=f[i]::f.drop (i+1):=QN u;rw[x,Zop]at h;generalize f[i]=p at h ⊢;refine⟨rfl,p.1,rfl,?_⟩;unfold SO;by_cases c:1<=p.1/\p.1<=10
    ·rw[WM (λz=>z c)]at h;rw[WO c];refine⟨p.2,rfl,?_⟩;unfold AS;by_cases r:1<=p.2/\p.2<=1000
     ·rw[WM (λz=>z r)]at h;rw[WO r];exact⟨rfl,h⟩
     ·rw[WO r]at h;rw[WM r];rw[←h]at l;exact l
    ·rw[WO c]at h;rw[WM c];rw[←h]at l;exact l
   ·rintro o ⟨rfl,h⟩;rw[List.drop_length]at h;rw[←h]at l;exact l
def Zhu(x:Def K mg "check_order" AD ["strips","order"])
  : M3 ζ:=by
 refine x.fy Zq2 (λo n=>(b1<|sI (tn o (xe (XW (FP (K:=K) (w:=w) rfl) (by rfl) G.Zj boot_sorted<|az<|pv 1)<|Al<|sz<|Xo 1)<|xf Yu o<|a1<|xv 0) (b1<|sQ G.ZF G.ZE ExcR.KI<|a1 xs) b0)) (.a ?_)
 ·rintro y R X ⟨ps,os,rfl,s,p,r,f⟩;refine⟨rfl,os,rfl,r,λl v u=>⟨ps,rfl,s,p,_,_,rfl,rfl,?_⟩⟩;have q:=Zr2 (ps:=ps) v u;unfold Sv at f;refine Xu (λg=>?_) (λg=>?_)
  ·have h:¬l=Xy ps:=λz=>by rw[WO rfl,WI z]at g;cases g
   rw[WM (λz=>h (q.mpr z))]at f;exact⟨by simp,f⟩
  ·have h:l=Xy ps:=Qx λz=>g (by rw[WO rfl,Qu z];rfl);rw[WO (q.mp h)]at f;exact f
def Zcv(DD:Def K mg "ring_from" ED ["least","holders","wishes"])
  : Hi ζ:=by
 refine DD.fz Zmg (λU n=>(bc (sF 0<|sS 3 n<|xL<|a1<|xL<|a1<|xv 0)<|bc (sS 4 n<|xe (XW (FP (K:=K) (w:=w) rfl) (by rfl) G.Zj boot_sorted<|az<|cz ["holder","least"] [none,some 0] (N0 (K:=K)<|pv 1) ⟨(gk 0),(FJ<|T8 KF (pv 0) (pv 1)<|Pj _),(pv 0)⟩)<|Al<|sz<|Tv (Sw<|Xo 1) (Kk 0) (P1<|KE (Xo 0)<|Xo 1)<|Xo 0)<|bc (sW [5,6] Ql (tt<|xv 3)<|bc (sF 0<|sC 5 ["path","wishes","least"] [none,some 2,some 0] n (jL<|xv 3) (gN 0) (f1<|ti U (xt<|a2 (xx (xv 0)<|xe (P2 Po X5)<|Pp Xx)<|xv 2)<|xv 1)<|xv 0)<|bc (sI (tt<|xv 5) (b1<|sr<|xx (xv 5) xi) b0)<|bc (sS 3 n<|xf YT U<|a3 (xv 3) (xv 4)<|xv 2)<|bc (sS 6 n<|xC ["path"] [none] (jL<|xv 3) (gN 0) f0<|xx (xv 0)<|xe (P2 Po X5)<|Pp Xx)<|b1<|sC 4 ["holder","reached"] [none,some 6] n (jL<|xv 4) (gN 0) (f1<|tI U (xv 0)<|xv 1)<|xv 0)<|b1<|sr<|xL a0)) (.a ?_)
 ·rintro ds R X ⟨l,y,B,rfl,hnd,hz,hR⟩;refine⟨rfl,by simp,by simp,K8 (xs:=y) (emb:=D.int) (λh=>if decide (l<h)=true then some (.int h)else none) (by lia) (λh _=>Xu (λg=>⟨_,rfl,WO g⟩) (λg=>WM g)) ?_⟩;rw[OZ λh=>decide (l<h)];refine⟨y.filter λh=>decide (l<h),rfl,JR (QA _ _) (by lia),λf u J=>?_⟩;have hlt:f.Pairwise (· < ·):=Fw J (u.nodup_iff.mpr<|hnd.filter _)
  have hm:∀h,h∈f↔Gr y l h:=λh=>by
   rw[u.mem_iff,Qv,V4];exact Iff.rfl
  have M:f.length<=y.length:=by
   rw[u.length_eq];exact QA _ _
  refine Af (λE=>∃k o f,E=[some (.sh<|.int l),some (.bor<|.lst<|y.map D.int),some (.bor<|.lst<|B.map prD),some (.own<|o.map<|em l),some (.own<|f.map D.int),none,none]/\Lev y B l k o f/\o.length<=60/\f.length<=y.length/\(k+f.length<=y.length\/(o=[]/\k<=y.length+1)))
   (λγ=>2*LR 4 γ+min 1 (LR 3 γ)) ⟨0,[[]],f,rfl,Lev.start hlt hm,by simp,M,.inl (by lia)⟩ ?_
  rintro E ⟨k,o,f,rfl,L,hpl,hll,hk⟩;have emp:(!(o.map<|em l).isEmpty)=decide (o≠[]):=by cases o<;>simp
  show if (!(o.map<|em l).isEmpty)=true then _ else _;rw[emp];refine Xu (λg=>?_) (λg=>?_)
  ·have A:o≠[]:=WN g;have hk':k+f.length<=y.length:=hk.elim id λz=>absurd z.1 A;have Y:∀p∈o,p.length<=60:=λp u=>by rw[(L.way p u).1];lia
   refine K8 (xs:=o) (emb:=em l) (λp=>if decide ((X3 l p,l)∈B)=true then some (em l p)else none) (by lia) (λp u=>⟨_,Ez l p,by simp,_,.lp (X3 l p,l) B,Xu (λg=>⟨_,rfl,WO g⟩) (λg=>WM g)⟩) ?_;rw[PX λp=>decide ((X3 l p,l)∈B)];generalize ef:(o.filter λp=>decide ((X3 l p,l)∈B))=fs;have Q:(!(fs.map<|em l).isEmpty)=decide (fs≠[]):=by cases fs<;>simp
   show if (!(fs.map<|em l).isEmpty)=true then _ else _;rw[Q];refine Xu (λg2=>?_) (λg2=>?_)
   ·have C:fs≠[]:=WN g2;cases fs with
    |nil=>exact absurd rfl C
    |cons p r=>
     obtain⟨i,hi,T,e2,e3⟩:=Ii ef;have u:p∈o:=by rw[←T];exact Qg hi
     refine⟨em l p,KL _ _,hR (l::p) (L.found hi T (WN e2) λj hj hji z=>?_) (by have:=(L.way p u).1;simp;lia)⟩
     have:=e3 j hj hji
     rw[WI z]at this;cases this
   ·have C:fs=[]:=Qx λz=>g2 (WI z)
    have hn:∀p∈o,(X3 l p,l)∉B:=λp u z=>by
     have:p∈fs:=by rw[←ef];exact Qv.mpr ⟨u,WI z⟩
     rw[C]at this;cases this
    refine⟨l,o,f,B,rfl,L.srt,L.lsrt,λp u=>WV (Y p u) (by decide),by lia,λs G hlg=>?_⟩;refine K8 (xs:=s) (emb:=em l) (λp=>some (.int<|X3 l p)) (by lia) (λp _=>⟨_,Ez l p,_,rfl,rfl⟩) ?_;have T:s.filterMap (λp=>some (D.int<|X3 l p))=(s.map<|X3 l).map D.int:=by rw[VL,Q0];rfl
    rw[T];refine K8 (xs:=f) (emb:=D.int) (λh=>if decide (¬h∈s.map (X3 l))=true then some (.int h)else none) (by lia) (λh _=>⟨_,.li h _,?_⟩) ?_
    ·by_cases c:h∈s.map (X3 l)
     ·simp only[WI c];exact Ke (WM<|by simp[c])
     ·simp only[Qu c];exact Kx ⟨_,rfl,WO (by simp[c])⟩
    rw[OZ λh=>decide (¬h∈s.map (X3 l))];have L':=L.next hn G rfl
    have H:∀h∈s.map (X3 l),h∈f:=λh hh=>by
     obtain⟨q,hq,e⟩:=Qi.mp hh;obtain⟨p,x,⟨_,a⟩,rfl,_⟩:=G.mem q hq;rw[Ph]at e;rw[←e];exact a
    have N:=QA (λh=>decide (¬h∈s.map (X3 l))) f
    have v:s≠[]->(f.filter λh=>decide (¬h∈s.map (X3 l))).length<f.length:=λA=>by
     obtain⟨q,hq⟩:=List.exists_mem_of_ne_nil s A;have hm:X3 l q∈f:=H _ (JL hq);refine Nat.lt_of_le_of_ne N λz=>?_
     have:=List.filter_eq_self.mp (List.Sublist.eq_of_length (List.filter_sublist (l:=f)) z) (X3 l q) hm
     rw[V4]at this;exact this (JL hq)
    refine⟨⟨k+1,s,_,rfl,L',by lia,by lia,?_⟩,?_⟩
    ·by_cases c:s=[]
     ·exact .inr ⟨c,by lia⟩
     ·have:=v c
      exact .inl (by lia)
    ·show 2*((f.filter λh=>decide (¬h∈s.map (X3 l))).map D.int).length+min 1 (s.map<|em l).length<2*(f.map D.int).length+min 1 (o.map<|em l).length;rw[WG,WG,WG,WG]
     have:0<o.length:=VE.mpr A
     by_cases c:s=[]
     ·rw[c];rw[c]at N;simp only[List.length_nil];lia
     ·have:=v c
      lia
  ·have hpe:o=[]:=Qx λz=>g (WI z);subst hpe;exact⟨by simp,hR [] L.over (by simp)⟩
def Zqq(v:Def K mg "sold" A4 ["strips","place","holder"])
  : RV ζ:=by
 refine v.fy Zms (λo n=>(bc (sE<|xg Y7 o ExcR.XQ<|a2 (xv 0)<|xv 1)<|bc (sE<|xg Yz o ExcR.XQ<|a1<|xv 2)<|bc (sS 3 n<|xx (xv 0)<|xo Kd Kb (xv 1) xi)<|bc (sI (tq o (xx (xv 3) xi)<|xv 2) (b1<|sQ G.ZH G.ZG ExcR.KI<|a1 xs) b0)<|b1<|sF 2<|sR<|xo Ky Kw (xo Ky Kw (xp (xv 0) o0<|o1<|xo Kd Kb (xv 1) xi)<|xL<|a1<|xt<|a2 (xv 2)<|xx (xv 3) xi)<|xp (xv 0) (o1<|xv 1) o0)) (.a ?_)
 ·rintro A R X ⟨ps,p,h,rfl,y,f⟩;refine⟨rfl,?_⟩;unfold KD at f;refine⟨ps,p,rfl,?_⟩;unfold Fp;by_cases c:p<1\/(ps.length:Int)<p
  ·rw[WO c]at f ⊢;exact f
  ·rw[WM c]at f ⊢;refine⟨h,rfl,?_⟩;unfold SO;by_cases l:1<=h/\h<=10
   ·rw[WM (λz=>z l)]at f;rw[WO l];refine⟨_,TY (by lia) (by lia),?_⟩;have s:(cutD (ps.map prD) none<|some (p-1)).length<=1000:=by have:=(TB (ps.map prD) none<|some (p-1)).length_le;rw[WG]at this;lia
    have u:(cutD (ps.map prD) (some p) none).length<=1000:=by have:=(TB (ps.map prD) (some p) none).length_le;rw[WG]at this;lia
    refine⟨_,rfl,Xu (λg=>?_) (λg=>?_)⟩
    ·have r:(X1 ps p).1=h:=WN g;rw[WO r]at f;exact⟨by simp,f⟩
    ·have r:¬(X1 ps p).1=h:=λz=>g (WI z);rw[WM r]at f;refine⟨T5 _,_,rfl,by simp,by simp,rfl,rfl,WV (Qo s<|WQ 1) (by decide),T5 _,rfl,rfl,WV (Qo (by rw[WS];exact Qo s (WQ 1)) u) (by decide),?_⟩;have e:=MS (ps:=ps) (p:=p) (x:=(h,(X1 ps p).2)) (by lia) (by lia);show R (.own (cutD (ps.map prD) none (some (p-1))++[prD (h,(X1 ps p).2)]++cutD (ps.map prD) (some p) none));rw[e];exact f
   ·rw[WO l]at f;rw[WM l];exact f
def Zi3(A:Def K mg "parted" Cv ["strips","place","width"])
  : OX ζ:=by
 refine A.fy Zn1 (λx n=>(bc (sE<|xg Y7 x ExcR.XQ<|a2 (xv 0)<|xv 1)<|bc (sS 3 n<|xx (xv 0)<|xo Kd Kb (xv 1) xi)<|bc (sI (tp<|wo (tc Pk Pi (xv 2) xi)<|wO<|tc NT N8 (xv 2)<|xx (xv 3) xi) (b1<|sQ G.ZN G.ZM ExcR.KI<|a1 xs) b0)<|bc (sI (tc NT N8 (xl G.len<|xv 0)<|xe (ExcR.P0 G.Zo) Xx) (b1<|sQ G.Zl G.Zk ExcR.KI<|a1<|xe (ExcR.NN<|ExcR.PL<|ExcR.NU (ExcR.P0 G.Zo)<|ExcR.PL ExcR.NC)<|NP<|PQ<|NY Xx<|PQ NW) b0)<|b1<|sF 2<|sR<|xo Ky Kw (xo Ky Kw (xp (xv 0) o0<|o1<|xo Kd Kb (xv 1) xi)<|xL<|a2 (xt<|a2 (xx (xv 3) xi)<|xv 2)<|xt<|a2 (xx (xv 3) xi)<|xo Kd Kb (xx (xv 3) xi)<|xv 2)<|xp (xv 0) (o1<|xv 1) o0)) (.a ?_)
 ·rintro J R X ⟨h,p,w,rfl,B,f⟩;refine⟨rfl,?_⟩;have C:(h.map prD).length=h.length:=WG ..;refine⟨h,p,rfl,?_⟩;unfold Ku at f;unfold Fp;by_cases c:p<1\/(h.length:Int)<p
  ·rw[WO c]at f ⊢;exact f
  ·rw[WM c]at f ⊢;refine⟨_,TY (by lia) (by lia),?_⟩
   have E:¬(w<1\/(X1 h p).2<=w)->_:=λo=>by
    rw[WM o]at f;exact f
   by_cases o:w<1\/(X1 h p).2<=w
   ·rw[WO o]at f;refine Xu (λg=>Kx ⟨by simp,f⟩) (λg=>⟨_,rfl,Xu (λl=>⟨by simp,f⟩) (λl=>?_)⟩);have H:¬w<1:=λz=>g (WI z);have y:¬(X1 h p).2<=w:=λz=>l (WI z);lia
   ·rw[WM o]at f;refine Xu (λg=>absurd (WN g) (by lia)) (λg=>⟨_,rfl,Xu (λl=>absurd (WN l) (by lia)) (λl=>?_)⟩);refine Xu (λs=>?_) (λs=>?_)
    ·have r:(40:Int)<=((h.map prD).length:Int):=WN s;rw[WO (by lia)]at f;exact⟨by decide,by decide,by decide,by decide,by decide,by simp,f⟩
    ·have r:¬(40:Int)<=((h.map prD).length:Int):=λz=>s (WI z);rw[WM (by lia)]at f;have u:(cutD (h.map prD) none<|some (p-1)).length<=1000:=by have:=(TB (h.map prD) none<|some (p-1)).length_le;rw[WG]at this;lia
     have v:(cutD (h.map prD) (some p) none).length<=1000:=by have:=(TB (h.map prD) (some p) none).length_le;rw[WG]at this;lia
     refine⟨T5 _,_,rfl,by simp,_,rfl,_,rfl,by simp,by simp,rfl,rfl,WV (Qo u<|WQ 2) (by decide),T5 _,rfl,rfl,WV (Qo (by rw[WS];exact Qo u (WQ 2)) v) (by decide),?_⟩;rw[←Ip (by lia)]at f;exact f
def Zbo(v:Def K mg "united" A6 ["strips","place"])
  : GA ζ:=by
 refine v.fy Zcy (λr n=>(bc (sE<|xg YS r ExcR.XQ<|a2 (xv 0)<|xv 1)<|bc (sS 2 n<|xx (xv 0)<|xo Kd Kb (xv 1) xi)<|bc (sS 3 n<|xx (xv 0)<|xv 1)<|bc (sI (tn r (xx (xv 2) xi)<|xx (xv 3) xi) (b1<|sQ G.Zz G.Zy ExcR.KI<|a1 xs) b0)<|bc (sI (tc KF KE (xo XJ XG (xx (xv 2) xi)<|xx (xv 3) xi)<|xe (ExcR.P0 G.Zp) Xx) (b1<|sQ G.ZP G.ZO ExcR.KI<|a1<|xe (ExcR.NN<|ExcR.PL<|ExcR.NU (ExcR.P0 G.Zp)<|ExcR.PL ExcR.NC)<|NP<|PQ<|NY Xx<|PQ NW) b0)<|b1<|sR<|xo Ky Kw (xo Ky Kw (xp (xv 0) o0<|o1<|xo Kd Kb (xv 1) xi)<|xL<|a1<|xt<|a2 (xx (xv 2) xi)<|xo XJ XG (xx (xv 2) xi)<|xx (xv 3) xi)<|xp (xv 0) (o1<|xo XJ XG (xv 1) xi) o0)) (.a ?_)
 ·rintro A R X ⟨ps,p,rfl,x,f⟩;refine⟨rfl,?_⟩;have y:(ps.map prD).length=ps.length:=WG ..;refine⟨ps,p,rfl,?_⟩;unfold Ki at f;by_cases c:p<1\/(ps.length:Int)<=p
  ·rw[WO c]at f ⊢;exact f
  ·rw[WM c]at f ⊢
   have u:atI (ps.map prD) p=some (prD<|X1 ps (p+1)):=by
    have:=TY (ps:=ps) (p:=p+1) (by lia) (by lia)
    rwa[show p+1-1=p by lia]at this
   refine⟨_,TY (by lia) (by lia),_,u,_,rfl,_,rfl,Xu (λg=>?_) (λg=>?_)⟩
   ·have l:¬(X1 ps p).1=(X1 ps (p+1)).1:=λz=>by rw[WI z]at g;cases g
    rw[WO l]at f;exact⟨by simp,f⟩
   ·have l:(X1 ps p).1=(X1 ps (p+1)).1:=Qx λz=>g (by rw[Qu z];rfl);rw[WM (λz=>z l)]at f;refine⟨_,rfl,_,rfl,Xu (λh=>?_) (λh=>?_)⟩
    ·rw[WO (WN h)]at f;exact⟨by decide,by decide,by decide,by decide,by decide,by simp,f⟩
    ·rw[WM (λz=>h (WI z))]at f;have o:(cutD (ps.map prD) none<|some (p-1)).length<=1000:=by have:=(TB (ps.map prD) none<|some (p-1)).length_le;rw[WG]at this;lia
     have s:(cutD (ps.map prD) (some (p+1)) none).length<=1000:=by have:=(TB (ps.map prD) (some (p+1)) none).length_le;rw[WG]at this;lia
     refine⟨T5 _,_,rfl,_,rfl,_,rfl,by simp,by simp,rfl,rfl,WV (Qo o<|WQ 1) (by decide),T5 _,rfl,rfl,WV (Qo (by rw[WS];exact Qo o (WQ 1)) s) (by decide),?_⟩;rw[←Ll (by lia)]at f;exact f
def Zqz(y:Def K mg "with_wish" Ck ["wishes","ahead","behind"])
  : Mu ζ:=by
 refine y.fy Zjn (λl n=>(bc (sE<|xg Yz l ExcR.XQ<|a1<|xv 1)<|bc (sE<|xg Yz l ExcR.XQ<|a1<|xv 2)<|bc (sI (tq l (xv 1)<|xv 2) (b1<|sQ G.Z4 G.Z3 ExcR.KI<|a1 xs) b0)<|bc (sI (ti l (xt<|a2 (xv 1)<|xv 2)<|xv 0) (b1<|sQ G.Z6 G.Z5 ExcR.KI<|a1 xs) b0)<|bc (sI (tc NT N8 (xl G.len<|xv 0)<|xe (ExcR.P0 G.Zs) Xx) (b1<|sQ G.Z1 G.Z0 ExcR.KI<|a1<|xe (ExcR.NN<|ExcR.PL<|ExcR.NU (ExcR.P0 G.Zs)<|ExcR.PL ExcR.NC)<|NP<|PQ<|NY Xx<|PQ NW) b0)<|b1<|sF 2<|sF 1<|sR<|xo Ky Kw (xv 0)<|xL<|a1<|xt<|a2 (xv 1)<|xv 2)) (.a ?_)
 ·rintro A R X ⟨h,a,b,rfl,v,f⟩;refine⟨rfl,?_⟩;have x:(h.map prD).length=h.length:=WG ..;unfold Kj at f;refine⟨a,rfl,?_⟩;unfold SO;by_cases p:1<=a/\a<=10
  ·rw[WM (λz=>z p)]at f;rw[WO p];refine⟨b,rfl,?_⟩;unfold SO;by_cases o:1<=b/\b<=10
   ·rw[WM (λz=>z o)]at f;rw[WO o];refine Xu (λg=>?_) (λg=>?_)
    ·rw[WO (WN g)]at f;exact⟨by simp,f⟩
    ·rw[WM (λz=>g (WI z))]at f;refine⟨by simp,_,.lp (a,b) h,Xu (λu=>?_) (λu=>?_)⟩
     ·rw[WO (WN u)]at f;exact⟨by simp,f⟩
     ·rw[WM (λz=>u (WI z))]at f;refine Xu (λs=>?_) (λs=>?_)
      ·have r:(20:Int)<=((h.map prD).length:Int):=WN s;rw[WO (by lia)]at f;exact⟨by decide,by decide,by decide,by decide,by decide,by simp,f⟩
      ·have r:¬(20:Int)<=((h.map prD).length:Int):=λz=>s (WI z);rw[WM (by lia)]at f;refine⟨by simp,by simp,T5 _,rfl,WV (Qo (WV (Vh x) v)<|WQ 1) (by decide),?_⟩;rw[WZ]at f;exact f
   ·rw[WO o]at f;rw[WM o];exact f
  ·rw[WO p]at f;rw[WM p];exact f
def Zc8(E:Def K mg "pair_costs" A1 ["strips"])
  : ME ζ:=by
 refine E.fz Ha (λr n=>(bc (sS 1 n<|xf Yu r<|a1<|xv 0)<|bc (se (Pu.pz 2 Ha.nd Zbz)<|Tu Zga<|Kk 2)<|bc (sF 1<|sO [3,4] Ql (iL<|xv 1) (gN 3)<|b1<|sF 1<|sO [4] Ql (iL<|xv 1) (gN 4)<|b1<|sF 4<|sF 3<|se (EU (Pv<|r ()) (pv 2) (PY<|bz (pv 3)<|pv 4) (fz YN (r ())<|dz (pv 0) (pv 3)<|pv 4) rfl)<|Cf 2 (PU<|tz (Xo 3)<|Xo 4)<|Tw<|uz (Xo 0) (Xo 3)<|Xo 4)<|b1<|sV 2)) (.a ?_)
 ·rintro H R X ⟨l,rfl,v,z,u⟩;refine⟨rfl,l,rfl,v,z,?_⟩;have C:=P7 l;generalize Xy l=g at C u ⊢
  refine⟨rfl,Tz (xs:=g) (emb:=D.int) (λi h=>∃f:List (List Key×V),h=[some (.bor<|.lst<|l.map prD),some (.sh<|.lst<|g.map D.int),some (.own<|.dT f),none,none]/\f.length<=i*10/\
   ∀x∈g.take i,∀y∈g,X8 f [.inl x,.inl y]=some (.int<|pcM l x y l.length)) ⟨[],rfl,by simp,by simp⟩ ?_ ?_⟩
  ·rintro i B h ⟨f,rfl,s,p⟩
   refine⟨rfl,Tz (xs:=g) (emb:=D.int) (λj h=>∃f:List (List Key×V),h=[some (.bor<|.lst<|l.map prD),some (.sh<|.lst<|g.map D.int),some (.own<|.dT f),some (.sh (.int g[i])),none]/\f.length<=i*10+j/\
    (∀x∈g.take i,∀y∈g,X8 f [.inl x,.inl y]=some (.int<|pcM l x y l.length))/\∀y∈g.take j,X8 f [.inl g[i],.inl y]=some (.int (pcM l g[i] y l.length))) ⟨f,rfl,by lia,p,by simp⟩ ?_ ?_⟩
   ·rintro j A h ⟨f,rfl,s,p,hw⟩;refine⟨l,_,_,rfl,v,by simp,_,_,rfl,rfl,by lia,_,rfl,WV (FS _ _ _) (by lia),λx hx y o=>?_,λy o=>?_⟩
    ·rw[Av];by_cases e:([.inl x,.inl y]:List Key)=[.inl g[i],.inl g[j]]
     ·rw[WO e];simp only[JF,Sum.inl.injEq,and_true]at e;rw[e.1,e.2]
     ·rw[WM e];exact p x hx y o
    ·rw[Av];by_cases e:([.inl g[i],.inl y]:List Key)=[.inl g[i],.inl g[j]]
     ·rw[WO e];simp only[JF,Sum.inl.injEq,and_true]at e;rw[e.2]
     ·rw[WM e];rw[Qp A,Qc,WJ]at o;rcases o with o|o
      ·exact hw y o
      ·subst o;exact absurd rfl e
   ·rintro h ⟨f,rfl,s,p,hw⟩;rw[QK]at hw;refine⟨f,rfl,by lia,λx hx y o=>?_⟩;rw[Qp B,Qc,WJ]at hx;rcases hx with hx|hx
    ·exact p x hx y o
    ·subst hx;exact hw y o
  ·rintro h ⟨f,rfl,s,p⟩;rw[QK]at p;exact u f p
def Zfc(y:Def K mg "cost_with_last" Cu ["members","last","least","pairs"])
  : RE ζ:=by
 refine y.fz Zr1 (λg n=>(bc (sS 4 n<|xf Y2 g<|a2 (xv 0)<|xv 1)<|b1<|sF 1<|sR<|xo XJ XG (xe (Fi (Pv<|g ()) (pv 2) (pv 4) (λ_ _=>rfl))<|Fd (Xo 2)<|Xo 4)<|xe (XW (Ol (K:=K) rfl) (by rfl) G.ZX boot_sum<|az<|cz ["other","pairs","last"] [none,some 3,some 1] (Bg (K:=K)<|pv 4) ⟨(gk 0),Nk,(Fi (Pv<|g ()) (pv 1) (PY<|bz (pv 0)<|pv 2) (λ_ _=>rfl))⟩)<|Gx<|sz<|Tv (SndI.c<|BS<|Xo 4) (Kk 0) Sa<|Fd (Xo 1)<|PU<|tz (Xo 0)<|Xo 2)) (.a ?_)
 ·rintro A R X ⟨f,l,le,z,c,v,rfl,h,p,u,x⟩;refine⟨rfl,?_⟩;rw[B8];have o:(X7 f l).length<=1000:=WV less_sub.length_le h;refine⟨f,l,rfl,h,_,_,FN _,p,rfl,_,rfl,K8 (s:=.sh .non) (xs:=X7 f l) (emb:=D.int) (λm=>some (.int<|c m)) (by lia) (λm r=>?_) ?_⟩
  ·exact⟨by simp,_,_,rfl,u m r,rfl,_,rfl,rfl⟩
  ·rw[T7];exact⟨(X7 f l).map c,by rw[Q0];rfl,x⟩
def Zel(y:Def K mg "cost_with_first" Em ["members","first","least","pairs"])
  : O8 ζ:=by
 refine y.fz Zfn (λg n=>(bc (sS 4 n<|xf Y2 g<|a2 (xv 0)<|xv 1)<|b1<|sF 1<|sR<|xo XJ XG (xe (Fi (Pv<|g ()) (pv 2) (pv 4) (λ_ _=>rfl))<|Fd (Xo 2)<|Xo 4)<|xe (XW (Ol (K:=K) rfl) (by rfl) G.ZX boot_sum<|az<|cz ["other","pairs","first"] [none,some 3,some 1] (Bg (K:=K)<|pv 4) ⟨(gk 0),Nk,(Fi (Pv<|g ()) (pv 1) (PY<|bz (pv 2)<|pv 0) (λ_ _=>rfl))⟩)<|Gx<|sz<|Tv (SndI.c<|BS<|Xo 4) (Kk 0) Sa<|Fd (Xo 1)<|PU<|tz (Xo 2)<|Xo 0)) (.a ?_)
 ·rintro A R X ⟨f,l,le,z,c,v,rfl,h,p,u,x⟩;refine⟨rfl,?_⟩;rw[B8];have o:(X7 f l).length<=1000:=WV less_sub.length_le h;refine⟨f,l,rfl,h,_,_,FN _,p,rfl,_,rfl,K8 (s:=.sh .non) (xs:=X7 f l) (emb:=D.int) (λm=>some (.int<|c m)) (by lia) (λm r=>?_) ?_⟩
  ·exact⟨by simp,_,_,rfl,u m r,rfl,_,rfl,rfl⟩
  ·rw[T7];exact⟨(X7 f l).map c,by rw[Q0];rfl,x⟩
def Zmn(z:XD K (XB K (X4 ζ) "drop") "drop" "Village.drop" Dv ["self","ahead","behind"])
  : IX ζ:=by
 refine z.fy Zan (λl n=>(bc (se (Pn<|XN Yw G.Za (hq<|l ()) ExcR.XQ<|pv 0)<|SC<|NO BY (Xo 0) X6)<|bc (sS 3 n<|xg YU l ExcR.XQ<|a3 (xe (XN Ys G.Za (hq<|l ()) XT<|pv 0)<|Kh Tq (Xo 0) X6) (xv 1)<|xv 2)<|b1<|sF 2<|sF 1<|sF 3<|se (Kp<|T3 Yx G.Za (hq<|l ()) XT (pv 0)<|dz (PY<|dz NS (pv 1)<|pv 2) (XN Yr G.Za (hq<|l ()) XT<|pv 0)<|pv 3)<|Tr<|SR 0 BX<|uz (PU<|uz NK (Xo 1)<|Xo 2) (Kh P8 (Xo 0) X6)<|Xo 3)) (.c ?_)
 ·rintro o A R X ⟨x,b1,y,v,bk,fs,r,f,w,p,h,rfl,rfl,u,B,hw,s,g⟩;refine⟨rfl,?_⟩;unfold Ac at g;refine⟨rfl,rfl,bk,fs++[f],r++[w],rfl,?_⟩;unfold NL;by_cases c:100<=bk.length
  ·rw[WO c]at g ⊢;exact⟨_,rfl,⟨rfl,by simp⟩,g⟩
  ·rw[WM c]at g ⊢;refine⟨rfl,rfl,bk,fs++[f],r,w,rfl,w,p,h,rfl,s,?_⟩;cases e:Kr w p h with
   |some c=>
    rw[e]at g;exact⟨_,rfl,⟨rfl,by simp⟩,g⟩
   |none=>
    rw[e]at g;refine⟨rfl,rfl,by simp,rfl,rfl,bk,fs,r++[w],f,rfl,?_⟩;exact⟨x,b1,y,v,bk,fs++[f],r++[w],("drop",[p,h]),f,SU w p h,rfl,rfl,u,by rw[WS];simp;lia,by rw[WS];simp;lia,_,rfl,⟨rfl,by simp⟩,g⟩
def Zhg(l:Def K mg "_law_draw" Dx ["_law_script","_law_k"])
  : I0 ζ:=by
 refine l.fz Zj1 (λf n=>(bc (sI (tq f (xo XH XI (xf Yt f<|a2 (xv 0) xi) xi) xi) (b1<|sR<|xf Yt f<|a2 (xv 0)<|xo XJ XG xi<|xv 1) b0)<|b1<|sR<|xf Yy f<|a2 (xf Yt f<|a2 (xv 0) xi)<|xv 1)) (.a ?_)
 ·rintro p R X ⟨g,k,rfl,o,h⟩;refine⟨rfl,g,0,rfl,by decide,(by show(0:Int)<2;decide),Xu (λ_=>?_) (λ_=>?_)⟩
  ·exact⟨g,_,rfl,by lia,h _⟩
  ·exact⟨g,1,rfl,by decide,_,_,rfl,h _⟩
def Zbt(y:Def K mg "_law_row" CP ["_law_found","_law_due"])
  : Zab ζ:=by
 refine y.fz Zsa (λl n=>(bc (sI (tp<|wo (tN<|tt<|xe (XW (TM (K:=K)) (by rfl) G.Zb QP<|bz (pv 0)<|T4 (v:=.ty "list") rfl G.Zi boot_list rfl)<|TR<|tz (Xo 0) TC)<|wO<|tn l (xl G.len<|xv 0)<|xl G.len<|xv 1) (b1<|sR xb) b0)<|bc (sO [2] Ql (ir G.Zd<|a1<|xl G.len<|xv 1) (gN 2)<|b1<|sI (tp<|wo (tN<|tt<|xf Y0 l<|a1<|xx (xv 0)<|xv 2)<|wO<|tn l (xx (xv 0)<|xv 2)<|xx (xv 1)<|xv 2) (b1<|sR xb) b0)<|b1<|sR xb)) (.a ?_)
 ·rintro A R X ⟨xs,rfl|rfl,z,x⟩;refine⟨rfl,?_⟩
  ·have s:(xs.map D.int).length=xs.length:=WG ..;refine⟨_,.same _,Ke (Tt rfl ?_)⟩;refine⟨⟨by lia,by lia⟩,PZ (λi f=>f=[some (.bor<|.lst<|xs.map D.int),some (.bor<|.lst<|xs.map D.int),none]) rfl ?_ ?_⟩
   ·rintro i f r rfl;have p:i<(((xs.map D.int).length:Nat):Int).toNat:=r;have ez:(0:Int)+(i:Int)=(i:Int):=by lia
    have h:i<xs.length:=by lia
    have g:atI (xs.map D.int) (0+(i:Int))=some (.int xs[i]):=by rw[ez];exact BL h
    exact⟨_,g,_,rfl,Ke ⟨_,g,_,g,Tt rfl rfl⟩⟩
   ·rintro f rfl;exact x
  ·refine⟨rfl,?_⟩;have s:(xs.map D.int).length=xs.length:=WG ..;have o:((xs.length:Nat):Int)=(((xs.map D.int).length:Nat):Int):=by rw[s]
   refine⟨_,.same _,Ke (Tt o ?_)⟩;refine⟨⟨by lia,by lia⟩,PZ (λi f=>f=[some (.sh<|.fL xs),some (.bor<|.lst<|xs.map D.int),none]) rfl ?_ ?_⟩
   ·rintro i f r rfl;have p:i<(((xs.map D.int).length:Nat):Int).toNat:=r;have ez:(0:Int)+(i:Int)=(i:Int):=by lia
    have h:i<xs.length:=by lia
    have g:atI (xs.map D.int) (0+(i:Int))=some (.int xs[i]):=by rw[ez];exact BL h
    have u:atI xs (0+(i:Int))=some xs[i]:=by rw[ez];exact Th (WH h)
    exact⟨_,u,_,rfl,Ke ⟨_,u,_,g,Tt rfl rfl⟩⟩
   ·rintro f rfl;exact x
def Zdi(A:Def K mg "_law_tuples" DW ["_law_found","_law_due"])
  : Ov ζ:=by
 refine A.fz Zlv (λl n=>(bc (sI (tp<|wo (tN<|tt<|xe (XW (TM (K:=K)) (by rfl) G.Zb QP<|bz (pv 0)<|T4 (v:=.ty "list") rfl G.Zi boot_list rfl)<|TR<|tz (Xo 0) TC)<|wO<|tn l (xl G.len<|xv 0)<|xl G.len<|xv 1) (b1<|sR xb) b0)<|bc (sO [2,3] Ql (ir G.Zd<|a1<|xl G.len<|xv 1) (gN 2)<|bc (sI (tp<|wo (tN<|tt<|xe (XW (TM (K:=K)) (by rfl) G.Zb QP<|bz (jx K (pv 0)<|pv 2)<|T4 (v:=.ty "tuple") rfl G.Zt boot_tuple rfl)<|TR<|tz (Kc (Xo 0)<|Xo 2) TC)<|wO<|tn l (xl G.len<|xx (xv 0)<|xv 2)<|xl G.len<|xx (xv 1)<|xv 2) (b1<|sR xb) b0)<|b1<|sO [3] Ql (ir G.Zd<|a1<|xl G.len<|xx (xv 1)<|xv 2) (gN 3)<|b1<|sI (tp<|wo (tN<|tt<|xf Y0 l<|a1<|xx (xx (xv 0)<|xv 2)<|xv 3)<|wO<|tn l (xx (xx (xv 0)<|xv 2)<|xv 3)<|xx (xx (xv 1)<|xv 2)<|xv 3) (b1<|sR xb) b0)<|b1<|sR xb)) (.a ?_)
 ·rintro E R X ⟨g,rfl,B,y⟩;refine⟨rfl,?_⟩;have C:(g.map prD).length=g.length:=WG ..;refine⟨_,.same _,Ke (Tt rfl ?_)⟩;refine⟨⟨by lia,by lia⟩,PZ (λi f=>∃t,f=[some (.bor<|.lst<|g.map prD),some (.bor<|.lst<|g.map prD),none,t]) ⟨_,rfl⟩ ?_ ?_⟩
  ·rintro i f u ⟨t,rfl⟩;have s:i<(((g.map prD).length:Nat):Int).toNat:=u;have ez:(0:Int)+(i:Int)=(i:Int):=by lia
   have x:i<g.length:=by lia
   have h:atI (g.map prD) (0+(i:Int))=some (prD g[i]):=by rw[ez];exact BL x
   generalize g[i]=q at h;refine⟨_,h,_,.same _,Ke ⟨_,h,_,h,?_⟩⟩;refine⟨_,h,⟨(by show -(2 ^ 62)<=(2:Int);decide),(by show(2:Int)<2 ^ 62;decide)⟩,PZ (λj f=>∃t,f=[some (.bor<|.lst<|g.map prD),some (.bor<|.lst<|g.map prD),some (.sh<|.int (0+(i:Int))),t]) ⟨_,rfl⟩ ?_ ?_⟩
   ·rintro j f r ⟨t,rfl⟩;have p:j<2:=r
    obtain⟨z,o⟩:∃z:Int,atI [D.int q.1,D.int q.2] (0+(j:Int))=some (.int z):=by
     have:j=0\/j=1:=by lia
     rcases this with rfl|rfl
     ·exact⟨_,rfl⟩
     ·exact⟨_,rfl⟩
    exact⟨_,h,_,o,z,rfl,Ke ⟨_,h,_,o,_,h,_,o,Tt rfl ⟨_,rfl⟩⟩⟩
   ·rintro f ⟨t,rfl⟩;exact⟨_,rfl⟩
  ·rintro f ⟨t,rfl⟩;exact y
def Zkl(p:Def K mg "_law_deed_is" EY ["_law_found","_law_due"])
  : Mh ζ:=by
 refine p.fz Zb1 (λh n=>(bc (sI (tp<|wo (tN<|tt<|xe (XW (TM (K:=K)) (by rfl) G.Zb QP<|bz (pv 0)<|T4 (v:=.ty "tuple") rfl G.Zt boot_tuple rfl)<|TR<|tz (Xo 0) TC)<|wo (tn h (xl G.len<|xv 0)<|xl G.len<|xv 1)<|wO<|tN<|tt<|xe (XW (TM (K:=K)) (by rfl) G.Zb QP<|bz (jx K (pv 0) X5)<|T4 (v:=.ty "str") rfl G.Ya boot_str rfl)<|TR<|tz (Kc (Xo 0) Xx) TC) (b1<|sR xb) b0)<|bc (sI (tn h (xx (xv 0) xi)<|xx (xv 1) xi) (b1<|sR xb) b0)<|bc (sO [2] Ql (iR G.Zd<|a2 xi<|xl G.len<|xv 1) (gN 2)<|b1<|sI (tp<|wo (tN<|tt<|xf Y0 h<|a1<|xx (xv 0)<|xv 2)<|wO<|tn h (xx (xv 0)<|xv 2)<|xx (xv 1)<|xv 2) (b1<|sR xb) b0)<|b1<|sR xb)) (.a ?_)
 ·rintro u R X ⟨q,rfl,r,o⟩;refine⟨rfl,?_⟩;have s:(D.str q.1::q.2.map D.int).length=q.2.length+1:=by rw[Qa,WG]
  rw[Zrm];show _;rw[Qb,FV];refine⟨_,.same _,Ke (Tt rfl ⟨_,KL _ _,_,.same _,Ke ⟨_,KL _ _,_,KL _ _,Tt rfl ?_⟩⟩)⟩;refine⟨⟨by lia,by lia⟩,PZ (λi f=>f=[some (.sh<|dD q),some (.sh<|dD q),none]) rfl ?_ ?_⟩
  ·rintro i f l rfl
   have g:i<q.2.length:=by
    have:i<((((D.str q.1::q.2.map D.int).length:Nat):Int)-1).toNat:=l
    lia
   exact⟨_,EJ g,_,rfl,Ke ⟨_,EJ g,_,EJ g,Tt rfl rfl⟩⟩
  ·rintro f rfl;exact o
def Zos(v:Def K mg "_law_step" DB ["_law_now","_law_deed_here"])
  : OM ζ:=by
 refine v.fz Zpb (λo n=>(bc (sI (tp<|wo (tq o (xx (xv 1) xi) xs)<|wO<|tq o (xx (xv 1) xi) xs) (bc (sF 1<|sS 2 n<|xe (fz Wc (o ())<|bz (jx K (pv 0) X5)<|pv 1)<|Dj<|tz (Kc (Xo 0) Xx)<|Xo 1)<|b1<|sR<|xL<|a3 (xx (xv 2) xi) (xx (xv 0) xi)<|xx (xv 2) xi) b0)<|bc (sF 1<|sS 2 n<|xe (fz Wb (o ())<|bz (jx K (pv 0) X5)<|pv 1)<|Dj<|tz (Kc (Xo 0) Xx)<|Xo 1)<|b1<|sR<|xL<|a3 (xx (xv 2) xi) (xx (xv 2) xi)<|xx (xv 0) xi)) (.b ?_)
 ·rintro u R X ⟨f,w,u,x,rfl,r,hw,l⟩;refine⟨rfl,?_⟩;have g:atI (plD f::plD w::u) 1=some (plD w):=B5 (by decide) rfl
  have land:∀x:Dd,x.land=true->R (.own [.int (codeN<|x.err f w),plD (x.nf f w),plD (x.nw f w)])->R (.own [.int (codeN<|x.err f []),plD (x.fld' f),plD w]):=λx h k=>by
   have e:=x.err_land h f w [];have s:x.wsh w=w:=by cases x<;>first|rfl|cases h
   unfold Dd.nf Dd.nw at k;rw[s,e,ite_self]at k;unfold Dd.fld';exact k
  have wish:∀x:Dd,x.land=false->R (.own [.int (codeN<|x.err f w),plD (x.nf f w),plD (x.nw f w)])->R (.own [.int (codeN<|x.err [] w),plD f,plD (x.wsh' w)]):=λx h k=>by
   have e:=x.err_wish h f [] w;have s:x.fld f=f:=by cases x<;>first|rfl|cases h
   unfold Dd.nf Dd.nw at k;rw[s,e,ite_self]at k;unfold Dd.wsh';exact k
  cases x with
  |sell p h=>exact⟨_,rfl,_,rfl,_,KL _ _,f,.sell p h,rfl,rfl,r,_,rfl,_,rfl,_,g,by simp,land _ rfl l⟩
  |part p h=>exact⟨_,rfl,_,rfl,_,KL _ _,f,.part p h,rfl,rfl,r,_,rfl,_,rfl,_,g,by simp,land _ rfl l⟩
  |unite p=>exact⟨_,rfl,_,rfl,_,KL _ _,f,.unite p,rfl,rfl,r,_,rfl,_,rfl,_,g,by simp,land _ rfl l⟩
  |wish a b=>exact⟨_,rfl,_,g,w,.wish a b,rfl,rfl,hw,_,rfl,_,KL _ _,_,rfl,by simp,wish _ rfl l⟩
  |drop a b=>exact⟨_,rfl,_,rfl,_,g,w,.drop a b,rfl,rfl,hw,_,rfl,_,KL _ _,_,rfl,by simp,wish _ rfl l⟩
def Zlw(H:Def K mg "_law_start" E1 ["_law_script","_law_menu_here","_law_many"])
  : Mb ζ:=by
 refine H.fz Zlq (λl n=>(bc (sS 3 n<|xf Yt l<|a2 (xv 0) xi)<|bc (sS 4 n<|xL a0)<|bc (sO [5,6,7] Ql (ir G.Zd<|a1<|xv 2) (gN 5)<|bc (sF 3<|sS 6 n<|xv 3)<|bj (sI (tq l (xo XH XI (xf Yt l<|a2 (xv 0) xi) xi) xi) (b1<|sS 6 n<|xf Yy l<|a2 (xf Yt l<|a2 (xv 0) xi)<|xo XJ XG xi<|xv 5) b0)<|bc (sS 7 n<|xo XJ XG (xx (xv 1) xi)<|xo XH XI (xo Ko Kq (xv 6)<|xx (xv 1) xi)<|xx (xv 1) xi)<|bc (sF 7<|sA 4<|xt<|a2 (xf Yv l<|a2 (xv 1)<|xo XH XI (xv 6)<|xx (xv 1) xi)<|xv 7)<|b1<|sS 3 n<|xo Ko Kq (xo Ko Kq (xv 3)<|xx (xv 1) xi)<|xx (xv 1) xi)<|b1<|sV 4)) (.a ?_)
 ·rintro ds R X ⟨o,m,n,rfl,x,Y,U,E⟩;refine⟨rfl,?_⟩;have s:=x;obtain⟨a,b,c,d,e,rfl,T,Q,N,hd,M⟩:=x;refine⟨o,2,rfl,by decide,by simp,⟨by lia,by lia⟩,PZ (λi f=>∃(g:Yd) (r:Int),f=[some (.bor<|.scr o),some (.bor<|.lst (([a,b,c,d,e]:Ye).map D.int)),some (.sh<|.int n),some (.sh<|.int r),some (.own<|g.map prD),none,none,none]/\Field g/\g.length=i) ⟨[],_,rfl,(λq hq=>by cases hq),rfl⟩ ?_ ?_⟩
  ·rintro i f C ⟨g,r,rfl,u,p⟩;have A:(g.map prD).length=g.length:=WG ..;have B:i<n.toNat:=C;refine TL (λf=>∃(v:Int) (t:Option S),f=[some (.bor<|.scr o),some (.bor<|.lst (([a,b,c,d,e]:Ye).map D.int)),some (.sh<|.int n),some (.sh<|.int r),some (.own<|g.map prD),t,some (.sh<|.int v),none]) ?_ ?_
   ·refine⟨o,0,rfl,by decide,(by show(0:Int)<2;decide),Xu (λ_=>?_) (λ_=>⟨_,_,rfl⟩)⟩;exact⟨o,1,rfl,by decide,_,_,rfl,_,_,rfl⟩
   ·rintro f ⟨v,t,rfl⟩;have L:=Int.emod_nonneg (v / a) (show d≠0 by lia);have J:=JT (v / a) (show 0<d by lia);refine⟨_,rfl,_,rfl,⟨by lia,by lia⟩,_,rfl,(by show 0<d;lia),_,rfl,(by show 0<a;lia),[a,b,c,d,e],_,rfl,s,λh z y _=>⟨by simp,by lia,?_⟩⟩;refine⟨_,rfl,⟨by lia,by lia⟩,_,rfl,⟨by lia,by lia⟩,g++[(h,e+v / a % d)],r / a / d,?_,λq hq=>?_,by rw[WS,p];rfl⟩
    ·rw[WZ];rfl
    ·rcases Qc.mp hq with hq|hq
     ·exact u q hq
     ·rw[WJ]at hq;subst hq;exact⟨z,y,by show 1<=e+v / a % d;lia,by show e+v / a % d<=1000;lia⟩
  ·rintro f ⟨g,r,rfl,u,p⟩;exact E g u p
def Zeo(p:Def K mg "_law_days" EG ["_law_script","_law_most"])
  : Im ζ:=by
 refine p.fz Znd (λg n=>(bc (sI (tq g (xo XH XI (xf Yt g<|a2 (xv 0) xi) xi) xi) (b1<|sR<|xe (De (AO (K:=K)) (pv 0) (F7 X5)<|F7<|Ni XJ X5<|pv 1)<|Zee (Xo 0) (Fu Xx)<|Fu<|XG Xx<|Xo 1) b0)<|b1<|sR<|xC ["_law_k","_law_script"] [none,some 0] (jI<|ir G.Zd<|a1<|xo XH XI (xf Yt g<|a2 (xv 0) xi)<|xo XJ XG (xv 1) xi) (gN 0) f0<|xf Yy g<|a2 (xf Yt g<|a2 (xv 1) xi)<|xo XJ XG xi<|xv 0)) (.a ?_)
 ·rintro y R X ⟨f,n,rfl,x,v,h⟩;refine⟨rfl,f,0,rfl,by decide,(by show(0:Int)<2;decide),Xu (λ_=>?_) (λ_=>?_)⟩
  ·refine h _ ?_;unfold Pu.cutD;rw[Qs]
   have l:HT.sIx f.length 0 (some 3)=min 3 f.length:=by
    rw[show(3:Int)=((3:Nat):Int) by rfl,HT.Fl]
   have o:HT.sIx f.length f.length (some (3+n))=min (3+n).toNat f.length:=by
    rw[show(3+n:Int)=(((3+n).toNat:Nat):Int) by lia,HT.Fl];rfl
   rw[l,o];lia
  ·refine⟨f,2,rfl,by decide,(by show 0<n+1;lia),?_⟩;have s:=Int.emod_nonneg (f.getD (2:Int).toNat 0) (show n+1≠0 by lia);have r:=JT (f.getD (2:Int).toNat 0) (show 0<n+1 by lia);refine⟨⟨by lia,by lia⟩,E3 (λi=>some (.int<|mixP (f.getD (1:Int).toNat 0) (200+(0+(i:Int))))) (by lia) (λi u=>⟨f,1,rfl,by decide,_,_,rfl,_,rfl,rfl⟩) ?_⟩
   have e:(List.range (f.getD (2:Int).toNat 0 % (n+1)).toNat).filterMap (λi:Nat=>some (D.int<|mixP (f.getD (1:Int).toNat 0) (200+(0+(i:Int)))))=((List.range (f.getD (2:Int).toNat 0 % (n+1)).toNat).map λi:Nat=>mixP (f.getD (1:Int).toNat 0) (200+(0+(i:Int)))).map D.int:=by
    rw[VL,Q0];rfl
   rw[e];refine h _ ?_;rw[WG,Js];lia
def Ze0(y:Def K mg "_law_pair" Gi ["_law_cell","_law_menu_here"])
  : Rl ζ:=by
 refine y.fz Zgu (λh n=>(bc (sS 2 n<|xx (xL<|ac xi<|ac (xx (xv 1) xi)<|ac (xx (xv 1) xi)<|ac (xx (xv 1) xi) a0)<|xo XH XI (xv 0) xi)<|bc (sS 3 n<|xo XH XI (xo Ko Kq (xv 0) xi)<|xv 2)<|bc (sS 4 n<|xo XH XI (xo XJ XG (xo XJ XG (xv 3) xi)<|xo XH XI (xo Ko Kq (xv 0) xi)<|xe (XW (IH rfl) (by rfl) G.ZK boot_max<|bz X5<|Ni Kd (pv 2) X5)<|Zae<|tz Xx<|Kb (Xo 2) Xx)<|xv 2)<|bc (sS 5 n<|xf Y3 h<|a2 (xo Ko Kq (xv 0) xi)<|xf Yv h<|a2 (xv 1)<|xv 3)<|b1<|sF 5<|sR<|xt<|a2 (xv 5)<|xf Y3 h<|a2 (xo Ko Kq (xv 0) xi)<|xf Yv h<|a2 (xv 1)<|xv 4)) (.a ?_)
 ·rintro L R X ⟨c,m,rfl,r,v⟩;refine⟨rfl,?_⟩;have g:=r;obtain⟨a,b,e,d,f,rfl,o,C,B,hd,A⟩:=r;have E:0<=c % 4/\c % 4<4:=by lia
  obtain⟨pool,x,z⟩:∃p:Int,atI [D.int 10,.int a,.int a,.int a] (c % 4)=some (.int p)/\1<=p/\p<=10:=by
   have:c % 4=0\/c % 4=1\/c % 4=2\/c % 4=3:=by lia
   rcases this with e|e|e|e<;>rw[e]
   ·exact⟨10,rfl,by decide,by decide⟩
   ·exact⟨a,rfl,o⟩
   ·exact⟨a,rfl,o⟩
   ·exact⟨a,rfl,o⟩
  have l:0<(if pool-1>1 then pool-1 else 1):=by split<;>lia
  refine⟨_,rfl,_,rfl,_,rfl,by simp,(by show(0:Int)<4;decide),_,x,?_⟩;refine⟨⟨by decide,by decide⟩,(by show 0<pool;lia),⟨by decide,by decide⟩,l,(by show 0<pool;lia),?_⟩;refine⟨⟨by decide,by decide⟩,_,_,rfl,g,λJ _ _ _=>⟨_,_,rfl,λu=>?_⟩⟩;exact⟨⟨by decide,by decide⟩,_,_,rfl,g,λH _ _ _=>⟨_,_,rfl,λs=>⟨by simp,v u s⟩⟩⟩
def Zat(z:Def K mg "gathered" Az ["strips","order"])
  : OP ζ:=by
 refine z.fy Zg4 (λr n=>(bc (sE<|xg YB r ExcR.XQ<|a2 (xv 0)<|xv 1)<|bc (sS 2 n<|xL a0)<|bc (sF 1<|sO [3] ExcR.EK (iL<|xv 1) (gN 3)<|b1<|se (Pn<|BK Qw PySem.F.slot_list_extend PySem.F.type_list_extend Zlf (pv 2)<|az<|cz ["strip","holder"] [none,some 3] (N0 (K:=K)<|pv 0) ⟨(gk 0),(FJ<|cq K (r ()) (jx K (pv 0) X5)<|pv 1),(pv 0)⟩)<|Zd0 2<|Tv (Sw<|Xo 0) (Kk 0) (P1<|NR (Kc (Xo 0) Xx)<|Xo 1)<|Xo 0)<|b1<|sV 2)) (.a ?_)
 ·rintro E R X ⟨f,os,rfl,x,p,u,l⟩;refine⟨rfl,f,os,rfl,x,p,u,?_⟩;cases e:Sv f os with
  |some c=>rw[e]at l;exact l
  |none=>
   rw[e]at l;have o:R (.own ((TQ f os).map prD)):=l;refine⟨by simp,rfl,Tz (xs:=os) (emb:=D.int) (λi h=>h=[some (.bor<|plD f),some (.bor<|.lst<|os.map D.int),some (.own ((TQ f<|os.take i).map prD)),none]) rfl ?_ ?_⟩
   ·rintro i v h rfl;have B:=Zjm f (os.take i);have s:(os.take i).length<=64:=by rw[Qs];lia
    have A:=Nat.mul_le_mul s p;have C:=QA (λq:Int×Int=>decide (q.1=os[i])) f;refine K8 (xs:=f) (emb:=prD) (λq=>if decide (q.1=os[i])=true then some (prD q)else none) (by lia) (λq hq=>⟨_,rfl,Xu (λg=>⟨_,rfl,WO g⟩) (λg=>WM g)⟩) ?_;rw[PX (λq:Int×Int=>decide (q.1=os[i]))];refine⟨by rw[WG,WG];lia,?_⟩
    have y:TQ f (os.take (i+1))=TQ f (os.take i)++f.filter λq=>decide (q.1=os[i]):=by
     unfold TQ;rw[Qp v,List.flatMap_append];simp
    rw[y,WZ];rfl
   ·rintro h rfl;rw[QK];exact o
def Zjg(DD:Def K mg "told_moves" Ds ["strips","order"])
  : Hx ζ:=by
 refine DD.fz Zhm (λA n=>(bc (sE<|xe (Ai YB (hq<|A ()) Ao<|bz (pv 0)<|pv 1)<|Tw<|tz (Xo 0)<|Xo 1)<|bc (sC 2 ["holder","width","order"] [none,none,some 1] n (jL<|xv 0) (gT 2<|gc (gN 0)<|gc (gN 1) g0) f0<|xe (Es (K:=K) Qw Jl PySem.F.type_list_index (RB (K:=K)) (pv 2)<|az<|pv 0)<|R8 (Xo 2)<|sz<|Xo 0)<|bc (sS 3 n<|xf YO A<|a1<|xv 0)<|bc (sS 4 n<|xL a0)<|bc (sS 5 n<|xf Y6 A<|a2 (xv 3)<|xv 2)<|bc (sW [] Ql (tc KF KE (xv 5) xi)<|bc (sF 5<|sA 4<|xt<|ac (xv 5)<|ac (xx (xv 3)<|xo Kd Kb (xv 5) xi)<|ac (xx (xv 3)<|xv 5)<|ac (xf YQ A<|a3 (xv 0) (xv 3)<|xv 5) a0)<|bc (sS 3 n<|xf YR A<|a2 (xv 3)<|xv 5)<|b1<|sS 5 n<|xf Y6 A<|a2 (xv 3)<|xv 2)<|b1<|sV 4)) (.a ?_)
 ·rintro ds R X ⟨l,o,rfl,hF,hz,Q,hR⟩;refine⟨rfl,?_⟩;have hh:=P7 l;have hol:=Q.length_eq;have U:=RQ hF Q;refine⟨l,o,rfl,hF,by lia,by lia,?_⟩;rw[Hn Q];refine K8 (xs:=l) (emb:=prD) (λq=>some (.int (o.idxOf q.1:Nat))) (by lia) (λq hq=>?_) ?_
  ·exact⟨rfl,⟨_,rfl⟩,o,rfl,U q hq,_,rfl,rfl⟩
  rw[T7 (λq:Int×Int=>D.int (o.idxOf q.1:Nat))];have er:l.map (λq:Int×Int=>D.int (o.idxOf q.1:Nat))=(l.map λq:Int×Int=>((o.idxOf q.1:Nat):Int)).map D.int:=by rw[Q0];rfl
  rw[er];generalize L:(l.map λq:Int×Int=>((o.idxOf q.1:Nat):Int))=v;have lrs:v.length=l.length:=by rw[←L,WG]
  have rk:∀m:Int,1<=m/\m<=l.length->v.getD (m-1).toNat 0=rkN l o m:=λm y=>by
   have Y:(m-1).toNat<l.length:=by lia
   rw[←L];unfold rkN hdN;rw[WR,WR,WT,WH Y];rfl
  have keys:∀r:Ye,r.Perm (Km 1 l.length)->r.map (λm=>v.getD (m-1).toNat 0)=r.map (rkN l o):=λr u=>Vc λm y=>rk m (runI_mem.mp<|u.mem_iff.mp y)
  have inr:∀r:Ye,r.Perm (Km 1 l.length)->∀m∈r,1<=m/\m<=v.length:=λr u m y=>by
   have:=runI_mem.mp (u.mem_iff.mp y)
   lia
  refine⟨l,rfl,by lia,by simp,?_⟩;refine⟨_,v,rfl,inr _ (.refl _),by rw[BH];lia,λp0 H=>?_⟩;rw[keys _ (.refl _)]at H
  have e0:∀r:Ye,r.Perm (Km 1 l.length)->Pb (λm=>v.getD (m-1).toNat 0) r=Pb (rkN l o) r:=λr u=>by
   unfold Pb;congr 1;exact Vc λm y=>by show(v.getD (m-1).toNat 0,(1:Int))=_;rw[rk m (runI_mem.mp<|u.mem_iff.mp y)]
  have b0:=Sk (rkN l o) (Km 1 l.length)
  have nn:((l.length:Int))*l.length<=1600:=by
   have:=JM (a:=(l.length:Int)) (b:=l.length) (c:=40) (d:=40) (by lia) (by lia) (by lia) (by lia)
   lia
  rw[BH]at b0;refine Af (λC=>∃(r:Ye) (s:List Mo) (p:Nat),FW (r.map<|rkN l o) p/\r.Perm (Km 1 l.length)/\(∀E,Mv l (rkN l o) r E->Mv l (rkN l o) (Km 1 l.length) (s++E))/\(s.length:Int)+Pb (rkN l o) r=Pb (rkN l o) (Km 1 l.length)/\C=[some (.bor<|plD l),some (.bor<|.lst<|o.map D.int),some (.own<|v.map D.int),some (.own<|r.map D.int),some (.own<|s.map mvD),some (.sh<|.int p)]) mvN ⟨Km 1 l.length,[],p0,H,.refl _,λE h=>h,by simp,rfl⟩ ?_;rintro C ⟨r,s,p,hw,u,hM,hc,rfl⟩;have hl:r.length=l.length:=by rw[u.length_eq,BH]
  have b1:=Sk (rkN l o) r;refine Xu (λg=>?_) (λg=>?_)
  ·have g':0<((p:Nat):Int):=WN g;obtain⟨h1,B,h3⟩:=hw.2.resolve_left (by lia);rw[WG]at B;rw[BG B,BG (by lia)]at h3;have hs:=Ru (rkN l o) h1 B h3;have x:(KY r p).Perm (Km 1 l.length):=(CK h1 B).trans u;have b2:=Sk (rkN l o) (KY r p)
   have ix:∀(i:Nat) (k:Int),i<r.length->k=(i:Int)->atI (r.map D.int) k=some (.int<|r.getD i 0):=λi k Y e=>by
    rw[e];exact Tp (f:=D.int) (Th<|by rw[WR,WH Y];rfl)
   have lm:(s.map mvD).length=s.length:=WG ..;have M:∀m∈r,1<=m/\m<=l.length:=λm y=>runI_mem.mp (u.mem_iff.mp y);refine⟨_,ix (p-1) _ (by lia) (by lia),_,ix p _ B rfl,?_⟩;refine⟨l,r,p,rfl,hF,M,by lia,by lia,by simp,by lia,?_⟩;refine⟨r,p,rfl,by lia,by lia,by lia,?_⟩;rw[Q3];refine⟨KY r p,v,rfl,inr _ x,by rw[Zpm h1 B];lia,λp' J=>?_⟩;rw[keys _ x]at J;refine⟨⟨KY r p,s++[((p:Int),r.getD (p-1) 0,r.getD p 0,exM l r p)],p',J,x,λE T=>?_,?_,?_⟩,?_⟩
   ·rw[Jq];exact hM _ (.step r p E hw (by lia) T)
   ·rw[WS,Q6];lia
   ·rw[WZ];rfl
   ·show(Pb _ (((KY r p).map D.int).map toI)).toNat<(Pb _ ((r.map D.int).map toI)).toNat;rw[Gb,Gb,Gb,e0 _ x,e0 _ u];lia
  ·have g':¬0<((p:Nat):Int):=λz=>g (WI z);have N:p=0:=by lia
   subst N
   have:=hM [] (.done r hw)
   rw[Q1]at this;exact hR s this
def Zgc(DD:Def K mg "find_ring" CL ["holders","wishes"])
  : LN ζ:=by
 refine DD.fz Zm8 (λT n=>(bc (sS 2 n<|xL a0)<|bc (sF 2<|sO [3,4] Ql (iL<|xe (XW (FP (K:=K) (w:=w) rfl) (by rfl) G.Zj boot_sorted<|az<|pv 0)<|Al<|sz<|Xo 0) (gN 3)<|bc (sS 4 n<|xf Wg T<|a3 (xv 3) (xv 0)<|xv 1)<|b1<|sI (tp<|wa (tt<|xv 4)<|wA<|tp<|wo (tN<|tt<|xv 2)<|wO<|tc Pk Pi (xl G.len<|xv 4)<|xl G.len<|xv 2) (b1<|sF 4<|sS 2 n<|xv 4) b0)<|b1<|sF 2<|sV 2)) (.a ?_)
 ·rintro ds R X ⟨B,E,rfl,x,Q,hR⟩;refine⟨rfl,by simp,B,rfl,by lia,λu L v=>?_⟩;have H:u.Pairwise (· < ·):=Fw v (L.nodup_iff.mpr x);refine⟨rfl,Tz (xs:=u) (emb:=D.int) (λi s=>∃r,s=[some (.bor<|.lst<|B.map D.int),some (.bor<|.lst<|E.map prD),some (.sh<|.lst<|r.map D.int),none,none]/\r.length<=60/\FRi B E (u.take i) r) ⟨[],rfl,by simp,.inl ⟨rfl,λl M=>by rw[Jh]at M;cases M⟩⟩ ?_ ?_⟩
  ·rintro i N s ⟨r,rfl,o,F⟩
   have h:∀m∈u.take i,m<u[i]:=λm U=>by
    obtain⟨j,Y,e⟩:=Q9.mp U;rw[Qs]at Y;rw[VM]at e;rw[←e];exact QM.mp H j i (by lia) N (by lia)
   rw[Qp N];generalize u[i]=l at h ⊢;refine⟨l,B,E,rfl,x,Q,λf C y=>?_⟩;have ef:(!(f.map D.int).isEmpty)=decide (f≠[]):=by cases f<;>simp
   have er:(!(r.map D.int).isEmpty)=decide (r≠[]):=by cases r<;>simp
   show if (!(f.map D.int).isEmpty)=true then _ else _;rw[ef];refine Xu (λg=>?_) (λg=>Ke ⟨r,rfl,o,F.keep h C (.inl (Qx λz=>g (WI z)))⟩);have A:f≠[]:=WN g;show if (!(!(r.map D.int).isEmpty))=true then _ else _;rw[er];by_cases p:r=[]
   ·rw[Qu (λz=>z p)];exact Kx (Kx ⟨f,rfl,y,F.take h C ⟨A,.inl p⟩⟩)
   ·rw[WI p];refine Ke ?_;show if decide (((f.map D.int).length:Int)<((r.map D.int).length:Int))=true then _ else _;rw[WG,WG];refine Xu (λJ=>?_) (λJ=>?_)
    ·have:=WN J
     exact⟨f,rfl,y,F.take h C ⟨A,.inr (by lia)⟩⟩
    ·have:¬(f.length:Int)<(r.length:Int):=λz=>J (WI z)
     exact⟨r,rfl,o,F.keep h C (.inr ⟨p,by lia⟩)⟩
  ·rintro s ⟨r,rfl,o,F⟩;rw[QK]at F;exact hR r (F.all λz=>L.mem_iff) o
def Zgb(DD:Def K mg "least_costs" Gc ["strips","wishes","pairs"])
  : Ia ζ:=by
 refine DD.fz Ma (λN n=>(bc (se (Pu.pz 3 Ma.nd<|Zle (Pv<|N ()) (PY KB) X5)<|Tu (Zbd (PU X6) Xx)<|Kk 3)<|bc (sO [4,5] Ql (iL<|xp (xf YV N<|a1<|xf Yu N<|a1<|xv 0) (o1 xi) o0) (gN 4)<|bc (sC 5 ["holder","members","wishes"] [none,some 4,some 1] n (je (Bg (K:=K)<|pv 4)<|SndI.c<|BS<|Xo 4) (gN 0) (f1<|tt<|xf YW N<|a3 (xv 1) (xv 0)<|xv 2)<|xv 0)<|b1<|se (EU (Pv<|N ()) (pv 3) (pv 4) (XW (Zk1 (K:=K) rfl) (by rfl) G.ZL boot_min<|az<|cz ["last","members","least","pairs"] [none,some 4,some 3,some 2] (N0 (K:=K)<|pv 5) ⟨(gk 0),Nk,(fz Wl (N ())<|XY (pv 1)<|XY (pv 0)<|XY (pv 2)<|XY (pv 3) KB)⟩) rfl)<|Cf 3 (Xo 4)<|Zcs<|sz<|Tv (Sw<|Xo 5) (Kk 0) Sa<|Tw<|Kz (Xo 1)<|Kz (Xo 0)<|Kz (Xo 2)<|Kz (Xo 3) X6)<|b1<|sV 3)) (.a ?_)
 ·rintro ds R X ⟨C,v,pa,c,rfl,hF,hz,hw,hu,hc,hL,hR⟩;refine⟨rfl,by simp,_,_,rfl,rfl,?_⟩;refine⟨C,rfl,hF,hz,_,rfl,P7 C,?_⟩;have hh:=P7 C;have nd:(Xy C).Nodup:=(Nc C).imp (λh=>Je h);generalize Xy C=hs at hh nd hc hL hR ⊢;have hsl:=DR hs;have x:=Sd hs;have A:=Li nd;have E:=M2 nd
  have y:(XF hs).length<=1024:=by
   rw[hsl];exact JG (j:=10) (by decide) hh
  obtain⟨T,eT⟩:=Zbl hs;rw[eT]at x A E y hR ⊢;refine⟨rfl,rfl,?_⟩
  have ec:Pu.cutD (List.map tD ([]::T)) (some 1) none=T.map tD:=by
   rw[TN,Se _ (by decide)];rfl
  rw[ec];refine Tz (xs:=T) (emb:=tD) (λi B=>∃f:List (List Key×V),B=[some (.bor<|.lst<|C.map prD),some (.bor<|.lst<|v.map prD),some (.bor<|.dT pa),some (.own<|.dT f),none,none]/\Tab v c ([]::T.take i) f) ⟨_,rfl,Zmc v c⟩ ?_ ?_
  ·rintro i hi B ⟨f,rfl,L⟩;have em:([]::T)[i+1]?=some T[i]:=by rw[QG,WH hi]
   have hmem:T[i]∈[]::T:=Qe em;have p:=x _ hmem;have Y:T[i]≠[]:=λe=>(Q7.mp E).1 (e▸Qg hi)
   have U:T[i]∉[]::T.take i:=λz=>by
    rcases WU.mp z with z|z
    ·exact Y z
    ·obtain⟨j,hj,e⟩:=Q9.mp z;rw[Qs]at hj;rw[VM]at e;exact QM.mp (Q7.mp E).2 j i (by lia) hi (by lia) e
   have hml:T[i].length<=10:=WV p.length_le hh
   have H:∀l∈T[i],X7 T[i] l∈[]::T.take i:=λl r=>by
    obtain⟨j,hj,e⟩:=A (i+1) _ em l r
    have:([]::T.take i)=([]::T).take (i+1):=by rw[List.take_succ_cons]
    rw[this];refine Qe (i:=j) ?_;rw[Vi hj];exact e
   have ndm:T[i].Nodup:=nd.sublist p
   have hkl:f.length<=1024:=by
    have:=Q4 List.length L.keys
    rw[WG,WG,Qa,Qs]at this;rw[Qa]at y;lia
   have etk:[]::T.take (i+1)=([]::T.take i)++[T[i]]:=by rw[Qp hi];rfl
   rw[etk];generalize T[i]=o at *;obtain⟨vs,Q⟩:=Oq λl r=>L.val _ (H l r);obtain⟨l0,hl0,hl0'⟩:=hL o p Y;refine⟨_,rfl,K8 (s:=.sh .non) (xs:=o) (emb:=D.int) (λh=>if Nf v o h=true then some (.int h)else none) (by lia) (λh hm=>?_) ?_⟩
   ·refine⟨o,h,v,rfl,hw,?_⟩;refine Xu (λg=>⟨_,rfl,WO g⟩) (λg=>WM g)
   ·rw[PX (λh=>Nf v o h)];refine K8 (xs:=o.filter (λh=>Nf v o h)) (emb:=D.int) (λl=>some (.int (vs l+((X7 o l).map (c · l)).sum))) (WV (QA _ _)<|by lia) (λl r=>?_) ?_
    ·obtain⟨u,hl2⟩:=Qv.mp r;exact⟨o,l,f,pa,(c · l),vs l,rfl,by lia,(Q l u).1,λm hm=>hc m (p.subset<|less_sub.subset hm) l (p.subset u),_,rfl,rfl⟩
    ·rw[T7];refine⟨(o.filter (λh=>Nf v o h)).map λl=>vs l+((X7 o l).map (c · l)).sum,by rw[Q0];rfl,?_,λM hM hle=>⟨_,_,FN o,rfl,by lia,_,rfl,L.put U (Zdx ndm hu (λl r=>(Q l r).2) ?_ ?_)⟩⟩
     ·rw[WG];exact List.length_pos_of_mem (Qv.mpr ⟨hl0,lastM_iff.mpr hl0'⟩)
     ·obtain⟨l,r,e⟩:=Qi.mp hM;obtain⟨u,hl2⟩:=Qv.mp r;exact⟨l,u,hl2,e.symm⟩
     ·intro l r J;exact hle _ (Qi.mpr ⟨l,Qv.mpr ⟨r,J⟩,rfl⟩)
  ·rintro B ⟨f,rfl,L⟩;rw[QK]at L;exact hR f L
def Zl5(s:XD K (Mk K<|X4 ζ) "__init__" "Village.__init__" AH ["self","strips"])
  : O1 ζ:=by
 refine s.fy Zlt (λl n=>(bc (sE<|xg Wf l ExcR.XQ<|a1<|xv 1)<|bc (se (ER (pv 0) (KG KB) rfl)<|Dk 0 G.Za G.Zc Znz<|P3 X6)<|bc (se (ER (pv 0) (KG<|az<|To (BN (K:=K)) (by rfl) G.Zi boot_list<|az<|pv 1) rfl)<|Dk 0 G.Za G.Ze Zrb<|P3<|sz<|Ff<|sz<|Xo 1)<|b1<|se (ER (pv 0) (KG<|az<|KG KB) rfl)<|Dk 0 G.Za G.Zf Zav<|P3<|sz<|P3 X6)) (.c ?_)
 ·rintro o u R X ⟨x,g,rfl,rfl,h,f⟩;refine⟨rfl,g,rfl,h,?_⟩;cases e:Sr g with
  |some c=>
   rw[e]at f;exact⟨_,rfl,⟨rfl,by simp⟩,f⟩
  |none=>
   rw[e]at f;refine⟨by simp,rfl,rfl,by decide,λb1=>?_⟩;refine⟨rfl,by simp,rfl,rfl,by decide,λr=>?_⟩;refine⟨by simp,by simp,rfl,rfl,by decide,λp=>?_⟩;exact⟨_,rfl,⟨rfl,by simp⟩,f b1 r p⟩
def Zd9(z:XD K (XB K (X4 ζ) "sell") "sell" "Village.sell" D4 ["self","place","holder"])
  : M5 ζ:=by
 refine z.fy Zez (λl n=>(bc (se (Pn<|XN Yw G.Za (hq<|l ()) ExcR.XQ<|pv 0)<|SC<|NO BY (Xo 0) X6)<|bc (sS 3 n<|xg Wh l ExcR.XQ<|a3 (xe (XN Yr G.Za (hq<|l ()) XT<|pv 0)<|Kh P8 (Xo 0) X6) (xv 1)<|xv 2)<|b1<|sF 2<|sF 1<|sF 3<|se (Kp<|T3 Yx G.Za (hq<|l ()) XT (pv 0)<|dz (PY<|dz NS (pv 1)<|pv 2) (pv 3)<|XN Ys G.Za (hq<|l ()) XT<|pv 0)<|Tr<|SR 0 BX<|uz (PU<|uz NK (Xo 1)<|Xo 2) (Xo 3)<|Kh Tq (Xo 0) X6)) (.c ?_)
 ·rintro o A R X ⟨x,b1,y,v,bk,fs,r,f,w,p,h,rfl,rfl,u,B,hw,s,g⟩;refine⟨rfl,?_⟩;unfold FL at g;refine⟨rfl,rfl,bk,fs++[f],r++[w],rfl,?_⟩;unfold NL;by_cases c:100<=bk.length
  ·rw[WO c]at g ⊢;exact⟨_,rfl,⟨rfl,by simp⟩,g⟩
  ·rw[WM c]at g ⊢;refine⟨rfl,rfl,bk,fs,r++[w],f,rfl,f,p,h,rfl,s,?_⟩;cases e:KD f p h with
   |some c=>
    rw[e]at g;exact⟨_,rfl,⟨rfl,by simp⟩,g⟩
   |none=>
    rw[e]at g;refine⟨rfl,rfl,by simp,rfl,rfl,bk,fs++[f],r,w,rfl,?_⟩;exact⟨x,b1,y,v,bk,fs++[f],r++[w],("sell",[p,h]),TZ f p h,w,rfl,rfl,u,by rw[WS];simp;lia,by rw[WS];simp;lia,_,rfl,⟨rfl,by simp⟩,g⟩
def Zm2(z:XD K (XB K (X4 ζ) "part") "part" "Village.part" Er ["self","place","width"])
  : Hs ζ:=by
 refine z.fy Zqa (λl n=>(bc (se (Pn<|XN Yw G.Za (hq<|l ()) ExcR.XQ<|pv 0)<|SC<|NO BY (Xo 0) X6)<|bc (sS 3 n<|xg Wi l ExcR.XQ<|a3 (xe (XN Yr G.Za (hq<|l ()) XT<|pv 0)<|Kh P8 (Xo 0) X6) (xv 1)<|xv 2)<|b1<|sF 2<|sF 1<|sF 3<|se (Kp<|T3 Yx G.Za (hq<|l ()) XT (pv 0)<|dz (PY<|dz NS (pv 1)<|pv 2) (pv 3)<|XN Ys G.Za (hq<|l ()) XT<|pv 0)<|Tr<|SR 0 BX<|uz (PU<|uz NK (Xo 1)<|Xo 2) (Xo 3)<|Kh Tq (Xo 0) X6)) (.c ?_)
 ·rintro o A R X ⟨x,b1,y,v,bk,fs,r,f,w,p,h,rfl,rfl,u,B,hw,s,g⟩;refine⟨rfl,?_⟩;unfold An at g;refine⟨rfl,rfl,bk,fs++[f],r++[w],rfl,?_⟩;unfold NL;by_cases c:100<=bk.length
  ·rw[WO c]at g ⊢;exact⟨_,rfl,⟨rfl,by simp⟩,g⟩
  ·rw[WM c]at g ⊢;refine⟨rfl,rfl,bk,fs,r++[w],f,rfl,f,p,h,rfl,s,?_⟩;cases e:Ku f p h with
   |some c=>
    rw[e]at g;exact⟨_,rfl,⟨rfl,by simp⟩,g⟩
   |none=>
    rw[e]at g;refine⟨rfl,rfl,by simp,rfl,rfl,bk,fs++[f],r,w,rfl,?_⟩;exact⟨x,b1,y,v,bk,fs++[f],r++[w],("part",[p,h]),PR f p h,w,rfl,rfl,u,by rw[WS];simp;lia,by rw[WS];simp;lia,_,rfl,⟨rfl,by simp⟩,g⟩
def Zjt(y:XD K (XB K (X4 ζ) "unite") "unite" "Village.unite" A9 ["self","place"])
  : G1 ζ:=by
 refine y.fy Zhf (λh n=>(bc (se (Pn<|XN Yw G.Za (hq<|h ()) ExcR.XQ<|pv 0)<|SC<|NO BY (Xo 0) X6)<|bc (sS 2 n<|xg Wj h ExcR.XQ<|a2 (xe (XN Yr G.Za (hq<|h ()) XT<|pv 0)<|Kh P8 (Xo 0) X6)<|xv 1)<|b1<|sF 1<|sF 2<|se (Kp<|T3 Yx G.Za (hq<|h ()) XT (pv 0)<|dz (PY<|bz NS<|pv 1) (pv 2)<|XN Ys G.Za (hq<|h ()) XT<|pv 0)<|Tr<|SR 0 BX<|uz (PU<|tz NK<|Xo 1) (Xo 2)<|Kh Tq (Xo 0) X6)) (.c ?_)
 ·rintro o z R X ⟨x,b1,v,u,bk,fs,l,f,w,p,rfl,rfl,s,A,hw,r,g⟩;refine⟨rfl,?_⟩;unfold FQ at g;refine⟨rfl,rfl,bk,fs++[f],l++[w],rfl,?_⟩;unfold NL;by_cases c:100<=bk.length
  ·rw[WO c]at g ⊢;exact⟨_,rfl,⟨rfl,by simp⟩,g⟩
  ·rw[WM c]at g ⊢;refine⟨rfl,rfl,bk,fs,l++[w],f,rfl,f,p,rfl,r,?_⟩;cases e:Ki f p with
   |some c=>
    rw[e]at g;exact⟨_,rfl,⟨rfl,by simp⟩,g⟩
   |none=>
    rw[e]at g;refine⟨rfl,rfl,by simp,rfl,rfl,bk,fs++[f],l,w,rfl,?_⟩;exact⟨x,b1,v,u,bk,fs++[f],l++[w],("unite",[p]),PJ f p,w,rfl,rfl,s,by rw[WS];simp;lia,by rw[WS];simp;lia,_,rfl,⟨rfl,by simp⟩,g⟩
def Zcg(z:XD K (XB K (X4 ζ) "wish") "wish" "Village.wish" AG ["self","ahead","behind"])
  : IF ζ:=by
 refine z.fy Zo1 (λl n=>(bc (se (Pn<|XN Yw G.Za (hq<|l ()) ExcR.XQ<|pv 0)<|SC<|NO BY (Xo 0) X6)<|bc (sS 3 n<|xg Wk l ExcR.XQ<|a3 (xe (XN Ys G.Za (hq<|l ()) XT<|pv 0)<|Kh Tq (Xo 0) X6) (xv 1)<|xv 2)<|b1<|sF 2<|sF 1<|sF 3<|se (Kp<|T3 Yx G.Za (hq<|l ()) XT (pv 0)<|dz (PY<|dz NS (pv 1)<|pv 2) (XN Yr G.Za (hq<|l ()) XT<|pv 0)<|pv 3)<|Tr<|SR 0 BX<|uz (PU<|uz NK (Xo 1)<|Xo 2) (Kh P8 (Xo 0) X6)<|Xo 3)) (.c ?_)
 ·rintro o A R X ⟨x,b1,y,v,bk,fs,r,f,w,p,h,rfl,rfl,u,B,hw,s,g⟩;refine⟨rfl,?_⟩;unfold FC at g;refine⟨rfl,rfl,bk,fs++[f],r++[w],rfl,?_⟩;unfold NL;by_cases c:100<=bk.length
  ·rw[WO c]at g ⊢;exact⟨_,rfl,⟨rfl,by simp⟩,g⟩
  ·rw[WM c]at g ⊢;refine⟨rfl,rfl,bk,fs++[f],r,w,rfl,w,p,h,rfl,s,?_⟩;cases e:Kj w p h with
   |some c=>
    rw[e]at g;exact⟨_,rfl,⟨rfl,by simp⟩,g⟩
   |none=>
    rw[e]at g;refine⟨rfl,rfl,by simp,rfl,rfl,bk,fs,r++[w],f,rfl,?_⟩;exact⟨x,b1,y,v,bk,fs++[f],r++[w],("wish",[p,h]),f,w++[(p,h)],rfl,rfl,u,by rw[WS];simp;lia,by rw[WS];simp;lia,_,rfl,⟨rfl,by simp⟩,g⟩
def Zc4(s:Def K mg "_law_book_is" Ef ["_law_found","_law_due"])
  : R0 ζ:=by
 refine s.fz Zcn (λg n=>(bc (sI (tp<|wo (tN<|tt<|xe (XW (TM (K:=K)) (by rfl) G.Zb QP<|bz (pv 0)<|T4 (v:=.ty "list") rfl G.Zi boot_list rfl)<|TR<|tz (Xo 0) TC)<|wO<|tn g (xl G.len<|xv 0)<|xl G.len<|xv 1) (b1<|sR xb) b0)<|bc (sO [2] Ql (ir G.Zd<|a1<|xl G.len<|xv 1) (gN 2)<|b1<|sI (tN<|tt<|xf YE g<|a2 (xx (xv 0)<|xv 2)<|xx (xv 1)<|xv 2) (b1<|sR xb) b0)<|b1<|sR xb)) (.a ?_)
 ·rintro y R X ⟨bk,rfl,hq,u,r⟩;refine⟨rfl,?_⟩;have x:(bk.map dD).length=bk.length:=WG ..;refine⟨_,.same _,Ke (Tt rfl ?_)⟩;refine⟨⟨by lia,by lia⟩,PZ (λi f=>f=[some (.bor<|.lst<|bk.map dD),some (.bor<|.lst<|bk.map dD),none]) rfl ?_ ?_⟩
  ·rintro i f p rfl;have o:i<(((bk.map dD).length:Nat):Int).toNat:=p;have ez:(0:Int)+(i:Int)=(i:Int):=by lia
   have h:i<bk.length:=by lia
   have l:atI (bk.map dD) (0+(i:Int))=some (dD bk[i]):=by rw[ez];exact BL h
   refine⟨_,l,_,l,bk[i],?_,hq _ (Qg h),Ke rfl⟩;show[(arg (dD bk[i])).d,(arg (dD bk[i])).d]=_;rw[FV];rfl
  ·rintro f rfl;exact r
def Zr5(J:Def K mg "_law_back" Cr ["_law_village","_law_past"])
  : Rh ζ:=by
 refine J.fz Fh (λl n=>(bc (sS 2 n<|xt a0)<|bc (sS 3 n<|xL a0)<|bj (se (ExcR.MW (λpins D=>(P9<|Pu.pz 2 Fh.nd<|SA YA G.Za (hq<|l ()) (ExcR.SG (pins:=pins) (D:=D) (i:=4) rfl rfl Fh.nd rfl rfl rfl G.Zm (by decide) (λa=>(P9<|Pu.pz 3 Fh.nd<|KG<|bz (XW (ExcR.O9 (K:=K)) (by rfl) G.Zb QP<|bz (pv 4)<|ExcR.Zom G.Z7)<|XW (ExcR.O9 (K:=K)) (by rfl) G.Zb QP<|bz (pv 4)<|T4 (v:=.ty "ValueError") rfl G.ZA (by decide +kernel) rfl)))<|pv 0))) (Zfv (E':=λ_=>E0) ["NothingDone"] (λc z=>by
    simp only[WU,Vq,or_false]at z;rcases z with rfl
    ·exact⟨G.Zg,G.Zn⟩)
    (λD=>(CQ (HE 0 Oj X6)<|Kk 2)) (Tu (P3<|tz (Le<|tz (Xo 4) Zfl)<|Le<|tz (Xo 4) TC)<|Kk 3)))<|bc (sI (tq l (xl G.len<|xv 1) xi) (b1<|se (Kp<|TU (Zdl (K:=K)<|show _<cLine from(l ()).units0) (pv 3) (KG<|bz Nu Nu)<|Pj _)<|SK<|Zr7 (Xo 3)<|P3<|tz Nw Nw) b0)<|bc (se (Pu.pz 5 Fh.nd<|jx K (SE Qw Vz V0 BD<|pv 1) X5)<|CQ (Zdc<|Hf 1)<|Kk 5)<|b1<|se (Kp<|SB (TU (GO (K:=K)<|show _<cLine from(l ()).units0) (pv 3) (KG KB)<|Pj _)<|Sx<|fz YE (l ())<|bz (pv 2)<|pv 5)<|SK<|Bs (AZ (Xo 3)<|P3 X6)<|Tw<|tz (Xo 2)<|Xo 5)) (.d ?_)
 ·rintro o1 M L R X ⟨x,b1,r,p,a,f0,u,rfl,rfl,rfl,B,o⟩;refine⟨rfl,?_⟩;have A:=Ts f0 u;refine⟨by simp,by simp,?_⟩;rcases QZ u with rfl|⟨h,y,rfl⟩
  ·refine TL (λf=>∃t:Option S,f=[some (.own<|vO (ExcR.Xs mg "Village") x b1 r p (bkH []) (fsH f0 [])<|wsH []),some (.own<|.lsA a<|XA f0 []),some (.sh<|.tup []),some (.own<|.lst [.bl true,.bl true]),t,none]) ?_ ?_
   ·refine⟨rfl,rfl,x,b1,r,p,bkH [],fsH f0 [],wsH [],rfl,rfl,rfl,rfl,λ_=>?_,λb0 q e=>by cases b0<;>cases e⟩;exact⟨by simp,_,G.Zg,G.Zr,_,G.Zg,G.Zq,by simp,_,rfl⟩
   ·rintro f ⟨t,rfl⟩;refine⟨by simp,[.bl true,.bl true],[.bl true,.bl true],rfl,rfl,rfl,rfl,?_⟩;exact⟨_,_,rfl,rfl,⟨rfl,by simp⟩,rfl,o⟩
  ·rw[Vy]at o A B ⊢;rw[QC]at o;refine TL (λf=>f=[some (.own<|vO (ExcR.Xs mg "Village") x b1 r p (bkH h) (fsH f0 h)<|wsH h),some (.own<|.lsA a<|XA f0 (h++[y])),some (.sh<|dD y.1.q),some (.own<|.lst []),none,none]) ?_ ?_
   ·refine⟨rfl,rfl,x,b1,r,p,bkH (h++[y]),fsH f0 (h++[y]),wsH (h++[y]),rfl,rfl,by rw[LY,SD],by rw[OT,SD],λe=>?_,λb0 q e=>?_⟩
    ·rw[Bv]at e;simp at e
    ·rw[Bv]at e;obtain⟨rfl,H⟩:=List.append_inj' e rfl;cases H
     rw[B4,Bf,QC,QC];exact rfl
   ·rintro f rfl;have s:(XA f0 (h++[y])).length=h.length+2:=by rw[Ts,WS,Q6]
    have g:¬(((XA f0 (h++[y])).length:Nat):Int)=1:=by lia
    have C:(XA f0 (h++[y]))[(XA f0 (h++[y])).length-1]?=some (Sf y):=by
     rw[s,BA,Qq (by rw[Ts];lia),Ts];rw[show h.length+2-1-(h.length+1)=0 by lia];rfl
    have E:(XA f0 (h++[y])).dropLast=XA f0 h:=by rw[BA,QC]
    show if decide ((((XA f0 (h++[y])).length:Nat):Int)=1)=true then _ else _;rw[Qu g];refine Ke ⟨_,C,_,rfl,?_⟩;rw[E];refine⟨QV _,y.1.q,rfl,by have:=y.1.q_len;lia,?_⟩;exact⟨_,_,rfl,rfl,⟨rfl,by simp⟩,rfl,o⟩
def Zij(M:Def K mg "_law_opening" DY ["_law_script","_law_menu_here"])
  : M4 ζ:=by
 refine M.fz Oa (λl n=>(bc (sS 2 n<|xf Yy l<|a2 (xf Yt l<|a2 (xv 0) xi) xi)<|bc (se (λ{_}=>(@Pu.pz _ _ _ _ _ _ 3 Oa.nd (@Lg _ _ _ _ _ _ _ (M9 (K:=K)) (@KG _ _ _ _<|@XY _ _ _ _ _ X5 (@XY _ _ _ _ _ X5 (@XY _ _ _ _ _ X5 (@XY _ _ _ _ _ X5 (@XY _ _ _ _ _ X5 (@XY _ _ _ _ _ X5 (@XY _ _ _ _ _ X5 (@XY _ _ _ _ _ X5 (@XY _ _ _ _ _ (jx K (pv 1) X5) KB rfl) rfl) rfl) rfl) rfl) rfl) rfl) rfl) rfl) (Ni XH (pv 2) X5) (λ_ _=>rfl)) rfl (by first|exact Or.inl rfl|exact Or.inr rfl) rfl (by first|exact .inl rfl|exact .inr rfl|assumption)))<|Tu (Kc (P3<|Kz Xx<|Kz Xx<|Kz Xx<|Kz Xx<|Kz Xx<|Kz Xx<|Kz Xx<|Kz Xx<|Kz (Kc (Xo 1) Xx) X6)<|XI (Xo 2) Xx)<|Kk 3)<|bc (sS 4 n<|xL a0)<|bc (sO [5,6] Ql (ir G.Zd<|a1<|xv 3) (gN 5)<|bc (sS 6 n<|xf YF l<|a2 (xf Yy l<|a2 (xv 2)<|xo XJ XG xi<|xv 5)<|xv 1)<|bj (sI (tq l (xo XH XI (xv 2) xi) xi) (b1<|sS 6 n<|xt<|a2 (xo XJ XG xi<|xo XH XI (xo XJ XG (xv 2)<|xv 5) xi)<|xo XJ XG xi<|xo XH XI (xo XJ XG (xo XJ XG (xo XJ XG (xv 2)<|xv 5) xi)<|xo Ko Kq (xv 5) xi) xi) b0)<|bj (sI (tq l (xo XH XI (xv 2) xi) xi) (b1<|sS 6 n<|xt<|a2 (xf Yv l<|a2 (xv 1)<|xv 5)<|xf Yv l<|a2 (xv 1)<|xo XH XI (xo XJ XG (xv 5) xi)<|xv 3) b0)<|b1<|sA 4<|xt<|a3 xs (xx (xv 6) xi)<|xx (xv 6) xi)<|b1<|sV 4)) (.a ?_)
 ·rintro ds R X ⟨r,m,rfl,A,L⟩;refine⟨rfl,?_⟩;have o:=A;obtain⟨a,b,c,d,e,rfl,Y,U,T,hd,Q⟩:=A;refine⟨r,1,rfl,by decide,_,_,rfl,?_⟩;generalize mixP (r.getD (1:Int).toNat 0) 300=p;have B:0<=p % 9/\p % 9<9:=by lia
  obtain⟨many,em,N⟩:∃v:Int,atI ([0,1,2,3,4,6,9,24,a].map D.int) (p % 9)=some (.int v)/\0<=v/\v<=24:=by
   refine⟨_,Pr (f:=D.int) (xs:=[0,1,2,3,4,6,9,24,a]) B.1 B.2,?_⟩
   have s:∀v∈([0,1,2,3,4,6,9,24,a]:Ye),0<=v/\v<=24:=by
    intro v z;simp at z;rcases z with rfl|rfl|rfl|rfl|rfl|rfl|rfl|rfl|rfl<;>lia
   exact s _ (Qg _)
  refine⟨_,rfl,by simp,(by show(0:Int)<9;decide),_,em,by simp,⟨by lia,by lia⟩,?_⟩;refine PZ (λi g=>∃h:Yd,h.length=i/\g=[some (.bor<|.scr r),some (.bor<|.lst (([a,b,c,d,e]:Ye).map D.int)),some (.sh<|.int p),some (.sh<|.int many),some (.own (h.map λq=>dD (Dd.wish q.1 q.2).q)),none,none]) ⟨[],rfl,rfl⟩ ?_ ?_
  ·rintro i g J ⟨h,hq,rfl⟩;have H:i<many.toNat:=J;have E:(h.map λq=>dD (Dd.wish q.1 q.2).q).length=h.length:=WG ..;refine⟨_,_,rfl,_,_,rfl,o,λu p2=>?_⟩;refine TL (λg=>∃(x y:Int),g=[some (.bor<|.scr r),some (.bor<|.lst (([a,b,c,d,e]:Ye).map D.int)),some (.sh<|.int p),some (.sh<|.int many),some (.own (h.map λq=>dD (Dd.wish q.1 q.2).q)),some (.sh<|.int (0+(i:Int))),some (.sh<|prD (x,y))]) ?_ ?_
   ·refine⟨(by show(0:Int)<9;decide),Xu (λ_=>?_) (λ_=>⟨u,p2,rfl⟩)⟩;exact⟨(by show(0:Int)<10;decide),⟨by decide,by decide⟩,(by show(0:Int)<10;decide),by simp,_,_,rfl⟩
   ·rintro g ⟨u,p2,rfl⟩;refine TL (λg=>∃(x y:Int),g=[some (.bor<|.scr r),some (.bor<|.lst (([a,b,c,d,e]:Ye).map D.int)),some (.sh<|.int p),some (.sh<|.int many),some (.own (h.map λq=>dD (Dd.wish q.1 q.2).q)),some (.sh<|.int (0+(i:Int))),some (.sh<|prD (x,y))]) ?_ ?_
    ·refine⟨(by show(0:Int)<9;decide),Xu (λ_=>?_) (λ_=>⟨u,p2,rfl⟩)⟩;exact⟨_,_,rfl,o,λh1 _ _ _=>⟨(by show 0<many;lia),_,_,rfl,o,λh2 _ _ _=>⟨by simp,_,_,rfl⟩⟩⟩
    ·rintro g ⟨x,y,rfl⟩;refine⟨_,KL _ _,_,OG _ _ (.inr rfl),by simp,by lia,?_⟩;exact⟨h++[(x,y)],by rw[WS,hq];rfl,by rw[WZ];rfl⟩
  ·rintro g ⟨h,hq,rfl⟩;have C:h.length=many.toNat:=hq;exact L h (by lia)
def Zou(DD:Def K mg "_law_deed" Ei ["_law_cell","_law_menu_here","_law_now"])
  : OW ζ:=by
 refine DD.fz Zog (λl n=>(bc (sS 3 n<|xo XH XI (xv 0) xi)<|bc (sS 4 n<|xo Ko Kq (xv 0) xi)<|bc (sS 5 n<|xf Wd l<|a2 (xv 4)<|xx (xv 2) xi)<|bc (sS 6 n<|xo Ko Kq (xo Ko Kq (xv 4) xi)<|xe (XW (IH rfl) (by rfl) G.ZK boot_max<|bz X5<|ln K G.len<|jx K (pv 2) X5)<|Zae<|tz Xx<|Sg<|sz<|Kc (Xo 2) Xx)<|bc (sI (tc Pk Pi (xv 3) xi) (b1<|sF 5<|sR<|xt<|a3 xs (xv 5)<|xf Y3 l<|a2 (xv 6)<|xf Yv l<|a2 (xv 1)<|xo XH XI (xo Ko Kq (xv 6) xi)<|xx (xv 1) xi) b0)<|bc (sI (tc Pk Pi (xv 3) xi) (b1<|sF 5<|sR<|xt<|a3 xs (xv 5)<|xf We l<|a3 (xv 6) (xx (xv 2) xi)<|xv 5) b0)<|bc (sI (tq l (xv 3) xi) (b1<|sF 5<|sR<|xt<|a2 xs<|xv 5) b0)<|bc (sS 7 n<|xf YF l<|a2 (xv 4)<|xv 1)<|bj (sI (tp<|wa (tq l (xv 3) xi)<|wa (tc KF KE (xo XH XI (xv 4) xi) xi)<|wA<|te (T8 (Zfo (K:=K)<|show _<cLine from(l ()).units0) (jx K (pv 2) X5) (KG KB)<|Pj _)<|P1<|AZ (Kc (Xo 2) Xx)<|P3 X6) (b1<|sS 7 n<|xx (xx (xv 2) xi)<|xo XH XI (xo Ko Kq (xv 4) xi)<|xl G.len<|xx (xv 2) xi) b0)<|bc (sI (tc Pk Pi (xv 3) xi) (b1<|sR<|xt<|a3 (xx (xL<|a2 xs xs)<|xo Ko Kq (xv 3) xi) (xx (xv 7) xi)<|xx (xv 7) xi) b0)<|b1<|sR<|xt<|a1 xs)) (.a ?_)
 ·rintro ds R X ⟨c,m,f,w,Q,rfl,N,M,hF,hw,u,hB⟩;refine⟨rfl,?_⟩;have x:=N;have o:atI (plD f::plD w::Q) 1=some (plD w):=B5 (by decide) rfl;have hl:(f.map prD).length=f.length:=WG ..;have Y:(w.map prD).length=w.length:=WG ..;have A:∀z:Int,0<(if z>1 then z else 1)/\((if z>1 then z else 1)=z\/(if z>1 then z else 1)=1):=λz=>by split<;>lia
  have s:=A (((f.map prD).length:Nat):Int);refine⟨(by show(0:Int)<9;decide),⟨by decide,by decide⟩,_,KL _ _,_,f,rfl,M,λp=>?_⟩;refine⟨⟨by decide,by decide⟩,_,KL _ _,⟨s.1,Int.lt_of_le_of_lt (b:=1000) (by rcases s.2 with w|w<;>rw[w]<;>lia) (by decide)⟩,?_⟩
  obtain⟨L,m1,m2,m3,m4,em,ha,hb,hc,hd,he⟩:=N;have U:atI (m.map D.int) 0=some (.int L):=by rw[em];rfl
  refine Xu (λ_=>?_) (λ_=>Xu (λ_=>?_) (λ_=>Xu (λ_=>?_) (λg4=>?_)))
  ·exact⟨⟨by decide,by decide⟩,_,U,(by show 0<L;lia),m,_,rfl,x,λh _ _ _=>⟨_,_,rfl,λv=>⟨by simp,u (.sell p v)⟩⟩⟩
  ·exact⟨_,KL _ _,_,f,p,rfl,M,hF,λv=>⟨by simp,u (.part p v)⟩⟩
  ·exact⟨by simp,u (.unite p)⟩
  ·refine⟨_,m,rfl,x,λa b=>?_⟩;refine TL (λr=>∃(a b:Int) (J H E:Option S),r=[some (.sh<|.int c),some (.bor<|.lst<|m.map D.int),some (.bor<|.tup (plD f::plD w::Q)),some (.sh<|.int (c % 9)),J,H,E,some (.sh<|prD (a,b))]) ?_ ?_
   ·refine Xu (λ_=>⟨(by show(0:Int)<4;decide),Xu (λ_=>⟨_,o,by simp,?_⟩) (λ_=>Ke ⟨a,b,_,_,_,rfl⟩)⟩) (λ_=>Ke ⟨a,b,_,_,_,rfl⟩);have C:(w.map prD).isEmpty=decide (w=[]):=by cases w<;>simp
    show if (!(w.map prD).isEmpty)=true then _ else _;rw[C];refine Xu (λg=>?_) (λg=>⟨a,b,_,_,_,rfl⟩);have y:w≠[]:=λz=>by rw[WI z]at g;cases g
    have hp:0<w.length:=VE.mpr y;have T:=Int.emod_nonneg (c / 9 / 4) (show(((w.map prD).length:Nat):Int)≠0 by lia);have q2:=JT (c / 9 / 4) (show 0<(((w.map prD).length:Nat):Int) by lia);exact⟨_,o,⟨by decide,by decide⟩,_,o,(by show 0<(((w.map prD).length:Nat):Int);lia),_,Pr (f:=prD) (xs:=w) T (by lia),_,_,_,_,_,rfl⟩
   ·rintro r ⟨a,b,J,H,E,rfl⟩;refine Xu (λg=>?_) (λg=>⟨by simp,hB⟩);have g':c % 9<8:=WN g;have hk:c % 9 / 7=0\/c % 9 / 7=1:=by lia
    have ex:∃k:Str,atI [D.str "wish",.str "drop"] (c % 9 / 7)=some (.str k)/\(k=("wish" : Str)\/k=("drop" : Str)):=by
     rcases hk with e|e<;>rw[e]
     ·exact⟨_,rfl,.inl rfl⟩
     ·exact⟨_,rfl,.inr rfl⟩
    obtain⟨k,ek,B⟩:=ex;refine⟨by simp,⟨by decide,by decide⟩,_,ek,_,KL _ _,_,OG _ _ (.inr rfl),by simp,?_⟩;rcases B with rfl|rfl
    ·exact u (.wish a b)
    ·exact u (.drop a b)
def Zja(B:Def K mg "_law_priced" AU ["_law_told","_law_strips"])
  : Ic ζ:=by
 refine B.fz Zrr (λh n=>(bc (sI (tq h (xl G.len<|xv 0) xi) (b1<|sR<|xf Y4 h<|a2 (xx (xv 0) xi)<|xx (xv 0) xi) b0)<|bc (sI (tp<|wo (tN<|tt<|xe (XW (TM (K:=K)) (by rfl) G.Zb QP<|bz (jx K (pv 0) X5)<|T4 (v:=.ty "list") rfl G.Zi boot_list rfl)<|TR<|tz (Kc (Xo 0) Xx) TC)<|wO<|tN<|tt<|xf Y4 h<|a2 (xe (XW (FP (K:=K) (w:=w) rfl) (by rfl) G.Zj boot_sorted<|az<|jx K (pv 0) X5)<|Al<|sz<|Kc (Xo 0) Xx)<|xf YZ h<|a1<|xv 1) (b1<|sR xb) b0)<|b1<|sR<|xf Y4 h<|a2 (xL<|a1<|xx (xv 0) xi)<|xL<|a1<|xf Wa h<|a2 (xv 1)<|xx (xv 0) xi)) (.a ?_)
 ·rintro ds R X ⟨a,b,c,Y,f,w,rfl,z,l,M,N,p⟩;refine⟨rfl,?_⟩;rcases z with⟨r,U,T,Q,rfl⟩|⟨y,o,v,C,E,g,x,L,J,rfl⟩
  ·exact⟨_,rfl,_,rfl,r,.inr rfl,by omega,p⟩
  have lo:o.length<=10:=by rw[g.perm.length_eq];exact P7 f
  have A:Tg f o f.length=v:=by
   have e:oc (pcc f) o=Tg f o f.length:=Za6 l g.perm;rw[←e];exact(KA.uniq ⟨⟨o,g.perm,g.keeps,rfl⟩,g.le⟩ x)
  refine⟨_,rfl,true,.same _,Ke ⟨_,rfl,o,rfl,by omega,λu s p2=>?_⟩⟩;obtain rfl:=HU g.perm s p2;have H:=P7 f;refine⟨f,rfl,by omega,Xy f,.inl rfl,by omega,Ke ?_⟩;refine⟨_,rfl,by simp,_,rfl,f,o,rfl,l,by omega,RQ l g.perm,?_⟩;rw[A];exact⟨by simp,[v],.inl rfl,by simp,p⟩
def Zci(z:Def K mg "check_no_ring" Dt ["strips","wishes"])
  : La ζ:=by
 refine z.fy Zj3 (λf n=>(bc (sS 2 n<|xf YG f<|a2 (xf Yu f<|a1<|xv 0)<|xv 1)<|b1<|sI (tt<|xv 2) (b1<|sF 2<|se (ExcR.Zkp YL (hq<|f ()) G.Zh ExcR.Zc0 rfl rfl<|az<|pv 2)<|Zqe<|sz<|Xo 2) b0)) (.a ?_)
 ·rintro C R X ⟨l,o,rfl,y,p,s,u,v⟩;refine⟨rfl,l,rfl,y,p,_,o,rfl,(Nc l).imp (λh=>Je h),WV (P7 l) (by decide),λr f B=>?_⟩;by_cases e:r=[]
  ·have x:=(f.none_iff s).mp e;subst e;exact Ke (A:=False) (v x)
  ·have hx:=u r f e;refine Xu (λ_=>⟨r,rfl,hx⟩) (λg=>absurd g ?_);cases r with
   |nil=>exact absurd rfl e
   |cons a t=>simp
def Zhx(v:XD K (XB K (X4 ζ) "ring") "ring" "Village.ring" EX ["self"])
  : RS ζ:=by
 refine v.fz Zgs (λg n=>(b1<|sr<|xf YG g<|a2 (xf Yu g<|a1<|xe (XN Yr G.Za (hq<|g ()) XT<|pv 0)<|Kh P8 (Xo 0) X6)<|xe (XN Ys G.Za (hq<|g ()) XT<|pv 0)<|Kh Tq (Xo 0) X6)) (.a ?_)
 ·rintro x R X ⟨bk,fs,l,f,w,rfl,u,o,s⟩;refine⟨rfl,rfl,rfl,bk,fs,l++[w],f,rfl,f,rfl,u,o,rfl,rfl,bk,fs++[f],l,w,rfl,?_⟩;exact⟨_,w,rfl,(Nc f).imp (λh=>Je h),WV (P7 f) (by decide),λr g p=>s r g p⟩
def Zev(B:Def K mg "_law_call" AJ ["_law_village","_law_deed_here"])
  : M6 ζ:=by
 refine B.fy Zc3 (λu n=>(bc (sI (tq u (xx (xv 1) xi) xs) (b1<|se (Kp<|T3 Wv G.Za (hq<|u ()) ExcR.XQ (pv 0)<|bz (jx K (pv 1) X5)<|jx K (pv 1) X5)<|Tr<|BC 0 Zoo<|tz (Kc (Xo 1) Xx)<|Kc (Xo 1) Xx) b0)<|bc (sI (tq u (xx (xv 1) xi) xs) (b1<|se (Kp<|T3 Ww G.Za (hq<|u ()) ExcR.XQ (pv 0)<|bz (jx K (pv 1) X5)<|jx K (pv 1) X5)<|Tr<|BC 0 Zme<|tz (Kc (Xo 1) Xx)<|Kc (Xo 1) Xx) b0)<|bc (sI (tq u (xx (xv 1) xi) xs) (b1<|se (Kp<|T3 Wx G.Za (hq<|u ()) ExcR.XQ (pv 0)<|az<|jx K (pv 1) X5)<|Tr<|BC 0 Zr8<|sz<|Kc (Xo 1) Xx) b0)<|bc (sI (tq u (xx (xv 1) xi) xs) (b1<|se (Kp<|T3 Wy G.Za (hq<|u ()) ExcR.XQ (pv 0)<|bz (jx K (pv 1) X5)<|jx K (pv 1) X5)<|Tr<|BC 0 Ze8<|tz (Kc (Xo 1) Xx)<|Kc (Xo 1) Xx) b0)<|b1<|se (Kp<|T3 Wn G.Za (hq<|u ()) ExcR.XQ (pv 0)<|bz (jx K (pv 1) X5)<|jx K (pv 1) X5)<|Tr<|BC 0 Zrj<|tz (Kc (Xo 1) Xx)<|Kc (Xo 1) Xx)) (.c ?_)
 ·rintro o C R X ⟨x,b1,s,r,bk,fs,l,f,w,d,rfl,rfl,y,v,hw,z,A,g⟩;refine⟨rfl,?_⟩;cases d with
  |sell p h=>
   refine⟨_,rfl,?_⟩;refine⟨rfl,rfl,_,rfl,_,rfl,x,b1,s,r,bk,fs,l,f,w,p,h,rfl,rfl,y,v,hw,z,?_⟩;have g:Kn (FL bk f p h) (X<|vO (ExcR.Xs mg "Village") x b1 s r bk (fs++[f]) (l++[w])) (R (vO (ExcR.Xs mg "Village") x b1 s r (bk++[(Dd.sell p h).q]) (fs++[f]++[(Dd.sell p h).fld f]) (l++[w]++[(Dd.sell p h).wsh w]))<|.int (bk.length+1)):=g;cases e:FL bk f p h with
   |some c=>rw[e]at g;exact⟨_,rfl,⟨rfl,by simp⟩,g⟩
   |none=>rw[e]at g;exact⟨_,rfl,⟨rfl,by simp⟩,g⟩
  |part p h=>
   refine⟨_,rfl,_,rfl,?_⟩;refine⟨rfl,rfl,_,rfl,_,rfl,x,b1,s,r,bk,fs,l,f,w,p,h,rfl,rfl,y,v,hw,z,?_⟩;have g:Kn (An bk f p h) (X<|vO (ExcR.Xs mg "Village") x b1 s r bk (fs++[f]) (l++[w])) (R (vO (ExcR.Xs mg "Village") x b1 s r (bk++[(Dd.part p h).q]) (fs++[f]++[(Dd.part p h).fld f]) (l++[w]++[(Dd.part p h).wsh w]))<|.int (bk.length+1)):=g;cases e:An bk f p h with
   |some c=>rw[e]at g;exact⟨_,rfl,⟨rfl,by simp⟩,g⟩
   |none=>rw[e]at g;exact⟨_,rfl,⟨rfl,by simp⟩,g⟩
  |unite p=>
   refine⟨_,rfl,_,rfl,_,rfl,?_⟩;refine⟨rfl,rfl,_,rfl,x,b1,s,r,bk,fs,l,f,w,p,rfl,rfl,y,v,hw,z,?_⟩;have g:Kn (FQ bk f p) (X<|vO (ExcR.Xs mg "Village") x b1 s r bk (fs++[f]) (l++[w])) (R (vO (ExcR.Xs mg "Village") x b1 s r (bk++[(Dd.unite p).q]) (fs++[f]++[(Dd.unite p).fld f]) (l++[w]++[(Dd.unite p).wsh w]))<|.int (bk.length+1)):=g;cases e:FQ bk f p with
   |some c=>rw[e]at g;exact⟨_,rfl,⟨rfl,by simp⟩,g⟩
   |none=>rw[e]at g;exact⟨_,rfl,⟨rfl,by simp⟩,g⟩
  |wish p h=>
   refine⟨_,rfl,_,rfl,_,rfl,_,rfl,?_⟩;refine⟨rfl,rfl,_,rfl,_,rfl,x,b1,s,r,bk,fs,l,f,w,p,h,rfl,rfl,y,v,hw,A,?_⟩;have g:Kn (FC bk w p h) (X<|vO (ExcR.Xs mg "Village") x b1 s r bk (fs++[f]) (l++[w])) (R (vO (ExcR.Xs mg "Village") x b1 s r (bk++[(Dd.wish p h).q]) (fs++[f]++[(Dd.wish p h).fld f]) (l++[w]++[(Dd.wish p h).wsh w]))<|.int (bk.length+1)):=g;cases e:FC bk w p h with
   |some c=>rw[e]at g;exact⟨_,rfl,⟨rfl,by simp⟩,g⟩
   |none=>rw[e]at g;exact⟨_,rfl,⟨rfl,by simp⟩,g⟩
  |drop p h=>
   refine⟨_,rfl,_,rfl,_,rfl,_,rfl,?_⟩;refine⟨rfl,rfl,_,rfl,_,rfl,x,b1,s,r,bk,fs,l,f,w,p,h,rfl,rfl,y,v,hw,A,?_⟩;have g:Kn (Ac bk w p h) (X<|vO (ExcR.Xs mg "Village") x b1 s r bk (fs++[f]) (l++[w])) (R (vO (ExcR.Xs mg "Village") x b1 s r (bk++[(Dd.drop p h).q]) (fs++[f]++[(Dd.drop p h).fld f]) (l++[w]++[(Dd.drop p h).wsh w]))<|.int (bk.length+1)):=g;cases e:Ac bk w p h with
   |some c=>rw[e]at g;exact⟨_,rfl,⟨rfl,by simp⟩,g⟩
   |none=>rw[e]at g;exact⟨_,rfl,⟨rfl,by simp⟩,g⟩
def Za8(z:Def K mg "_law_stands" Gg ["_law_village","_law_past"])
  : RM ζ:=by
 refine z.fz Zik (λg n=>(bc (sI (tN<|tt<|xf YD g<|a2 (xe (XN Yr G.Za (hq<|g ()) XT<|pv 0)<|Kh P8 (Xo 0) X6)<|xx (xx (xv 1)<|xe (P2 Po X5)<|Pp Xx) xi) (b1<|sR xb) b0)<|bc (sI (tN<|tt<|xf YD g<|a2 (xe (XN Ys G.Za (hq<|g ()) XT<|pv 0)<|Kh Tq (Xo 0) X6)<|xx (xx (xv 1)<|xe (P2 Po X5)<|Pp Xx) xi) (b1<|sR xb) b0)<|b1<|sR<|xf Wz g<|a2 (xe (XN Y8 G.Za (hq<|g ()) XT<|pv 0)<|Kh Iy (Xo 0) X6)<|xe (cz ["_law_one"] [none] (N0 (K:=K)<|De (AO (K:=K)) (pv 1) (F7 X5) RD) ⟨(gk 0),Nk,(jx K (pv 0) X5)⟩)<|Tv (Zfi (Xo 1) (Fu Xx) HM) (Kk 0) Sa<|Kc (Xo 0) Xx)) (.a ?_)
 ·rintro L R X ⟨f0,f,rfl,E,s,hw,u⟩;refine⟨rfl,?_⟩;obtain⟨fs,p,B⟩:=Bu f0 f;obtain⟨r,l,A⟩:=BJ f;obtain⟨d,o⟩:=FZ f0 f;have J:(XS f0 f).length<=1000:=s _ (by rw[p];simp);have H:(XO f).length<=1000:=hw _ (by rw[l];simp);have C:=SD f
  have y:∀q∈bkH f,q.2.length<=100:=λq hq=>by
   unfold bkH at hq;obtain⟨h,_,rfl⟩:=Qi.mp hq
   have:=h.1.q_len
   lia
  have v:cutD (XA f0 f) (some 1) none=f.map Sf:=by
   rw[Se _ (by decide)];rfl
  refine⟨rfl,rfl,bkH f,fs,wsH f,XS f0 f,by rw[←p];rfl,?_⟩;refine⟨_,o,_,rfl,XS f0 f,rfl,by lia,Ke ?_⟩;refine⟨rfl,rfl,bkH f,fsH f0 f,r,XO f,by rw[←l];rfl,?_⟩;refine⟨_,o,_,rfl,XO f,rfl,by lia,Ke ?_⟩;refine⟨rfl,rfl,bkH f,fsH f0 f,wsH f,rfl,?_⟩;show BV _ _ _ _ _ (cutD (XA f0 f) (some 1) none).length (λi=>arg ((cutD (XA f0 f) (some 1) none).getD i .non)) _;rw[v];refine Zfs (xs:=f) (emb:=Sf) (λh=>some (dD h.1.q)) (by lia) (λh _=>?_) ?_
  ·refine⟨_,rfl,_,?_,rfl⟩;show(arg<|dD h.1.q).shd=_;rw[FV];rfl
  ·rw[T7 (λh:Dd×Yd×Yd=>dD h.1.q)]
   have x:f.map (λh:Dd×Yd×Yd=>dD h.1.q)=(bkH f).map dD:=by
    unfold bkH;rw[Q0];rfl
   rw[x];exact⟨bkH f,rfl,y,by lia,u⟩
def Zek(J:Def K mg "cost_table" Ex ["strips","wishes"])
  : MH ζ:=by
 refine J.fy Zjq (λp n=>(bc (sE<|xg YJ p ExcR.XQ<|a2 (xv 0)<|xv 1)<|bc (sS 2 n<|xf YH p<|a3 (xv 0) (xv 1)<|xf YC p<|a1<|xv 0)<|b1<|sR<|xe (To (Zhb rfl) (by rfl) G.Zi boot_list<|XY (Zlu (K:=K)<|pv 2) KB)<|Zhv<|Xo 2)) (.a ?_)
 ·rintro L R X ⟨f,v,rfl,u,l,hw,o,C,s⟩;refine⟨rfl,f,v,rfl,u,l,o,C,λx=>?_⟩;have s:=s x;refine⟨f,rfl,u,l,λz r=>⟨f,v,z,pcc f,rfl,u,l,hw,o,r,GD o x,λg T=>?_⟩⟩;have A:(Xy f).Nodup:=(Nc f).imp (λh=>Je h);obtain⟨y,e,B⟩:=T.vals (M2 A);obtain⟨H,E⟩:=MP e;refine⟨g,rfl,H,?_⟩;rw[E];exact s y B
def Zmd(DD:Def K mg "best_order" Dy ["strips","wishes"])
  : Ln ζ:=by
 refine DD.fy Rw (λA n=>(bc (sE<|xg YJ A ExcR.XQ<|a2 (xv 0)<|xv 1)<|bc (sS 2 n<|xf YC A<|a1<|xv 0)<|bc (se (Pu.pz 3 Rw.nd<|fz YH (A ())<|dz (pv 0) (pv 1)<|pv 2)<|Tu (Tw<|uz (Xo 0) (Xo 1)<|Xo 2)<|Kk 3)<|bc (sS 4 n<|xe (To (IU (K:=K)) (by rfl) G.Zt boot_tuple<|az<|fz Yu (A ())<|az<|pv 0)<|Rx<|sz<|Tw<|sz<|Xo 0)<|bc (sS 5 n<|xL a0)<|bc (sW [6,7] ExcR.EK (tt<|xv 4)<|bc (sC 6 ["holder","members","wishes"] [none,some 4,some 1] n (je (Bg (K:=K)<|pv 4)<|SndI.c<|BS<|Xo 4) (gN 0) (f1<|tt<|xf YX A<|a3 (xv 1) (xv 0)<|xv 2)<|xv 0)<|bc (sC 7 ["first","members","least","pairs"] [none,some 4,some 3,some 2] n (jL<|xv 6) (gN 0) (f1<|tq A (xf Wm A<|ac (xv 1)<|ac (xv 0)<|ac (xv 2)<|ac (xv 3) a0)<|xe (Fi (Pv<|A ()) (pv 2) (pv 1) (λ_ _=>rfl))<|Fd (Xo 2)<|Xo 1)<|xv 0)<|bc (sA 5<|xx (xv 7) xi)<|b1<|sS 4 n<|xf Y2 A<|a2 (xv 4)<|xx (xv 7) xi)<|b1<|sV 5)) (.a ?_)
 ·rintro ds R X ⟨z,v,rfl,hF,hz,hw,hu,hX,hR⟩;refine⟨rfl,z,v,rfl,hF,hz,hu,hX,λhN=>?_⟩;have hR:=hR hN;refine⟨z,rfl,hF,hz,λpa hpa=>⟨z,v,pa,pcc z,rfl,hF,hz,hw,hu,hpa,GD hu hN,λkvs T=>⟨z,rfl,hF,hz,?_⟩⟩⟩;have hh:=P7 z;have hri:=Nc z;have nd:(Xy z).Nodup:=hri.imp (λh=>Je h);have hpa':∀x∈Xy z,∀y∈Xy z,X8 pa [.inl x,.inl y]=some (.int<|pcc z x y):=hpa;generalize pcc z=c at *;generalize Xy z=Y at *
  refine⟨rfl,by simp,Af (λγ'=>∃(u o:Ye),γ'=[some (.bor<|.lst<|z.map prD),some (.bor<|.lst<|v.map prD),some (.own<|.dT pa),some (.own<|.dT kvs),some (.sh<|tD u),some (.own<|o.map D.int),none,none]/\u∈XF Y/\o.length+u.length<=10/\
   ∀p,KU v c u p->KU v c Y (o++p)) Zi8 ⟨Y,[],rfl,List.mem_of_getLast? (OJ Y),by simpa using hh,λp hp=>hp⟩ ?_⟩
  rintro γ' ⟨u,o,rfl,M,hol,hB⟩;show if (!(u.map D.int).isEmpty)=true then _ else _;refine Xu (λg=>?_) (λg=>?_)
  ·have E:=Sd Y u M;have hne:u≠[]:=λe=>by subst e;simp at g
   have C:u.Nodup:=nd.sublist E;have hrm:=hri.sublist E
   have B:∀l∈u,X7 u l∈XF Y:=λl N=>by
    obtain⟨k,hk,e⟩:=Q9.mp M;obtain⟨j,_,ej⟩:=Li nd k u (by rw[WH hk,e]) l N;exact Qe ej
   obtain⟨J,hvs⟩:=Oq λl N=>T.val _ (B l N);obtain⟨V,hV1,U⟩:=T.val u M;have hv2:∀l∈u,KA v c (X7 u l) (J l):=λl N=>(hvs l N).2
   have L:∃f rest,(u.filter (λh=>firstM v u h)).filter (λf=>decide (J f+((X7 u f).map (c f)).sum=V))=f::rest:=by
    obtain⟨q,q1,q2,q3⟩:=U.is;cases q with
    |nil=>exact absurd q1.nil_eq.symm hne
    |cons g p=>
     obtain⟨r1,r2,r3,_⟩:=LK C hu hv2 U q1 q2 q3;exact List.exists_cons_of_ne_nil (List.ne_nil_of_mem<|Qv.mpr ⟨Qv.mpr ⟨r1,r2⟩,WI r3⟩)
   obtain⟨f,rest,ef⟩:=L;have Q:f∈(u.filter (λh=>firstM v u h)).filter (λf=>decide (J f+((X7 u f).map (c f)).sum=V)):=by rw[ef];exact Qy ..
   obtain⟨Q,hf3⟩:=Qv.mp Q;obtain⟨H,hf2⟩:=Qv.mp Q
   have hmin:∀g∈u,firstM v u g=true->J g+((X7 u g).map (c g)).sum=V->f<=g:=λg h1 h2 h3=>by
    have hg:g∈(u.filter (λh=>firstM v u h)).filter (λf=>decide (J f+((X7 u f).map (c f)).sum=V)):=Qv.mpr ⟨Qv.mpr ⟨h1,h2⟩,WI h3⟩
    have A:(f::rest).Pairwise (· < ·):=by
     rw[←ef];exact(hrm.filter _).filter _
    rw[ef]at hg;rcases WU.mp hg with e|hg
    ·lia
    ·have:=(Vu.mp A).1 g hg
     lia
   refine⟨_,rfl,K8 (s:=.sh .non) (xs:=u) (emb:=D.int) (λh=>if firstM v u h=true then some (.int h)else none) (by lia) (λh hm=>?_) ?_⟩
   ·refine⟨u,h,v,rfl,hw,?_⟩;refine Xu (λg=>⟨_,rfl,WO g⟩) (λg=>WM g)
   ·rw[PX (λh=>firstM v u h)];refine K8 (xs:=u.filter (λh=>firstM v u h)) (emb:=D.int) (λf=>if decide (J f+((X7 u f).map (c f)).sum=V)=true then some (.int f)else none) (WV (QA _ _)<|by lia) (λl N=>?_) ?_
    ·obtain⟨hl1,hl2⟩:=Qv.mp N;refine⟨u,l,kvs,pa,c l,J l,rfl,by lia,(hvs l hl1).1,λm hm=>hpa' l (E.subset hl1) m (E.subset<|less_sub.subset hm),_,_,FN u,hV1,rfl,?_⟩;refine Xu (λg=>⟨_,rfl,WO g⟩) (λg=>WM g)
    ·rw[PX (λf=>decide (J f+((X7 u f).map (c f)).sum=V)),ef];refine⟨_,KL _ _,by rw[WG];lia,_,KL _ _,u,f,rfl,by lia,⟨X7 u f,o++[f],?_,B f H,?_,λp hp=>?_⟩,?_⟩
     ·rw[WZ];rfl
     ·have:=(TK C H).length_eq
      rw[WS];rw[Qa]at this;show o.length+1+_<=10;lia
     ·rw[Jq];exact hB _ (Zdq C hu hv2 U H hf2 (WN hf3) hmin hp)
     ·have:=(TK C H).length_eq
      rw[Qa]at this;show((X7 u f).map D.int).length<(u.map D.int).length;rw[WG,WG];lia
  ·have e:u=[]:=by
    cases u with
    |nil=>rfl
    |cons a r=>exact absurd rfl g
   subst e
   have:=hB [] (Zbe v c)
   rw[Q1]at this;exact hR o this
def Zbg(DD:Def K mg "_law_go" DF ["_law_village","_law_past","_law_deed_here"])
  : RR ζ:=by
 refine DD.fz LW (λo n=>(bc (sI (tq o (xx (xv 2) xi) xs) (bj (sI (tc KF KE (xl G.len<|xv 1) xi) (bc (se (Pn<|XN YA G.Za (hq<|o ()) Ao<|pv 0)<|NI<|SR 0 Oj X6)<|b1<|se (Pn<|SE Qw Vz V0 BD<|pv 1)<|NI<|Hf 1) b0)<|b1<|se (Kp Nu)<|SK Nw) b0)<|bc (sF 2<|sS 3 n<|xe (fz Wp (o ())<|bz (jx K (pv 1)<|P2 Po X5)<|pv 2)<|Dj<|tz (Kc (Xo 1)<|Pp Xx)<|Xo 2)<|bc (sI (tc KF KE (xx (xv 3) xi) xi) (b1<|se (Kp Nu)<|SK Nw) b0)<|bc (sF 2<|sA 1<|xt<|a3 (xx (xv 3) xi) (xx (xv 3) xi)<|xv 2)<|bc (sF 2<|se (Pu.pz 4 LW.nd<|Ai W5 (hq<|o ()) Ao<|bz (pv 0)<|pv 2)<|CQ (Zoe 0<|sz<|Xo 2)<|Kk 4)<|b1<|se (Kp<|SB (fz Y0 (o ())<|az<|pv 4)<|Sx<|TU (S9 (K:=K)<|show _<cLine from(o ()).units0) (pv 4) (Ni Kd (ln K G.len<|pv 1) X5)<|Pj _)<|SK<|Bs (Tw<|sz<|Xo 4)<|NR (Xo 4)<|Kb (Sg<|sz<|Xo 1) Xx)) (.d ?_)
 ·rintro o1 o2 ss R X ⟨x,b1,B,A,a,f0,f,q,rfl,rfl,rfl,hz,T,s⟩;refine⟨rfl,?_⟩;obtain⟨⟨h1,U⟩,J⟩:=T.cur;rcases s with⟨rfl,l⟩|⟨d,rfl,l⟩
  ·refine⟨_,rfl,?_⟩;refine TL (λp=>∃H E C:Option S,p=[some (.own<|vO (ExcR.Xs mg "Village") x b1 B A (bkH f.dropLast) (fsH f0 f.dropLast)<|wsH f.dropLast),some (.own<|.lsA a<|XA f0 f.dropLast),H,E,C]) ?_ ?_
   ·rcases QZ f with rfl|⟨h,y,rfl⟩
    ·exact⟨_,_,_,rfl⟩
    ·rw[Vy,QC];have r:(XA f0 (h++[y])).length=h.length+2:=by rw[Ts,WS,Q6]
     have g:(((XA f0 (h++[y])).length:Nat):Int)>1:=by lia
     have v:(XA f0 (h++[y]))[(XA f0 (h++[y])).length-1]?=some (Sf y):=by
      rw[r,BA,Qq (by rw[Ts];lia),Ts];rw[show h.length+2-1-(h.length+1)=0 by lia];rfl
     have ed:(XA f0 (h++[y])).dropLast=XA f0 h:=by rw[BA,QC]
     show if decide ((((XA f0 (h++[y])).length:Nat):Int)>1)=true then _ else _;rw[WI g];refine Kx ⟨rfl,rfl,x,b1,B,A,bkH (h++[y]),fsH f0 (h++[y]),wsH (h++[y]),rfl,rfl,by rw[LY,SD],by rw[OT,SD],λe=>?_,λb0 q e=>?_⟩
     ·rw[Bv]at e;simp at e
     ·rw[Bv]at e;obtain⟨rfl,e2⟩:=List.append_inj' e rfl;cases e2
      rw[B4,Bf,QC,QC];refine⟨_,v,?_⟩;rw[ed];exact⟨_,_,_,rfl⟩
   ·rintro p ⟨H,E,C,rfl⟩;exact⟨_,_,rfl,rfl,⟨rfl,by simp⟩,rfl,l⟩
  ·obtain⟨fs,M,lf⟩:=Bu f0 f;obtain⟨N,L,lw⟩:=BJ f;obtain⟨dl,v⟩:=FZ f0 f;have lb:=SD f;have lp:=Ts f0 f;have Q:=d.not_back;refine⟨_,KL _ _,?_⟩;show if decide (d.q.1=("back" : Str))=true then _ else _;rw[Qu Q];refine Ke ⟨_,v,XS f0 f,XO f,[dl],d,rfl,U,J.1,_,rfl,?_⟩;by_cases e:d.err (XS f0 f) (XO f)=none
   ·have z:KW f0 f d=f++[(d,d.fld (XS f0 f),d.wsh (XO f))]:=by unfold KW;rw[WO e]
    rw[z]at l;rw[Bv,B4,Bf,BA,M,L]at l;show if decide (codeN (d.err (XS f0 f)<|XO f)>0)=true then _ else _;rw[e];refine Ke ⟨_,rfl,_,rfl,by simp,by lia,?_⟩;refine⟨x,b1,B,A,bkH f,fs,N,XS f0 f,XO f,d,by rw[←M,←L],rfl,by lia,by lia,by lia,by lia,by have:=J.1;lia,?_⟩
    have ec:Cm (bkH f) (XS f0 f) (XO f) d=none:=by
     unfold Cm;rw[WM (by lia),e]
    have en:d.nf (XS f0 f) (XO f)=d.fld (XS f0 f):=by unfold Dd.nf;rw[WO e]
    have u:d.nw (XS f0 f) (XO f)=d.wsh (XO f):=by unfold Dd.nw;rw[WO e]
    rw[ec];have Y:((((bkH f).length:Nat):Int)+1=((((XA f0 f++[D.tup [plD (d.nf (XS f0 f)<|XO f),plD (d.nw (XS f0 f)<|XO f),dD d.q]]).length:Nat)):Int)-1):=by rw[WS,Q6];lia
    refine⟨_,rfl,Kx ?_⟩;refine⟨_,_,rfl,rfl,⟨rfl,by simp⟩,rfl,?_⟩;rw[WI Y,en,u];exact l
   ·have z:KW f0 f d=f:=by unfold KW;rw[WM e]
    rw[z]at l;show if decide (codeN (d.err (XS f0 f)<|XO f)>0)=true then _ else _;rw[WI (Dd.code_pos e)];exact Kx ⟨_,_,rfl,rfl,⟨rfl,by simp⟩,rfl,l⟩
def Zf2(E:Def K mg "least_cost" AF ["strips","wishes"])
  : Iq ζ:=by
 refine E.fy Zl2 (λy n=>(b1<|sR<|xx (xg YK y ExcR.XQ<|a2 (xv 0)<|xv 1)<|xe (P2 Po X5)<|Pp Xx)) (.a ?_)
 ·rintro J R X ⟨g,r,rfl,C,u,hw,x,A,h⟩;refine⟨rfl,g,r,rfl,C,u,hw,x,A,λB s p=>?_⟩;have h:=h B;have o:=OJ (Xy g);rw[List.getLast?_eq_getElem?]at o;have H:=(Qd.mp o).1;have z:=p.1;obtain⟨v,l⟩:∃v,s[(XF<|Xy g).length-1]?=some v:=⟨_,WH (by lia)⟩;have L:=p.2 _ _ _ o l;rw[←z]at l;exact⟨_,Tp (f:=D.int) (F3 l),h _ L⟩
def Zf0(u:XD K (XB K (X4 ζ) "order") "order" "Village.order" El ["self"])
  : LO ζ:=by
 refine u.fy Zj0 (λg n=>(b1<|sR<|xg W7 g ExcR.XQ<|a2 (xe (XN Yr G.Za (hq<|g ()) XT<|pv 0)<|Kh P8 (Xo 0) X6)<|xe (XN Ys G.Za (hq<|g ()) XT<|pv 0)<|Kh Tq (Xo 0) X6)) (.a ?_)
 ·rintro v R X ⟨bk,fs,h,f,w,rfl,s,l,hw,o,r,p⟩;refine⟨rfl,?_⟩;exact⟨rfl,rfl,bk,fs,h++[w],f,rfl,rfl,rfl,bk,fs++[f],h,w,rfl,f,w,rfl,s,l,hw,o,r,p⟩
def Zrh(u:XD K (XB K (X4 ζ) "table") "table" "Village.table" Gk ["self"])
  : LC ζ:=by
 refine u.fy Zpk (λg n=>(b1<|sR<|xg YK g ExcR.XQ<|a2 (xe (XN Yr G.Za (hq<|g ()) XT<|pv 0)<|Kh P8 (Xo 0) X6)<|xe (XN Ys G.Za (hq<|g ()) XT<|pv 0)<|Kh Tq (Xo 0) X6)) (.a ?_)
 ·rintro v R X ⟨bk,fs,h,f,w,rfl,s,l,hw,o,r,p⟩;refine⟨rfl,?_⟩;exact⟨rfl,rfl,bk,fs,h++[w],f,rfl,rfl,rfl,bk,fs++[f],h,w,rfl,f,w,rfl,s,l,hw,o,r,p⟩
def Zfg(u:XD K (XB K (X4 ζ) "cost") "cost" "Village.cost" DQ ["self"])
  : LX ζ:=by
 refine u.fy Zb7 (λg n=>(b1<|sR<|xg W9 g ExcR.XQ<|a2 (xe (XN Yr G.Za (hq<|g ()) XT<|pv 0)<|Kh P8 (Xo 0) X6)<|xe (XN Ys G.Za (hq<|g ()) XT<|pv 0)<|Kh Tq (Xo 0) X6)) (.a ?_)
 ·rintro v R X ⟨bk,fs,h,f,w,rfl,s,l,hw,o,r,p⟩;refine⟨rfl,?_⟩;exact⟨rfl,rfl,bk,fs,h++[w],f,rfl,rfl,rfl,bk,fs++[f],h,w,rfl,f,w,rfl,s,l,hw,o,r,p⟩
def Zln(A:XD K (XB K (X4 ζ) "moves") "moves" "Village.moves" Gj ["self"])
  : Lu ζ:=by
 refine A.fy Zj7 (λg n=>(b1<|sR<|xf Wt g<|a2 (xe (XN Yr G.Za (hq<|g ()) XT<|pv 0)<|Kh P8 (Xo 0) X6)<|xe (XN Y5 G.Za (hq<|g ()) ExcR.XQ<|pv 0)<|NO EF (Xo 0) X6)) (.a ?_)
 ·rintro B R X ⟨bk,fs,h,f,w,rfl,l,s,hw,u,x,y⟩;refine⟨rfl,?_⟩;exact⟨rfl,rfl,bk,fs,h++[w],f,rfl,rfl,rfl,bk,fs,h,f,w,rfl,l,by lia,hw,u,x,λz o p=>⟨f,o,rfl,l,s,p.perm,λr v=>y z o r p v⟩⟩
def Zbn(x:XD K (XB K (X4 ζ) "melded") "melded" "Village.melded" Eo ["self"])
  : LS ζ:=by
 refine x.fy Zi6 (λg n=>(b1<|sR<|xg Ws g ExcR.XQ<|a2 (xe (XN Yr G.Za (hq<|g ()) XT<|pv 0)<|Kh P8 (Xo 0) X6)<|xe (XN Y5 G.Za (hq<|g ()) ExcR.XQ<|pv 0)<|NO EF (Xo 0) X6)) (.a ?_)
 ·rintro z R X ⟨bk,fs,l,f,w,rfl,p,y,hw,r,s,u⟩;refine⟨rfl,rfl,rfl,bk,fs,l++[w],f,rfl,rfl,rfl,bk,fs,l,f,w,rfl,p,by omega,hw,r,s,λv o h=>⟨f,o,rfl,p,by omega,?_,?_⟩⟩
  ·have:=h.perm.length_eq
   have:=P7 f
   omega
  ·rw[Hn h.perm];exact u v o h
def Zhr(DD:Def K mg "_law_all" DH ["_law_village"])
  : Od ζ:=by
 refine DD.fz P6 (λh n=>(bc (sS 1 n<|xe (XN W4 G.Za (hq<|h ()) XT<|pv 0)<|Kh Zrs (Xo 0) X6)<|bc (sS 2 n<|xL a0)<|bj (se (ExcR.MW (λpins D=>(L7 (Pu.pz 2 P6.nd<|KG<|XY (SA Y5 G.Za (hq<|h ()) (ExcR.SG (pins:=pins) (D:=D) (i:=3) rfl rfl P6.nd rfl rfl rfl G.Zh (by decide) (λa=>(P9<|Pu.pz 2 P6.nd<|KG<|az<|ExcR.Ba (pv 3)<|by rfl)))<|pv 0)<|XY (SA WB G.Za (hq<|h ()) (ExcR.SG (pins:=pins) (D:=D) (i:=3) rfl rfl P6.nd rfl rfl rfl G.Zh (by decide) (λa=>(P9<|Pu.pz 2 P6.nd<|KG<|az<|ExcR.Ba (pv 3)<|by rfl)))<|pv 0)<|XY (SA WA G.Za (hq<|h ()) (ExcR.SG (pins:=pins) (D:=D) (i:=3) rfl rfl P6.nd rfl rfl rfl G.Zh (by decide) (λa=>(P9<|Pu.pz 2 P6.nd<|KG<|az<|ExcR.Ba (pv 3)<|by rfl)))<|pv 0)<|XY (SA WC G.Za (hq<|h ()) (ExcR.SG (pins:=pins) (D:=D) (i:=3) rfl rfl P6.nd rfl rfl rfl G.Zh (by decide) (λa=>(P9<|Pu.pz 2 P6.nd<|KG<|az<|ExcR.Ba (pv 3)<|by rfl)))<|pv 0) KB)<|P9<|Pu.pz 2 P6.nd<|Ni Ky (pv 2)<|KG<|az<|SA WD G.Za (hq<|h ()) (ExcR.SG (pins:=pins) (D:=D) (i:=3) rfl rfl P6.nd rfl rfl rfl G.Zh (by decide) (λa=>(P9<|Pu.pz 2 P6.nd<|KG<|az<|ExcR.Ba (pv 3)<|by rfl)))<|pv 0)))<|Ziq (E':=λ_=>E0) G.ZU (λD=>(M8 (Tu (P3<|Kz (Sn EF (Xo 0) X6)<|Kz (Sn Zbs (Xo 0) X6)<|Kz (Sn Zrq (Xo 0) X6)<|Kz (Sn Zl1 (Xo 0) X6) X6)<|Kk 2)<|Tu (Kw (Xo 2)<|P3<|sz<|Sn Zm7 (Xo 0) X6)<|Kk 2))<|Tu (P3<|sz<|Zof G.ZT<|Xo 3)<|Kk 2)<|b1<|sF 1<|sR<|xo Ky Kw (xL<|ac (xe (XN Yr G.Za (hq<|h ()) XT<|pv 0)<|Kh P8 (Xo 0) X6)<|ac (xe (XN Ys G.Za (hq<|h ()) XT<|pv 0)<|Kh Tq (Xo 0) X6)<|ac (xe (XN Y8 G.Za (hq<|h ()) XT<|pv 0)<|Kh Iy (Xo 0) X6)<|ac (xv 1) a0)<|xv 2)) (.a ?_)
 ·rintro ds R X ⟨bk,fs,s,f,w,rfl,x,hz,hw,u,T⟩;refine⟨rfl,rfl,rfl,bk,fs,s,f,w,rfl,x,by lia,λr h B=>?_⟩;refine⟨by simp,?_⟩;refine TL (λy=>∃A:List D,AllT f w (.lst (r.map D.int)::A)/\y=[some (.bor<|PD (ExcR.Xs mg "Village") bk (fs++[f]) (s++[w])),some (.sh<|.lst<|r.map D.int),some (.own<|.lst A),none]) ?_ ?_
  ·have z:∀g,FR (Xy f) w g->g≠[]->AllT f w (.lst (r.map D.int)::[.fL g]):=λg l p=>by
    obtain rfl:=l.one h;exact .inl ⟨g,l,p,B,rfl⟩
   refine⟨rfl,rfl,bk,fs,s,f,w,rfl,x,by lia,hw,u,λg l p=>⟨g,rfl,rfl,by simp,_,z g l p,rfl⟩,λJ o H=>?_⟩;refine⟨rfl,rfl,bk,fs,s,f,w,rfl,x,by lia,hw,u,λg l p=>⟨g,rfl,rfl,by simp,_,z g l p,rfl⟩,λ_ v Y=>?_⟩;refine⟨rfl,rfl,bk,fs,s,f,w,rfl,x,by lia,hw,u,λg l p=>⟨g,rfl,rfl,by simp,_,z g l p,rfl⟩,λ_ M Q=>?_⟩;refine⟨rfl,rfl,bk,fs,s,f,w,rfl,x,by lia,hw,u,λg l p=>⟨g,rfl,rfl,by simp,_,z g l p,rfl⟩,λ_ o' N E U=>⟨by simp,?_⟩⟩;refine⟨rfl,rfl,bk,fs,s,f,w,rfl,x,by lia,hw,u,λg l p=>⟨g,rfl,rfl,by simp,_,z g l p,rfl⟩,λ_ o2 C=>⟨by simp,?_⟩⟩;obtain rfl:=KU.uniq H E;obtain rfl:=KU.uniq H C;have er:r=[]:=(h.none_iff u).mpr J;subst er;exact⟨rfl,rfl,by simp,_,.inr ⟨J,o,v,M,N,H,Y,Q,U,rfl⟩,rfl⟩
  ·rintro y ⟨A,L,rfl⟩;have B:=L.len;refine⟨rfl,rfl,bk,fs,s++[w],f,rfl,rfl,rfl,bk,fs++[f],s,w,rfl,rfl,rfl,bk,fs++[f],s++[w],rfl,?_⟩;exact⟨by simp,rfl,rfl,by simp at B ⊢;omega,T _ L⟩
def Zp9(DD:Def K mg "law" T6 ["_law_script"])
  : Zp0 ζ:=by
 refine DD.fz Zrv (λl n=>(bc (sS 1 n<|xf YY l<|a1<|xf Wo l<|a2 (xv 0) xi)<|bc (sX 1 xi<|xo XJ XG xi<|xo XH XI (xx (xv 1) xi) xi)<|bc (sS 2 n<|xf Wq l<|a3 (xv 0) (xv 1)<|xo XH XI (xo Ko Kq (xf Yt l<|a2 (xv 0) xi) xi) xi)<|bc (sS 3 n<|xe (Zh0 Wu G.ZQ (hq<|l ()) Ao<|az<|To (BN (K:=K)) (by rfl) G.Zi boot_list<|az<|pv 2)<|Zgw<|sz<|Ff<|sz<|Xo 2)<|bc (sF 2<|sS 4 n<|xL<|a1<|xt<|a3 (xv 2) (xL a0)<|xt a0)<|bc (sS 5 n<|xL<|a1<|xe (XW (FT (l ()).gd (l ()).units) (by rfl) G.Zx boot_repr<|az<|fz Y1 (l ())<|az<|pv 3)<|Fz<|sz<|Tw<|sz<|Xo 3)<|bc (sS 6 n<|xf W1 l<|a2 (xv 0)<|xv 1)<|bc (sS 7 n<|xf Wr l<|a2 (xv 0) xi)<|bc (sN 4<|sO [8,9,10] Ql (ir G.Zd<|a1<|xo XJ XG (xl G.len<|xv 6)<|xl G.len<|xv 7) (gN 8)<|bc (sS 9 n<|xx (xo Ky Kw (xv 6)<|xL<|a1<|xt<|a1 xs)<|xe (XW (Zq1 rfl) (by rfl) G.ZL boot_min<|bz (pv 8)<|ln K G.len<|pv 6)<|Zjj<|tz (Xo 8)<|Sg<|sz<|Xo 6)<|bj (sI (tc NT N8 (xv 8)<|xl G.len<|xv 6) (b1<|sS 9 n<|xf W2 l<|a3 (xx (xv 7)<|xo Kd Kb (xv 8)<|xl G.len<|xv 6) (xv 1)<|xx (xv 4)<|xe (P2 Po X5)<|Pp Xx) b0)<|bc (sF 9<|sN 4<|se (Da (AC<|Ga (K:=K)<|fz W8 (l ())<|dz (pv 3) (pv 4)<|pv 9) (P9<|Kp Nu)
   Ek)<|RH (OV<|Zal<|DJ 3 4 (by decide)<|sz<|Xo 9) (DA Nw) DM)<|bc (sS 10 n<|xf Y1 l<|a1<|xv 3)<|bc (sS 5 n<|xo Ky Kw (xp (xv 5) o0<|o1<|xo Kd Kb (xl G.len<|xv 4) xi)<|xL<|a1<|xe (XW (FT (l ()).gd (l ()).units) (by rfl) G.Zx boot_repr<|az<|pv 10)<|Fz<|sz<|Xo 10)<|b1<|sI (tN<|tt<|xf W3 l<|a2 (xv 10)<|xx (xx (xv 4)<|xe (P2 Po X5)<|Pp Xx) xi) (b1<|sR xb) b0)<|bc (sW [] Ql (tc KF KE (xl G.len<|xv 4) xi)<|bc (sN 4<|se (Da (PW.pt<|Rv (AC<|Ga (K:=K)<|fz YI (l ())<|bz (pv 3)<|pv 4)<|MM<|cn K (l ()) (XW (FT (l ()).gd (l ()).units) (by rfl) G.Zx boot_repr<|az<|fz Y1 (l ())<|az<|pv 3)<|jx K (pv 5)<|Ni Kd (ln K G.len<|pv 4) X5) (P9<|Kp Nu)
   Ek)<|RH (Zf3 (OV<|Zal<|DJ 3 4 (by decide) X6)<|Zlk<|P1<|Di (Fz<|sz<|Tw<|sz<|Xo 3)<|Kc (Xo 5)<|Kb (Sg<|sz<|Xo 4) Xx) (DA Nw) DM)<|b1<|sI (tN<|tt<|xf W6 l<|a2 (xv 3)<|xv 4) (b1<|sR xb) b0)<|b1<|sN 4<|se (Kp<|SB (fz YI (l ())<|bz (pv 3)<|pv 4)<|Sx<|TU (S9 (K:=K)<|show _<cLine from(l ()).units0) (XW (FT (l ()).gd (l ()).units) (by rfl) G.Zx boot_repr<|az<|fz Y1 (l ())<|az<|pv 3) (jx K (pv 5) X5)<|Pj _)<|Zdm<|Znf (DJ 3 4 (by decide) X6)<|NR (Fz<|sz<|Tw<|sz<|Xo 3)<|Kc (Xo 5) Xx)) (.a ?_)
 ·rintro ds R X ⟨B,rfl,hR⟩;refine⟨rfl,B,0,rfl,by decide,λc0=>⟨c0,rfl,λm H=>?_⟩⟩;have hM0:=H;obtain⟨a0,a1,a2,a3,a4,em,ha,_⟩:=hM0;have i0:atI (m.map D.int) 0=some (.int a0):=by rw[em];rfl
  have s0:ixN (m.map D.int).length 0=some 0:=by rw[em];rfl
  have H:=Zkm H (v:=1+a0 % 5) (by lia);have s:(m.map D.int).set 0 (.int (1+a0 % 5))=(m.set 0 (1+a0 % 5)).map D.int:=by rw[List.map_set]
  refine⟨_,i0,(by show(0:Int)<5;decide),_,_,s0,rfl,?_⟩;rw[s];generalize m.set 0 (1+a0 % 5)=m at H;refine⟨B,0,rfl,by decide,⟨by decide,by decide⟩,(by show(0:Int)<13;decide),B,m,_,rfl,H,by lia,by lia,λf hF hlen=>?_⟩;have hz:f.length<=40:=by lia
  refine⟨rfl,λx=>⟨x,f,rfl,rfl,by lia,?_⟩⟩;rw[Zfx hF hz];refine λb1 Q N=>⟨rfl,?_⟩;refine⟨by simp,by simp,by simp,by simp,?_⟩;have u:FineH f []:=FineH.nil hF hz;refine⟨[],[],[],f,[],rfl,hF,hz,by simp,by simp,λs r=>?_⟩;have ea:=FD (hs:=[]) u r;have e1:plD f::plD []::D.lst (([]:List (Str×Ye)).map dD)::s=KS f []:=ea;rw[e1];have hk:=Am (hs:=[]) u (λg hg=>by cases hg) (by decide) ⟨s,r⟩;refine⟨hk.1,⟨_,rfl⟩,hk.2,by simp,?_⟩;clear hk e1 ea r s;refine⟨B,m,rfl,H,λp hq=>?_⟩;refine⟨B,20,rfl,by decide,by decide,λA hc=>λa=>?_⟩;have lq:(p.map λq=>dD (Dd.wish q.1 q.2).q).length=p.length:=WG ..;have lc:(A.map D.int).length=A.length:=WG ..;refine⟨⟨by lia,by lia⟩,PZ (λi o=>∃hs:XM,hs.length<=i/\FineH f hs/\Sm hs/\o=[some (.bor<|.scr B),some (.own<|m.map D.int),some (.sh<|plD f),some (.own<|vO (ExcR.Xs mg "Village") x b1 Q N (bkH hs) (fsH f hs)<|wsH hs),some (.own<|.lsA a<|XA f hs),some (.own<|.lst<|Py f hs),some (.own (p.map λq=>dD (Dd.wish q.1 q.2).q)),some (.own<|A.map D.int),none,none,none]) ?_ ?_ ?_⟩
  ·exact⟨[],WQ _,u,λg hg=>(by cases hg),rfl⟩
  ·rintro i o hi ⟨hs,h1,C,h3,rfl⟩;have hi':i<((((p.map λq=>dD (Dd.wish q.1 q.2).q).length:Nat):Int)+(((A.map D.int).length:Nat):Int)).toNat:=hi;obtain⟨q,hq1,hq2⟩:=Zhz p (0+(i:Int)) (by lia);refine⟨by simp,by simp,rfl,rfl,by rw[lq];show _+1<=_;lia,q,hq1,?_⟩;refine TL (λo=>∃q:D,(q=.tup [.str "back"]\/∃d:Dd,q=dD d.q)/\o=[some (.bor<|.scr B),some (.own<|m.map D.int),some (.sh<|plD f),some (.own<|vO (ExcR.Xs mg "Village") x b1 Q N (bkH hs) (fsH f hs)<|wsH hs),some (.own<|.lsA a<|XA f hs),some (.own<|.lst<|Py f hs),some (.own (p.map λq=>dD (Dd.wish q.1 q.2).q)),some (.own<|A.map D.int),some (.sh<|.int (0+(i:Int))),some (.sh q),none]) ?_ ?_
   ·refine Xu (λg=>?_) (λg=>⟨q,hq2,rfl⟩);have g':(((p.map λq=>dD (Dd.wish q.1 q.2).q).length:Nat):Int)<=0+(i:Int):=WN g;obtain⟨⟨M,c2⟩,L⟩:=C.cur;obtain⟨dl,el⟩:=FZ f hs;have hb:i-p.length<A.length:=by lia
    have ec:atI (A.map D.int) (0+(i:Int)-(((p.map λq=>dD (Dd.wish q.1 q.2).q).length:Nat):Int))=some (.int A[i-p.length]):=by
     rw[show 0+(i:Int)-(((p.map λq=>dD (Dd.wish q.1 q.2).q).length:Nat):Int)=((i-p.length:Nat):Int) by lia];exact BL hb
    exact⟨_,ec,_,el,_,m,XS f hs,XO hs,[dl],rfl,H,by lia,M,by have:=L.1;lia,λd=>⟨_,.inr ⟨d,rfl⟩,rfl⟩,⟨_,.inl rfl,rfl⟩⟩
   rintro o ⟨q,hq,rfl⟩;clear hq1 hq2;refine⟨x,b1,Q,N,a,f,hs,q,rfl,rfl,rfl,by lia,C,?_⟩
   have key:∃h:XM,(h=hs\/h=hs.dropLast\/∃x,h=hs++[x])/\FineH f h/\Sm h/\h.length<=i+1/\((q=.tup [.str "back"]/\h=hs.dropLast)\/∃d:Dd,q=dD d.q/\h=KW f hs d):=by
    rcases hq with rfl|⟨d,rfl⟩
    ·refine⟨_,.inr (.inl rfl),C.back,?_,by rw[JH];lia,.inl ⟨rfl,rfl⟩⟩;rw[J6];exact h3.take _
    ·refine⟨_,?_,C.add d,h3.add C d,by have:=Zhe f hs d;lia,.inr ⟨d,rfl,rfl⟩⟩;unfold KW;split
     ·exact .inr (.inr ⟨_,rfl⟩)
     ·exact .inl rfl
   obtain⟨h,k1,k2,k3,k4,k5⟩:=key;refine k5.imp (λz=>⟨z.1,?_⟩) (λ⟨d,z⟩=>⟨d,z.1,?_⟩)
   all_goals
    rw[←z.2];obtain⟨J,ef,lf⟩:=Bu f h;obtain⟨E,ew,lw⟩:=BJ h;obtain⟨⟨M,c2⟩,L⟩:=k2.cur;have hu:∀q∈XO h,q.1≠q.2:=λq hq=>(L.2.2 q hq).2;refine⟨bkH h,J,E,XS f h,XO h,by rw[←ef,←ew];rfl,M,c2,by have:=L.1;lia,hu,λs r=>?_⟩;rw[FD k2 r];obtain⟨U,T⟩:=Am k2 k3 (by lia) ⟨s,r⟩;obtain⟨dl,el⟩:=FZ f h;have lp:=Ts f h
    have ek:cutD (Py f hs) none (some ((((XA f h).length:Nat):Int)-1))++[.str (py<|.lst<|KS f h).shown]=Py f h:=by
     rw[B3 _ (by lia),show((((XA f h).length:Nat):Int)-1).toNat=h.length by lia];exact Zju k1
    have lk:(Py f h).length=h.length+1:=by unfold Py;rw[WG,Js]
    rw[←ek,WS,Q6]at lk;refine⟨rfl,U,⟨_,rfl⟩,T,by simp,rfl,rfl,by rw[Q6];lia,?_⟩;refine⟨_,el,_,rfl,_,_,_,_,XS f h,XO h,rfl,Jw ⟨s,r⟩,M,c2,hu,?_⟩;exact⟨h,k4,k2,k3,by rw[←ek];rfl⟩
  ·rintro o ⟨hs,h1,C,h3,rfl⟩;have hl:hs.length<=50:=by lia
   clear h1 hc hq;refine Af (λo=>∃j,j<=hs.length/\o=[some (.bor<|.scr B),some (.own<|m.map D.int),some (.sh<|plD f),some (.own<|vO (ExcR.Xs mg "Village") x b1 Q N (bkH<|hs.take j) (fsH f<|hs.take j)<|wsH<|hs.take j),some (.own<|.lsA a<|XA f<|hs.take j),some (.own<|.lst<|Py f hs),some (.own (p.map λq=>dD (Dd.wish q.1 q.2).q)),some (.own<|A.map D.int),none,none,none]) Zgy ⟨hs.length,WQ _,by rw[QK];rfl⟩ ?_;rintro o ⟨j,hj,rfl⟩;have lj:(hs.take j).length=j:=by rw[Qs];lia
   have Y:=Ts f (hs.take j);rw[lj]at Y;have h2j:=FineH.take C j;refine Xu (λg=>?_) (λg=>?_)
   ·have g':1<(((XA f<|hs.take j).length:Nat):Int):=WN g;refine⟨x,b1,Q,N,a,f,hs.take j,rfl,rfl,rfl,by lia,?_⟩;rw[Zgl hs hj];have y:=FineH.take C (j-1);have li:(hs.take (j-1)).length=j-1:=by rw[Qs];lia
    have lpi:=Ts f (hs.take (j-1));rw[li]at lpi;obtain⟨J,ef,lf⟩:=Bu f (hs.take (j-1));obtain⟨E,ew,lw⟩:=BJ (hs.take (j-1));obtain⟨⟨M,c2⟩,L⟩:=y.cur;have hu:∀q∈XO (hs.take (j-1)),q.1≠q.2:=λq hq=>(L.2.2 q hq).2;refine⟨bkH (hs.take (j-1)),J,E,XS f (hs.take (j-1)),XO (hs.take (j-1)),by rw[←ef,←ew];rfl,M,c2,by have:=L.1;lia,hu,λs r=>?_⟩;rw[FD y r];obtain⟨U,T⟩:=Am y (h3.take _) (by lia) ⟨s,r⟩;refine⟨U,⟨_,rfl⟩,T,?_⟩
    have ke:atI (Py f hs) ((((XA f<|hs.take (j-1)).length:Nat):Int)-1)=some (.str (py<|.lst<|KS f<|hs.take (j-1)).shown):=by
     rw[show(((XA f<|hs.take (j-1)).length:Nat):Int)-1=((j-1:Nat):Int) by lia];exact IL (by lia)
    refine⟨_,ke,Tt rfl ?_⟩;refine⟨f,hs.take (j-1),rfl,by lia,y.len.1,y.len.2,Ke ?_⟩;refine⟨⟨j-1,by lia,rfl⟩,?_⟩;show(XA f<|hs.take (j-1)).length<(XA f<|hs.take j).length;lia
   ·have g':¬1<(((XA f<|hs.take j).length:Nat):Int):=λz=>g (WI z);obtain rfl:j=0:=by lia
    clear g g' lj Y;have ke:atI (Py f hs) 0=some (.str (py<|.lst<|KS f []).shown):=IL (i:=0) (QV _);refine⟨x,b1,Q,N,a,f,[],rfl,rfl,rfl,by simp,?_⟩;refine⟨[],[],[],f,[],rfl,hF,hz,by simp,by simp,λs r=>?_⟩;have e1:plD f::plD []::D.lst (([]:List (Str×Ye)).map dD)::s=KS f []:=FD (hs:=[]) u r;rw[e1];obtain⟨U,T⟩:=Am (hs:=[]) u (λg hg=>by cases hg) (by decide) ⟨s,r⟩;refine⟨U,⟨_,rfl⟩,T,_,ke,?_⟩;show R (.sh<|.bl<|decide ((py<|.lst<|KS f []).shown=(py<|.lst<|KS f []).shown));rw[WI rfl];exact hR
end
end T
namespace T
open L2 Own M
def Zep{l:PySem.W.OpenLaw}{w:World}{K:Yc}{h:Heap}{g:Yg}{fa:Addr}(X:K.In h)(f:h.Ns mainGlobals g)(hfa:g "law"=some (.ref fa)){n:Addr}(Ue:PySem.W.nsIn K mainGlobals "Village"=some (some<|.ref n))(Uv:PySem.W.plainGet K n Str.empty=true)(Uw:PySem.W.hasDictIn K n=true)(Ux:PySem.W.plainOver K n=true)(Uy:PySem.W.findIn K (.ref n) "__setattr__"=some (some<|.builtin "object.__setattr__"))(U0:PySem.W.makesIn K n=true)(U1:PySem.W.keepIn K (.ref n)=true)(U2:PySem.W.findIn K (.ref n) "book"=some none)(U3:PySem.W.findIn K (.ref n) "fields"=some none)(U4:PySem.W.findIn K (.ref n) "wished"=some none)(a1:Pu.DI K "check_holder" CY)(a2:Pu.DI K "check_width" Dh)(a3:Pu.DI K "check_strips" AQ)(a4:Pu.DI K "holders_of" Ee)(a5:Pu.DI K "check_order" AD)(a6:Pu.DI K "gathered" Az)(a7:Pu.DI K "pair_cost" EM)(a8:Pu.DI K "own_numbers" Cy)(a9:Pu.DI K "exchange_cost" Cp)(a10:Pu.DI K "exchanged" DZ)(a11:Pu.DI K "first_wrong_place" Cq)(a12:Pu.DI K "told_moves" Ds)(a13:Pu.DI K "check_neighbours" CN)(a14:Pu.DI K "longer_paths" Gf)(a15:Pu.DI K "ring_from" ED)(a16:Pu.DI K "find_ring" CL)(a17:Pu.DI K "check_no_ring" Dt)(a18:Pu.DI K "check_place" Eb)(a19:Pu.DI K "sold" A4)(a20:Pu.DI K "parted" Cv)(a21:Pu.DI K "united" A6)(a22:Pu.DI K "with_wish" Ck)(a23:Pu.DI K "without_wish" E5)(a24:Pu.DI K "pair_costs" A1)(a25:Pu.DI K "sets_of" Dp)(a26:Pu.DI K "without" CZ)(a27:Pu.DI K "may_lie_last" Gd)(a28:Pu.DI K "may_lie_first" Dq)(a29:Pu.DI K "cost_with_last" Cu)(a30:Pu.DI K "cost_with_first" Em)(a31:Pu.DI K "least_costs" Gc)(a32:Pu.DI K "cost_table" Ex)(a33:Pu.DI K "best_order" Dy)(a34:Pu.DI K "least_cost" AF)(a35:Pu.MI K n "__init__" "Village.__init__" AH)(a36:Pu.MI K n "strips" "Village.strips" CC)(a37:Pu.MI K n "wishes" "Village.wishes" DU)(a38:Pu.MI K n "deeds" "Village.deeds" Cg)(a39:Pu.MI K n "check_room" "Village.check_room" D7)(a40:Pu.MI K n "enter" "Village.enter" Ct)(a41:Pu.MI K n "sell" "Village.sell" D4)(a42:Pu.MI K n "part" "Village.part" Er)(a43:Pu.MI K n "unite" "Village.unite" A9)(a44:Pu.MI K n "wish" "Village.wish" AG)(a45:Pu.MI K n "drop" "Village.drop" Dv)(a46:Pu.MI K n "take_back" "Village.take_back" DE)(a47:Pu.MI K n "ring" "Village.ring" EX)(a48:Pu.MI K n "order" "Village.order" El)(a49:Pu.MI K n "cost" "Village.cost" DQ)(a50:Pu.MI K n "table" "Village.table" Gk)(a51:Pu.MI K n "moves" "Village.moves" Gj)(a52:Pu.MI K n "melded" "Village.melded" Eo)(a53:Pu.DI K "_law_at" AA)(a54:Pu.DI K "_law_whole" AK)(a55:Pu.DI K "_law_mix" En)(a56:Pu.DI K "_law_draw" Dx)(a57:Pu.DI K "_law_menu" Cz)(a58:Pu.DI K "_law_holder" DT)(a59:Pu.DI K "_law_row" CP)(a60:Pu.DI K "_law_tuples" DW)(a61:Pu.DI K "_law_deed_is" EY)(a62:Pu.DI K "_law_book_is" Ef)(a63:Pu.DI K "_law_present" Ej)(a64:Pu.DI K "_law_price" Cs)(a65:Pu.DI K "_law_field_step" EV)(a66:Pu.DI K "_law_wish_step" CD)(a67:Pu.DI K "_law_step" DB)(a68:Pu.DI K "_law_call" AJ)(a69:Pu.DI K "_law_back" Cr)(a70:Pu.DI K "_law_stands" Gg)(a71:Pu.DI K "_law_go" DF)(a72:Pu.DI K "_law_start" E1)(a73:Pu.DI K "_law_days" EG)(a74:Pu.DI K "_law_odd" AN)(a75:Pu.DI K "_law_place" Ea)(a76:Pu.DI K "_law_pair" Gi)(a77:Pu.DI K "_law_opening" DY)(a78:Pu.DI K "_law_width" AV)(a79:Pu.DI K "_law_deed" Ei)(a80:Pu.DI K "_law_all" DH)(a81:Pu.DI K "_law_priced" AU){Q:Addr}{od82 N:Yp}{sl82:Array (Yo)}{oc82 J L H u M:Value}(a82:PySem.W.nsIn K mainGlobals "law"=some (some<|.ref Q))(l82:K.lookup Q=some ⟨oc82,od82,.func (PySem.W.fnOf "law" "law" (Px T6) (XU T6) (Xq T6) .none J L H N u M),sl82⟩)(c82:PySem.W.codeIn K u "law"=true)(k82:PySem.W.keepIn K (.ref Q)=true)(U5:PySem.W.nsIn K mainGlobals "ValueError"=some none)(U6:PySem.W.nsIn K mainGlobals "any"=some none)(U7:PySem.W.nsIn K mainGlobals "bool"=some none)(U8:PySem.W.nsIn K mainGlobals "int"=some none)(U9:PySem.W.nsIn K mainGlobals "isinstance"=some none)(UA:PySem.W.nsIn K mainGlobals "len"=some none)(UB:PySem.W.nsIn K mainGlobals "list"=some none)(UC:PySem.W.nsIn K mainGlobals "max"=some none)(UD:PySem.W.nsIn K mainGlobals "min"=some none)(UE:PySem.W.nsIn K mainGlobals "range"=some none)(UF:PySem.W.nsIn K mainGlobals "repr"=some none)(UG:PySem.W.nsIn K mainGlobals "set"=some none)(UH:PySem.W.nsIn K mainGlobals "sorted"=some none)(UI:PySem.W.nsIn K mainGlobals "str"=some none)(UJ:PySem.W.nsIn K mainGlobals "sum"=some none)(UK:PySem.W.nsIn K mainGlobals "tuple"=some none){UU:Tok}(UL:PySem.W.nsIn K mainGlobals "HOLDERS"=some (some<|.int 10 UU)){UV:Tok}(UM:PySem.W.nsIn K mainGlobals "STRIPS"=some (some<|.int 40 UV)){UW:Tok}(UN:PySem.W.nsIn K mainGlobals "WIDEST"=some (some<|.int 1000 UW)){UX:Tok}(UO:PySem.W.nsIn K mainGlobals "MOST_WISHES"=some (some<|.int 20 UX)){UY:Tok}(UP:PySem.W.nsIn K mainGlobals "MOST_DEEDS"=some (some<|.int 100 UY)){US:Addr}(Ub:Pu.EI K "MeldError" US){UZ:Addr}(Ug:Pu.EI K "TooManyStrips" UZ){Xa:Addr}(Uh:Pu.EI K "BadHolder" Xa){Xb:Addr}(Ui:Pu.EI K "BadWidth" Xb){Xc:Addr}(Uj:Pu.EI K "NoStrip" Xc){Xd:Addr}(Uk:Pu.EI K "BadOrder" Xd){Xe:Addr}(Ul:Pu.EI K "OwnStrip" Xe){Xf:Addr}(Um:Pu.EI K "BadPart" Xf){Xg:Addr}(Uo:Pu.EI K "UnlikeHolders" Xg){Xh:Addr}(Up:Pu.EI K "TooWide" Xh){Xi:Addr}(Uq:Pu.EI K "LikeHolders" Xi){Xj:Addr}(Ur:Pu.EI K "WishStands" Xj){Xk:Addr}(Us:Pu.EI K "TooManyWishes" Xk){Xl:Addr}(Ut:Pu.EI K "NoWish" Xl){Xm:Addr}(Uu:Pu.EI K "BookFull" Xm){Uc:Addr}(Ud:Pu.EI K "NothingDone" Uc){UQ:Addr}(Ua:Pu.RI K "Ringed" UQ "Ringed.__init__" Du)(x_Ringed:PySem.W.exmOne K (.ref UQ) (.ref UQ)=some true)(x_NothingDone_NothingDone:PySem.W.exmOne K (.ref Uc) (.ref Uc)=some true)(k_NothingDone_MeldError:PySem.W.kitOne K (.ref Uc) (.ref US)=some true)(k_NothingDone_ValueError:PySem.W.kitOne K (.ref Uc) (.type "ValueError")=some true)
  : ∃fd:FuncData,(∀(s:Shared) (v:Value),BindsTo s fd ⟨[v],[]⟩ [("_law_script",v)])/\∀base:Heap,K.In base->base.Ns mainGlobals g->K9 l.prog w K g base CX0 9 fa fd ["_law_script"] (Pu.ET K):=by
 have e:=hfa.symm.trans (QE X f a82);cases e
 have Xn:=Ub.c X f;have UR:=Ud.c X f;have UT:=Ua.c X f;have p:=ExcR.Cb (QE X f Ue);have G:Glob K g:=⟨Qt X f U5,Qt X f U6,Qt X f U7,Qt X f U8,Qt X f U9,Qt X f UA,Qt X f UB,Qt X f UC,Qt X f UD,Qt X f UE,Qt X f UF,Qt X f UG,Qt X f UH,Qt X f UI,Qt X f UJ,Qt X f UK,⟨_,QE X f UL,⟨_,rfl⟩⟩,⟨_,QE X f UM,⟨_,rfl⟩⟩,⟨_,QE X f UN,⟨_,rfl⟩⟩,⟨_,QE X f UO,⟨_,rfl⟩⟩,⟨_,QE X f UP,⟨_,rfl⟩⟩,(Ub.m X f),(Ub.k X f),(Ug.m X f),(Ug.k X f),(Uh.m X f),(Uh.k X f),(Ui.m X f),(Ui.k X f),(Uj.m X f),(Uj.k X f),(Uk.m X f),(Uk.k X f),(Ul.m X f),(Ul.k X f),(Um.m X f),(Um.k X f),(Uo.m X f),(Uo.k X f),(Up.m X f),(Up.k X f),(Uq.m X f),(Uq.k X f),(Ur.m X f),(Ur.k X f),(Us.m X f),(Us.k X f),(Ut.m X f),(Ut.k X f),(Uu.m X f),(Uu.k X f),(Ud.m X f),(Ud.k X f),(Ua.m X f),(Ua.i X f),(by rw[UT];exact x_Ringed),(by rw[UR];exact x_NothingDone_NothingDone),(by rw[UR,Xn];exact k_NothingDone_MeldError),(by rw[UR];exact k_NothingDone_ValueError),(by rw[p];exact QE X f Ue),(by rw[p];exact⟨Uv,Uw,Ux,Uy⟩),(by rw[p];exact U2),(by rw[p];exact U3),(by rw[p];exact U4)⟩;have T:=Ae (st:=T6) l82 c82 k82;have b82:=T.binds (ps:=["_law_script"]) λ_ _ _ _ _ _ us hl=>by obtain⟨_,rfl⟩:=Pu.BW hl;rfl
 have D82:Def K g "law" T6 ["_law_script"]:=⟨_,_,T,QE X f a82,b82⟩;refine⟨PySem.W.fnOf "law" "law" (Px T6) (XU T6) (Xq T6) .none J L H N u M,λs v=>.of_eq rfl,λbase _ _=>?_⟩;have C0:=@Zb4 l.prog w K g base G (Ua.j UT);have C1:=@Zb0 l.prog w K g base ⟨⟩ G (a1.e X f);have C2:=@Zcw l.prog w K g base ⟨⟩ G (a2.e X f);have C4:=@Zhq l.prog w K g base G (a4.e X f);have C7:=@Zej l.prog w K g base ⟨⟩ (a7.e X f);have C8:=@Zr0 l.prog w K g base ⟨⟩ G (a8.e X f);have C9:=@Zl3 l.prog w K g base ⟨⟩ (a9.e X f);have C10:=@Zqx l.prog w K g base ⟨⟩ (a10.e X f);have C11:=@Zdb l.prog w K g base ⟨⟩ G (a11.e X f);have C13:=@Zfj l.prog w K g base ⟨⟩ G (a13.e X f);have C14:=@Zeu l.prog w K g base ⟨⟩ (a14.e X f);have C18:=@Zbf l.prog w K g base ⟨⟩ G (a18.e X f);have C23:=@Zro l.prog w K g base ⟨⟩ G (a23.e X f);have C25:=@Zde l.prog w K g base ⟨⟩ (a25.e X f);have Y:=@Zp6 l.prog w K g base ⟨⟩ G (a26.e X f);have C27:=@Zqf l.prog w K g base ⟨⟩ G (a27.e X f);have C28:=@Zgt l.prog w K g base ⟨⟩ G (a28.e X f);have o:=@Zht l.prog w K g base ⟨⟩ G (a36.e p);have r:=@Zid l.prog w K g base ⟨⟩ G (a37.e p);have C38:=@Zmy l.prog w K g base ⟨⟩ G (a38.e p);have A:=@Znl l.prog w K g base ⟨⟩ G (a39.e p);have y:=@Zqi l.prog w K g base ⟨⟩ G (a40.e p);have C46:=@Zn5 l.prog w K g base ⟨⟩ G (a46.e p);have x:=@Ze6 l.prog w K g base ⟨⟩ G (a53.e X f);have E:=@Zpy l.prog w K g base ⟨⟩ G (a54.e X f);have C:=@Zgh l.prog w K g base ⟨⟩ (a55.e X f);have C57:=@Zkf l.prog w K g base ⟨⟩ (a57.e X f);have B:=@Zk8 l.prog w K g base ⟨⟩ (a58.e X f);have C63:=@Za1 l.prog w K g base ⟨⟩ G (a63.e X f);have C64:=@Zar l.prog w K g base ⟨⟩ G (a64.e X f);have C65:=@Zfa l.prog w K g base ⟨⟩ G (a65.e X f);have C66:=@Zgj l.prog w K g base ⟨⟩ G (a66.e X f);have C74:=@Zki l.prog w K g base ⟨⟩ (a74.e X f);have C75:=@Znp l.prog w K g base ⟨⟩ G (a75.e X f);have C78:=@Zh6 l.prog w K g base ⟨⟩ G (a78.e X f);have C3:=Zrg ⟨⟩ G C1 C2 (a3.e X f);have C5:=Zhu ⟨⟩ G (SJ C4) (a5.e X f);have C15:=Zcv ⟨⟩ G C14 (a15.e X f);have C19:=Zqq ⟨⟩ G C1 C18 (a19.e X f);have C20:=Zi3 ⟨⟩ G C18 (a20.e X f);have C21:=Zbo ⟨⟩ G C13 (a21.e X f);have C22:=Zqz ⟨⟩ G C1 (a22.e X f);have C24:=Zc8 ⟨⟩ (SJ C4) C7 (a24.e X f);have C29:=Zfc ⟨⟩ G Y (a29.e X f);have C30:=Zel ⟨⟩ G Y (a30.e X f);have C45:=Zmn ⟨⟩ G C23 o r A y (a45.e p);have C56:=Zhg ⟨⟩ x C (a56.e X f);have C59:=Zbt ⟨⟩ G E (a59.e X f);have C60:=Zdi ⟨⟩ G E (a60.e X f);have C61:=Zkl ⟨⟩ G E (a61.e X f);have C67:=Zos ⟨⟩ C65 C66 (a67.e X f);have C72:=Zlw ⟨⟩ G x C B (a72.e X f);have C73:=Zeo ⟨⟩ G x C (a73.e X f);have C76:=Ze0 ⟨⟩ G B C74 (a76.e X f);have C6:=Zat ⟨⟩ C5 (a6.e X f);have C12:=Zjg ⟨⟩ C8 C9 C10 C11 C5 (a12.e X f);have C16:=Zgc ⟨⟩ G C15 (a16.e X f);have C31:=Zgb ⟨⟩ G (SJ C4) C25 C27 C29 (a31.e X f);have C35:=Zl5 ⟨⟩ G C3 (a35.j p U0 U1);have C41:=Zd9 ⟨⟩ G o r A y C19 (a41.e p);have C42:=Zm2 ⟨⟩ G o r A y C20 (a42.e p);have C43:=Zjt ⟨⟩ G o r A y C21 (a43.e p);have C44:=Zcg ⟨⟩ G o r A y C22 (a44.e p);have C62:=Zc4 ⟨⟩ G C61 (a62.e X f);have C69:=Zr5 ⟨⟩ G C46 C61 (a69.e X f);have C77:=Zij ⟨⟩ G x C B C76 (a77.e X f);have C79:=Zou ⟨⟩ G B C74 C75 C78 C76 (a79.e X f);have C81:=Zja ⟨⟩ G C63 C64 C59 (a81.e X f);have C17:=Zci ⟨⟩ G C0 (SJ C4) C16 (a17.e X f);have C47:=Zhx ⟨⟩ G (SJ C4) o r C16 (a47.e p);have C68:=Zev ⟨⟩ G C45 C41 C42 C43 C44 (a68.e X f);have C70:=Za8 ⟨⟩ G o r C38 C60 C62 (a70.e X f);have C32:=Zek ⟨⟩ G C24 C31 C17 (a32.e X f);have C33:=Zmd ⟨⟩ G (SJ C4) Y C28 C24 C30 C31 C17 (a33.e X f);have C71:=Zbg ⟨⟩ G C46 E C67 C68 (a71.e X f);have C34:=Zf2 ⟨⟩ C32 (a34.e X f);have U:=Zf0 ⟨⟩ G o r C33 (a48.e p);have C50:=Zrh ⟨⟩ G o r C32 (a50.e p);have C49:=Zfg ⟨⟩ G o r C34 (a49.e p);have C51:=Zln ⟨⟩ G o C12 U (a51.e p);have C52:=Zbn ⟨⟩ G o C6 U (a52.e p);have C80:=Zhr ⟨⟩ G o r C38 C47 U C50 C49 C51 C52 (a80.e X f);have C82:=Zp9 ⟨⟩ G x C57 C56 C72 C73 C35 C69 C77 C79 C81 C70 C71 C80 D82
 exact(C82.at (QE X f a82) T D82).imp λ_ _ _ _ z=>Pu.Zkx z
end T
namespace PySem.W.Fast
def I:True:=⟨⟩
def tw7927686279498531266:=I
def tw14746713943540227168:=I
def tw16622043635978894432:=I
def tw358492935958782080:=I
def tw14262364178518992000:=I
def tw5229053037545355456:=I
def tw11531700357448944864:=I
def tw3007938024692927744:=I
def tw5286760923428653376:=I
def tw18222984032530366816:=I
def tw3245730795048081824:=I
def tw15888968267038315936:=I
def tw12507677685483059648:=I
def tw9459690597001044480:=I
def tw7032599824057529856:=I
def tw14237571608371998240:=I
def tw14148033045375726144:=I
def tw17570851638781331008:=I
def tw16220095083442849344:=I
def tw4070804648013266496:=I
def tw10958422651041155680:=I
def tw16903827363229150816:=I
def tw793548349045849696:=I
def tw17358677170876204640:=I
def tw9365136441904791136:=I
def tw10780422776500901504:=I
def tw8929332934053722752:=I
def tw16672528864672024256:=I
def tw18363406867131111104:=I
def tw16476601476036457152:=I
def tw11739849811133242144:=I
def tw12486437075829367584:=I
def tw2258895048330372928:=I
def tw13583110452138590112:=I
def tw11034939494355896288:=I
def tw2079291986410836960:=I
def tw11580369372851673056:=I
def tw18019710015754583169:=I
def tw5619726742830504065:=I
def tw13185025471696375969:=I
def tw10406024123709432001:=I
def tw1989503440159959361:=I
def tw14036986245378116993:=I
def tw15379519265653703041:=I
def tw7641902173486899649:=I
def tw3154157611357001313:=I
def tw6690653298255495809:=I
def tw9669287959372897921:=I
def tw13826469474351911585:=I
def tw8738273658638207681:=I
def tw8607347778357685953:=I
def tw9289341205772922561:=I
def tw4035432835980541665:=I
def tw14296752540090858209:=I
def tw2339066422398965633:=I
def tw6647788221131144097:=I
def tw17926818184640628673:=I
def tw4760120021032904673:=I
def tw12190769018789027809:=I
def tw4956585038393773090:=I
def tw4205848063541792802:=I
def tw17233209987363406978:=I
def tw17149342400820756610:=I
def tw7076503754109933730:=I
def tw3907302911288145058:=I
def tw2044605637777002690:=I
def tw12065271742183229634:=I
def tw15380789526839067874:=I
def tw4854972731014351106:=I
def tw5660119739388558594:=I
def tw14815622340769784098:=I
def tw5433138077201310018:=I
def tw776274549926867266:=I
def tw4438231620719766946:=I
def tw17783566431758874018:=I
def tw12205596666693028322:=I
def tw3481713539281185250:=I
def tw3331145295328208386:=I
def tw3823129255088418306:=I
def tw15223650079260195362:=I
def tw4987585930546833954:=I
def tw14034722549010984578:=I
def tw3101050784470463106:=I
def tw14548507346164517570:=I
def tw17856520321194439362:=I
def tw9140369184495655618:=I
def tw456861299559371522:=I
def tw4808270940588884770:=I
def tw11798327473756642114:=I
def tw1176554662151024450:=I
def tw16731015207239151458:=I
def tw4027261892530221986:=I
def tw12821218469801161698:=I
def tw14458540818320425987:=I
def tw9911425955816039459:=I
def tw11286069672884175971:=I
def tw13605413704884097123:=I
def tw9716748682404315235:=I
def tw14270922769415100515:=I
def tw7880592182670068867:=I
def tw13322688515410117763:=I
def tw5038531919575816355:=I
def tw3607462485959766179:=I
def tw549548316850589923:=I
def tw18376640621540976899:=I
def tw17231213009602856195:=I
def tw15189986554865111299:=I
def tw7579241030621777219:=I
def tw166486074866010467:=I
def tw16285140373939745155:=I
def tw13644067782630657475:=I
def tw1450350252718630467:=I
def tw10898043591972598371:=I
def tw5795417351719820931:=I
def tw6352362271741104771:=I
def tw12029534292477974179:=I
def tw14530005732088327843:=I
def tw13114269260421731011:=I
def tw13446690963536262851:=I
def tw2153412220886078147:=I
def tw13203148267280460515:=I
def tw3230852719122423715:=I
def tw9716953955424255907:=I
def tw1597266374822406083:=I
def tw7954163832118306755:=I
def tw3583309281089223619:=I
def tw7764911843703072739:=I
def tw10114209136768068579:=I
def tw13398766560354435108:=I
def tw1528850145425329220:=I
def tw12158364826770504836:=I
def tw4342285418979123396:=I
def tw8125681521186680132:=I
def tw3023661367910551876:=I
def tw1840545857278223716:=I
def tw13554081070881073540:=I
def tw3050806115413788100:=I
def tw8036750059336448548:=I
def tw11316342709950724644:=I
def tw7482234766460075556:=I
def tw6246958440639844964:=I
def tw3904115300858567300:=I
def tw3783022585281669764:=I
def tw836173828169924292:=I
def tw11905910689711129316:=I
def tw12013405400146213604:=I
def tw534174623772759812:=I
def tw4506565571257617188:=I
def tw10023944507822431012:=I
def tw17173630182201431876:=I
def tw12894705629566744452:=I
def tw7311752209157678980:=I
def tw16779444987761414052:=I
def tw5440429608773319588:=I
def tw11223281666374204324:=I
def tw11031174684715879364:=I
def tw18437517801378894788:=I
def tw6221869162047257572:=I
def tw7834843630074203141:=I
def tw14102256773516207109:=I
def tw14222756703887600645:=I
def tw4748524540155146277:=I
def tw12791998396673603621:=I
def tw5813127366108627013:=I
def tw18057186015599972485:=I
def tw16818564583418860741:=I
def tw4141144431354787013:=I
def tw17232976568743273733:=I
def tw16854894023065042181:=I
def tw12883146960007224613:=I
def tw9396032383341978917:=I
def tw15576902406658074949:=I
def tw16981161782411214213:=I
def tw8607770314390161829:=I
def tw244120596759916997:=I
def tw13685455485432003013:=I
def tw2401037483602126309:=I
def tw1601717326783951333:=I
def tw3216662728900281861:=I
def tw13884546391103490565:=I
def tw9231425546913192485:=I
def tw7669672759030962757:=I
def tw14486854842707324517:=I
def tw9678196883998133893:=I
def tw16162024302404852357:=I
def tw14546983598905687717:=I
def tw902013743692710629:=I
def tw8242818099469189925:=I
def tw226267297250115365:=I
def tw18031380085125405509:=I
def tw268226117657002885:=I
def tw13400936975522510821:=I
def tw6560657962200045670:=I
def tw2962774556291215462:=I
def tw14877291443271976038:=I
def tw7070734746576893062:=I
def tw5210563002327166086:=I
def tw14236617640139791526:=I
def tw5094943827820842214:=I
def tw9518881716686457158:=I
def tw1238989723126502726:=I
def tw17963103309981129030:=I
def tw5393909414764454246:=I
def tw18392856203003066726:=I
def tw6791392390564300166:=I
def tw16891885406358789542:=I
def tw8964338052519588294:=I
def tw8445185791076486630:=I
def tw15861807188539733542:=I
def tw6876706798697814598:=I
def tw11517805580839951942:=I
def tw3968969186706258566:=I
def tw6357359730737375910:=I
def tw5040622773027439302:=I
def tw15373300200837275590:=I
def tw14356245369026944998:=I
def tw2214688348943086566:=I
def tw4448511757437821991:=I
def tw17937190191753835591:=I
def tw6653709890968934503:=I
def tw8077005973247157351:=I
def tw2646674194782276743:=I
def tw4707786507583668391:=I
def tw5929469270568030407:=I
def tw17484828207935909159:=I
def tw17663385785972380999:=I
def tw3863789003870658919:=I
def tw3282976460890215815:=I
def tw4768471924475191687:=I
def tw14504725002038791623:=I
def tw4564401367441374663:=I
def tw8487817372315202183:=I
def tw9272246608894704263:=I
def tw4084953591121957511:=I
def tw14203458302354917127:=I
def tw15133757547389964167:=I
def tw4858413465678135207:=I
def tw15121341820839758791:=I
def tw8499332038913302503:=I
def tw9641582606243460071:=I
def tw4441237291247281160:=I
def tw15293281294654500904:=I
def tw14286945841287954536:=I
def tw1474493181984173320:=I
def tw15595588759485712712:=I
def tw1680036345883899208:=I
def tw11879749904817444232:=I
def tw6542198652674965928:=I
def tw6254119396154981800:=I
def tw7730141323643855304:=I
def tw14761762985900186088:=I
def tw11670981210422105640:=I
def tw8738213068020427336:=I
def tw16523081385055991368:=I
def tw9331619050529249864:=I
def tw6031885958066321096:=I
def tw3124622260470511304:=I
def tw8758872233203134216:=I
def tw14452772918271413128:=I
def tw11057395629999102888:=I
def tw10778880866665262024:=I
def tw14448202210095598601:=I
def tw13103881571021827081:=I
def tw9561928562888491049:=I
def tw15388287132234012745:=I
def tw17867392683639713929:=I
def tw3694717101605042345:=I
def tw2385257936083839145:=I
def tw4669756639123277001:=I
def tw644998193509705929:=I
def tw1335325197665796329:=I
def tw3044887589918098665:=I
def tw16554091543600654633:=I
def tw5899047752401239401:=I
def tw1262794288185973129:=I
def tw16221834073259092361:=I
def tw1940567229989239177:=I
def tw14936273590256777609:=I
def tw8308743393219040649:=I
def tw10904634161017866697:=I
def tw4526695187952629193:=I
def tw5915470590705494537:=I
def tw3328711936565706249:=I
def tw4316159722263379465:=I
def tw16542545959319816745:=I
def tw9505908724253989449:=I
def tw2058852882379719273:=I
def tw16124684530799961705:=I
def tw1187304206248899209:=I
def tw10613510964304388777:=I
def tw15536534561590699689:=I
def tw9172812051897788105:=I
def tw8866565157916395209:=I
def tw16975520432869574377:=I
def tw10686043718626056937:=I
def tw18143263277262714601:=I
def tw4482576350870918889:=I
def tw1816866401535922985:=I
def tw5495540995908926249:=I
def tw10480956192425280329:=I
def tw14593003691695150921:=I
def tw1642790623787699049:=I
def tw12383105317141149545:=I
def tw11551603713519150985:=I
def tw3267998569911693322:=I
def tw15340774325706746890:=I
def tw9319354405034847242:=I
def tw16725117643180677258:=I
def tw3480923201000063178:=I
def tw543734311101645002:=I
def tw16749847469100091658:=I
def tw11427132191650441482:=I
def tw6299027130769730858:=I
def tw104348062953000298:=I
def tw10734221808917137802:=I
def tw17073724190479168938:=I
def tw4023125994734082474:=I
def tw12838765611584769482:=I
def tw11897062882221912522:=I
def tw18275877982220338666:=I
def tw7079319603364003370:=I
def tw7366055528535988810:=I
def tw16670699987769139786:=I
def tw17462529157547635274:=I
def tw12674419516812009130:=I
def tw9589172089057756842:=I
def tw266991168693952170:=I
def tw17906835598800716522:=I
def tw6172104302794903274:=I
def tw11336899709527447274:=I
def tw15625863628588708682:=I
def tw14679934771943329642:=I
def tw16128280313254431626:=I
def tw9028073085335460746:=I
def tw12499126245533799338:=I
def tw9596408426054690762:=I
def tw7005023593235984330:=I
def tw14192545987357693898:=I
def tw14360285792402045898:=I
def tw15540559672278023146:=I
def tw4169306799682209803:=I
def tw8810728620040329259:=I
def tw11071297943862628427:=I
def tw16007895180139402347:=I
def tw16643638788248798347:=I
def tw14838750193022956683:=I
def tw11584276079436010667:=I
def tw14345502803455564971:=I
def tw7063755636450533643:=I
def tw15533133024299129163:=I
def tw10903894731750778187:=I
def tw16400343763098021227:=I
def tw8706371669899295083:=I
def tw6376536081255876971:=I
def tw7006645319631893867:=I
def tw7537722050137688459:=I
def tw14925152725912384907:=I
def tw9785093469219356043:=I
def tw11390893182500293067:=I
def tw17781790095179816427:=I
def tw10777882944029161963:=I
def tw5086056026733962827:=I
def tw3674024729395149483:=I
def tw394815064018299627:=I
def tw9515080680232382219:=I
def tw17541947922830403371:=I
def tw17481713785153391435:=I
def tw8115539377877159755:=I
def tw1951436666496576331:=I
def tw7751822672989644651:=I
def tw8464296187118717835:=I
def tw3884818329558247307:=I
def tw5203691304704483243:=I
def tw5010281422336369579:=I
def tw1460863772808009707:=I
def tw8176371800448924684:=I
def tw4950012233102314572:=I
def tw12648916377654318156:=I
def tw4206743780124709996:=I
def tw13662615839669040300:=I
def tw5453289730286761132:=I
def tw10942809432155757772:=I
def tw14782544348765818220:=I
def tw5304515075225458028:=I
def tw12258458962413616524:=I
def tw4335545041821818316:=I
def tw18173448878368828908:=I
def tw1386668836745899500:=I
def tw10111294731606801932:=I
def tw10605002165206405644:=I
def tw12696967848773119500:=I
def tw12145212291446010412:=I
def tw6638233776545642060:=I
def tw2435453669776864876:=I
def tw7010798759517251180:=I
def tw2840782415316711148:=I
def tw12801359826228377324:=I
def tw950000046473403180:=I
def tw7707955621016054636:=I
def tw11220866949310121868:=I
def tw9486248933457305484:=I
def tw4429079884151277452:=I
def tw17160448446017724300:=I
def tw14385746740957420460:=I
def tw6061201947396797356:=I
def tw2069311925907132364:=I
def tw893219578562199532:=I
def tw2677480487206588429:=I
def tw6794188452276059181:=I
def tw13505937991036390445:=I
def tw11434537477193985069:=I
def tw17767814525137036365:=I
def tw5047985420365860973:=I
def tw15196393496252953741:=I
def tw3502228570447592589:=I
def tw13714812528868032685:=I
def tw4518124970724969677:=I
def tw18375317752500581645:=I
def tw4911210921637957997:=I
def tw11937330930719916461:=I
def tw2365232947182873069:=I
def tw7699086941398220269:=I
def tw9333366537704306157:=I
def tw15298370017419560461:=I
def tw4888792229805649421:=I
def tw44084408182994445:=I
def tw6519822478083043885:=I
def tw2434940207434765965:=I
def tw2236970697094339213:=I
def tw13738425113613180557:=I
def tw4821719171585769101:=I
def tw16698075788318148301:=I
def tw17158349590746265357:=I
def tw14112987781657220909:=I
def tw8739037897421777709:=I
def tw17218787091628366733:=I
def tw5419201686619238349:=I
def tw3607383205610166286:=I
def tw18339821234531430478:=I
def tw11787595166751942798:=I
def tw4038108166540693678:=I
def tw4054489222913728686:=I
def tw18388819290714184910:=I
def tw57356331023548622:=I
def tw8440760866345624846:=I
def tw11154558211686706446:=I
def tw13011451183938437422:=I
def tw10066871303189563758:=I
def tw13085949307443223950:=I
def tw14014098693818882510:=I
def tw7859821064389806542:=I
def tw14761490909048238574:=I
def tw7364537403423574606:=I
def tw2871199893995340462:=I
def tw424971236022549230:=I
def tw8427329036321668878:=I
def tw11589482607267615534:=I
def tw17844233341247733710:=I
def tw1552568518864516078:=I
def tw7799002125403145231:=I
def tw2767167420959832143:=I
def tw6003196135768214607:=I
def tw11363676196404158543:=I
def tw9389502522271309935:=I
def tw13172956321531146351:=I
def tw14481579986689551503:=I
def tw4358582182789449903:=I
def tw2462665750008538319:=I
def tw11937997887005614383:=I
def tw12532715017161095503:=I
def tw15510388312238709071:=I
def tw6799458880947594607:=I
def tw5587297684623153519:=I
def tw7693938981233971599:=I
def tw13633032863518328239:=I
def tw6327018216301778415:=I
def tw17464518835192060431:=I
def tw6739593100850393615:=I
def tw7355065295548314127:=I
def tw4786351826384846351:=I
def tw7064843986265962063:=I
def tw11236676112430221935:=I
def tw3790338984402146959:=I
def tw13437669696857527983:=I
def tw9549560002369686255:=I
def tw11759916733555977967:=I
def tw13381600078936432399:=I
def tw11195798643191778127:=I
def tw9807940198889741135:=I
def tw6484085850236188495:=I
def tw12686880693620609903:=I
def tw5247362712209497967:=I
def tw14602786441440444399:=I
def tw2972179306997018607:=I
def tw16566063371879422000:=I
def tw6582814782959823920:=I
def tw110832755577635984:=I
def tw7164711979343811792:=I
def tw16721675491668713712:=I
def tw1159865892409800976:=I
def tw12451787521781024080:=I
def tw15018291342671286640:=I
def tw9042030254238063984:=I
def tw6379049897580062064:=I
def tw9221574588654838160:=I
def tw4442935987388867024:=I
def tw2203587443391689232:=I
def tw16587357299302865520:=I
def tw6071216406310261488:=I
def tw17729480792155158256:=I
def tw4084277644914891568:=I
def tw6282308820164788016:=I
def tw10453576164398509936:=I
def tw929160406533321584:=I
def tw2767460057213888368:=I
def tw1450813506068628400:=I
def tw2362232112009882641:=I
def tw4787497971587828753:=I
def tw3156353365038377041:=I
def tw8728814697294690417:=I
def tw5586837306604133521:=I
def tw12578460321904417937:=I
def tw15214781249869281425:=I
def tw10370947020033791217:=I
def tw5424162364562370801:=I
def tw6852669938564999537:=I
def tw5958336026197195121:=I
def tw15034236145899804049:=I
def tw6044209900016736689:=I
def tw15714199442097146385:=I
def tw8000082181219861009:=I
def tw18185586250917612113:=I
def tw17655372369525084785:=I
def tw12951070645778507377:=I
def tw7411083794532303505:=I
def tw7053763863262424721:=I
def tw4858419189573946033:=I
def tw14867611903346601713:=I
def tw12613874493100411665:=I
def tw14985943742100066065:=I
def tw11337027415097633585:=I
def tw1528627859584956305:=I
def tw3829039107835827153:=I
def tw4488422976730782738:=I
def tw2098058274000735442:=I
def tw2925081288908602578:=I
def tw6046217755342734610:=I
def tw10071837385781809458:=I
def tw12654189524395303282:=I
def tw17223881467246623122:=I
def tw14958349112955819410:=I
def tw7543239632070458834:=I
def tw16467743624262338002:=I
def tw8869743161278757330:=I
def tw10915752873857026546:=I
def tw14718035472144415218:=I
def tw438457062548603410:=I
def tw2375198139259110930:=I
def tw14221494211119611410:=I
def tw13789873913131926066:=I
def tw5520304583183559346:=I
def tw8179042071738496818:=I
def tw2486349899111680818:=I
def tw17316774967436924722:=I
def tw2604263641940712306:=I
def tw12769216842942967666:=I
def tw18081098913282796466:=I
def tw2580798007349428146:=I
def tw4775897508537061330:=I
def tw13758869643498136562:=I
def tw14782895108770954226:=I
def tw14576263741047798770:=I
def tw5372294947559670803:=I
def tw774449565865157651:=I
def tw15521567007549124627:=I
def tw11569047333763610643:=I
def tw10803480475834147955:=I
def tw15363735865315525875:=I
def tw3757395114815035667:=I
def tw10264799932579247379:=I
def tw13425350715108195667:=I
def tw17702713783649976851:=I
def tw9995816799434563091:=I
def tw5444923808734293555:=I
def tw16486928623885883987:=I
def tw1576911788715185779:=I
def tw14491811409670129267:=I
def tw14646427736920834803:=I
def tw9822225686395568883:=I
def tw10600643866764254003:=I
def tw1451069240094712627:=I
def tw11385092693831421779:=I
def tw15909182757514398547:=I
def tw7960149651885906771:=I
def tw2045870052007233395:=I
def tw15296596252650757011:=I
def tw3307550225784179699:=I
def tw534843594244272148:=I
def tw5125541177706551348:=I
def tw12855519699549037620:=I
def tw8909841110928206900:=I
def tw10598151271837595700:=I
def tw15981684296681426036:=I
def tw7354934918029808756:=I
def tw10406315547623215220:=I
def tw12158444499256598644:=I
def tw17204909021992504468:=I
def tw8264964472078063796:=I
def tw10526661839069731028:=I
def tw9167700660127359188:=I
def tw8932903936435505396:=I
def tw15234148571172495604:=I
def tw11343633729607379220:=I
def tw13589724939969146132:=I
def tw1559607461027052820:=I
def tw18338211533532081492:=I
def tw1490645306511303028:=I
def tw8409264085886578036:=I
def tw15659606706277742964:=I
def tw16230447263095469492:=I
def tw3823218021536128436:=I
def tw6526922198198349236:=I
def tw14673013304993187284:=I
def tw13652760117027169748:=I
def tw7674606376084055540:=I
def tw14523552384019631636:=I
def tw17798837671978710548:=I
def tw10161459662556093012:=I
def tw10565463640269236852:=I
def tw2147461271199371892:=I
def tw1071876253832367764:=I
def tw12242410919362979476:=I
def tw12681904609232038580:=I
def tw5019137486455754452:=I
def tw18353633563685160692:=I
def tw1489761124315163380:=I
def tw2082908780590060308:=I
def tw7787672688288065300:=I
def tw3580138147985583892:=I
def tw1004883484311252756:=I
def tw10562437039343676212:=I
def tw13371452567455614804:=I
def tw10792581725494893396:=I
def tw7836980177036721012:=I
def tw4598000722073155444:=I
def tw11238196237530698644:=I
def tw14891473094019393428:=I
def tw11226168130793879444:=I
def tw7498124322720465876:=I
def tw4043418137683079156:=I
def tw5533889062526070772:=I
def tw14427666566889817076:=I
def tw17249850997858493428:=I
def tw7624541460025182261:=I
def tw10528363481267744885:=I
def tw6176195292479213685:=I
def tw6984074995949741205:=I
def tw4497433730303963285:=I
def tw18038397315215800533:=I
def tw6590592236140030165:=I
def tw18284289043811065109:=I
def tw15098330686805294421:=I
def tw6783703094842518901:=I
def tw3387563522378374549:=I
def tw3280452912774171061:=I
def tw3483175428105472469:=I
def tw10390876139384245717:=I
def tw7535281520423636437:=I
def tw1558165174498505173:=I
def tw8316606319047273941:=I
def tw7348920308124720629:=I
def tw11069653260999748117:=I
def tw8557496276434990645:=I
def tw8355288518620928565:=I
def tw17103140563850714677:=I
def tw11706358769284765269:=I
def tw18055758077964653173:=I
def tw18035901673132361365:=I
def tw18405971672010220245:=I
def tw17479842555956928309:=I
def tw16008276893993980725:=I
def tw13494087314125239221:=I
def tw8421206465927722933:=I
def tw8473886274274352085:=I
def tw617800698564502485:=I
def tw16012740865741478901:=I
def tw5760282455727502358:=I
def tw3548177392520780854:=I
def tw14192905564753930326:=I
def tw17093642108187136150:=I
def tw7116195829404685462:=I
def tw12408310877258621110:=I
def tw7704331069951367350:=I
def tw6383358687264006358:=I
def tw3331855198082962678:=I
def tw410911111871674646:=I
def tw10334635402325090614:=I
def tw1938352867597786614:=I
def tw3767078054725198390:=I
def tw3261222597017693750:=I
def tw18141336133604642390:=I
def tw14793598623005317718:=I
def tw9471464913380383350:=I
def tw3516821505911987830:=I
def tw11315743159984046742:=I
def tw12974650190542415542:=I
def tw13809551762527531702:=I
def tw4018407649574470326:=I
def tw13436527499338784470:=I
def tw2824458191759187670:=I
def tw9930376041517906646:=I
def tw13248547467284365046:=I
def tw15145878206622014230:=I
def tw17792221218337251126:=I
def tw17224199028625697590:=I
def tw11669819140170343254:=I
def tw8007114348774002550:=I
def tw1557526967133055894:=I
def tw12215954605803934646:=I
def tw4423562229548773334:=I
def tw13684953194799792086:=I
def tw4192097166419515447:=I
def tw15952696757230506167:=I
def tw9289081284841996535:=I
def tw1326141777721672951:=I
def tw16262708797463090455:=I
def tw15921445815277121847:=I
def tw6889091944507173207:=I
def tw12553359657230892375:=I
def tw17053164582131863927:=I
def tw16202041645455906231:=I
def tw7536637364586780119:=I
def tw13049759759405291991:=I
def tw7986416986365132247:=I
def tw15581827385086476823:=I
def tw6708713159185760823:=I
def tw13072213508729560631:=I
def tw3170066123662954071:=I
def tw1514876196648099447:=I
def tw13466146662790647447:=I
def tw9614884625140648663:=I
def tw14176884467055736535:=I
def tw1508183615881114327:=I
def tw16936820485056013079:=I
def tw1669070660732136215:=I
def tw10011368961792946967:=I
def tw4087200129333501751:=I
def tw15060361971289884503:=I
def tw1714719124962648983:=I
def tw5292330191384044471:=I
def tw11169143794906405879:=I
def tw346951056125945847:=I
def tw7331387740951238712:=I
def tw4568273233154694200:=I
def tw17108273644274141272:=I
def tw14964211476577651864:=I
def tw2490909039668372664:=I
def tw14068808250562681048:=I
def tw16888000038784704728:=I
def tw16603437890965784792:=I
def tw14708194657836495096:=I
def tw5784390406132343096:=I
def tw5734053765207859512:=I
def tw5854815337968009560:=I
def tw10920426425600018776:=I
def tw1795394127661291960:=I
def tw6367949244687324664:=I
def tw13000244474536627736:=I
def tw13918352429165224472:=I
def tw969003364029251096:=I
def tw16901212341836587608:=I
def tw12663653038559029880:=I
def tw15698702834458481304:=I
def tw8398964713101877976:=I
def tw16182439388283894552:=I
def tw1438529526550260600:=I
def tw12145414474785231768:=I
def tw12299747893747691416:=I
def tw11994432699940320152:=I
def tw15602910571387116440:=I
def tw2332165969375916952:=I
def tw9063214654452174840:=I
def tw16068998685406724153:=I
def tw12670859282991164473:=I
def tw5266058274357687353:=I
def tw5093896684673424441:=I
def tw14261718401764354105:=I
def tw1575414421528888409:=I
def tw46799863020444793:=I
def tw12976309348835661977:=I
def tw6240305554182880409:=I
def tw8254406122525704377:=I
def tw15630141708215187737:=I
def tw9899866203333350809:=I
def tw2798550598144214457:=I
def tw8696628398334791097:=I
def tw10103318499866413529:=I
def tw348132121504028121:=I
def tw6175708492254227929:=I
def tw2775660293045795289:=I
def tw11726760954225665593:=I
def tw5129023650928177753:=I
def tw15287096498805202521:=I
def tw12906765948398933689:=I
def tw8654214705290170073:=I
def tw16642639023881059033:=I
def tw14052415603692324601:=I
def tw10970437376134400761:=I
def tw4491589003240360697:=I
def tw8421698220038285081:=I
def tw3837673489094444857:=I
def tw5846156352877303609:=I
def tw10186838088058231609:=I
def tw13984383724173268825:=I
def tw18346644937553656697:=I
def tw267484724600073113:=I
def tw9280235590129563609:=I
def tw4364135503963837466:=I
def tw1859571797740443706:=I
def tw13026582838926350426:=I
def tw8005867505797278810:=I
def tw10073899640026608730:=I
def tw16275121310701948026:=I
def tw7987216292892605562:=I
def tw6984691870536391834:=I
def tw12353511412391344282:=I
def tw1260466176142630106:=I
def tw17255377843707429178:=I
def tw8529629457309011290:=I
def tw12092877246901959066:=I
def tw15458153091260761498:=I
def tw9218594451101276570:=I
def tw3983494405268937146:=I
def tw5763768800149913018:=I
def tw15847841275137014234:=I
def tw161339312703461850:=I
def tw17041677969756733978:=I
def tw10457112819297592922:=I
def tw9528265435754247802:=I
def tw5508379430513886842:=I
def tw3962541314819105466:=I
def tw11663618131650930362:=I
def tw10116222115136444186:=I
def tw9208629682429684506:=I
def tw1882814836998509370:=I
def tw15769215048861661018:=I
def tw14196123296897594234:=I
def tw7928013088389282714:=I
def tw55859801823932314:=I
def tw7819100670877436890:=I
def tw3689607625574333402:=I
def tw17973299180759811099:=I
def tw16624560650384753691:=I
def tw9064779893845221403:=I
def tw5932717978502555675:=I
def tw104765097963157531:=I
def tw16091615888964335739:=I
def tw5237887813346543803:=I
def tw2247738642227627259:=I
def tw5736327979362741499:=I
def tw5279493754894937467:=I
def tw11698865051805219195:=I
def tw8937670697997303163:=I
def tw4007198779955361179:=I
def tw11655113753897256347:=I
def tw9065102407887638939:=I
def tw7134975632511336923:=I
def tw6317754601456221659:=I
def tw17741325246347383323:=I
def tw17885392992585012763:=I
def tw7260698675441289787:=I
def tw16600047959668661883:=I
def tw9641696900673776251:=I
def tw15198541924217740923:=I
def tw9506261101541046971:=I
def tw409318710818246395:=I
def tw11986994806773990139:=I
def tw5688872730197542651:=I
def tw7394462034532894491:=I
def tw13763245993654368187:=I
def tw12717195367351606235:=I
def tw12636193579446363099:=I
def tw16122315504157387771:=I
def tw1334528964889734139:=I
def tw11993643473967035420:=I
def tw9255545230317426748:=I
def tw10900379501600234588:=I
def tw5369287318122104956:=I
def tw7479618730180809852:=I
def tw10265313815698776220:=I
def tw16348852000123845788:=I
def tw9199256326087051452:=I
def tw9063503228626959548:=I
def tw7773465160967020764:=I
def tw12860739918451558652:=I
def tw2125054485780714812:=I
def tw3280687223774735708:=I
def tw10382143954044124604:=I
def tw16925574939139712476:=I
def tw15007818824851120668:=I
def tw13908077456958695996:=I
def tw9143779470873270940:=I
def tw204198071900724892:=I
def tw14682604128851392188:=I
def tw3183451311597901532:=I
def tw16422289883395385052:=I
def tw2025672853159241468:=I
def tw3531018884225698620:=I
def tw6931469376352035676:=I
def tw16111817780473867100:=I
def tw3674881895358153596:=I
def tw16957229092078947228:=I
def tw12094642764130525084:=I
def tw16944304113591663580:=I
def tw4545558701094573085:=I
def tw835510765758534717:=I
def tw1985272255073985629:=I
def tw14350028143498213469:=I
def tw7490692241364655293:=I
def tw16184398329159220445:=I
def tw8804275856840227069:=I
def tw14743006301819645213:=I
def tw13850502918452920605:=I
def tw10469784057236190525:=I
def tw14296493357159873853:=I
def tw7596467486223286621:=I
def tw11992745449591886205:=I
def tw12549336809513562557:=I
def tw2011920372457583069:=I
def tw14263150139073974749:=I
def tw5193743426379894301:=I
def tw5550343019695992381:=I
def tw3386927122144131709:=I
def tw12487151554652597917:=I
def tw2749731744740690717:=I
def tw661581525256463165:=I
def tw1438084929706775389:=I
def tw17683093146329345949:=I
def tw15324610770841265085:=I
def tw7355362569109764029:=I
def tw5179935100571226077:=I
def tw1614508048816053213:=I
def tw9137366033452964861:=I
def tw11069018249826326590:=I
def tw11181301148064341150:=I
def tw5458424678144631966:=I
def tw2714779711725236446:=I
def tw14388596927971986686:=I
def tw2810701020994512126:=I
def tw3387089280597769566:=I
def tw12477817986810123646:=I
def tw1379351697346221438:=I
def tw16254369293287165342:=I
def tw7378532788465750462:=I
def tw3739375280972575198:=I
def tw8551648911040465438:=I
def tw14735321995364953630:=I
def tw10098840628431961694:=I
def tw4893603354248445534:=I
def tw13341331809213922942:=I
def tw4260181759680204414:=I
def tw9240129835527172734:=I
def tw16882350982674167454:=I
def tw2529402603439592126:=I
def tw5222762883620388542:=I
def tw14755349881428240062:=I
def tw7593137486428182238:=I
def tw10678375430566340318:=I
def tw4545210591161789182:=I
def tw12764601258224543486:=I
def tw10537673636418035518:=I
def tw13979295425300869950:=I
def tw176687628060843838:=I
def tw12617771480617489342:=I
def tw7859123538212905950:=I
def tw9659575899270222846:=I
def tw17561845913706082302:=I
def tw14371375060461490207:=I
def tw10422767402902479903:=I
def tw11596435934313539615:=I
def tw15315195291471286367:=I
def tw537122902741643391:=I
def tw4798551511209757919:=I
def tw8005283293170251007:=I
def tw16940321980091841791:=I
def tw18444444863177045279:=I
def tw14209430456203228511:=I
def tw8207819312821334367:=I
def tw1397005682137420159:=I
def tw17089648244194913695:=I
def tw2978778183182333343:=I
def tw14304439953256786367:=I
def tw11695921537060061695:=I
def tw1071284205312787999:=I
def tw4849043233906215455:=I
def tw620167459341719071:=I
def tw8946462953498673727:=I
def tw11409270767991753311:=I
def tw16640923465399236223:=I
def tw17180559618901337791:=I
def tw13072690999922169567:=I
def tw6108675342232838879:=I
def tw17548632855357722367:=I
def tw14603474951068094207:=I
def tw8300124842665686847:=I
def tw5901473586685250463:=I
def tw18001449752814375935:=I
end PySem.W.Fast
open PySem PySem.W PyProof.Rows
set_option maxRecDepth 100000 in
set_option maxHeartbeats 0 in
theorem PySem.Challenge.cw_stripmeld_k43_whole_taken_back_holds : PySem.Challenge.rw_stripmeld_k43_whole_taken_back.Holds := by
 w_on;o_law;k_head;(case hw=>w_witness2)
 k_fill
 refine L2.Zsc (l:=PySem.Challenge.rw_stripmeld_k43_whole_taken_back) (n:=63) (k:=9) (x:="_law_script") (CX:=L2.CX0) (sp:=Pu.ET) rfl (by decide) rfl ⟨rfl,by decide,by decide,rfl⟩ (fun w h Y=>PySem.W.kIn_of Y) ?F ?S ?C
 case F=>
  intro w mg fa h KX G hmg
  refine' T.Zep KX G hmg ?Ue ?Uv ?Uw ?Ux ?Uy ?U0 ?U1 ?U2 ?U3 ?U4 ?a1 ?a2 ?a3 ?a4 ?a5 ?a6 ?a7 ?a8 ?a9 ?a10 ?a11 ?a12 ?a13 ?a14 ?a15 ?a16 ?a17 ?a18 ?a19 ?a20 ?a21 ?a22 ?a23 ?a24 ?a25 ?a26 ?a27 ?a28 ?a29 ?a30 ?a31 ?a32 ?a33 ?a34 ?a35 ?a36 ?a37 ?a38 ?a39 ?a40 ?a41 ?a42 ?a43 ?a44 ?a45 ?a46 ?a47 ?a48 ?a49 ?a50 ?a51 ?a52 ?a53 ?a54 ?a55 ?a56 ?a57 ?a58 ?a59 ?a60 ?a61 ?a62 ?a63 ?a64 ?a65 ?a66 ?a67 ?a68 ?a69 ?a70 ?a71 ?a72 ?a73 ?a74 ?a75 ?a76 ?a77 ?a78 ?a79 ?a80 ?a81 ?a82 ?l82 ?c82 ?k82 ?U5 ?U6 ?U7 ?U8 ?U9 ?UA ?UB ?UC ?UD ?UE ?UF ?UG ?UH ?UI ?UJ ?UK ?UL ?UM ?UN ?UO ?UP ?Ub ?Ug ?Uh ?Ui ?Uj ?Uk ?Ul ?Um ?Uo ?Up ?Uq ?Ur ?Us ?Ut ?Uu ?Ud ?Ua ?x_Ringed ?x_NothingDone_NothingDone ?k_NothingDone_MeldError ?k_NothingDone_ValueError
  (case Ue|Uv|Uw|Ux|Uy|U0|U1|U2|U3|U4=>k_is)
  (case a1|a2|a3|a4|a5|a6|a7|a8|a9|a10|a11|a12|a13|a14|a15|a16|a17|a18|a19|a20|a21|a22|a23|a24|a25|a26|a27|a28|a29|a30|a31|a32|a33|a34=>apply Pu.di<;>k_is)
  (case a35|a36|a37|a38|a39|a40|a41|a42|a43|a44|a45|a46|a47|a48|a49|a50|a51|a52=>apply Pu.mi<;>k_is)
  (case a53|a54|a55|a56|a57|a58|a59|a60|a61|a62|a63|a64|a65|a66|a67|a68|a69|a70|a71|a72|a73|a74|a75|a76|a77|a78|a79|a80|a81=>apply Pu.di<;>k_is)
  (case a82|l82|c82|k82|U5|U6|U7|U8|U9|UA|UB|UC|UD|UE|UF|UG|UH|UI|UJ|UK|UL|UM|UN|UO|UP=>k_is)
  (case Ub|Ug|Uh|Ui|Uj|Uk|Ul|Um|Uo|Up|Uq|Ur|Us|Ut|Uu|Ud=>apply Pu.ei<;>first|(k_is;done)|k_exc)
  (case Ua=>apply Pu.ri<;>first|(k_is;done)|k_exc|rfl)
  (case x_Ringed|x_NothingDone_NothingDone=>kts_exm)
  (case k_NothingDone_MeldError|k_NothingDone_ValueError=>kit_is)
 case S=>exact fun K H a ns hl hO hS=>⟨a,ns,rfl,hS,fun _=>rfl⟩
 case C=>exact fun _ _ _ _ z=>z
