import PyProof.Rows.All
import Wide.All
import OpenK.AllK
import Wide.FinOn
import Lean
import PyProof.EqAt
import PyProof.EqKinds
import PyProof.TupleCall
import PySem.Challenge.RW_stripmeld_k19_ring_at_every_door
set_option Elab.async false
set_option linter.all false
set_option compiler.extract_closed false
set_option genSizeOf false
set_option maxRecDepth 100000
def bu_0(h:True:=by rfl):True:=h
def au_0:Lean.Syntax:=bu_0._auto_1
def bu_1(h:True:=by decide):True:=h
def au_1:Lean.Syntax:=bu_1._auto_1
def bu_2(h:True:=by first | exact .inl rfl | exact .inr rfl | assumption):True:=h
def au_2:Lean.Syntax:=bu_2._auto_1
def bu_3(h:True:=by intro _; rfl):True:=h
def au_3:Lean.Syntax:=bu_3._auto_1
def bu_4(h:True:=by first | exact Or.inl rfl | exact Or.inr (Or.inl rfl) | exact Or.inr (Or.inr rfl)):True:=h
def au_4:Lean.Syntax:=bu_4._auto_1
def bu_5(h:True:=by decide +kernel):True:=h
def au_5:Lean.Syntax:=bu_5._auto_1
def bu_6(h:True:=by first | exact Or.inl rfl | exact Or.inr rfl):True:=h
def au_6:Lean.Syntax:=bu_6._auto_1
def bu_7(h:True:=by intro _ _; rfl):True:=h
def au_7:Lean.Syntax:=bu_7._auto_1
def bu_8(h:True:=by size_fits):True:=h
def au_8:Lean.Syntax:=bu_8._auto_1
def bu_9(h:True:=by kernel_rfl):True:=h
def au_9:Lean.Syntax:=bu_9._auto_1
def bu_10(h:True:=by intro _; first | exact Or.inl rfl | exact Or.inr (Or.inl rfl) | exact Or.inr (Or.inr rfl)):True:=h
def au_10:Lean.Syntax:=bu_10._auto_1
def bu_11(h:True:=by intro _; exact ⟨rfl, rfl, rfl⟩):True:=h
def au_11:Lean.Syntax:=bu_11._auto_1
def bu_12(h:True:=by with_unfolding_all rfl):True:=h
def au_12:Lean.Syntax:=bu_12._auto_1
def bu_13(h:True:=by intro _; first | exact Or.inl rfl | exact Or.inr rfl):True:=h
def au_13:Lean.Syntax:=bu_13._auto_1
def bu_14(h:True:=by intro _; first | exact .inl rfl | exact .inr rfl | assumption):True:=h
def au_14:Lean.Syntax:=bu_14._auto_1
def bu_15(h:True:=by intro _; kernel_rfl):True:=h
def au_15:Lean.Syntax:=bu_15._auto_1
noncomputable section
def Wu:=@PySem.wpAny_bind
def Wv:=@List.length_map
def Ww:=@List.getElem?_eq_getElem
def Wx:=@List.mem_singleton
def Wy:=@PySem.wpAny_pure
def Wz:=@PySem.Heap.get?_push_of_some
def W1:=@decide_eq_true
def W2:=@if_neg
def W3:=@Nat.le_refl
def W4:=@List.take_succ_eq_append_getElem
def W5:=@if_pos
def W6:=@of_decide_eq_true
def W7:=@List.getD_eq_getElem?_getD
def W8:=@PySem.Heap.lt_size
def W9:=@Nat.le_trans
def WA:=@List.length_append
def WB:=@List.mem_cons
def WC:=@List.map_append
def WD:=@List.mem_append
def WE:=@PySem.Heap.get?_push_size
def WG:=@List.length_take
def WH:=@List.getElem?_map
def WI:=@List.getElem?_eq_some_iff
def WJ:=@List.mem_iff_getElem
def WK:=@List.mem_map
def WL:=@Option.some.inj
def WM:=@List.mem_filter
def WN:=@List.getElem_mem
def WO:=@PySem.PassesOwn.never
def WQ:=@List.map_cons
def WR:=@Bool.false_ne_true
def WS:=@Nat.ne_of_lt
def WT:=@List.mem_cons_of_mem
def WU:=@List.mem_cons_self
def WV:=@List.mem_append_right
def WW:=@List.length_cons
def WX:=@List.take_length
def WY:=@List.pairwise_iff_getElem
def WZ:=@Nat.lt_of_lt_of_le
def Qa:=@List.mem_of_getElem?
def Qb:=@decide_eq_false
def Qc:=@Classical.byContradiction
def Qd:=@Bool.and_eq_true
def Qe:=@List.map_map
def Qf:=@List.nodup_append
def Qg:=@List.getElem_take
def Qh:=@PySem.wpAny_mono
def Qi:=@PySem.W.mg_none_of
def Qj:=@List.size_toArray
def Qk:=@List.length_filter_le
def Ql:=@List.nodup_cons
def Qm:=@Int.toNat_natCast
def Qn:=@List.append_nil
def Qo:=@PySem.wpAny_newObj_type
def Qp:=@PySem.wpAny_loadPart_at
def Qq:=@PySem.Heap.get?_update_self
def Qr:=@PySem.W.mg_of
def Qs:=@congrArg
def Qt:=@List.getElem?_append_left
def Qu:=@Array.length_toList
def Qv:=@PySem.F.plainAttrs_list
def Qw:=@PySem.W.kia_one
def Qx:=@PySem.Obj.data_mapFields
def Qy:=@List.length_set
def Qz:=@PySem.Heap.get?_update_other
def Q0:=@List.drop_eq_getElem_cons
def Q1:=@PySem.Heap.SameBut.update
def Q2:=@List.length_eq_zero_iff
def Q3:=@PySem.W.looks_findIn
def Q4:=@List.pairwise_append
def Q5:=@List.getElem?_append_right
def Q6:=@List.mem_range
def Q7:=@List.take_zero
def Q8:=@Array.getElem?_eq_getElem
def Q9:=@Array.getElem?_toList
def QA:=@List.cons_append
def QB:=@List.mem_append_left
def QC:=@Nat.add_le_add
def QD:=@List.append_assoc
def QE:=@Nat.lt_irrefl
def QF:=@List.perm_ext_iff_of_nodup
def QG:=@List.lookup_cons
def QH:=@PySem.wpAny_call_entry
def QI:=@List.nodup_nil
def QJ:=@List.pairwise_cons
def QK:=@PySem.wpAny_setField
def QL:=@PySem.Obj.isFreed_of_fields
def QM:=@Nat.zero_le
def QN:=@List.getElem?_take_of_lt
def QO:=@PySem.F.slot_dict_valueiterator_next
def QP:=@PySem.F.slot_list_append
def QR:=@PySem.F.type_list_append
def QS:=@PySem.wpAny_truthy_bool
def QT:=@List.take_sublist
def QU:=@List.pairwise_map
def QV:=@Bool.not_eq_true'
def QW:=@PySem.wpAny_holding
def QX:=@PySem.wpAny_typeNameOfWhole_valiter
def QY:=@decide_eq_false_iff_not
def QZ:=@List.filterMap_cons
def Va:=@beq_eq_false_iff_ne
def Vb:=@PySem.mem_of_lookup
def Vc:=@List.map_congr_left
def Vd:=@List.dropLast_concat_getLast
def Ve:=@Nat.le_succ
def Vf:=@PyProof.Rows.callWith_type1
def Vg:=@Nat.le_of_eq
def Vh:=@PySem.codeAny_mono
def Vi:=@Int.ne_of_lt
def Vj:=@PySem.wpAny_passesOwn
def Vk:=@PySem.codeAny_builtin
def Vl:=@List.take_append_drop
def Vm:=@List.length_singleton
def Vn:=@PyProof.Rows.boot_isinstance
def Vo:=@PySem.F.excBase_ValueError
def Vp:=@PySem.wpAny_setState_of
def Vq:=@decide_eq_true_eq
def Vr:=@PySem.Heap.get?_none_of_le
def Vs:=@PySem.codeAny_call_builtin
def Vt:=@List.all_eq_true
def Vu:=@List.idxOf_lt_length_iff
def Vv:=@PySem.wpAny_typeNameOf_valiter
def Vw:=@PySem.wpAny_isSubtype_exc
def Vx:=@List.filter_cons_of_pos
def Vy:=@PySem.wpAny_Call_Name_kw
def Vz:=@List.find?_cons
def V0:=@List.contains_cons
def V1:=@List.map_singleton
def V2:=@Int.emod_nonneg
def V3:=@Int.emod_lt_of_pos
def V4:=@List.filterMap_eq_map'
def V5:=@PySem.Heap.size_push
def V6:=@Nat.lt_trans
def V7:=@List.getElem?_eq_none
def V8:=@List.filterMap_append
def V9:=@PySem.W.any_some
def VA:=@Nat.lt_succ_self
def VB:=@PySem.Around.under_plainId
def VC:=@List.mem_of_mem_take
def VD:=@PySem.wpAny_standAt
def VE:=@List.any_cons
def VF:=@Array.getElem?_eq_some_iff
def VG:=@Int.le_refl
def VH:=@List.mem_map_of_mem
def VI:=@List.exists_mem_of_ne_nil
def VJ:=@Nat.le_of_lt
def VL:=@PySem.W.callWith_K
def VM:=@PySem.F.args_tuple_add_2
def VN:=@PySem.tupleKind_room_in1
def VO:=@PyProof.Rows.F.entry_set_update_loop
def VP:=@PyProof.Rows.F.plain_set_update_loop
def VQ:=@PySem.Code.quiet_builtin
def VR:=@Bool.false_eq_true
def VS:=@Nat.add_sub_cancel
def VT:=@List.filter_append
def VU:=@List.getElem?_replicate
def VW:=@PySem.F.entry_tuple_add
def VX:=@PySem.wpAny_callSpecial?_slot
def VY:=@List.filter_cons_of_neg
def VZ:=@List.getElem?_cons_succ
def Ja:=@PySem.fits_of_scanBound
def Jb:=@Nat.lt_succ_of_lt
def Jc:=@PySem.Obj.cls_mapFields
def Jd:=@PySem.wpAny_pyIter_slot
def Je:=@Bool.eq_false_iff
def Jf:=@PySem.F.slot_tuple_add
def Jg:=@Array.getElem?_eq_none
def Jh:=@PyProof.Rows.boot_sorted
def Ji:=@List.all_cons
def Jj:=@Bool.true_and
def Jk:=@if_false
def Jl:=@List.not_mem_nil
def Jm:=@PySem.W.methodCall_KW
def Jn:=@PySem.F.typeOf_object_class
def Jo:=@PySem.wpAny_isOneOf_valiter
def Jp:=@List.getElem?_reverse
def Jq:=@List.Pairwise.and_mem
def Jr:=@List.getElem?_set_ne
def Js:=@PySem.wpAny_execs_nil
def Jt:=@Nat.ne_of_gt
def Ju:=@Bool.eq_iff_iff
def Jv:=@PySem.wpAny_call
def Jw:=@PySem.Calls.evalArgs_plain
def Jx:=@Option.map_some
def Jy:=@Bool.or_eq_true
def Jz:=@Nat.not_lt
def J0:=@List.cons.injEq
def J1:=@Nat.pow_le_pow_right
def J2:=@PySem.W.plainGet_of
def J4:=@PySem.W.looks_clsIn
def J6:=@List.length_pos_iff
def J7:=@List.length_reverse
def J8:=@List.getElem_of_mem
def J9:=@List.flatMap_append
def JA:=@PySem.sizeLine_eq
def JB:=@PySem.wpAny_field
def JC:=@List.mem_filterMap
def JD:=@PySem.W.Looks.here
def JE:=@Nat.lt_of_le_of_lt
def JF:=@List.getElem_idxOf
def JG:=@PySem.W.isNs_of_in
def JH:=@Option.isSome_map
def JI:=@List.ext_getElem?
def JJ:=@List.Pairwise.map
def JK:=@List.flatMap_cons
def JL:=@Int.emod_eq_of_lt
def JM:=@List.getElem_inj
def JN:=@Int.add_zero
abbrev ZU:=List (Int×Int)
abbrev ZV:=List Int
abbrev ZW:=List (PySem.Addr×PySem.Obj)
abbrev ZX:=PySem.Str->Option PySem.Value
abbrev ZY:=PySem.Value->PySem.Shared->Prop
abbrev ZZ:=List (Option Nat)
abbrev Ya:=List Nat
abbrev Yb:=List PySem.Value
abbrev Yc:=List PySem.Str
abbrev Yd:=List PySem.Expr
abbrev Ye:=List PySem.Stmt
abbrev Yf:=Option PySem.Value
abbrev Yg:=Option PySem.Addr
abbrev Yh:=Array (Int×PySem.Value)
abbrev ZT:=PySem.W.Frag
namespace L2
open PySem PySem.Spec PyProof.Rows
abbrev Key:=Sum Int Str
noncomputable def N7:Key->Value->Bool
 | .inl k,v=>Value.isInt k v
 | .inr x,v=>Value.isStrOf x v
noncomputable def Zb4(w:World):Key->Int
 | .inl k=>hashInt k
 | .inr x=>hashStr w x
def Ta:∀{k}{v:Value},N7 k v=true->(∃i t,k=Sum.inl i/\v=Value.int i t)\/(∃x t,k=Sum.inr x/\v=Value.str x t)
 | .inl i,v,h=>by
  obtain⟨t,e⟩:=Value.isInt_shape h
  grind
 | .inr x,v,h=>by
  obtain⟨t,e⟩:=Value.isStrOf_shape h
  grind
def Zjh(i:Int)(t:Tok):N7 (.inl i) (.int i t)=true:=by simp[N7,Value.isInt]
def Zg2(x:Str)(t:Tok):N7 (.inr x) (.str x t)=true:=by simp[N7,Value.isStrOf]
def Zl0(a b:Int):decide ((Sum.inl a:Key)=Sum.inl b)=(a==b):=by grind
def Zex(a b:Str):decide ((Sum.inr a:Key)=Sum.inr b)=decide (a=b):=by simp
def Zjk(a:Int)(b:Str):decide ((Sum.inl a:Key)=Sum.inr b)=false:=Qb (λq=>nomatch q)
def Zmb(a:Str)(b:Int):decide ((Sum.inr a:Key)=Sum.inl b)=false:=Qb (λq=>nomatch q)
noncomputable def KL(prog:Program)(w:World):PySem.KeyKind prog w Key where
 is:=N7
 hash:=Zb4 w
 inj:=λv a b ha hb=>by
  rcases Ta ha with⟨i,t,rfl,rfl⟩|⟨x,t,rfl,rfl⟩
  ·rcases Ta hb with⟨j,u,rfl,e⟩|⟨y,u,rfl,e⟩
   ·injection e with e1 _;rw[e1]
   ·exact nomatch e
  ·rcases Ta hb with⟨j,u,rfl,e⟩|⟨y,u,rfl,e⟩
   ·exact nomatch e
   ·injection e with e1 _;rw[e1]
 byValue:=λk v h=>by
  rcases Ta h with⟨i,t,rfl,rfl⟩|⟨x,t,rfl,rfl⟩<;>rfl
 pyHash:=λhv h=>by
  rcases Ta hv with⟨i,t,rfl,rfl⟩|⟨x,t,rfl,rfl⟩
  ·exact wpAny_pyHash_int h
  ·exact wpAny_pyHash_str h
 eqBool:=λhu hv h=>by
  rcases Ta hu with⟨i,t,rfl,rfl⟩|⟨x,t,rfl,rfl⟩
  ·rcases Ta hv with⟨j,u,rfl,rfl⟩|⟨y,u,rfl,rfl⟩
   ·rw[Zl0]at h;exact wpAny_eqBool_int h
   ·rw[Zjk]at h;exact SeqAt.EqAt.int_str i t y u _ _ _ _ h
  ·rcases Ta hv with⟨j,u,rfl,rfl⟩|⟨y,u,rfl,rfl⟩
   ·rw[Zmb]at h;exact SeqAt.EqAt.str_int x t j u _ _ _ _ h
   ·rw[Zex]at h;exact wpAny_eqBool_str h
 «strs»:=λk x t v h=>by
  rcases Ta h with⟨i,u,rfl,e⟩|⟨y,u,rfl,e⟩
  ·exact nomatch e
  ·injection e with e1 _;subst e1;cases v<;>rfl
def Zbe(prog:Program)(w:World)(i:Int)(t:Tok):(KL prog w).is (.inl i) (.int i t)=true:=Zjh i t
def Za9(prog:Program)(w:World)(x:Str)(t:Tok):(KL prog w).is (.inr x) (.str x t)=true:=Zg2 x t
inductive V where
 |non|bl (b:Bool)|int (i:Int)|str (x:Str)|byt (b:Array UInt8)|flt (b:UInt64)|ref (a:Addr)|ty (n:String)
 deriving DecidableEq
def RelV:V->Value->Prop
 | .non,u=>u=Value.none
 | .bl b,u=>u=Value.bool b
 | .int i,u=>∃t,u=Value.int i t
 | .str x,u=>∃t,u=Value.str x t
 | .byt b,u=>∃t,u=Value.bytes b t
 | .flt b,u=>∃t,u=Value.float b t
 | .ref a,u=>u=Value.ref a
 | .ty n,u=>u=Value.type n
abbrev Vals:List V->Yb->Prop:=Paired RelV
def Vals.length (r:Vals xs us):xs.length=us.length:=Paired.length r
def Vals.get:∀{xs us}{i:Nat}{x:V},Vals xs us->xs[i]?=some x->∃u,us[i]?=some u/\RelV x u:=by
 intro l
 induction l with
 |nil=>
  intro _ i _ h e;simp at e
 |cons _ _ b=>
  intro _ i d h e;cases h with
  |cons h r=>
   cases i with
   |zero=>
    simp at e;subst e;exact⟨_,rfl,h⟩
   |succ i=>
    obtain⟨v,g,f⟩:=b r (by simpa using e);exact⟨v,by simpa using g,f⟩
theorem Vals.set (r:RelV x u):∀{xs us} i,Vals xs us->Vals (xs.set i x) (us.set i u)
 |_,_,_,.nil=>.nil
 |_,_,0,.cons _ t=>.cons r t
 |_,_,i+1,.cons q t=>.cons q (Vals.set r i t)
def Vals.append:∀{xs b}{us f:Yb},Vals xs us->Vals b f->Vals (xs++b) (us++f):=by
 intro l
 induction l with
 |nil=>
  intro _ _ _ h s;cases h
  exact s
 |cons _ _ g=>
  intro _ _ _ h s;cases h with
  |cons h r=>
   exact .cons h (g r s)
theorem Vals.take:∀{xs us} n,Vals xs us->Vals (xs.take n) (us.take n)
 |_,_,0,_|_,_,_+1,.nil=>.nil
 |_,_,n+1,.cons r t=>.cons r (Vals.take n t)
theorem Vals.drop:∀{xs us} n,Vals xs us->Vals (xs.drop n) (us.drop n)
 |_,_,0,r=>r
 |_,_,_+1,.nil=>.nil
 |_,_,n+1,.cons _ t=>Vals.drop n t
def RelO:Option V->Yf->Prop
 |some v,some u=>RelV v u
 |none,none=>True
 |_,_=>False
def KV{b:Type}:List (b×V)->List (b×Value)->Prop:=Paired λ(p:b×V) (q:b×Value)=>p.1=q.1/\RelV p.2 q.2
noncomputable def kV:Key->V
 | .inl i=>.int i
 | .inr x=>.str x
inductive HO where
 |lst (xs:List V)
 |tup (xs:List V)
 |dK (kvs:List (Key×V))|dT (kvs:List (List Key×V))
 |set (S:Int->Bool) (n:Nat)
 |ins (C dx:Addr) (fs:List (Str×V))
 |own (x:Addr)
 |xd (fs:List (Str×V))
 |met (f x:Addr)
 |rng (lo hi:Int)
 |frz (o:Obj) (u:HO)
 |tbl (ps:Array Value)
 |ext (φ:Heap->Prop)
abbrev Hp:=Addr->Option HO
noncomputable def upd(H:Hp)(a:Addr)(o:HO):Hp:=λb=>if b=a then some o else H b
def Xk:upd H a o a=some o:=by unfold upd;rw[W5 rfl]
def Xa{a b o}(h:b≠a):upd H a o b=H b:=by unfold upd;rw[W2 h]
def Ry:upd (upd H a o) a u=upd H a u:=by
 funext b;unfold upd;split<;>rfl
def HJ{H:Hp}{a b}{o u}(h:H a=some o)(f:H b=some u)(d:o≠u):a≠b:=by grind
def Xy{H:Hp}{a b}{o}(h:H a=some o)(f:H b=none):a≠b:=by grind
section
variable (P:Program) (w:World)
def ObjOk(H:Hp)(h:Heap)(a:Addr):HO->Prop
 | .lst xs=>xs.length<=sizeLine/\∃(g:Yb) (n:Nat),Vals xs g/\h.get? a=some {cls:=.type "list",data:=.seq g.toArray n}
 | .tup xs=>xs.length<=sizeLine/\∃g:Yb,Vals xs g/\IsTup h a g.toArray
 | .dK b=>b.length<=sizeLine/\(a==sysModules)=false/\∃y,KV b y/\h.DictOf (KL P w) a y
 | .dT b=>b.length<=sizeLine/\(a==sysModules)=false/\∃xs:List (List Key×Addr×Value),
   Paired (λ(p:List Key×V) (q:List Key×Addr×Value)=>p.1=q.1/\H q.2.1=some (.tup<|p.1.map kV)/\RelV p.2 q.2.2) b xs/\
   ∃o B J,h.get? a=some o/\o.ExactDict/\o.data=.dict B J/\B.toList=xs.map (entryOfKey<|tupleKind<|KL P w)/\(xs.map (·.1)).Nodup
 | .set S n=>h.SetOf (intKind P w) a S n
 | .ins C r fs=>H r=some (.own a)/\fs.length<=1000/\r≠a/\h.get? a=some (PySem.W.instObj C r)/\
   ∃l,h.Ns1 r l/\(∀f,RelO (fs.lookup f) (l f))/\PySem.Within l (fs.map (·.1))
 | .own _=>∃o,h.get? a=some o
 | .xd fs=>∃l,h.Ns1 a l/\∀f,RelO (fs.lookup f) (l f)
 | .rng lo G=>∃t u v,h.get? a=some {cls:=.type "range",data:=.fields #[.int lo t,.int G u,.int 1 v]}
 | .frz o u=>h.get? a=some o/\ObjOk H h a u
 | .tbl E=>h.get? a=some {cls:=.none,data:=.fields E}
 | .met f x=>h.get? a=some (PySem.W.methodObj (.ref f)<|.ref x)
 | .ext s=>s h/\(∃o,h.get? a=some o)/\∀A z:Heap,s A->(∀o,A.get? a=some o->z.get? a=some o)->s z
def HOk(H:Hp)(h:Heap):Prop:=∀a o,H a=some o->ObjOk P w H h a o
end
section
variable {P:Program}{w:World}{H H':Hp}{h h':Heap}{a:Addr}{o:HO}
def ObjOk.lt (x:ObjOk P w H h a o):a<h.objs.size:=by
 cases o with
 |lst xs=>obtain⟨_,_,_,_,e⟩:=x;exact W8 e
 |tup xs=>obtain⟨_,_,_,p⟩:=x;exact p.lt
 |set S n=>obtain⟨o,_,_,_,e,_⟩:=x;exact W8 e
 |ins C r fs=>obtain⟨_,_,_,e,_⟩:=x;exact W8 e
 |own y=>obtain⟨_,e⟩:=x;exact W8 e
 |xd fs=>obtain⟨_,⟨_,_,_,e,_⟩,_⟩:=x;exact W8 e
 |rng lo q=>obtain⟨_,_,_,e⟩:=x;exact W8 e
 |frz l u=>obtain⟨e,_⟩:=x;exact W8 e
 |tbl g|met f y=>exact W8 x
 |ext b=>obtain⟨_,⟨_,e⟩,_⟩:=x;exact W8 e
 |_=>obtain⟨_,_,_,_,o,_,_,e,_⟩:=x;exact W8 e
def Paired.mapP:∀{l:List s}{g:List q},Paired F l g->(∀a b,F a b->G a b)->Paired G l g:=by
 intro p
 induction p with
 |nil=>
  intro _ h _;cases h
  exact .nil
 |cons _ _ n=>
  intro _ h f;cases h with
  |cons h r=>
   exact .cons (f _ _ h) (n r f)
def ObjOk.stay (x:ObjOk P w H h a o) (k:∀b u,(b=a\/H b=some (.own a))->h.get? b=some u->h'.get? b=some u)
  (Q:∀b,H b=some (.own a)->H' b=some (.own a)) (N:∀b xs,H b=some (.tup xs)->H' b=some (.tup xs)):ObjOk P w H' h' a o:=by
 induction o with
 |lst xs=>obtain⟨z,A,n,r,e⟩:=x;exact⟨z,A,n,r,k _ _ (.inl rfl) e⟩
 |tup xs=>obtain⟨z,A,r,g,e,c⟩:=x;exact⟨z,A,r,g,k _ _ (.inl rfl) e,c⟩
 |dK G=>obtain⟨z,y,J,r,g,l,s,e,c⟩:=x;exact⟨z,y,J,r,g,l,s,k _ _ (.inl rfl) e,c⟩
 |dT G=>
  obtain⟨z,y,xs,r,g,l,s,e,c⟩:=x;exact⟨z,y,xs,Paired.mapP r λp q z=>⟨z.1,N _ _ z.2.1,z.2.2⟩,g,l,s,k _ _ (.inl rfl) e,c⟩
 |set S n=>obtain⟨g,l,s,t,e,c⟩:=x;exact⟨g,l,s,t,k _ _ (.inl rfl) e,c⟩
 |ins C dx fs=>
  obtain⟨d,z,L,e,E,⟨B,l,s,T,c⟩,r⟩:=x;exact⟨Q _ d,z,L,k _ _ (.inl rfl) e,E,⟨B,l,s,k _ _ (.inr d) T,c⟩,r⟩
 |own y=>obtain⟨g,e⟩:=x;exact⟨g,k _ _ (.inl rfl) e⟩
 |xd fs=>obtain⟨E,⟨B,l,s,e,c⟩,r⟩:=x;exact⟨E,⟨B,l,s,k _ _ (.inl rfl) e,c⟩,r⟩
 |rng lo hi=>obtain⟨t,u,v,e⟩:=x;exact⟨t,u,v,k _ _ (.inl rfl) e⟩
 |frz g u M=>obtain⟨e,q⟩:=x;exact⟨k _ _ (.inl rfl) e,M q⟩
 |tbl Y=>
  have e:=x;exact k a _ (.inl rfl) e
 |met f y=>
  have e:=x;exact k a _ (.inl rfl) e
 |ext U=>obtain⟨p,⟨o,e⟩,st⟩:=x;exact⟨st _ _ p λo q=>k _ _ (.inl rfl) q,⟨o,k _ _ (.inl rfl) e⟩,st⟩
def HOk.lt (x:HOk P w H h) (e:H a=some o):a<h.objs.size:=(x a o e).lt
def HOk.fresh (x:HOk P w H h) (e:h.objs.size<=a):H a=none:=by
 cases q:H a with
 |none=>rfl
 |some u=>exact absurd (WZ (x.lt q) e) (QE _)
def HOk.kept (x:HOk P w H h) (k:∀b u,h.get? b=some u->h'.get? b=some u):HOk P w H h':=λa o e=>
 (x a o e).stay (λb u _ q=>k b u q) (λ_ q=>q) λ_ _ q=>q
def HOk.laid (x:HOk P w H h) (k:∀b u,h.get? b=some u->h'.get? b=some u) (l:h.objs.size<=a) (new:ObjOk P w (upd H a o) h' a o):HOk P w (upd H a o) h':=λb u e=>by
 have f:=x.fresh l;by_cases g:b=a
 ·subst g;rw[Xk]at e;cases e;exact new
 ·rw[Xa g]at e;exact(x b u e).stay (λc v _ q=>k c v q) (λc q=>by rw[Xa (Xy q f)];exact q) λc xs q=>by rw[Xa (Xy q f)];exact q
end
def Rd(H:Hp)(a:Addr)(u:HO):Prop:=H a=some u\/∃o,H a=some (.frz o u)
def Rd.ok {H h a u} (r:Rd H a u) (x:HOk P w H h):ObjOk P w H h a u:=by
 rcases r with r|⟨o,r⟩
 ·exact x a u r
 ·obtain⟨_,q⟩:=x a _ r;lia
def Mut:Option HO->Prop
 |some (.lst _)=>True
 |some (.dK _)=>True
 |some (.dT _)=>True
 |some (.set _ _)=>True
 |some (.ins _ _ _)=>True
 |some (.ext _)=>True
 |_=>False
section
variable {P:Program}{w:World}{H:Hp}{h h':Heap}{x e:Addr}{o':HO}
def HOk.write (ok:HOk P w H h) (g:Mut (H x)) (A:e=x\/H e=some (.own x)) (k:∀b u,b≠e->h.get? b=some u->h'.get? b=some u) (l:∃u,h'.get? e=some u)
  (new:ObjOk P w (upd H x o') h' x o'):HOk P w (upd H x o') h':=λb u q=>by
 have nown:∀c y,H c=some (.own y)->c≠x:=λc y r z=>by subst z;rw[r]at g;exact g
 have ntup:∀c xs,H c=some (.tup xs)->c≠x:=λc xs r z=>by subst z;rw[r]at g;exact g
 by_cases p:b=x
 ·subst p;rw[Xk]at q;cases q;exact new
 ·rw[Xa p]at q;by_cases f:b=e
  ·have n:H b=some (.own x):=by
    rcases A with z|z
    ·grind
    ·rw[f];exact z
   rw[q]at n;cases n;obtain⟨v,s⟩:=l;exact⟨v,by rw[f];exact s⟩
  ·refine(ok b u q).stay (λc v o r=>k c v ?_ r) (λc r=>by rw[Xa (nown c b r)];exact r) λc xs r=>by rw[Xa (ntup c xs r)];exact r
   rcases o with rfl|o
   ·exact f
   ·grind
end
structure Un (fs ex:List Addr) (H H':Hp) (h h':Heap):Prop where
 keep:∀b o,h.get? b=some o->H b=none->b∉fs->b∉ex->h'.get? b=some o
 slot:∀b o,h.get? b=some o->H b=none->b∈fs->b∉ex->∃sl,h'.get? b=some {o with slots:=sl}
 free:∀b o,h.get? b=some o->H b=none->b∉ex->H' b=none
 there:∀b o,h.get? b=some o->b∉ex->∃o',h'.get? b=some o'
 tups:∀b xs,H b=some (.tup xs)->H' b=some (.tup xs)
 frzs:∀b o u,H b=some (.frz o u)->H' b=some (.frz o u)
 tbls:∀b ps,H b=some (.tbl ps)->∃more,H' b=some (.tbl (ps++more))
section
variable {fs fs' ex ex':List Addr}{H H1 H2:Hp}{h h1 h2 h':Heap}{a x e:Addr}{o:HO}
def Un.any (u:Un fs ex H H1 h h1) {b ob} (q:h.get? b=some ob) (n:H b=none) (hx:b∉ex):∃sl,h1.get? b=some {ob with slots:=sl}:=by
 by_cases f:b∈fs
 ·exact u.slot b ob q n f hx
 ·exact⟨ob.slots,u.keep b ob q n f hx⟩
def Un.kept (k:∀b u,h.get? b=some u->h'.get? b=some u):Un fs ex H H h h':=
 ⟨λb f q _ _ _=>k b f q,λb f q _ _ _=>⟨f.slots,k b f q⟩,λ_ _ _ n _=>n,λb f q _=>⟨f,k b f q⟩,λ_ _ q=>q,λ_ _ _ q=>q,λ_ g q=>⟨#[],by rw[q];simp⟩⟩
def Un.refl:Un fs ex H H h h:=Un.kept λ_ _ q=>q
def Un.laid (k:∀b u,h.get? b=some u->h'.get? b=some u) (hp:h.objs.size<=a) (hn:H a=none):Un fs ex H (upd H a o) h h' where
 keep:=λb u q _ _ _=>k b u q
 slot:=λb u q _ _ _=>⟨u.slots,k b u q⟩
 free:=λb u q n _=>by rw[Xa (WS<|WZ (W8 q) hp)];exact n
 there:=λb u q _=>⟨u,k b u q⟩
 tups:=λb xs q=>by rw[Xa (Xy q hn)];exact q
 frzs:=λb u xs q=>by rw[Xa (Xy q hn)];exact q
 tbls:=λb ps q=>⟨#[],by rw[Xa (Xy q hn),q];simp⟩
def Un.write (f:Mut (H x)) (v:e=x\/H e=some (.own x)) (k:∀b u,b≠e->h.get? b=some u->h'.get? b=some u) (s:∃u,h'.get? e=some u):Un fs ex H (upd H x o) h h':=by
 have hx:∀b,H b=none->b≠x:=λb n z=>by subst z;rw[n]at f;exact f
 have l:∀b,H b=none->b≠e:=λb n z=>by
  rcases v with r|r
  ·grind
  ·grind
 have g:∀b u,H b=some u->¬Mut (some u)->b≠x:=λb u q p z=>by subst z;rw[q]at f;exact p f
 refine⟨λb u q n _ _=>k b u (l b n) q,λb u q n _ _=>⟨u.slots,k b u (l b n) q⟩,λb u q n _=>by rw[Xa (hx b n)];exact n,λb u q _=>?_,
  λb xs q=>by rw[Xa (g b _ q λz=>z)];exact q,λb u xs q=>by rw[Xa (g b _ q λz=>z)];exact q,λb y q=>⟨#[],by rw[Xa (g b _ q λz=>z),q];simp⟩⟩
 by_cases w:b=e
 ·grind
 ·grind
end
noncomputable def trk(h:Heap)(H:Hp):List Addr:=(List.range h.objs.size).filter λa=>(H a).isSome
noncomputable def T5(h:Heap)(H:Hp):Heap:=PySem.W.hideAll h (trk h H)
def OF(h:Heap)(H:Hp):(T5 h H).objs.size=h.objs.size:=PySem.W.hideAll_size _ _
def Zhz{H b o}(e:h.get? b=some o)(n:H b=none):(T5 h H).get? b=some o:=
 PySem.W.hideAll_get _ e λf=>by
  have q:=(WM.mp f).2
  grind
def Zbk(e:(T5 h H).get? b=some o):h.get? b=some o/\H b=none:=by
 have f:=PySem.W.of_hideAll (trk h H) e;refine⟨f,?_⟩;cases q:H b with
 |none=>rfl
 |some x=>
  have g:b∈trk h H:=WM.mpr ⟨Q6.mpr (W8 f),by simp[q]⟩;have z:(T5 h H).get? b=none:=PySem.W.hideAll_none (trk h H) g
  grind
noncomputable def Zj8(g h:Heap)(L:Addr):ZW:=(List.range h.objs.size).filterMap λa=>if a=L\/(g.get? a).isSome=true then none else(h.get? a).map λo=>(a,o)
noncomputable def rest(g h:Heap)(L d:Addr):ZW:=(Zj8 g h L).filter λp=>decide (p.1≠d)
structure Mod (K:ZT) (mg:ZX) (base:Heap):Prop where
 kin:K.In base
 glob:base.Ns mainGlobals mg
 blt:∃mb,base.Ns builtinsNs mb/\∀x:Str,x≠"__name__"->mb x=bootBuiltins x
 nolimit:base.NoLimit
structure Cx where
 prog:Program
 w:World
 K:ZT
 mg:ZX
 base:Heap
 A:Around
 N:Yc
 s₀:Shared
 H₀:Hp
 env:Env
 outer:List Env
 stack:List Env
 ex:List Addr
 fn:Str->Bool
 calm:Bool
 pn:ZW
 xe:ZY
noncomputable def frs(l:List Env):List Addr:=l.filterMap (·.frame)
noncomputable abbrev Cx.fs (X:Cx):List Addr:=frs X.outer
def Vis(b:Scope)(x:Str):Prop:=b.names.lookup x=some .local\/b.names.lookup x=some .cell\/b.names.lookup x=some .free
def Loc(b:Scope)(x:Str):Prop:=b.names.lookup x=some .local\/b.names.lookup x=some .cell
def Look(env:Env)(h:Heap)(m:ZX)(x:Str)(u:Value):Prop:=
 (env.kindOf x=some .local/\m x=some u)\/((env.kindOf x=some .cell\/env.kindOf x=some .free)/\∃c,env.cells.lookup x=some c/\h.IsCell c (some u))
structure Cx.Ok (X:Cx):Prop where
 mod:Mod X.K X.mg X.base
 kind:X.env.scope.kind=.function
 glob:X.env.globals=mainGlobals
 blt:X.env.builtins=builtinsNs
 above:X.s₀.heap.objs.size<=X.env.locals
 inj:∀x y c,X.env.cells.lookup x=some c->X.env.cells.lookup y=some c->x=y
 has:∀x,(X.env.kindOf x=some .cell\/X.env.kindOf x=some .free)->∃c,X.env.cells.lookup x=some c
 cab:∀x c,X.fn x=true->X.env.cells.lookup x=some c->X.s₀.heap.objs.size<=c
 hd:X.calm=true->X.A.handled=none
 frames:X.A.frames=some X.stack
 stk:X.stack=X.outer\/(X.stack=X.env::X.outer/\X.env.frame=some X.env.locals)
 exf:∀b∈X.ex,b≠X.env.locals/\∀x c,X.env.cells.lookup x=some c->c≠b
 bs:∀b o,X.base.get? b=some o->X.s₀.heap.get? b=some o/\X.H₀ b=none
 bsz:X.base.objs.size<=X.s₀.heap.objs.size
 noex:∀b o,X.base.get? b=some o->b∉X.ex
 exfs:∀b∈X.ex,b∉X.fs
 funs:X.s₀.heap.FunFrames X.base X.outer
 frf:∀b∈X.fs,X.H₀ b=none
structure Inv (X:Cx) (pins:ZW) (σ:List (Option V)) (H:Hp) (s:Shared):Prop where
 ok:X.Ok
 os:s.os=X.s₀.os
 bare:AllBare s.gens
 base:Un X.fs X.ex X.H₀ H X.s₀.heap s.heap
 loc:∃m,s.heap.Ns X.env.locals m/\∀(i:Nat) (x:Str) (v:V),X.N[i]?=some x->σ[i]?=some (some v)->Vis X.env.scope x->∃u,RelV v u/\Look X.env s.heap m x u
 cell:∀x c,X.env.cells.lookup x=some c->∃v,s.heap.IsCell c v
 free:H X.env.locals=none
 freeC:∀x c,X.env.cells.lookup x=some c->H c=none
 pin:∀p∈X.pn++pins,s.heap.get? p.1=some p.2/\H p.1=none/\p.1≠X.env.locals/\p.1∉X.fs/\∀v,p.2.data≠.cell v
 hok:HOk X.prog X.w H s.heap
 len:σ.length=X.N.length
section
variable {X:Cx}{pins:ZW}{σ:List (Option V)}{H H':Hp}{s:Shared}{h':Heap}
def Cx.Ok.nofr (ok:X.Ok) {b o} (e:X.base.get? b=some o):b∉X.fs:=λf=>by
 have:=(ok.funs.mem f).1
 grind
def Inv.bs (I:Inv X pins σ H s):∀b o,X.base.get? b=some o->s.heap.get? b=some o/\H b=none:=λb o e=>
 ⟨I.base.keep b o (I.ok.bs b o e).1 (I.ok.bs b o e).2 (I.ok.nofr e) (I.ok.noex b o e),I.base.free b o (I.ok.bs b o e).1 (I.ok.bs b o e).2 (I.ok.noex b o e)⟩
def Inv.bk (I:Inv X pins σ H s):∀b o,X.base.get? b=some o->s.heap.get? b=some o:=λb o e=>(I.bs b o e).1
def Inv.mod (I:Inv X pins σ H s):Mod X.K X.mg X.base:=I.ok.mod
def Inv.kIn (I:Inv X pins σ H s):X.K.In s.heap:=I.ok.mod.kin.keeps I.bk
def Inv.lt (I:Inv X pins σ H s):X.env.locals<s.heap.objs.size:=let ⟨_,b,_⟩:=I.loc;b.lt
def Inv.sz (I:Inv X pins σ H s):X.s₀.heap.objs.size<=s.heap.objs.size:=W9 I.ok.above (VJ I.lt)
def Inv.nofs (I:Inv X pins σ H s) {a:Addr} (h:s.heap.objs.size<=a):a∉X.fs:=λf=>by
 obtain⟨_,o,b,_⟩:=I.ok.funs.mem f;exact absurd (WZ (W8 b)<|W9 I.sz h) (QE _)
def Inv.cne (I:Inv X pins σ H s):∀x c,X.env.cells.lookup x=some c->c≠X.env.locals:=λx c e z=>by
 obtain⟨v,o,h,hd⟩:=I.cell x c e;obtain⟨m,⟨g,l,n,b,f,_⟩,_⟩:=I.loc
 grind
def Inv.funs (I:Inv X pins σ H s):s.heap.FunFrames X.base X.outer:=by
 have all:∀l,(∀b∈frs l,b∈X.fs)->X.s₀.heap.FunFrames X.base l->s.heap.FunFrames X.base l:=by
  intro l
  induction l with
  |nil=>intro _ _;trivial
  |cons y r p=>
   intro n w;obtain⟨x,⟨L,o,f,v,u,hd⟩,q⟩:=w;have h:=n L (by unfold frs;rw[QZ,f];exact WU);obtain⟨sl,e⟩:=I.base.slot L o u (I.ok.frf L h) h λz=>I.ok.exfs L z h;exact⟨x,⟨L,_,f,v,e,hd⟩,p (λb g=>n b (by unfold frs;rw[QZ,f];exact WT _ g)) q⟩
 exact all X.outer (λ_ g=>g) I.ok.funs
def Inv.stack (I:Inv X pins σ H s):s.heap.FunFrames X.base X.stack:=by
 rcases I.ok.stk with e|⟨e,f⟩
 ·rw[e];exact I.funs
 ·rw[e];obtain⟨m,b,_⟩:=I.loc;refine .cons (by rw[I.ok.kind];decide) f b ?_ I.funs;exact Vr (W9 I.ok.bsz I.ok.above)
def Inv.stkSub (I:Inv X pins σ H s):∀b∈frs X.stack,b∈X.env.locals::X.fs:=λb f=>by
 rcases I.ok.stk with e|⟨e,g⟩
 ·grind
 ·rw[e]at f;unfold frs at f;rw[QZ,g]at f;trivial
def Inv.stkFree (I:Inv X pins σ H s):∀b∈frs X.stack,H b=none:=λb f=>by
 rcases WB.mp (I.stkSub b f)with e|f
 ·rw[e];exact I.free
 ·obtain⟨_,o,g,_⟩:=I.ok.funs.mem f;exact I.base.free b o g (I.ok.frf b f) λz=>I.ok.exfs b z f
def Inv.step {d'}{ch:List Addr} (I:Inv X pins σ H s)
  (g:∀b∈ch,(b∈X.ex\/X.s₀.heap.objs.size<=b)/\b≠X.env.locals/\(∀x c,X.env.cells.lookup x=some c->c≠b)/\∀p∈X.pn++pins,p.1≠b)
  (keep:∀b o,b≠X.env.locals->b∉X.fs->b∉ch->s.heap.get? b=some o->H b=none->h'.get? b=some o)
  (slot:∀b o,b≠X.env.locals->b∈X.fs->b∉ch->s.heap.get? b=some o->H b=none->∃sl,h'.get? b=some {o with slots:=sl}) (free:∀b o,b∉ch->s.heap.get? b=some o->H b=none->H' b=none)
  (there:∀b o,b∉ch->s.heap.get? b=some o->∃o',h'.get? b=some o')
  (tups:∀b xs,H b=some (.tup xs)->H' b=some (.tup xs)) (frzs:∀b o u,H b=some (.frz o u)->H' b=some (.frz o u)) (tbls:∀b ps,H b=some (.tbl ps)->∃more,H' b=some (.tbl (ps++more)))
  (ns:∀m,s.heap.Ns X.env.locals m->h'.Ns X.env.locals m) (J:HOk X.prog X.w H' h') (Y:AllBare g') :
  Inv X pins σ H' {s with heap:=h',gens:=g',drawn:=d',toks:=t'}:=by
 have B:∀b o,X.s₀.heap.get? b=some o->b≠X.env.locals:=λb o e=>WS (WZ (W8 e) I.ok.above)
 have f:∀b o,X.s₀.heap.get? b=some o->b∉X.ex->b∉ch:=λb o e hx y=>by
  rcases(g b y).1 with z|z
  ·exact hx z
  ·exact absurd (WZ (W8 e) z) (QE _)
 have cellK:∀x c,X.env.cells.lookup x=some c->∀v,s.heap.IsCell c v->h'.IsCell c v:=λx c e v ⟨o,A,hd⟩=>by
  have C:=λz=>(g c z).2.2.1 x c e rfl;by_cases L:c∈X.fs
  ·obtain⟨sl,q⟩:=slot c o (I.cne x c e) L C A (I.freeC x c e);exact⟨_,q,hd⟩
  ·exact⟨o,keep c o (I.cne x c e) L C A (I.freeC x c e),hd⟩
 refine⟨I.ok,I.os,Y,⟨λb o e n y hx=>?_,λb o e n y hx=>?_,λb o e n hx=>?_,λb o e hx=>?_,λb xs e=>tups b xs (I.base.tups b xs e),λb o xs e=>frzs b o xs (I.base.frzs b o xs e),λb ps e=>?_⟩,?_,λx c e=>?_,?_,λx c e=>?_,λp Q=>?_,J,I.len⟩
 ·exact keep b o (B b o e) y (f b o e hx) (I.base.keep b o e n y hx) (I.base.free b o e n hx)
 ·obtain⟨sl,h⟩:=I.base.slot b o e n y hx;obtain⟨G,E⟩:=slot b _ (B b o e) y (f b o e hx) h (I.base.free b o e n hx);exact⟨G,E⟩
 ·obtain⟨o',h⟩:=I.base.there b o e hx;exact free b o' (f b o e hx) h (I.base.free b o e n hx)
 ·obtain⟨o',h⟩:=I.base.there b o e hx;exact there b o' (f b o e hx) h
 ·obtain⟨N,h⟩:=I.base.tbls b ps e;obtain⟨M,E⟩:=tbls b _ h;exact⟨N++M,by rw[E,Array.append_assoc]⟩
 ·obtain⟨m,T,U⟩:=I.loc;refine⟨m,ns m T,λi x v h E e3=>?_⟩;obtain⟨u,r,l⟩:=U i x v h E e3;refine⟨u,r,?_⟩;rcases l with l|⟨k,c,e,z⟩
  ·exact .inl l
  ·exact .inr ⟨k,c,e,cellK x c e _ z⟩
 ·obtain⟨v,z⟩:=I.cell x c e;exact⟨v,cellK x c e v z⟩
 ·obtain⟨m,⟨o,_,_,A,_⟩,_⟩:=I.loc;exact free _ o (λz=>(g _ z).2.1 rfl) A I.free
 ·obtain⟨v,o,A,hd⟩:=I.cell x c e;exact free c o (λz=>(g c z).2.2.1 x c e rfl) A (I.freeC x c e)
 ·obtain⟨e,n,ne,nf,d⟩:=I.pin p Q
  grind
def Inv.un (I:Inv X pins σ H s) (u:Un X.fs [] H H' s.heap h') (g:HOk X.prog X.w H' h'):Inv X pins σ H' {s with heap:=h',toks:=t'}:=by
 obtain⟨m,⟨o,C,E,q,r⟩,_⟩:=id I.loc;obtain⟨sl,y⟩:=u.any q I.free (by simp)
 exact I.step (ch:=[]) (λ_ z=>nomatch z) (λb o _ h _ e n=>u.keep b o e n h (by simp)) (λb o _ h _ e n=>u.slot b o e n h (by simp)) (λb o _ e n=>u.free b o e n (by simp)) (λb o _ e=>u.there b o e (by simp)) u.tups u.frzs u.tbls (λB x=>by
  obtain⟨A,l,p,f,v⟩:=x;rw[q]at f;cases f;exact⟨_,l,p,y,v⟩) g I.bare
def Inv.call {d'}{ch} (I:Inv X pins σ H s) (u:Un (frs X.stack) ch H H' s.heap h') (l:HOk X.prog X.w H' h') (E:AllBare J)
  (h:∀b∈ch,(b∈X.ex\/X.s₀.heap.objs.size<=b)/\b≠X.env.locals/\(∀x c,X.env.cells.lookup x=some c->c≠b)/\∀p∈X.pn++pins,p.1≠b) :
  Inv X pins σ H' {s with heap:=h',gens:=J,drawn:=d',toks:=t'}:=by
 obtain⟨m,⟨o,N,Q,A,r⟩,_⟩:=id I.loc;obtain⟨sl,q⟩:=u.any A I.free λz=>(h _ z).2.1 rfl
 exact I.step h (λb o q G f e n=>u.keep b o e n (λz=>(WB.mp<|I.stkSub b z).elim q G) f) (λb o _ _ f e n=>u.any e n f) (λb o f e n=>u.free b o e n f) (λb o f e=>u.there b o e f) u.tups u.frzs u.tbls (λM C=>by
  obtain⟨L,v,y,g,B⟩:=C;rw[A]at g;cases g;exact⟨_,v,y,q,B⟩) l E
def Inv.turned {it} (I:Inv X pins σ H s) (k:∀b o,b≠it->s.heap.get? b=some o->h'.get? b=some o) (B:H it=none) (l:it≠X.env.locals)
  (J:it∈X.ex\/X.s₀.heap.objs.size<=it) (G:∀x c,X.env.cells.lookup x=some c->c≠it) (E:∀p∈X.pn++pins,p.1≠it):Inv X pins σ H {s with heap:=h',toks:=t'}:=by
 refine I.step (ch:=[it]) (λb C=>?_) (λb o _ _ f e _=>k b o (λz=>f (by simp[z])) e) (λb o _ _ f e _=>⟨o.slots,k b o (λz=>f (by simp[z])) e⟩) (λ_ _ _ _ n=>n)
  (λb o f e=>⟨o,k b o (λz=>f (by simp[z])) e⟩) (λ_ _ e=>e) (λ_ _ _ e=>e) (λb A e=>⟨#[],by rw[e];simp⟩) (λm h=>?_) (λb u e=>?_) I.bare
 ·grind
 ·obtain⟨o,w,y,g,r⟩:=h;exact⟨o,w,y,k _ o (Ne.symm l) g,r⟩
 ·refine(I.hok b u e).stay (λc v f q=>k c v ?_ q) (λ_ q=>q) λ_ _ q=>q;rcases f with z|z
  ·grind
  ·grind
def Inv.tok (I:Inv X pins σ H s) (t:Nat):Inv X pins σ H {s with toks:=t}:=I.un Un.refl I.hok
def Inv.kept (I:Inv X pins σ H s) (k:∀b u,s.heap.get? b=some u->h'.get? b=some u):Inv X pins σ H {s with heap:=h',toks:=t'}:=I.un (Un.kept k) (I.hok.kept k)
def Inv.laid {a:Addr}{o}{t'} (I:Inv X pins σ H s) (k:∀b u,s.heap.get? b=some u->h'.get? b=some u) (f:s.heap.objs.size<=a) (new:ObjOk X.prog X.w (upd H a o) h' a o) :
  Inv X pins σ (upd H a o) {s with heap:=h',toks:=t'}:=I.un (Un.laid k f<|I.hok.fresh f) (I.hok.laid k f new)
def Inv.write (I:Inv X pins σ H s) (g:Mut (H x)) (h:e=x\/H e=some (.own x)) (k:∀b u,b≠e->s.heap.get? b=some u->h'.get? b=some u) (f:∃u,h'.get? e=some u)
  (new:ObjOk X.prog X.w (upd H x o) h' x o):Inv X pins σ (upd H x o) {s with heap:=h',toks:=t'}:=I.un (Un.write g h k f) (I.hok.write g h k f new)
def Inv.weak (I:Inv X pins σ H s) (h:b.length=σ.length) (w:∀(i:Nat) v,b[i]?=some (some v)->σ[i]?=some (some v)):Inv X pins b H s:=
 ⟨I.ok,I.os,I.bare,I.base,let ⟨m,g,f⟩:=I.loc;⟨m,g,λi x v o n l=>f i x v o (w i v n) l⟩,I.cell,I.free,I.freeC,I.pin,I.hok,h.trans I.len⟩
def Inv.pins_of (I:Inv X pins σ H s) (h:∀p∈pins',s.heap.get? p.1=some p.2/\H p.1=none/\p.1≠X.env.locals/\p.1∉X.fs/\∀v,p.2.data≠.cell v):Inv X pins' σ H s:=
 ⟨I.ok,I.os,I.bare,I.base,I.loc,I.cell,I.free,I.freeC,λp b=>(WD.mp b).elim (λz=>I.pin p (QB _ z)) (h p),I.hok,I.len⟩
def Cw{N:Yc}(f:N.Nodup){i j:Nat}{x}(a:N[i]?=some x)(b:N[j]?=some x):i=j:=by
 obtain⟨n,h⟩:=WI.mp a;obtain⟨l,g⟩:=WI.mp b;exact(JM f).mp (h.trans g.symm)
def RX{i x v u Q}(I:Inv X pins σ H s)(hN:X.N.Nodup)(hi:X.N[i]?=some x)(hx:Loc X.env.scope x)(r:RelV v u)(h:∀s',Inv X pins (σ.set i<|some v) H s'->(∃a,Heap.SameBut a s.heap s'.heap/\(a=X.env.locals\/X.env.cells.lookup x=some a))->Q () s')(hf:autoParam (X.fn x=true\/X.env.scope.names.lookup x=some .local) au_2):wpAny M A (storeName X.env x u) Q E s:=by
 obtain⟨m,hn,hl⟩:=id I.loc;have hcls:(X.env.scope.kind == .class || (X.env.scope.kind == .module&&X.env.locals != X.env.globals))=false:=by rw[I.ok.kind];rfl
 have J:i<σ.length:=by rw[I.len];exact(WI.mp hi).1
 have cne:=I.cne
 have tracked:∀{a:Addr} {h':Heap},(∃o,s.heap.get? a=some o/\H a=none)->Heap.SameBut a s.heap h'->HOk X.prog X.w H h':=λ{a h'} ha f b ob e=>by
  obtain⟨_,_,B⟩:=ha;refine(I.hok b ob e).stay (λc w' l q=>(f.2 c ?_).trans q) (λ_ q=>q) λ_ _ q=>q;rintro rfl;rcases l with rfl|l
  ·rw[B]at e;cases e
  ·rw[B]at l;cases l
 rcases hx with G|G
 ·refine wpAny_storeName_local G hn (λh' hn' f=>?_) hcls;obtain⟨oL,_,_,hoL,_⟩:=id hn;refine h _ ⟨I.ok,I.os,I.bare,⟨λb o e n U hx=>?_,λb o e n U hx=>?_,I.base.free,λb o e hx=>?_,I.base.tups,I.base.frzs,I.base.tbls⟩,⟨_,hn',λj y v' g C e3=>?_⟩,λy c e=>?_,I.free,I.freeC,λp hp=>?_,tracked ⟨oL,hoL,I.free⟩ f,by simpa using I.len⟩ ⟨_,f,.inl rfl⟩
  ·exact(f.2 b<|WS<|WZ (W8 e) I.ok.above).trans (I.base.keep b o e n U hx)
  ·obtain⟨sl,g⟩:=I.base.slot b o e n U hx;exact⟨sl,(f.2 b<|WS<|WZ (W8 e) I.ok.above).trans g⟩
  ·obtain⟨o',g⟩:=I.base.there b o e hx;exact⟨o',(f.2 b<|WS<|WZ (W8 e) I.ok.above).trans g⟩
  ·by_cases L:j=i
   ·subst L;rw[hi]at g;cases g;rw[List.getElem?_set_self J]at C;cases C
    exact⟨u,r,.inl ⟨G,by simp⟩⟩
   ·rw[Jr (Ne.symm L)]at C;obtain⟨u',r',q⟩:=hl j y v' g C e3;refine⟨u',r',?_⟩;rcases q with⟨k,e⟩|⟨k,c,e,z⟩
    ·refine .inl ⟨k,?_⟩
     have:y≠x:=λe=>L (Cw hN g (e▸hi))
     simp[this,e]
    ·exact .inr ⟨k,c,e,z.sameBut f (cne y c e)⟩
  ·obtain⟨w',z⟩:=I.cell y c e;exact⟨w',z.sameBut f (cne y c e)⟩
  ·obtain⟨e,n,ne,nf,d⟩:=I.pin p hp;exact⟨(f.2 p.1 ne).trans e,n,ne,nf,d⟩
 ·have T:X.fn x=true:=by
   rcases hf with z|z
   ·exact z
   ·rw[z]at G;cases G
  obtain⟨c,l⟩:=I.ok.has x (.inl G);obtain⟨w',z⟩:=I.cell x c l;refine wpAny_storeName_cell I.ok.kind G l z (λh' hc' f=>?_);obtain⟨oc,hoc,Y⟩:=id z;refine h {s with heap:=h'} ⟨I.ok,I.os,I.bare,⟨λb o e n U hx=>?_,λb o e n U hx=>?_,I.base.free,λb o e hx=>?_,I.base.tups,I.base.frzs,I.base.tbls⟩,⟨m,hn.sameBut f (Ne.symm<|cne x c l),λj y v' g C e3=>?_⟩,λy c' e=>?_,I.free,I.freeC,λp hp=>?_,tracked ⟨oc,hoc,I.freeC x c l⟩ f,by simpa using I.len⟩ ⟨c,f,.inr l⟩
  ·exact(f.2 b<|WS<|WZ (W8 e)<|I.ok.cab x c T l).trans (I.base.keep b o e n U hx)
  ·obtain⟨sl,g⟩:=I.base.slot b o e n U hx;exact⟨sl,(f.2 b<|WS<|WZ (W8 e)<|I.ok.cab x c T l).trans g⟩
  ·obtain⟨o',g⟩:=I.base.there b o e hx;exact⟨o',(f.2 b<|WS<|WZ (W8 e)<|I.ok.cab x c T l).trans g⟩
  ·by_cases L:j=i
   ·subst L;rw[hi]at g;cases g;rw[List.getElem?_set_self J]at C;cases C
    exact⟨u,r,.inr ⟨.inl G,c,l,hc'⟩⟩
   ·rw[Jr (Ne.symm L)]at C;obtain⟨u',r',q⟩:=hl j y v' g C e3;refine⟨u',r',?_⟩;rcases q with q|⟨k,c',e,z'⟩
    ·exact .inl q
    ·refine .inr ⟨k,c',e,z'.sameBut f ?_⟩;rintro rfl;exact L (Cw hN g (I.ok.inj _ _ _ e l▸hi))
  ·by_cases hcc:c'=c
   ·subst hcc;exact⟨_,hc'⟩
   ·obtain⟨w2,z2⟩:=I.cell y c' e;exact⟨w2,z2.sameBut f hcc⟩
  ·obtain⟨e,n,ne,nf,d⟩:=I.pin p hp;refine⟨(f.2 p.1 ?_).trans e,n,ne,nf,d⟩;intro q;rw[q,hoc]at e;exact d w' (by rw[←(WL e)];exact Y)
def Np{i x v u Q}(I:Inv X pins σ H s)(g:X.N.Nodup)(b:X.N[i]?=some x)(hx:Loc X.env.scope x)(r:RelV v u)(h:∀s',Inv X pins (σ.set i<|some v) H s'->Q () s')(f:autoParam (X.fn x=true\/X.env.scope.names.lookup x=some .local) au_2):wpAny M A (storeName X.env x u) Q E s:=
 RX I g b hx r (λs' l _=>h s' l) f
def Inv.call' {ch} (I:Inv X pins σ H s) (h:s'.os=s.os) (u:Un (frs X.stack) ch H H' s.heap s'.heap) (f:HOk X.prog X.w H' s'.heap) (l:AllBare s'.gens)
  (g:∀b∈ch,(b∈X.ex\/X.s₀.heap.objs.size<=b)/\b≠X.env.locals/\(∀x c,X.env.cells.lookup x=some c->c≠b)/\∀p∈X.pn++pins,p.1≠b):Inv X pins σ H' s':=by
 obtain⟨h',q,r,n,o⟩:=s';subst h;exact I.call u f l g
end
abbrev XK:=Value->Yg->Hp->Prop
abbrev St:=List (Option V)
abbrev VK:=V->Hp->Prop
abbrev TE:=St->Hp->VK->Prop
abbrev TT:=St->Hp->(Bool->Hp->Prop)->Prop
abbrev TA:=St->Hp->(List V->Hp->Prop)->Prop
structure Ends where
 nx:St->Hp->Prop
 rt:VK
 bk:St->Hp->Prop:=λ_ _=>False
 ct:St->Hp->Prop:=λ_ _=>False
abbrev TS:=Ends->St->Hp->Prop
def EP(X:Cx)(pins:ZW)(f:St)(Q:VK)(u:Value)(s':Shared):Prop:=∃v b,Inv X pins f b s'/\RelV v u/\Q v b
def TP(X:Cx)(pins:ZW)(g:St)(Q:Bool->Hp->Prop)(b:Bool)(s':Shared):Prop:=∃f,Inv X pins g f s'/\Q b f
def AP(X:Cx)(pins:ZW)(g:St)(Q:List V->Hp->Prop)(us:Yb)(s':Shared):Prop:=∃b f,Inv X pins g f s'/\Vals b us/\Q b f
def SP(X:Cx)(pins:ZW)(D:Ends)(f:Flow)(s':Shared):Prop:=
 match f with
 | .next=>∃b g,Inv X pins b g s'/\D.nx b g
 | .brk=>∃b g,Inv X pins b g s'/\D.bk b g
 | .cont=>∃b g,Inv X pins b g s'/\D.ct b g
 | .ret u=>∃v b g,Inv X pins b g s'/\RelV v u/\D.rt v g
def PE(X:Cx)(e:Expr)(t:TE):Prop:=
 ∀(pins:ZW) (s:Shared) (b:St) (H:Hp) (Q:VK),Inv X pins b H s->t b H Q->wpAny (model X.prog X.w) X.A (eval e X.env) (EP X pins b Q) X.xe s
def PT(X:Cx)(e:Expr)(t:TT):Prop:=
 ∀(pins:ZW) (s:Shared) (b:St) (H:Hp) (Q:Bool->Hp->Prop),Inv X pins b H s->t b H Q->wpAny (model X.prog X.w) X.A (isTrue e X.env<|eval e X.env) (TP X pins b Q) X.xe s
def PW(X:Cx)(e:Expr)(t:TT):Prop:=
 ∀(whole:Sem Value) (pins:ZW) (s:Shared) (b:St) (H:Hp) (Q:Bool->Hp->Prop),Inv X pins b H s->t b H Q->wpAny (model X.prog X.w) X.A (isTrue e X.env whole) (TP X pins b Q) X.xe s
def PW.pt (h:PW X e t):PT X e t:=h _
def PA(X:Cx)(es:Yd)(t:TA):Prop:=
 ∀(pos:Pos) (pins:ZW) (s:Shared) (b:St) (H:Hp) (Q:List V->Hp->Prop),Inv X pins b H s->t b H Q->wpAny (model X.prog X.w) X.A (spliced<|backTo pos<|starEach es X.env) (AP X pins b Q) X.xe s
def PS(X:Cx)(st:Stmt)(t:TS):Prop:=
 ∀(pins:ZW) (s:Shared) (b:St) (H:Hp) (D:Ends),Inv X pins b H s->t D b H->wpAny (model X.prog X.w) X.A (exec st X.env) (SP X pins D) X.xe s
def PSs(X:Cx)(st:Ye)(t:TS):Prop:=
 ∀(pins:ZW) (s:Shared) (b:St) (H:Hp) (D:Ends),Inv X pins b H s->t D b H->wpAny (model X.prog X.w) X.A (execs st X.env) (SP X pins D) X.xe s
def thn{M A E s}(h:wpAny M A t Q E s)(b:∀a s,Q a s->f a s):wpAny M A t f E s:=Qh h b λ_ _ x=>x
section
variable {X:Cx}
def bin{z r}(G:PE X a z)(E:PE X b r){pins}{s}{g:St}{H}{R:V->V->Hp->Prop}(I:Inv X pins g H s)(h:z g H λx q=>r g q λy o=>R x y o){α}{Q}{f:Value->Value->Sem α}(T:∀v u p x y o,Inv X pins g o p->RelV x v->RelV y u->R x y o->wpAny (model X.prog X.w) X.A (f v u) Q X.xe p) :
  wpAny (model X.prog X.w) X.A (eval a X.env) (λv n=>wpAny (model X.prog X.w) X.A (eval b X.env) (λu l=>wpAny (model X.prog X.w) X.A (f v u) Q X.xe l) X.xe n) X.xe s:=by
 refine thn (G pins s g H _ I h) λv B ⟨x,q,J,M,C⟩=>?_;refine thn (E pins B g q _ J C) λu p ⟨y,o,U,L,N⟩=>?_
 grind
noncomputable def KH(i:Nat):TE:=λb H Q=>∃v,b[i]?=some (some v)/\Q v H
noncomputable def tC(v:V):TE:=λ_ H Q=>Q v H
def Zms{pos}(A:X.N[i]?=some x)(q:Vis X.env.scope x)(hd:autoParam ((x==("__debug__" : Str))=false) au_1)(n:autoParam ((x==("__classdict__" : Str))=false) au_1):PE X (.Name x pos) (KH i):=by
 intro pins s p H Q I h;obtain⟨v,e,h⟩:=h;obtain⟨m,w,z⟩:=I.loc;obtain⟨u,r,l⟩:=z i x v A e q;have g:EP X pins p Q u s:=⟨v,H,I,r,h⟩;rcases l with⟨f,y⟩|⟨f,c,o,b⟩
 ·exact wpAny_Name (wpAny_loadName_local I.ok.kind f w y g) hd
 ·rcases f with f|f
  ·exact wpAny_Name (wpAny_loadName_cell I.ok.kind f o b g) hd
  ·exact wpAny_Name (wpAny_loadName_free I.ok.kind f o b g n) hd
def X1:PE X (.Constant (.int i) j pos) (tC<|.int i):=λ_ _ _ H _ I h=>wpAny_Constant_int ⟨.int i,H,I.tok _,⟨_,rfl⟩,h⟩
def Fl:PE X (.Constant (.bool b) j pos) (tC<|.bl b):=λ_ _ _ H _ I h=>Constant_bool ⟨.bl b,H,I,rfl,h⟩
def Gg:PE X (.Constant (.str x) j pos) (tC<|.str x):=λ_ _ _ H _ I h=>Calls.Constant_str ⟨.str x,H,I.tok _,⟨_,rfl⟩,h⟩
def Gl(X:Cx)(x:Str):Prop:=X.env.kindOf x=some .globalImplicit
def Ng{pins}{s}{b:St}{H}{x}{u}{pos}{Q}(I:Inv X pins b H s)(g:Gl X x)(f:X.mg x=some u)(h:Q u s)(hd:autoParam ((x==("__debug__" : Str))=false) au_1):wpAny (model X.prog X.w) X.A (eval (.Name x pos) X.env) Q E s:=
 Calls.Name_function_global I.ok.kind g (Calls.loadGlobal_global (by rw[I.ok.glob];exact I.mod.glob.keeps I.bk) f h) hd
def NX{E}{pins}{s}{b:St}{H}{x}{u}{pos}{Q}(I:Inv X pins b H s)(n:Gl X x)(l:X.mg x=none)(f:bootBuiltins x=some u)(h:Q u s)(g:autoParam (x≠"__name__") au_1)(hd:autoParam ((x==("__debug__" : Str))=false) au_1):wpAny (model X.prog X.w) X.A (eval (.Name x pos) X.env) Q E s:=by
 obtain⟨q,p,o⟩:=I.mod.blt;exact Calls.Name_function_global I.ok.kind n (Calls.loadGlobal_builtin (by rw[I.ok.glob];exact I.mod.glob.keeps I.bk) l (by rw[I.ok.blt];exact p.keeps I.bk) ((o x g).trans f) h) hd
def EK{u pos}(f:Gl X x)(b:X.mg x=some u)(r:RelV v u)(hd:autoParam ((x==("__debug__" : Str))=false) au_1):PE X (.Name x pos) (tC v):=
 λ_ _ _ H _ I h=>Ng I f b ⟨v,H,I,r,h⟩ hd
def NY{u pos}(l:Gl X x)(g:X.mg x=none)(b:bootBuiltins x=some u)(r:RelV v u)(f:autoParam (x≠"__name__") au_1)(hd:autoParam ((x==("__debug__" : Str))=false) au_1):PE X (.Name x pos) (tC v):=
 λ_ _ _ H _ I h=>NX I l g b ⟨v,H,I,r,h⟩ f hd
variable {a b:Expr}{ta tb:TE}{pos:Pos}
def PC(X:Cx)(l:CmpOp)(a b:Expr)(t:TE):Prop:=
 ∀(pins:ZW) (s:Shared) (h:St) (H:Hp) (Q:VK),Inv X pins h H s->t h H Q->
  wpAny (model X.prog X.w) X.A (eval a X.env) (λv g=>wpAny (model X.prog X.w) X.A (eval b X.env) (λu f=>wpAny (model X.prog X.w) X.A (compareOp l v u) (EP X pins h Q) X.xe f) X.xe g) X.xe s
def Zi6(b:Expr){op}(h:op≠.In)(l:op≠.NotIn):behindInMarks op b=false:=by
 have g:(op==CmpOp.In)=false:=by grind
 have f:(op==CmpOp.NotIn)=false:=by grind
 cases b<;>simp[behindInMarks,g,f]
noncomputable def tB(t:TE):TT:=λf H Q=>t f H λx g=>∃c,x=.bl c/\Q c g
def AX(h:PC X g a b t)(f:behindInMarks g b=false:=by first|exact Zi6 _ (by decide) (by decide)|rfl):PT X (.Compare a [g] [b] pos) (tB t):=by
 intro pins s l H Q I hw;refine wpAny_isTrue_Compare1 (thn (h pins s l H _ I hw) λv A f=>thn f λu z p=>thn p ?_) f;rintro c y ⟨x,w,r,n,o⟩;obtain⟨d,rfl,q⟩:=o;cases n
 exact QS ⟨w,r,q⟩
variable {tA tB':TT}{rest:Yd}
noncomputable def Im(t u:TT):TT:=λf H Q=>t f H λc g=>if c=true then u f g Q else Q false g
noncomputable def tOr(t u:TT):TT:=λf H Q=>t f H λc g=>if c=true then Q true g else u f g Q
noncomputable def MO(t:TT):TT:=λf H Q=>t f H λc g=>Q (!c) g
def Zbd(g:PT X a tA):PW X (.BoolOp .And [a] pos) tA:=by
 intro l pins s f H Q I h;refine isTrue_and (thn (g pins s f H Q I h) λc n e=>?_);cases c with
 |true=>exact isTrue_and_nil e
 |false=>exact e
def Zdb(g:PT X a tA):PW X (.BoolOp .Or [a] pos) tA:=by
 intro l pins s f H Q I h;refine isTrue_or (thn (g pins s f H Q I h) λc n e=>?_);cases c with
 |false=>exact isTrue_or_nil e
 |true=>exact e
def RE(p:PT X a tA)(o:PW X (.BoolOp .And (b::rest) pos) tB'):PW X (.BoolOp .And (a::b::rest) pos) (Im tA tB'):=by
 intro g pins s f H Q I h;refine isTrue_and (thn (p pins s f H _ I h) λc l ⟨r,q,n⟩=>?_);cases c with
 |true=>exact o g pins l f r Q q n
 |false=>trivial
def O7(p:PT X a tA)(o:PW X (.BoolOp .Or (b::rest) pos) tB'):PW X (.BoolOp .Or (a::b::rest) pos) (tOr tA tB'):=by
 intro g pins s f H Q I h;refine isTrue_or (thn (p pins s f H _ I h) λc l ⟨r,q,n⟩=>?_);cases c with
 |true=>trivial
 |false=>exact o g pins l f r Q q n
def Zmw(g:PT X a tA):PT X (.UnaryOp .Not a pos) (MO tA):=by
 intro pins s f H Q I h;exact isTrue_not (g pins s f H (λc l=>Q (!c) l) I h)
noncomputable def Mq(ta tb:TE):TE:=λf H Q=>ta f H λx g=>∃c,x=.bl c/\if c=true then tb f g Q else Q (.bl false) g
noncomputable def E2(ta tb:TE):TE:=λf H Q=>ta f H λx g=>∃c,x=.bl c/\if c=true then Q (.bl true) g else tb f g Q
noncomputable def Mi(ta:TE):TE:=λf H Q=>ta f H λx g=>∃c,x=.bl c/\Q (.bl (!c)) g
def PZ{t}(h:PE X a t):PE X (.BoolOp f [a] pos) t:=by trivial
def TL(r:PE X a ta)(q:PE X (.BoolOp .And (b::rest) pos) tb):PE X (.BoolOp .And (a::b::rest) pos) (Mq ta tb):=by
 intro pins s g H Q I h;refine BoolOp_and (thn (r pins s g H _ I h) ?_);rintro v o ⟨x,n,l,p,f⟩;obtain⟨c,rfl,f⟩:=f;cases p
 refine QS ?_;cases c with
 |true=>exact q pins o g n Q l f
 |false=>exact⟨.bl false,n,l,rfl,f⟩
def DM(r:PE X a ta)(q:PE X (.BoolOp .Or (b::rest) pos) tb):PE X (.BoolOp .Or (a::b::rest) pos) (E2 ta tb):=by
 intro pins s g H Q I h;refine BoolOp_or (thn (r pins s g H _ I h) ?_);rintro v o ⟨x,n,l,p,f⟩;obtain⟨c,rfl,f⟩:=f;cases p
 refine QS ?_;cases c with
 |false=>exact q pins o g n Q l f
 |true=>exact⟨.bl true,n,l,rfl,f⟩
def LP(n:PE X a ta):PE X (.UnaryOp .Not a pos) (Mi ta):=by
 intro pins s g H Q I h;refine UnaryOp_ (thn (n pins s g H _ I h) ?_);rintro v q ⟨x,p,o,l,f⟩;obtain⟨c,rfl,f⟩:=f;cases l
 exact not_of (QS ⟨.bl (!c),p,o,rfl,f⟩)
end
def SqL(K:ZT)(H:Hp)(a:Addr)(xs:List V):Prop:=
 Rd H a (.lst xs)\/
  ∃(o:Obj) (b:Array Value) (n:Nat),K.lookup a=some o/\o.cls=.type "list"/\o.dict=none/\o.data=.seq b n/\b.size<=sizeLine/\Vals xs b.toList
def SqT(K:ZT)(H:Hp)(a:Addr)(xs:List V):Prop:=
 Rd H a (.tup xs)\/
  ∃(o:Obj) (b:Array Value) (n:Nat),K.lookup a=some o/\o.cls=.type "tuple"/\o.data=.seq b n/\b.size<=sizeLine/\Vals xs b.toList
noncomputable def Zji:Value->Option V
 | .none=>some .non
 | .bool b=>some (.bl b)
 | .int i _=>some (.int i)
 | .str x _=>some (.str x)
 | .bytes b _=>some (.byt b)
 | .float b _=>some (.flt b)
 | .ref a=>some (.ref a)
 | .type n=>some (.ty n)
 |_=>none
def RelV.abs (r:RelV x u):Zji u=some x:=by
 cases x with
 |non|bl _|ref _|ty _=>cases r;rfl
 |_=>obtain⟨t,rfl⟩:=r;rfl
def RelV.inj {u} (r:RelV x u) (q:RelV y u):x=y:=WL (r.abs.symm.trans q.abs)
def Vals.inj:∀{xs b}{us:Yb},Vals xs us->Vals b us->xs=b:=by
 intro o
 induction o with
 |nil=>
  intro _ _ h g;cases h
  cases g
  rfl
 |cons _ _ n=>
  intro _ _ h g;cases h with
  |cons h r=>
   cases g with
   |cons l f=>rw[h.inj l,n r f]
section
variable {X:Cx}{pins:ZW}{σ:St}{H:Hp}{s:Shared}{a:Addr}{xs ys:List V}
def SqL.of {K} (h:H a=some (.lst xs)):SqL K H a xs:=.inl (.inl h)
def SqT.of {K} (h:H a=some (.tup xs)):SqT K H a xs:=.inl (.inl h)
def Inv.list (I:Inv X pins σ H s) (h:SqL X.K H a xs):∃b,Vals xs b/\PlainL s.heap a b.toArray/\xs.length<=sizeLine:=by
 rcases h with h|⟨o,b,n,g,l,hd,f,p,r⟩
 ·obtain⟨z,b,n,r,e⟩:=h.ok I.hok;exact⟨b,r,⟨_,n,e,rfl,rfl,rfl⟩,z⟩
 ·refine⟨b.toList,r,⟨o,n,I.kIn a o g,l,hd,by simpa using f⟩,?_⟩;have e:=r.length
  grind
def Inv.tuple (I:Inv X pins σ H s) (h:SqT X.K H a xs):∃b,Vals xs b/\IsTup s.heap a b.toArray/\xs.length<=sizeLine:=by
 rcases h with h|⟨o,b,n,g,l,f,q,r⟩
 ·obtain⟨z,b,r,p⟩:=h.ok I.hok
  grind
 ·refine⟨b.toList,r,⟨o,I.kIn a o g,l,n,by simpa using f⟩,?_⟩;have e:=r.length
  grind
def Inv.list_inj (I:Inv X pins σ H s) (h:SqL X.K H a xs) (l:SqL X.K H a ys):xs=ys:=by
 obtain⟨f,r,⟨o,n,e,_,_,d⟩,_⟩:=I.list h;obtain⟨b,g,⟨p,q,u,_,_,v⟩,_⟩:=I.list l
 have:f=b:=by grind
 subst this;exact r.inj g
def Inv.tuple_inj (I:Inv X pins σ H s) (h:SqT X.K H a xs) (l:SqT X.K H a ys):xs=ys:=by
 obtain⟨f,r,⟨o,e,_,n,d⟩,_⟩:=I.tuple h;obtain⟨b,g,⟨p,u,_,q,v⟩,_⟩:=I.tuple l
 have:f=b:=by grind
 subst this;exact r.inj g
end
noncomputable abbrev Cx.wish (X:Cx) (E:ZY):Cx:={X with xe:=E}
noncomputable abbrev Cx.nox (X:Cx):Cx:=X.wish λ_ _=>False
def Cx.Ok.wish {X:Cx} (ok:X.Ok) (E:ZY):(X.wish E).Ok:=
 ⟨ok.mod,ok.kind,ok.glob,ok.blt,ok.above,ok.inj,ok.has,ok.cab,ok.hd,ok.frames,ok.stk,ok.exf,ok.bs,ok.bsz,ok.noex,ok.exfs,ok.funs,ok.frf⟩
def Cx.Ok.unwish {X:Cx}{E} (ok:(X.wish E).Ok):X.Ok:=
 ⟨ok.mod,ok.kind,ok.glob,ok.blt,ok.above,ok.inj,ok.has,ok.cab,ok.hd,ok.frames,ok.stk,ok.exf,ok.bs,ok.bsz,ok.noex,ok.exfs,ok.funs,ok.frf⟩
section
variable {X:Cx}{pins:ZW}{σ:St}{H:Hp}{s:Shared}{E:ZY}
def Inv.wish (I:Inv X pins σ H s) (E:ZY):Inv (X.wish E) pins σ H s:=⟨I.ok.wish E,I.os,I.bare,I.base,I.loc,I.cell,I.free,I.freeC,I.pin,I.hok,I.len⟩
def Inv.unwish (I:Inv (X.wish E) pins σ H s):Inv X pins σ H s:=⟨I.ok.unwish,I.os,I.bare,I.base,I.loc,I.cell,I.free,I.freeC,I.pin,I.hok,I.len⟩
def SP.unwish (h:SP (X.wish E) pins D f s'):SP X pins D f s':=by
 cases f with
 |ret u=>obtain⟨v,b,g,I,r,q⟩:=h;exact⟨v,b,g,I.unwish,r,q⟩
 |_=>obtain⟨b,g,I,q⟩:=h;exact⟨b,g,I.unwish,q⟩
def PSs.nox {st t} (h:PSs X.nox st t):PSs X st t:=λpins s σ H D I hw=>
 Qh (h pins s σ H D (I.wish _) hw) (λ_ _ q=>q.unwish) λ_ _ z=>False.elim z
end
section
variable {X:Cx}{st:Stmt}{rest:Ye}{t u:TS}{e:Expr}{te:TE}{pos:Pos}
noncomputable def G8:TS:=λD b H=>D.nx b H
noncomputable def DP(t u:TS):TS:=λD b H=>t {D with nx:=u D} b H
def RO:PSs X [] G8:=λ_ _ b H _ I h=>Js ⟨b,H,I,h⟩
def Tu(o:PS X st t)(n:PSs X rest u):PSs X (st::rest) (DP t u):=by
 intro pins s g H D I h;refine wpAny_execs_cons (thn (o pins s g H {D with nx:=u D} I h) λf l q=>?_)
 cases f with
 |next=>
  obtain⟨b,r,p,q⟩:=q;exact n pins l b r D p q
 |_=>exact q
def TB(g:PS X st t):PSs X [st] t:=by
 intro pins s b H D I h;refine wpAny_execs_cons (thn (g pins s b H D I h) λf l q=>?_);cases f with
 |next=>exact Js q
 |_=>lia
def Inv.quiet {b:St}{H}{s} (I:Inv X pins b H s):interactive X.env=false:=by simp[interactive,I.ok.kind]
noncomputable def Bm(te:TE):TS:=λD b H=>te b H λ_ f=>D.nx b f
def Pm(l:PE X e te)(g:autoParam (swapsWith e none pos.line X.env=pure false) au_0):PS X (.Expr e pos) (Bm te):=by
 intro pins s b H D I h;exact wpAny_Expr_any (thn (l pins s b H _ I h) λv p ⟨x,o,n,q,f⟩=>⟨b,o,n,f⟩) I.quiet g
noncomputable def NM(te:TE):TS:=λD b H=>te b H D.rt
def Nb(l:PE X e te):PS X (.Return (some e) pos) (NM te):=by
 intro pins s b H D I h;exact wpAny_Return_some (thn (l pins s b H _ I h) λv p ⟨x,o,n,f,g⟩=>⟨x,b,o,n,f,g⟩)
noncomputable def Iq(c:TT)(t u:TS):TS:=λD f H=>c f H λb g=>if b=true then t D f g else u D f g
def Zm8{tc}(p:PT X c tc)(r:PSs X a t)(q:PSs X b u):PS X (.If c a b pos) (Iq tc t u):=by
 intro pins s f H D I h;refine wpAny_If (thn (p pins s f H _ I h) ?_);rintro d g ⟨o,n,l⟩;cases d with
 |true=>exact r pins g f o D n l
 |false=>exact q pins g f o D n l
end
abbrev TG:=V->St->Hp->(St->Hp->Prop)->Prop
abbrev TGs:=List V->St->Hp->(St->Hp->Prop)->Prop
def PG(X:Cx)(target:Expr)(t:TG):Prop:=
 ∀(pins:ZW) (s:Shared) (f:St) (H:Hp) (v:V) (u:Value) (Q:St->Hp->Prop),Inv X pins f H s->RelV v u->t v f H Q->
  wpAny (model X.prog X.w) X.A (assign target X.env u) (λ_ h=>∃b g,Inv X pins b g h/\Q b g) X.xe s
def PGs(X:Cx)(n:Yd)(t:TGs):Prop:=
 ∀(pins:ZW) (s:Shared) (f:St) (H:Hp) (g:List V) (h:Yb) (Q:St->Hp->Prop),Inv X pins f H s->Vals g h->t g f H Q->
  wpAny (model X.prog X.w) X.A (assignInOrder ((assignEach n X.env).map (·.2)) h) (λ_ o=>∃b l,Inv X pins b l o/\Q b l) X.xe s
abbrev TIp:=V->V->Hp->VK->Prop
def PIp(X:Cx)(f:Operator)(t:TIp):Prop:=
 ∀(pins:ZW) (s:Shared) (b:St) (H:Hp) (x y:V) (v u:Value) (Q:VK),Inv X pins b H s->RelV x v->RelV y u->t x y H Q->
  wpAny (model X.prog X.w) X.A (inplaceOp f v u) (EP X pins b Q) X.xe s
section
variable {X:Cx}{pos:Pos}
noncomputable def Nj(i:Nat):TG:=λv b H Q=>Q (b.set i<|some v) H
def AZ(g:X.N.Nodup)(b:X.N[i]?=some x)(hx:Loc X.env.scope x)(f:autoParam (X.fn x=true\/X.env.scope.names.lookup x=some .local) au_2):PG X (.Name x pos) (Nj i):=by
 intro pins s n H v u Q I r h;exact wpAny_assign_Name (Np I g b hx r (λo l=>⟨_,H,l,h⟩) f)
noncomputable def Lv:TGs:=λf b H Q=>f=[]/\Q b H
noncomputable def Ez(t:TG)(u:TGs):TGs:=λg f H Q=>∃v r,g=v::r/\t v f H λb h=>u r b h Q
def Su:PGs X [] Lv:=by
 intro pins s b H f g Q I r h;obtain⟨e,h⟩:=h;exact assignInOrder_nil ⟨b,H,I,h⟩
def PH{t u}(q:PG X e t)(p:PGs X es u)(o:autoParam ((assignEach (e::es) X.env).map (·.2)=assign e X.env::(assignEach es X.env).map (·.2)) au_0):PGs X (e::es) (Ez t u):=by
 intro pins s f H z B Q I r h;obtain⟨v,A,w,h⟩:=h;subst w;cases r with
 |cons r l=>
  rw[o];refine assignInOrder_cons (thn (q pins s f H _ _ _ I r h) ?_);rintro _ g ⟨b,y,x,n⟩;exact p pins g b y _ _ Q x l n
noncomputable def D8(K:ZT)(n:Nat)(t:TGs):TG:=λv b H Q=>∃a xs,v=.ref a/\SqT K H a xs/\xs.length=n/\t xs b H Q
def Zar{k t n}(y:X.calm=true)(h:PGs X es t)(w:autoParam ((assignEach es X.env).length=n) au_0)(f:autoParam ((assignEach es X.env).findIdx? (·.1)=none) au_0):PG X (.Tuple es k pos) (D8 X.K n t):=by
 intro pins s g H v u Q I r hw;obtain⟨a,xs,A,hq,x,hw⟩:=hw;subst A;cases r
 obtain⟨p,l,q,C⟩:=I.tuple hq;refine assign_Tuple_tuple (I.ok.hd y) q (by simp[w,←x,l.length]) f λz hx=>?_;have B:Inv X pins g H {s with heap:=z}:=I.kept λb o e=>hx b o (WS<|W8 e) e
 exact h pins _ g H xs _ Q B (by lia) hw
noncomputable def SN(te:TE)(g:TG):TS:=λD b H=>te b H λx f=>g x b f D.nx
def Zgr(r:X.N.Nodup)(o:X.N[i]?=some x)(hx:Loc X.env.scope x)(q:PE X e te)(n:autoParam (swapsWith e (some<|.Name x b) pos.line X.env=pure false) au_0)(p:autoParam (X.fn x=true\/X.env.scope.names.lookup x=some .local) au_2) :
  PS X (.Assign [.Name x b] e pos) (SN te<|Nj i):=by
 intro pins s f H D I h;refine wpAny_Assign_Name (thn (q pins s f H _ I h) λv B ⟨y,z,w,g,l⟩=>?_) n;exact Np w r o hx g (λA u=>⟨_,z,u,l⟩) p
noncomputable def Gk(i j:Nat)(g:TA):TS:=λD b H=>g b H λf h=>∃v w,f=[v,w]/\D.nx ((b.set i<|some v).set j (some w)) h
def Zlv{x y a b G z py pt A k2 f}(hc:X.calm=true)(L:X.N.Nodup)(hi:X.N[i]?=some x)(hj:X.N[j]?=some y)(C:i≠j)(hx:X.env.scope.names.lookup x=some .local)(J:X.env.scope.names.lookup y=some .local)(ha:PA X [a,b] G)(hw:swappedStores [.Tuple [.Name x z,.Name y py] A pt] (.Tuple [a,b] k2 f) X.env=pure (some [x,y]))(hs:autoParam (swapsWithSole [.Tuple [.Name x z,.Name y py] A pt] (.Tuple [a,b] k2 f) pos.line X.env=pure false) au_0) :
  PS X (.Assign [.Tuple [.Name x z,.Name y py] A pt] (.Tuple [a,b] k2 f) pos) (Gk i j G):=by
 intro pins s E H D I h;refine Wu (VD ?_);refine Wu (Wy ?_);refine Wu (Tuple_<|thn (ha _ pins s E H _ I h) ?_);rintro T n ⟨vs,Q,I1,Y,u⟩;obtain⟨v,w,e1,u⟩:=u;subst e1
 obtain⟨l,g,rfl,U,r⟩:∃l g,T=[l,g]/\RelV v l/\RelV w g:=by
  cases Y with
  |cons p q=>
   cases q with
   |cons p' q'=>
    cases q'
    exact⟨_,_,rfl,p,p'⟩
 refine Qo ?_ (by show 2<=sizeLine;decide);have I2:Inv X pins E Q {n with heap:=n.heap.push {cls:=.type "tuple",data:=.seq [l,g].toArray}}:=I1.kept λb o e=>Wz _ e
 rw[hw];refine Wu (Wy ?_);refine Wu (wpAny_rule<|Wu (unpackItems_tuple (items:=#[l,g]) (I.ok.hd hc) (IsTup.new n.heap _) λh' B=>?_));refine Wu (assignInOrder_cons<|wpAny_bindName<|Np (I2.kept (t':=n.toks) λb o e=>B b o (WS<|W8 e) e) L hj (.inl J) r (λs2 I4=>?_)<|.inr J);refine assignInOrder_cons (wpAny_bindName<|Np I4 L hi (.inl hx) U (λs3 M=>assignInOrder_nil (Wy ?_))<|.inr hx);rw[List.set_comm _ _ (Ne.symm C)]at M;exact⟨_,Q,M,u⟩
noncomputable def Oj(i:Nat)(te:TE)(ti:TIp):TS:=λD b H=>∃x,b[i]?=some (some x)/\te b H λy g=>ti x y g λz f=>D.nx (b.set i<|some z) f
def Zc4(hN:X.N.Nodup)(C:X.N[i]?=some x)(hx:Loc X.env.scope x)(he:PE X e te)(T:PIp X B ti)(hf:autoParam (X.fn x=true\/X.env.scope.names.lookup x=some .local) au_2) :
  PS X (.AugAssign (.Name x q) B e pos) (Oj i te ti):=by
 intro pins s p H D I h;obtain⟨v,e1,h⟩:=h;obtain⟨m,U,hl⟩:=I.loc;have o:Vis X.env.scope x:=by rcases hx with k|k;exact .inl k;exact .inr (.inl k)
 obtain⟨u,r,l⟩:=hl i x v C e1 o;refine wpAny_AugAssign_Name ?_
 have E:wpAny (model X.prog X.w) X.A (eval e X.env) (λw n=>wpAny (model X.prog X.w) X.A (inplaceOp B u w) (λr g=>wpAny (model X.prog X.w) X.A (storeName X.env x r) (λ_=>SP X pins D .next) X.xe g) X.xe n) X.xe s:=by
  refine thn (he pins s p H _ I h) λw G ⟨y,H1,I1,L,Q⟩=>?_;refine thn (T pins G p H1 v y u w _ I1 r L Q) λz s2 ⟨zv,H2,I2,J,M⟩=>?_;exact Np I2 hN C hx J (λs3 I3=>⟨_,H2,I3,M⟩) hf
 rcases l with⟨b,Y⟩|⟨b,c,hc,f⟩
 ·exact wpAny_loadName_local I.ok.kind b U Y E
 ·rcases b with b|b
  ·exact wpAny_loadName_cell I.ok.kind b hc f E
  ·rcases hx with k|k
   ·have:X.env.scope.names.lookup x=some .free:=b
    grind
   ·have:X.env.scope.names.lookup x=some .free:=b
    rw[k]at this;cases this
noncomputable def ipI(f:Int->Int->Int):TIp:=λx y H Q=>∃i j,x=.int i/\y=.int j/\Q (.int<|f i j) H
def Ii:PIp X .Add (ipI λi j=>i+j):=by
 intro pins s n H x y v u Q I f b h;obtain⟨i,j,l,g,q⟩:=h;subst l;subst g;obtain⟨t,rfl⟩:=f;obtain⟨o,rfl⟩:=b;exact iadd_int ⟨.int _,H,I.tok _,⟨_,rfl⟩,q⟩
noncomputable def Mr(c:TT)(o:TS):TS:=λD f H=>∃W:Nat->St->Hp->Prop,(∃m,W m f H)/\∀m f H,W m f H->
 c f H λb l=>if b=true then ∃N:St->Hp->Prop,(∀g n,N g n->∃h,h<m/\W h g n)/\o {D with nx:=N,ct:=N,bk:=D.nx} f l else D.nx f l
def Mc{tc p}(r:PassesOwn (model X.prog X.w) X.A X.env X.xe)(T:PT X c tc)(U:PSs X body p):PS X (.While c body [] pos) (Mr tc p):=by
 intro pins s C H D I h;obtain⟨W,⟨Q,G⟩,turn⟩:=h;refine wpAny_While (codeAny_whileLoop (λn M=>∃l z,Inv X pins l z M/\W n l z) ?_ Q ⟨C,H,I,G⟩);rintro n L ⟨g,y,Y,E⟩;refine Vj r (thn (T pins L g y _ Y<|turn n g y E) λb J ⟨x,u,o⟩=>?_);cases b with
 |true=>
  obtain⟨N,hN,o⟩:=o;refine Vj r (thn (U pins J g x _ u o) λf s3 q=>?_);cases f with
  |brk|ret v=>exact q
  |_=>
   obtain⟨B,H3,I3,n3⟩:=q
   grind
 |false=>
  exact Js ⟨g,x,u,o⟩
end
structure It where
 go:Nat->Hp->Prop
 yld:Nat->Hp->V->Hp->Prop
 stop:Nat->Hp->Prop
def Tq(X:Cx)(pins:ZW)(H:Hp)(b:Addr):Prop:=
 H b=none/\b≠X.env.locals/\b∉X.fs/\(b∈X.ex\/X.s₀.heap.objs.size<=b)/\(∀x c,X.env.cells.lookup x=some c->c≠b)/\∀p∈X.pn++pins,p.1≠b
def Inv.fpOk {g:St}{H H'}{s}{b:Addr} (I:Inv X pins g H s) (f:s.heap.objs.size<=b) (l:H' b=none):Tq X pins H' b:=by
 refine⟨l,Jt (WZ I.lt f),I.nofs f,.inr (W9 I.sz f),λx c e z=>?_,λp h z=>?_⟩
 ·obtain⟨v,q⟩:=I.cell x c e;exact absurd (WZ q.lt<|by grind) (QE _)
 ·exact absurd (WZ (W8 (I.pin p h).1)<|by grind) (QE _)
structure Turn (P:Program) (w:World) (K:ZT) (tg:Expr) (J:It) (fp:List Addr) (it:Addr) (tn:Nat->Heap->Prop):Prop where
 mem:it∈fp
 obj:∀i h,tn i h->∀b∈fp,∃o,h.get? b=some o/\∀v,o.data≠.cell v
 keep:∀i h h',tn i h->(∀b∈fp,∀o,h.get? b=some o->h'.get? b=some o)->tn i h'
 item:∀(X:Cx),X.prog=P->X.w=w->X.K=K->X.calm=true->∀(i:Nat) (pins:ZW) (s:Shared) (σ:St) (H:Hp) (E:ZY),Inv X pins σ H s->(∀b∈fp,Tq X pins H b)->tn i s.heap->J.go i H->
  wpAny (model P w) X.A (pyNext<|.ref it) (λr s1=>∃u,r=some u/\
   wpAny (model P w) X.A (letOwnedTupleGo tg (.ref it) u) (λ_ s2=>∃x H',Inv X pins σ H' s2/\RelV x u/\J.yld i H x H'/\tn (i+1) s2.heap/\∀b∈fp,H' b=none) E s1) E s
 done:∀(X:Cx),X.prog=P->X.w=w->X.K=K->X.calm=true->∀(i:Nat) (pins:ZW) (s:Shared) (σ:St) (H:Hp) (E:ZY),Inv X pins σ H s->(∀b∈fp,Tq X pins H b)->tn i s.heap->J.stop i H->
  wpAny (model P w) X.A (pyNext<|.ref it) (λr s1=>r=none/\Inv X pins σ H s1) E s
 self:∀(A:Around) (i:Nat) (s:Shared) (Q:ZY) (E:ZY),tn i s.heap->Q (.ref it) s->wpAny (model P w) A (pyIter<|.ref it) Q E s
abbrev TI:=St->Hp->(It->Hp->Prop)->Prop
def PIE(X:Cx)(pins:ZW)(o:St)(p:Expr)(R:It->Hp->Prop)(f:Value)(h:Shared):Prop:=
 ∃(l:Addr) (n:List Addr) (tn:Nat->Heap->Prop) (J:It) (g:Hp),f=.ref l/\Inv X pins o g h/\Turn X.prog X.w X.K p J n l tn/\tn 0 h.heap/\(∀b∈n,Tq X pins g b)/\R J g
def PI(X:Cx)(g iter:Expr)(f:TI):Prop:=
 ∀(pins:ZW) (s:Shared) (b:St) (H:Hp) (R:It->Hp->Prop),Inv X pins b H s->f b H R->
  wpAny (model X.prog X.w) X.A (eval iter X.env) (λv h=>wpAny (model X.prog X.w) X.A (pyIter v) (PIE X pins b g R) X.xe h) X.xe s
def AK {s f g u o n vs Q} (h : s.heap.get? g = some o) (l : o.cls = .type n) (hd : o.data = .fields vs)
    (p : ["enumerate", "zip", "dict_itemiterator", "dict_reverseitemiterator", "odict_iterator", "itertools.zip_longest", "itertools.pairwise"].contains n = false) (b : Q () s) : wpAny M A (letOwnedTupleGo f (.ref g) u) Q E s := by
  cases f <;> first
    | exact Wy b
    | (cases u <;> first
        | exact Wy b
        | (refine Wu (wpAny_load h ?_)
           rw [l, hd]
           show wpAny M A (if (["enumerate", "zip", "dict_itemiterator", "dict_reverseitemiterator", "odict_iterator", "itertools.zip_longest", "itertools.pairwise"].contains n && vs[0]? == some (rawInt _)) = true then _ else _) Q E s
           rw [W2 (by grind)]
           exact Wy b))
noncomputable def Itl(K:ZT)(a:Addr):It:=
 ⟨λi H=>∃xs x,SqL K H a xs/\xs[i]?=some x,λi H x b=>b=H/\∀xs,SqL K H a xs->xs[i]?=some x,λi H=>∃xs,SqL K H a xs/\xs.length<=i⟩
noncomputable def Itt(K:ZT)(a:Addr):It:=
 ⟨λi H=>∃xs x,SqT K H a xs/\xs[i]?=some x,λi H x b=>b=H/\∀xs,SqT K H a xs->xs[i]?=some x,λi H=>∃xs,SqT K H a xs/\xs.length<=i⟩
noncomputable def Itr(lo:Int)(n:Nat):It:=⟨λi _=>i<n,λi H x b=>b=H/\x=.int (lo+i),λi _=>n<=i⟩
def Zfn{K tg}(a it:Addr):Turn P w K tg (Itl K a) [it] it (λi h=>h.IsListIter it a i) where
 mem:=by simp
 obj:=λi h st b hb=>by
  have e:b=it:=by simpa using hb
  subst e;obtain⟨o,e,c,d⟩:=st;exact⟨o,e,λv z=>by rw[d]at z;cases z⟩
 keep:=λi h h' st k=>st.at λo e=>k it (by simp) o e
 item:=by
  intro X hP hw hK hc i pins s σ H E I hf st hg;subst hP hw hK;obtain⟨xs,x,hq,hx⟩:=hg;obtain⟨its,rv,p,hz⟩:=I.list hq;obtain⟨u,hu,ru⟩:=rv.get hx;obtain⟨f0,f1,f2,f3,f4,f5⟩:=hf it (by simp);refine wpAny_pyNext_list_item st p.isList (by simpa using hu) λh' st' sb=>?_;have I1:Inv X pins σ H {s with heap:=h'}:=I.turned (λb o hb e=>(sb.2 b hb).trans e) f0 f1 f3 f4 f5
  obtain⟨o,e,c,d⟩:=id st';exact⟨u,rfl,AK e c d (by decide) ⟨x,H,I1,ru,⟨rfl,λys hy=>by rw[I.list_inj hy hq];exact hx⟩,st',λb hb=>(hf b hb).1⟩⟩
 done:=by
  intro X hP hw hK hc i pins s σ H E I hf st hg;subst hP hw hK;obtain⟨xs,hq,hx⟩:=hg;obtain⟨its,rv,p,hz⟩:=I.list hq;obtain⟨f0,f1,f2,f3,f4,f5⟩:=hf it (by simp);have hl:=rv.length;exact wpAny_pyNext_list_end (I.ok.hd hc) st p.isList (by simp;lia) λh' eb=>⟨rfl,I.turned (λb o hb e=>eb b o hb e) f0 f1 f3 f4 f5⟩
 self:=λ_ _ _ _ _ st h=>wpAny_pyIter_listiter st h
def Zbp{K tg}(a it:Addr):Turn P w K tg (Itt K a) [it] it (λi h=>h.IsTupleIter it a i) where
 mem:=by simp
 obj:=λi h st b hb=>by
  have e:b=it:=by simpa using hb
  subst e;obtain⟨o,e,c,d⟩:=st;exact⟨o,e,λv z=>by rw[d]at z;cases z⟩
 keep:=λi h h' st k=>st.at λo e=>k it (by simp) o e
 item:=by
  intro X hP hw hK hc i pins s σ H E I hf st hg;subst hP hw hK;obtain⟨xs,x,hq,hx⟩:=hg;obtain⟨its,rv,p,hz⟩:=I.tuple hq;obtain⟨u,hu,ru⟩:=rv.get hx;obtain⟨f0,f1,f2,f3,f4,f5⟩:=hf it (by simp);refine wpAny_pyNext_tuple_item st p (by simpa using hu) λh' st' sb=>?_;have I1:Inv X pins σ H {s with heap:=h'}:=I.turned (λb o hb e=>(sb.2 b hb).trans e) f0 f1 f3 f4 f5
  obtain⟨o,e,c,d⟩:=id st';exact⟨u,rfl,AK e c d (by decide) ⟨x,H,I1,ru,⟨rfl,λys hy=>by rw[I.tuple_inj hy hq];exact hx⟩,st',λb hb=>(hf b hb).1⟩⟩
 done:=by
  intro X hP hw hK hc i pins s σ H E I hf st hg;subst hP hw hK;obtain⟨xs,hq,hx⟩:=hg;obtain⟨its,rv,p,hz⟩:=I.tuple hq;obtain⟨f0,f1,f2,f3,f4,f5⟩:=hf it (by simp);have hl:=rv.length;exact wpAny_pyNext_tuple_end (I.ok.hd hc) st p (by simp;lia) λh' eb=>⟨rfl,I.turned (λb o hb e=>eb b o hb e) f0 f1 f3 f4 f5⟩
 self:=λ_ _ _ _ _ st h=>wpAny_pyIter_tupleiter st h
def Zd9{K tg}(it:Addr)(lo:Int)(n:Nat):Turn P w K tg (Itr lo n) [it] it (λi h=>IsRangeIter h it (lo+(i:Nat)*1) ((n:Int)-(i:Nat)) 1) where
 mem:=by simp
 obj:=λi h st b hb=>by
  have e:b=it:=by simpa using hb
  subst e
  exact⟨_,st,λv z=>by
   cases z⟩
 keep:=λi h h' st k=>k it (by simp) _ st
 item:=by
  intro X hP hw hK hc i pins s σ H E I hf st hg;subst hP hw hK;obtain⟨f0,f1,f2,f3,f4,f5⟩:=hf it (by simp);refine(Walks.range (prog:=X.prog) (w:=X.w) (I.ok.hd hc) it lo 1 n).item i s _ _ hg st λv h' tk hv st' kk=>?_;obtain⟨t,rfl⟩:=hv;have I1:Inv X pins σ H {s with heap:=h',toks:=tk}:=I.turned (λb o hb e=>kk b o (by simpa using hb) e) f0 f1 f3 f4 f5
  refine⟨_,rfl,AK st' rfl rfl (by decide) ⟨.int (lo+i),H,I1,⟨t,?_⟩,⟨rfl,rfl⟩,st',λb hb=>(hf b hb).1⟩⟩;rw[Int.mul_one]
 done:=by
  intro X hP hw hK hc i pins s σ H E I hf st hg;obtain⟨f0,f1,f2,f3,f4,f5⟩:=hf it (by simp);exact wpAny_pyNext_range_end (I.ok.hd hc) st (by have:n<=i:=hg;lia) λh' eb=>⟨rfl,I.turned (λb o hb e=>eb b o hb e) f0 f1 f3 f4 f5⟩
 self:=λ_ _ _ _ _ st h=>wpAny_pyIter_rangeiter st h
section
variable {X:Cx}{tg:Expr}
noncomputable def BS(K:ZT)(g:TE):TI:=λf H R=>g f H λx b=>∃a,x=.ref a/\(∃xs,SqL K b a xs)/\R (Itl K a) b
noncomputable def AR(K:ZT)(g:TE):TI:=λf H R=>g f H λx b=>∃a,x=.ref a/\(∃xs,SqT K b a xs)/\R (Itt K a) b
def G2(z:PE X l r):PI X tg l (BS X.K r):=by
 intro pins s n H R I h;refine thn (z pins s n H _ I h) λv g ⟨x,A,f,u,w⟩=>?_;obtain⟨a,e,⟨xs,hq⟩,q⟩:=w;subst e;cases u
 obtain⟨y,B,p,C⟩:=f.list hq;refine wpAny_pyIter_list p.isList ?_;refine⟨g.heap.objs.size,[g.heap.objs.size],_,_,A,rfl,f.kept λb o e=>Wz _ e,Zfn a _,⟨_,WE _ rfl,rfl,rfl⟩,λb E=>?_,q⟩;have e:b=g.heap.objs.size:=by grind
 subst e;exact f.fpOk (W3 _) (f.hok.fresh<|W3 _)
def Zbf(z:PE X l r):PI X tg l (AR X.K r):=by
 intro pins s n H R I h;refine thn (z pins s n H _ I h) λv g ⟨x,A,f,u,w⟩=>?_;obtain⟨a,e,⟨xs,hq⟩,q⟩:=w;subst e;cases u
 obtain⟨y,B,p,C⟩:=f.tuple hq;refine wpAny_pyIter_tuple p ?_;refine⟨g.heap.objs.size,[g.heap.objs.size],_,_,A,rfl,f.kept λb o e=>Wz _ e,Zbp a _,⟨_,WE _ rfl,rfl,rfl⟩,λb E=>?_,q⟩;have e:b=g.heap.objs.size:=by grind
 subst e;exact f.fpOk (W3 _) (f.hok.fresh<|W3 _)
def MB{g:St}{H}{s}{R}{E}{lo f}{t u v}{tk}(I:Inv X pins g H s)(x:-(2 ^ 62)<=lo)(r:lo<2 ^ 62)(p:-(2 ^ 62)<=f)(n:f<2 ^ 62)(q:R (Itr lo (f-lo).toNat) H):wpAny (model X.prog X.w) X.A (pyIter<|.ref s.heap.objs.size) (PIE X pins g tg R) E {s with heap:=s.heap.push {cls:=.type "range",data:=.fields #[.int lo t,.int f u,.int 1 v]},toks:=tk}:=by
 refine wpAny_pyIter_range (IsRange.new ..) (small_one x r p n) ?_;have h:Inv X pins g H {s with heap:=s.heap.push {cls:=.type "range",data:=.fields #[.int lo t,.int f u,.int 1 v]},toks:=tk}:=I.kept λb o e=>Wz _ e
 refine⟨(s.heap.push {cls:=.type "range",data:=.fields #[.int lo t,.int f u,.int 1 v]}).objs.size,[(s.heap.push {cls:=.type "range",data:=.fields #[.int lo t,.int f u,.int 1 v]}).objs.size],_,_,H,rfl,
  h.kept λb o e=>Wz _ e,Zd9 _ lo (f-lo).toNat,?_,λb l=>?_,q⟩
 ·have z:lo+((0:Nat):Int)*1=lo:=by simp
  have y:(((f-lo).toNat:Nat):Int)-((0:Nat):Int)=Builtin.Range.rangeSize lo f 1:=by rw[rangeSize_one];split<;>lia
  rw[z,y];exact WE _ rfl
 ·have e:b=(s.heap.push {cls:=.type "range",data:=.fields #[.int lo t,.int f u,.int 1 v]}).objs.size:=by simpa using l
  subst e;exact h.fpOk (W3 _) (h.hok.fresh<|W3 _)
noncomputable def Eu(g:TA):TI:=λb H R=>g b H λf h=>∃j:Int,f=[.int j]/\-(2 ^ 62)<=j/\j<2 ^ 62/\R (Itr 0 j.toNat) h
noncomputable def IS(g:TA):TI:=λb H R=>g b H λf h=>∃i j:Int,f=[.int i,.int j]/\(-(2 ^ 62)<=i/\i<2 ^ 62/\-(2 ^ 62)<=j/\j<2 ^ 62)/\R (Itr i (j-i).toNat) h
def Zfp(w:Gl X "range")(v:X.mg "range"=none)(x:PA X [a] g)(u:autoParam (starEach [a] X.env=[(false,eval a X.env)]) au_0):PI X tg (.Call (.Name "range" p) [a] [] pos) (Eu g):=by
 intro pins s f H R I h;refine Call_ (NX I w v boot_range<|Vf (thn (x pos pins s f H _ I h) λA B ⟨z,C,y,n,b⟩=>?_) u rfl);obtain⟨j,e,b,o,q⟩:=b;subst e;cases n with
 |cons r l=>
  cases l
  obtain⟨t,rfl⟩:=r;exact call_range_1 (MB y (by lia) (by lia) b o<|by grind)
def Zoc{p pos}(A:Gl X "range")(z:X.mg "range"=none)(B:PA X [a,b] o)(M:autoParam (starEach [a,b] X.env=[(false,eval a X.env),(false,eval b X.env)]) au_0)(l:autoParam (starEach [b] X.env=[(false,eval b X.env)]) au_0) :
  PI X tg (.Call (.Name "range" p) [a,b] [] pos) (IS o):=by
 intro pins s n H R I h;refine Call_ (NX I A z boot_range<|Vf (thn (B pos pins s n H _ I h) λG L ⟨E,N,C,u,g⟩=>?_) (by grind)<|by rw[l];rfl);obtain⟨i,j,e,⟨g,y,x,w⟩,q⟩:=g;subst e;cases u with
 |cons r f=>
  cases f with
  |cons v f=>
   cases f
   obtain⟨t,rfl⟩:=r;obtain⟨J,rfl⟩:=v;exact call_range_2 (MB C g y x w q)
noncomputable def E9(o:TI)(g:TG)(p:TS):TS:=λD b H=>o b H λJ r=>∃W:Nat->Nat->St->Hp->Prop,(∃m,W 0 m b r)/\∀i m b H,W i m b H->
 (J.stop i H/\D.nx b H)\/(J.go i H/\∃N:St->Hp->Prop,(∀f h,N f h->∃n,n<m/\W (i+1) n f h)/\∀x h,J.yld i H x h->g x b h λl q=>p {D with nx:=N,ct:=N,bk:=D.nx} l q)
noncomputable def Sj(f:List Addr)(h:Heap):ZW:=f.filterMap λb=>(h.get? b).map λo=>(b,o)
def F0{b o}(f:b∈g)(e:h.get? b=some o):(b,o)∈Sj g h:=JC.mpr ⟨b,f,by rw[e];rfl⟩
def Zm9(f:p∈Sj g h):p.1∈g/\h.get? p.1=some p.2:=by
 obtain⟨b,l,e⟩:=JC.mp f;cases q:h.get? b with
 |_=>grind
def Inv.pinned {f:St}{H}{s}{fp} (I:Inv X pins f H s) (h:∀b∈fp,Tq X pins H b) (n:∀b∈fp,∃o,s.heap.get? b=some o/\∀v,o.data≠.cell v):Inv X (pins++Sj fp s.heap) f H s:=
 I.pins_of λp g=>(WD.mp g).elim (λz=>I.pin p (WV _ z)) λz=>by
  obtain⟨l,e⟩:=Zm9 z;obtain⟨f0,f1,q,_⟩:=h p.1 l
  grind
def Inv.unpinned {b:St}{H}{s} (I:Inv X (pins++g) b H s):Inv X pins b H s:=I.pins_of λp f=>I.pin p (WV _<|QB _ f)
def OY{wi g tb pos}(M:PassesOwn (model X.prog X.w) X.A X.env X.xe)(hc:X.calm=true)(hi:PI X tg iter wi)(hg:PG X tg g)(y:PSs X body tb)(hs:autoParam (∀x,foldedSetIterable iter X.env x=pure x) au_3):PS X (.For tg iter body [] pos) (E9 wi g tb):=by
 intro pins s σ H D I h;refine wpAny_For (thn (hi pins s σ H _ I h) λv s1 h1=>thn h1 λitv s2 h2=>?_) hs;obtain⟨it,U,tn,J,H2,e,I2,T,st2,f2,W,⟨m0,w0⟩,turn⟩:=h2;subst e;have stat:∀{B:Hp},(∀b∈U,B b=none)->∀b∈U,Tq X pins B b:=λhn b y=>⟨hn b y,(f2 b y).2⟩;refine codeAny_forLoop_any (λn s'=>∃i q B,Inv X pins q B s'/\tn i s'.heap/\(∀b∈U,B b=none)/\W i n q B) ?_ m0 ⟨0,σ,H2,I2,st2,λb y=>(f2 b y).1,w0⟩;rintro n s3 ⟨i,p,Y,I3,L,Q,w3⟩;rcases turn i n p Y w3 with⟨stop,qn⟩|⟨go,N,hN,step⟩
 ·refine Vj M (thn (T.done X rfl rfl rfl hc i pins s3 p Y X.xe I3 (stat Q) L stop) ?_);rintro r s4 ⟨hr,I4⟩;subst hr;exact Js ⟨p,Y,I4,qn⟩
 ·refine Vj M (thn (T.item X rfl rfl rfl hc i pins s3 p Y X.xe I3 (stat Q) L go) ?_);rintro r s4 ⟨u,hr,h4⟩;subst hr;refine Vj M (thn h4 ?_);rintro _ s5 ⟨x,H5,I5,r5,y5,E,fr5⟩;refine Vj M (thn (hg _ s5 p H5 x u _ (I5.pinned (stat fr5)<|T.obj _ _ E) r5<|step x H5 y5) ?_);rintro _ s6 ⟨σ6,H6,I6,q6⟩;refine Vj M (thn (y _ s6 σ6 H6 _ I6 q6) λf s7 G=>?_)
  have again:∀{l:St} {z:Hp},Inv X (pins++Sj U s5.heap) l z s7->N l z->∃m,m<n/\∃i q B,Inv X pins q B s7/\tn i s7.heap/\(∀b∈U,B b=none)/\W i m q B:=λ{l z} C n7=>by
   obtain⟨m',hm,w7⟩:=hN l z n7;refine⟨m',hm,i+1,l,z,C.unpinned,T.keep _ _ _ E λb y o e=>(C.pin (b,o)<|WV _<|WV _<|F0 y e).1,λb y=>?_,w7⟩;obtain⟨o,e,d⟩:=T.obj _ _ E b y;exact(C.pin (b,o)<|WV _<|WV _<|F0 y e).2.1
  cases f with
  |brk=>obtain⟨l,z,C,G⟩:=G;exact⟨l,z,C.unpinned,G⟩
  |ret v=>obtain⟨x7,l,z,C,r7,G⟩:=G;exact⟨x7,l,z,C.unpinned,r7,G⟩
  |_=>obtain⟨l,z,C,n7⟩:=G;exact again C n7
end
abbrev R2:=V->V->Hp->VK->Prop
def OpR(X:Cx)(f:Value->Value->Sem Value)(r:R2):Prop:=
 ∀(pins:ZW) (s:Shared) (b:St) (H:Hp) (x y:V) (v u:Value) (Q:VK),Inv X pins b H s->RelV x v->RelV y u->r x y H Q->
  wpAny (model X.prog X.w) X.A (f v u) (EP X pins b Q) X.xe s
def UnR(X:Cx)(f:Value->Sem Value)(r:V->Hp->VK->Prop):Prop:=
 ∀(pins:ZW) (s:Shared) (b:St) (H:Hp) (x:V) (v:Value) (Q:VK),Inv X pins b H s->RelV x v->r x H Q->
  wpAny (model X.prog X.w) X.A (f v) (EP X pins b Q) X.xe s
def XM(X:Cx)(f:Value)(r:List V->Hp->VK->Prop):Prop:=
 ∀(pins:ZW) (s:Shared) (b:St) (H:Hp) (xs:List V) (g:Yb) (Q:VK),Inv X pins b H s->Vals xs g->r xs H Q->
  wpAny (model X.prog X.w) X.A (call f g) (EP X pins b Q) X.xe s
def Zfj(X:Cx)(r:V->Hp->(Bool->Hp->Prop)->Prop):Prop:=
 ∀(pins:ZW) (s:Shared) (b:St) (H:Hp) (x:V) (v:Value) (Q:Bool->Hp->Prop),Inv X pins b H s->RelV x v->r x H Q->
  wpAny (model X.prog X.w) X.A (truthy v) (TP X pins b Q) X.xe s
noncomputable def tOp(r:R2)(g f:TE):TE:=λb H Q=>g b H λx l=>f b l λy h=>r x y h Q
noncomputable def tUn(r:V->Hp->VK->Prop)(f:TE):TE:=λb H Q=>f b H λx g=>r x g Q
noncomputable def rI(C:Int->Int->Prop)(g:Int->Int->V):R2:=λx y H Q=>∃i j,x=.int i/\y=.int j/\C i j/\Q (g i j) H
noncomputable def rI0(g:Int->Int->V):R2:=λx y H Q=>∃i j,x=.int i/\y=.int j/\Q (g i j) H
def rU(g:Int->V):V->Hp->VK->Prop:=λx H Q=>∃i,x=.int i/\Q (g i) H
section
variable {X:Cx}{a b c:Expr}{ta tb tc:TE}{pos:Pos}
def AI(C:PE X a ta)(B:PE X b tb){pins}{s}{g:St}{H}{R:V->V->Hp->Prop}(I:Inv X pins g H s)(h:ta g H λx q=>tb g q λy o=>R x y o){Q}{f:Value->Value->Sem Value}(M:∀v u p x y o,Inv X pins g o p->RelV x v->RelV y u->R x y o->wpAny (model X.prog X.w) X.A (f v u) Q X.xe p) :
  wpAny (model X.prog X.w) X.A (eval a X.env) (λv n=>wpAny (model X.prog X.w) X.A (eval b X.env) (λu l=>wpAny (model X.prog X.w) X.A (f v u) Q X.xe l) X.xe n) X.xe s:=by
 refine thn (C pins s g H _ I h) λv r ⟨x,q,E,J,z⟩=>?_;refine thn (B pins r g q _ E z) λu p ⟨y,o,N,G,L⟩=>?_
 grind
def KU(p:OpR X (binaryOp o) r)(z:PE X a ta)(w:PE X b tb):PE X (.BinOp a o b pos) (tOp r ta tb):=by
 intro pins s f H Q I h;exact wpAny_BinOp (AI z w I h λv u g x y B A n l q=>p pins g f B x y v u Q A n l q)
def PJ(p:UnR X (unaryOp o) r)(q:PE X a ta):PE X (.UnaryOp o a pos) (tUn r ta):=by
 intro pins s f H Q I h;exact UnaryOp_ (thn (q pins s f H _ I h) λv g ⟨x,w,u,l,n⟩=>p pins g f w x v Q u l n)
def opI{C}{g:Int->Int->Int}(rule:∀i j t u s Q E,C i j->Q (.int (g i j) s.toks) {s with toks:=s.toks+1}->wpAny (model X.prog X.w) X.A (f (.int i t)<|.int j u) Q E s) :
  OpR X f (rI C λi j=>.int (g i j)):=by
 intro pins s r H x y v u Q I o n h;obtain⟨i,j,rfl,rfl,p,q⟩:=h;obtain⟨t,rfl⟩:=o;obtain⟨l,rfl⟩:=n;exact rule i j t l s _ _ p ⟨.int (g i j),H,I.tok _,⟨_,rfl⟩,q⟩
def GG{g:Int->Int->Int}(rule:∀i j t u s Q E,Q (.int (g i j) s.toks) {s with toks:=s.toks+1}->wpAny (model X.prog X.w) X.A (f (.int i t)<|.int j u) Q E s) :
  OpR X f (rI0 λi j=>.int (g i j)):=by
 intro pins s p H x y v u Q I o n h;obtain⟨i,j,rfl,rfl,q⟩:=h;obtain⟨t,rfl⟩:=o;obtain⟨l,rfl⟩:=n;exact rule i j t l s _ _ ⟨.int (g i j),H,I.tok _,⟨_,rfl⟩,q⟩
def Dg{g:Int->Int->Bool}(rule:∀i j t u s Q E,Q (.bool<|g i j) s->wpAny (model X.prog X.w) X.A (f (.int i t)<|.int j u) Q E s) :
  OpR X f (rI0 λi j=>.bl (g i j)):=by
 intro pins s p H x y v u Q I o n h;obtain⟨i,j,rfl,rfl,q⟩:=h;obtain⟨t,rfl⟩:=o;obtain⟨l,rfl⟩:=n;exact rule i j t l s _ _ ⟨.bl (g i j),H,I,rfl,q⟩
def A6(i j:Int):Prop:=0<j/\j<1073741824
def CMul(i j:Int):Prop:=(-(2 ^ 64)<i/\i<2 ^ 64)\/(-(2 ^ 64)<j/\j<2 ^ 64)
def CMul.ok (h:CMul i j):IntMulOk i j:=by
 rcases h with⟨g,f⟩|⟨g,f⟩
 ·exact .of_left (intBits_le_64 g f)
 ·exact .of_right (intBits_le_64 g f)
def XD:OpR X (binaryOp .Add) (rI0 λi j=>.int (i+j)):=GG λ_ _ _ _ _ _ _ q=>add_int q
def Kc:OpR X (binaryOp .Sub) (rI0 λi j=>.int (i-j)):=GG λ_ _ _ _ _ _ _ q=>sub_int q
def PP:OpR X (binaryOp .Mult) (rI CMul λi j=>.int (i*j)):=opI λ_ _ _ _ _ _ _ f q=>mul_int q f.ok
def Kd:OpR X (binaryOp .FloorDiv) (rI A6 λi j=>.int (i / j)):=opI λi j _ _ _ _ _ f q=>by
 have h:=f.1;have g:=f.2;exact floordiv_int (by lia) (by rw[Int.fdiv_eq_ediv_of_nonneg i (by lia)];exact q) (.inl<|PyProof.noPylong_small<|by lia)
def Xz:OpR X (binaryOp .Mod) (rI (λ_ j=>0<j) λi j=>.int (i % j)):=opI λi j _ _ _ _ _ f q=>by
 exact mod_int' (by lia) (by grind)
def unI{g:Int->Int}(rule:∀i t s Q E,Q (.int (g i) s.toks) {s with toks:=s.toks+1}->wpAny (model X.prog X.w) X.A (f<|.int i t) Q E s) :
  UnR X f (rU λi=>.int (g i)):=by
 intro pins s n H x v Q I l h;obtain⟨i,rfl,q⟩:=h;obtain⟨t,rfl⟩:=l;exact rule i t s _ _ ⟨.int (g i),H,I.tok _,⟨_,rfl⟩,q⟩
def PD:UnR X (unaryOp .USub) (rU λi=>.int (-i)):=unI λ_ _ _ _ _ q=>neg_int q
end
noncomputable def Ih:V->V->Bool
 | .non,.non=>true | .non,.int _=>true | .int _,.non=>true | .non,.bl _=>true | .bl _,.non=>true | .non,.str _=>true | .str _,.non=>true
 | .int _,.int _=>true | .bl _,.bl _=>true | .str _,.str _=>true | .byt _,.byt _=>true
 | .int _,.str _=>true | .str _,.int _=>true | .bl _,.str _=>true | .str _,.bl _=>true
 |_,_=>false
noncomputable def rEq:R2:=λx y H Q=>Ih x y=true/\Q (.bl<|decide (x=y)) H
noncomputable def rNe:R2:=λx y H Q=>Ih x y=true/\Q (.bl (!decide (x=y))) H
def E4{i j:Int}:decide (V.int i=V.int j)=(i==j):=by
 rw[Ju];simp
def ME{i j:Bool}:decide (V.bl i=V.bl j)=(i==j):=by
 rw[Ju];simp
def Lm{i j:Str}:decide (V.str i=V.str j)=(i==j):=by
 rw[Ju];simp
def IK{i j:Array UInt8}:decide (V.byt i=V.byt j)=(i.toList==j.toList):=by
 rw[Ju];cases i
 cases j
 simp
section
variable {X:Cx}{a b c:Expr}{ta tb tc:TE}{pos:Pos}
def X0{f:St}{H}{s}{Q}{k g}(I:Inv X pins f H s)(q:Q (.bl k) H)(e:k=g):EP X pins f Q (.bool g) s:=by
 subst e;exact⟨.bl k,H,I,rfl,q⟩
def op_eq:OpR X (compareOp .Eq) rEq:=by
 intro pins s o H x y v u Q I n f h;obtain⟨l,q⟩:=h;cases x with
 |non=>
  cases n
  cases y with
  |non=>cases f;exact PySem.EqNone.eq_none_none (X0 I q<|by simp)
  |bl j=>cases f;exact PySem.EqNone.eq_none_bool (X0 I q<|by simp)
  |int j=>obtain⟨g,rfl⟩:=f;exact PySem.EqNone.eq_none_int (X0 I q<|by simp)
  |str j=>obtain⟨g,rfl⟩:=f;exact PySem.EqNone.eq_none_str (X0 I q<|by simp)
  |_=>exact absurd l WR
 |bl i=>
  cases n
  cases y with
  |non=>cases f;exact PySem.EqNone.eq_bool_none (X0 I q<|by simp)
  |bl j=>cases f;exact eq_bool (X0 I q ME)
  |str j=>obtain⟨g,rfl⟩:=f;exact PySem.EqMixed.eq_bool_str (X0 I q<|by simp)
  |_=>exact absurd l WR
 |int i=>
  obtain⟨t,rfl⟩:=n;cases y with
  |non=>cases f;exact PySem.EqNone.eq_int_none (X0 I q<|by simp)
  |int j=>obtain⟨g,rfl⟩:=f;exact eq_int (X0 I q E4)
  |str j=>obtain⟨g,rfl⟩:=f;exact PySem.EqMixed.eq_int_str (X0 I q<|by simp)
  |_=>exact absurd l WR
 |str i=>
  obtain⟨t,rfl⟩:=n;cases y with
  |non=>cases f;exact PySem.EqNone.eq_str_none (X0 I q<|by simp)
  |bl j=>cases f;exact PySem.EqMixed.eq_str_bool (X0 I q<|by simp)
  |int j=>obtain⟨g,rfl⟩:=f;exact PySem.EqMixed.eq_str_int (X0 I q<|by simp)
  |str j=>obtain⟨g,rfl⟩:=f;exact eq_str (X0 I q Lm)
  |_=>exact absurd l WR
 |byt i=>
  obtain⟨t,rfl⟩:=n;cases y with
  |byt j=>obtain⟨g,rfl⟩:=f;exact PySem.W.eq_bytes (X0 I q IK)
  |_=>exact absurd l WR
 |_=>cases y<;>exact absurd (show false=true from l) WR
def op_ne:OpR X (compareOp .NotEq) rNe:=by
 intro pins s o H x y v u Q I n f h;obtain⟨l,q⟩:=h;cases x with
 |non=>
  cases n
  cases y with
  |non=>cases f;exact PySem.EqNone.ne_none_none (X0 I q<|by simp)
  |bl j=>cases f;exact PySem.EqNone.ne_none_bool (X0 I q<|by simp)
  |int j=>obtain⟨g,rfl⟩:=f;exact PySem.EqNone.ne_none_int (X0 I q<|by simp)
  |str j=>obtain⟨g,rfl⟩:=f;exact PySem.EqNone.ne_none_str (X0 I q<|by simp)
  |_=>exact absurd l WR
 |bl i=>
  cases n
  cases y with
  |non=>cases f;exact PySem.EqNone.ne_bool_none (X0 I q<|by simp)
  |bl j=>cases f;exact ne_bool (X0 I q<|Qs not ME)
  |str j=>obtain⟨g,rfl⟩:=f;exact PySem.EqMixed.ne_bool_str (X0 I q<|by simp)
  |_=>exact absurd l WR
 |int i=>
  obtain⟨t,rfl⟩:=n;cases y with
  |non=>cases f;exact PySem.EqNone.ne_int_none (X0 I q<|by simp)
  |int j=>obtain⟨g,rfl⟩:=f;exact ne_int (X0 I q<|Qs not E4)
  |str j=>obtain⟨g,rfl⟩:=f;exact PySem.EqMixed.ne_int_str (X0 I q<|by simp)
  |_=>exact absurd l WR
 |str i=>
  obtain⟨t,rfl⟩:=n;cases y with
  |non=>cases f;exact PySem.EqNone.ne_str_none (X0 I q<|by simp)
  |bl j=>cases f;exact PySem.EqMixed.ne_str_bool (X0 I q<|by simp)
  |int j=>obtain⟨g,rfl⟩:=f;exact PySem.EqMixed.ne_str_int (X0 I q<|by simp)
  |str j=>obtain⟨g,rfl⟩:=f;exact ne_str (X0 I q<|Qs not Lm)
  |_=>exact absurd l WR
 |byt i=>
  obtain⟨t,rfl⟩:=n;cases y with
  |byt j=>obtain⟨g,rfl⟩:=f;exact PySem.W.ne_bytes (X0 I q<|Qs not IK)
  |_=>exact absurd l WR
 |_=>cases y<;>exact absurd (show false=true from l) WR
def T6:OpR X (compareOp .Lt) (rI0 λi j=>.bl (decide (i<j))):=Dg λ_ _ _ _ _ _ _ q=>lt_int q
def Po:OpR X (compareOp .Gt) (rI0 λi j=>.bl (decide (j<i))):=Dg λ_ _ _ _ _ _ _ q=>gt_int q
def EF:OpR X (compareOp .GtE) (rI0 λi j=>.bl (decide (j<=i))):=Dg λ_ _ _ _ _ _ _ q=>ge_int q
def OpR.or (h:OpR X f r) (p:OpR X f o):OpR X f (λx y H Q=>r x y H Q\/o x y H Q):=by
 intro pins s g H x y v u Q I n l q;rcases q with q|q
 ·exact h pins s g H x y v u Q I n l q
 ·exact p pins s g H x y v u Q I n l q
def Ke(b:Expr){op}(h:autoParam (op≠.In) au_1)(l:autoParam (op≠.NotIn) au_1):behindInMarks op b=false:=by
 have g:(op==CmpOp.In)=false:=by grind
 have f:(op==CmpOp.NotIn)=false:=by grind
 cases b<;>simp[behindInMarks,g,f]
def KI(p:OpR X (compareOp f) r)(A:PE X a ta)(z:PE X b tb)(w:behindInMarks f b=false):PE X (.Compare a [f] [b] pos) (tOp r ta tb):=by
 intro pins s g H Q I h;exact wpAny_Compare1 (AI A z I h λv u l x y C B o n q=>p pins l g C x y v u Q B o n q) w
noncomputable def BO(t:TE):TT:=λf H Q=>t f H λx g=>∃k,x=.bl k/\Q k g
def PY(C:OpR X (compareOp g) r)(J:PE X a ta)(G:PE X b tb)(E:behindInMarks g b=false):PT X (.Compare a [g] [b] pos) (BO<|tOp r ta tb):=by
 intro pins s f H Q I h
 refine wpAny_isTrue_Compare1 (thn (J pins s f H _ I h) λv n ⟨x,Y,N,q,B⟩=>thn (G pins n f Y _ N B) λu l ⟨y,U,M,p,A⟩=>
  thn (C pins l f U x y v u _ M q p A) λc s3 ⟨z,T,L,o,k,e,w⟩=>?_) E
 subst e;cases o
 exact QS ⟨T,L,w⟩
def BC(K:ZT)(x:V)(H:Hp)(k:Bool):Prop:=
 match x with
 | .non=>k=false
 | .bl b=>k=b
 | .int i=>k=(i != 0)
 | .str y=>y.length<=sizeLine/\k=((y.length:Int) != 0)
 | .byt y=>y.size<=sizeLine/\k=((y.size:Int) != 0)
 | .ref p=>(∃xs,SqL K H p xs/\k=!xs.isEmpty)\/(∃xs,SqT K H p xs/\k=!xs.isEmpty)\/∃f,H p=some (.dK f)/\k=!f.isEmpty
 |_=>False
def Zbm(r:KV f vs):(!vs.isEmpty)=!f.isEmpty:=by
 cases r<;>rfl
def E6(r:Vals xs f):(!f.toArray.isEmpty)=!xs.isEmpty:=by
 cases r<;>simp
def Dr:(sizeLine:Nat)<2 ^ 63:=by trivial
def HH:Zfj X (λx H Q=>∃k,BC X.K x H k/\Q k H):=by
 intro pins s B H x v Q I l h;obtain⟨k,e,q⟩:=h;have G:=Dr;have E:=JA;cases x with
 |non=>
  cases l
  have f:=e;subst f;exact truthy_none ⟨H,I,q⟩
 |bl b=>
  cases l
  have f:=e;subst f;exact QS ⟨H,I,q⟩
 |int i=>
  obtain⟨t,rfl⟩:=l;have f:=e;subst f;exact PySem.P.truthy_int ⟨H,I,q⟩
 |str y=>
  obtain⟨t,rfl⟩:=l;obtain⟨z,f⟩:=e;subst f;exact PySem.P.truthy_str (by lia) ⟨H,I.tok _,q⟩
 |byt y=>
  obtain⟨t,rfl⟩:=l;obtain⟨z,f⟩:=e;subst f;exact PySem.W.truthy_bytes (by lia) ⟨H,I.tok _,q⟩
 |ref p=>
  cases l
  have f:=e;rcases f with⟨xs,hx,f⟩|⟨xs,hx,f⟩|⟨w,hx,f⟩
  ·subst f;obtain⟨o,r,n,u⟩:=I.list hx;have g:=r.length;exact wpAny_truthy_list n.isList (by simp only[Qj];lia) ⟨H,I.tok _,by rw[E6 r];exact q⟩
  ·subst f;obtain⟨o,r,n,u⟩:=I.tuple hx;have g:=r.length;exact truthy_tuple n (by simp only[Qj];lia) ⟨H,I.tok _,by rw[E6 r];exact q⟩
  ·subst f;obtain⟨u,A,C,r,m⟩:=I.hok p _ hx;have g:=Paired.length r;exact wpAny_truthy_dict A m (by lia) ⟨H,I.tok _,by rw[Zbm r];exact q⟩
 |_=>exact e.elim
def RH(p:PE X a ta)(o:∀whole,isTrue a X.env whole=(do let v ←whole;standAt a.pos;holding [v] (truthy v))) :
  PT X a (λf H Q=>ta f H λx H'=>∃k,BC X.K x H' k/\Q k H'):=by
 intro pins s f H Q I h;exact isTrue_plain (thn (p pins s f H _ I h) λv g ⟨x,r,q,l,n⟩=>HH pins g f r x v Q q l n) (o _)
def vals1(r:Vals [x] us):∃u,us=[u]/\RelV x u:=by
 cases r with
 |cons g f=>cases f;exact⟨_,rfl,g⟩
def vals2(r:Vals [x,y] us):∃u f,us=[u,f]/\RelV x u/\RelV y f:=by
 cases r with
 |cons n l=>
  cases l with
  |cons h g=>cases g;exact⟨_,_,rfl,n,h⟩
def Zba(g:X.calm=true):XM X (.builtin "max") (λxs H Q=>∃i j,xs=[.int i,.int j]/\Q (.int (if j>i then j else i)) H):=by
 intro pins s l H xs o Q I r h;obtain⟨i,j,rfl,q⟩:=h;obtain⟨u,n,rfl,⟨t,rfl⟩,⟨v,rfl⟩⟩:=vals2 r;refine max_two_ints (I.ok.hd g) λw p k=>⟨_,H,I.kept k,?_,q⟩;by_cases f:j>i
 ·rw[W5 f,W5 f];exact⟨_,rfl⟩
 ·rw[W2 f,W2 f];exact⟨_,rfl⟩
def Zlb(g:X.calm=true):XM X (.builtin "min") (λxs H Q=>∃i j,xs=[.int i,.int j]/\Q (.int (if j<i then j else i)) H):=by
 intro pins s l H xs o Q I r h;obtain⟨i,j,rfl,q⟩:=h;obtain⟨u,n,rfl,⟨t,rfl⟩,⟨v,rfl⟩⟩:=vals2 r;refine min_two_ints (I.ok.hd g) λw p k=>⟨_,H,I.kept k,?_,q⟩;by_cases f:j<i
 ·rw[W5 f,W5 f];exact⟨_,rfl⟩
 ·rw[W2 f,W2 f];exact⟨_,rfl⟩
def Zap:XM X (.type "int") (λxs H Q=>(∃i,xs=[.int i]/\Q (.int i) H)\/∃k,xs=[.bl k]/\Q (.int (if k then 1 else 0)) H):=by
 intro pins s g H xs l Q I r h;rcases h with⟨i,rfl,q⟩|⟨k,rfl,q⟩
 ·obtain⟨u,rfl,t,rfl⟩:=vals1 r;exact call_int_int ⟨.int i,H,I,⟨_,rfl⟩,q⟩
 ·obtain⟨u,rfl,f⟩:=vals1 r;cases f
  exact call_int_bool ⟨.int (if k then 1 else 0),H,I.tok _,⟨_,rfl⟩,q⟩
def Fg(K:ZT)(x:V)(H:Hp)(n:Nat):Prop:=
 match x with
 | .str y=>y.length<=sizeLine/\n=y.length
 | .byt y=>y.size<=sizeLine/\n=y.size
 | .ref p=>(∃xs,SqL K H p xs/\n=xs.length)\/∃xs,SqT K H p xs/\n=xs.length
 |_=>False
def AS:XM X (.builtin "len") (λxs H Q=>∃x n,xs=[x]/\Fg X.K x H n/\Q (.int n) H):=by
 intro pins s B H xs C Q I r h;obtain⟨x,n,rfl,e,q⟩:=h;obtain⟨u,rfl,l⟩:=vals1 r;have E:=JA;cases x with
 |str y=>
  obtain⟨t,rfl⟩:=l;obtain⟨A,g⟩:=e;subst g;exact len_str (by lia) ⟨.int _,H,I.tok _,⟨_,rfl⟩,q⟩
 |byt y=>
  obtain⟨t,rfl⟩:=l;obtain⟨A,g⟩:=e;subst g;exact PySem.W.len_bytes (by lia) ⟨.int _,H,I.tok _,⟨_,rfl⟩,q⟩
 |ref p=>
  cases l
  have g:=e;rcases g with⟨xs,hx,g⟩|⟨xs,hx,g⟩
  ·subst g;obtain⟨w,o,v,z⟩:=I.list hx;have f:=o.length;exact Calls.call_len_list v.isList (by simp only[Qj];lia) ⟨.int xs.length,H,I.tok _,⟨_,by simp only[Qj];rw[f]⟩,q⟩
  ·subst g;obtain⟨w,o,v,z⟩:=I.tuple hx;have f:=o.length;exact len_tuple v (by simp only[Qj];lia) ⟨.int xs.length,H,I.tok _,⟨_,by simp only[Qj];rw[f]⟩,q⟩
 |_=>exact e.elim
end
structure T8 (h:Heap) (x dx C:Addr) (mA:ZX):Prop where
 obj:h.get? x=some (PySem.W.instObj C dx)
 ns:h.Ns1 dx mA
 ne:dx≠x
def HR{h:Heap}{dx}{mA}(n:h.Ns1 dx mA):∃od,h.get? dx=some od/\∀name,PySem.W.lookIn name od=some (mA name):=by
 obtain⟨o,r,s,g,hd,p,_,l⟩:=n;refine⟨o,g,λname=>?_⟩;have e:=l name;unfold nsFind findBy at e;unfold PySem.W.lookIn;rw[hd]
 dsimp only
 split
 ·grind
 ·rename_i q
  have a:r.toList.any (·.refKey)=false:=by
   rw[List.any_eq_false];intro y f;obtain⟨z,t,b⟩:=p y (Array.mem_toList_iff.mp f);simp[DictEntry.refKey,b]
  grind
def T8.look (I:T8 h x dx C b):∃od,PySem.W.InstAt h x (PySem.W.instObj C dx) C (some od)/\∀name,PySem.W.lookIn name od=some (b name):=
 let ⟨od,f,g⟩:=HR I.ns
 ⟨od,⟨I.obj,rfl,rfl,f⟩,g⟩
section
variable {prog:Program}{w:World}{A:Around}{E:ZY}{s:Shared}{K:ZT}{x dx C f:Addr}{mA:ZX}{name:Str}{v:Value}
def Zg0{Q}(X:K.In s.heap)(I:T8 s.heap x dx C mA)(l:PySem.W.plainGet K C name=true)(g:PySem.W.hasDictIn K C=true)(n:PySem.W.findIn K (.ref C) name=some none)(p:mA name=some v)(b:PySem.W.handedIn v=true)(h:Q v {s with toks:=s.toks+1}) :
  wpAny (model prog w) A (getAttr (.ref x) name expr) Q E s:=by
 obtain⟨o,J,q⟩:=I.look;exact PySem.W.get_value X J (J2 l).1 (PySem.W.findObj_own g n rfl<|by grind) b h
def Zls{Q}(X:K.In s.heap)(I:T8 s.heap x dx C mA)(b:PySem.W.plainGet K C name=true)(p:PySem.W.findIn K (.ref C) name=some (some<|.ref f))(n:PySem.W.isFn K (.ref f)=true)(l:mA name=none)(h:Q (.ref f,[.ref x]) s) :
  wpAny (model prog w) A (getMethod (.ref x) name q) Q E s:=by
 obtain⟨g,J,o⟩:=I.look;exact PySem.W.method_fn X J (J2 b).1 (J2 b).2 p (beq_iff_eq.mp n) (by show(PySem.W.lookIn name g).map (·.isSome)=some false;rw[o,l];rfl) h
def Zn0(X:K.In s.heap)(I:T8 s.heap x dx C mA)(z:PySem.W.findIn K (.ref C) "__setattr__"=some (some<|.builtin "object.__setattr__"))(B:PySem.W.plainOver K C=true)(u:PySem.W.takerIn K C name=some none)(G:PySem.W.hasDictIn K C=true)(hw:PySem.Within mA ns)(hsz:ns.length<=sizeLine)(h:∀n,T8 n x dx C (λy=>if y=name then some v else mA y)->Heap.SameBut dx s.heap n->Q () {s with heap:=n,toks:=s.toks+2}) :
  wpAny (model prog w) A (setAttr (.ref x) name v) Q E s:=by
 obtain⟨N,J,U⟩:=I.look;refine PySem.W.set_plain X J z (PySem.W.osa_open X J B u λb=>?_);obtain⟨Y,H,q⟩:=V9 G;refine Wu (Wy<|Wu<|Wu<|wpAny_loadPart I.obj<|Wu<|JD (J4 X H) ?_);rw[q];refine Wy (Wu<|Wy<|Wu ?_);refine wpAny_nsSet1 I.ns λn l g=>?_;obtain⟨T,L,M,o,p,r⟩:=l.count (PySem.Within.cons name v hw);refine Wu (wpAny_lookBehind o (by rw[p];exact pastItsLine_dict (W9 r<|by grind)) ?_);exact Wy (h _ ⟨(g.2 _<|Ne.symm I.ne).trans I.obj,l,I.ne⟩ g)
def Zcq{vs b}(X:K.In s.heap)(g:PySem.W.makesIn K C=true)(l:PySem.W.findIn K (.ref C) "__init__"=some (some<|.ref f))(n:PySem.W.typeIn K (.ref f)=some (.type "function"))
  (h:codeAny (model prog w) (A.under<|.builtin "type.__call__" ⟨.ref C::vs,b⟩) (.call (.ref f) ⟨.ref (s.heap.objs.size+1)::vs,b⟩) (PySem.W.InitBack (s.heap.objs.size+1) R)
   {s with heap:=(s.heap.push PySem.W.emptyDict).push (PySem.W.instObj C s.heap.objs.size)}) :
  codeAny (model prog w) A (.call (.ref C) ⟨vs,b⟩) R s:=PySem.W.make_core (PySem.W.makes_of X g) (Q3 X l) (λself=>PySem.W.bind_fn X self n) (.inl rfl) h
end
noncomputable def Kg(f:Str)(v:V):List (Str×V)->List (Str×V)
 |[]=>[(f,v)]
 |(g,x)::r=>if g=f then(g,v)::r else(g,x)::Kg f v r
theorem IR(f g:Str)(v:V):∀fs,(Kg f v fs).lookup g=if g=f then some v else fs.lookup g
 |[]=>by
  show List.lookup g [(f,v)]=_;by_cases h:g=f
  ·have b:=beq_iff_eq.mpr h;simp only[List.lookup,b,W5 h]
  ·have b:=Va.mpr h;simp only[List.lookup,b,W2 h]
 |(k,x)::r=>by
  rw[show Kg f v ((k,x)::r)=(if k=f then(k,v)::r else(k,x)::Kg f v r)from rfl]
  by_cases l:k=f
  ·rw[W5 l];by_cases h:g=k
   ·simp_all
   ·have b:=Va.mpr h;simp only[List.lookup,b,W2 (λe:g=f=>h (e.trans l.symm))]
  ·rw[W2 l];by_cases h:g=k
   ·simp_all
   ·have b:=Va.mpr h;simp only[List.lookup,b];exact(IR f g v r)
theorem AE(f:Str)(v:V):∀fs,f∈(Kg f v fs).map (·.1)/\∀g,g∈fs.map (·.1)->g∈(Kg f v fs).map (·.1)
 |[]=>⟨by simp[Kg],λg h=>by simp at h⟩
 |(k,x)::r=>by
  obtain⟨l,b⟩:=AE f v r;rw[show Kg f v ((k,x)::r)=(if k=f then(k,v)::r else(k,x)::Kg f v r)from rfl]
  by_cases n:k=f
  ·grind
  ·grind
theorem ER(f:Str)(v:V):∀fs,(Kg f v fs).length<=fs.length+1
 |[]=>by simp[Kg]
 |(k,x)::r=>by
  have b:=ER f v r;rw[show Kg f v ((k,x)::r)=(if k=f then(k,v)::r else(k,x)::Kg f v r)from rfl]
  by_cases g:k=f
  ·grind
  ·grind
def RelO.some_of (r:RelO (some v) o):∃u,o=some u/\RelV v u:=by
 cases o with
 |none=>trivial
 |some u=>exact⟨u,rfl,r⟩
def RelO.none_of (r:RelO none o):o=none:=by
 cases o with
 |none=>rfl
 |some u=>trivial
def Ma(r:RelV v u):PySem.W.handedIn u=true:=by
 cases v with
 |non|bl b|ref a|ty n=>cases r;rfl
 |_=>obtain⟨t,e⟩:=r;cases e;rfl
section
variable {P:Program}{w:World}{H H':Hp}{h h':Heap}{a C dx:Addr}{fs fs':List (Str×V)}
def Bv(g:HOk P w H h)(e:H a=some (.ins C dx fs)):∃b,T8 h a dx C b/\(∀f,RelO (fs.lookup f) (b f))/\PySem.Within b (fs.map (·.1))/\fs.length<=1000/\H dx=some (.own a):=by
 obtain⟨d,z,o,l,b,n,r,q⟩:=(g a _ e);exact⟨b,⟨l,n,o⟩,r,q,z,d⟩
end
structure Cls (K:ZT) (C:Addr):Prop where
 pg:PySem.W.plainGet K C Str.empty=true
 hd:PySem.W.hasDictIn K C=true
 po:PySem.W.plainOver K C=true
 sa:PySem.W.findIn K (.ref C) "__setattr__"=some (some<|.builtin "object.__setattr__")
def Cls.get {K C} (c:Cls K C) (f:Str):PySem.W.plainGet K C f=true:=c.pg
def NoAttr(K:ZT)(C:Addr)(f:Str):Prop:=PySem.W.findIn K (.ref C) f=some none
def NoAttr.taker {K C f} (n:NoAttr K C f):PySem.W.takerIn K C f=some none:=by
 unfold PySem.W.takerIn;rw[show PySem.W.findIn K (.ref C) f=some none from n]
 rfl
structure Xv (K:ZT) (C:Addr) (m:Str) (f:Addr):Prop where
 at_:PySem.W.findIn K (.ref C) m=some (some<|.ref f)
 fn:PySem.W.isFn K (.ref f)=true
 kp:PySem.W.keepIn K (.ref f)=true
section
variable {X:Cx}{pins:ZW}{σ:St}{H:Hp}{s:Shared}{a C dx:Addr}{fs:List (Str×V)}{f:Str}{v:V}{A:Around}{E:ZY}
def Zlz{Q}(I:Inv X pins σ H s)(e:H a=some (.ins C dx fs))(c:Cls X.K C)(n:NoAttr X.K C f)(l:fs.lookup f=some v)(h:∀u s',Inv X pins σ H s'->RelV v u->Q u s'):wpAny (model X.prog X.w) A (getAttr (.ref a) f b) Q E s:=by
 obtain⟨p,O,r,_,_,_⟩:=Bv I.hok e;obtain⟨u,o,g⟩:=RelO.some_of (by rw[←l];exact r f);exact Zg0 I.kIn O (c.get f) c.hd n o (Ma g) (h u _ (I.tok _) g)
def As{Q}(I:Inv X pins σ H s)(e:H a=some (.ins C dx fs))(c:Cls X.K C)(k:Xv X.K C m g)(l:fs.lookup m=none)(h:Q (.ref g,[.ref a]) s):wpAny (model X.prog X.w) A (getMethod (.ref a) m b) Q E s:=by
 obtain⟨n,O,r,_,_,_⟩:=Bv I.hok e;exact Zls I.kIn O (c.get m) k.at_ k.fn (RelO.none_of<|by rw[←l];exact r m) h
def Zhj(I:Inv X pins σ H s)(e:H a=some (.ins C dx fs))(c:Cls X.K C)(n:NoAttr X.K C f)(Y:fs.length<1000)(G:RelV y u)(h:∀s',Inv X pins σ (upd H a<|.ins C dx<|Kg f y fs) s'->Q () s'):wpAny (model X.prog X.w) A (setAttr (.ref a) f u) Q E s:=by
 obtain⟨J,O,r,p,_,x⟩:=Bv I.hok e;have L:(fs.map (·.1)).length<=sizeLine:=by rw[Wv,JA];lia
 refine Zn0 I.kIn O c.sa c.po n.taker c.hd p L λT l B=>h _ ?_;have hd:∃o,T.get? dx=some o:=let ⟨o,_,_,U,_⟩:=l.ns;⟨o,U⟩;refine I.write (by rw[e];exact True.intro) (.inr x) (λb q N z=>(B.2 b N).trans z) hd ?_;refine⟨by rw[Xa O.ne];exact x,?_,O.ne,l.obj,_,l.ns,λg=>?_,λg M=>?_⟩
 ·have:=ER f y fs;lia
 ·show RelO ((Kg f y fs).lookup g) (if g=f then some u else J g);rw[IR];by_cases q:g=f
  ·rw[W5 q,W5 q];exact G
  ·grind
 ·by_cases q:g=f
  ·rw[q];exact(AE f y fs).1
  ·refine(AE f y fs).2 g (p g λz=>M ?_)
   grind
def Inv.made (I:Inv X pins σ H s):Inv X pins σ (upd (upd H s.heap.objs.size<|.own (s.heap.objs.size+1)) (s.heap.objs.size+1)<|.ins C s.heap.objs.size [])
  {s with heap:=(s.heap.push PySem.W.emptyDict).push (PySem.W.instObj C s.heap.objs.size)}:=by
 have h:(s.heap.push PySem.W.emptyDict).get? s.heap.objs.size=some PySem.W.emptyDict:=WE s.heap rfl
 have r:((s.heap.push PySem.W.emptyDict).push (PySem.W.instObj C s.heap.objs.size)).get? (s.heap.objs.size+1)=some (PySem.W.instObj C s.heap.objs.size):=by
  have:=WE (s.heap.push PySem.W.emptyDict) (o:=PySem.W.instObj C s.heap.objs.size) rfl
  rwa[V5]at this
 have p:(s.heap.push PySem.W.emptyDict).Ns s.heap.objs.size (λ_=>none):=⟨PySem.W.emptyDict,#[],_,h,rfl,(λe n=>absurd n (by simp)),λ_=>rfl⟩;refine(I.laid (o:=.own (s.heap.objs.size+1)) (t':=s.toks) (λb u q=>Wz _ q) (W3 _) ⟨_,h⟩).laid (λb u q=>Wz _ q) (Vg<|V5 _ _) ?_;have g:s.heap.objs.size≠s.heap.objs.size+1:=WS (VA _);refine⟨by rw[Xa g,Xk],QM _,g,r,λ_=>none,(Heap.Ns1.of_empty p).at λo q=>Wz _ q,λ_=>True.intro,λy l=>absurd rfl l⟩
def Hh{env e f pos s Q}(g:attributeBase e f env (eval e env)=eval e env)(h:wpAny (model prog w) A (eval e env) (λo b=>wpAny (model prog w) A (getAttr o f true) Q E b) E s):wpAny (model prog w) A (eval (.Attribute e f pos) env) Q E s:=
 Attribute_any_ h (by rw[arm_eval_Attribute,g])
end
noncomputable def A0(K:ZT)(h:TE)(f:Str):TE:=λg H Q=>h g H λx b=>∃a C l fs v,x=.ref a/\b a=some (.ins C l fs)/\Cls K C/\NoAttr K C f/\fs.lookup f=some v/\Q v b
noncomputable def M1(K:ZT)(n l:TE)(f:Str):TS:=λD b H=>l b H λy o=>n b o λx h=>∃a C g fs,x=.ref a/\h a=some (.ins C g fs)/\Cls K C/\NoAttr K C f/\fs.length<1000/\
 D.nx b (upd h a<|.ins C g<|Kg f y fs)
section
variable {X:Cx}{o e value:Expr}{f:Str}{pos pos' tpos:Pos}{ta tv:TE}
def TC(r:PE X e ta)(w:attributeBase e f X.env (eval e X.env)=eval e X.env):PE X (.Attribute e f pos) (A0 X.K ta f):=by
 intro pins s b H Q I h;refine Hh w (thn (r pins s b H _ I h) ?_);rintro u J ⟨x,B,A,g,a,C,L,fs,v,ex,y,c,n,l,q⟩;subst ex;obtain rfl:=g;exact Zlz A y c n l λE G z p=>⟨v,B,z,p,q⟩
def FK(A:PE X o ta)(w:PE X value tv)(z:swapsWith value (some<|.Attribute o f pos') pos.line X.env=pure false):PS X (.Assign [.Attribute o f pos'] value pos) (M1 X.K ta tv f):=by
 intro pins s b H D I h;refine plainObj_wpAny_Assign_Attribute (thn (w pins s b H _ I h) ?_) z;rintro u g ⟨y,L,J,p,q⟩;refine thn (A pins g b L _ J q) ?_;rintro Q N ⟨x,U,G,r,a,C,T,fs,ex,B,c,n,l,v⟩;subst ex;obtain rfl:=r;exact Zhj G B c n l p λM E=>⟨b,_,E,v⟩
def Zon{m}{apos}{args}{pins}{s}{b:St}{H}{Q}{te}(B:PE X e te)(I:Inv X pins b H s)
  (h:te b H λx p=>∃a C dx fs g,x=.ref a/\p a=some (.ins C dx fs)/\Cls X.K C/\Xv X.K C m g/\fs.lookup m=none/\
   ∀n,Inv X pins b p n->wpAny (model X.prog X.w) X.A (callWith pos (.ref g) [.ref a] (backTo pos<|starEach args X.env)<|backToKw pos<|keywordEach [] X.env) Q X.xe n)
  (z:eval (.Call (.Attribute e m apos) args [] pos) X.env=(do
   let r ←eval e X.env
   standAt apos.atName
   let (f,first) ←holding [r] (getMethod r m G)
   callWith pos f first (backTo pos<|starEach args X.env) (backToKw pos<|keywordEach [] X.env))) :
  wpAny (model X.prog X.w) X.A (eval (.Call (.Attribute e m apos) args [] pos) X.env) Q X.xe s:=by
 refine Jm (thn (B pins s b H _ I h) ?_) z;rintro u n ⟨x,p,v,y,a,C,dx,fs,g,ex,E,c,k,l,q⟩;subst ex;obtain rfl:=y;exact As v E c k l (q n v)
end
section
variable {X:Cx}{pins:ZW}{σ:St}{H:Hp}{s:Shared}{A:Around}{E:ZY}{Q:ZY}{c:Value}{b:Bool}
inductive Kq (K:ZT) (H:Hp):V->Value->Prop where
 |non:Kq K H .non (.type "NoneType")
 |bl (x:Bool):Kq K H (.bl x) (.type "bool")
 |int (i:Int):Kq K H (.int i) (.type "int")
 |str (x:Str):Kq K H (.str x) (.type "str")
 |flt (x:UInt64):Kq K H (.flt x) (.type "float")
 |lst {a:Addr} {xs:List V} (e:H a=some (.lst xs)):Kq K H (.ref a) (.type "list")
 |frz {a:Addr} {o:Obj} {xs:List V} (e:H a=some (.frz o<|.lst xs)):Kq K H (.ref a) (.type "list")
 |tup {a:Addr} {xs:List V} (e:H a=some (.tup xs)):Kq K H (.ref a) (.type "tuple")
 |dK {a:Addr} {kvs:List (Key×V)} (e:H a=some (.dK kvs)):Kq K H (.ref a) (.type "dict")
 |dT {a:Addr} {kvs:List (List Key×V)} (e:H a=some (.dT kvs)):Kq K H (.ref a) (.type "dict")
 |ins {a C dx:Addr} {fs:List (Str×V)} (e:H a=some (.ins C dx fs)) (cl:Cls K C) (ha:PySem.W.findIn K (.ref C) "__class__"=some (some<|.builtin "object.__class__"))
   (hn:PySem.W.specialIn K (.builtin "object.__class__") "__get__"=some (some<|.builtin "getset_descriptor.__get__")) (htk:PySem.W.takesIn K (.builtin "object.__class__")=some true)
   (hm:PySem.W.mroIn K C (.type "object")=some true):Kq K H (.ref a) (.ref C)
def Zb2(I:Inv X pins σ H s)(f:RelV x u)(L:Kq X.K H x t)(e:PySem.W.kitOne X.K t c=some b)(h:∀M,Q (.bool b) {s with toks:=M}) :
  wpAny (model X.prog X.w) A (call (.builtin "isinstance") [u,c]) Q E s:=by
 cases L with
 |non=>cases f;exact Qw PySem.W.kitx_none I.kIn True.intro e (λz=>nomatch z) h
 |bl y=>cases f;exact Qw PySem.W.kitx_bool I.kIn True.intro e (λz=>nomatch z) h
 |int i=>obtain⟨t,q⟩:=f;cases q;exact Qw PySem.W.kitx_int I.kIn True.intro e (λz=>nomatch z) h
 |str y=>obtain⟨t,q⟩:=f;cases q;exact Qw PySem.W.kitx_str I.kIn True.intro e (λz=>nomatch z) h
 |flt y=>obtain⟨t,q⟩:=f;cases q;exact Qw PySem.W.kitx_float I.kIn True.intro e (λz=>nomatch z) h
 | @lst a xs g=>
  cases f
  obtain⟨_,_,n,_,l⟩:=(I.hok a _ g);exact Qw PySem.W.kitx_list I.kIn ⟨_,l,rfl⟩ e (λz=>nomatch z) h
 | @frz a ob xs g=>
  cases f
  obtain⟨_,_,_,n,_,l⟩:=(I.hok a _ g);exact Qw PySem.W.kitx_list I.kIn ⟨_,l,rfl⟩ e (λz=>nomatch z) h
 | @tup a xs g=>
  cases f
  obtain⟨_,_,_,p⟩:=(I.hok a _ g);obtain⟨o,l,r,_⟩:=p;exact Qw PySem.W.kitx_tuple I.kIn ⟨o,l,r⟩ e (λz=>nomatch z) h
 | @dK a v g=>
  cases f
  obtain⟨_,_,vs,_,p⟩:=(I.hok a _ g);obtain⟨o,Y,ep,l,r,_⟩:=p;exact Qw PySem.W.kitx_dict I.kIn ⟨o,l,r.1⟩ e (λz=>nomatch z) h
 | @dT a v g=>
  cases f
  obtain⟨_,_,xs,_,o,Y,ep,l,r,_⟩:=(I.hok a _ g);exact Qw PySem.W.kitx_dict I.kIn ⟨o,l,r.1⟩ e (λz=>nomatch z) h
 | @ins a C dx fs g G U N B T=>
  cases f
  obtain⟨mA,O,_⟩:=Bv I.hok g;obtain⟨od,J,_⟩:=O.look;exact Qw (PySem.W.kitx_own (G.get _) G.hd U N B T) I.kIn J e (λz=>nomatch z) h
end
structure Xh (k:Nat) (A:Around):Prop where
 hd:A.handled=none
 dp:A.depth+3*k+5<recursionLimit
 un:A.units+16*k+200<cLine
 gd:A.guards=some []
def Xh.mono {j k A} (r:Xh k A) (h:j<=k):Xh j A:=⟨r.hd,by have:=r.dp;lia,by have:=r.un;lia,r.gd⟩
def Xh.deeper (r:Xh (k+1) A) (env:Env):Xh k (A.deeper env):=
 ⟨r.hd,by have:=r.dp;show A.depth+1+3*k+5<_;lia,by have:=r.un;show A.units+3+16*k+200<_;lia,r.gd⟩
def Zk6{A:Around}{C}{us}{kw}:(A.under<|.builtin "type.__call__" ⟨.ref C::us,kw⟩).depth=A.depth+1:=by
 rfl
def Zgx{A:Around}{C}{us}{kw}:(A.under<|.builtin "type.__call__" ⟨.ref C::us,kw⟩).units=A.units+1:=rfl
def Zd4{A:Around}{C:Addr}{us:Yb}{b:List (Str×Value)}(h:A.guards=some []):(A.under<|.builtin "type.__call__" ⟨.ref C::us,b⟩).guards=some []:=by
 simpa [Around.under,Code.guards,Code.isGuard,guardIds,pushGuards]using h
def Xh.make (r:Xh (k+1) A) (C:Addr) (us:Yb) (b:List (Str×Value)):Xh k (A.under<|.builtin "type.__call__" ⟨.ref C::us,b⟩):=
 ⟨r.hd,by have:=r.dp;rw[Zk6];lia,by have:=r.un;rw[Zgx];lia,Zd4 r.gd⟩
def Xh.depth (r:Xh k A):A.depth<recursionLimit:=by have:=r.dp;lia
def Xh.units (r:Xh k A):A.units+64<cLine:=by have:=r.un;lia
def Xh.units0 (r:Xh k A):A.units<cLine:=by have:=r.un;lia
noncomputable def Kt:TA:=λ_ H Q=>Q [] H
noncomputable def XN(g:TE)(f:TA):TA:=λb H Q=>g b H λx l=>f b l λxs h=>Q (x::xs) h
section
variable {X:Cx}{e:Expr}{es:Yd}{te:TE}{t:TA}{pos:Pos}
def XA:PA X [] Kt:=λ_ _ _ _ H Q I h=>Calls.spliced_nil ⟨[],H,I,.nil,h⟩
def XB(r:PE X e te)(q:PA X es t)(p:autoParam (starEach (e::es) X.env=(false,eval e X.env)::starEach es X.env) au_0):PA X (e::es) (XN te t):=by
 intro pos pins s b H Q I h;rw[p];refine Calls.spliced_cons (thn (r pins s b H _ I h) ?_);rintro u f ⟨x,z,w,l,o⟩;exact thn (q pos pins f b z _ w o) λA B ⟨xs,y,v,g,n⟩=>⟨x::xs,y,v,.cons l g,n⟩
noncomputable def Ic(t:TA):TE:=λf H Q=>t f H λxs b=>xs.length<=sizeLine/\∀p,b p=none->Q (.ref p) (upd b p<|.tup xs)
noncomputable def LA(t:TA):TE:=λf H Q=>t f H λxs b=>xs.length<=sizeLine/\∀p,b p=none->Q (.ref p) (upd b p<|.lst xs)
def Th(h:PA X es t):PE X (.Tuple es p pos) (Ic t):=by
 intro pins s l H Q I hq;refine wpAny_Tuple_spliced (thn (h pos pins s l H _ I hq) ?_);rintro n f ⟨xs,o,g,r,z,q⟩;refine⟨by rw[←r.length];exact z,?_⟩;refine⟨.ref f.heap.objs.size,upd o f.heap.objs.size (.tup xs),g.laid (λb u e=>Wz _ e) (W3 _) ?_,rfl,q _ (g.hok.fresh<|W3 _)⟩;exact⟨z,n,r,⟨_,WE _ rfl,rfl,_,rfl⟩⟩
def KM(h:PA X es t):PE X (.List es pos) (LA t):=by
 intro pins s l H Q I hq;refine wpAny_List_spliced (thn (h pos pins s l H _ I hq) ?_);rintro n f ⟨xs,o,g,r,z,q⟩;refine⟨by rw[←r.length];exact z,?_⟩;refine⟨.ref f.heap.objs.size,upd o f.heap.objs.size (.lst xs),g.laid (λb u e=>Wz _ e) (W3 _) ?_,rfl,q _ (g.hok.fresh<|W3 _)⟩;exact⟨z,n,0,r,WE _ rfl⟩
end
abbrev Sp:=List V->Hp->VK->XK->Prop
abbrev CXT:=List Env->Hp->Shared->XK->ZY
structure Nn (P:Program) (w:World) (K:ZT) (mg:ZX) (base:Heap) (A:Around) (outer:List Env) (s:Shared) (H:Hp):Prop where
 frames:A.frames=some outer
 mod:Mod K mg base
 bs:∀b o,base.get? b=some o->s.heap.get? b=some o/\H b=none
 bsz:base.objs.size<=s.heap.objs.size
 funs:s.heap.FunFrames base outer
 frf:∀b∈frs outer,H b=none
 hok:HOk P w H s.heap
 bare:AllBare s.gens
def CE(outer:List Env)(P:Program)(w:World)(H:Hp)(s:Shared)(Q:VK)(u:Value)(s':Shared):Prop:=
 ∃v b,s'.os=s.os/\AllBare s'.gens/\Un (frs outer) [] H b s.heap s'.heap/\HOk P w b s'.heap/\RelV v u/\Q v b
def CR(CX:CXT)(outer:List Env)(P:Program)(w:World)(H:Hp)(s:Shared)(Q:VK)(E:XK)(r:Result)(s':Shared):Prop:=
 match r with
 | .ok (.ret u)=>CE outer P w H s Q u s'
 | .ok _=>False
 | .error e=>CX outer H s E e s'
structure Ki (P:Program) (w:World) (K:ZT) (mg:ZX) (base:Heap) (CX:CXT) (k:Nat) (f:Addr) (fd:FuncData) (ps:Yc) (sp:Sp):Prop where
 len:∀vs H Q E,sp vs H Q E->vs.length=ps.length
 run:∀(A:Around) (outer:List Env) (s:Shared) (H:Hp) (args:Args) (us:Yb) (vs:List V) (Q:VK) (E:XK),Xh k A->Nn P w K mg base A outer s H->BindsTo s fd args (ps.zip us)->Vals vs us->sp vs H Q E->
  codeAny (model P w) A (.call (.ref f) args) (CR CX outer P w H s Q E) s
def Ki.imp {K g base CX k f l ps sp b} (F:Ki P w K g base CX k f l ps sp)
  (h:∀vs H Q E,b vs H Q E->sp vs H Q E):Ki P w K g base CX k f l ps b:=
 ⟨λvs H Q E q=>F.len vs H Q E (h _ _ _ _ q),λA outer s H args n vs Q E r u v o p=>F.run A outer s H args n vs Q E r u v o (h _ _ _ _ p)⟩
def Nn.make {K b base A outer s H} (e:Nn P w K b base A outer s H) (C:Addr) (us:Yb) (f:List (Str×Value)) :
  Nn P w K b base (A.under<|.builtin "type.__call__" ⟨.ref C::us,f⟩) outer s H:=⟨by first|exact e.frames|(simpa [Around.under,Code.envs,Code.isFrame,pushEnvs]using e.frames),e.mod,e.bs,e.bsz,e.funs,e.frf,e.hok,e.bare⟩
section
variable {X:Cx}{pins:ZW}{σ:St}{H:Hp}{s s':Shared}
def Inv.env0 (I:Inv X pins σ H s):Nn X.prog X.w X.K X.mg X.base X.A X.stack s H:=
 ⟨I.ok.frames,I.ok.mod,I.bs,W9 I.ok.bsz I.sz,I.stack,I.stkFree,I.hok,I.bare⟩
def Inv.after (I:Inv X pins σ H s) (h:CE X.stack X.prog X.w H s Q u s'):EP X pins σ Q u s':=by
 obtain⟨v,n,os,bare,un,f,r,q⟩:=h;obtain⟨o,g,d,t,l⟩:=s';obtain rfl:=os;exact⟨v,n,I.call un f bare (λb z=>absurd z (by simp)),r,q⟩
end
noncomputable def NI(sp:Sp)(b:List V)(E:XK)(t:TA):TE:=λf H Q=>t f H λg h=>sp (g++b) h Q E
noncomputable def Nk(C:Addr)(m:Str)(sp:Sp)(b:List V)(E:XK)(l:TE)(t:TA):TE:=λf H Q=>l f H λx g=>∃a n fs,x=.ref a/\g a=some (.ins C n fs)/\fs.lookup m=none/\
 t f g λh o=>sp (x::(h++b)) o Q E
noncomputable def AV(C:Addr)(sp:Sp)(f:List V)(E:XK)(t:TA):TE:=λh H Q=>t h H λl g=>∀x b,g x=none->g b=none->b≠x->
 sp (.ref x::(l++f)) (upd (upd g b<|.own x) x<|.ins C b []) (λv n=>v=.non/\Q (.ref x) n) E
def Binds(K:ZT)(f:FuncData)(ps:Yc)(ds:Yb):Prop:=
 ∀(s:Shared) (b:Yb),K.In s.heap->(b++ds).length=ps.length->BindsTo s f ⟨b,[]⟩ (ps.zip (b++ds))
def Binds.all {K f ps} (h:∀us,us.length=ps.length->bindArgs f ⟨us,[]⟩=pure (ps.zip us)):Binds K f ps []:=λs us _ b=>by
 rw[Qn]at b ⊢;exact .of_eq (h us b)
def K7(CX:CXT)(X:Cx)(E:XK):Prop:=∀(pins:ZW) (f:St) (H:Hp) (s:Shared) (e:Value) (b:Shared),Inv X pins f H s->CX X.stack H s E e b->X.xe e b
section
variable {X:Cx}{CX:CXT}{k:Nat}{f C:Addr}{fd:FuncData}{ps:Yc}{sp:Sp}{dvs:List V}{ds:Yb}{E:XK}{x m:Str}{p pos apos:Pos}{e o:Expr}{es:Yd}{ta:TE}{t:TA}
def CL{b:St}{H}{s}{Q}{us}{vs}(F:Ki X.prog X.w X.K X.mg X.base CX k f fd ps sp)(n:Xh k X.A)(v:Binds X.K fd ps ds)(hd:Vals dvs ds)(hx:K7 CX X E)(I:Inv X pins b H s)(r:Vals vs us)(h:sp (vs++dvs) H Q E):wpAny (model X.prog X.w) X.A (call (.ref f) us) (EP X pins b Q) X.xe s:=by
 have g:=r.append hd;have q:(us++ds).length=ps.length:=by rw[←g.length];exact F.len _ _ _ _ h
 refine Jv (Vh (F.run X.A X.stack s H ⟨us,[]⟩ (us++ds) (vs++dvs) Q E n I.env0 (v s us I.kIn q) g h) λr l hq=>?_);cases r with
 |error e=>exact hx pins b H s e l I hq
 |ok y=>
  cases y with
  |ret u=>exact I.after hq
  |cont=>exact False.elim hq
  |_=>trivial
def Zmd(F:Ki X.prog X.w X.K X.mg X.base CX k f fd ps sp)(u:Xh k X.A)(z:Gl X x)(v:X.mg x=some (.ref f))(y:PySem.W.keepIn X.K (.ref f)=true)(G:Binds X.K fd ps ds)(hd:Vals dvs ds)(hx:K7 CX X E)(J:PA X (e::es) t)(g:autoParam ((x==("__debug__" : Str))=false) au_1)(B:autoParam (starEach (e::es) X.env=(false,eval e X.env)::starEach es X.env) au_0)(b:autoParam ((backTo pos<|starEach es X.env).any (·.1)=false) au_0) :
  PE X (.Call (.Name x p) (e::es) [] pos) (NI sp dvs E t):=by
 intro pins s n H Q I h;refine Vy (Ng I z v ?_ g);refine VL I.ok.mod.kin y (thn (J pos pins s n H _ I h) ?_) B b;rintro M N ⟨L,T,l,r,q⟩;refine⟨l.kIn,?_⟩;exact CL F u G hd hx l r q
def Ze0{pl}(T:PE X o ta)(c:Cls X.K C)(y:Xv X.K C m f)(F:Ki X.prog X.w X.K X.mg X.base CX k f fd ps sp)(N:Xh k X.A)(U:Binds X.K fd ps ds)(hd:Vals dvs ds)(hx:K7 CX X E)(Y:PA X (e::es) t)(b:autoParam (starEach (e::es) X.env=(false,eval e X.env)::starEach es X.env) au_0)(g:autoParam ((backTo pos<|starEach es X.env).any (·.1)=false) au_0)
  (M:autoParam (eval (.Call (.Attribute o m apos) (e::es) [] pos) X.env=(do
   let v ←eval o X.env
   standAt apos.atName
   let (f,first) ←holding [v] (getMethod v m pl)
   callWith pos f first (backTo pos<|starEach (e::es) X.env) (backToKw pos<|keywordEach [] X.env))) au_0) :
  PE X (.Call (.Attribute o m apos) (e::es) [] pos) (Nk C m sp dvs E ta t):=by
 intro pins s n H Q I h;refine Jm (thn (T pins s n H _ I h) ?_) M;rintro u G ⟨x,H1,B,J,a,dx,fs,ex,ea,l,q⟩;subst ex;obtain rfl:=J;refine As B ea c y l ?_;refine VL I.ok.mod.kin y.kp (thn (Y pos pins G n H1 _ B q) ?_) b g;rintro us s2 ⟨vs,H2,z,r,L⟩;refine⟨z.kIn,?_⟩;exact CL (vs:=.ref a::vs) F N U hd hx z (.cons rfl r) L
def Zmh(B:PE X o ta)(c:Cls X.K C)(n:Xv X.K C m f)(F:Ki X.prog X.w X.K X.mg X.base CX k f fd ps sp)(z:Xh k X.A)(G:Binds X.K fd ps ds)(hd:Vals dvs ds)(hx:K7 CX X E)
  (y:autoParam (eval (.Call (.Attribute o m apos) [] [] pos) X.env=(do
   let g ←eval o X.env
   standAt apos.atName
   let (f,first) ←holding [g] (getMethod g m M)
   callWith pos f first (backTo pos<|starEach [] X.env) (backToKw pos<|keywordEach [] X.env))) au_0) :
  PE X (.Call (.Attribute o m apos) [] [] pos) (Nk C m sp dvs E ta Kt):=by
 intro pins s r H Q I h;refine Jm (thn (B pins s r H _ I h) ?_) y;rintro u L ⟨x,T,b,v,a,N,fs,ex,J,l,q⟩;subst ex;obtain rfl:=v;refine As b J c n l ?_;exact PySem.W.callWith_K0 b.kIn n.kp (CL (vs:=[.ref a]) F z G hd hx b (.cons rfl .nil) q)
structure Mk (K:ZT) (C f:Addr):Prop where
 makes:PySem.W.makesIn K C=true
 init:PySem.W.findIn K (.ref C) "__init__"=some (some<|.ref f)
 fn:PySem.W.isFn K (.ref f)=true
 kp:PySem.W.keepIn K (.ref C)=true
def Zeh{l:St}{H}{s}{Q}{us}{vs}(M:Mk X.K C f)(F:Ki X.prog X.w X.K X.mg X.base CX k f fd ps sp)(B:Xh (k+1) X.A)(J:Binds X.K fd ps ds)(hd:Vals dvs ds)(hx:K7 CX X E)(I:Inv X pins l H s)(r:Vals vs us)(h:∀x dx,H x=none->H dx=none->dx≠x->sp (.ref x::(vs++dvs)) (upd (upd H dx<|.own x) x<|.ins C dx []) (λv U=>v=.non/\Q (.ref x) U) E) :
  wpAny (model X.prog X.w) X.A (call (.ref C) us) (EP X pins l Q) X.xe s:=by
 have hq:=h (s.heap.objs.size+1) s.heap.objs.size (I.hok.fresh<|Ve _) (I.hok.fresh<|W3 _) (WS<|VA _);have g:=Inv.made (C:=C) I;have n:Vals (V.ref (s.heap.objs.size+1)::(vs++dvs)) (Value.ref (s.heap.objs.size+1)::(us++ds)):=.cons rfl (r.append hd)
 have G:(Value.ref (s.heap.objs.size+1)::us++ds).length=ps.length:=by
  have e:=n.length;rw[F.len _ _ _ _ hq]at e
  grind
 refine Jv (Zcq I.kIn M.makes M.init (beq_iff_eq.mp M.fn) (Vh (F.run _ X.stack _ _ ⟨Value.ref (s.heap.objs.size+1)::us,[]⟩ (Value.ref (s.heap.objs.size+1)::(us++ds)) _ _ E (B.make C us [])
  (g.env0.make C us []) (J _ (Value.ref (s.heap.objs.size+1)::us) g.kIn G) n hq) λr q b=>?_))
 cases r with
 |error e=>exact hx pins l _ _ e q g b
 |ok L=>
  cases L with
  |ret u=>
   obtain⟨v,Y,T,y,N,z⟩:=g.after b;subst N;exact⟨y,⟨V.ref (s.heap.objs.size+1),Y,T,rfl,z⟩⟩
  |_=>exact False.elim b
def Zjt(M:Mk X.K C f)(F:Ki X.prog X.w X.K X.mg X.base CX k f fd ps sp)(u:Xh (k+1) X.A)(y:Gl X x)(v:X.mg x=some (.ref C))(B:Binds X.K fd ps ds)(hd:Vals dvs ds)(hx:K7 CX X E)(G:PA X (e::es) t)(g:autoParam ((x==("__debug__" : Str))=false) au_1)(z:autoParam (starEach (e::es) X.env=(false,eval e X.env)::starEach es X.env) au_0)(b:autoParam ((backTo pos<|starEach es X.env).any (·.1)=false) au_0) :
  PE X (.Call (.Name x p) (e::es) [] pos) (AV C sp dvs E t):=by
 intro pins s n H Q I h;refine Vy (Ng I y v ?_ g);refine VL I.ok.mod.kin M.kp (thn (G pos pins s n H _ I h) ?_) z b;rintro L N ⟨J,T,l,r,q⟩;refine⟨l.kIn,?_⟩;exact Zeh M F u B hd hx l r q
end
structure UZ (N P:Yc) (sc:Scope):Prop where
 kind:sc.kind=.function
 co:sc.isCoroutine=false
 gen:sc.isGenerator=false
 nd:N.Nodup
 pre:N.take P.length=P
 par:∀x∈P,sc.names.lookup x=some .local\/sc.names.lookup x=some .cell
 nofree:∀y∈sc.names,y.2≠.free
theorem EX{kindOf x}:∀{binds}{m:ZX},(∀v,(x,v)∉binds)->bindL kindOf binds m x=m x
 |[],_,_=>rfl
 |(n,v)::r,m,h=>by
  unfold bindL;rw[EX λw hw=>h w (WT _ hw)];split
  ·grind
  ·rfl
theorem My{kindOf x}:∀{binds}{m:ZX},(∀v,(x,v)∉binds)->bindC kindOf binds m x=m x
 |[],_,_=>rfl
 |(n,v)::r,m,h=>by
  unfold bindC;rw[My λw hw=>h w (WT _ hw)];split
  ·rfl
  ·grind
theorem DT{kindOf}{x}{v}:∀{P:Yc}{vs}{i:Nat}{m:ZX},P.Nodup->P[i]?=some x->vs[i]?=some v->kindOf x=some .local->
  bindL kindOf (P.zip vs) m x=some v
 |[],_,_,_,_,h,_,_|_::_,[],_,_,_,_,h,_=>by simp at h
 |p::P,w::vs,0,m,b,l,g,f=>by
  simp at l g;subst l;subst g;show bindL kindOf ((p,w)::P.zip vs) m p=_;unfold bindL;rw[EX λv n=>(Ql.mp b).1 (List.of_mem_zip n).1,W5 f];simp
 |p::P,w::vs,i+1,m,b,l,g,f=>by
  unfold bindL;exact DT (Ql.mp b).2 (by trivial) (by grind) f
theorem MH{kindOf}{x}{v}:∀{P:Yc}{vs}{i:Nat}{m:ZX},P.Nodup->P[i]?=some x->vs[i]?=some v->kindOf x≠some .local->
  bindC kindOf (P.zip vs) m x=some v
 |[],_,_,_,_,h,_,_|_::_,[],_,_,_,_,h,_=>by simp at h
 |p::P,w::vs,0,m,b,l,g,f=>by
  simp at l g;subst l;subst g;show bindC kindOf ((p,w)::P.zip vs) m p=_;unfold bindC;rw[My λv n=>(Ql.mp b).1 (List.of_mem_zip n).1,W2 f];simp
 |p::P,w::vs,i+1,m,b,l,g,f=>by
  unfold bindC;exact MH (Ql.mp b).2 (by trivial) (by grind) f
noncomputable def start(N:Yc)(vs:List V):St:=vs.map some++List.replicate (N.length-vs.length) none
noncomputable def X6(CX:CXT)(P:Program)(w:World)(K:ZT)(mg:ZX)(base:Heap)(N:Yc)(qual:Str)(scope:Scope)(f:Addr)(cd:Value)(A:Around)(outer:List Env)(s:Shared)(H:Hp)(E:XK):Cx where
 prog:=P
 w:=w
 K:=K
 mg:=mg
 base:=base
 A:=A.deeper (envOfC qual scope s.heap.objs.size f cd)
 N:=N
 s₀:=s
 H₀:=H
 env:=envOfC qual scope s.heap.objs.size f cd
 outer:=outer
 stack:=envOfC qual scope s.heap.objs.size f cd::outer
 ex:=[]
 calm:=true
 fn:=λ_=>true
 pn:=[]
 xe:=λe s'=>wpAny (model P w) (A.deeper<|envOfC qual scope s.heap.objs.size f cd) (leaving (envOfC qual scope s.heap.objs.size f cd) e) (λ_ s''=>CX outer H s E e s'') (λe' s''=>CX outer H s E e' s'') s'
def Oo{b:Scope}{n}{x}(h:b.names.lookup x=some .cell):∃c,(cellsFrom n b.names []).lookup x=some c:=by
 exact Option.isSome_iff_exists.mp (PySem.W.cellsFrom_some b.names n []<|.inl h)
def Zmq{P}{w}{K}{mg}{base}{N ps}{qual}{scope}{f}{cd}{A}{outer}{s L}{H}{E}{us}{vs}(S:UZ N ps scope)(hd:A.handled=none)(l:Nn P w K mg base A outer s H)(hl:vs.length=ps.length)(r:Vals vs us)(x:InCallC s s.heap.objs.size (bindL (envOfC qual scope s.heap.objs.size f cd).kindOf (ps.zip us) λ_=>none) (cellsFrom (s.heap.objs.size+1) scope.names []) (bindC (envOfC qual scope s.heap.objs.size f cd).kindOf (ps.zip us) λ_=>none) L) :
  Inv (X6 CX P w K mg base N qual scope f cd A outer s H E) [] (start N vs) H L:=by
 have U:ps.length<=N.length:=by have:=Qs List.length S.pre;rw[WG]at this;lia
 obtain⟨J,tk,rfl,Q⟩:=x.done;have n:∀b,b∉(X6 CX P w K mg base N qual scope f cd A outer s H E).ex:=λb z=>absurd (show b∈([]:List Addr)from z) (by simp)
 refine⟨⟨l.mod,S.kind,rfl,rfl,W3 _,λy z c J g=>?_,λy o=>?_,λy c _ h=>?_,λ_=>hd,Around.frames_deeper l.frames,.inr ⟨rfl,rfl⟩,λb z=>absurd z (n b),l.bs,l.bsz,λb _ _=>n b,λb z=>absurd z (n b),l.funs,l.frf⟩,
  rfl,l.bare,Un.kept Q,⟨_,x.toInCall.ns,λi y v J g h3=>?_⟩,λy c h=>⟨_,x.cell y c h⟩,l.hok.fresh (W3 _),λy c h=>?_,λp C=>absurd (show p∈([]:ZW)from C) (by simp),l.hok.kept Q,?_⟩
 ·exact name_of_addr x.apart (Vb J) (Vb g)
 ·have o:=o;rcases o with o|o
  ·exact Oo o
  ·exact absurd rfl (S.nofree _<|Vb o)
 ·exact VJ (x.above y c<|Vb h)
 ·have G:i<vs.length:=by
   unfold start at g;by_cases G:i<vs.length
   ·exact G
   ·rw[Q5 (by simpa using G)]at g;rw[VU]at g;split at g<;>cases g
  have Y:vs[i]?=some v:=by
   unfold start at g;rw[Qt (by simpa using G),WH]at g;cases e:vs[i]? with
   |none=>rw[e]at g;cases g
   |some a=>rw[e]at g;cases g;rfl
  obtain⟨u,M,T⟩:=r.get Y
  have C:ps[i]?=some y:=by
   rw[←S.pre,QN (by lia)];exact J
  have B:ps.Nodup:=by rw[←S.pre];exact S.nd.sublist (QT _ _)
  refine⟨u,T,?_⟩;rcases S.par y (Qa C)with k|k
  ·exact .inl ⟨k,DT B C M k⟩
  ·obtain⟨c,e⟩:=Oo k;refine .inr ⟨.inl k,c,e,?_⟩;have q:=x.cell y c e;rw[MH B C M (by show scope.names.lookup y≠_;rw[k];decide)]at q;exact q
 ·exact l.hok.fresh (VJ<|x.above y c<|Vb h)
 ·unfold start;show _=N.length;rw[WA,Wv,List.length_replicate];lia
def A9{K M base k f name qual params body scope dV kV L pm g ct oc an od Y N ps sp}(lk:K.lookup f=some ⟨oc,od,.func (PySem.W.fnOf name qual params body scope dV kV L pm an g ct),Y⟩)(hcd:PySem.W.codeIn K g qual=true)(S:UZ N ps scope)(len:∀vs H Q E,sp vs H Q E->vs.length=ps.length)
  (p:∀A outer s H vs Q E,Xh k (A.deeper<|envOfC qual scope s.heap.objs.size f g)->sp vs H Q E->
   ∃t,PSs (X6 CX P w K M base N qual scope f g A outer s H E) body t/\t {nx:=λ_ H'=>Q .non H',rt:=Q} (start N vs) H) :
  Ki P w K M base CX (k+1) f (PySem.W.fnOf name qual params body scope dV kV L pm an g ct) ps sp:=by
 refine⟨len,λA outer s H args us vs Q E hr G hb r z=>?_⟩;have KX:=G.mod.kin.keeps λb o e=>(G.bs b o e).1
 have l:∀y∈ps.zip us,scope.names.lookup y.1=some .local\/(scope.names.lookup y.1=some .cell/\((cellsFrom (s.heap.objs.size+1) scope.names []).lookup y.1).isSome=true):=λ⟨n,v⟩ hy=>by
  rcases S.par n (List.of_mem_zip hy).1 with q|q
  ·exact .inl q
  ·exact .inr ⟨q,PySem.W.cellsFrom_some _ _ _ (.inl q)⟩
 refine codeAny_call_function hr.depth (KX _ _ lk) rfl S.co S.gen rfl (PySem.W.codeRec_of KX hcd) (hb _ _ _ _ ?_);refine wpAny_newFunctionEnv_cells S.kind l λenv he s1 x=>?_;subst he;refine⟨(G.mod.nolimit.keeps λb o e=>(G.bs b o e).1).keeps x.toInCall.keep,codeAny_func ?_⟩;obtain⟨t,ht,hq⟩:=p A outer s H vs Q E (hr.deeper _) z;have I:Inv (X6 CX P w K M base N qual scope f g A outer s H E) [] (start N vs) H s1:=Zmq S hr.hd G (len _ _ _ _ z) r x;refine Qh (ht [] s1 (start N vs) H _ I hq) (λfl T B=>?_) λe T B=>B
 have C:∀{h:St} {H':Hp} {v:V} {u:Value},Inv (X6 CX P w K M base N qual scope f g A outer s H E) [] h H' T->RelV v u->Q v H'->CE outer P w H s Q u T:=
  λ{h H' v u} J U q=>⟨v,H',J.os,J.bare,J.base,J.hok,U,q⟩
 cases fl with
 |ret u=>
  obtain⟨v,h,H',J,U,q⟩:=B;exact C J U q
 |next=>
  obtain⟨h,H',J,q⟩:=B;exact C (v:=V.non) J rfl q
 |_=>
  obtain⟨_,_,_,q⟩:=B;exact False.elim q
section
variable {X:Cx}{x:Str}{p pos:Pos}{e:Expr}{es:Yd}{t:TA}{id T:String}{r:List V->Hp->VK->Prop}
noncomputable def tCB(r:List V->Hp->VK->Prop)(t:TA):TE:=λb H Q=>t b H λf g=>r f g Q
def XF(B:XM X (.builtin id) r)(z:Gl X x)(y:X.mg x=none)(v:bootBuiltins x=some (.builtin id))(C:PA X (e::es) t)(w:autoParam (x≠"__name__") au_1)(f:autoParam ((x==("__debug__" : Str))=false) au_1)(A:autoParam (starEach (e::es) X.env=(false,eval e X.env)::starEach es X.env) au_0)(b:autoParam ((backTo pos<|starEach es X.env).any (·.1)=false) au_0):PE X (.Call (.Name x p) (e::es) [] pos) (tCB r t):=by
 intro pins s g H Q I h;refine Vy (NX I z y v ?_ w f);exact PyProof.Rows.callWith_builtin1 (thn (C pos pins s g H _ I h) λn o ⟨l,G,E,q,u⟩=>B pins o g G l n Q E q u) A b
def KO(B:XM X (.type T) r)(z:Gl X x)(y:X.mg x=none)(v:bootBuiltins x=some (.type T))(C:PA X (e::es) t)(w:autoParam (x≠"__name__") au_1)(f:autoParam ((x==("__debug__" : Str))=false) au_1)(A:autoParam (starEach (e::es) X.env=(false,eval e X.env)::starEach es X.env) au_0)(b:autoParam ((backTo pos<|starEach es X.env).any (·.1)=false) au_0):PE X (.Call (.Name x p) (e::es) [] pos) (tCB r t):=by
 intro pins s g H Q I h;refine Vy (NX I z y v ?_ w f);exact Vf (thn (C pos pins s g H _ I h) λn o ⟨l,G,E,q,u⟩=>B pins o g G l n Q E q u) A b
end
end L2
namespace HT
open PySem PyProof.Rows
section
variable {prog:Program}{w:World}{A:Around}{E:ZY}{s:Shared}
def Zn1(z:IsTup s.heap t vs.toArray)(B:IsTup s.heap b g.toArray)(u:vs≠[])(C:g=[]->Q (.ref t) s)(G:g≠[]->Q (.ref s.heap.objs.size) {s with heap:=s.heap.push {cls:=.type "tuple",data:=.seq (vs++g).toArray}})(hsz:vs.length+g.length<=sizeLine):wpAny (model prog w) A (binaryOp .Add (.ref t)<|.ref b) Q E s:=by
 obtain⟨⟨cls,x,data,sl⟩,q,v,n,hd⟩:=id z;obtain⟨⟨y,p,data2,h⟩,f,o,r,l⟩:=id B;simp only at v hd o l;subst v hd o l;by_cases hw:g=[]
 ·exact concat_meets ⟨_,q,rfl⟩ ⟨_,f,rfl⟩ noFill_tuple_add seq_tuple_add Jf VW (VM _ _)
   (tuple_addW1 t b vs.toArray g.toArray n r x p sl h (by simpa using u)<|by simp[hw]) ⟨q,f,C hw⟩
 ·refine concat_meets ⟨_,q,rfl⟩ ⟨_,f,rfl⟩ noFill_tuple_add seq_tuple_add Jf VW (VM _ _)
   (tuple_addW2 t b vs.toArray g.toArray n r x p sl h (by simpa using u) (by simpa using hw)<|by omega) ⟨q,f,?_⟩
  grind
noncomputable def sIx(n d:Nat):Option Int->Nat
 |none=>d
 |some v=>if v<0 then(v+(n:Int)).toNat else min v.toNat n
def M8(n d:Nat):sIx n d none=d:=rfl
def Mp(n d k:Nat):sIx n d (some (k:Int))=min k n:=rfl
end
end HT
namespace L2
open PySem PySem.Spec PyProof.Rows
abbrev TO:=St->Hp->(Option Int->Hp->Prop)->Prop
def PO(X:Cx)(e:Option Expr)(t:TO):Prop:=
 ∀(pins:ZW) (s:Shared) (b:St) (H:Hp) (Q:Option Int->Hp->Prop),Inv X pins b H s->t b H Q->
  wpAny (model X.prog X.w) X.A (evalPart e X.env) (λu g=>∃o f,Inv X pins b f g/\IsPart u o/\Q o f) X.xe s
noncomputable def Oe:TO:=λ_ H Q=>Q none H
noncomputable def EZ(t:TE):TO:=λb H Q=>t b H λx f=>∃i,x=.int i/\Q (some i) f
def Fk:∀{us:Yb},Vals (ns.map V.int) us->IntsAre us ns:=by
 induction ns with
 |nil=>intro us r;rw[List.map_nil]at r;cases r;exact .nil
 |cons n ns g=>
  intro us r;cases r with
  |cons f b=>
   obtain⟨t,e⟩:=f;subst e;exact .cons n t (g b)
section
variable {X:Cx}{e:Expr}{te:TE}{lo hi:Option Expr}{tl th:TO}{pos p2:Pos}
def Zb7:PO X none Oe:=by
 intro pins s b H Q I h;exact Wy ⟨none,H,I,.none,h⟩
def Zdq(h:PE X e te):PO X (some e) (EZ te):=by
 intro pins s b H Q I hw;refine thn (h pins s b H _ I hw) ?_;rintro u o ⟨x,n,l,f,g⟩;obtain⟨i,rfl,q⟩:=g;obtain⟨t,rfl⟩:=f;exact⟨some i,n,l,.int i t,q⟩
def SlR(X:Cx)(r:V->Option Int->Option Int->Hp->VK->Prop):Prop:=
 ∀(pins:ZW) (s:Shared) (b:St) (H:Hp) (x:V) (v g f:Value) (lo hi:Option Int) (sl:Addr) (Q:VK),Inv X pins b H s->RelV x v->s.heap.IsSliceOf sl g f .none->IsPart g lo->IsPart f hi->r x lo hi H Q->
  ∃T id,typeLookup (.type T) "__getitem__"=pure (some<|.builtin id)/\s.TypeIs v T/\wpAny (model X.prog X.w) X.A (getItem v<|.ref sl) (EP X pins b Q) X.xe s
noncomputable def tSl(r:V->Option Int->Option Int->Hp->VK->Prop)(te:TE)(tl th:TO):TE:=λb H Q=>te b H λx h=>tl b h λl g=>th b g λu f=>r x l u f Q
def Zk9(M:SlR X r)(Y:PE X e te)(N:PO X lo tl)(J:PO X hi th):PE X (.Subscript e (.Slice lo hi none p2) pos) (tSl r te tl th):=by
 intro pins s f H Q I h;refine Subscript_ (thn (Y pins s f H _ I h) ?_);rintro v y ⟨x,H1,I1,z,C⟩;refine wpAny_Slice (thn (N pins y f H1 _ I1 C) ?_);rintro o w ⟨l,H2,I2,G,B⟩;refine thn (J pins w f H2 _ I2 B) ?_;rintro n g ⟨u,p,I3,E,A⟩;refine Wy ?_;have I4:Inv X pins f p {g with heap:=g.heap.push {cls:=.type "slice",data:=.fields #[o,n,.none]}}:=I3.kept λb ob q=>Wz _ q
 obtain⟨T,id,hT,L,U⟩:=M pins {g with heap:=g.heap.push {cls:=.type "slice",data:=.fields #[o,n,.none]}} f p x v o n l u g.heap.objs.size Q I4 z (Heap.IsSliceOf.new ..) G E A
 exact tail_any L hT U rfl
noncomputable def Bc(xs:List V)(lo hi:Option Int):List V:=(xs.drop<|HT.sIx xs.length 0 lo).take (HT.sIx xs.length xs.length hi-HT.sIx xs.length 0 lo)
def Zet(xs:List V)(lo hi:Option Int):(Bc xs lo hi).length<=xs.length:=by
 unfold Bc
 grind
noncomputable def Zb8(K:ZT):R2:=λx y H Q=>∃a b xs f,x=.ref a/\y=.ref b/\SqT K H a xs/\SqT K H b f/\xs≠[]/\xs.length+f.length<=sizeLine/\
 (f=[]->Q (.ref a) H)/\(f≠[]->∀p,H p=none->Q (.ref p) (upd H p<|.tup (xs++f)))
def Vals.nil_iff (r:Vals xs us):us=[]↔xs=[]:=by
 cases r with
 |_=>simp
def Zhi:OpR X (binaryOp .Add) (Zb8 X.K):=by
 intro pins s J H x y v u Q I p o h;obtain⟨a,b,xs,L,rfl,rfl,G,E,hx,n,A,r⟩:=h;cases p
 cases o
 obtain⟨C,g,B,_⟩:=I.tuple G;obtain⟨l,f,p2,_⟩:=I.tuple E;refine HT.Zn1 B p2 (λz=>hx (g.nil_iff.mp z)) (λz=>⟨.ref a,H,I,rfl,A (f.nil_iff.mp z)⟩) (λz=>?_) (by rw[←g.length,←f.length];exact n);refine⟨.ref s.heap.objs.size,_,I.laid (λb M q=>Wz _ q) (W3 _) ?_,rfl,r (λw=>z (f.nil_iff.mpr w)) _ (I.hok.fresh<|W3 _)⟩;exact⟨by rw[WA];exact n,_,g.append f,IsTup.new _ _⟩
end
noncomputable def ixN(n:Nat)(i:Int):Option Nat:=if 0<=i then(if i<n then some i.toNat else none)else if -(n:Int)<=i then some (i+n).toNat else none
noncomputable def atI{b:Type}(xs:List b)(i:Int):Option b:=(ixN xs.length i).bind λj=>xs[j]?
def Zdj(h:ixN n i=some j):seqIndex? i n=some j/\j<n/\-(n:Int)<=i/\i<n:=by
 unfold ixN at h;by_cases f:0<=i
 ·rw[W5 f]at h;by_cases b:i<n
  ·rw[W5 b]at h;have e:=WL h;exact⟨by rw[seqIndex_of f b,e],by lia,by lia,b⟩
  ·grind
 ·rw[W2 f]at h;by_cases b:-(n:Int)<=i
  ·rw[W5 b]at h;have e:=WL h;exact⟨by rw[seqIndex_neg (by lia) b,e],by lia,b,by lia⟩
  ·grind
def Mx(h:atI xs i=some v):∃j,seqIndex? i xs.length=some j/\xs[j]?=some v/\j<xs.length/\-(xs.length:Int)<=i/\i<xs.length:=by
 unfold atI at h;cases e:ixN xs.length i with
 |none=>grind
 |some j=>
  obtain⟨l,g,f,b⟩:=Zdj e
  grind
def SL{j:Nat}{v}(h:xs[j]?=some v):atI xs (j:Int)=some v:=by
 have e:ixN xs.length (j:Int)=some j:=by
  unfold ixN
  grind
 unfold atI;rw[e];exact h
def Zj1(xs:List b)(v:b):atI (xs++[v]) (-1)=some v:=by
 have e:ixN (xs++[v]).length (-1)=some xs.length:=by
  unfold ixN
  grind
 unfold atI
 grind
def Cy(b:Expr):Prop:=∀o i,subscripted b false o i=operate [o,i] (getItem o i)
def IxR(X:Cx)(r:R2):Prop:=
 ∀(value slice:Expr) (pins:ZW) (s:Shared) (b:St) (H:Hp) (x y:V) (v u:Value) (Q:VK),Inv X pins b H s->RelV x v->RelV y u->r x y H Q->
  subscripted slice false v u=operate [v,u] (getItem v u)->wpAny (model X.prog X.w) X.A (subscriptTail value slice v u) (EP X pins b Q) X.xe s
def MtR(X:Cx)(id:String)(r:V->List V->Hp->VK->Prop):Prop:=
 ∀(pins:ZW) (s:Shared) (b:St) (H:Hp) (x:V) (xs:List V) (v:Value) (f:Yb) (Q:VK),Inv X pins b H s->RelV x v->Vals xs f->r x xs H Q->
  wpAny (model X.prog X.w) X.A (call (.builtin id) (v::f)) (EP X pins b Q) X.xe s
section
variable {X:Cx}{a b:Expr}{ta tb:TE}{pos:Pos}
def IxR.or (h:IxR X r) (p:IxR X o):IxR X (λx y H Q=>r x y H Q\/o x y H Q):=by
 intro value slice pins s f H x y v u Q I l g q n;rcases q with q|q
 ·exact h value slice pins s f H x y v u Q I l g q n
 ·exact p value slice pins s f H x y v u Q I l g q n
def A3(p:IxR X r)(z:PE X a ta)(w:PE X b tb)(o:Cy b):PE X (.Subscript a b pos) (tOp r ta tb):=by
 intro pins s f H Q I h;exact Subscript_ (AI z w I h λv u g x y B A n l q=>p a b pins g f B x y v u Q A n l q (o _ _))
noncomputable def SS(K:ZT):R2:=λx y H Q=>∃p xs i v,x=.ref p/\y=.int i/\SqL K H p xs/\atI xs i=some v/\Q v H
noncomputable def Bb(K:ZT):R2:=λx y H Q=>∃p xs i v,x=.ref p/\y=.int i/\SqT K H p xs/\atI xs i=some v/\Q v H
def ix_list:IxR X (SS X.K):=by
 intro value slice pins s G H x y v u Q I L J h B;obtain⟨p,xs,i,z,rfl,rfl,hq,N,q⟩:=h;cases L
 obtain⟨t,rfl⟩:=J;obtain⟨o,r,n,hz⟩:=I.list hq;obtain⟨j,g,Y,h3,U,T⟩:=Mx N;obtain⟨w,E,l⟩:=r.get Y;have M:=r.length;have hn:=Dr;have f:EP X pins G Q w s:=⟨z,H,I,l,q⟩;by_cases C:0<=i
 ·have A:i.toNat=j:=by
   rw[seqIndex_of C T]at g;exact WL g
  exact item_listR n.isList C (by lia) (by rw[A];simpa using E) f B
 ·have A:(i+(o.toArray.size:Int)).toNat=j:=by
   rw[seqIndex_neg (by lia) U]at g;rw[Qj,←M];exact WL g
  exact subscriptTail_builtinR n.isList.typeIs slot_list_getitem.lookup
   (wpAny_getItem_list_neg n.isList (by lia) (by rw[Qj]<;>lia) (by lia) (by rw[A];simpa using E) ⟨rfl,f⟩) B
def Zdn:IxR X (Bb X.K):=by
 intro value slice pins s n H x y v u Q I A o h C;obtain⟨p,xs,i,z,rfl,rfl,hq,E,q⟩:=h;cases A
 obtain⟨t,rfl⟩:=o;obtain⟨B,r,l,L⟩:=I.tuple hq;obtain⟨j,J,G,U,T,N⟩:=Mx E;obtain⟨w,Y,f⟩:=r.get G;have M:=Dr;have g:EP X pins n Q w s:=⟨z,H,I,f,q⟩
 exact subscriptTail_builtinR l.typeIs slot_tuple_getitem.lookup
  (getItem_tuple l (by lia) (by lia) (by rw[Qj,←r.length];exact J) (by grind) ⟨rfl,g⟩) C
def R7(lo f:Option Int)(n:Nat):(sliceBounds lo f none n).1=((HT.sIx n 0 lo:Nat):Int)/\(sliceBounds lo f none n).2.1=((HT.sIx n n f:Nat):Int)/\(sliceBounds lo f none n).2.2=1:=by
 refine⟨?_,?_,rfl⟩
 ·cases lo with
  |none=>simp[sliceBounds,HT.sIx]
  |some i=>
   simp only[sliceBounds,HT.sIx,Option.getD_none,show(1:Int)>0 by decide,if_true];by_cases h:i<0
   ·grind
   ·simp only[h,Jk]<;>lia
 ·cases f with
  |none=>simp[sliceBounds,HT.sIx]
  |some i=>
   simp only[sliceBounds,HT.sIx,Option.getD_none,show(1:Int)>0 by decide,if_true];by_cases h:i<0
   ·simp only[h,if_true]<;>lia
   ·simp only[h,Jk]<;>lia
def Zg5(f:Yb)(lo g:Option Int):slicePick f.toArray lo g none=((f.drop<|HT.sIx f.length 0 lo).take (HT.sIx f.length f.length g-HT.sIx f.length 0 lo)).toArray:=by
 obtain⟨n,l,h⟩:=R7 lo g f.toArray.size;unfold slicePick;rw[n,l,h];simp only[sliceRange_one,pick_run,Qj]<;>rfl
def Di(K:ZT):V->Option Int->Option Int->Hp->VK->Prop:=λx lo f H Q=>∃a xs,x=.ref a/\SqL K H a xs/\∀p,H p=none->Q (.ref p) (upd H p<|.lst<|Bc xs lo f)
def Znp:SlR X (Di X.K):=by
 intro pins s z H x v B A lo l sl Q I n y p o h;obtain⟨a,xs,rfl,hx,q⟩:=h;cases n
 obtain⟨u,r,g,w⟩:=I.list hx;have f:=r.length;refine⟨"list",_,slot_list_getitem.lookup,g.isList.typeIs,?_⟩;refine wpAny_getItem_list_slice g.isList y p o .none (by simp) ?_ (by grind);rw[Zg5,←f];refine⟨.ref s.heap.objs.size,_,I.laid (λb C q=>Wz _ q) (W3 _) ?_,rfl,q _ (I.hok.fresh<|W3 _)⟩;exact⟨W9 (Zet xs lo l) w,_,0,(r.drop<|HT.sIx xs.length 0 lo).take (HT.sIx xs.length xs.length l-HT.sIx xs.length 0 lo),WE _ rfl⟩
noncomputable def Kw:V->Bool
 | .non=>true
 | .bl _=>true
 | .int _=>true
 | .str _=>true
 |_=>false
noncomputable def eqV:V->V->Bool
 | .non,.non=>true
 | .bl a,.bl b=>a==b
 | .bl a,.int b=>(if a then 1 else 0)==b
 | .int a,.bl b=>a==(if b then 1 else 0)
 | .int a,.int b=>a==b
 | .str a,.str b=>a==b
 |_,_=>false
def M2{y x u v}(h:RelV y u)(f:RelV x v)(fy:Kw y=true)(l:Kw x=true):SeqAt.EqAt A s u v (eqV y x):=by
 cases y with
 |non=>
  cases h
  cases x with
  |non=>cases f;exact SeqAt.EqAt.same _
  |bl b=>cases f;exact SeqAt.EqAt.none_bool b
  |int b=>obtain⟨t,rfl⟩:=f;exact SeqAt.EqAt.none_int b t
  |str b=>obtain⟨t,rfl⟩:=f;exact SeqAt.EqAt.none_str b t
  |_=>exact absurd l WR
 |bl a=>
  cases h
  cases x with
  |non=>cases f;exact SeqAt.EqAt.bool_none a
  |bl b=>cases f;exact SeqAt.EqAt.bool_bool a b
  |int b=>obtain⟨t,rfl⟩:=f;exact SeqAt.EqAt.bool_int a b t
  |str b=>obtain⟨t,rfl⟩:=f;exact SeqAt.EqAt.bool_str a b t
  |_=>exact absurd l WR
 |int a=>
  obtain⟨g,rfl⟩:=h;cases x with
  |non=>cases f;exact SeqAt.EqAt.int_none a g
  |bl b=>cases f;exact SeqAt.EqAt.int_bool a g b
  |int b=>obtain⟨t,rfl⟩:=f;exact SeqAt.EqAt.int_int a g b t
  |str b=>obtain⟨t,rfl⟩:=f;exact SeqAt.EqAt.int_str a g b t
  |_=>exact absurd l WR
 |str a=>
  obtain⟨g,rfl⟩:=h;cases x with
  |non=>cases f;exact SeqAt.EqAt.str_none a g
  |bl b=>cases f;exact SeqAt.EqAt.str_bool a g b
  |int b=>obtain⟨t,rfl⟩:=f;exact SeqAt.EqAt.str_int a g b t
  |str b=>obtain⟨t,rfl⟩:=f;exact SeqAt.EqAt.str_str a g b t
  |_=>exact absurd l WR
 |_=>exact absurd fy WR
noncomputable def eqU(x:V)(u:Value):Bool:=match u with
 | .none=>eqV .non x
 | .bool b=>eqV (.bl b) x
 | .int i _=>eqV (.int i) x
 | .str z _=>eqV (.str z) x
 |_=>false
def Er{x y u}(r:RelV y u)(f:Kw y=true):eqU x u=eqV y x:=by
 cases y with
 |non|bl b=>cases r;rfl
 |int i|str z=>obtain⟨t,rfl⟩:=r;rfl
 |_=>trivial
theorem Sk:∀{xs}{us:Yb},Vals xs us->xs.all Kw=true->us.any (eqU x)=xs.any λy=>eqV y x
 |_,_,.nil,_=>rfl
 |y::xs,u::us,.cons r t,f=>by
  rw[Ji,Qd]at f;rw[VE,VE,Er r f.1,Sk t f.2]
theorem Sz{x v}(h:RelV x v)(l:Kw x=true):∀{xs}{us:Yb},Vals xs us->xs.all Kw=true->∀u∈us,SeqAt.EqAt A s u v (eqU x u)
 |_,_,.nil,_=>λu g=>by cases g
 |y::xs,u::us,.cons r t,f=>λn g=>by
  rw[Ji,Qd]at f;rcases WB.mp g with rfl|g
  ·rw[Er r f.1];exact M2 r h f.1 l
  ·exact Sz h l t f.2 n g
noncomputable def inV(x:V)(xs:List V):Bool:=xs.any λy=>eqV y x
noncomputable def rIn(K:ZT)(neg:Bool):R2:=λx y H Q=>∃p xs,y=.ref p/\(SqL K H p xs\/SqT K H p xs)/\Kw x=true/\xs.all Kw=true/\Q (.bl (if neg then !inV x xs else inV x xs)) H
def Zkf:OpR X (compareOp .In) (rIn X.K false):=by
 intro pins s A H x y v u Q I l o h;obtain⟨p,xs,rfl,hq,n,fs,q⟩:=h;cases o
 rcases hq with hq|hq
 ·obtain⟨f,r,g,z⟩:=I.list hq;refine SeqAt.in_listAt (eqU x) g.isList (λw hw=>Sz l n r fs w (by grind)) ⟨.bl _,H,I,rfl,?_⟩;rwa[show f.toArray.any (eqU x)=f.any (eqU x) by simp,Sk r fs]
 ·obtain⟨f,r,g,z⟩:=I.tuple hq;refine SeqAt.in_tupleAt (eqU x) g (λw hw=>Sz l n r fs w (by simpa using hw)) ⟨.bl _,H,I,rfl,?_⟩;rwa[show f.toArray.any (eqU x)=f.any (eqU x) by simp,Sk r fs]
def Zax:OpR X (compareOp .NotIn) (rIn X.K true):=by
 intro pins s A H x y v u Q I l o h;obtain⟨p,xs,rfl,hq,n,fs,q⟩:=h;cases o
 rcases hq with hq|hq
 ·obtain⟨f,r,g,z⟩:=I.list hq;refine SeqAt.notIn_listAt (eqU x) g.isList (λw hw=>Sz l n r fs w (by grind)) ⟨.bl _,H,I,rfl,?_⟩;rwa[show f.toArray.any (eqU x)=f.any (eqU x) by simp,Sk r fs]
 ·obtain⟨f,r,g,z⟩:=I.tuple hq;refine SeqAt.notIn_tupleAt (eqU x) g (λw hw=>Sz l n r fs w (by grind)) ⟨.bl _,H,I,rfl,?_⟩;rwa[show f.toArray.any (eqU x)=f.any (eqU x) by simp,Sk r fs]
def Dk:XM X (.type "list") (λxs H Q=>∃p v,xs=[.ref p]/\(SqL X.K H p v\/SqT X.K H p v)/\∀l,H l=none->Q (.ref l) (upd H l<|.lst v)):=by
 intro pins s M H xs T Q I r h;obtain⟨p,v,rfl,hq,q⟩:=h;obtain⟨u,rfl,N⟩:=vals1 r;cases N
 have C:∀f,Vals v f->v.length<=sizeLine->∀g y,(∀b L,s.heap.get? b=some L->g.get? b=some L)->
   g.get? s.heap.objs.size=some {cls:=.type "list",dict:=none,data:=.seq f.toArray y,slots:=#[]}->EP X pins M Q (.ref s.heap.objs.size) {s with heap:=g}:=λf x A g y z e=>
  ⟨.ref s.heap.objs.size,_,I.laid z (W3 _) (show ObjOk X.prog X.w _ g _ (.lst v)from⟨A,f,y,x,e⟩),rfl,q _ (I.hok.fresh<|W3 _)⟩
 rcases hq with hq|hq
 ·obtain⟨f,x,E,A⟩:=I.list hq;have B:=x.length;obtain⟨o,G,J,n,hd⟩:=E.isList;exact call_list_seq p (.inl rfl) G J hd (λg y z e=>C f x A g y z e) (by grind)
 ·obtain⟨f,x,E,A⟩:=I.tuple hq;have B:=x.length;obtain⟨o,G,J,n,hd⟩:=E;exact call_list_seq p (.inr rfl) G J hd (λg y z e=>C f x A g y z e) (by simp only[Qj]<;>lia)
def Zbh:XM X (.type "tuple") (λxs H Q=>∃p g,xs=[.ref p]/\((SqL X.K H p g/\∀l,H l=none->Q (.ref l) (upd H l<|.tup g))\/(SqT X.K H p g/\Q (.ref p) H))):=by
 intro pins s x H xs G Q I r h;obtain⟨p,g,rfl,h⟩:=h;obtain⟨u,rfl,B⟩:=vals1 r;cases B
 rcases h with⟨hq,q⟩|⟨hq,q⟩
 ·obtain⟨f,v,w,y⟩:=I.list hq;have z:=v.length;refine call_tuple_list w.isList (λn C=>?_) (by grind);have A:Inv X pins x H {s with heap:=n}:=I.kept C
  have E:Inv X pins x (upd H n.objs.size<|.tup g) {s with heap:=n.push {cls:=.type "tuple",data:=.seq f.toArray}}:=
   A.laid (λb o e=>Wz _ e) (W3 _) (⟨y,f,v,IsTup.new _ _⟩)
  exact⟨.ref n.objs.size,_,E,rfl,q _ (A.hok.fresh<|W3 _)⟩
 ·obtain⟨f,v,w,y⟩:=I.tuple hq;exact call_tuple_same w ⟨.ref p,H,I,rfl,q⟩
def tyV(K:ZT)(T:String)(x:V)(H:Hp):Prop:=match x with
 | .str _=>T = "str"
 | .int _=>T = "int"
 | .ref p=>(T = "list"/\∃xs,SqL K H p xs)\/(T = "tuple"/\∃o,K.lookup p=some o/\o.cls=.type "tuple"/\o.dict=none)\/
   (T = "dict"/\((∃f,H p=some (.dK f))\/∃f,H p=some (.dT f)))\/(T = "set"/\∃S n,H p=some (.set S n))
 |_=>False
def Hy{u:St}{H}{s}{T}{x}{v}(I:Inv X pins u H s)(r:RelV x v)(g:tyV X.K T x H) :
  s.TypeIs v T/\∀a,v=.ref a->∃ob,s.heap.get? a=some ob/\ob.dict=none:=by
 cases x with
 |str z=>
  obtain⟨t,rfl⟩:=r;cases g
  exact⟨typeIs_str s z t,λ_ e=>nomatch e⟩
 |int i=>
  obtain⟨t,rfl⟩:=r;cases g
  exact⟨typeIs_int s i t,λ_ e=>nomatch e⟩
 |ref p=>
  cases r
  rcases g with⟨rfl,xs,hq⟩|⟨rfl,o,f,y,hd⟩|⟨rfl,f⟩|⟨rfl,S,n,f⟩
  ·obtain⟨w,_,q,_⟩:=I.list hq;refine⟨q.isList.typeIs,λa e=>?_⟩;cases e
   obtain⟨o,n,e,c,hd,_⟩:=q;exact⟨o,e,hd⟩
  ·refine⟨⟨o,I.kIn p o f,y⟩,λa e=>?_⟩;cases e
   exact⟨o,I.kIn _ o f,hd⟩
  ·have z:∃o,s.heap.get? p=some o/\o.ExactDict:=by
    rcases f with⟨h,f⟩|⟨h,f⟩
    ·obtain⟨_,_,_,_,o,_,_,e,ex,_⟩:=I.hok p _ f;exact⟨o,e,ex⟩
    ·obtain⟨_,_,_,_,o,_,_,e,ex,_⟩:=I.hok p _ f;exact⟨o,e,ex⟩
   obtain⟨o,e,ex⟩:=z;refine⟨⟨o,e,ex.1⟩,λa l=>?_⟩;cases l
   exact⟨o,e,ex.2.1⟩
  ·obtain⟨o,_,_,_,e,ex,_⟩:=I.hok p _ f;refine⟨⟨o,e,ex.1⟩,λa l=>?_⟩;cases l
   exact⟨o,e,ex.2.1⟩
 |_=>exact False.elim g
noncomputable def Dd(K:ZT)(T:String)(r:V->List V->Hp->VK->Prop)(h:TE):TE:=λg H Q=>h g H λx f=>tyV K T x f/\r x [] f Q
noncomputable def tBM(K:ZT)(T:String)(r:V->List V->Hp->VK->Prop)(h:TE)(t:TA):TE:=λf H Q=>h f H λx g=>tyV K T x g/\t f g λxs l=>r x xs l Q
variable {o e:Expr}{es:Yd}{to:TE}{t:TA}{name:Str}{apos cpos:Pos}{T id:String}{r:V->List V->Hp->VK->Prop}
def Zfa(z:PlainAttrs T)(slot:Slot T name id)(l:typeOf (.builtin id)=pure (.type "method_descriptor"))(B:MtR X id r)(A:PE X o to)(g:autoParam (attributeBase o name X.env (eval o X.env)=eval o X.env) au_0)(f:autoParam ((apos.endLine==cpos.line)=true) au_0):PE X (.Call (.Attribute o name apos) [] [] cpos) (Dd X.K T r to):=by
 intro pins s n H Q I h;refine wpAny_Call_method0_late g f (thn (A pins s n H _ I h) ?_);rintro v w ⟨x,G,q,p,u,y⟩;obtain⟨E,C⟩:=Hy q p u;exact⟨T,id,z,slot,l,E,C,Calls.callWith_builtin rfl (PySem.evalArgs_none<|B pins w n G x [] v [] Q q p .nil y)⟩
def TM(M:PlainAttrs T)(slot:Slot T name id)(q:typeOf (.builtin id)=pure (.type "method_descriptor"))(Y:MtR X id r)(U:PE X o to)(ha:PA X (e::es) t)(g:autoParam (attributeBase o name X.env (eval o X.env)=eval o X.env) au_0)
  (l:autoParam (((backTo cpos<|starEach (e::es) X.env).all (λx=>!x.1)&&(backToKw cpos<|keywordEach [] X.env).all (λx=>x.1.isSome)
   && decide ((e::es).length+([]:List Keyword).length+(if ([]:List Keyword).isEmpty then 0 else 1)<30))=true) au_0)
  (f:autoParam ((apos.endLine==cpos.line)=true) au_0) (N:autoParam (starEach (e::es) X.env=(false,eval e X.env)::starEach es X.env) au_0) (n:autoParam ((backTo cpos<|starEach es X.env).any (·.1)=false) au_0) :
  PE X (.Call (.Attribute o name apos) (e::es) [] cpos) (tBM X.K T r to t):=by
 intro pins s p H Q I h;refine wpAny_Call_method_late g l f rfl (thn (U pins s p H _ I h) λv E ⟨x,H1,y,u,B,L⟩=>?_);obtain⟨h1,h2⟩:=Hy y u B;refine⟨T,id,M,slot,q,h1,h2,?_⟩;have w:=ha cpos pins E p H1 _ y L;rw[N]at w ⊢;refine Calls.callWith_builtin (by grind) (Jw ?_);exact thn w λA C ⟨z,H2,I2,G,J⟩=>Y pins C p H2 x z v A Q I2 u G J
end
def MtM(X:Cx)(id:String)(r:V->List V->Hp->VK->Prop):Prop:=
 ∀(pins:ZW) (s:Shared) (b:St) (H:Hp) (x:V) (xs:List V) (v:Value) (f:Yb) (Q:VK),Inv X pins b H s->RelV x v->Vals xs f->r x xs H Q->
  wpAny (model X.prog X.w) X.A (call (.builtin id) (v::f)) (EP X pins b Q) X.xe s
def Vals.one:∀{x}{us:Yb},Vals [x] us->∃u,us=[u]/\RelV x u:=by
 intro _ _ h;cases h with
 |cons r t=>
  cases t
  exact⟨_,rfl,r⟩
def Vals.zero:∀{us:Yb},Vals [] us->us=[]
 |_,.nil=>rfl
theorem Vals.eraseIdx:∀{xs us} i,Vals xs us->Vals (xs.eraseIdx i) (us.eraseIdx i)
 |_,_,_,.nil=>.nil
 |_,_,0,.cons _ t=>t
 |_,_,i+1,.cons r t=>.cons r (Vals.eraseIdx i t)
section
variable {X:Cx}{pins:ZW}{σ:St}{H:Hp}{s:Shared}{l b:Addr}{xs ys zs:List V}
def Inv.lset {g its':Yb}{n}{f}{t'} (I:Inv X pins σ H s) (w:H l=some (.lst xs))
  (e:s.heap.get? l=some {cls:=.type "list",data:=.seq g.toArray n}) (r:f g.toArray=its'.toArray) (o:Vals ys its') (h:ys.length<=sizeLine) :
  Inv X pins σ (upd H l<|.lst ys) {s with heap:=s.heap.update l (Obj.mapSeq f),toks:=t'}:=by
 have q:=PySem.IsL.update e f;rw[r]at q;refine I.write (by rw[w];exact trivial) (.inl rfl) (λx u v p=>(Qz s.heap (Obj.mapSeq f)<|Ne.symm v).trans p) ⟨_,q⟩ ?_;exact⟨h,its',_,o,q⟩
def Inv.lnew (I:Inv X pins σ H s) (h:Vals ys f) (g:ys.length<=sizeLine) :
  Inv X pins σ (upd H s.heap.objs.size<|.lst ys) {s with heap:=s.heap.push {cls:=.type "list",data:=.seq f.toArray},toks:=t'}:=
 I.laid (λ_ _ q=>Wz _ q) (W3 _) ⟨g,f,0,h,WE _ rfl⟩
def Inv.fresh (I:Inv X pins σ H s):H s.heap.objs.size=none:=I.hok.fresh (W3 _)
def Inv.lstM (I:Inv X pins σ H s) (g:H l=some (.lst xs)):xs.length<=sizeLine/\∃f n,Vals xs f/\xs.length=f.length/\s.heap.get? l=some {cls:=.type "list",data:=.seq f.toArray n}:=by
 obtain⟨z,f,n,r,e⟩:=I.hok l _ g;exact⟨z,f,n,r,r.length,e⟩
def R8(h:n<=sizeLine):Builtin.List.listTooLong n=false:=by
 unfold Builtin.List.listTooLong
 grind
end
section
variable {X:Cx}
def Cq:V->List V->Hp->VK->Prop:=λx b H Q=>∃l xs y,x=.ref l/\b=[y]/\H l=some (.lst xs)/\xs.length<sizeLine/\Q .non (upd H l<|.lst (xs++[y]))
def NG:MtM X "list.append" Cq:=by
 intro pins s w H x A v B Q I g o h;obtain⟨l,xs,y,rfl,rfl,f,C,q⟩:=h;cases g
 obtain⟨u,rfl,p⟩:=o.one;obtain⟨z,b,n,r,E,e⟩:=I.lstM f;refine call_meets F.slot_list_append ⟨_,e,rfl⟩ F.entry_list_append (F.args_list_append_2 _ _) (PySem.list_append l b.toArray n u<|by grind) ⟨e,?_⟩;refine⟨.non,_,I.lset f e (by simp) (r.append<|.cons p .nil) ?_,rfl,q⟩
 grind
def Gs:V->List V->Hp->VK->Prop:=λx g H Q=>∃l b xs f,x=.ref l/\g=[.ref b]/\H l=some (.lst xs)/\H b=some (.lst f)/\xs.length+f.length<=sizeLine/\Q .non (upd H l<|.lst (xs++f))
def Zhx:MtM X "list.extend" Gs:=by
 intro pins s M H x U v Y Q I y A h;obtain⟨l,b,xs,N,rfl,rfl,w,J,hz,q⟩:=h;cases y
 obtain⟨u,rfl,B⟩:=A.one;cases B
 obtain⟨z,g,n,r,hl,e⟩:=I.lstM w;obtain⟨T,f,E,C,G,L⟩:=I.lstM J;have p:g.toArray.size+f.toArray.size<=sizeLine:=by grind
 have o:¬(!g.toArray.isEmpty&&Builtin.List.listTooLong (g.toArray.size+f.toArray.size))=true:=by
  rw[R8 p,Bool.and_false];exact WR
 refine call_meets F.slot_list_extend ⟨_,e,rfl⟩ F.entry_list_extend (F.args_list_extend_2 _ _)
  (AutoSeq1.list_extend_list_list_0 l g.toArray n b f.toArray E o (by lia)<|by lia) ⟨e,L,?_⟩
 refine⟨.non,_,I.lset w e (by simp) (r.append C) ?_,rfl,q⟩
 grind
noncomputable def L8:R2:=λx y H Q=>∃l b xs f,x=.ref l/\y=.ref b/\H l=some (.lst xs)/\H b=some (.lst f)/\xs.length+f.length<=sizeLine/\∀p,H p=none->Q (.ref p) (upd H p<|.lst (xs++f))
def P1:OpR X (binaryOp .Add) L8:=by
 intro pins s J H x y v u Q I p o h;obtain⟨l,b,xs,L,rfl,rfl,B,C,T,q⟩:=h;cases p
 cases o
 obtain⟨z,g,n,r,U,e⟩:=I.lstM B;obtain⟨M,f,N,w,A,G⟩:=I.lstM C;refine PySem.P.add_list e G ?_ (by grind);have E:g.toArray++f.toArray=(g++f).toArray:=by simp
 rw[E];exact⟨.ref _,_,I.lnew (r.append w) (by grind),rfl,q _ I.fresh⟩
end
end L2
namespace Att
open PySem PySem.W PySem.Calls PyProof.Rows
def Rn:∀ns vs,WellAll P h vs (ns.map WData.int)->IntsAre vs ns:=by
 intro ns
 induction ns with
 |nil=>
  intro vs w;cases w
  exact .nil
 |cons n ns f=>
  intro vs w;cases w with
  |cons a b=>
   cases a
   exact .cons _ _ (f _ b)
def Zik{l:OpenLaw}{n}(w:l.most=some n){P}{h}{args}{vals}(b:l.row.toRowW.claim.pre args=true)(o:WellAll P h vals args) :
  ∃a vs ns,vals=[Value.ref a]/\args=[WData.list (ns.map WData.int)]/\h.get? a=some {cls:=.type "list",data:=.seq vs.toArray}/\IntsAre vs ns/\ns.length<=n:=by
 have p:WShape.hasAll [] args [.list .int]=true:=(pre_splitW b).1;have x:l.pre.holds [] {args:=args}=true:=(pre_splitW b).2;obtain⟨d,r,rfl,A,z⟩:=hasAllW_cons p;obtain rfl:=hasAllW_nil z;obtain⟨xs,rfl,y⟩:=hasW_list A;obtain⟨ns,rfl⟩:=items_int y
 have f:ns.length<=n:=by
  have q:(WTm.not<|.lt (.lit<|.int (n:Int))<|.len<|.arg 0).holds [] {args:=[.list (ns.map .int)]}=true:=by
   have q:=(holds_andW x).1;rw[w]at q;lia
  have B:=condW_of q (w_not<|w_lt w_lit<|w_len_list<|w_arg rfl);simp_all
 cases o with
 |cons u s=>
  cases s
  cases u with
  |list v g=>exact⟨_,_,ns,rfl,rfl,v,Rn ns _ g,f⟩
def OA(l:OpenLaw)(args:List WData):l.row.toRowW.claim.post args (.bool true) args=true:=
 postW_of
  rfl
  (w_eq_bool (w_res rfl) w_lit) rfl
def Rj{l:OpenLaw}{n}{q}{loose}{XP}{YP}{d}(N:l.most=some n)(C:d.params.defaults=[])
  (call:∀w s₀ b x z v o y cd h a vs ns,
   Ground q loose [] XP w s₀ x z b.heap->YP w b.heap->
   b.heap.get? v=some o->o.data=.func (docDef d.name d.params d.body d.scope y cd h)->b.heap.CodeRec cd d.name->x d.name=some (.ref v)->
   b.heap.get? a=some {cls:=.type "list",data:=.seq vs.toArray}->IntsAre vs ns->ns.length<=n->b.gens=#[]->
   codeAny (model l.prog w) callerA (.call (.ref v) ⟨[.ref a],[]⟩) (λr s'=>r=.ok (.ret<|.bool true)/\OldK b.heap s'.heap/\s'.os=b.os/\AllBare s'.gens) b) :
  WalkO q loose XP YP l.row.toRowW d [] (λf vs=>PySem.call f vs):=by
 intro w s₀ b x z G Y v o y cd h dV kV M hd E J B U args vals as p H L A T;obtain rfl:=Dflts.none J C;obtain rfl:=Dflts.noKw J;obtain⟨a,vs,ns,rfl,rfl,s,g,u⟩:=Zik N p A;refine enter_call (Vh (call w s₀ b x z v o y cd h a vs ns G Y M (fd_plain hd) E B s g u U) λr s' hq=>?_);obtain⟨rfl,h2,h3,h4⟩:=hq;exact⟨.inl ⟨.bool true,.bool true,[],rfl,λ_=>rfl,.bool true,OA l _,λ_=>⟨List.Pairwise.nil,λ_ Q=>(nomatch Q)⟩⟩,h2,h3,h4⟩
end Att
namespace L2
open PySem PySem.Spec PyProof.Rows
theorem BR:∀{vs}{ns:ZV},IntsAre vs ns->Vals (ns.map V.int) vs
 |_,_,.nil=>.nil
 |_,_,.cons n t h=>.cons ⟨t,rfl⟩ (BR h)
def Fp(H:Hp):Prop:=∀b,H b=none\/∃o xs,H b=some (.frz o<|.lst xs)
def Rm{K A T CX k fa a fd x sp f vs ns}(KX:K.In f.heap)(E:f.heap.Ns mainGlobals A)(g:f.heap.Ns builtinsNs T)(hbb:∀x:Str,x≠"__name__"->T x=bootBuiltins x)(G:f.heap.NoLimit)(hg:f.gens=#[])(L:f.heap.get? a=some {cls:=.type "list",data:=.seq vs.toArray})(hi:IntsAre vs ns)(hl:ns.length<=sizeLine)(hr:Xh k callerA)(F:∀base,K.In base->base.Ns mainGlobals A->Ki P w K A base CX k fa fd [x] sp)(p:∀s u,BindsTo s fd ⟨[u],[]⟩ [(x,u)])(U:∀H,Fp H->SqL K H a (ns.map V.int)->sp [.ref a] H (λv _=>v=.bl true) λ_ _ _=>False)(hCX:∀H e s',CX [] H f (λ_ _ _=>False) e s'->False) :
  codeAny (model P w) callerA (.call (.ref fa) ⟨[.ref a],[]⟩) (λr s'=>r=.ok (.ret<|.bool true)/\OldK f.heap s'.heap/\s'.os=f.os/\AllBare s'.gens) f:=by
 have rv:=BR hi
 have core:∀H,Fp H->SqL K H a (ns.map V.int)->HOk P w H f.heap->(∀b,H b≠none->b=a)->(H a≠none->K.lookup a=none)->
   codeAny (model P w) callerA (.call (.ref fa) ⟨[.ref a],[]⟩) (λr s'=>r=.ok (.ret<|.bool true)/\OldK f.heap s'.heap/\s'.os=f.os/\AllBare s'.gens) f:=by
  intro H hO hS C hA hK;have base_of:∀{b:Addr} {o:Obj},f.heap.get? b=some o->H b=none->(T5 f.heap H).get? b=some o:=λe n=>Zhz e n
  have Q:∀{b:Addr} {o:Obj} {M:Array DictEntry} {N:Nat},f.heap.get? b=some o->o.data=.dict M N->H b=none:=λ{b o M N} e d=>by
   cases q:H b with
   |none=>rfl
   |some u=>
    have e':=hA b (by rw[q];simp);subst e';rw[L]at e;cases e;cases d
  have l:∀{b:Addr} {m:ZX},f.heap.Ns b m->(T5 f.heap H).Ns b m:=λ{b m} ⟨o,M,N,e,d,r⟩=>⟨o,M,N,base_of e (Q e d),d,r⟩
  have J:=λb o e=>base_of (KX b o e) (by
   cases q:H b with
   |none=>rfl
   |some u=>
    have e':=hA b (by rw[q];simp);subst e';rw[hK (by rw[q];simp)]at e;cases e)
  have hM:Mod K A (T5 f.heap H):=⟨J,l E,⟨T,l g,hbb⟩,let ⟨mc,h1,h2⟩:=G;⟨mc,l h1,h2⟩⟩;have e0:Nn P w K A (T5 f.heap H) callerA [] f H:=⟨rfl,hM,λb o e=>Zbk e,Vg (OF _ _),trivial,λb g=>absurd (show b∈([]:List Addr)from g) (by simp),C,.of_eq hg⟩
  refine Vh ((F _ J<|l E).run callerA [] f H ⟨[.ref a],[]⟩ [.ref a] [.ref a] _ _ hr e0 (p f<|.ref a) (.cons rfl .nil) (U H hO hS)) λr s' h=>?_;cases r with
  |error e=>exact(hCX H e s' h).elim
  |ok fl=>
   cases fl with
   |ret u=>
    obtain⟨v,H',os,bare,un,B,r',q⟩:=h;subst q;obtain rfl:=r';refine⟨rfl,OldK.of_keep λb o e=>?_,os,bare⟩;cases q:H b with
    |none=>exact un.keep b o e q (by intro z;exact absurd (show b∈([]:List Addr)from z) (by simp)) (by simp)
    |some u=>
     rcases hO b with z|⟨ob,xs,z⟩
     ·rw[q]at z;cases z
     ·have z2:=un.frzs b ob _ z;obtain⟨e1,_⟩:=C b _ z;obtain⟨e2,_⟩:=B b _ z2;rw[e]at e1;cases e1;exact e2
   |_=>exact False.elim h
 cases Y:K.lookup a with
 |some o=>
  have e:=KX a o Y;rw[L]at e;cases e
  refine core (λ_=>none) (λ_=>.inl rfl) (.inr ⟨_,vs.toArray,_,Y,rfl,rfl,rfl,by rw[Qj,hi.length];exact hl,by simpa using rv⟩) (λb u z=>by have y:=z;cases y) (λb z=>absurd rfl z) λz=>absurd rfl z
 |none=>
  refine core (λb=>if b=a then some (.frz {cls:=.type "list",data:=.seq vs.toArray} (.lst<|ns.map V.int))else none) (λb=>?_) (.inl<|.inr ⟨{cls:=.type "list",data:=.seq vs.toArray},W5 rfl⟩) (λb u z=>?_) (λb z=>?_) λ_=>Y
  ·by_cases g:b=a
   ·exact .inr ⟨_,_,W5 g⟩
   ·exact .inl (W2 g)
  ·by_cases g:b=a
   ·have y:=(W5 g).symm.trans z;cases y
    subst g;exact⟨L,by rw[Wv];exact hl,vs,_,rv,L⟩
   ·have y:=(W2 g).symm.trans z;cases y
  ·by_cases g:b=a
   ·exact g
   ·exact absurd (W2 g) z
def Zbt{l:PySem.W.OpenLaw}{n k}{q}{loose}{XP}{YP}{d}{K:Params->ZT}{CX:World->CXT}{sp:World->Sp}{x}(hn:l.most=some n)(E:n<=sizeLine)(L:d.params.defaults=[])(hr:Xh k callerA)(hY:∀w h,YP w h->(K w.params).In h)
  (F:∀w y B h,(K w.params).In h->h.Ns mainGlobals y->y d.name=some (.ref B)->
   ∃N,(∀s u,BindsTo s N ⟨[u],[]⟩ [(x,u)])/\
    ∀base,(K w.params).In base->base.Ns mainGlobals y->Ki l.prog w (K w.params) y base (CX w) k B N [x] (sp w))
  (C:∀w H a (ns:ZV),ns.length<=n->Fp H->SqL (K w.params) H a (ns.map V.int)->sp w [.ref a] H (λv _=>v=.bl true) λ_ _ _=>False)
  (M:∀w H s e s',CX w [] H s (λ_ _ _=>False) e s'->False) :
  PySem.W.WalkO q loose XP YP l.row.toRowW d [] (λf vs=>PySem.call f vs):=by
 refine Att.Rj hn L λw Q z y mb B o pm cd doc a vs ns G Y ho hd hcd J A r p hg=>?_;have U:=hY w _ Y;obtain⟨N,hb,hF⟩:=F w y B _ U G.T.g J;exact Rm U G.T.g G.T.b G.T.builtins G.T.nolimit hg A r (W9 p E) hr hF hb (λH hO hS=>C w H a ns p hO hS) λH e s'=>M w H z e s'
def RY{l:PySem.W.OpenLaw}{n k}{q}{loose}{XP}{YP}{d}{K:Params->ZT}{CX}{sp:ZT->Sp}{x}(B:l.most=some n)(o:n<=sizeLine)(p:d.params.defaults=[])(A:Xh k callerA)(C:∀w h,YP w h->(K w.params).In h)
  (F:∀w b z h,(K w.params).In h->h.Ns mainGlobals b->b d.name=some (.ref z)->
   ∃y,(∀s u,BindsTo s y ⟨[u],[]⟩ [(x,u)])/\
    ∀base,(K w.params).In base->base.Ns mainGlobals b->Ki l.prog w (K w.params) b base CX k z y [x] (sp<|K w.params))
  (g:∀K H a (ns:ZV),ns.length<=n->Fp H->SqL K H a (ns.map V.int)->sp K [.ref a] H (λv _=>v=.bl true) λ_ _ _=>False)
  (r:∀H s e s',CX [] H s (λ_ _ _=>False) e s'->False) :
  PySem.W.WalkO q loose XP YP l.row.toRowW d [] (λf vs=>PySem.call f vs):=
 Zbt B o p A C F (λw H a ns J G E=>g (K w.params) H a ns J G E) λ_ H s e s'=>r H s e s'
noncomputable def inClass(s:Stmt)(j:Nat):Stmt:=match s with
 | .ClassDef _ _ _ body _ _ _ _ _ _ _=>body.getD j (.Pass ⟨0,0,0,0⟩)
 |_=>.Pass ⟨0,0,0,0⟩
noncomputable def K8(s:Stmt):Arguments:=match s with
 | .FunctionDef _ a _ _ _ _ _ _ _ _=>a
 |_=>{posonlyargs:=[],args:=[],vararg:=none,kwonlyargs:=[],kw_defaults:=[],kwarg:=none,defaults:=[]}
noncomputable def Xw(s:Stmt):Ye:=match s with
 | .FunctionDef _ _ b _ _ _ _ _ _ _=>b
 |_=>[]
noncomputable def UY(s:Stmt):Scope:=match s with
 | .FunctionDef _ _ _ _ _ _ b _ _ _=>b
 |_=>{kind:=.function,names:=[],isGenerator:=false,isCoroutine:=false}
noncomputable abbrev CX0:CXT:=λ_ _ _ _ _ _=>False
noncomputable abbrev E0:XK:=λ_ _ _=>False
def XZ:K7 CX0 X E0:=λ_ _ _ _ _ _ _ h=>h.elim
structure Fun (K:ZT) (x qual:Str) (st:Stmt) (f:Addr) (fd:FuncData):Prop where
 ex:∃(oc:Value) (od:Yg) (kV doc pm:Value) (an:Yg) (cdv ct:Value) (osl:Array (Yf)),
  fd=PySem.W.fnOf x qual (K8 st) (Xw st) (UY st) .none kV doc pm an cdv ct/\K.lookup f=some ⟨oc,od,.func fd,osl⟩/\PySem.W.codeIn K cdv qual=true
 kp:PySem.W.keepIn K (.ref f)=true
section
variable {P:Program}{w:World}{K:ZT}{mg:ZX}{base:Heap}
def Fun.ok {st f o N ps k sp} (F:Fun K x qual st f o) (S:UZ N ps (UY st)) (len:∀vs H Q E,sp vs H Q E->vs.length=ps.length)
  (g:∀b A outer s H vs Q E,Xh k (A.deeper<|envOfC qual (UY st) s.heap.objs.size f b)->sp vs H Q E->
   ∃t,PSs (X6 CX0 P w K mg base N qual (UY st) f b A outer s H E).nox (Xw st) t/\t {nx:=λ_ H'=>Q .non H',rt:=Q} (start N vs) H):Ki P w K mg base CX0 (k+1) f o ps sp:=by
 obtain⟨oc,z,kV,v,y,C,b,B,p,rfl,r,n⟩:=F.ex;refine A9 r n S len λA outer s H vs Q E u l=>?_;obtain⟨t,h,q⟩:=g b A outer s H vs Q E u l;exact⟨t,h.nox,q⟩
def Fun.binds {st f o ps} (F:Fun K x qual st f o)
  (h:∀kV b l n g ct us,us.length=ps.length->bindArgs (PySem.W.fnOf x qual (K8 st) (Xw st) (UY st) .none kV b l n g ct) ⟨us,[]⟩=pure (ps.zip us)):Binds K o ps []:=by
 obtain⟨oc,r,kV,b,l,n,g,ct,p,rfl,s,q⟩:=F.ex;exact .all (h kV b l n g ct)
def B3{st f oc od o h kV g n b ct}(l:K.lookup f=some ⟨oc,od,.func (PySem.W.fnOf x qual (K8 st) (Xw st) (UY st) .none kV g n o b ct),h⟩)(c:PySem.W.codeIn K b qual=true)(k:PySem.W.keepIn K (.ref f)=true):Fun K x qual st f (PySem.W.fnOf x qual (K8 st) (Xw st) (UY st) .none kV g n o b ct):=⟨⟨oc,od,kV,g,n,o,b,ct,h,rfl,l,c⟩,k⟩
end
def XX{k}(b:Xh k A):A.units+1<cLine:=JE (Nat.add_le_add_left (by simp) _) b.units
def Ie(h:n<=1000):n<sizeLine:=JE h (by decide)
section
variable {X:Cx}
def pv(i:Nat){x pos}(g:autoParam (X.N[i]?=some x) au_0)(f:autoParam (Vis X.env.scope x) au_4)(hd:autoParam ((x==("__debug__" : Str))=false) au_1)(b:autoParam ((x==("__classdict__" : Str))=false) au_1):PE X (.Name x pos) (KH i):=Zms g f hd b
end
def X5{A B:Prop}(h:B):if false=true then A else B:=by grind
def Kr{A B:Prop}(h:A):if true=true then A else B:=by grind
def Xg{c A B:Prop}[Decidable c](f:c->A)(b:¬c->B):if c then A else B:=by grind
def NO{c A B:Prop}[Decidable c](b:c)(h:B):if (!decide c)=true then A else B:=by grind
def Same(H H':Hp):Prop:=∀b o,H b=some o->H' b=some o
def Same.refl (H:Hp):Same H H:=λ_ _ h=>h
def Same.trans (a:Same H g) (b:Same g f):Same H f:=λc o h=>b c o (a c o h)
def Same.free (e:Same H H') {l} (h:H' l=Option.none):H l=Option.none:=by
 cases q:H l with
 |none=>rfl
 |some o=>
  rw[e l o q]at h;lia
def Same.seq {K H H'}{a xs} (e:Same H H') (h:SqL K H a xs):SqL K H' a xs:=by
 rcases h with(h|⟨o,h⟩)|h
 ·exact .inl (.inl<|e _ _ h)
 ·exact .inl (.inr ⟨o,e _ _ h⟩)
 ·exact .inr h
end L2
set_option maxHeartbeats 4000000
namespace L2
open PySem PySem.Spec PyProof.Rows
section
variable {κ:Type} [DecidableEq κ]
noncomputable def Xi(b:List (κ×V))(k:κ):Option V:=(b.find? λf=>decide (f.1=k)).map (·.2)
noncomputable def putK(b:List (κ×V))(k:κ)(v:V):List (κ×V):=
 if (b.any λf=>decide (f.1=k))=true then b.map (λf=>if f.1=k then(f.1,v)else f)else b++[(k,v)]
def Pa{p:κ×V}{r:List (κ×V)}{k:κ}(e:p.1=k):Xi (p::r) k=some p.2:=by simp[Xi,Vz,e]
def KZ{p:κ×V}{r:List (κ×V)}{k:κ}(e:¬p.1=k):Xi (p::r) k=Xi r k:=by simp[Xi,Vz,e]
theorem Bo(k:κ):∀b:List (κ×V),(b.any λf=>decide (f.1=k))=(Xi b k).isSome
 |[]=>rfl
 |p::r=>by
  rw[VE];by_cases e:p.1=k
  ·simp only[Pa e,W1 e,Bool.true_or,Option.isSome_some]
  ·rw[KZ e,Qb e,Bool.false_or];exact Bo k r
theorem DW(k j:κ)(y:V):∀b:List (κ×V),Xi (b.map λf=>if f.1=k then(f.1,y)else f) j=(Xi b j).map λx=>if j=k then y else x
 |[]=>rfl
 |p::r=>by
  have g:=DW k j y r;rw[WQ];by_cases h:p.1=k
  ·rw[W5 h];by_cases e:p.1=j
   ·rw[Pa (p:=(p.1,y)) e,Pa e,Jx,W5 (e.symm.trans h)]
   ·rw[KZ (p:=(p.1,y)) e,KZ e,g]
  ·rw[W2 h];by_cases e:p.1=j
   ·rw[Pa (p:=p) e,Pa e,Jx,W2 (λz=>h (e.trans z))]
   ·rw[KZ (p:=p) e,KZ e,g]
theorem Ou(k j:κ)(y:V):∀b:List (κ×V),Xi b k=none->Xi (b++[(k,y)]) j=if j=k then some y else Xi b j
 |[],_=>by
  by_cases e:k=j
  ·rw[W5 e.symm];exact Pa (p:=(k,y)) e
  ·rw[W2 (λz=>e z.symm)];exact KZ (p:=(k,y)) e
 |p::r,f=>by
  rw[QA];have g:¬p.1=k:=λz=>by rw[Pa z]at f;cases f
  rw[KZ g]at f;have h:=Ou k j y r f;by_cases e:p.1=j
  ·rw[Pa e,Pa e,W2 (λz=>g (e.trans z))]
  ·rw[KZ e,KZ e,h]
def SZ(b:List (κ×V))(k j:κ)(y:V):Xi (putK b k y) j=if j=k then some y else Xi b j:=by
 unfold putK;by_cases a:(b.any λf=>decide (f.1=k))=true
 ·rw[W5 a,DW];rw[Bo]at a;by_cases e:j=k
  ·obtain⟨x,hx⟩:=Option.isSome_iff_exists.mp a;rw[W5 e,e,hx,Jx,W5 rfl]
  ·rw[W2 e];cases Xi b j with
   |none=>rfl
   |some x=>rw[Jx,W2 e]
 ·rw[W2 a];refine Ou k j y b ?_;rw[Bo]at a;cases q:Xi b k with
  |none=>rfl
  |some x=>rw[q]at a;exact(a rfl).elim
def SR(b:List (κ×V))(k:κ)(v:V):(putK b k v).length<=b.length+1:=by
 unfold putK;split
 ·rw[Wv];omega
 ·rw[WA,WW,List.length_nil];omega
def OL{b:List (κ×V)}{k:κ}(v:V)(h:Xi b k=none):putK b k v=b++[(k,v)]:=by
 unfold putK;rw[Bo,h];exact W2 (by decide)
def RelO.isSome_eq {o:Option V}{u:Yf} (r:RelO o u):o.isSome=u.isSome:=by
 cases o with
 |none=>cases u with
  |none=>rfl
  |some _=>exact(show False from r).elim
 |some _=>cases u with
  |none=>exact(show False from r).elim
  |some _=>rfl
def KV.val {f:List (κ×V)}{vs:List (κ×Value)} (r:KV f vs) (k:κ):RelO (Xi f k) (valueAt vs k):=by
 unfold KV at r
 induction r with
 |nil=>exact True.intro
 | @cons p q u g h t o=>
  obtain⟨n,s⟩:=h;by_cases e:p.1=k
  ·have l:q.1=k:=n.symm.trans e;have b:valueAt (q::g) k=some q.2:=by simp[valueAt,Vz,l]
   rw[Pa e,b];exact s
  ·have l:¬q.1=k:=λz=>e (n.trans z);have b:valueAt (q::g) k=valueAt g k:=by simp[valueAt,Vz,l]
   rw[KZ e,b];exact o
def KV.any {b:List (κ×V)}{vs:List (κ×Value)} (r:KV b vs) (k:κ):(b.any λf=>decide (f.1=k))=vs.any λf=>decide (f.1=k):=by
 unfold KV at r
 induction r with
 |nil=>rfl
 |cons h t g=>rw[VE,VE,g,h.1]
def KV.repl {f:List (κ×V)}{vs:List (κ×Value)} (r:KV f vs) (k:κ) {y:V}{u:Value} (l:RelV y u) :
  KV (f.map λb=>if b.1=k then(b.1,y)else b) (vs.map λb=>if b.1=k then(b.1,u)else b):=by
 unfold KV at r ⊢
 induction r with
 |nil=>exact .nil
 | @cons p q v s h t n=>
  rw[WQ,WQ];refine .cons ?_ n;obtain⟨g,o⟩:=h;by_cases e:p.1=k
  ·rw[W5 e,W5 (g.symm.trans e)];exact⟨g,l⟩
  ·rw[W2 e,W2 (λz=>e (g.trans z))];exact⟨g,o⟩
def KV.put {b:List (κ×V)}{vs:List (κ×Value)} (r:KV b vs) (k:κ) {y:V}{u:Value} (f:RelV y u):KV (putK b k y) (stored vs k u):=by
 unfold putK stored;rw[r.any k];by_cases e:(vs.any λg=>decide (g.1=k))=true
 ·rw[W5 e,W5 e];exact r.repl k f
 ·rw[W2 e,W2 e];exact Paired.snoc r ⟨rfl,f⟩
def KV.length {b:List (κ×V)}{vs:List (κ×Value)} (r:KV b vs):b.length=vs.length:=Paired.length r
end
def SQ{P:Program}{w:World}{k:Key}{u:Value}(r:RelV (kV k) u):(KL P w).is k u=true:=by
 cases k with
 |inl i=>obtain⟨t,e⟩:=(show ∃t,u=Value.int i t from r);subst e;exact Zbe P w i t
 |inr x=>obtain⟨t,e⟩:=(show ∃t,u=Value.str x t from r);subst e;exact Za9 P w x t
theorem E3{P:Program}{w:World}:∀{b:List Key}{us:Yb},Vals (b.map kV) us->ItemsAre (KL P w) b us
 |[],_,r=>by rw[List.map_nil]at r;cases r;exact .nil
 |k::b,_,r=>by
  rw[WQ]at r;cases r with
  |cons h t=>exact .cons (SQ h) (E3 t)
abbrev KT(H:Hp):List (List Key×V)->List (List Key×Addr×Value)->Prop:=Paired λp q=>p.1=q.1/\H q.2.1=some (.tup<|p.1.map kV)/\RelV p.2 q.2.2
def KT.val {H:Hp}{f:List (List Key×V)}{xs:List (List Key×Addr×Value)} (r:KT H f xs) (k:List Key):RelO (Xi f k) ((atKey xs k).map (·.2)):=by
 induction r with
 |nil=>exact True.intro
 | @cons p q u g h t o=>
  obtain⟨n,_,s⟩:=h;by_cases e:p.1=k
  ·have l:q.1=k:=n.symm.trans e;have b:atKey (q::g) k=some q.2:=by simp[atKey,Vz,l]
   rw[Pa e,b];exact s
  ·have l:¬q.1=k:=λz=>e (n.trans z);have b:atKey (q::g) k=atKey g k:=by simp[atKey,Vz,l]
   rw[KZ e,b];exact o
def KT.repl {H:Hp}{b:List (List Key×V)}{xs:List (List Key×Addr×Value)} (r:KT H b xs) (k:List Key) {y:V}{u:Value} (n:RelV y u) :
  KT H (b.map λg=>if g.1=k then(g.1,y)else g) (xs.map<|putAt k u):=by
 induction r with
 |nil=>exact .nil
 | @cons p q w v h t o=>
  rw[WQ,WQ];refine .cons ?_ o;obtain⟨f,l,s⟩:=h;unfold putAt;by_cases e:p.1=k
  ·rw[W5 e,W5 (f.symm.trans e)];exact⟨f,l,n⟩
  ·rw[W2 e,W2 (λz=>e (f.trans z))];exact⟨f,l,s⟩
def KT.put {H:Hp}{f:List (List Key×V)}{xs:List (List Key×Addr×Value)} (r:KT H f xs) (k:List Key) {b:Addr}{y:V}{u:Value} (l:H b=some (.tup<|k.map kV)) (g:RelV y u) :
  KT H (putK f k y) (storedH xs k b u):=by
 have e:(f.any λh=>decide (h.1=k))=(atKey xs k).isSome:=by
  rw[Bo,(r.val k).isSome_eq,JH]
 unfold putK storedH;rw[e];by_cases q:(atKey xs k).isSome=true
 ·rw[W5 q,W5 q];exact r.repl k g
 ·rw[W2 q,W2 q];exact Paired.snoc r ⟨rfl,l,g⟩
def KT.keeps {H H':Hp}{f:List (List Key×V)}{xs:List (List Key×Addr×Value)} (r:KT H f xs) (h:∀b g,H b=some (.tup g)->H' b=some (.tup g)):KT H' f xs:=
 Paired.mapP r λ_ _ z=>⟨z.1,h _ _ z.2.1,z.2.2⟩
section
variable {P:Program}{w:World}{H:Hp}{h:Heap}{a:Addr}
def LC{u:HO}(ok:HOk P w H h)(e:Rd H a u):ObjOk P w H h a u:=e.ok ok
def SU{b:List (Key×V)}(ok:HOk P w H h)(e:Rd H a (.dK b)):b.length<=sizeLine/\(a==sysModules)=false/\∃vs,KV b vs/\h.DictOf (KL P w) a vs:=
 show ObjOk P w H h a (.dK b)from LC ok e
def Zcn{b:List (Key×V)}(ok:HOk P w H h)(e:H a=some (.dK b)):b.length<=sizeLine/\(a==sysModules)=false/\∃vs,KV b vs/\h.DictOf (KL P w) a vs:=SU ok (.inl e)
def Nx{b:List Key}(ok:HOk P w H h)(e:H a=some (.tup<|b.map kV)):(tupleKind<|KL P w).is h b a:=by
 obtain⟨_,f,r,o,p,l,n,g⟩:=(show ObjOk P w H h a (.tup<|b.map kV)from ok a _ e)
 exact⟨o,f.toArray,n,p,l,g,by simpa using E3 r⟩
def Sm{b:List (List Key×V)}(ok:HOk P w H h)(e:Rd H a (.dT b)):b.length<=sizeLine/\(a==sysModules)=false/\
  ∃xs,KT H b xs/\h.DictOfH (tupleKind<|KL P w) a xs:=by
 obtain⟨z,y,xs,r,o,A,B,v,u,s,n,g⟩:=(show ObjOk P w H h a (.dT b)from LC ok e)
 refine⟨z,y,xs,r,o,A,B,v,u,s,n,λx hx=>?_,g⟩
 have all:∀{l:List (List Key×V)} {m:List (List Key×Addr×Value)},KT H l m->∀x∈m,(tupleKind<|KL P w).is h x.1 x.2.1:=by
  intro l m q
  induction q with
  |nil=>intro x hx;exact nomatch hx
  | @cons p q E C hq t f=>
   intro x hx;rcases WB.mp hx with e|hx
   ·subst e;exact Nx ok (by rw[←hq.1];exact hq.2.1)
   ·exact f x hx
 exact all r x hx
def BG{b:List (List Key×V)}(ok:HOk P w H h)(e:H a=some (.dT b)):b.length<=sizeLine/\(a==sysModules)=false/\
  ∃xs,KT H b xs/\h.DictOfH (tupleKind<|KL P w) a xs:=Sm ok (.inl e)
end
def DGet(H:Hp)(a:Addr)(y:V)(r:Option V):Prop:=
 (∃f k,Rd H a (.dK f)/\y=kV k/\r=Xi f k)\/∃f k b,Rd H a (.dT f)/\y=.ref b/\H b=some (.tup<|k.map kV)/\r=Xi f k
def DPut(H:Hp)(a:Addr)(y v:V)(H':Hp):Prop:=
 (∃f k,H a=some (.dK f)/\y=kV k/\f.length<sizeLine/\H'=upd H a (.dK<|putK f k v))\/
 ∃f k b,H a=some (.dT f)/\y=.ref b/\H b=some (.tup<|k.map kV)/\f.length<sizeLine/\H'=upd H a (.dT<|putK f k v)
def DGet.k {H:Hp}{a:Addr}{b:List (Key×V)}{k:Key} (e:H a=some (.dK b)):DGet H a (kV k) (Xi b k):=.inl ⟨b,k,.inl e,rfl,rfl⟩
def DGet.t {H:Hp}{a b:Addr}{f:List (List Key×V)}{k:List Key} (e:H a=some (.dT f)) (g:H b=some (.tup<|k.map kV)):DGet H a (.ref b) (Xi f k):=.inr ⟨f,k,b,.inl e,rfl,g,rfl⟩
def DPut.k {H:Hp}{a:Addr}{b:List (Key×V)}{k:Key}{v:V} (e:H a=some (.dK b)) (f:b.length<sizeLine):DPut H a (kV k) v (upd H a<|.dK<|putK b k v):=.inl ⟨b,k,e,rfl,f,rfl⟩
def DPut.t {H:Hp}{a b:Addr}{f:List (List Key×V)}{k:List Key}{v:V} (e:H a=some (.dT f)) (h:H b=some (.tup<|k.map kV)) (g:f.length<sizeLine) :
  DPut H a (.ref b) v (upd H a<|.dT<|putK f k v):=.inr ⟨f,k,b,e,rfl,h,g,rfl⟩
section
variable {X:Cx}{pins:ZW}{σ:St}{H:Hp}{s:Shared}{a:Addr}{y v:V}{u r:Value}{o:Option V}{A:Around}{E:ZY}
def Inv.big (I:Inv X pins σ H s):sysModules<s.heap.objs.size:=by
 have h:mainGlobals<s.heap.objs.size:=(I.mod.glob.keeps I.bk).lt;exact V6 (by decide) h
def Zcj{Q:ZY}(J:A.units+1<cLine)(I:Inv X pins σ H s)(g:DGet H a y (some v))(C:RelV y u)(h:∀n s',Inv X pins σ H s'->RelV v n->Q n s') :
  wpAny (model X.prog X.w) A (getItem (.ref a) u) Q E s:=by
 rcases g with⟨q,k,e,ey,l⟩|⟨q,k,b,e,ey,M,l⟩
 ·subst ey;obtain⟨z,hd,G,rel,B⟩:=SU I.hok e;obtain⟨n,hw,f⟩:=RelO.some_of (v:=v) (o:=valueAt G k) (by rw[l];exact rel.val k);exact wpAny_getItem_of (SQ C) B.mapOf hw (h n _ (I.tok _) f)
 ·subst ey;cases (show u=Value.ref b from C)
  obtain⟨z,hd,xs,rel,B⟩:=Sm I.hok e;obtain⟨n,hw,f⟩:=RelO.some_of (v:=v) (o:=(atKey xs k).map (·.2)) (by rw[l];exact rel.val k);obtain⟨p,L,x⟩:=Option.map_eq_some_iff.mp hw;refine wpAny_getItem_heap (VN J) (Nx I.hok M) B L ?_;rw[x];exact h n _ (I.tok _) f
def Zki{Q:ZY}(x:A.units+1<cLine)(I:Inv X pins σ H s)(g:DGet H a y o)(p:RelV y u)(h:∀s',Inv X pins σ H s'->Q (.bool o.isSome) s') :
  wpAny (model X.prog X.w) A (compareOp .In u<|.ref a) Q E s:=by
 rcases g with⟨f,k,e,ey,l⟩|⟨f,k,b,e,ey,B,l⟩
 ·subst ey;obtain⟨z,hd,C,rel,n⟩:=SU I.hok e;refine wpAny_in_of (SQ p) hd n.mapOf ?_;rw[←(rel.val k).isSome_eq,←l];exact h _ (I.tok _)
 ·subst ey;cases (show u=Value.ref b from p)
  obtain⟨z,hd,xs,rel,n⟩:=Sm I.hok e;refine wpAny_in_heap (VN x) (Nx I.hok B) hd n ?_;have q:=(rel.val k).isSome_eq;rw[JH]at q;rw[←q,←l];exact h _ (I.tok _)
def Zkj{Q:ZY}(x:A.units+1<cLine)(I:Inv X pins σ H s)(g:DGet H a y o)(p:RelV y u)(h:∀s',Inv X pins σ H s'->Q (.bool (!o.isSome)) s') :
  wpAny (model X.prog X.w) A (compareOp .NotIn u<|.ref a) Q E s:=by
 rcases g with⟨f,k,e,ey,l⟩|⟨f,k,b,e,ey,B,l⟩
 ·subst ey;obtain⟨z,hd,C,rel,n⟩:=SU I.hok e;refine wpAny_notIn_of (SQ p) hd n.mapOf ?_;rw[←(rel.val k).isSome_eq,←l];exact h _ (I.tok _)
 ·subst ey;cases (show u=Value.ref b from p)
  obtain⟨z,hd,xs,rel,n⟩:=Sm I.hok e;refine wpAny_notIn_heap (VN x) (Nx I.hok B) hd n ?_;have q:=(rel.val k).isSome_eq;rw[JH]at q;rw[←q,←l];exact h _ (I.tok _)
def Am{f:Heap}{t':Nat}{ob:HO}(I:Inv X pins σ H s)(g:Mut (H a))(h:Heap.SameBut a s.heap f)(l:∃q,f.get? a=some q)(new:ObjOk X.prog X.w (upd H a ob) f a ob) :
  Inv X pins σ (upd H a ob) {s with heap:=f,toks:=t'}:=
 I.write (x:=a) (e:=a) g (.inl rfl) (λb q n z=>(h.2 b n).trans z) l new
def Zel{P:Program}{w:World}{H':Hp}{f:Heap}{b:List (Key×V)}{vs:List (Key×Value)}(z:b.length<=sizeLine)(hd:(a==sysModules)=false)(rel:KV b vs)(dd:f.DictOf (KL P w) a vs) :
  ObjOk P w H' f a (.dK b):=⟨z,hd,vs,rel,dd⟩
def R3{H':Hp}{Q:Unit->Shared->Prop}(U:A.units+1<cLine)(I:Inv X pins σ H s)(g:DPut H a y v H')(J:RelV y u)(rv:RelV v r)(h:∀s',Inv X pins σ H' s'->Q () s') :
  wpAny (model X.prog X.w) A (setItem (.ref a) u r) Q E s:=by
 rcases g with⟨f,k,e,ey,l,C⟩|⟨f,k,b,e,ey,N,l,C⟩
 ·subst ey C;obtain⟨z,hd,T,rel,G⟩:=Zcn I.hok e;have p:T.length<=sizeLine:=by rw[←rel.length];exact z
  have B:(putK f k v).length<=sizeLine:=by have:=SR f k v;omega
  refine wpAny_setItem_pairs (hsz:=p) (SQ J) G λL n x=>h _ ?_;have Y:∃q,L.get? a=some q:=let ⟨q,_,_,hq,_⟩:=n;⟨q,hq⟩;exact Am I (by rw[e];exact True.intro) x Y (Zel B hd (rel.put k rv) n)
 ·subst ey C;cases (show u=Value.ref b from J)
  obtain⟨z,hd,xs,rel,G⟩:=BG I.hok e;have p:xs.length<=sizeLine:=by rw[←Paired.length rel];exact z
  have B:(putK f k v).length<=sizeLine:=by have:=SR f k v;omega
  refine wpAny_setItem_heap (hsz:=p) (VN U) (Nx I.hok N) G λL n x=>h _ ?_;obtain⟨q,es,ep,hq,h2,h3,h4,_,h5⟩:=n;refine Am I (by rw[e];exact True.intro) x ⟨q,hq⟩ ⟨B,hd,_,(rel.put k N rv).keeps λc ys M=>?_,q,es,ep,hq,h2,h3,h4,h5⟩;rw[Xa (HJ M e (λz=>nomatch z))];exact M
end
def GU(i:Expr):Prop:=∀b f,subscripted i false b f=operate [b,f] (getItem b f)
def Zce{prog:Program}{w:World}{A:Around}{E:ZY}{s:Shared}{env:Env}{value slice:Expr}{pos:Pos}{T id:String}{Q:ZY}(y:typeLookup (.type T) "__getitem__"=pure (some<|.builtin id))(v:GU slice)(h:wpAny (model prog w) A (eval value env) (λo l=>wpAny (model prog w) A (eval slice env) (λi b=>b.TypeIs o T/\wpAny (model prog w) A (getItem o i) Q E b) E l) E s) :
  wpAny (model prog w) A (eval (.Subscript value slice pos) env) Q E s:=by
 refine Subscript_ (Qh h (λo l q=>Qh q (λi b f=>?_) λ_ _ x=>x) λ_ _ x=>x);obtain⟨u,f⟩:=f;unfold subscriptTail;refine Wu ?_;rw[getitemInPython_of_ne u.not_modules];refine Wu (wpAny_specialOf u y ?_)
 have n:wpAny (model prog w) A (subscripted slice false o i) (λr g=>wpAny (model prog w) A (letTemporaryGo value o r >>= λ_=>pure r) Q E g) E b:=by
  rw[v o i];exact wpAny_operating (Qh f (λr g p=>Wu (wpAny_letTemporaryGo<|Wy p)) λ_ _ x=>x)
 first
  |exact Wy (Wu n)
  |exact Wu (Wy<|Wu n)
  |exact Wu n
def Ziw{X:Cx}{pins:ZW}{l:St}{H:Hp}{s:Shared}{a:Addr}{y:V}{o:Option V}(I:Inv X pins l H s)(g:DGet H a y o):s.TypeIs (.ref a) "dict":=by
 rcases g with⟨f,k,e,_,_⟩|⟨f,k,b,e,_,_,_⟩
 ·obtain⟨_,_,n,_,h⟩:=SU I.hok e;exact h.typeIs
 ·obtain⟨_,_,xs,_,h⟩:=Sm I.hok e;exact h.typeIs
noncomputable def G7(h g:TE):TE:=λb H Q=>h b H λx l=>g b l λy f=>∃a v,x=.ref a/\DGet f a y (some v)/\Q v f
noncomputable def DU(g h:TE):TE:=λb H Q=>g b H λy l=>h b l λx f=>∃a o,x=.ref a/\DGet f a y o/\Q (.bl o.isSome) f
noncomputable def GJ(g h:TE):TE:=λb H Q=>g b H λy l=>h b l λx f=>∃a o,x=.ref a/\DGet f a y o/\Q (.bl (!o.isSome)) f
noncomputable def Le(l g h:TE):TS:=λD b H=>h b H λv p=>l b p λx o=>g b o λy n=>∃a f,x=.ref a/\DPut n a y v f/\D.nx b f
section
variable {X:Cx}{o i e value:Expr}{pos pos' tpos:Pos}{td ty tv:TE}
def TQ(z:X.A.units+1<cLine)(C:PE X o td)(E:PE X i ty)(B:GU i):PE X (.Subscript o i pos) (G7 td ty):=by
 intro pins s f H Q I h;refine Zce PySem.F.slot_dict_getitem.lookup B (thn (C pins s f H _ I h) ?_);rintro u n ⟨x,M,J,q,w⟩;refine thn (E pins n f M _ J w) ?_;rintro Y U ⟨y,L,l,p,a,v,ex,g,r⟩;subst ex;obtain rfl:u=Value.ref a:=q;exact⟨Ziw l g,Zcj z l g p λN T G b=>⟨v,L,G,b,r⟩⟩
def Lr(v:X.A.units+1<cLine)(z:PE X i ty)(w:PE X o td):PC X .In i o (DU ty td):=by
 intro pins s b H Q I h;refine thn (z pins s b H _ I h) ?_;rintro N f ⟨y,J,E,l,q⟩;refine thn (w pins f b J _ E q) ?_;rintro u M ⟨x,G,C,n,a,r,ex,g,p⟩;subst ex;obtain rfl:u=Value.ref a:=n;exact Zki v C g l λL B=>⟨.bl r.isSome,G,B,rfl,p⟩
def OM(v:X.A.units+1<cLine)(z:PE X i ty)(w:PE X o td):PC X .NotIn i o (GJ ty td):=by
 intro pins s b H Q I h;refine thn (z pins s b H _ I h) ?_;rintro N f ⟨y,J,E,l,q⟩;refine thn (w pins f b J _ E q) ?_;rintro u M ⟨x,G,C,n,a,r,ex,g,p⟩;subst ex;obtain rfl:u=Value.ref a:=n;exact Zkj v C g l λL B=>⟨.bl (!r.isSome),G,B,rfl,p⟩
def Fe(E:X.A.units+1<cLine)(J:PE X o td)(L:PE X i ty)(C:PE X value tv)(G:swapsWith value (some<|.Subscript o i pos') pos.line X.env=pure false) :
  PS X (.Assign [.Subscript o i pos'] value pos) (Le td ty tv):=by
 intro pins s b H D I h;refine wpAny_Assign_Subscript (thn (C pins s b H _ I h) ?_) G;rintro r l ⟨v,H1,T,q,B⟩;refine thn (J pins l b H1 _ T B) ?_;rintro u f ⟨x,Y,Q,p,z⟩;refine thn (L pins f b Y _ Q z) ?_;rintro iv s3 ⟨y,H3,N,n,a,U,ex,g,w⟩;subst ex;obtain rfl:u=Value.ref a:=p;exact R3 E N g n q λs4 M=>⟨b,U,M,w⟩
end
def Zf2{P:Program}{w:World}{H:Hp}(h:Heap)(b:sysModules<h.objs.size):ObjOk P w H (h.push {cls:=.type "dict",data:=.dict #[]}) h.objs.size (.dK []):=
 ⟨QM _,Va.mpr (Ne.symm<|WS b),[],.nil,Heap.DictOf.new h⟩
def Ge{P:Program}{w:World}{H:Hp}(h:Heap)(b:sysModules<h.objs.size):ObjOk P w H (h.push {cls:=.type "dict",data:=.dict #[]}) h.objs.size (.dT []):=
 ⟨QM _,Va.mpr (Ne.symm<|WS b),[],.nil,_,#[],0,WE _ rfl,⟨rfl,rfl,rfl⟩,rfl,rfl,QI⟩
noncomputable def Ej:TE:=λ_ H Q=>∀p,H p=none->Q (.ref p) (upd H p<|.dK [])
noncomputable def Hc:TE:=λ_ H Q=>∀p,H p=none->Q (.ref p) (upd H p<|.dT [])
section
variable {X:Cx}{pos:Pos}
def MG:PE X (.Dict [] [] pos) Ej:=λpins s b H Q I h=>
 wpAny_Dict_empty ⟨.ref s.heap.objs.size,_,I.laid (a:=s.heap.objs.size) (o:=.dK []) (t':=s.toks) (λ_ _ q=>Wz _ q) (W3 _) (Zf2 s.heap I.big),rfl,h _ (I.hok.fresh<|W3 _)⟩
def Zju:PE X (.Dict [] [] pos) Hc:=λpins s b H Q I h=>
 wpAny_Dict_empty ⟨.ref s.heap.objs.size,_,I.laid (a:=s.heap.objs.size) (o:=.dT []) (t':=s.toks) (λ_ _ q=>Wz _ q) (W3 _) (Ge s.heap I.big),rfl,h _ (I.hok.fresh<|W3 _)⟩
end
def Es:List (TE×TE)->St->Hp->(List (V×V)->Hp->Prop)->Prop
 |[],_,H,Q=>Q [] H
 |(g,f)::r,b,H,Q=>g b H λx o=>f b o λy n=>Es r b n λh l=>Q ((x,y)::h) l
abbrev VV:List (V×V)->List (Value×Value)->Prop:=Paired λp q=>RelV p.1 q.1/\RelV p.2 q.2
def PPs(X:Cx)(pos:Pos)(keys:List (Option Expr))(values:Yd)(f:List (TE×TE)):Prop:=
 ∀(pins:ZW) (s:Shared) (b:St) (H:Hp) (Q:List (V×V)->Hp->Prop),Inv X pins b H s->Es f b H Q->
  wpAny (model X.prog X.w) X.A (evalPairs<|pairTrees keys values X.env pos) (λl n=>∃g h,Inv X pins b h n/\VV g l/\Q g h) X.xe s
def Ze2{X:Cx}{pos:Pos}:PPs X pos [] [] []:=λpins s b H Q I h=>pairTrees_nil_walk ⟨[],H,I,.nil,h⟩
def Zao{X:Cx}{pos:Pos}{k v:Expr}{n:List (Option Expr)}{vs:Yd}{l g:TE}{b:List (TE×TE)}(G:PE X k l)(C:PE X v g)(E:PPs X pos n vs b) :
  PPs X pos (some k::n) (v::vs) ((l,g)::b):=λpins s f H Q I h=>
 pairTrees_cons_walk (thn (G pins s f H _ I h) λu p ⟨x,U,M,r,A⟩=>thn (C pins p f U _ M A) λw2 o ⟨y,T,L,q,z⟩=>
  thn (E pins o f T _ L z) λY s3 ⟨B,N,J,rel,w⟩=>⟨(x,y)::B,N,J,.cons ⟨r,q⟩ rel,w⟩)
end L2
set_option genInjectivity false
set_option genSizeOfSpec false
namespace Own
open PySem PySem.Spec PyProof.Rows L2
structure Def (K:ZT) (mg:ZX) (x:Str) (st:Stmt) (ps:Yc):Prop where
 ex:∃f fd,Fun K x x st f fd/\mg x=some (.ref f)/\Binds K fd ps []
structure Callee (P:Program) (w:World) (K:ZT) (mg:ZX) (base:Heap) (CX:CXT) (k:Nat) (x:Str) (ps:Yc) (sp:Sp):Prop where
 ex:∃f fd,Ki P w K mg base CX k f fd ps sp/\mg x=some (.ref f)/\PySem.W.keepIn K (.ref f)=true/\(∃o:Obj,K.lookup f=some o/\o.data=.func fd)/\Binds K fd ps []
section
variable {P:Program}{w:World}{K:ZT}{mg:ZX}{base:Heap}
def Callee.at {st f b k ps sp} (C:Callee P w K mg base CX k x ps sp) (s:mg x=some (.ref f)) (F:Fun K x x st f b) (_:Def K mg x st ps):Ki P w K mg base CX k f b ps sp:=by
 obtain⟨v,l,A,h,_,u,_⟩:=C.ex;obtain⟨oc,q,kV,n,p,z,o,y,g,_,r,_⟩:=F.ex
 grind
def Def.ok {st N ps k sp} (D:Def K mg x st ps) (S:UZ N ps (UY st)) (len:∀vs H Q E,sp vs H Q E->vs.length=ps.length)
  (g:∀f b A outer s H vs Q E,Xh k (A.deeper<|envOfC x (UY st) s.heap.objs.size f b)->sp vs H Q E->
   ∃t,PSs (X6 CX0 P w K mg base N x (UY st) f b A outer s H E).nox (Xw st) t/\t {nx:=λ_ H'=>Q .non H',rt:=Q} (start N vs) H):Callee P w K mg base CX0 (k+1) x ps sp:=by
 obtain⟨f,q,F,o,p⟩:=D.ex;refine⟨f,q,F.ok S len λb A outer s H vs Q E n h=>g f b A outer s H vs Q E n h,o,F.kp,?_,p⟩;obtain⟨oc,v,kV,r,u,B,b,z,l,_,y,_⟩:=F.ex
 grind
end
section
variable {X:Cx}{CX:CXT}{k:Nat}{ps:Yc}{sp:Sp}{E:XK}{x:Str}{p pos:Pos}{e:Expr}{es:Yd}{t:TA}
def An(C:Callee X.prog X.w X.K X.mg X.base CX k x ps sp)(h:Xh k X.A)(hx:K7 CX X E)(s:PA X (e::es) t)(o:autoParam (Gl X x) au_0)(g:autoParam ((x==("__debug__" : Str))=false) au_1)(q:autoParam (starEach (e::es) X.env=(false,eval e X.env)::starEach es X.env) au_0)(b:autoParam ((backTo pos<|starEach es X.env).any (·.1)=false) au_0) :
  PE X (.Call (.Name x p) (e::es) [] pos) (NI sp [] E t):=by
 obtain⟨f,u,F,l,n,_,r⟩:=C.ex;exact Zmd F h o l n r .nil hx s g q b
def Za4:XM X (.builtin "isinstance") (λxs H Q=>∃x n t b,xs=[x,.ty n]/\Kq X.K H x t/\PySem.W.kitOne X.K t (.type n)=some b/\Q (.bl b) H):=by
 intro pins s w H xs y Q I o h;obtain⟨x,n,t,b,rfl,g,e,q⟩:=h;cases o with
 |cons r u=>
  cases u with
  |cons v f=>
   cases f
   obtain rfl:=v;exact Zb2 I r g e λl=>⟨.bl b,H,I.tok l,rfl,q⟩
def D7:IxR X (λx y H Q=>SS X.K x y H Q\/Bb X.K x y H Q):=ix_list.or Zdn
end
noncomputable def Mu(t u:TS):TS:=λD g H=>∃J:L2.St->Hp->Prop,t {D with nx:=J} g H/\∀b f,J b f->u D b f
def Zh4{st rest t u}(p:PS X st t)(o:PSs X rest u):PSs X (st::rest) (Mu t u):=by
 intro pins s l H D I h;obtain⟨J,h,k⟩:=h;refine wpAny_execs_cons (thn (p pins s l H {D with nx:=J} I h) λf n q=>?_)
 cases f with
 |next=>
  obtain⟨b,g,r,q⟩:=q;exact o pins n b g D r (k b g q)
 |_=>exact q
def Zmn(K:ZT)(n:String):PySem.W.kitOne K (.type n) (.type n)=some true:=by
 unfold PySem.W.kitOne;simp
def P3{xs i v}(h:atI xs i=some v):atI (xs.map f) i=some (f v):=by
 unfold atI at h ⊢;cases e:ixN xs.length i with
 |_=>grind
def BZ{i v}(b:0<=i)(h:xs[i.toNat]?=some v):atI xs i=some v:=by
 have:=SL h
 grind
def X4(h:H a=none):Same H (upd H a o):=λb u e=>by rw[Xa (Xy e h)];exact e
def Same.upd (S:Same H H') (h:H a=none):Same H (upd H' a o):=λb u e=>by rw[Xa (Xy e h)];exact S b u e
def Same.new (S:Same H H') (h:H' a=none):Same H (L2.upd H' a o):=Own.Same.upd S (S.free h)
def Zaq(names:List (Str×NameKind))(f:∀x∈names,x.2=.free->∃c,env.cells.lookup x.1=some c):∀b,(∀x c,b.lookup x=some c->env.cells.lookup x=some c)->
  ∃g,(forIn names b (λx w=>if (x.2 == .free)=true then(do let c ←cellOf env x.1;pure (ForInStep.yield ((x.1,c)::w)))else pure (ForInStep.yield w)):Sem (List (Str×Addr)))=pure g/\
   (∀x c,g.lookup x=some c->env.cells.lookup x=some c)/\(∀x,(∃c,b.lookup x=some c)->∃c,g.lookup x=some c)/\∀x∈names,x.2=.free->∃c,g.lookup x.1=some c:=by
 induction names with
 |nil=>
  intro b p;exact⟨b,rfl,p,λ_ h=>h,λx hx=>by cases hx⟩
 |cons y r z=>
  intro b p;have l:=z λx hx=>f x (WT _ hx);obtain⟨n,k⟩:=y;by_cases u:k=.free
  ·subst u;obtain⟨c,v⟩:=f (n,.free) WU rfl
   have A:∀x d,List.lookup x ((n,c)::b)=some d->env.cells.lookup x=some d:=λx d e=>by
    rw[QG]at e;by_cases hx:x=n
    ·subst hx;simp at e;subst e;exact v
    ·have:(x==n)=false:=by simpa using hx
     rw[this]at e;exact p x d e
   obtain⟨g,e,s,p2,q⟩:=l ((n,c)::b) A;refine⟨g,?_,s,λx hx=>p2 x ?_,λx hx o=>?_⟩
   ·rw[List.forIn_cons];have B:cellOf env n=pure c:=by unfold cellOf;rw[v]
    rwa[B]
   ·rw[QG];cases (x==n)
    ·exact hx
    ·exact⟨c,rfl⟩
   ·rcases WB.mp hx with rfl|hx
    ·exact p2 n ⟨c,by simp[QG]⟩
    ·exact q x hx o
  ·obtain⟨g,e,s,p2,q⟩:=l b p;refine⟨g,?_,s,p2,λx hx o=>?_⟩
   ·grind
   ·rcases WB.mp hx with rfl|hx
    ·exact absurd o u
    ·exact q x hx o
def Zhe{sc}(b:∀x∈sc.names,x.2=.free->∃c,env.cells.lookup x.1=some c) :
  ∃f,closureFor sc env=pure f/\(∀x c,f.lookup x=some c->env.cells.lookup x=some c)/\∀x∈sc.names,x.2=.free->∃c,f.lookup x.1=some c:=by
 obtain⟨f,e,l,_,g⟩:=Zaq sc.names b [] (λx c h=>by cases h);unfold closureFor
 grind
noncomputable def XJ(X:Cx)(N':Yc)(g:Scope)(h:List (Str×Addr))(C:Addr)(b:Shared)(f:Hp)(ex:List Addr):Cx:=
 {X with N:=N',s₀:=b,H₀:=f,env:=compEnvC g h C X.env,outer:=X.stack,ex:=ex,fn:=λ_=>false,pn:=[],xe:=λ_ _=>False}
structure Nw (X:Cx) (N':Yc) (φ:ZZ) (sc:Scope):Prop where
 kind:sc.kind=.function
 okind:X.env.scope.kind=.function
 nocell:∀y∈sc.names,y.2≠.cell
 names:∀y∈sc.names,y.2=.local->sc.names.lookup y.1=some .local
 frees:∀y∈sc.names,y.2=.free->X.env.scope.names.lookup y.1=some .cell
 len:φ.length=N'.length
 pick:∀(i:Nat) (x:Str) (j:Nat),N'[i]?=some x->φ[i]?=some (some j)->X.N[j]?=some x/\sc.names.lookup x=some .free
noncomputable def atStart(φ:ZZ)(b:L2.St):L2.St:=φ.map λo=>o.bind λj=>(b[j]?).join
def Sub(f b:L2.St):Prop:=b.length=f.length/\∀(i:Nat) (v:V),f[i]?=some (some v)->b[i]?=some (some v)
def Sub.refl:Sub b b:=⟨rfl,λ_ _ h=>h⟩
def Sub.skip (h:Sub f b):Sub (none::f) (x::b):=by
 refine⟨by simp[h.1],λi v e=>?_⟩;cases i with
 |zero=>grind
 |succ i=>simp at e ⊢;exact h.2 i v e
theorem GF{env:Env}(o:env.scope.kind=.function):∀{names:List (Str×NameKind)}{x:Str},names.lookup x=some .free->env.scope.names.lookup x=some .cell->
  (names.map λ(n,k)=>if (k==NameKind.free&&env.scope.kind == .function&&env.kindOf n==some .cell)then(n,NameKind.cell)else(n,k)).lookup x=some .cell
 |[],_,h,_=>by simp at h
 |(n,k)::r,x,h,f=>by
  have g:=@GF env o r x;show List.lookup x ((if (k==NameKind.free&&env.scope.kind == .function&&env.kindOf n==some .cell)=true then(n,NameKind.cell)else(n,k))::_)=_;cases hx:x==n with
  |true=>
   have l:env.kindOf x=some .cell:=f;simp_all
  |false=>
   simp only[QG,hx]at h;by_cases b:(k==NameKind.free&&env.scope.kind == .function&&env.kindOf n==some .cell)=true
   ·rw[W5 b];simp only[QG,hx];exact g h f
   ·rw[W2 b];simp only[QG,hx];exact g h f
theorem AD{env:Env}:∀{names:List (Str×NameKind)}{x}{q:NameKind},
  (names.map λ(n,k)=>if (k==NameKind.free&&env.scope.kind == .function&&env.kindOf n==some .cell)then(n,NameKind.cell)else(n,k)).lookup x=some q->∃k,(x,k)∈names/\(q=k\/k=.free)
 |[],_,_,h=>by simp at h
 |(n,k)::r,x,q,h=>by
  have f:List.lookup x ((if (k==NameKind.free&&env.scope.kind == .function&&env.kindOf n==some .cell)=true then(n,NameKind.cell)else(n,k))::(r.map λ(n,k)=>if (k==NameKind.free&&env.scope.kind == .function&&env.kindOf n==some .cell)then(n,NameKind.cell)else(n,k)))=some q:=h;cases hx:x==n with
  |true=>
   have e:x=n:=by simpa using hx
   subst e;by_cases b:(k==NameKind.free&&env.scope.kind == .function&&env.kindOf x==some .cell)=true
   ·simp_all
   ·simp_all
  |false=>
   have o:List.lookup x (r.map λ(n,k)=>if (k==NameKind.free&&env.scope.kind == .function&&env.kindOf n==some .cell)then(n,NameKind.cell)else(n,k))=some q:=by
    by_cases b:(k==NameKind.free&&env.scope.kind == .function&&env.kindOf n==some .cell)=true
    ·rw[W5 b]at f;simp only[QG,hx]at f;exact f
    ·rw[W2 b]at f;simp only[QG,hx]at f;exact f
   obtain⟨g,l,hq⟩:=(@AD env r x q) o;exact⟨g,WT _ l,hq⟩
def Zgj{H target iter B scope pos L J env}(I:Nat->Shared->Prop)
  (turn:∀n s,I n s->wpAny (model prog w) A (pyNext L) (λr g=>match r with
   |none=>R (.ok .next) g
   |some v=>wpAny (model prog w) A (letOwnedTupleGo target L v) (λ_ f=>wpAny (model prog w) A (assign target env v) (λ_ q=>
     wpAny (model prog w) A (forIn B true λc r=>if r=true then do let ok ←isTrue c env (eval c env);pure (ForInStep.yield ok)else pure (ForInStep.yield r)) (λok b=>
      if ok=true then wpAny (model prog w) A (eval H env) (λx p=>
       wpAny (model prog w) A (call (.builtin "list.append") [J,x]) (λ_ o=>∃m,m<n/\I m o) (λ_ _=>False) p) (λ_ _=>False) b
      else ∃m,m<n/\I m b) (λ_ _=>False) q) (λ_ _=>False) f) (λ_ _=>False) g) (λ_ _=>False) s)
  (n:Nat) (h:I n s) :
  codeAny (model prog w) A (.compLoop (.ListComp H [⟨target,iter,B,0⟩] scope pos) 0 L J env) R s:=by
 refine codeAny_loop rfl I (λn s M=>?_) n h;refine wpAny_noted ?_;rw[compTurn_list];refine Wu (VD<|Wu (Qh (turn n s M) (λr g y=>?_) λ_ _ l=>l.elim));cases r with
 |none=>exact Wy y
 |some v=>
  refine Wu (Qh y (λ_ f z=>?_) λ_ _ l=>l.elim);refine Wu (Qh z (λ_ q G=>Wu (Qh G (λok b u=>?_) λ_ _ l=>l.elim)) λ_ _ l=>l.elim);cases ok with
  |false=>exact Wy ⟨rfl,u⟩
  |true=>
   exact Wu (Wu (Qh u (λx p E=>Wu (Qh E (λ_ o C=>Wy (Wy ⟨rfl,C⟩)) λ_ _ l=>l.elim)) λ_ _ l=>l.elim))
def Nc(X:Cx)(f:Yd)(t:TT):Prop:=
 ∀(pins:ZW) (s:Shared) (b:L2.St) (H:Hp) (Q:Bool->Hp->Prop),Inv X pins b H s->t b H Q->
  wpAny (model X.prog X.w) X.A (forIn f true λc r=>if r=true then do let ok ←isTrue c X.env (eval c X.env);pure (ForInStep.yield ok)else pure (ForInStep.yield r)) (TP X pins b Q) X.xe s
noncomputable def El:TT:=λ_ H Q=>Q true H
def Na:Nc X [] El:=λ_ _ _ H _ I h=>Wy ⟨H,I,h⟩
def SC(g:PT X c t):Nc X [c] t:=by
 intro pins s f H Q I h;rw[List.forIn_cons];refine Wu ?_;exact Wu (thn (g pins s f H Q I h) λb l q=>Wy (Wy q))
noncomputable def SB(φ:ZZ)(u:TI)(g:TG)(tc:TT)(te:TE):TE:=λo H Q=>u o H λJ s=>∀D,s D=none->∃W:Nat->Nat->List V->Hp->Prop,(∃m,W 0 m [] (upd s D<|.lst []))/\
 ∀i m h n,W i m h n->(J.stop i n/\Q (.ref D) n)\/(J.go i n/\∀x r,J.yld i n x r->g x (atStart φ o) r λf v=>Sub (atStart φ o) f/\tc f v λb q=>
  if b=true then te f q λy p=>p D=some (.lst h)/\h.length<sizeLine/\∃l,l<m/\W (i+1) l (h++[y]) (upd p D<|.lst (h++[y]))else ∃l,l<m/\W (i+1) l h q)
def Inv.weak {f b:L2.St}{H}{s} (I:Inv X pins b H s) (S:Sub f b):Inv X pins f H s:=
 ⟨I.ok,I.os,I.bare,I.base,let ⟨m,g,h⟩:=I.loc;⟨m,g,λi x v o n l=>h i x v o (S.2 i v n) l⟩,I.cell,I.free,I.freeC,I.pin,I.hok,by rw[←S.1];exact I.len⟩
def En{i:Nat}{v}(h:(atStart φ b)[i]?=some (some v)):∃j,φ[i]?=some (some j)/\b[j]?=some (some v):=by
 unfold atStart at h;cases e:φ[i]? with
 |none=>grind
 |some o=>
  cases o with
  |_=>grind
def CompEnd(X:Cx)(pins:ZW)(g:L2.St)(Q:VK)(use:Option (Value->Sem Unit))(h:ZY):Prop:=
 ∀(D C:Addr) (f:Hp) (b:Shared),Q (.ref D) f->Inv X pins g f b->(∃m,b.heap.Ns C m)->f C=none->C≠X.env.locals->X.s₀.heap.objs.size<=C->(∀x c,X.env.cells.lookup x=some c->c≠C)->(∀p∈X.pn++pins,p.1≠C)->C∉X.fs->
  compPost (model X.prog X.w) X.A X.xe use h (.ref D) C (.ok .next) b
def Hz{elt iter tg}{ifs}{pos pos'}{wi}{g}{tc}{te}{use}{QQ}(hcalm:X.calm=true)(S:Nw X N' φ G)(hi:PI X tg iter wi)(hin:∀U C s₃ H₃ ex,PG (XJ X N' G U C s₃ H₃ ex) tg g/\Nc (XJ X N' G U C s₃ H₃ ex) ifs tc/\PE (XJ X N' G U C s₃ H₃ ex) elt te)(hs:∀x,foldedSetIterable iter X.env x=pure x){pins}{s}{σ:L2.St}{H}{Q}(I:Inv X pins σ H s)(h:SB φ wi g tc te σ H Q)(fin:CompEnd X pins σ Q use QQ) :
  wpAny (model X.prog X.w) X.A (comprehension (.ListComp elt [⟨tg,iter,ifs,0⟩] G pos) G X.env pos' (newList []) false (eval iter X.env) use) QQ X.xe s:=by
 obtain⟨U,hcl,p1,p3⟩:=Zhe λx hx hf=>I.ok.has x.1 (.inl<|S.frees x hx hf);refine wpAny_comprehension_free rfl hs hcl S.kind S.names ?_;refine thn (hi pins s σ H _ I h) λv s1 h1=>thn h1 λitv s2 h2=>?_;obtain⟨it,L,tn,J,H2,e,I2,T,st2,f2,hR⟩:=h2;subst e;refine Qo ?_;have hf:=I2.hok.fresh (W3 _);obtain⟨W,⟨m0,w0⟩,turn⟩:=hR s2.heap.objs.size hf;generalize eD:s2.heap.objs.size=D at *
 have I3:Inv X pins σ (upd H2 D<|.lst []) {s2 with heap:=s2.heap.push {cls:=.type "list",dict:=none,data:=.seq ([]:Yb).toArray}}:=
  I2.laid (λb u e=>Wz _ e) (Vg eD) ⟨QM _,[],0,.nil,by rw[←eD];exact WE _ rfl⟩
 have st3:tn 0 (s2.heap.push {cls:=.type "list",dict:=none,data:=.seq ([]:Yb).toArray}):=T.keep _ _ _ st2 λb _ o e=>Wz _ e
 have hfpD:∀b∈L,b≠D:=λb f z=>by
  obtain⟨o,ho,_⟩:=T.obj _ _ st2 b f
  have:=W8 ho
  rw[z,←eD]at this;exact QE _ this
 have f3:∀b∈L,Tq X pins (upd H2 D<|.lst []) b:=λb f=>⟨by rw[Xa (hfpD b f)];exact(f2 b f).1,(f2 b f).2⟩;generalize es3:({s2 with heap:=s2.heap.push {cls:=.type "list",dict:=none,data:=.seq ([]:Yb).toArray}}:Shared)=l at *
 have st3':tn 0 l.heap:=by rw[←es3];exact st3
 generalize eH3:upd H2 D (.lst [])=H3 at *;refine wpAny_newFunctionEnv S.nocell (by intro y hy;simp at hy) (λh₁ E B=>?_) S.kind;have hh3:l.heap=s2.heap.push {cls:=.type "list",dict:=none,data:=.seq ([]:Yb).toArray}:=by rw[←es3]
 rw[hh3]at E B;rw[←hh3]at E B;have old:=λb o e=>B.extBut b o (WS<|W8 e) (Wz _ e)
 have hC0:l.heap.get? l.heap.objs.size=none:=by
  cases e:l.heap.get? l.heap.objs.size with
  |none=>rfl
  |some o=>exact absurd (W8 e) (QE _)
 generalize eC:l.heap.objs.size=C at *;have hH3C:=I3.hok.fresh (Vg eC)
 have OK:(XJ X N' G U C l H3 L).Ok:=by
  refine⟨I.ok.mod,?_,I.ok.glob,I.ok.blt,Vg eC,λx y c h1 h2=>I.ok.inj x y c (p1 x c h1) (p1 y c h2),?_,(λx c hx=>by cases hx),I.ok.hd,I.ok.frames,.inl rfl,?_,I3.bs,W9 I.ok.bsz I3.sz,?_,?_,I3.stack,I3.stkFree⟩
  ·exact S.kind
  ·intro x hx;have hx':=hx.imp AD AD
   have hfr:(x,NameKind.free)∈G.names:=by
    rcases hx' with⟨k,hm,rfl|rfl⟩|⟨k,hm,rfl|rfl⟩
    ·exact absurd rfl (S.nocell _ hm)
    ·exact hm
    ·exact hm
    ·exact hm
   exact p3 _ hfr rfl
  ·intro b f;refine⟨λz=>?_,λx c hx=>(f3 b f).2.2.2.2.1 x c (p1 x c hx)⟩;obtain⟨o,ho,_⟩:=T.obj _ _ st3' b f;have z':b=C:=z;rw[z',hC0]at ho;cases ho
  ·intro b o f hx;obtain⟨_,_,_,q,_,_⟩:=f3 b hx;rcases q with q|q
   ·exact I.ok.noex b o f q
   ·have:=WZ (W8 f) (W9 I.ok.bsz q)
    exact QE _ this
  ·intro b f hz;rcases WB.mp (I.stkSub b hz)with q|q
   ·exact(f3 b f).2.1 q
   ·exact(f3 b f).2.2.1 q
 have hlen0:(atStart φ σ).length=N'.length:=by unfold atStart;rw[Wv];exact S.len
 have I4:Inv (XJ X N' G U C l H3 L) [] (atStart φ σ) H3 {l with heap:=h₁,toks:=l.toks+([]:List (Str×Value)).length}:=by
  refine⟨OK,rfl,I3.bare,Un.kept old,⟨_,E,λi x v h1 h2 h3=>?_⟩,λx c hx=>?_,hH3C,λx c hx=>I3.freeC x c (p1 x c hx),λp hp=>?_,I3.hok.kept old,hlen0⟩
  ·obtain⟨j,hj,hv⟩:=En h2;obtain⟨hN,hfr⟩:=S.pick i x j h1 hj;obtain⟨m,_,hl⟩:=I3.loc;have hm:=Vb hfr;have M:=S.frees _ hm rfl;obtain⟨u,ru,lk⟩:=hl j x v hN hv (.inr<|.inl M);refine⟨u,ru,.inr ⟨.inl (GF S.okind hfr M),?_⟩⟩;obtain⟨c,hc⟩:=p3 _ hm rfl;rcases lk with⟨hk,_⟩|⟨_,c',hc',hcl'⟩
   ·have hk':X.env.scope.names.lookup x=some .local:=hk;rw[M]at hk';cases hk'
   ·have e:=p1 _ _ hc;rw[hc']at e;cases e
    obtain⟨o,ho,hd⟩:=hcl';exact⟨_,hc,o,old _ o ho,hd⟩
  ·obtain⟨v,hv⟩:=I3.cell x c (p1 x c hx);obtain⟨o,ho,hd⟩:=hv;exact⟨v,o,old _ o ho,hd⟩
  ·exact absurd hp (by simp[XJ])
 have st4:=T.keep _ _ _ st3' λb _ o e=>old b o e
 have stat:∀{H':Hp},(∀b∈L,H' b=none)->∀b∈L,Tq (XJ X N' G U C l H3 L) [] H' b:=λhn b f=>
  ⟨hn b f,(OK.exf b f).1,OK.exfs b f,.inl f,(OK.exf b f).2,λp hp=>absurd hp (by simp[XJ])⟩
 obtain⟨hPG,hPI,hPE⟩:=hin U C l H3 L
 have loop:codeAny (model X.prog X.w) X.A (.compLoop (.ListComp elt [⟨tg,iter,ifs,0⟩] G pos) 0 (.ref it) (.ref D)<|compEnvC G U C X.env) (compPost (model X.prog X.w) X.A X.xe use QQ (.ref D) C) {l with heap:=h₁,toks:=l.toks+([]:List (Str×Value)).length}:=by
  refine Zgj (λn s'=>∃i ys σ' H',Inv (XJ X N' G U C l H3 L) [] σ' H' s'/\Sub (atStart φ σ) σ'/\tn i s'.heap/\(∀b∈L,H' b=none)/\W i n ys H') ?_ m0 ⟨0,[],_,_,I4,Sub.refl,st4,λb f=>(f3 b f).1,w0⟩;rintro n s5 ⟨i,ys,σ5,H5,I5,sub5,st5,fr5,w5⟩;have I5':=Own.Inv.weak I5 sub5;rcases turn i n ys H5 w5 with⟨stop,qn⟩|⟨go,step⟩
  ·refine thn (T.done (XJ X N' G U C l H3 L) rfl rfl rfl hcalm i [] s5 _ H5 _ I5' (stat fr5) st5 stop) ?_;rintro r s6 ⟨hr,I6⟩;subst hr;obtain⟨m,hn,_⟩:=I6.loc;obtain⟨hh,gg,dd,tt,oo⟩:=s6;obtain rfl:=I6.os;have R:Inv X pins σ H5 {l with heap:=hh,gens:=gg,drawn:=dd,toks:=tt}:=I3.call I6.base I6.hok I6.bare λb f=>⟨(f3 b f).2.2.2.1,(f3 b f).2.1,(f3 b f).2.2.2.2.1,(f3 b f).2.2.2.2.2⟩
   have hC3:=Vg eC;obtain⟨q0,q1,q2,q3,q4,q5⟩:=I3.fpOk hC3 hH3C;refine fin D C H5 _ qn R ⟨m,hn⟩ I6.free q1 (W9 I3.sz hC3) q4 q5 q2
  ·refine thn (T.item (XJ X N' G U C l H3 L) rfl rfl rfl hcalm i [] s5 _ H5 _ I5' (stat fr5) st5 go) ?_;rintro r s6 ⟨u,hr,h6⟩;subst hr;refine thn h6 ?_;rintro _ s7 ⟨x,H7,I7,r7,y7,st7,fr7⟩;have I7':=I7.pinned (stat fr7) (T.obj _ _ st7);refine thn (hPG _ s7 _ H7 x u _ I7' r7<|step x H7 y7) ?_;rintro _ s8 ⟨σ8,H8,I8,sub8,q8⟩;refine thn (hPI _ s8 σ8 H8 _ I8 q8) ?_;rintro ok s9 ⟨H9,I9,q9⟩
   have again:∀{Y:Shared} {N:Hp} {ys':List V} {m':Nat},Inv (XJ X N' G U C l H3 L) ([]++Sj L s7.heap) σ8 N Y->W (i+1) m' ys' N->∃i ys σ' H',Inv (XJ X N' G U C l H3 L) [] σ' H' Y/\Sub (atStart φ σ) σ'/\tn i Y.heap/\(∀b∈L,H' b=none)/\W i m' ys H':=λ{Y N ys' m'} J10 w10=>by
    refine⟨i+1,ys',σ8,N,J10.unpinned,sub8,T.keep _ _ _ st7 λb f o e=>(J10.pin (b,o)<|WV _<|WV _<|F0 f e).1,λb f=>?_,w10⟩;obtain⟨o,e,d⟩:=T.obj _ _ st7 b f;exact(J10.pin (b,o)<|WV _<|WV _<|F0 f e).2.1
   cases ok with
   |false=>
    obtain⟨m',hm,w'⟩:=q9;exact⟨m',hm,again I9 w'⟩
   |true=>
    refine thn (hPE _ s9 σ8 H9 _ I9 q9) ?_;rintro xv Y ⟨y,N,I10,r10,hD,hl,m',hm,w'⟩;refine thn (NG _ Y σ8 N (.ref D) [y] (.ref D) [xv] (λ_ H11=>H11=upd N D (.lst (ys++[y]))) I10 rfl (.cons r10 .nil) ⟨D,ys,y,rfl,rfl,hD,hl,rfl⟩) ?_;rintro _ s11 ⟨_,H11,I11,_,e11⟩;subst e11;exact⟨m',hm,again I11 w'⟩
 refine codeAny_compStart_list loop (T.self _ 0 _ _ _ st4 loop)
def A4{r iter v p pos z g tc te}(n:X.calm=true)(S:Nw X N' φ u)(J:PI X v iter z)(w:∀y C f l ex,PG (XJ X N' u y C f l ex) v g/\Nc (XJ X N' u y C f l ex) p tc/\PE (XJ X N' u y C f l ex) r te)(B:autoParam (∀x,foldedSetIterable iter X.env x=pure x) au_3):PE X (.ListComp r [⟨v,iter,p,0⟩] u pos) (SB φ z g tc te):=by
 intro pins s σ H Q I h;refine Hz n S J w B I h λD C H5 s6 q R G Y U T N M c5=>?_;obtain⟨m,E⟩:=G;exact⟨m,E,λh' A=>⟨.ref D,H5,R.turned (λb o L e=>A.extBut b o L e) Y U (.inr T) N M,rfl,q⟩⟩
def Zad{u iter A n pos spos py M g tc te i y}(hN:X.N.Nodup)(hy:X.N[i]?=some y)(Q:X.env.scope.names.lookup y=some .local)(r:X.calm=true)(S:Nw X N' φ w)(hi:PI X A iter M)(G:∀L C f l ex,PG (XJ X N' w L C f l ex) A g/\Nc (XJ X N' w L C f l ex) n tc/\PE (XJ X N' w L C f l ex) u te)(hs:autoParam (∀x,foldedSetIterable iter X.env x=pure x) au_3)(E:autoParam (swapsWith (.ListComp u [⟨A,iter,n,0⟩] w pos) (some<|.Name y py) spos.line X.env=pure true) au_0) :
  PS X (.Assign [.Name y py] (.ListComp u [⟨A,iter,n,0⟩] w pos) spos) (SN (SB φ M g tc te)<|Nj i):=by
 intro pins s Y H D0 I h;rw[exec_Assign_Name_used _ _ _ _ E];refine Wu (VD<|Wu ?_);refine Wu (Qh (Hz r S hi G hs I h λD C U s6 q R hm c0 c1 c2 c3 c4 c5=>?_) (λ_ s' z=>Wy (Wy z)) λ_ _ e=>e);obtain⟨m,B,es,ep,hoC,J,rC⟩:=hm
 have R2:Inv X (pins++[(C,B)]) Y U s6:=R.pins_of λp hp=>(WD.mp hp).elim (λz=>R.pin p (WV _ z)) λz=>by
  grind
 refine wpAny_assign_Name (Np R2 hN hy (.inl Q) (v:=.ref D) rfl (λs7 T=>?_)<|.inr Q);refine⟨m,⟨B,es,ep,((T.pin (C,B)<|WV _<|WV _<|Wx.mpr rfl).1),J,rC⟩,λh' sb=>?_⟩;exact⟨_,U,T.unpinned.turned (λb o hb e=>sb.extBut b o hb e) c0 c1 (.inr c2) c3 c4,q⟩
noncomputable def SW(sc b:Scope)(N N':Yc)(φ:ZZ):Bool:=
 sc.kind == .function&&b.kind == .function&&(sc.names.all λy=>y.2 != .cell&&(y.2 != .local || sc.names.lookup y.1==some .local)&&(y.2 != .free || b.names.lookup y.1==some .cell)) &&
  φ.length==N'.length&&((N'.zip φ).all λp=>match p.2 with|none=>true|some j=>N[j]? == some p.1&&sc.names.lookup p.1==some .free)
def Nw.of {N'}{φ f} (h:SW f X.env.scope X.N N' φ=true):Nw X N' φ f:=by
 unfold SW at h;simp only[Qd,beq_iff_eq,Vt,Jy,bne_iff_ne,ne_eq]at h;obtain⟨⟨⟨⟨s,r⟩,q⟩,p⟩,o⟩:=h;refine⟨s,r,λy b=>(q y b).1.1,λy b u=>?_,λy b v=>?_,p,λi x j n l=>?_⟩
 ·grind
 ·grind
 ·have g:(N'.zip φ)[i]?=some (x,some j):=by rw[List.getElem?_zip_eq_some];exact⟨n,l⟩
  have:=o _ (Qa g)
  grind
end Own
namespace SetR
open PySem PySem.Spec PyProof.Rows L2
def Ris(xs:Array Nat):Prop:=∀i j,i<j->j<xs.size->xs.getD i 0<xs.getD j 0
def IM{xs:Array Nat}{i a b}(h:i<xs.size):xs.getD i a=xs.getD i b:=by grind
def Zbc(R:Ris xs)(j:Nat):∀fuel lo f,f-lo<=fuel->lo<=f->f<=xs.size->(∀k,k<lo->xs.getD k 0<j)->(∀k,f<=k->k<xs.size->j<=xs.getD k 0)->
  let r:=SetTable.below.go xs j fuel lo f
  r<=xs.size/\(∀k,k<r->xs.getD k 0<j)/\∀k,r<=k->k<xs.size->j<=xs.getD k 0:=by
 intro fuel
 induction fuel with
 |zero=>
  intro lo f w v n l h;have e:lo=f:=by lia
  subst e;exact⟨n,l,h⟩
 |succ fuel q=>
  intro lo f w v n l h;show(let r:=(if lo<f then(if xs.getD ((lo+f) / 2) j<j then SetTable.below.go xs j fuel ((lo+f) / 2+1) f else SetTable.below.go xs j fuel lo ((lo+f) / 2))else lo);r<=xs.size/\(∀k,k<r->xs.getD k 0<j)/\∀k,r<=k->k<xs.size->j<=xs.getD k 0);by_cases s:lo<f
  ·rw[W5 s];have o:(lo+f) / 2<xs.size:=by lia
   by_cases g:xs.getD ((lo+f) / 2) j<j
   ·rw[W5 g];refine q _ _ (by lia) (by lia) n (λk u=>?_) h;rw[IM o]at g;by_cases e:k=(lo+f) / 2
    ·rw[e];exact g
    ·exact V6 (R k _ (by lia) o) g
   ·rw[W2 g];refine q _ _ (by lia) (by lia) (by lia) l (λk u p=>?_);rw[IM (b:=0) o]at g;by_cases e:k=(lo+f) / 2
    ·rw[e];lia
    ·have:=R _ k (show(lo+f) / 2<k by lia) p
     lia
  ·rw[W2 s];have e:lo=f:=by lia
   subst e;exact⟨n,l,h⟩
def IF(R:Ris xs)(j:Nat):SetTable.below xs j<=xs.size/\(∀k,k<SetTable.below xs j->xs.getD k 0<j)/\∀k,SetTable.below xs j<=k->k<xs.size->j<=xs.getD k 0:=
 Zbc R j xs.size 0 xs.size (by simp) (by simp) (by simp) (λk b=>by lia) (λk g f=>by lia)
def Zeb(R:Ris xs){i}(f:i<=xs.size){slot}(l:∀k,k<i->xs.getD k 0<slot)(g:∀k,i<=k->k<xs.size->slot<=xs.getD k 0):SetTable.below xs slot=i:=by
 obtain⟨a,b,c⟩:=IF R slot;rcases Nat.lt_trichotomy (SetTable.below xs slot) i with h|h|h
 ·grind
 ·lia
 ·grind
def Rise(xs:Array Nat):Prop:=xs.toList.Pairwise (· < ·)
def Rise.ris (h:Rise xs):Ris xs:=by
 intro i j b f;have g:i<xs.size:=by lia
 have:=(WY.mp h) i j (by omega) (by omega) b
 simp_all
def Zh7(h:Rise xs)(u:xs[SetTable.below xs j]?≠some j):Rise (SetTable.insertAt xs (SetTable.below xs j) j):=by
 obtain⟨a,b,c⟩:=IF h.ris j;generalize SetTable.below xs j=p at *;unfold Rise;rw[SetTable.toList_insertAt];refine Q4.mpr ⟨h.sublist (QT _ _),QJ.mpr ⟨λy g=>?_,h.sublist (List.drop_sublist _ _)⟩,λx hx y g=>?_⟩
 ·obtain⟨k,l,e⟩:=List.mem_drop_iff_getElem.mp g
  have f:p+k<xs.size:=by
   simp only[Qu]at l;lia
  have w:=c (p+k) (by lia) f;have s:xs.getD (p+k) 0=y:=by simpa [Array.getD,f]using e
  rcases Nat.lt_or_ge j y with r|r
  ·exact r
  ·have ey:y=j:=by lia
   exfalso;rcases Nat.eq_zero_or_pos k with rfl|v
   ·apply u;rw[Q8 (by lia)]
    have:xs[p]=y:=by simpa using e
    rw[this,ey]
   ·have A:=h.ris p (p+k) (by lia) f;have z:=c p (W3 _) (by lia);lia
 ·have n:x<j:=by
   obtain⟨k,l,e⟩:=List.mem_take_iff_getElem.mp hx;have q:k<p:=by lia
   have o:k<xs.size:=by lia
   have:=b k q
   have s:xs.getD k 0=x:=by simpa [Array.getD,o]using e
   lia
  rcases WB.mp g with rfl|g
  ·exact n
  ·obtain⟨k,l,e⟩:=List.mem_drop_iff_getElem.mp g
   have f:p+k<xs.size:=by
    simp only[Qu]at l;lia
   have w:=c (p+k) (by lia) f;have s:xs.getD (p+k) 0=y:=by simpa [Array.getD,f]using e
   lia
structure Tb (b:Bool) (t:SetTable):Prop where
 led:t.led=b
 dum:t.dummies=#[]
 ris:Rise t.place
def Ld(j:Nat):SetTable.has #[] j=false:=rfl
def Tb.fresh (b:Bool):Tb b (.fresh 0 0 b):=⟨rfl,rfl,List.Pairwise.nil⟩
def RV(n:Nat):Rise (Array.range n):=by
 unfold Rise;rw[Array.toList_range];exact List.pairwise_lt_range
def Tb.stand (h:Tb b t) (n:Nat):Tb b (t.standIn n):=⟨h.led,rfl,RV n⟩
def Tb.orStand (h:Tb b t) (n:Nat):Tb b (t.orStandIn n):=by
 unfold SetTable.orStandIn;split
 ·lia
 ·exact h.stand n
def Tb.plainOff (h:Tb b t):Tb b {t with plain:=false}:=⟨h.led,h.dum,h.ris⟩
def Tb.put (h:Tb b t) {j} (f:t.place[SetTable.below t.place j]?≠some j):Tb b (t.put j).1:=by
 refine⟨h.led,?_,Zh7 h.ris f⟩;show(if SetTable.has t.dummies j=true then _ else t.dummies)=#[];rw[h.dum,Ld];rfl
def Za8(h:Tb b t)(f:Nat->Int)(z:Int):∀fuel p j d,p.dummy=none->SetTable.probe.go t f z fuel p=some (.empty j d)->d=none/\t.place[SetTable.below t.place j]?≠some j:=by
 intro fuel
 induction fuel with
 |zero=>intro p j d _ e;cases e
 |succ fuel n=>
  intro p j d o e;unfold SetTable.probe.go at e
  have l:∀q,q.dummy=none->(t.advance q).dummy=none:=λq hq=>by
   unfold SetTable.advance;split
   ·exact hq
   ·exact hq
  cases g:t.slot p.j with
  |empty=>
   rw[g]at e;unfold SetTable.slot at g
   grind
  |dummy=>
   unfold SetTable.slot at g
   dsimp only at g
   split at g
   ·cases g
   ·rw[h.dum,Ld]at g;simp at g
  |live i=>
   rw[g]at e
   dsimp only at e
   split at e
   ·cases e
   ·exact n _ j d (l p o) e
def Tb.layNew (h:Tb b t) (es:Yh) (z:Int) (x:Value):Tb b (PySem.layNew t es z x).2.1:=by
 unfold PySem.layNew;split
 ·rename_i slot wasDummy e
  have f:t.place[SetTable.below t.place slot]?≠some slot:=by
   unfold SetTable.freeSlot SetTable.probe at e;split at e
   ·rename_i j dummy g;obtain⟨n,l⟩:=Za8 h _ _ _ _ _ _ rfl g
    grind
   ·grind
  exact(h.put f).orStand _
 ·exact h.stand _
def Zen(n:Nat)(f:Nat->Option Nat):((List.range n).filterMap λj=>(f j).map (j,·)).Pairwise (λa b=>a.1<b.1):=by
 refine List.Pairwise.filterMap _ ?_ List.pairwise_lt_range;intro a l h b o q g;cases e:f a with
 |none=>grind
 |some v=>
  cases p:f l with
  |_=>grind
def Tb.relayAll (h:Tb b t) (es:Yh) (n:Nat):Tb b (PySem.relayAll t es n).2.1:=by
 unfold PySem.relayAll;split
 ·rename_i l order e
  dsimp only
  split
  ·unfold SetTable.relaid SetTable.laid at e;cases f:SetTable.layClean (SetTable.sizeAbove n-1) (es.map (·.1))with
   |none=>grind
   |some owner=>
    rw[f]at e;have g:=Qs Prod.fst (WL e);subst g;refine⟨h.led,rfl,?_⟩;show(List.map (λx=>x.fst) ((List.range (SetTable.sizeAbove n-1+1)).filterMap λj=>(owner.getD j none).map (j,·))).toArray.toList.Pairwise (· < ·);rw[List.toList_toArray,QU];exact Zen _ _
  ·exact h.stand _
 ·exact h.stand _
noncomputable def keyOf(e:Int×Value):Int:=match e.2 with
 | .int k _=>k
 |_=>0
def Ent(e:Int×Value):Prop:=∃(k:Int) (t:Tok),e=(hashInt k,.int k t)
section
variable (prog:Program) (w:World)
noncomputable def KG(w:World):Bool:=w.params.followText "set-order"
structure XS (h:Heap) (a:Addr) (js:ZV) (es:Yh) (ep:Nat) (t:SetTable):Prop where
 obj:∃o,h.get? a=some o/\o.ExactSet/\o.data=.set es ep t
 ent:∀e∈es.toList,Ent e
 per:(es.toList.map keyOf).Perm js
 nod:js.Nodup
 few:es.size<scanBound
 fit:t.fits es.size=true
 tab:Tb (!KG w) t
def SetB(h:Heap)(a:Addr)(b:ZV):Prop:=∃f g t,XS w h a b f g t
end
section
variable {prog:Program}{w:World}{A:Around}{E:ZY}{s:Shared}
def Ent.elems (h:∀e∈l,Ent e):ElemsOf (intKind prog w) l:=λe b=>by
 obtain⟨k,t,rfl⟩:=h e b;exact⟨⟨k,intKind_is _ _ _ _,rfl⟩,rfl⟩
def Il(h:Ent e)(k:Int):(intKind prog w).is k e.2=decide (k=keyOf e):=by
 obtain⟨b,t,rfl⟩:=h;show Value.isInt k (.int b t)=decide (k=b);by_cases e:k=b
 ·subst e;simp[Value.isInt]
 ·rw[Qb e];simp[Value.isInt];lia
def SetB.len (S:XS w h a b es f t):es.size=b.length:=by
 have:=S.per.length_eq
 grind
def SetB.at {a l} (S:SetB w h a l) (k:∀o,h.get? a=some o->p.get? a=some o):SetB w p a l:=by
 obtain⟨q,u,t,⟨o,n,r⟩,b,c,d,e,f,g⟩:=S;exact⟨q,u,t,⟨o,k o n,r⟩,b,c,d,e,f,g⟩
def XS.store {es b}{g t t'} (S:XS w h a y es g t) (x:∀e∈b.toList,Ent e) (v:(b.toList.map keyOf).Perm f) (u:f.Nodup) (r:b.size<scanBound)
  (p:t'.fits b.size=true) (n:Tb (!KG w) t'):XS w (h.update a<|Obj.putSet b t') a f b (g+1) t':=by
 obtain⟨o,l,hx,hd⟩:=S.obj;refine⟨⟨{o with data:=.set b (g+1) t'},?_,hx,rfl⟩,x,v,u,r,p,n⟩
 have q:=Qq (Obj.putSet b t') l (by rw[putSet_of b t' hd];rfl);rwa[putSet_of b t' hd]at q
def He{g:Bool->Sem Unit}(U:∀b s' L,L () s'->wpAny (model prog w) A (g b) L E s'){a N h}{es f}{ep t t'}(S:XS w s.heap a N es ep t)(J:∀e∈f.toList,Ent e)(H:(f.toList.map keyOf).Perm h)(G:h.Nodup)(r:f.size<scanBound)(h5:t'.fits f.size=true)(C:Tb (!KG w) t'){d R}(n:∀u,Heap.SameBut a s.heap u->SetB w u a h->R (some true) {s with heap:=u}) :
  wpAny (model prog w) A (do
    storeSet a f t'
    if (!d&&t'.tooFull)=true then do
      g (relayAll t' f<|SetTable.grown f.size).2.2
      storeSet a (relayAll t' f<|SetTable.grown f.size).1 (relayAll t' f<|SetTable.grown f.size).2.1
      pure (some true)
     else pure (some true)) R E s:=by
 obtain⟨o,T,hx,hd⟩:=S.obj;have B:=S.store J H G r h5 C;obtain⟨o1,p,Q,q⟩:=B.obj;have M:=Q1 s.heap a (Obj.putSet f t');refine Wu (wpAny_storeSet_of T hd ?_<|Ja r);split
 ·have l:=relayAll_perm t' f (SetTable.grown f.size);have v:=relayAll_fits t' f (SetTable.grown f.size);have tt:=C.relayAll f (SetTable.grown f.size);generalize relayAll t' f (SetTable.grown f.size)=y at l v tt ⊢;obtain⟨x,t2,g2⟩:=y
  dsimp only at l v tt ⊢
  have z:x.size=f.size:=by rw[←Qu,l.length_eq,Qu]
  refine Wu (U _ _ _<|Wu<|wpAny_storeSet_of p q ?_<|Ja<|by lia);exact Wy (n _ (M.trans<|Q1 _ a _) ⟨_,_,_,B.store (λe Y=>J e (l.mem_iff.mp Y)) ((l.map keyOf).trans H) G (by rw[z];exact r) v tt⟩)
 ·exact Wy (n _ M ⟨_,_,_,B⟩)
noncomputable def XQ(b:ZV)(k:Int):ZV:=if k∈b then b else b++[k]
def Zjx{R}(S:SetB w s.heap a n)(room:n.length+1<scanBound)(H:∀r g,Heap.SameBut a s.heap g->SetB w g a (XQ n k)->R r {s with heap:=g}) :
  wpAny (model prog w) A (setAddHashed a (.int k u)<|hashInt k) R E s:=by
 obtain⟨l,ep,t,S⟩:=S;obtain⟨o,Y,hx,hd⟩:=S.obj;have el:=Ent.elems (prog:=prog) (w:=w) S.ent;have M:=SetB.len S;refine QW (Wu<|Vp Y hd S.fit ?_)
 dsimp only
 rw[byScan_of rfl S.few el];simp only[↓reduceIte];unfold setAddByScan;refine Wu (Wu<|wpAny_rule<|Wu<|wpAny_setScan_of (intKind_is _ _ _ _) Y hd S.fit el ?_);have mem:∀z,z∈n↔∃e∈l.toList,keyOf e=z:=λz=>by rw[←S.per.mem_iff,WK]
 cases q:List.findIdx? (λe=>(intKind prog w).is k e.2) l.toList with
 |some j=>
  dsimp only
  obtain⟨hj,U,_⟩:=List.findIdx?_eq_some_iff_getElem.mp q
  have L:k∈n:=by
   rw[Il (S.ent _<|WN hj)]at U;exact(mem k).mpr ⟨_,WN hj,(W6 U).symm⟩
  refine Wy (Wy ?_);have f:=H false s.heap (Heap.SameBut.refl a s.heap);unfold XQ at f;rw[W5 L]at f;exact f ⟨_,_,_,S⟩
 |none=>
  dsimp only
  have L:¬k∈n:=λM=>by
   obtain⟨e,he,N⟩:=(mem k).mp M
   have:=List.findIdx?_eq_none_iff.mp q e he
   rw[Il (S.ent e he),W1 N.symm]at this;cases this
  have P:=layNew_perm t l (hashInt k) (.int k u);have F:=layNew_fits t l (hashInt k) (.int k u);have T:=S.tab.layNew l (hashInt k) (.int k u);change wpAny (model prog w) A (match layNew t l (hashInt k) (.int k u)with|(l,t,wasDummy,gave)=>_) _ _ _
  generalize layNew t l (hashInt k) (.int k u)=y at P F T ⊢;obtain⟨p,t1,d1,g1⟩:=y
  dsimp only at P F T ⊢
  rw[Array.toList_push]at P
  have e1:∀e∈p.toList,Ent e:=λe he=>by
   rcases WD.mp (P.mem_iff.mp he)with he|he
   ·exact S.ent e he
   ·rw[Wx.mp he];exact⟨k,u,rfl⟩
  have e2:(p.toList.map keyOf).Perm (n++[k]):=by
   refine(P.map keyOf).trans ?_;rw[WC];exact S.per.append_right _
  have e3:(n++[k]).Nodup:=Qf.mpr ⟨S.nod,by simp,λx hx y hy=>by rw[Wx.mp hy];rintro rfl;exact L hx⟩
  have e4:p.size<scanBound:=by
   rwa[←Qu,P.length_eq,WA,Qu,M]
  have h:=λg B G=>by
   have f:=H true g B;unfold XQ at f;rw[W2 L]at f;exact f G
  have Q:∀b {C:Shared} {J:Unit->Shared->Prop},J () C->wpAny (model prog w) A (match b with|true=>rule "set.scan.the-table-gave-way" |false=>pure ()) J E C:=λb C J v=>by cases b<;>first|exact Wy v|exact wpAny_rule v
  refine Wu (Q _ ?_);split
  ·refine Wu ?_;rw[hashByValue_scannable 8 rfl];refine Wy (He (λb C J v=>Q b v) S e1 e2 e3 e4 ?_ ?_ λg B G=>Wy (h g B G))
   ·split
    ·exact F
    ·exact SetTable.fits_plain_off F
   ·split
    ·exact T
    ·exact T.plainOff
  ·refine Wu (Wy ?_);simp only[↓reduceIte];exact He (λb C J v=>Q b v) S e1 e2 e3 e4 F T λg B G=>Wy (h g B G)
def Zc2{I G x P St}{ns:ZV}(W:Walks prog w A.in1 I G x ns.length P St)(S:Addr)(C:S∉G)(L:∀i v,P i v->∃t,v=.int (ns.getD i 0) t)(room:ns.length+1<scanBound):∀k i s n,ns.length-i=k->i<=ns.length->St i s.heap->SetB w s.heap S n->n.length<=i->
   (∀h p,(∀b o,b∉S::x->s.heap.get? b=some o->h.get? b=some o)->SetB w h S ((ns.drop i).foldl XQ n)->R (.ok<|.ret .none) {s with heap:=h,toks:=p})->
   codeAny (model prog w) A (.builtin "set.update.loop" ⟨[.ref S,.ref I],[]⟩) R s:=by
 have q:=λz=>C (W.sub _ z);intro k
 induction k with
 |zero=>
  intro i s n M Q st B N l;have ei:i=ns.length:=by lia
  refine Vk VO ?_;show wpAny _ A.in1 (pyNext (.ref I) >>= _) _ _ s;refine Wu (W.done s _ _ (ei▸st) λh p keep=>?_);show wpAny _ A.in1 (ret Value.none) _ _ _;refine Wy (l h p (λb o g e=>keep b o (λz=>g (WT _ z)) e) ?_);rw[ei,List.drop_length];exact B.at λo e=>keep S o q e
 |succ k J=>
  intro i s n M Q st B N l;have f:i<ns.length:=by lia
  refine Vk VO ?_;rw[VB VP _];show wpAny _ A.in1 (pyNext (.ref I) >>= _) _ _ s;refine Wu (W.item i s _ _ f st λv T H pv u keep1=>?_);obtain⟨t,rfl⟩:=L i v pv;have B1:=B.at λo e=>keep1 S o q e;unfold setAdd;refine Wu (QW<|QW<|Wu ((intKind prog w).pyHash (intKind_is _ _ _ _) ?_));refine Zjx B1 (by lia) λr h2 y B2=>?_
  have U:(XQ n<|ns.getD i 0).length<=i+1:=by
   unfold XQ;split
   ·lia
   ·simp;lia
  refine Wy ⟨plainId_quiet VP _,J (i+1) _ _ (by lia) f (W.frame _ T _ u λb g o e=>?_) B2 U λh p keep B'=>?_⟩
  ·rw[y.2 b (λz=>C (by rw[←z];exact g))];exact e
  ·refine l h p (λb o g e=>keep b o g ?_) ?_
   ·rw[y.2 b (λz=>g (by rw[z];exact WU))];exact keep1 b o (λz=>g (WT _ z)) e
   ·have Y:ns.drop i=ns.getD i 0::ns.drop (i+1):=by
     rw[Q0 f,W7,Ww f];rfl
    rwa[Y]
def Zbv(a:Value){Q}(b:Q (.ref s.heap.objs.size) {s with heap:=s.heap.push {cls:=.type "set",dict:=none,data:=.set #[] 0 (.fresh 0 0 (!KG w))}}) :
  codeAny (model prog w) A (.call (.builtin "set.__new__") ⟨[.type "set",a],[]⟩) (wants Q E) s:=by
 refine codeAny_of_tree (?_);refine Wu (wpAny_of_eq (F.newCall_set_1 a)<|Wy ⟨plainId_quiet F.plain_set_new _,Vk F.entry_set_new ?_⟩);rw[(VB (A:=A) F.plain_set_new ⟨[.type "set",a],[]⟩)];unfold Builtin.«set.__new__» Builtin.Frozenset.newClass;have f:=sub_set_self
 dsimp only
 wp_walk
 refine wpAny_askSetting (Wy<|?_)
 dsimp only
 simp only[newObj];exact Wu (wpAny_alloc<|Wy<|Wy b)
set_option maxHeartbeats 4000000 in
def Zev{l:Addr}{f:Array Value}{ns:ZV}{Q:ZY}(hh:A.handled=none)(hl:s.heap.IsList l f)(hi:IntsAre f.toList ns)(room:ns.length+1<scanBound)(T:∀(h:Heap) (q:Nat),SetB w h s.heap.objs.size (ns.foldl XQ [])->(∀b o,b<s.heap.objs.size->s.heap.get? b=some o->h.get? b=some o)->Q (.ref s.heap.objs.size) {s with heap:=h,toks:=q}) :
  wpAny (model prog w) A (call (.type "set") [.ref l]) Q E s:=by
 have hn:f.size=ns.length:=by have:=IntsAre.length hi;simpa using this
 obtain⟨mroC,mroT,mro⟩:=F.called_set.mro;have made:=F.called_set.made;have subs:=F.called_set.sub;refine Jv (codeAny_of_tree<|show wpAny _ _ (callAny (.type "set") _) _ _ _ from ?_)
 refine Wy ⟨VQ _ (by decide +kernel),Vk F.entry_type_call ?_⟩;have wt:=Around.under_plain (A:=A) (weight_type_call_type "set" [.ref l] []) rfl;rw[wt];have nt:=F.called_set.notType;have cc:=F.called_set.canCreate;have tc:=F.typeCall_set_1 (.ref l)
 repeat (any_goals (first|assumption|wp_step))
 refine Vh (Zbv (.ref l) (E:=E) (Q:=λobj Y=>obj=.ref s.heap.objs.size/\Y={s with heap:=s.heap.push {cls:=.type "set",dict:=none,data:=.set #[] 0 (.fresh 0 0 (!KG w))}}) ⟨rfl,rfl⟩) λr Y x=>?_
 cases r with
 |error e=>exact x
 |ok fl=>
  cases fl with
  |next=>exact x.elim
  |brk=>exact x.elim
  |cont=>exact x.elim
  |ret obj=>
   obtain⟨rfl,rfl⟩:=x;generalize H:s.heap.push {cls:=.type "set",dict:=none,data:=.set #[] 0 (.fresh 0 0 (!KG w))}=n;have g1:n.get? s.heap.objs.size=some {cls:=.type "set",dict:=none,data:=.set #[] 0 (.fresh 0 0 (!KG w))}:=by rw[←H];exact WE _ rfl
   have hT:Shared.TypeIs {s with heap:=n} (.ref s.heap.objs.size) "set":=⟨_,g1,rfl⟩
   have ini:=F.called_set.init.lookup;have inb:=F.called_set.init.bind (.ref s.heap.objs.size)
   repeat (any_goals (first|assumption|wp_step))
   refine Vh (Vs (R:=wants (λr U=>r=.none/\∃h q,U={s with heap:=h,toks:=q}/\SetB w h s.heap.objs.size (ns.foldl XQ [])/\(∀b o,b<s.heap.objs.size->s.heap.get? b=some o->h.get? b=some o)) E)
    F.called_set.init.plain F.entry_set_init (check_set_init_1 hT ?_)) λr2 U g=>?_
   ·obtain⟨ob,z,G,nl,C⟩:=hl;obtain⟨c1,d1,dt1,J⟩:=ob;simp only at G C;subst G;subst C;have y:n.get? l=some {cls:=.type "list",dict:=d1,data:=.seq f nl,slots:=J}:=by rw[←H];exact Wz _ z
    have p:n.objs.size=s.heap.objs.size+1:=by rw[←H,V5]
    have no1:=F.sub_list_set;have no2:=F.sub_list_frozenset;have no3:(Value.type "list" == Value.type "dict")=false:=by decide
    have L1:n.IsList l f:=⟨_,y,rfl,nl,rfl⟩;unfold Builtin.«set.__init__» noKeywords Builtin.Frozenset.updateFrom;generalize eP:pyIter=PI
    wp_walk
    subst eP;refine wpAny_pyIter_list L1 (Wu<|wpAny_runValue ?_);have u:l<s.heap.objs.size:=W8 z;have N:A.in1.in1.in1.handled=none:=by simp[hh]
    have M:l≠n.objs.size:=by rw[p];exact WS (Jb u)
    have L:s.heap.objs.size∉[n.objs.size,l]:=by
     rw[p];simp only[WB,Jl,or_false,not_or];exact⟨WS (VA _),Jt u⟩
    have W0:=Walks.list (prog:=prog) (w:=w) N n.objs.size l M f;rw[hn]at W0;refine Zc2 (ns:=ns) W0 s.heap.objs.size L (λi v hv=>IntsAre.int_at hi i v (by rw[Q9];exact hv)) room (ns.length-0) 0 _ [] rfl (QM _) ⟨⟨_,WE _ rfl,rfl,rfl⟩,L1.push _⟩ ?_ (QM _) λh q keep B=>?_
    ·exact⟨#[],0,_,⟨_,Wz _ g1,⟨rfl,rfl,rfl⟩,rfl⟩,λe he=>by simp at he,by simp,QI,by show(0:Nat)<4096;decide,rfl,Tb.fresh _⟩
    ·show wpAny _ _ _ _ _ _;refine Wy (show wpAny _ _ (ret Value.none) _ _ _ from Wy ⟨rfl,h,q,rfl,B,λb o hb e=>?_⟩)
     refine keep b o ?_ (Wz _<|by rw[←H];exact Wz _ e);rw[p];simp only[WB,Jl,or_false,not_or];exact⟨WS hb,WS (Jb hb)⟩
   ·cases r2 with
    |error e=>exact g
    |ok f2=>
     cases f2 with
     |next=>exact g.elim
     |brk=>exact g.elim
     |cont=>exact g.elim
     |ret r=>
      obtain⟨rfl,h,q,rfl,B,keep⟩:=g
      repeat (any_goals (first|assumption|wp_step))
      exact T _ _ B keep
end
def si_slot:Slot "set_iterator" "__next__" "set_iterator.__next__":=
 Slot.of (owner:="set_iterator") (n:="__next__") (by rw[typeLookup_type,builtinLookup_eq_fast];kernel_rfl) (by decide +kernel) (by decide +kernel) (by decide +kernel)
  (by first|exact Or.inl (by decide +kernel)|exact Or.inr (by decide +kernel)) (by rw[isSubtype_type];kernel_rfl)
def Zj9:entryFor table "set_iterator.__next__"=some Builtin.«set_iterator.__next__»:=entryFor_of_tree rfl
def Zcp(a:Value):argsOk "set_iterator.__next__" ⟨[a],[]⟩:=by trivial
def Zgo:entryFor table "set.__iter__"=some Builtin.«frozenset.__iter__»:=entryFor_alias (id':="frozenset.__iter__") (by kernel_rfl) rfl (by decide +kernel) (by kernel_rfl)
def GB:Slot "set_iterator" "__iter__" "set_iterator.__iter__":=
 Slot.of (owner:="set_iterator") (n:="__iter__") (by rw[typeLookup_type,builtinLookup_eq_fast];kernel_rfl) (by decide +kernel) (by decide +kernel) (by decide +kernel)
  (by first|exact Or.inl (by decide +kernel)|exact Or.inr (by decide +kernel)) (by rw[isSubtype_type];kernel_rfl)
def Zdv:entryFor table "set_iterator.__iter__"=some Builtin.«dict_keyiterator.__iter__»:=entryFor_alias (id':="dict_keyiterator.__iter__") (by kernel_rfl) rfl (by decide +kernel) (by kernel_rfl)
def Zif(a:Value):argsOk "set_iterator.__iter__" ⟨[a],[]⟩:=by unfold argsOk;kernel_rfl
def SI(h:Heap)(I a:Addr)(first:Value)(i n b:Nat):Prop:=∃o,h.get? I=some o/\o.cls=.type "set_iterator"/\o.data=.fields #[first,.int i 0,.ref a,.int n 0,.int b 0]
section
variable {prog:Program}{w:World}{A:Around}{E:ZY}{s:Shared}{I a:Addr}{first:Value}{i n ep:Nat}{js:ZV}{es:Yh}{t:SetTable}
def SI.typ (h:SI s.heap I a first i n ep):s.TypeIs (.ref I) "set_iterator":=let ⟨o,b,f,_⟩:=h;⟨o,b,f⟩
def SI.at (x:SI h I a first i n ep) (k:∀o,h.get? I=some o->f.get? I=some o):SI f I a first i n ep:=let ⟨o,b,r⟩:=x;⟨o,k o b,r⟩
noncomputable def Sh(first:Value)(a I:Addr)(i ep:Int):Sem PySem.Fin:=
 match first with
 |Value.int slot _=>do
  match ←setNext a slot.toNat i.toNat ep.toNat with
  |some (x,next)=>
   setField (.ref I) 0 (rawInt next)
   setField (.ref I) 1 (rawInt (i+1))
   ret x
  |none=>
   setField (.ref I) 2 .none
   raiseNew (←newExc (.type "StopIteration") [])
 |_=>do
  let some places ←seqItems? first|unsupported "internal:set_iterator"
  match places[i.toNat]? with
  |some (.int place _)=>
   let x ←setNextDrawn a place.toNat ep.toNat
   setField (.ref I) 1 (rawInt (i+1))
   ret x
  |some _=>unsupported "internal:set_iterator"
  |none=>
   setField (.ref I) 0 (rawInt 0)
   setField (.ref I) 2 .none
   raiseNew (←newExc (.type "StopIteration") [])
def Bx(f:SI s.heap I a first i es.size ep)(S:XS w s.heap a js es ep t)
  (body:wpAny (model prog w) A.in1 (Sh first a I i ep) (λl s'=>∃v,l=.done (.ret v)/\Q (some v) s')
   (λe s'=>wpAny (model prog w) A (isInstance e<|.type "StopIteration") (λb g=>b=true/\Q none g) E s') s) :
  wpAny (model prog w) A (pyNext<|.ref I) Q E s:=by
 obtain⟨o,u,B,hd⟩:=id f;obtain⟨y,p,hx,r⟩:=S.obj;refine Wu (wpAny_attempt<|VX f.typ si_slot<|QH si_slot f.typ Zj9 ?_<|Zcp _);refine Wu (Wy<|Wu<|wpAny_fieldsOf u hd ?_);refine Wu (wpAny_setEntries_of p r S.fit ?_);rw[W2 (by simp)];refine Qh body (λl s' h=>?_) λe s' h=>?_
 ·obtain⟨v,e,q⟩:=h;exact⟨v,e,Wy q⟩
 ·refine Wu (Qh h (λb g x=>?_) λ_ _ z=>z);obtain⟨rfl,q⟩:=x;exact Wy q
def MR{Q:Yf->Shared->Prop}{o}{vs}(p:A.handled=none)(l:s.heap.get? I=some o)(hd:o.data=.fields vs)(q:2<vs.size)(g:∀h,Heap.ExtBut I s.heap h->Q none {s with heap:=h}){R:PySem.Fin->Shared->Prop} :
  wpAny (model prog w) A.in1 (do setField (.ref I) 2 .none;raiseNew (←newExc (.type "StopIteration") [])) R (λe s'=>wpAny (model prog w) A (isInstance e<|.type "StopIteration") (λb f=>b=true/\Q none f) E s') s:=by
 refine Wu (QK l hd q<|Wu ?_);refine Wu (Qo ?_<|by size_fits);refine Wu (wpAny_of_eq (by first|rfl|(simp only[firstArgMember];rfl))<|Qo ?_<|by size_fits)
 simp only[raiseNew];refine Wu (wpAny_handled ?_);rw[p];refine Wu (Wy<|wpAny_throw ?_);refine wpAny_isInstance ⟨_,WE _ rfl,rfl⟩ isSubtype_stop ?_;exact⟨rfl,g _ (((Q1 ..).extBut.push _).push _)⟩
def SI.step1 {x:Value} (b:s.heap.get? I=some o) (f:o.cls=.type "set_iterator") (hd:o.data=.fields #[first,.int i 0,.ref a,.int n 0,.int ep 0]) :
  SI (s.heap.update I<|Obj.mapFields (·.setIfInBounds 1 (rawInt ((i:Int)+1)))) I a first (i+1) n ep:=
 ⟨_,Qq _ b (QL<|Qx hd _),(Jc ..).trans f,by rw[Qx hd];simp[rawInt]⟩
def Bw(h:Q (KG w) s):wpAny (model prog w) A setsByText Q E s:=Wu (wpAny_askSetting<|Wy h)
def Zez(S:XS w s.heap a js es ep t)(g:KG w=true)(h:Q (((pickOrder (w.params.setOrder a ep) es)[i]?).map λe=>(e.2,slot)) s) :
  wpAny (model prog w) A (setNext a slot i ep) Q E s:=by
 obtain⟨l,b,hx,f⟩:=S.obj;refine Wu (Vp b f S.fit<|Wu<|Bw ?_);rw[g,W5 rfl,W2 (by simp)];refine Wu ?_;refine Wu (Vp b f S.fit<|Wu<|Bw ?_);rw[g,W5 rfl];exact Wu (wpAny_askSetting<|Wy<|Wy h)
def Zlq(S:XS w s.heap a js es ep t)(g:KG w=false)(l:(!t.plain&&decide (es.size>1))=false)(h:Q (match es[SetTable.below t.place slot]?,t.place[SetTable.below t.place slot]? with|some (_,x),some j=>some (x,j+1)|_,_=>none) s):wpAny (model prog w) A (setNext a slot i ep) Q E s:=by
 obtain⟨p,b,hx,f⟩:=S.obj;refine Wu (Vp b f S.fit<|Wu<|Bw ?_);rw[g,W2 (by decide)];show wpAny _ _ (if (!t.plain&&decide (es.size>1))=true then _ else _) _ _ _;rw[l,W2 (by decide)];refine Wu (?_:wpAny _ _ (if (!t.led && !es.isEmpty)=true then unsupported "set:maker-not-led" else pure ()) _ _ _);have o:t.led=true:=by rw[S.tab.led,g];rfl
 rw[o,W2 (by simp)];exact Wy (Wy h)
def Zdw{p e}(S:XS w s.heap a js es ep t)(g:es[p]?=some e)(h:Q e.2 s):wpAny (model prog w) A (setNextDrawn a p ep) Q E s:=by
 obtain⟨l,b,hx,f⟩:=S.obj;refine Wu (Vp b f S.fit ?_)
 dsimp only
 rw[W2 (by simp),g];exact Wy h
def RQ{m}(b:m≠0)(h:∀k d,k<m->Q k {s with drawn:=d}):wpAny (model prog w) A (choose f m) Q E s:=by
 intro Γ p g;exact⟨b,h _ _ (Nat.mod_lt _<|Nat.pos_of_ne_zero b)⟩
theorem BF{b:Type}:∀(xs:List b) k h,(xs[k]::xs.eraseIdx k).Perm xs
 |x::r,0,_=>List.Perm.refl _
 |x::r,k+1,h=>by
  have f:k<r.length:=by grind
  exact(List.Perm.swap _ _ _).trans (List.Perm.cons _<|BF r k f)
def OO:∀m xs s {Q:List q->Shared->Prop},xs.length=m->(∀b d,b.Perm xs->Q b {s with drawn:=d})->wpAny (model prog w) A (drawOrder m xs) Q E s:=by
 intro m
 induction m with
 |zero=>
  intro xs s Q f h;have e:=Q2.mp f;subst e;exact Wy (h [] s.drawn<|List.Perm.refl _)
 |succ m l=>
  intro xs s Q f h;cases xs with
  |nil=>grind
  |cons x r=>
   unfold drawOrder;refine Wu (RQ (by simp) λk d g=>?_);rw[Ww g];refine Wu (l _ _ (by grind) λb p o=>Wy ?_);exact h _ p ((List.Perm.cons _ o).trans (BF _ _ g))
def XS.keep (S:XS w h a js es ep t) (k:∀o,h.get? a=some o->p.get? a=some o):XS w p a js es ep t:=by
 obtain⟨⟨o,l,r⟩,b,c,d,e,f,g⟩:=S;exact⟨⟨o,k o l,r⟩,b,c,d,e,f,g⟩
def MN(b:SI s.heap I a first i n ep)(h:Q (.ref I) s):wpAny (model prog w) A (pyIter<|.ref I) Q E s:=by
 refine Jd b.typ GB (QH GB b.typ Zdv ?_<|Zif _);exact Wy ⟨_,rfl, "set_iterator",_,b.typ,si_slot.lookup,h⟩
def LW(hh:A.handled=none)(I a:Addr)(hne:a≠I)(vs:Yb)(hl:vs.length=es.size)(sl:Nat->Nat)(nx:∀A E s i Q,i<=es.size->XS w s.heap a js es ep t->Q ((vs[i]?).map λv=>(v,sl (i+1))) s->wpAny (model prog w) A (setNext a (sl i) i ep) Q E s) :
  Walks prog w A I [I,a] [I] es.size (λi v=>vs[i]?=some v) (λi h=>SI h I a (.int (sl i) 0) i es.size ep/\XS w h a js es ep t) where
 sub:=λb hb=>by simp at hb;simp[hb]
 frame:=λ_ _ _ st k=>⟨st.1.at λo e=>k I (by simp) o e,st.2.keep λo e=>k a (by simp) o e⟩
 item:=λi s Q E hi st fin=>by
  obtain⟨o,ho,hc,hd⟩:=id st.1;refine Bx st.1 st.2 ?_;unfold Sh
  dsimp only
  rw[Qm,Qm,Qm];refine Wu (nx _ _ s i _ (VJ hi) st.2 ?_);have hi2:i<vs.length:=by lia
  rw[Ww hi2];refine Wu (QK ho hd (by simp) ?_);have g1:=Qq (Obj.mapFields (·.setIfInBounds 0 (rawInt (sl (i+1):Int)))) ho (QL<|Qx hd _);have d1:(Obj.mapFields (·.setIfInBounds 0 (rawInt (sl (i+1):Int))) o).data=.fields #[.int (sl (i+1)) 0,.int i 0,.ref a,.int es.size 0,.int ep 0]:=by rw[Qx hd];simp[rawInt]
  refine Wu (QK g1 d1 (by simp) ?_);have sb:=(Q1 s.heap I<|Obj.mapFields (·.setIfInBounds 0 (rawInt (sl (i+1):Int)))).trans (Q1 _ I<|Obj.mapFields (·.setIfInBounds 1 (rawInt ((i:Int)+1))));refine Wy ⟨_,rfl,fin vs[i] _ s.toks (Ww hi2) ⟨?_,st.2.keep λo e=>sb.extBut a o hne e⟩ λb o hb e=>sb.extBut b o (λz=>hb (by simp[z])) e⟩;exact SI.step1 (x:=.none) g1 ((Jc ..).trans hc) d1
 done:=λs Q E st fin=>by
  obtain⟨o,ho,hc,hd⟩:=id st.1;refine Bx st.1 st.2 ?_;unfold Sh
  dsimp only
  rw[Qm,Qm,Qm];refine Wu (nx _ _ s es.size _ (W3 _) st.2 ?_);rw[V7 (by lia)];exact MR hh ho hd (by simp) λh' eb=>fin h' s.toks λb o hb e=>eb b o (λz=>hb (by simp[z])) e
 self:=λ_ _ _ _ st fin=>MN st.1 fin
def Zjy(hh:A.handled=none)(I a T:Addr)(hne:a≠I)(hT:T≠I)(ps:Ya)(hl:ps.length=es.size)(hps:∀p∈ps,p<es.size)(vs:Yb)(hvs:vs=ps.map λp=>((es[p]?).map (·.2)).getD .none) :
  Walks prog w A I [I,a,T] [I] es.size (λi v=>vs[i]?=some v) (λi h=>SI h I a (.ref T) i es.size ep/\XS w h a js es ep t/\∃o,h.get? T=some o/\∃c,o.data=.seq (ps.map λ(p:Nat)=>rawInt p).toArray c) where
 sub:=λb hb=>by simp at hb;simp[hb]
 frame:=λ_ _ _ st k=>⟨st.1.at λo e=>k I (by simp) o e,st.2.1.keep λo e=>k a (by simp) o e,let ⟨o,ho,c⟩:=st.2.2;⟨o,k T (by simp) o ho,c⟩⟩
 item:=λi s Q E hi st fin=>by
  obtain⟨o,ho,hc,hd⟩:=id st.1;obtain⟨oT,hoT,c,hdT⟩:=st.2.2;refine Bx st.1 st.2.1 ?_;unfold Sh
  dsimp only
  refine Wu (wpAny_seqItems hoT hdT ?_);have hi2:i<ps.length:=by lia
  have e1:(ps.map λ(p:Nat)=>rawInt p).toArray[(i:Int).toNat]?=some (.int ps[i] 0):=by
   rw[Qm,List.getElem?_toArray,WH,Ww hi2];rfl
  have hp:=hps _ (WN hi2)
  dsimp only
  rw[e1]
  dsimp only
  have e3:vs[i]?=some (es[ps[i]]).2:=by rw[hvs,WH,Ww hi2];simp[hp]
  refine Wu (Zdw st.2.1 (Q8 hp)<|Wu<|QK ho hd (by simp) ?_);have sb:=Q1 s.heap I (Obj.mapFields (·.setIfInBounds 1 (rawInt ((i:Int)+1))));exact Wy ⟨_,rfl,fin _ _ s.toks e3 ⟨SI.step1 (x:=.none) ho hc hd,st.2.1.keep λo e=>sb.extBut a o hne e,oT,sb.extBut T oT hT hoT,c,hdT⟩ λb o hb e=>sb.extBut b o (λz=>hb (by simp[z])) e⟩
 done:=λs Q E st fin=>by
  obtain⟨o,ho,hc,hd⟩:=id st.1;obtain⟨oT,hoT,c,hdT⟩:=st.2.2;refine Bx st.1 st.2.1 ?_;unfold Sh
  dsimp only
  refine Wu (wpAny_seqItems hoT hdT ?_)
  have e1:(ps.map λ(p:Nat)=>rawInt p).toArray[(es.size:Int).toNat]?=none:=by
   rw[Qm,List.getElem?_toArray,WH,V7 (by lia)];rfl
  dsimp only
  rw[e1]
  dsimp only
  refine Wu (QK ho hd (by simp) ?_);refine MR (s:={s with heap:=_}) hh (Qq (Obj.mapFields (·.setIfInBounds 0 (rawInt 0))) ho<|QL<|Qx hd _) (Qx hd _) (by simp) λh' eb=>fin h' s.toks λb o hb e=>eb b o (λz=>hb (by simp[z])) ((Q1 s.heap I<|Obj.mapFields (·.setIfInBounds 0 (rawInt 0))).extBut b o (λz=>hb (by simp[z])) e)
 self:=λ_ _ _ _ st fin=>MN st.1 fin
def O8(nx:Nat->Nat):∀m k left (b:Array l),left.length=m->(pickOrder.go nx m k left b).toList.Perm (b.toList++left):=by
 intro m
 induction m with
 |zero=>
  intro k left b g;have e:=Q2.mp g;subst e;show b.toList.Perm (b.toList++[]);simp
 |succ m h=>
  intro k left b g;have f:nx k % left.length<left.length:=Nat.mod_lt _ (by lia);unfold pickOrder.go;rw[Ww f];refine(h _ _ _<|by grind).trans ?_;rw[Array.toList_push,QD];exact(BF left _ f).append_left _
def Gw(nx:Nat->Nat)(xs:Array b):(pickOrder nx xs).toList.Perm xs.toList:=by
 have:=O8 nx xs.size 0 xs.toList #[] rfl
 simpa [pickOrder]using this
noncomputable def slotAt(t:SetTable)(i:Nat):Nat:=if i=0 then 0 else t.place.getD (i-1) 0+1
def Ig(h:t.fits m=true):t.place.size=m:=by
 simp only[SetTable.fits,Qd,beq_iff_eq]at h
 grind
def Zmp(S:XS w s.heap a js es ep t){i}(l:i<=es.size):SetTable.below t.place (slotAt t i)=i:=by
 have g:=Ig S.fit;have R:=S.tab.ris.ris;refine Zeb R (by lia) (λk h=>?_) λk o b=>?_
 ·unfold slotAt;rw[W2 (by lia)];by_cases e:k=i-1
  ·rw[e];lia
  ·have:=R k (i-1) (by lia) (by lia)
   lia
 ·unfold slotAt;by_cases f:i=0
  ·grind
  ·rw[W2 f]
   have:=R (i-1) k (by lia) b
   lia
def Zge{A'}(M:A'.handled=none)(S:XS w s.heap a js es ep t)
  (l:∀I fp (vs:Yb) St N d1,Walks prog w A' I fp [I] es.size (λi v=>vs[i]?=some v) St->St 0 N->(∀b∈fp,b=a\/s.heap.get? b=none)->vs.length=es.size->vs.Perm (es.toList.map (·.2))->
   s.heap.get? I=none->(∀b o,s.heap.get? b=some o->N.get? b=some o)->Q (.ref I) {s with heap:=N,drawn:=d1}) :
  wpAny (model prog w) A (pyIter<|.ref a) Q E s:=by
 obtain⟨ob,g,hx,h⟩:=S.obj;have hT:s.TypeIs (.ref a) "set":=⟨ob,g,hx.1⟩;have ha:=W8 g
 have new:∀b,s.heap.objs.size<=b->s.heap.get? b=none:=λb f=>by
  cases e:s.heap.get? b with
  |none=>rfl
  |some o=>exact absurd (W8 e) (Jz.mpr f)
 refine Jd hT F.slot_set_iter (QH F.slot_set_iter hT Zgo ?_<|F.args_set_iter_1 _);unfold Builtin.«frozenset.__iter__»;show wpAny _ _ (Builtin.Frozenset.sizeOf a >>= _) _ _ s;unfold Builtin.Frozenset.sizeOf;refine Wu (Wu<|wpAny_setEntries_of g h S.fit<|Wy ?_);refine Wu ?_;unfold setDrawn;refine Wu (Vp g h S.fit<|Wu<|Bw<|Wy ?_)
 dsimp only
 change wpAny _ _ (if (!KG w&&(!t.plain&&decide (es.size>1)))=true then _ else _) _ _ _;cases hd:(!KG w&&(!t.plain&&decide (es.size>1)))with
 |false=>
  rw[W2 (by decide)];refine Wu (Wy<|Wu<|wpAny_setEpoch_of g h S.fit<|Wu<|Qo<|Wy ⟨_,rfl, "set_iterator",_,⟨_,WE _ rfl,rfl⟩,si_slot.lookup,?_⟩);have B:=WS ha;have S1:XS w (s.heap.push {cls:=.type "set_iterator",data:=.fields [rawInt 0,rawInt 0,.ref a,rawInt es.size,rawInt ep].toArray}) a js es ep t:=S.keep λo e=>Wz _ e
  have lt:∀b∈[s.heap.objs.size,a],b=a\/s.heap.get? b=none:=λb f=>by
   rcases WB.mp f with rfl|f
   ·exact .inr (new _<|W3 _)
   ·exact .inl (Wx.mp f)
  cases f:KG w with
  |true=>
   have u:((pickOrder (w.params.setOrder a ep) es).toList.map (·.2)).length=es.size:=by
    rw[Wv,(Gw _ _).length_eq];simp
   refine l _ _ _ _ _ s.drawn (LW M s.heap.objs.size a B ((pickOrder (w.params.setOrder a ep) es).toList.map (·.2)) u (λ_=>0) λA E s i Q hi G q=>Zez G f ?_) ⟨⟨_,WE _ rfl,rfl,rfl⟩,S1⟩ lt u ((Gw _ _).map _) (new _<|W3 _) λb o e=>Wz _ e;rw[WH]at q;rw[←Q9];cases e:(pickOrder (w.params.setOrder a ep) es).toList[i]? with
   |none=>rw[e]at q;exact q
   |some x=>rw[e]at q;exact q
  |false=>
   have y:(!t.plain&&decide (es.size>1))=false:=by rw[f]at hd;simpa using hd
   refine l _ _ _ _ _ s.drawn (LW M s.heap.objs.size a B (es.toList.map (·.2)) (by simp) (slotAt t) λA E s i Q hi G q=>Zlq G f y ?_) ⟨⟨_,WE _ rfl,rfl,rfl⟩,S1⟩ lt (by simp) (List.Perm.refl _) (new _<|W3 _) λb o e=>Wz _ e;rw[Zmp G hi];have hz:=Ig G.fit;rw[WH]at q;by_cases L:i<es.size
   ·have C:=Q8 L;have e2:t.place[i]?=some t.place[i]:=Q8 (by lia);have U:es.toList[i]?=some es[i]:=by rw[Q9];exact C
    rw[U]at q;rw[C,e2]
    have e4:slotAt t (i+1)=t.place[i]+1:=by
     unfold slotAt;rw[W2 (by lia)]
     have:i<t.place.size:=by lia
     simp[Array.getD,this]
    have Y:=q;rw[e4]at Y;exact Y
   ·have C:es[i]?=none:=Jg (by lia);have U:es.toList[i]?=none:=by rw[Q9];exact C
    rw[U]at q;rwa[C]
 |true=>
  rw[W5 rfl];refine Wu (OO _ _ s (by simp) λr d y=>?_);have u:r.length=es.size:=by rw[y.length_eq];simp
  have J:∀p∈r,p<es.size:=λp hm=>Q6.mp (y.mem_iff.mp hm);refine Wu (Qo ?_<|by show(r.map λ(i:Nat)=>rawInt i).toArray.size<=sizeLine;rw[Qj,Wv,u];exact Ja S.few);have z:=Wz {cls:=.type "tuple",data:=.seq (r.map λ(i:Nat)=>rawInt i).toArray} g;refine Wu (wpAny_setEpoch_of z h S.fit<|Wu<|Qo<|Wy ⟨_,rfl, "set_iterator",_,⟨_,WE _ rfl,rfl⟩,si_slot.lookup,?_⟩);have H:(s.heap.push {cls:=.type "tuple",data:=.seq (r.map λ(i:Nat)=>rawInt i).toArray}).objs.size=s.heap.objs.size+1:=V5 ..
  have T:(List.range es.size).map (λp=>((es[p]?).map (·.2)).getD Value.none)=es.toList.map (·.2):=by
   apply JI;intro k;by_cases hk:k<es.size
   ·simp[hk]
   ·have:es.size<=k:=by lia
    simp[this]
  refine l _ _ _ _ _ d (Zjy M _ a s.heap.objs.size ?_ ?_ r u J _ rfl) ⟨⟨_,WE _ rfl,rfl,rfl⟩,S.keep λo e=>Wz _ (Wz _ e),_,Wz _ (WE _ rfl),0,rfl⟩ (λb f=>?_) (by rw[Wv];exact u) ?_ (new _ ?_) λb o e=>Wz _ (Wz _ e)
  ·show a≠_;rw[H];exact WS (Jb ha)
  ·show s.heap.objs.size≠_;rw[H];exact WS (VA _)
  ·rcases WB.mp f with rfl|f
   ·refine .inr (new _ ?_);show s.heap.objs.size<=_;rw[H];exact Ve _
   ·rcases WB.mp f with rfl|f
    ·exact .inl rfl
    ·rw[Wx.mp f];exact .inr (new _<|W3 _)
  ·rw[←T];exact y.map _
  ·show s.heap.objs.size<=_;rw[H];exact Ve _
def Zn2(g:s.TypeIs (.ref a) "set")(h:Q false s):wpAny (model prog w) A (Builtin.List.listLengthHint<|.ref a) Q E s:=by
 refine Wu (wpAny_specialOf g F.slot_set_len.lookup ?_);generalize f:("set.__len__" : String)=z
 wp_delta
 have l:splitId z=some ("set","__len__"):=by subst f;decide +kernel
 rw[l];subst f;refine Wu (wpAny_isInstance (b:=true) g (by rw[isSubtype_type];kernel_rfl) (wpAny_ite_split (λz=>absurd z (by decide)) λ_=>?_));exact wpAny_ite_split (λ_=>Wu (wpAny_typeOf g<|Wy h)) λz=>absurd (by decide +kernel) z
def Zh9(hh:A.handled=none)(S:XS w s.heap a js es ep t)(D:Addr)(c:Nat)(g:Value)(U:s.heap.get? D=some {cls:=.type "list",data:=.seq #[] c})(B:D≠a)(fin:∀h' J d (vs:Yb) v,vs.Perm (es.toList.map (·.2))->h'.get? D=some {cls:=.type "list",dict:=none,data:=.seq vs.toArray v,slots:=#[]}->(∀b o,b≠D->s.heap.get? b=some o->h'.get? b=some o)->R (.ok<|.ret g) {s with heap:=h',toks:=J,drawn:=d}) :
  wpAny (model prog w) A.in1 (Builtin.List.listExtendWith (.ref D) (.ref a) g) (λf s'=>match f with | .done f=>R (.ok f) s' | .again v=>v.quiet=true/\codeAny (model prog w) A v R s') (λe s'=>R (.error e) s') s:=by
 obtain⟨ob,y,hx,hdd⟩:=S.obj;have hT:s.TypeIs (.ref a) "set":=⟨ob,y,hx.1⟩;unfold Builtin.List.listExtendWith;refine Wu (wpAny_typeOf hT ?_);have n1:Builtin.List.listSameRef (.ref D) (.ref a)=false:=by simp[Builtin.List.listSameRef,B]
 have n2:(Value.type "set" == Value.type "list")=false:=by decide
 have n3:(Value.type "set" == Value.type "tuple")=false:=by decide
 simp only[n1,n2,n3,Bool.or_false,VR,Jk];refine Wu (Zge (A':=A.in1) hh S λI fp vs St Y d1 W M flt hl hp T keep=>?_);have hDI:D≠I:=λz=>by rw[←z,U]at T;cases T
 have loop:∀h J c1,St 0 h->(∀b o,b≠D->s.heap.get? b=some o->h.get? b=some o)->h.get? D=some {cls:=.type "list",data:=.seq #[] c1}->D∉fp->
   codeAny (model prog w) A (.builtin "list.extend.loop" ⟨[.ref D,.ref I,g],[]⟩) R {s with heap:=h,toks:=J,drawn:=d1}:=λh J c1 st hk q p=>by
  refine codeAny_extend_loopS W.toS (Ja S.few) D p g es.size 0 _ #[] c1 rfl (QM _) st q (ItemsOf.nil _) λs' u v L H r=>?_
  have ev:u.toList=vs:=by
   apply JI;intro k;by_cases N:k<u.size
   ·have e1:=Q8 N;rw[Q9,e1];exact(r.2 k _ e1).symm
   ·rw[Q9,Jg (by lia),V7 (by have:=r.1;lia)]
  have e2:u=vs.toArray:=by rw[←ev]
  rw[e2]at H;rw[Moved.eq_with L];refine fin s'.heap s'.toks d1 vs v hp H λb o l e=>L.heap b o (λC=>?_) (hk b o l e);rcases WB.mp C with z|z
  ·exact l z
  ·rw[Wx.mp z,T]at e;cases e
 have p:D∉fp:=λL=>by
  rcases flt D L with z|z
  ·exact B z
  ·rw[U]at z;cases z
 have Q:Shared.TypeIs {s with heap:=Y,drawn:=d1} (.ref a) "set":=⟨ob,keep _ _ y,hx.1⟩
 refine Wu (QW<|Zn2 Q ?_);have q:=keep _ _ U;refine Wu (wpAny_rule<|Wu (?_:wpAny _ _ (updateSeq D (·.push .none) >>= λ_=>updateSeq D (·.pop)) _ _ _));refine Wu (wpAny_updateSeq q rfl ?_);have G:=Qq (Obj.mapSeq (·.push Value.none)) q rfl;refine wpAny_updateSeq G rfl ?_
 have x:∀b o,b≠D->Y.get? b=some o->((Y.update D<|Obj.mapSeq (·.push Value.none)).update D (Obj.mapSeq (·.pop))).get? b=some o:=λb o l e=>
  (Qz _ _<|Ne.symm l).trans ((Qz _ _<|Ne.symm l).trans e)
 exact Wy ⟨plainId_quiet F.plain_extend_loop _,loop _ _ _ (W.frame 0 _ _ M λb l o e=>x b o (λz=>p (z▸l)) e) (λb o l e=>x b o l (keep b o e)) (Qq (Obj.mapSeq (·.pop)) G rfl) p⟩
def Ziu(G:A.handled=none)(S:XS w s.heap a js es ep t)(u:∀g h d vs,vs.Perm (es.toList.map (·.2))->(∀b o,s.heap.get? b=some o->g.get? b=some o)->s.heap.objs.size<g.objs.size->R vs {s with heap:=g,toks:=h,drawn:=d}) :
  wpAny (model prog w) A (collect<|.ref a) R E s:=by
 obtain⟨Q,C,hx,H⟩:=S.obj;refine Wu (wpAny_runValue<|Vk entry_proto_collect' ?_);have M:=VB (A:=A) PySem.F.plain_proto_collect ⟨[.ref a],[]⟩;refine(Wu<|Qo<|Wy ⟨plainId_quiet PySem.F.plain_list_iadd _,Vk entry_list_iadd' ?_⟩);rw[(VB (A:=A) PySem.F.plain_list_iadd ⟨[.ref s.heap.objs.size,.ref a],[]⟩)];have J:(s.heap.push {cls:=.type "list",data:=.seq ([]:Yb).toArray}).get? s.heap.objs.size=some {cls:=.type "list",data:=.seq #[]}:=WE _ rfl
 have B:=Zh9 (prog:=prog) (s:={s with heap:=s.heap.push {cls:=.type "list",data:=.seq ([]:Yb).toArray}})
  (R:=λq z=>∃g h d vs v,q=.ok (.ret<|.ref s.heap.objs.size)/\z={s with heap:=g,toks:=h,drawn:=d}/\vs.Perm (es.toList.map (·.2))/\(∀b o,s.heap.get? b=some o->g.get? b=some o)/\
   g.get? s.heap.objs.size=some {cls:=.type "list",dict:=none,data:=.seq vs.toArray v,slots:=#[]}) G (S.keep λo e=>Wz _ e) s.heap.objs.size 0 (.ref s.heap.objs.size) J (Jt<|W8 C)
  λg h d vs v p l r=>⟨g,h,d,vs,v,rfl,rfl,p,λb o e=>r b o (WS<|W8 e) (Wz _ e),l⟩
 refine Qh B (λf z x=>?_) λe z x=>?_
 ·cases f with
  |done f=>
   obtain⟨g,h,d,vs,v,e,rfl,p,r,l⟩:=x;cases e
   refine(Wu<|wpAny_load l<|Wy ?_);exact u g h d vs p r (W8 l)
  |again T=>
   refine⟨x.1,Vh x.2 λq N y=>?_⟩;obtain⟨g,h,d,vs,v,rfl,rfl,p,r,l⟩:=y;refine(Wu<|wpAny_load l<|Wy ?_);exact u g h d vs p r (W8 l)
 ·obtain⟨_,_,_,_,_,L,_⟩:=x;cases L
theorem Ga:∀{l:List (Int×Value)},(∀e∈l,Ent e)->IntsAre (l.map (·.2)) (l.map keyOf)
 |[],_=>.nil
 |e::r,h=>by
  obtain⟨k,t,rfl⟩:=h e WU;exact .cons k t (Ga λx hx=>h x (WT _ hx))
def Zgq{vs us}(p:vs.Perm us):∀{ns:ZV},IntsAre us ns->∃b,IntsAre vs b/\b.Perm ns:=by
 induction p with
 |cons x _ q=>
  intro ns h;cases h with
  |cons n t r=>
   obtain⟨b,v,u⟩:=q r;exact⟨n::b,.cons n t v,List.Perm.cons _ u⟩
 |swap x y l=>
  intro ns h;cases h with
  |cons n t r=>
   cases r with
   |cons f g o=>exact⟨f::n::_,.cons f g (.cons n t o),List.Perm.swap _ _ _⟩
 |_=>grind
def R1(L:A.handled=none)(B:SetB w s.heap a js)(x:js.length<64)
  (C:∀l y u d f ns e,IntsAre f ns->ns.Perm js->ns.Pairwise (·<=·)->s.heap.get? l=none->s.heap.objs.size<=l->y.get? l=some {cls:=.type "list",data:=.seq f.toArray e}->
   (∀b o,s.heap.get? b=some o->y.get? b=some o)->Q (.ref l) {s with heap:=y,toks:=u,drawn:=d}) :
  wpAny (model prog w) A (call (.builtin "sorted") [.ref a]) Q E s:=by
 obtain⟨es,ep,t,S⟩:=B;refine Calls.call_function_entry kind_sorted plain_sorted entry_sorted (args_sorted1 _) ?_;refine Wu (Wy<|Wu (Ziu L S λp u d r H keep big=>?_));obtain⟨N,G,v⟩:=Zgq H (Ga S.ent);have g:=v.trans S.per;have J:r.length<64:=by rw[IntsAre.length G,g.length_eq];exact x
 refine Wu (wpAny_newList ?_ (by have:(64:Nat)<=sizeLine:=(by decide);lia));have z:(p.push<|seqObj "list" r.toArray 0).get? p.objs.size=some (seqObj "list" r.toArray 0):=WE _ rfl;refine Wu (QW<|QH slot_list_sort ⟨_,z,rfl⟩ entry_list_sort (list_sort_tree z G J λf ns a1 a2 a3=>⟨_,rfl,?_⟩)<|args_list_sort _);obtain⟨e,M⟩:=sortedHeap_at z;refine Wy ⟨_,rfl,C p.objs.size _ u d f.toList ns e a1 (a2.trans g) a3 ?_ (VJ big) (by simpa [seqObj]using M) λb o q=>?_⟩
 ·cases q:s.heap.get? p.objs.size with
  |none=>rfl
  |some o=>exact absurd (W8<|keep _ _ q) (QE _)
 ·have h:=W8 (keep b o q);rw[sortedHeap_old (WS h) (by rw[size_push'];exact Jb h)];exact Wz _ (keep b o q)
end
end SetR
namespace Own
open PySem PySem.Spec PyProof.Rows L2
noncomputable def T7(w:World)(l:Addr)(b:ZV):HO:=.ext λh=>SetR.SetB w h l b
section
variable {X:Cx}
def Zjw{w H h l b}(B:SetR.SetB w h l b):ObjOk P w H h l (T7 w l b):=by
 refine⟨B,?_,λp n f k=>f.at k⟩;obtain⟨q,r,t,S⟩:=B;obtain⟨o,g,_⟩:=S.obj
 grind
def Zjr(y:X.calm=true):XM X (.type "set") (λxs H Q=>∃(p:Addr) (ns:ZV),xs=[.ref p]/\SqL X.K H p (ns.map V.int)/\ns.length+1<4096/\∀l,H l=none->Q (.ref l) (upd H l<|T7 X.w l<|ns.foldl SetR.XQ [])):=by
 intro pins s A H xs C Q I f h;obtain⟨p,ns,rfl,z,x,q⟩:=h;obtain⟨u,rfl,g⟩:=f.one;obtain rfl:=g;obtain⟨v,r,n,_⟩:=I.list z;refine SetR.Zev (I.ok.hd y) n.isList (by simpa using Fk r) x λG E B keep=>?_;exact⟨.ref s.heap.objs.size,upd H s.heap.objs.size (T7 X.w s.heap.objs.size _),I.laid (λb o e=>keep b o (W8 e) e) (W3 _) (Zjw B),rfl,q _ (I.hok.fresh<|W3 _)⟩
def Ll(N:X.calm=true):XM X (.builtin "sorted") (λxs H Q=>∃p g,xs=[.ref p]/\g.length<64/\(SqL X.K H p (g.map V.int)\/H p=some (T7 X.w p g))/\
  ∀l (ns:ZV),H l=none->ns.Perm g->ns.Pairwise (·<=·)->Q (.ref l) (upd H l<|.lst<|ns.map V.int)):=by
 intro pins s U H xs Y Q I G h;obtain⟨p,g,rfl,A,v,q⟩:=h;obtain⟨u,rfl,J⟩:=G.one;obtain rfl:=J
 have big:∀{ns:ZV},ns.Perm g->(ns.map V.int).length<=sizeLine:=λM=>by
  rw[Wv,M.length_eq]
  have:(64:Nat)<=sizeLine:=by decide
  lia
 rcases v with v|v
 ·obtain⟨n,r,L,_⟩:=I.list v;have E:IntsAre n g:=by simpa using Fk r
  refine sorted_ints L.isList E (by rw[IntsAre.length E];exact A) λf ns a1 a2 a3=>?_;obtain⟨e,C⟩:=sortedAll_at s.heap n f;have x:=I.hok.fresh (Ve _);refine⟨.ref (s.heap.objs.size+1),upd H (s.heap.objs.size+1) (.lst<|ns.map V.int),I.laid (λb o e=>sortedAll_old e) (Ve _) ⟨big a2,f.toList,e,BR a1,?_⟩,rfl,q _ ns x a2 a3⟩;omega
 ·have B:=(I.hok p _ v).1;refine SetR.R1 (I.ok.hd N) B A λl T tk d f ns e a1 a2 a3 nl y C keep=>?_;have x:=I.hok.fresh y;refine⟨.ref l,upd H l (.lst<|ns.map V.int),?_,rfl,q l ns x a2 a3⟩;have ok:HOk X.prog X.w (upd H l<|.lst<|ns.map V.int) T:=I.hok.laid keep y ⟨big a2,f,e,BR a1,C⟩;exact I.call (ch:=[]) (Un.laid keep y x) ok I.bare (λb z=>absurd z (by simp))
end
section
variable {X:Cx}{K:ZT}
def Ze5(b:autoParam (X.K=K) au_0):IxR X (λx y H Q=>SS K x y H Q\/Bb K x y H Q):=by subst b;exact D7
def Zi1(b:autoParam (X.K=K) au_0):XM X (.builtin "len") (λxs H Q=>∃x n,xs=[x]/\Fg K x H n/\Q (.int n) H):=by subst b;exact AS
def Zfo(b:autoParam (X.K=K) au_0):OpR X (compareOp .In) (rIn K false):=by subst b;exact Zkf
def Rv(b:autoParam (X.K=K) au_0):OpR X (compareOp .NotIn) (rIn K true):=by subst b;exact Zax
def SJ{pos es k t n}(g:X.calm=true)(h:PGs X es t)(l:autoParam (X.K=K) au_0)(f:autoParam ((assignEach es X.env).length=n) au_0)(b:autoParam ((assignEach es X.env).findIdx? (·.1)=none) au_0):PG X (.Tuple es k pos) (D8 K n t):=by subst l;exact Zar g h f b
end
section
variable {α:Type}{R:Hp->V->α->Prop}{φ:ZZ}{g:TG}{tc:TT}{te:TE}{σ:L2.St}{H1:Hp}{F:Hp->Prop}{D:Addr}
def Zeq{K a xs}{ds:List α}(f:α->Option V)(v:SqL K H1 a xs)(hd:xs.length=ds.length)(E:H1 D=none)(H:ds.length<=sizeLine)(turn:∀(i:Nat) x d l,xs[i]?=some x->ds[i]?=some d->Same H1 l->∀k:Option V->Hp->Prop,k (f d) l->g x (atStart φ σ) l λh w=>Sub (atStart φ σ) h/\tc h w λb r=>if b=true then te h r λy u=>k (some y) u else k none r)(done:F (upd H1 D<|.lst<|ds.filterMap f)) :
  ∃W:Nat->Nat->List V->Hp->Prop,(∃m,W 0 m [] (upd H1 D<|.lst []))/\
   ∀i m q l,W i m q l->((Itl K a).stop i l/\F l)\/((Itl K a).go i l/\∀x z,(Itl K a).yld i l x z->g x (atStart φ σ) z λh w=>Sub (atStart φ σ) h/\tc h w λb r=>
    if b=true then te h r λy u=>u D=some (.lst q)/\q.length<sizeLine/\∃n,n<m/\W (i+1) n (q++[y]) (upd u D<|.lst (q++[y]))else ∃n,n<m/\W (i+1) n q r):=by
 refine⟨λi m q l=>m=ds.length-i/\i<=ds.length/\q=(ds.take i).filterMap f/\l=upd H1 D (.lst q),⟨ds.length,by simp,QM _,by simp,rfl⟩,?_⟩;rintro i m q l ⟨rfl,J,rfl,rfl⟩;have s:Same H1 (upd H1 D<|.lst ((ds.take i).filterMap f)):=X4 E;by_cases p:i<ds.length
 ·refine .inr ⟨⟨xs,xs[i]'(by lia),s.seq v,by simp[hd,p]⟩,λx z y=>?_⟩;obtain⟨e,y⟩:=y;subst e
  refine turn i x ds[i] _ (y xs<|s.seq v) (Ww p) s (λo A=>match o with
   |some y=>A D=some (.lst ((ds.take i).filterMap f))/\((ds.take i).filterMap f).length<sizeLine/\∃n,n<ds.length-i/\(n=ds.length-(i+1)/\i+1<=ds.length/\(ds.take i).filterMap f++[y]=(ds.take (i+1)).filterMap f/\upd A D (.lst ((ds.take i).filterMap f++[y]))=upd H1 D (.lst ((ds.take i).filterMap f++[y])))
   |none=>∃n,n<ds.length-i/\(n=ds.length-(i+1)/\i+1<=ds.length/\(ds.take i).filterMap f=(ds.take (i+1)).filterMap f/\A=upd H1 D (.lst ((ds.take i).filterMap f)))) ?_
  have B:=W4 p;cases C:f ds[i]with
  |some y=>
   refine⟨Xk,?_,ds.length-(i+1),by lia,rfl,p,?_,Ry⟩
   ·have G:=List.length_filterMap_le f (ds.take i);rw[WG]at G;lia
   ·rw[B,V8];simp[C]
  |none=>
   refine⟨ds.length-(i+1),by lia,rfl,p,?_,rfl⟩;rw[B,V8];simp[C]
 ·have e:i=ds.length:=by lia
  subst e;refine .inl ⟨⟨xs,s.seq v,by lia⟩,?_⟩;rwa[WX]
end
noncomputable def eqL(xs b:List V):Bool:=decide (xs.length=b.length)&&(List.range xs.length).all λj=>eqV (xs.getD j .non) (b.getD j .non)
noncomputable def P4(K:ZT)(neg:Bool):R2:=λx y H Q=>∃(p q:Addr) (xs b:List V),x=.ref p/\y=.ref q/\SqL K H p xs/\SqL K H q b/\xs.all Kw=true/\b.all Kw=true/\Q (.bl (if neg then !eqL xs b else eqL xs b)) H
section
variable {X:Cx}
def GV{xs b us f}(l:Vals xs us)(h:Vals b f)(f1:xs.all Kw=true)(v:b.all Kw=true)(j:Nat)(r:j<us.toArray.size)(q:j<f.toArray.size) :
  SeqAt.EqAt A s us.toArray[j] f.toArray[j] (eqV (xs.getD j .non)<|b.getD j .non):=by
 have E:=l.length;have C:=h.length;have H:j<us.length:=by simpa using r
 have G:j<f.length:=by simpa using q
 have o:xs[j]?=some (xs[j]'(by lia)):=Ww _;have n:b[j]?=some (b[j]'(by lia)):=Ww _;obtain⟨u,L,p⟩:=l.get o;obtain⟨w,J,g⟩:=h.get n;have y:us.toArray[j]=u:=by grind
 have x:f.toArray[j]=w:=by grind
 have B:xs.getD j .non=xs[j]'(by lia):=by rw[W7,o];rfl
 have z:b.getD j .non=b[j]'(by lia):=by rw[W7,n];rfl
 rw[y,x,B,z];exact M2 p g (Vt.mp f1 _<|WN _) (Vt.mp v _<|WN _)
def Ey(o:X.A.units<cLine):OpR X (compareOp .Eq) (P4 X.K false):=by
 intro pins s G H x y v u Q I w r h;obtain⟨p,q,xs,b,rfl,rfl,z,hq,f1,E,k⟩:=h;obtain rfl:=w;obtain rfl:=r;obtain⟨L,g,l,_⟩:=I.list z;obtain⟨J,f,p2,_⟩:=I.list hq;have N:=g.length;have M:=f.length;have n:=k;by_cases e:xs.length=b.length
 ·refine SeqAt.eq_listAt l.isList p2.isList (by simp;lia) o (λj C B=>GV g f f1 E j C B) ⟨.bl (eqL xs b),H,I,?_,n⟩;show _=Value.bool (eqL xs b);unfold eqL
  grind
 ·refine SeqAt.eq_list_lengthsAt l.isList p2.isList (by simp;lia) o ⟨.bl (eqL xs b),H,I,?_,n⟩;unfold eqL;rw[Qb e];rfl
def M4(o:X.A.units<cLine):OpR X (compareOp .NotEq) (P4 X.K true):=by
 intro pins s G H x y v u Q I w r h;obtain⟨p,q,xs,b,rfl,rfl,z,hq,f1,E,k⟩:=h;obtain rfl:=w;obtain rfl:=r;obtain⟨L,g,l,_⟩:=I.list z;obtain⟨J,f,p2,_⟩:=I.list hq;have N:=g.length;have M:=f.length;have n:=k;by_cases e:xs.length=b.length
 ·refine SeqAt.RcNeAt.lists l.isList p2.isList (by simp;lia) o (λj C B=>GV g f f1 E j C B) _ _ _ _ ⟨.bl (!eqL xs b),H,I,?_,n⟩;show _=Value.bool (!eqL xs b);unfold eqL
  grind
 ·refine SeqAt.RcNeAt.lists_lengths l.isList p2.isList (by simp;lia) o _ _ _ _ ⟨.bl (!eqL xs b),H,I,?_,n⟩;unfold eqL;rw[Qb e];rfl
def Fq{xs:ZV}{us}(r:Vals (xs.map V.int) us)(z:Int):∀j f (b:j<xs.length),Value.isInt z us[j]=(xs[j]==z):=by
 intro j f b;obtain⟨u,g,t,rfl⟩:=r.get (by rw[WH,Ww b];rfl);rw[Ww f]at g;rw[WL g];rfl
def EA{xs:ZV}{us}(r:Vals (xs.map V.int) us)(z:Int)(t:Tok):∀y,y∈us.toArray->MeetsSeq.EqGives y (.int z t) (Value.isInt z y):=by
 intro y g;obtain⟨j,h,rfl⟩:=WJ.mp (by simpa using g:y∈us);have f:=r.length;rw[Wv]at f;obtain⟨u,b,l,rfl⟩:=r.get (by rw[WH,Ww (show j<xs.length by lia)];rfl);rw[Ww h]at b;rw[WL b];exact MeetsSeq.EqGives.int _ _ _ _
def F4(K:ZT):V->List V->Hp->VK->Prop:=λx b H Q=>∃(l:Addr) (xs:ZV) (z:Int),x=.ref l/\b=[.int z]/\SqL K H l (xs.map V.int)/\z∈xs/\Q (.int (xs.idxOf z:Nat)) H
def Zfg:MtM X "list.index" (F4 X.K):=by
 intro pins s σ H x vs v us Q I J L h;obtain⟨l,xs,z,rfl,rfl,Y,N,q⟩:=h;cases J
 obtain⟨u,rfl,t,rfl⟩:=L.one;obtain⟨b,r,M,f⟩:=I.list Y;obtain⟨o,n,E,G,g,hd⟩:=M;obtain⟨c1,d1,dt1,p⟩:=o;simp only at G g hd;subst G g hd;have C:=r.length;rw[Wv]at C;have B:=Vu.mpr N;have hb:xs.length<=2 ^ 24:=by rw[Wv]at f;exact f
 refine call_meets PySem.F.slot_list_index ⟨_,E,rfl⟩ PySem.F.entry_list_index (PySem.F.args_list_index_2 _ _)
  (SeqAt.list_indexAt l b.toArray n none p (.int z t) (Value.isInt z) (xs.idxOf z) (by simpa [←C]using B) (by lia) ?_ ?_) ⟨E,λy T=>(EA r z t y T).at _ _,⟨.int (xs.idxOf z:Nat),H,I.tok _,⟨_,rfl⟩,q⟩⟩
 ·have e:=Fq r z (xs.idxOf z) (by lia) B;show Value.isInt z b[xs.idxOf z]=true;rw[e];simpa using JF B
 ·intro m U A;have w:m<b.length:=by simpa using U
  show Value.isInt z b[m]=false;rw[(Fq r z m w<|by lia)]
  have:=List.not_of_lt_findIdx A
  simpa using this
theorem MV{b g:Type}(f:b->g):∀(xs:List b) k,(xs.eraseIdx k).map f=(xs.map f).eraseIdx k
 |[],_|_::_,0=>rfl
 |x::r,k+1=>by
  show f x::(r.eraseIdx k).map f=f x::(r.map f).eraseIdx k;rw[MV f r k]
def OT:V->List V->Hp->VK->Prop:=λx b H Q=>∃(l:Addr) (xs:ZV) (z:Int),x=.ref l/\b=[.int z]/\H l=some (.lst<|xs.map V.int)/\z∈xs/\Q .non (upd H l<|.lst ((xs.eraseIdx<|xs.idxOf z).map V.int))
def Zdp:MtM X "list.remove" OT:=by
 intro pins s J H x L v M Q I A B h;obtain⟨l,xs,z,rfl,rfl,y,C,q⟩:=h;cases A
 obtain⟨u,rfl,t,rfl⟩:=B.one;obtain⟨f,b,n,r,G,e⟩:=I.lstM y;have w:=r.length;rw[Wv]at w;have p:=Vu.mpr C
 refine call_meets PySem.F.slot_list_remove ⟨_,e,rfl⟩ PySem.F.entry_list_remove (PySem.F.args_list_remove_2 _ _)
  (MeetsSeq.list_remove l b.toArray n (.int z t) (Value.isInt z) (EA r z t) (xs.idxOf z) (by simpa [←w]using p) ?_ ?_<|by rw[Qj,←G];exact f) ⟨e,?_⟩
 ·have e:=Fq r z (xs.idxOf z) (by lia) p;show Value.isInt z b[xs.idxOf z]=true;rw[e];simpa using JF p
 ·intro m E o;have g:m<b.length:=by simpa using E
  have e:=Fq r z m g (by lia);show Value.isInt z b[m]=false;rw[e]
  have:=List.not_of_lt_findIdx o
  simpa using this
 ·refine⟨.non,_,I.lset (its':=b.eraseIdx (xs.idxOf z)) y e ?_ ?_ ?_,rfl,q⟩
  ·show b.toArray.eraseIdxIfInBounds (xs.idxOf z)=_;rw[List.eraseIdxIfInBounds_toArray]
  ·rw[MV];exact r.eraseIdx _
  ·rw[Wv,List.length_eraseIdx];split<;>lia
end
noncomputable def Ite(K:ZT)(a:Addr):It:=
 ⟨λi H=>∃xs x,SqL K H a xs/\xs[i]?=some x,λi H x b=>∃T v,H T=none/\(∀xs,SqL K H a xs->xs[i]?=some v)/\x=.ref T/\b=upd H T (.tup [.int i,v]),λi H=>∃xs,SqL K H a xs/\xs.length<=i⟩
def Zk2{K elts k1 tp}(a e it:Addr)(hne:e≠it) :
  Turn P w K (.Tuple elts k1 tp) (Ite K a) [e,it] e (λi h=>∃old,IsEnum h e it i old/\h.IsListIter it a i) where
 mem:=by simp
 obj:=λi h st b hb=>by
  obtain⟨old,h1,o,h2,_,h3⟩:=st;rcases WB.mp hb with rfl|hb
  ·exact⟨_,h1,λv z=>by cases z⟩
  ·rw[Wx.mp hb];exact⟨o,h2,λv z=>by rw[h3]at z;cases z⟩
 keep:=λi h h' st k=>by
  obtain⟨old,h1,h2⟩:=st;exact⟨old,k e (by simp) _ h1,h2.at λo q=>k it (by simp) o q⟩
 item:=by
  intro X hP hw hK hc i pins s σ H E I hf st hg;subst hP hw hK;obtain⟨old,he,hit⟩:=st;obtain⟨xs,x,hq,hx⟩:=hg;obtain⟨its,rv,p,hz⟩:=I.list hq;obtain⟨u,hu,ru⟩:=rv.get hx;obtain⟨a0,a1,a2,a3,a4,a5⟩:=hf e (by simp);obtain⟨b0,b1,b2,b3,b4,b5⟩:=hf it (by simp);have hfr:=I.hok.fresh (W3 _);have heL:=W8 he;have hiL:it<s.heap.objs.size:=by obtain⟨o,ho,_⟩:=hit;exact W8 ho
  refine wpAny_pyNext_enum_item he hit p.isList (by simpa using hu) hne λh1 eo it1 ht1 hz1 k1=>⟨_,rfl,?_⟩;refine wpAny_letOwnedTupleGo_enum eo λh2 e2 sb2=>?_;have keep2:∀b o,b∉[e,it]->s.heap.get? b=some o->h2.get? b=some o:=λb o hb q=>sb2.extBut b o (λz=>hb (by simp[z])) (k1 b o (λz=>hb (by simp[z])) (λz=>hb (by simp[z])) q)
  have n0:∀b,b∈[e,it]->H b=none:=λb hb=>by
   rcases WB.mp hb with rfl|hb
   ·exact a0
   ·rw[Wx.mp hb];exact b0
  have un:Un (frs X.stack) [e,it] H (upd H s.heap.objs.size<|.tup [.int i,x]) s.heap h2:=by
   refine⟨λb o q _ _ hx'=>keep2 b o hx' q,λb o q _ _ hx'=>⟨o.slots,keep2 b o hx' q⟩,λb o q n _=>by rw[Xa (WS<|W8 q)];exact n,λb o q hx'=>⟨o,keep2 b o hx' q⟩,
    λb ys q=>by rw[Xa (Xy q hfr)];exact q,λb o ys q=>by rw[Xa (Xy q hfr)];exact q,λb ps q=>⟨#[],by rw[Xa (Xy q hfr),q];simp⟩⟩
  have ok2:HOk X.prog X.w (upd H s.heap.objs.size<|.tup [.int i,x]) h2:=λb o q=>by
   by_cases hb:b=s.heap.objs.size
   ·subst hb;rw[Xk]at q;cases q
    exact⟨by show 2<=sizeLine;decide,[.int i s.toks,u],.cons ⟨_,rfl⟩ (.cons ru .nil),_,(sb2.extBut _ _ (Jt heL) ht1),rfl,_,rfl⟩
   ·rw[Xa hb]at q;refine(I.hok b o q).stay (λc v hc' r=>keep2 c v (λz=>?_) r) (λc r=>by rw[Xa (Xy r hfr)];exact r) λc ys r=>by rw[Xa (Xy r hfr)];exact r
    have hcn:=n0 c z;rcases hc' with rfl|hc'
    ·rw[hcn]at q;cases q
    ·rw[hcn]at hc';cases hc'
  have I2:Inv X pins σ (upd H s.heap.objs.size<|.tup [.int i,x]) {s with heap:=h2,toks:=s.toks+1}:=I.call un ok2 I.bare λb hb=>by
   rcases WB.mp hb with rfl|hb
   ·exact⟨a3,a1,a4,a5⟩
   ·rw[Wx.mp hb];exact⟨b3,b1,b4,b5⟩
  refine⟨.ref s.heap.objs.size,_,I2,rfl,⟨_,x,hfr,λys hy=>by rw[I.list_inj hy hq];exact hx,rfl,rfl⟩,⟨u,?_,it1.at λo q=>sb2.extBut it o (Ne.symm hne) q⟩,λb hb=>?_⟩
  ·have:((i+1:Nat):Int)=(i:Int)+1:=by lia
   rwa[this]
  ·rw[Xa]
   ·exact n0 b hb
   ·rcases WB.mp hb with rfl|hb
    ·exact WS heL
    ·rw[Wx.mp hb];exact WS hiL
 done:=by
  intro X hP hw hK hc i pins s σ H E I hf st hg;subst hP hw hK;obtain⟨old,he,hit⟩:=st;obtain⟨xs,hq,hx⟩:=hg;obtain⟨its,rv,p,hz⟩:=I.list hq;obtain⟨b0,b1,b2,b3,b4,b5⟩:=hf it (by simp);have l1:=rv.length;refine wpAny_pyNext_enum_end (I.ok.hd hc) he hit p.isList (by simp;lia) λh' eb=>⟨rfl,?_⟩;exact I.turned (λb o hb q=>eb b o hb q) b0 b1 b3 b4 b5
 self:=by
  intro A i s Q E st q;obtain⟨old,he,hit⟩:=st;have hT:s.TypeIs (.ref e) "enumerate":=⟨_,he,rfl⟩;refine Jd hT F.slot_enumerate_iter (QH F.slot_enumerate_iter hT F.entry_enumerate_iter ?_<|F.args_enumerate_iter_1 _);exact Wy ⟨_,rfl, "enumerate",_,hT,F.slot_enumerate_next.lookup,q⟩
noncomputable def Io(K:ZT)(h:TA):TI:=λf H R=>h f H λg b=>∃a,g=[.ref a]/\(∃xs,SqL K b a xs)/\R (Ite K a) b
def RK{a z p pos}(U:Gl X "enumerate")(Q:X.mg "enumerate"=none)(ha:PA X [a] z)(N:autoParam (starEach [a] X.env=[(false,eval a X.env)]) au_0) :
  PI X (.Tuple elts k1 tp) (.Call (.Name "enumerate" p) [a] [] pos) (Io X.K z):=by
 intro pins s y H R I h;refine Call_ (NX I U Q boot_enumerate<|Vf (thn (ha pos pins s y H _ I h) ?_) N rfl);rintro us f ⟨vs,B,g,E,G⟩;obtain⟨l,e1,⟨xs,hq⟩,q⟩:=G;subst e1;obtain⟨u,rfl,C⟩:=E.one;obtain rfl:=C;obtain⟨L,rv,J,hz⟩:=g.list hq;refine call_enumerate_list J.isList λn Y v M keep=>?_;have I2:Inv X pins y B {f with heap:=n}:=g.kept keep
 have r:f.heap.objs.size+1≠f.heap.objs.size:=Nat.succ_ne_self _;have tn:∃o,IsEnum n (f.heap.objs.size+1) f.heap.objs.size ((0:Nat):Int) o/\n.IsListIter f.heap.objs.size l 0:=⟨_,Y,v⟩;have T:=Zk2 (P:=X.prog) (w:=X.w) (K:=X.K) (elts:=elts) (k1:=k1) (tp:=tp) l (f.heap.objs.size+1) f.heap.objs.size r;refine T.self X.A 0 {f with heap:=n} _ _ tn ⟨_,_,_,_,B,rfl,I2,T,tn,λb x=>?_,q⟩
 rcases WB.mp x with rfl|x
 ·exact g.fpOk (Ve _) (g.hok.fresh<|Ve _)
 ·rw[Wx.mp x];exact g.fpOk (W3 _) (g.hok.fresh<|W3 _)
section
variable {X:Cx}{K:ZT}
def Zdh(b:autoParam (X.K=K) au_0):MtM X "list.index" (F4 K):=by subst b;exact Zfg
def L4{n t name apos cpos T id r}(p:PlainAttrs T)(slot:Slot T name id)(l:typeOf (.builtin id)=pure (.type "method_descriptor"))(u:MtM X id r)(s:PE X o n)(v:PA X (e::es) t)(w:autoParam (X.K=K) au_0)(g:autoParam (attributeBase o name X.env (eval o X.env)=eval o X.env) au_0)
  (h:autoParam (((backTo cpos<|starEach (e::es) X.env).all (λx=>!x.1)&&(backToKw cpos<|keywordEach [] X.env).all (λx=>x.1.isSome)
   && decide ((e::es).length+([]:List Keyword).length+(if ([]:List Keyword).isEmpty then 0 else 1)<30))=true) au_0)
  (f:autoParam ((apos.endLine==cpos.line)=true) au_0) (q:autoParam (starEach (e::es) X.env=(false,eval e X.env)::starEach es X.env) au_0) (b:autoParam ((backTo cpos<|starEach es X.env).any (·.1)=false) au_0) :
  PE X (.Call (.Attribute o name apos) (e::es) [] cpos) (tBM K T r n t):=by
 subst w;exact TM p slot l u s v g h f q b
end
def Cf(xs b:ZV):eqL (xs.map V.int) (b.map V.int)=decide (xs=b):=by
 unfold eqL;rw[Wv,Wv];by_cases e:xs=b
 ·subst e;rw[W1 rfl,W1 rfl,Jj,Vt];intro j n;have g:j<xs.length:=by simpa using n
  rw[W7,WH,Ww g];show(xs[j]==xs[j])=true;simp
 ·rw[Qb e];by_cases h:xs.length=b.length
  ·rw[W1 h,Jj,Je];intro f;apply e;apply List.ext_getElem h;intro j l p
   have:=Vt.mp f j (by simpa using l)
   rw[W7,WH,Ww l,W7,WH,Ww p]at this;have o:(xs[j]==b[j])=true:=this;simpa using o
  ·grind
def Tj(xs:ZV):(xs.map V.int).all Kw=true:=by
 rw[List.all_map];exact Vt.mpr λ_ _=>rfl
end Own
namespace M
open PySem PySem.Spec PyProof.Rows L2 Own
def LV{b:Type}(R:Hp->V->b->Prop)(H:Hp)(vs:List V)(xs:List b):Prop:=
 vs.length=xs.length/\∀(i:Nat) (x:b),xs[i]?=some x->∃v,vs[i]?=some v/\R H v x
def LAt{b:Type}(R:Hp->V->b->Prop)(H:Hp)(l:Addr)(xs:List b):Prop:=∃f,H l=some (.lst f)/\LV R H f xs
def KC(H:Hp)(v:V)(q:Int×Int):Prop:=∃a,v=.ref a/\H a=some (.tup [.int q.1,.int q.2])
section
variable {α:Type}{R:Hp->V->α->Prop}{H H':Hp}{vs:List V}{xs:List α}{l:Addr}
def LV.get {i:Nat}{v} (h:LV R H vs xs) (e:vs[i]?=some v):∃x,xs[i]?=some x/\R H v x:=by
 have f:i<xs.length:=by rw[←h.1];exact(WI.mp e).1
 obtain⟨b,g,r⟩:=h.2 i xs[i] (by simp)
 grind
end
def SY(m:ZV):Prop:=∃a b c d e:Int,m=[a,b,c,d,e]/\(1<=a/\a<=10)/\(1<=b/\b<=9/\(b=1\/b=3\/b=7\/b=9))/\(0<=c/\c<=9)/\(1<=d/\d<=1000)/\(1<=e/\e+d<=1001)
def Field(ps:ZU):Prop:=∀q∈ps,1<=q.1/\q.1<=10/\1<=q.2/\q.2<=1000
def O4(b:ZV)(k z:Int):z∈SetR.XQ b k↔z∈b\/z=k:=by
 unfold SetR.XQ;split
 ·grind
 ·simp
theorem EH:∀(ns b:ZV) z,z∈ns.foldl SetR.XQ b↔z∈b\/z∈ns
 |[],b,z=>by simp
 |n::r,b,z=>by
  rw[List.foldl_cons,EH r,O4,WB];constructor
  ·grind
  ·grind
def Za6(k:Int)(h:b.Nodup):(SetR.XQ b k).Nodup:=by
 unfold SetR.XQ;split
 ·lia
 ·grind
theorem LO:∀(ns:ZV) {b:ZV},b.Nodup->(ns.foldl SetR.XQ b).Nodup
 |[],_,h=>h
 |n::r,b,h=>LO r (Za6 n h)
theorem Ef:∀(ns b:ZV),(ns.foldl SetR.XQ b).length<=b.length+ns.length
 |[],b=>by simp
 |n::r,b=>by
  have g:=Ef r (SetR.XQ b n)
  have f:(SetR.XQ b n).length<=b.length+1:=by
   unfold SetR.XQ;split
   ·simp
   ·simp
  grind
def N8{l:ZV}(h:l.Pairwise (·<=·))(n:l.Nodup):l.Pairwise (· < ·):=by
 have:=h.and n
 exact this.imp λ{a b} h=>by have:=h.1;have:=h.2;lia
def FU{g f:ZV}(n:g.Pairwise (· < ·))(l:f.Pairwise (· < ·))(h:∀z,z∈g↔z∈f):g=f:=by
 have p:g.Nodup:=n.imp λ{a b} h=>by lia
 have o:f.Nodup:=l.imp λ{a b} h=>by lia
 exact((QF p o).mpr h).eq_of_pairwise (λa b _ _ x y=>by lia) n l
noncomputable def tenL:ZV:=[1,2,3,4,5,6,7,8,9,10]
def Zbb:z∈tenL↔1<=z/\z<=10:=by
 unfold tenL;constructor
 ·intro h;simp only[WB,Jl,or_false]at h;omega
 ·rintro⟨f,b⟩;simp only[WB,Jl,or_false];lia
noncomputable def Xc(ps:ZU):ZV:=tenL.filter λh=>decide (h∈ps.map (·.1))
def Pn(ps:ZU):(Xc ps).Pairwise (· < ·):=List.Pairwise.filter _ (by trivial)
def Se(b:Field ps){z}:z∈Xc ps↔z∈ps.map (·.1):=by
 unfold Xc;rw[WM,Vq,Zbb];constructor
 ·grind
 ·intro h;obtain⟨q,hq,rfl⟩:=WK.mp h
  have:=b q hq
  grind
def Tc(ps:ZU):(Xc ps).length<=10:=by
 have:=Qk (λh=>decide (h∈ps.map (·.1))) tenL
 trivial
def Zf4(b:Field ps)(p:ns.Perm ((ps.map (·.1)).foldl SetR.XQ []))(h:ns.Pairwise (·<=·)):ns=Xc ps:=by
 refine FU (N8 h<|p.symm.nodup<|LO _ QI) (Pn ps) λz=>?_;rw[p.mem_iff,EH,Se b];simp
def Mb(z:Int)(xs:ZV):inV (.int z) (xs.map V.int)=decide (z∈xs):=by
 unfold inV
 induction xs with
 |nil=>rfl
 |cons x r b=>
  show((x==z) || _)=_;by_cases e:x=z
  ·grind
  ·grind
def Zhy:tenL=(List.range 10).map λ(i:Nat)=>(1:Int)+(i:Int):=rfl
def Ri{os ns}(g:os.Perm (Xc ps))(n:ns.Perm os)(l:ns.Pairwise (·<=·)):ns=Xc ps:=by
 have f:(Xc ps).Nodup:=(Pn ps).imp λ{a b} h=>by lia
 have p:=n.trans g;exact FU (N8 l<|p.symm.nodup f) (Pn ps) λz=>p.mem_iff
section
variable (ps:ZU)
noncomputable def tpM(y:Int):Nat->Int
 | 0=>0
 |j+1=>tpM y j+(if (ps.getD j (0,0)).1=y then(ps.getD j (0,0)).2 else 0)
noncomputable def pcM(x y:Int):Nat->Int
 | 0=>0
 |k+1=>pcM x y k+(if x≠y/\(ps.getD k (0,0)).1=x then tpM ps y k*(ps.getD k (0,0)).2 else 0)
end
end M
namespace ExcR
open PySem PySem.Spec PyProof.Rows L2
structure Kj (fs ex:List Addr) (h h':Heap):Prop where
 keep:∀b o,h.get? b=some o->b∉fs->b∉ex->h'.get? b=some o
 slot:∀b o,h.get? b=some o->b∉ex->∃sl,h'.get? b=some {o with slots:=sl}
 size:h.objs.size<=h'.objs.size
def Kj.trans (a:Kj fs ex l h) (b:Kj fs ex h g):Kj fs ex l g:=
 ⟨λc o e n m=>b.keep c o (a.keep c o e n m) n m,λc o e m=>by
  obtain⟨r,q⟩:=a.slot c o e m;obtain⟨f,p⟩:=b.slot c _ q m;exact⟨f,p⟩,W9 a.size b.size⟩
def Kj.mono {fs f ex g}{l h} (a:Kj fs ex l h) (p:∀b∈fs,b∈f) (hx:∀b∈ex,b∈g):Kj f g l h:=
 ⟨λc o e n m=>a.keep c o e (λz=>n (p c z)) (λz=>m (hx c z)),λc o e m=>a.slot c o e λz=>m (hx c z),a.size⟩
def Zew(o:Obj)(f):(o.mapFields f).dict=o.dict:=by
 obtain⟨c,d,b,sl⟩:=o;cases b<;>rfl
structure Trc (h:Heap) (e T:Addr) (cls:Value×Yg) (fl:Value):Prop where
 ne:T≠e
 exc:∃oe vs,h.get? e=some oe/\(oe.cls,oe.dict)=cls/\oe.data=.fields vs/\vs[1]?=some (.ref T)
 ent:∃oT ts,h.get? T=some oT/\oT.data=.fields ts/\ts[3]?=some fl
section
variable {M:Model}{A:Around}{E:ZY}{s:Shared}{base:Heap}{env:Env}{outer:List Env}{L e:Addr}
def Of{hadNext Q}(B:A.frames=some (env::outer))(N:s.heap.FunFrames base (env::outer))(hf:env.frame=some L)(U:s.heap.get? e=some v)(hd:v.data=.fields vs)(hsz:1<vs.size)(h:∀G T,s.heap.objs.size<=T->Trc G e T (v.cls,v.dict) (rawInt L)->Kj (frs (env::outer)) [e] s.heap G->Q () {s with heap:=G}) :
  wpAny M A (do let a ←frameOf env;let u ←entryPlaceOf L hadNext;let b ←EntryCells.newEntry head a .none (rawInt L) .none u;setField (.ref e) 1 b) Q E s:=by
 have n:e∉frs (env::outer):=λhm=>by
  obtain⟨_,o,J,y⟩:=N.mem hm;rw[U]at J;cases J
  exact y vs hd
 refine Wu (wpAny_frameOf_fun B N hf λC g=>Wu (wpAny_entryPlaceOf λu x=>?_));refine Wu (Qo ?_<|x.sizeOk5 _ _ _ _ _);have r:=(g.2.1 e n).trans U;generalize Y:({cls:=.type "traceback",dict:=none,data:=.fields ([head,.ref L,.none,rawInt L,.none]++(if u.isEmpty then List.replicate 6 Value.none else u)).toArray}:Obj)=H;have p:=Wz H r;refine QK p hd hsz (h _ C.objs.size (Vg g.1.symm) ?_ ?_)
 ·have l:=Jt (W8 r);have d3:=Qx hd (·.setIfInBounds 1 (Value.ref C.objs.size));refine⟨l,⟨_,_,Qq _ p (QL d3),by rw[Jc,Zew],d3,by simp[hsz]⟩,H,_,?_,by rw[←Y],?_⟩
  ·exact(Qz _ _<|Ne.symm l).trans (WE C<|by rw[←Y];rfl)
  ·rfl
 ·refine⟨λb o q nb w=>?_,λb o q w=>?_,?_⟩
  ·have f:b≠e:=λz=>w (by simp[z]);rw[Qz _ _ (Ne.symm f)];exact Wz _ ((g.2.1 b nb).trans q)
  ·have f:b≠e:=λz=>w (by simp[z]);obtain⟨sl,q1⟩:=g.2.2 b o q;exact⟨sl,by rw[Qz _ _ (Ne.symm f)];exact Wz _ q1⟩
  ·rw[Heap.size_update,V5,g.1];exact Ve _
def Zkk(f:A.frames=some (env::outer))(p:s.heap.FunFrames base (env::outer))(l:env.frame=some L)(n:s.heap.get? e=some b)(hd:b.data=.fields vs)(o:vs[1]?=some .none)(h:∀g T,s.heap.objs.size<=T->Trc g e T (b.cls,b.dict) (rawInt L)->Kj (frs (env::outer)) [e] s.heap g->Q () {s with heap:=g}):wpAny M A (noteFrame (.ref e) env) Q E s:=by
 unfold noteFrame;simp only[l];refine Wu (JB n hd o ?_);exact Of f p l n hd (VF.mp o).1 h
def IA(x:Trc s.heap e T cls Y)(h:∀g,Trc g e T cls .none->Kj [] [T] s.heap g->Q () {s with heap:=g}) :
  wpAny M A (setField (.ref T) 3 .none) Q E s:=by
 obtain⟨n,⟨w,v,J,H,G,C⟩,U,N,r,p,y⟩:=x;have u:=(VF.mp y).1;refine QK r p u (h _ ?_ ?_)
 ·have d3:=Qx p (·.setIfInBounds 3 Value.none);exact⟨n,⟨w,v,(Qz _ _ n).trans J,H,G,C⟩,_,_,Qq _ r (QL d3),d3,by simp[u]⟩
 ·have l:∀b,b≠T->(s.heap.update T<|Obj.mapFields (·.setIfInBounds 3 Value.none)).get? b=s.heap.get? b:=λb B=>Qz _ _ (Ne.symm B);exact⟨λb o q _ f=>(l b λz=>f (by grind)).trans q,λb o q f=>⟨o.slots,(l b λz=>f (by grind)).trans q⟩,Vg (Heap.size_update ..).symm⟩
def Ob(n:A.frames=some (env::outer))(hl:s.heap.FunFrames base (env::outer))(y:env.frame=some L)(x:Trc s.heap e T cls .none)(h:∀r f,s.heap.objs.size<=f->Trc r e f cls (rawInt L)->Kj (frs (env::outer)) [e,T] s.heap r->Q () {s with heap:=r}):wpAny M A (noteFrame (.ref e) env) Q E s:=by
 obtain⟨ne,⟨oe,vs,g1,g2,g3,g4⟩,oT,G,w,v,Y⟩:=id x;unfold noteFrame;simp only[y];refine Wu (JB g1 g3 g4 ?_);refine Wu (JB w v Y ?_);refine Wu (IA x λh1 B u=>?_)
 have l:=hl.of_keeps λb o q g=>⟨o,u.keep b o q (by simp) (λz=>by
  rw[Wx.mp z,w]at q;cases q
  exact g G v),rfl⟩
 obtain⟨_,⟨U,C,N,p2,J,H⟩,_⟩:=id B;refine Of n l y N J (VF.mp H).1 λh2 f p x2 K2=>h h2 f (W9 u.size p) (by grind) ?_;exact(u.mono (by simp)<|by simp).trans (K2.mono (λ_ z=>z)<|by simp)
def B4(x:Trc s.heap e T cls r)(h:∀b,Trc b e T cls .none->Kj [] [T] s.heap b->Q () {s with heap:=b}) :
  wpAny M A (setFlight (.ref e) none) Q E s:=by
 obtain⟨p,⟨o,n,l,q,g,f⟩,_⟩:=id x;refine Wu (JB l g f ?_);exact IA x h
def Zcx(l:A.frames=some (env::outer))(y:s.heap.FunFrames base (env::outer))(B:env.frame=some L)(C:s.heap.get? e=some f)(hd:f.data=.fields vs)(H:vs[1]?=some .none)(h:∀p T,s.heap.objs.size<=T->Trc p e T (f.cls,f.dict) .none->Kj (frs (env::outer)) [e] s.heap p->Q () {s with heap:=p}):wpAny M A (leaving env<|.ref e) Q E s:=by
 unfold leaving;refine Wu (Zkk l y B C hd H λJ T n x K=>B4 x λG u r=>h G T n u ?_);refine⟨λb o q w g=>r.keep b o (K.keep b o q w g) (by simp) (λz=>?_),λb o q g=>?_,W9 K.size r.size⟩
 ·rw[Wx.mp z]at q;exact absurd (W8 q) (Jz.mpr n)
 ·obtain⟨sl,v⟩:=K.slot b o q g;exact⟨sl,r.keep b _ v (by simp) (λz=>by rw[Wx.mp z]at q;exact absurd (W8 q) (Jz.mpr n))⟩
def Zcr(l:A.frames=some (env::outer))(B:s.heap.FunFrames base (env::outer))(C:env.frame=some L)(x:Trc s.heap e T cls .none)(h:∀p f,s.heap.objs.size<=f->Trc p e f cls .none->Kj (frs (env::outer)) [e,T] s.heap p->Q () {s with heap:=p}):wpAny M A (leaving env<|.ref e) Q E s:=by
 refine Wu (Ob l B C x λH f n v K=>B4 v λG u r=>h G f n u ?_);refine⟨λb o q y g=>r.keep b o (K.keep b o q y g) (by simp) (λz=>?_),λb o q g=>?_,W9 K.size r.size⟩
 ·rw[Wx.mp z]at q;exact absurd (W8 q) (Jz.mpr n)
 ·obtain⟨sl,w⟩:=K.slot b o q g;exact⟨sl,r.keep b _ w (by simp) (λz=>by rw[Wx.mp z]at q;exact absurd (W8 q) (Jz.mpr n))⟩
end
section
variable {P:Program}{w:World}{H H':Hp}{h h':Heap}{a:Addr}{o:HO}{fs ex:List Addr}
def has(x:ObjOk P w H h a o):∃u,h.get? a=some u:=by
 cases o with
 |lst xs=>exact let ⟨_,_,_,_,e⟩:=x;⟨_,e⟩
 |tup xs=>exact let ⟨_,_,_,u,e,_⟩:=x;⟨u,e⟩
 |dK b|dT b=>exact let ⟨_,_,_,_,u,_,_,e,_⟩:=x;⟨u,e⟩
 |set S n=>exact let ⟨u,_,_,_,e,_⟩:=x;⟨u,e⟩
 |ins C p fs=>exact let ⟨_,_,_,e,_⟩:=x;⟨_,e⟩
 |own y=>exact x
 |xd fs=>exact let ⟨_,⟨u,_,_,e,_⟩,_⟩:=x;⟨u,e⟩
 |rng lo l=>exact let ⟨_,_,_,e⟩:=x;⟨_,e⟩
 |frz g u=>exact⟨_,x.1⟩
 |ext f=>exact x.2.1
 |_=>exact⟨_,x⟩
def CN(ok:HOk P w H h)(e:h.get? a=none):H a=none:=by
 cases q:H a with
 |none=>rfl
 |some o=>
  obtain⟨u,z⟩:=has (ok a o q)
  grind
def Sg(ok:HOk P w H h)(k:Kj fs ex h h')(g:∀b∈fs,H b=none)(hx:∀b∈ex,H b=none):HOk P w H h':=λa o e=>by
 refine(ok a o e).stay (λb u l q=>?_) (λ_ q=>q) (λ_ _ q=>q);have f:H b≠none:=by grind
 exact k.keep b u q (λz=>f (g b z)) λz=>f (hx b z)
end
structure XAt (P:Program) (w:World) (outer:List Env) (H H':Hp) (s s':Shared) (a T C:Addr) (dx:Yg):Prop where
 os:s'.os=s.os
 bare:AllBare s'.gens
 un:Un (frs outer) [] H H' s.heap s'.heap
 hok:HOk P w H' s'.heap
 na:s.heap.get? a=none
 nT:s.heap.get? T=none
 fa:H' a=none
 fT:H' T=none
 tr:Trc s'.heap a T (.ref C,dx) .none
noncomputable def CXe(P:Program)(w:World):CXT:=λouter H s E e g=>∃a T C b f,e=.ref a/\XAt P w outer H f s g a T C b/\E (.ref C) b f
section
variable {X:Cx}{pins:ZW}{σ:L2.St}{H H':Hp}{s s':Shared}{a T C:Addr}{dx:Yg}
def Ls(I:Inv X pins σ H s)(hex:X.ex=[])(k:Kj (frs X.stack) ex s.heap w)(hx:∀b∈ex,X.s₀.heap.get? b=none):Un X.fs [] X.H₀ H X.s₀.heap w:=by
 have B:=I.base;rw[hex]at B;have f:∀b o,X.s₀.heap.get? b=some o->b∉ex:=λb o q z=>by rw[hx b z]at q;cases q
 have u:∀b o,X.s₀.heap.get? b=some o->b∉X.fs->b∉frs X.stack:=λb o q h z=>by
  rcases WB.mp (I.stkSub b z)with e|e
  ·have y:=W8 q;have x:=I.ok.above
   grind
  ·exact h e
 refine⟨λb o q n h g=>k.keep b o (B.keep b o q n h g) (u b o q h) (f b o q),λb o q n v g=>?_,λb o q n g=>B.free b o q n g,λb o q g=>?_,B.tups,B.frzs,B.tbls⟩
 ·obtain⟨sl,p⟩:=B.slot b o q n v g;obtain⟨l,r⟩:=k.slot b _ p (f b o q)
  grind
 ·obtain⟨o1,p⟩:=B.there b o q g;obtain⟨l,r⟩:=k.slot b _ p (f b o q);exact⟨_,r⟩
def Ba(I:Inv X pins σ H s)(hex:X.ex=[])(e:s.heap.get? b=none):X.s₀.heap.get? b=none:=by
 cases q:X.s₀.heap.get? b with
 |none=>rfl
 |some o=>
  obtain⟨u,z⟩:=I.base.there b o q (by grind)
  grind
variable {E:ZY}
def Zlj(I:Inv X pins σ H s)(hex:X.ex=[])(g:X.stack=X.env::X.outer)(l:X.env.frame=some X.env.locals)(x:XAt X.prog X.w X.stack H H' s s' a T C dx) :
  wpAny (model X.prog X.w) X.A (leaving X.env<|.ref a) (λ_ r=>∃n,XAt X.prog X.w X.outer X.H₀ H' X.s₀ r a n C dx) E s':=by
 have J:=I.call' x.os x.un x.hok x.bare λb z=>absurd z (by simp);have o:=J.stack;have p:=J.ok.frames;rw[g]at o p;refine Zcr p o l x.tr λu n h q k=>⟨n,J.os,J.bare,?_,?_,Ba I hex x.na,?_,x.fa,x.hok.fresh h,q⟩
 ·exact Ls J hex (by rw[g];exact k) λb f=>by
   rcases WB.mp f with rfl|f
   ·exact Ba I hex x.na
   ·rw[Wx.mp f];exact Ba I hex x.nT
 ·refine Sg x.hok k (λb f=>J.stkFree b (by grind)) λb f=>?_;rcases WB.mp f with rfl|f
  ·exact x.fa
  ·rw[Wx.mp f];exact x.fT
 ·exact Vr (W9 J.sz h)
def EC(J:Inv X pins σ H s)(hex:X.ex=[])(f:X.stack=X.env::X.outer)(n:X.env.frame=some X.env.locals)(q:X.s₀.heap.get? a=none)(v:H a=none)(z:s.heap.get? a=some l)(B:l.cls=.ref C)(o:l.dict=dx)(hd:l.data=.fields vs)(G:vs[1]?=some .none) :
  wpAny (model X.prog X.w) X.A (leaving X.env<|.ref a) (λ_ y=>∃p,XAt X.prog X.w X.outer X.H₀ H X.s₀ y a p C dx) E s:=by
 have r:=J.stack;have u:=J.ok.frames;rw[f]at r u;refine Zcx u r n z hd G λL p g x k=>⟨p,J.os,J.bare,?_,?_,q,?_,v,J.hok.fresh g,by rw[←B,←o];exact x⟩
 ·exact Ls J hex (by rw[f];exact k) λb h=>by rw[Wx.mp h];exact q
 ·exact Sg J.hok k (λb h=>J.stkFree b (by grind)) λb h=>by rw[Wx.mp h];exact v
 ·exact Vr (W9 J.sz g)
def Zjv{f vs}(I:Inv X pins σ H s)(hex:X.ex=[])(g:X.stack=X.env::X.outer)(h:X.env.frame=some X.env.locals)(keeps:∀b o,s.heap.get? b=some o->n.get? b=some o)(new:s.heap.get? a=none)(q:n.get? a=some f)(r:f.cls=.ref C)(l:f.dict=dx)(hd:f.data=.fields vs)(u:vs[1]?=some .none) :
  wpAny (model X.prog X.w) X.A (leaving X.env<|.ref a) (λ_ p=>∃v,XAt X.prog X.w X.outer X.H₀ H X.s₀ p a v C dx) E {s with heap:=n}:=
 EC (s:={s with heap:=n}) (I.call' (ch:=[]) rfl (Un.kept keeps) (I.hok.kept keeps) I.bare λb z=>absurd z (by simp)) hex g h (Ba I hex new) (CN I.hok new) q r l hd u
end
structure BM (K:ZT) (C:Addr):Prop where
 q:PySem.W.excIn K C [.type "ValueError",.type "Exception",.type "BaseException",.type "object"] "ValueError.__new__"=true
def BM.obj {K C h} (c:BM K C) (k:K.In h):∃bm N nm q bs hdct sn sub ab col dd k0 k1 k2 k3 k5 g,h.get? C=some (excClassObj nm q C N bs bm hdct sn sub ab col dd k0 k1 k2 k3 k5 "ValueError.__new__")/\h.Ns N g/\g "__init__"=none/\
  OwnTail h [.type "ValueError",.type "Exception",.type "BaseException",.type "object"] bm:=by
 have e:=c.q;unfold PySem.W.excIn at e;split at e
 next dd G sl y=>
  split at e
  next H bm k0 k1 k2 k3 n k5 p o=>
   simp only[Qd,beq_iff_eq,QV]at e;obtain⟨⟨⟨⟨⟨B,A⟩,u⟩,z⟩,f⟩,s⟩:=e;subst B A;have r:=k _ _ y;cases G with
   |mk nm bs x w v hd sn sub ab col E=>
    simp only at p u f s
    have b:sl=#[k0,k1,k2,k3,some (.builtin "ValueError.__new__"),k5]:=by
     cases sl with
     |mk l=>simp only at o;rw[o]
    rw[p,u,b]at r;exact⟨bm,w,nm,v,bs,hd,sn,sub,ab,col,dd,k0,k1,k2,k3,k5,_,r,.of_isNs (JG k f),PySem.W.nsMap_none_of_in k f s,PySem.W.tail_of_in k z⟩
  next=>cases e
 next=>cases e
abbrev TF:=L2.St->Hp->Str->(Str->Hp->Prop)->Prop
def PF(X:Cx)(es:Yd)(t:TF):Prop:=
 ∀(pins:ZW) (s:Shared) (f:L2.St) (H:Hp) (b:Str) (Q:Str->Hp->Prop),Inv X pins f H s->t f H b Q->
  wpAny (model X.prog X.w) X.A (joinParts b<|evalEach es X.env) (λu h=>∃x g,Inv X pins f g h/\RelV (.str x) u/\Q x g) X.xe s
section
variable {X:Cx}{e e1 e2:Expr}{es:Yd}{t:TF}{tv:TE}{pos:Pos}
noncomputable def IB:TF:=λ_ H b Q=>b.length<=sizeLine/\Q b H
noncomputable def M0(x:Str)(t:TF):TF:=λf H b Q=>(b++x).length<=sizeLine/\t f H (b++x) Q
noncomputable def Hr(tv:TE)(t:TF):TF:=λf H b Q=>tv f H λv g=>(∃i:Int,v=.int i/\i.natAbs.log2<1920/\(b++(Str.ofString<|toString i)).length<=sizeLine/\t f g (b++Str.ofString (toString i)) Q)\/
 ∃x:Str,v=.str x/\x.length<=sizeLine/\(b++x).length<=sizeLine/\t f g (b++x) Q
def Nv:PF X [] IB:=λpins s f H b Q I h=>joinParts_nilE (joinParts_nil ⟨b,H,I.tok _,⟨_,rfl⟩,h.2⟩ h.1)
def Pv(h:PF X es t):PF X (.Constant (.str x) j pos::es) (M0 x t):=λpins s b H f Q I q=>
 joinParts_consE (joinParts_cons<|Calls.Constant_str ⟨q.1,h pins _ b H _ Q (I.tok _) q.2⟩)
def NP(z:PE X e tv)(h:PF X es t):PF X (.FormattedValue e (-1) none pos::es) (Hr tv t):=λpins s b H y Q I q=>by
 refine joinParts_consE (joinParts_cons<|FormattedValue_plain<|thn (z pins s b H _ I q) ?_);rintro u C ⟨v,n,l,r,w⟩;rcases w with⟨i,rfl,A,g,f⟩|⟨x,rfl,hx,g,f⟩
 ·obtain⟨p,rfl⟩:=r;exact formatField_int_small A ⟨g,h pins _ b n _ Q (l.tok _) f⟩
 ·obtain⟨p,rfl⟩:=r;exact formatField_str (λB o=>⟨g,h pins _ b n _ Q (l.tok _) f⟩) hx
noncomputable def tF(t:TF):TE:=λb H Q=>t b H Str.empty λx f=>Q (.str x) f
def NK(h:PF X (e1::e2::es) t):PE X (.JoinedStr (e1::e2::es) pos) (tF t):=λpins s b H Q I q=>
 JoinedStr_many (thn (h pins s b H _ _ I q) λu n ⟨x,l,g,r,f⟩=>⟨.str x,l,g,r,f⟩)
end
def Ca(X:Cx)(E:XK):Prop:=∀(pins:ZW) (f:L2.St) (H:Hp) (s:Shared) (C a:Addr) (b:Heap) (args:Yb),Inv X pins f H s->Heap.MadeExcOf s.heap b a (.ref C) args->E (.ref C) none H->X.xe (.ref a) {s with heap:=b}
noncomputable def LS(C:Addr)(E:XK)(t:TA):TS:=λ_ b H=>t b H λf g=>f.length<=sizeLine/\E (.ref C) none g
section
variable {X:Cx}{x:Str}{C:Addr}{E:XK}{e:Expr}{es:Yd}{t:TA}{p cpos pos:Pos}
def Zb3(c:BM X.K C)(J:X.mg x=some (.ref C))(T:Ca X E)(M:X.calm=true)(Q:PA X (e::es) t)(L:autoParam (Gl X x) au_0)(o:autoParam ((x==("__debug__" : Str))=false) au_1)(u:autoParam (starEach (e::es) X.env=(false,eval e X.env)::starEach es X.env) au_0)(g:autoParam ((backTo cpos<|starEach es X.env).any (·.1)=false) au_0):PS X (.Raise (some<|.Call (.Name x p) (e::es) [] cpos) none pos) (LS C E t):=by
 intro pins s r H D I h;obtain⟨bm,N,nm,q,bs,hdct,sn,sub,ab,col,dd,k0,k1,k2,k3,k5,mN,Y,U,l,v⟩:=c.obj I.ok.mod.kin
 have b:(backTo cpos<|starEach (e::es) X.env).any (·.1)=false:=by
  rw[u];show(false || (backTo cpos<|starEach es X.env).any (·.1))=false;rw[g];rfl
 refine wpAny_Raise_call_subU (nm:=nm) (q:=q) (N:=N) (bs:=bs) (hdct:=hdct) (sn:=sn) (sub:=sub) (ab:=ab) (col:=col) (dd:=dd) (k0:=k0) (k1:=k1) (k2:=k2) (k3:=k3) (k5:=k5)
  Vo (by decide +kernel) Vo (v.hasType<|by decide +kernel) (I.ok.hd M) b l (Ng I L J ⟨rfl,?_⟩ o)
 have w:=Q cpos pins s r H _ I h;rw[u]at w ⊢;refine Jw (thn w ?_);rintro y z ⟨vs,H2,f,A,G,B⟩;refine⟨rfl,by rw[←A.length];exact G,f.bk _ _ Y,U.keeps f.bk,v.keeps f.bk,λh' a n=>?_⟩;exact T pins r H2 z C a h' y f n B
end
section
variable {P:Program}{w:World}{K:ZT}{mg:ZX}{base:Heap}{N ps:Yc}{qual x:Str}{scope:Scope}{f:Addr}{cd:Value}{A:Around}{outer:List Env}{s:Shared}{H:Hp}{E:XK}
def Pi:Ca (X6 (CXe P w) P w K mg base N qual scope f cd A outer s H E) E:=by
 intro pins l h o C a p args I m q;obtain⟨t,b,_,_⟩:=m.there;exact Qh (Zjv I rfl rfl rfl m.keeps m.new b rfl rfl rfl rfl) (λ_ n ⟨g,y⟩=>⟨a,g,C,none,h,rfl,y,q⟩) λ_ _ z=>z
def Xu:K7 (CXe P w) (X6 (CXe P w) P w K mg base N qual scope f cd A outer s H E) E:=by
 rintro pins l r p e o I ⟨a,T,C,b,h,rfl,y,q⟩;exact Qh (Zlj I rfl rfl rfl y) (λ_ n ⟨g,z⟩=>⟨a,g,C,b,h,rfl,z,q⟩) λ_ _ z=>z
def BQ:PassesOwn (model P w) (X6 (CXe P w) P w K mg base N qual scope f cd A outer s H E).A (X6 (CXe P w) P w K mg base N qual scope f cd A outer s H E).env (X6 (CXe P w) P w K mg base N qual scope f cd A outer s H E).xe:=PassesOwn.leaving
def Def.okX {st k sp} (D:Own.Def K mg x st ps) (S:UZ N ps (UY st)) (len:∀vs H Q E,sp vs H Q E->vs.length=ps.length)
  (g:∀f b A outer s H vs Q E,Xh k (A.deeper<|envOfC x (UY st) s.heap.objs.size f b)->sp vs H Q E->
   ∃t,PSs (X6 (CXe P w) P w K mg base N x (UY st) f b A outer s H E) (Xw st) t/\t {nx:=λ_ H'=>Q .non H',rt:=Q} (start N vs) H):Own.Callee P w K mg base (CXe P w) (k+1) x ps sp:=by
 obtain⟨f,z,F,q,r⟩:=D.ex;obtain⟨oc,y,kV,u,v,C,b,B,o,rfl,n,l⟩:=F.ex;exact⟨f,_,A9 n l S len λA outer s H vs Q E p h=>g f b A outer s H vs Q E p h,q,F.kp,⟨_,n,rfl⟩,r⟩
end
end ExcR
namespace ExcR
open PySem PySem.Spec PyProof.Rows L2
open Sem (wp)
structure XY (K:ZT) (C:Addr):Prop where
 c:BM K C
 ga:PySem.W.findIn K (.ref C) "__getattribute__"=some (some<|.builtin "BaseException.__getattribute__")
 gt:PySem.W.findIn K (.ref C) "__getattr__"=some none
 cl:PySem.W.findIn K (.ref C) "__class__"=some (some<|.builtin "object.__class__")
 is:(PySem.W.clsIn K C).isSome=true
structure KJ (K:ZT) (C:Addr):Prop where
 obj:∀{h:Heap},K.In h->∃bm N nm q bs hdct sn sub ab col dd k0 k1 k2 k3 k5,h.get? C=some (excClassObj nm q C N bs bm hdct sn sub ab col dd k0 k1 k2 k3 k5 "ValueError.__new__")/\OwnTail h [.type "ValueError",.type "Exception",.type "BaseException",.type "object"] bm
 ga:PySem.W.findIn K (.ref C) "__getattribute__"=some (some<|.builtin "BaseException.__getattribute__")
 gt:PySem.W.findIn K (.ref C) "__getattr__"=some none
 cl:PySem.W.findIn K (.ref C) "__class__"=some (some<|.builtin "object.__class__")
 is:(PySem.W.clsIn K C).isSome=true
def XY.any {K:ZT}{C:Addr} (G:XY K C):KJ K C:=
 ⟨λk=>by
  obtain⟨x,N,h,q,bs,b,g,sub,y,f,w,r,p,o,n,l,z,v,A,s,u⟩:=G.c.obj k;exact⟨x,N,h,q,bs,b,g,sub,y,f,w,r,p,o,n,l,v,u⟩,G.ga,G.gt,G.cl,G.is⟩
section
variable {prog:Program}{w:World}{A:Around}{E:ZY}{h:Heap}{g:Array GenState}{d:Drawn}{t:Nat}{os:OsState}{a C:Addr}{o:Obj}{K:ZT}
def Zi4{R:Result->Shared->Prop}(k:K.In h)(G:KJ K C)(hx:h.get? a=some o)(p:o.cls=.ref C)(hq:R (.ok<|.ret<|.ref C) ⟨h,g,d,t,os⟩) :
  codeAny (model prog w) A (.call (.builtin "getset_descriptor.__get__") ⟨[.builtin "object.__class__",.ref a,.ref C],[]⟩) R ⟨h,g,d,t,os⟩:=by
 obtain⟨v,N,y,q,bs,n,x,sub,Q,u,M,L,J,H,B,z,s,r⟩:=G.obj k;have f:(⟨h,g,d,t,os⟩:Shared).TypeIs (.builtin "object.__class__") "getset_descriptor":=Jn
 have l:(Value.ref C::v).contains (.type (".".intercalate ("object.__class__".cutAt '.').dropLast))=true:=by
  rw[F.owner_object_class,V0,r.hasType (b:=true) (by decide +kernel)];rfl
 refine Vs F.slot_gs_get.plain F.entry_gs_get (F.slot_gs_get.check _ _ _ _ _ _ _ _ f (F.args_gs_get _ _ _) ?_)
 repeat (any_goals (first|assumption|(with_reducible refine Qp hx ?_;rw[p])|(with_reducible refine Vw s ?_;rw[l])|wp_step))
 refine⟨VQ _ (by decide +kernel),Vk F.entry_object_class ?_⟩
 repeat (any_goals (first|assumption|(with_reducible refine Qp hx ?_;rw[p])|wp_step))
def RS{f:Tok}{Q:Fin->Shared->Prop}(k:K.In h)(G:KJ K C)(hx:h.get? a=some o)(b:o.cls=.ref C)(hq:Q (.done<|.ret<|.ref C) ⟨h,g,d,t,os⟩) :
  wpAny (model prog w) A (Builtin.«object.__getattribute__» ⟨[.ref a,.str "__class__" f],[]⟩) Q E ⟨h,g,d,t,os⟩:=by
 have l:(⟨h,g,d,t,os⟩:Shared).TypeIs (.builtin "object.__class__") "getset_descriptor":=Jn;have f1:=Jn;have p:=F.slot_gs_get.lookup;have n:=F.slot_gs_set.lookup;have L:=Q3 (M:=model prog w) k G.cl
 repeat (any_goals (first|assumption|(with_reducible refine Qp hx ?_;rw[b])|with_reducible refine L.at ?_|wp_step))
 refine Zi4 k G hx b ?_
 repeat (any_goals (first|assumption|wp_step))
def Rl{M:Model}{v:Value}{Q:Unit->Shared->Prop}(k:K.In h)(G:KJ K C)(hx:h.get? a=some o)(n:o.cls=.ref C)(hq:Q () ⟨h,g,d,t,os⟩) :
  wpAny M A (checkBuiltinCall "BaseException.__getattribute__" ⟨[.ref a,v],[]⟩) Q E ⟨h,g,d,t,os⟩:=by
 obtain⟨y,N,B,q,bs,l,z,sub,ab,x,dd,U,T,L,J,H,r,p⟩:=G.obj k;have f:(Value.ref C::y).contains (.type "BaseException")=true:=by rw[V0,p.hasType (b:=true) (by decide +kernel)];rfl
 have u:builtinKind "BaseException.__getattribute__"=some .slot:=by decide +kernel
 have s:splitId "BaseException.__getattribute__"=some ("BaseException","__getattribute__"):=by decide +kernel
 have Y:=F.args_bexc_ga (.ref a) v;simp only[checkBuiltinCall,u,s];refine Wu ?_;unfold isInstance
 repeat (first|(with_reducible refine Qp hx ?_;rw[n])|(with_reducible refine Vw r ?_;rw[f])|wp_step)
 exact hq
def OQ{n:Tok}{Q:ZY}(k:K.In h)(G:KJ K C)(hx:h.get? a=some o)(b:o.cls=.ref C)(hq:Q (.ref C) ⟨h,g,d,t,os⟩) :
  wpAny (model prog w) A (getAttrBy (.ref a) (.str "__class__" n) false) Q E ⟨h,g,d,t,os⟩:=by
 obtain⟨U,N,u,q,bs,f,s,sub,Y,p,T,B,z,y,x,v,J,H⟩:=G.obj k;have f0:=F.attrBase_ValueError.ga.bind (.ref a);have l:(Value.builtin "BaseException.__getattribute__" == Value.builtin "object.__getattribute__")=false:=by decide +kernel
 have r:(onTheHeap (Value.ref C)&&Value.builtin "BaseException.__getattribute__" == Value.builtin "object.__getattribute__")=false:=by rw[l];rfl
 have L:=Q3 (M:=model prog w) k G.ga;have L2:=Q3 (M:=model prog w) k G.gt
 repeat (any_goals (first|assumption|(with_reducible refine Qp hx ?_;rw[b])|with_reducible refine L.at ?_|with_reducible refine L2.at ?_|wp_step))
 refine Vs F.attrBase_ValueError.ga.plain F.entry_bexc_ga (Rl k G hx b<|RS k G hx b ?_)
 repeat (any_goals (first|assumption|wp_step))
def Zd0{Q:Yf->Shared->Prop}(k:K.In h)(G:KJ K C)(hx:h.get? a=some o)(b:o.cls=.ref C)(hq:Q (some<|.ref C) ⟨h,g,d,t+1,os⟩) :
  wpAny (model prog w) A (getAttr? (.ref a) "__class__") Q E ⟨h,g,d,t,os⟩:=by
 unfold getAttr? getAttrBy?
 repeat (any_goals (first|assumption|with_reducible apply OQ k G hx b|wp_step))
end
end ExcR
namespace ExcR
open PySem PySem.Spec PyProof.Rows L2
noncomputable def Km(a C:Addr)(dx:Yg):HO:=.ext λh=>∃o,h.get? a=some o/\(o.cls,o.dict)=(.ref C,dx)/\∃b,o.data=.fields b
noncomputable abbrev Ep(a C:Addr):HO:=Km a C none
def Zbn{h a T C dx n}(x:Trc h a T (.ref C,dx) n):ObjOk P w H h a (Km a C dx):=by
 obtain⟨_,⟨o,f,b,q,p,_⟩,_⟩:=x;exact⟨⟨o,b,q,f,p⟩,⟨o,b⟩,λs r ⟨o1,l,g⟩ k=>⟨o1,k o1 l,g⟩⟩
def Zii{K M h C}(k:K.In h)(e:(PySem.W.clsIn K C).isSome=true):PySem.W.Looks M h (isType<|.ref C) true:=by
 unfold PySem.W.clsIn at e;split at e
 next f=>
  intro o l n g b q;exact Wu (wpAny_loadPart (b _ _<|k _ _ f)<|Wy q)
 grind
def Zku{K a C}(G:KJ K C):PySem.W.KitX K (.ref a) (.ref C) (λh=>∃o,h.get? a=some o/\o.cls=.ref C) where
 ty:=λM h _ ⟨o,h1,h2⟩=>h2▸(PySem.W.Looks.ld h1).andThen .now
 it:=λM h k _=>Zii k G.is
 ne:=λh tp dd its n sl k htp=>by
  refine Je.mpr λq=>?_;obtain⟨bm,N,nm,q,bs,hdct,sn,sub,ab,col,dd,k0,k1,k2,k3,k5,hC,_⟩:=G.obj k
  grind
 ca:=λ{prog w A E Q s} k ⟨o,h1,h2⟩ q=>by
  exact Zd0 k G h1 h2 q
section
variable {X:Cx}
def Zmy:XM X (.builtin "isinstance") (λxs H Q=>∃a C dx c b,xs=[.ref a,c]/\H a=some (Km a C dx)/\KJ X.K C/\(∃l,(∀u,RelV c u->u=l)/\PySem.W.kitOne X.K (.ref C) l=some b)/\Q (.bl b) H):=by
 intro pins s B H xs E Q I p h;obtain⟨a,C,dx,c,b,rfl,x,G,⟨l,g,e⟩,q⟩:=h;cases p with
 |cons r v=>
  cases v with
  |cons w f=>
   cases f
   obtain rfl:=r;cases g _ w
   obtain⟨⟨o,A,y,_⟩,_⟩:=(I.hok a _ x);exact Qw (Zku G) I.kIn ⟨o,A,(Qs Prod.fst y)⟩ e (λz=>nomatch z) λn=>⟨.bl b,H,I.tok n,rfl,q⟩
def LR{K}(g:autoParam (X.K=K) au_0):XM X (.builtin "isinstance") (λxs H Q=>∃a C dx c b,xs=[.ref a,c]/\H a=some (Km a C dx)/\KJ K C/\(∃f,(∀u,RelV c u->u=f)/\PySem.W.kitOne K (.ref C) f=some b)/\Q (.bl b) H):=by
 subst g;exact Zmy
end
def Dc{H H'}{h v s}(u:Un fs [] H H' h v)(k:Kj fs ex v s)(hx:∀b∈ex,h.get? b=none):Un fs [] H H' h s:=by
 have f:∀b o,h.get? b=some o->b∉ex:=λb o q z=>by rw[hx b z]at q;cases q
 refine⟨λb o q n r g=>k.keep b o (u.keep b o q n r g) r (f b o q),λb o q n x g=>?_,u.free,λb o q g=>?_,u.tups,u.frzs,u.tbls⟩
 ·obtain⟨sl,p⟩:=u.slot b o q n x g;obtain⟨l,w⟩:=k.slot b _ p (f b o q)
  grind
 ·obtain⟨o1,p⟩:=u.there b o q g;obtain⟨l,w⟩:=k.slot b _ p (f b o q)
  grind
noncomputable def Tw(X:Cx)(a:Addr):Cx:={X with A:=X.A.mark (some<|.ref a),calm:=false,xe:=λ_ _=>False}
noncomputable def TJ(X:Cx)(pins:ZW)(D:Ends)(h:ExceptHandler):Cx:=
 {X with pn:=X.pn++pins,xe:=λe g=>wpAny (model X.prog X.w) X.A (noteFrame e X.env) (λ_ f=>wpAny (model X.prog X.w) X.A (setFlight e none) (λ_ b=>wpAny (model X.prog X.w) X.A (handleBy e X.env [h]) (SP X pins D) X.xe b) X.xe f) X.xe g}
section
variable {X:Cx}{pins pins1:ZW}{σ:L2.St}{H H':Hp}{s s':Shared}{a T C:Addr}{D:Ends}{h0:ExceptHandler}
def Zc6(o:X.Ok):(Tw X a).Ok:=⟨o.mod,o.kind,o.glob,o.blt,o.above,o.inj,o.has,o.cab,(λz=>nomatch z),o.frames,o.stk,o.exf,o.bs,o.bsz,o.noex,o.exfs,o.funs,o.frf⟩
def IW(I:Inv X pins σ H s):Inv (Tw X a) pins σ H s:=⟨Zc6 I.ok,I.os,I.bare,I.base,I.loc,I.cell,I.free,I.freeC,I.pin,I.hok,I.len⟩
def RW(o:X.Ok)(I:Inv (Tw X a) pins σ H s):Inv X pins σ H s:=⟨o,I.os,I.bare,I.base,I.loc,I.cell,I.free,I.freeC,I.pin,I.hok,I.len⟩
def Ziq(o:X.Ok):(TJ X pins D h0).Ok:=⟨o.mod,o.kind,o.glob,o.blt,o.above,o.inj,o.has,o.cab,o.hd,o.frames,o.stk,o.exf,o.bs,o.bsz,o.noex,o.exfs,o.funs,o.frf⟩
def Zdc(o:(TJ X pins D h0).Ok):X.Ok:=⟨o.mod,o.kind,o.glob,o.blt,o.above,o.inj,o.has,o.cab,o.hd,o.frames,o.stk,o.exf,o.bs,o.bsz,o.noex,o.exfs,o.funs,o.frf⟩
def Zfh(I:Inv X pins σ H s):Inv (TJ X pins D h0) [] σ H s:=⟨Ziq I.ok,I.os,I.bare,I.base,I.loc,I.cell,I.free,I.freeC,λp b=>I.pin p (by simpa [TJ]using b),I.hok,I.len⟩
def Fd(I:Inv (TJ X pins D h0) pins1 σ H s):Inv X pins σ H s:=⟨Zdc I.ok,I.os,I.bare,I.base,I.loc,I.cell,I.free,I.freeC,λp b=>I.pin p (QB _ b),I.hok,I.len⟩
def Zni{h'}{tk}(I:Inv X pins σ H s)(hN:X.N.Nodup)(hi:X.N[i]?=some n)(hk:X.env.scope.names.lookup n=some .local)(hm:∀(i:Nat) x v,X.N[i]?=some x->σ[i]?=some (some v)->Vis X.env.scope x->∃u,RelV v u/\Look X.env s.heap m x u)(hn:s.heap.Ns X.env.locals m)(l:h'.Ns X.env.locals (λx=>if x=n then v else m x))(f:Heap.SameBut X.env.locals s.heap h'):Inv X pins (σ.set i none) H {s with heap:=h',toks:=tk}:=by
 have cne:=I.cne;have h:∀{b o},X.s₀.heap.get? b=some o->b≠X.env.locals:=λe=>WS (WZ (W8 e) I.ok.above);refine⟨I.ok,I.os,I.bare,⟨λb o e n r hx=>(f.2 b<|h e).trans (I.base.keep b o e n r hx),λb o e n r hx=>?_,I.base.free,λb o e hx=>?_,I.base.tups,I.base.frzs,I.base.tbls⟩,⟨_,l,λj y J g E e3=>?_⟩,λy c e=>?_,I.free,I.freeC,λp hp=>?_,λb Q e=>?_,by simpa using I.len⟩
 ·obtain⟨sl,g⟩:=I.base.slot b o e n r hx;exact⟨sl,(f.2 b<|h e).trans g⟩
 ·obtain⟨U,g⟩:=I.base.there b o e hx;exact⟨U,(f.2 b<|h e).trans g⟩
 ·by_cases A:j=i
  ·grind
  ·rw[Jr (Ne.symm A)]at E;obtain⟨L,M,q⟩:=hm j y J g E e3;refine⟨L,M,?_⟩;rcases q with⟨k,e⟩|⟨k,c,e,z⟩
   ·have hy:y≠n:=λz=>A (Cw hN g (z▸hi));exact .inl ⟨k,by simp[hy,e]⟩
   ·exact .inr ⟨k,c,e,z.sameBut f (cne y c e)⟩
 ·obtain⟨G,z⟩:=I.cell y c e;exact⟨G,z.sameBut f (cne y c e)⟩
 ·obtain⟨e,n,w,Y,d⟩:=I.pin p hp;exact⟨(f.2 p.1 w).trans e,n,w,Y,d⟩
 ·refine(I.hok b Q e).stay (λc u hc q=>(f.2 c ?_).trans q) (λ_ q=>q) λ_ _ q=>q;rintro rfl;have B:=I.free;rcases hc with z|z
  ·rw[←z,B]at e;cases e
  ·rw[B]at z;cases z
end
noncomputable def Zal(i:Nat)(D:Ends):Ends:={nx:=λb H=>D.nx (b.set i none) H,rt:=D.rt,bk:=λb H=>D.bk (b.set i none) H,ct:=λb H=>D.ct (b.set i none) H}
noncomputable def hx(K:ZT)(h:Addr)(i:Nat)(f:TS)(D:Ends):L2.St->XK:=λb c g H=>∃C,c=.ref C/\PySem.W.exmOne K (.ref C) (.ref h)=some true/\
 ∀a,H a=none->f (Zal i D) (b.set i<|some<|.ref a) (upd H a<|Km a C g)
def DN(CX:CXT)(X:Cx)(E:L2.St->XK):Prop:=∀(pins:ZW) (b:L2.St) (H:Hp) (s:Shared) (e:Value) (f:Shared),Inv X pins b H s->CX X.stack H s (E b) e f->X.xe e f
noncomputable def II(sp:Sp)(E:L2.St->XK)(t:TA):TE:=λb H Q=>t b H λf g=>sp (f++[]) g Q (E b)
section
variable {X:Cx}{CX:CXT}{k:Nat}{ps:Yc}{sp:Sp}{E:L2.St->XK}{x:Str}{p pos:Pos}{e:Expr}{es:Yd}{t:TA}
def Zny(C:Own.Callee X.prog X.w X.K X.mg X.base CX k x ps sp)(G:Xh k X.A)(J:DN CX X E)(ha:PA X (e::es) t)(T:autoParam (Gl X x) au_0)(v:autoParam ((x==("__debug__" : Str))=false) au_1)(U:autoParam (starEach (e::es) X.env=(false,eval e X.env)::starEach es X.env) au_0)(o:autoParam ((backTo pos<|starEach es X.env).any (·.1)=false) au_0) :
  PE X (.Call (.Name x p) (e::es) [] pos) (II sp E t):=by
 obtain⟨f,fd,F,L,N,_,Y⟩:=C.ex;intro pins s l H Q I h;refine Vy (Ng I T L ?_ v);refine VL I.ok.mod.kin N (thn (ha pos pins s l H _ I h) λg n ⟨z,y,b,r,q⟩=>⟨b.kIn,?_⟩) U o;have M:(g++[]).length=ps.length:=by rw[Qn,←r.length,←F.len _ _ _ _ q,Qn]
 refine Jv (Vh (F.run X.A X.stack n y ⟨g,[]⟩ (g++[]) (z++[]) Q (E l) G b.env0 (Y n g b.kIn M) (by grind) q) λr B hq=>?_);cases r with
 |error e=>exact J pins l y n e B b hq
 |ok fl=>
  cases fl with
  |ret u=>exact b.after hq
  |next=>trivial
  |_=>exact False.elim hq
end
section
variable {X:Cx}{pins:ZW}{D:Ends}{x n:Str}{np hpos pos:Pos}{b0:Stmt}{suite body:Ye}{C0:Addr}{i:Nat}{ts:TS}
def Zcs(B:X.stack=X.env::X.outer)(hfr:X.env.frame=some X.env.locals)(hN:X.N.Nodup)(hi:X.N[i]?=some n)(hk:X.env.scope.names.lookup n=some .local)(hg:Gl X x)(hm:X.mg x=some (.ref C0))(hdb:(x==("__debug__" : Str))=false)(hs:∀a,PSs (Tw X a) (b0::suite) ts):DN (CXe X.prog X.w) (TJ X pins D<|.ExceptHandler (some<|.Name x np) (some n) (b0::suite) hpos) (hx X.K C0 i ts D):=by
 rintro pins1 σ H s e s' I ⟨a,T,C,dx,p,rfl,y,C',ec,em,q⟩;obtain rfl:=Value.ref.inj ec;have I:=Fd I;have J:=I.call' y.os y.un y.hok y.bare λb z=>absurd z (by simp);have hF:=J.stack;have hA:=J.ok.frames;rw[B]at hF hA;refine Ob hA hF hfr y.tr λh2 T2 Q tr2 k2=>?_
 have M:s.heap.get? T2=none:=by
  cases z:s.heap.get? T2 with
  |none=>rfl
  |some o=>
   obtain⟨o1,z1⟩:=y.un.there T2 o z (by simp);exact absurd (W8 z1) (Jz.mpr Q)
 have U:=y.hok.fresh Q
 have u2:Un (frs X.stack) [] H p s.heap h2:=Dc y.un (by rw[B];exact k2) λb g=>by
  rcases WB.mp g with rfl|g
  ·exact y.na
  ·rw[Wx.mp g];exact y.nT
 have ok2:=Sg y.hok k2 (λb g=>J.stkFree b (by rw[B];exact g)) λb g=>by
  rcases WB.mp g with rfl|g
  ·exact y.fa
  ·rw[Wx.mp g];exact y.fT
 refine B4 tr2 λh3 G k3=>?_;have u3:=Dc u2 (k3.mono (by simp) λ_ z=>z) λb g=>by rw[Wx.mp g];exact M
 have L:=Sg ok2 k3 (by simp) λb g=>by rw[Wx.mp g];exact U
 have J3:Inv X pins σ p {s' with heap:=h3}:=I.call' y.os u3 L y.bare λb z=>absurd z (by simp)
 have S3:Inv (Tw X a) pins σ p {s' with heap:=h3}:=IW J3
 refine wpAny_handleBy_cons (codeAny_handlers_test<|Ng S3 hg hm ?_ hdb) (by intro z;cases z);obtain⟨_,⟨oe,vs,g1,g2,g3,g4⟩,_⟩:=id G;refine(PySem.W.exm_one J3.kIn ((show oe.cls=Value.ref C from Qs Prod.fst g2)▸(PySem.W.Looks.ld g1).andThen .now) em).here ?_
 refine codeAny_handlers_suite_as (B4 G λh4 tr4 k4=>?_);have l:=Dc u3 (k4.mono (by simp) λ_ z=>z) λb g=>by rw[Wx.mp g];exact M
 have u5:Un (frs X.stack) [] H (upd p a<|Km a C dx) s.heap h4:=by
  have ne:∀b o,s.heap.get? b=some o->b≠a:=λb o z w=>by rw[w,y.na]at z;cases z
  have r:∀b o,p b=some o->b≠a:=λb o z w=>by rw[w,y.fa]at z;cases z
  refine⟨l.keep,l.slot,λb o z n m=>by rw[Xa (ne b o z)];exact l.free b o z n m,l.there,λb xs z=>?_,λb o u z=>?_,λb ps z=>?_⟩
  ·rw[Xa (r b _<|l.tups b xs z)];exact l.tups b xs z
  ·rw[Xa (r b _<|l.frzs b o u z)];exact l.frzs b o u z
  ·obtain⟨more,z1⟩:=l.tbls b ps z;exact⟨more,by rw[Xa (r b _ z1)];exact z1⟩
 have ok5:HOk X.prog X.w (upd p a<|Km a C dx) h4:=λb ob e=>by
  by_cases g:b=a
  ·subst g;rw[Xk]at e;cases e
   exact Zbn tr4
  ·rw[Xa g]at e;refine((Sg L k4 (by simp) λb g=>by rw[Wx.mp g];exact U) b ob e).stay (λ_ _ _ z=>z) (λc z=>?_) λc xs z=>?_
   ·rw[Xa λw=>by rw[w,y.fa]at z;cases z];exact z
   ·rw[Xa λw=>by rw[w,y.fa]at z;cases z];exact z
 have J5:Inv X pins σ (upd p a<|Km a C dx) {s' with heap:=h4}:=I.call' y.os u5 ok5 y.bare λb z=>absurd z (by simp)
 have S5:Inv (Tw X a) pins σ (upd p a<|Km a C dx) {s' with heap:=h4}:=IW J5
 refine Np (X:=Tw X a) S5 hN hi (.inl hk) (v:=.ref a) rfl (λs6 S6=>?_) (.inr hk);refine Qh (hs a pins s6 _ _ _ S6<|q a y.fa) (λf s7 h7=>?_) λ_ _ z=>z.elim
 have gone:∀{h:L2.St} {Y:Hp} {R:Unit->Shared->Prop},Inv (Tw X a) pins h Y s7->(∀s8,Inv X pins (h.set i none) Y s8->R () s8)->wpAny (model X.prog X.w) X.A (do bindName X.env n .none;unbindBehindTheSuite X.env n hpos) R X.xe s7:=λ{h Y R} E hR=>by
  obtain⟨m,hn,hl⟩:=id E.loc;exact wpAny_nameGoes_keeps hk hn (by rw[show X.env.scope.kind=.function from J5.ok.kind];rfl) λh8 v hn8 hs8=>hR _ (Zni (RW J5.ok E) hN hi hk hl hn hn8 hs8)
 cases f with
 |ret u=>obtain⟨v,h,Y,E,rv,q7⟩:=h7;exact gone E λs8 I8=>⟨v,_,_,I8,rv,q7⟩
 |_=>obtain⟨h,Y,E,q7⟩:=h7;exact gone E λs8 I8=>⟨_,_,I8,q7⟩
def Zna{p:Ends->TS}(w:∀pins D,PSs (TJ X pins D<|.ExceptHandler (some<|.Name x np) (some n) (b0::suite) hpos) body (p D)) :
  PS X (.Try body [.ExceptHandler (some<|.Name x np) (some n) (b0::suite) hpos] [] [] pos) (λD l H=>p D D l H):=by
 intro pins s l H D I h;refine wpAny_Try_except (Qh (w pins D [] s l H D (Zfh I) h) (λf y o=>?_) λ_ _ z=>z);cases f with
 |next=>
  obtain⟨b,g,J,q⟩:=o;exact Wy ⟨b,g,Fd J,q⟩
 |ret u=>obtain⟨v,b,g,J,r,q⟩:=o;exact⟨v,b,g,Fd J,r,q⟩
 |_=>obtain⟨b,g,J,q⟩:=o;exact⟨b,g,Fd J,q⟩
end
noncomputable def Xe(b:ZX)(x:Str):Addr:=match b x with
 |some (.ref C)=>C
 |_=>0
def AH(h:b x=some (.ref C)):Xe b x=C:=by unfold Xe;rw[h]
def KY{v pos}(h:∃u,X.mg x=some u/\RelV v u)(b:autoParam (Gl X x) au_0)(hd:autoParam ((x==("__debug__" : Str))=false) au_1):PE X (.Name x pos) (tC v):=by
 obtain⟨u,g,f⟩:=h;exact EK b g f hd
def Zis{C pos}(h:X.mg x=some (.ref C))(b:autoParam (Gl X x) au_0)(hd:autoParam ((x==("__debug__" : Str))=false) au_1):PE X (.Name x pos) (tC<|.ref C):=EK b h rfl hd
end ExcR
namespace Own
open PySem PySem.Spec PyProof.Rows L2 M
section
variable {X:Cx}{pins:ZW}{σ:L2.St}{H:Hp}{s:Shared}
def Iy{p:Int×Int}{its}(r:Vals [V.int p.1,V.int p.2] its):∃f b,its=[.int p.1 f,.int p.2 b]:=by
 cases r with
 |cons n g=>
  cases g with
  |cons l h=>
   cases h
   obtain⟨f,rfl⟩:=n;obtain⟨b,rfl⟩:=l
   grind
def Zfi{x y p q u v}(I:Inv X pins σ H s)(U:A.units<cLine)(L:RelV x u)(J:RelV y v)(Y:KC H x p)(hq:KC H y q):SeqAt.EqAt A s u v (decide (p=q)):=by
 obtain⟨a,rfl,C⟩:=Y;obtain⟨b,rfl,l⟩:=hq;obtain rfl:=L;obtain rfl:=J;by_cases n:a=b
 ·subst n;rw[C]at l
  have e:p=q:=by
   injection l with l;injection l with l;injection l with g f;injection f with f _;exact Prod.ext (V.int.inj g) (V.int.inj f)
  rw[W1 e];exact SeqAt.EqAt.same _
 ·obtain⟨_,T,N,G⟩:=(I.hok a _ C);obtain⟨_,Q,M,E⟩:=(I.hok b _ l);obtain⟨B,w,rfl⟩:=Iy N;obtain⟨r,o,rfl⟩:=Iy M
  have h:=SeqAt.RcAt.tuples (e:=λj=>if j=0 then p.1==q.1 else p.2==q.2) G E U (λj g f=>by
   have hj:j=0\/j=1:=by
    have h1':j<2:=g;lia
   rcases hj with rfl|rfl
   ·exact SeqAt.EqAt.int_int _ _ _ _
   ·exact SeqAt.EqAt.int_int _ _ _ _)
  have e:((List.range (min ([Value.int p.1 B,Value.int p.2 w].toArray).size ([Value.int q.1 r,Value.int q.2 o].toArray).size)).all (λj=>if j=0 then p.1==q.1 else p.2==q.2)&&([Value.int p.1 B,Value.int p.2 w].toArray).size==([Value.int q.1 r,Value.int q.2 o].toArray).size)=decide (p=q):=by
   show((List.range 2).all (λj=>if j=0 then p.1==q.1 else p.2==q.2)&&true)=decide (p=q);rw[Bool.and_true];have e2:(List.range 2).all (λj=>if j=0 then p.1==q.1 else p.2==q.2)=((p.1==q.1)&&(p.2==q.2)):=by simp[List.range,List.range.loop]
   rw[e2];by_cases g:p.1=q.1
   ·by_cases f:p.2=q.2
    ·rw[W1 (Prod.ext g f)];simp[g,f]
    ·rw[Qb (λz=>f (by rw[z]))];simp[f]
   ·rw[Qb (λz=>g (by rw[z]))];simp[g]
  rw[e]at h;exact SeqAt.EqAt.of_refs n h
noncomputable def eP(H:Hp)(q:Int×Int)(u:Value):Bool:=match u with
 | .ref a=>(match H a with
  |some (.tup [.int i,.int j])=>decide ((i,j)=q)
  |_=>false)
 |_=>false
def Ek{p q}(h:KC H v p)(r:RelV v u):eP H q u=decide (p=q):=by
 obtain⟨a,rfl,b⟩:=h;obtain rfl:=r;unfold eP;simp_all
theorem FE:∀{vs us}{ps:ZU},Vals vs us->LV KC H vs ps->us.any (eP H q)=decide (q∈ps)
 |_,_,[],.nil,_=>rfl
 |_,_,_::_,.nil,h|v::vs,u::us,[],.cons _ _,h=>absurd h.1 (by simp)
 |v::vs,u::us,p::ps,.cons r t,h=>by
  obtain⟨g,e,b⟩:=h.2 0 p rfl;cases e
  have f:LV KC H vs ps:=⟨by simpa using h.1,λi x e=>h.2 (i+1) x e⟩;rw[VE,Ek b r,FE t f];by_cases l:p=q
  ·grind
  ·grind
noncomputable def SG(neg:Bool):R2:=λx y H Q=>∃(l:Addr) (b:ZU) (q:Int×Int),y=.ref l/\KC H x q/\LAt KC H l b/\Q (.bl (if neg then !decide (q∈b)else decide (q∈b))) H
theorem Dm{x v q}(I:Inv X pins σ H s)(g:A.units<cLine)(f:RelV x v)(hx:KC H x q):∀{vs us}{ps:ZU},Vals vs us->LV KC H vs ps->∀u∈us,SeqAt.EqAt A s u v (eP H q u)
 |_,_,_,.nil,_,u,b=>by cases b
 |w::vs,u::us,[],.cons _ _,h,_,_=>absurd h.1 (by simp)
 |w::vs,u::us,p::ps,.cons r t,h,l,b=>by
  obtain⟨o,e,hw⟩:=h.2 0 p rfl;cases e
  have n:LV KC H vs ps:=⟨by simpa using h.1,λi x e=>h.2 (i+1) x e⟩;rcases WB.mp b with rfl|b
  ·rw[Ek hw r];exact Zfi I g r f hw hx
  ·exact Dm I g f hx t n l b
def Ze6(p:X.A.in1.units<cLine):OpR X (compareOp .In) (SG false):=by
 intro pins s σ H x y v u Q I n g h;obtain⟨l,C,q,rfl,hx,⟨B,z,f⟩,k⟩:=h;cases g
 obtain⟨b,r,o,E⟩:=I.list (SqL.of z);refine SeqAt.in_listAt (eP H q) o.isList (λw hw=>Dm I p n hx r f w (by grind)) ⟨.bl _,H,I,rfl,?_⟩;rwa[show b.toArray.any (eP H q)=b.any (eP H q) by simp,FE r f]
def Zml(p:X.A.in1.units<cLine):OpR X (compareOp .NotIn) (SG true):=by
 intro pins s σ H x y v u Q I n g h;obtain⟨l,C,q,rfl,hx,⟨B,z,f⟩,k⟩:=h;cases g
 obtain⟨b,r,o,E⟩:=I.list (SqL.of z);refine SeqAt.notIn_listAt (eP H q) o.isList (λw hw=>Dm I p n hx r f w (by grind)) ⟨.bl _,H,I,rfl,?_⟩;rwa[show b.toArray.any (eP H q)=b.any (eP H q) by simp,FE r f]
end
end Own
namespace M
open PySem PySem.Spec PyProof.Rows L2 Own
section
variable {α:Type}{R:Hp->V->α->Prop}{H:Hp}
noncomputable def pick(c:α->Bool)(d:V×α):Option V:=if c d.2=true then some d.1 else none
end
end M
namespace Own
open PySem PySem.Spec PyProof.Rows L2 M
section
variable {X:Cx}
noncomputable def Xn(i:Int)(n:Nat):ZV:=(List.range n).map λ(k:Nat)=>i+(k:Int)
end
end Own
namespace Own
open PySem PySem.Spec PyProof.Rows L2
section
variable {X:Cx}{K:ZT}
def AU(x:X.calm=true)(z:autoParam (X.K=K) au_0):XM X (.builtin "sum") (λxs H Q=>∃(p:Addr) (ns:ZV),xs=[.ref p]/\SqL K H p (ns.map V.int)/\Q (.int ns.sum) H):=by
 subst z;intro pins s C H xs E Q I n h;obtain⟨p,ns,rfl,y,q⟩:=h;obtain⟨u,rfl,o⟩:=n.one;obtain rfl:=o;obtain⟨f,r,v,_⟩:=I.list y;have l:IntsAre f ns:=by simpa using Fk r
 obtain⟨b,hx⟩:=l.allInts.items;have g:=v.isList;rw[hx]at g;refine sum_intListG (I.ok.hd x) g λL G J w=>?_
 have B:ns=b.toList.map (·.1):=by
  rw[←nums_intItems,←hx];exact l.numsOf.symm
 have A:preSum (numAt b) b.size=ns.sum:=by
  rw[preSum_eq,List.take_of_length_le (by simp),B]
 rw[A];exact⟨.int ns.sum,H,I.kept w,⟨_,rfl⟩,q⟩
def Mh(J:X.calm=true)(N:autoParam (X.K=K) au_0):XM X (.builtin "min") (λxs H Q=>∃(p:Addr) (ns:ZV),xs=[.ref p]/\SqL K H p (ns.map V.int)/\0<ns.length/\∀M,M∈ns->(∀a∈ns,M<=a)->Q (.int M) H):=by
 subst N;intro pins s U H xs Y Q I z h;obtain⟨p,ns,rfl,L,n,q⟩:=h;obtain⟨u,rfl,A⟩:=z.one;obtain rfl:=A;obtain⟨g,r,B,_⟩:=I.list L;have w:IntsAre g ns:=by simpa using Fk r
 obtain⟨f,e⟩:=w.allInts.items;have o:=B.isList;rw[e]at o;have b:ns=f.toList.map (·.1):=by rw[←w.numsOf,←nums_intItems,←e]
 have l:0<f.size:=by
  have y:=n;rw[b,Wv,Qu]at y;exact y
 refine min_intList (I.ok.hd J) o l λv h' tk C E=>?_;obtain⟨t,rfl⟩:=intItems_at C;obtain⟨h1,T⟩:=argBest_lt (numAt f) (f.size-1);refine⟨.int _,H,I.kept E,⟨_,rfl⟩,q _ ?_ λa x=>?_⟩
 ·rw[b,numAt_eq];exact getD_mem (by rw[Wv,Qu];lia)
 ·rw[b]at x;obtain⟨j,G,rfl⟩:=WJ.mp x;rw[Wv,Qu]at G
  have:=T j (by lia)
  rw[numAt_eq f j]at this
  grind
theorem MZ:∀{bs}{us:Yb},Vals (bs.map V.bl) us->LSm.BoolsAre us bs
 |[],_,.nil=>.nil
 |b::r,_,.cons h t=>by
  cases h
  exact .cons b (MZ t)
def Ei(B:X.calm=true)(E:autoParam (X.K=K) au_0):XM X (.builtin "any") (λxs H Q=>∃(p:Addr) (bs:List Bool),xs=[.ref p]/\SqL K H p (bs.map V.bl)/\Q (.bl<|bs.any id) H):=by
 subst E;intro pins s G H xs J Q I w h;obtain⟨p,bs,rfl,C,q⟩:=h;obtain⟨u,rfl,x⟩:=w.one;obtain rfl:=x;obtain⟨f,r,y,_⟩:=I.list C;have n:=MZ r;have l:=y.isList;have g:p<s.heap.objs.size:=by obtain⟨_,e,_⟩:=l;exact W8 e
 refine call_any_walk (wpAny_pyIter_list l ?_)
 refine⟨s.heap.objs.size,[s.heap.objs.size,p],[s.heap.objs.size],f.toArray.size,_,_,λi=>(bs[i]?).getD false,rfl,Walks.list (A:=X.A.in1) (I.ok.hd B) _ p (WS g) f.toArray,
  ⟨⟨_,WE _ rfl,rfl,rfl⟩,l.push _⟩,λi v M U Y N o=>?_,λT L z=>?_⟩
 ·obtain⟨b,e,rfl⟩:=n.get i v (by grind);simp only[e,Option.getD_some]at o;exact QS o
 ·have e:((List.range f.toArray.size).any λi=>(bs[i]?).getD false)=bs.any id:=by
   rw[Qj,n.length];exact LSm.range_any bs
  rw[e];exact⟨.bl (bs.any id),H,I.kept (LSm.kept_iter z),rfl,q⟩
noncomputable def Dn(K:ZT)(neg:Bool):R2:=λx y H Q=>∃(p q:Addr) (xs:List V),x=.ref p/\y=.ref q/\SqL K H p xs/\SqL K H q []/\Q (.bl (if neg then !xs.isEmpty else xs.isEmpty)) H
def Zg7(g:X.A.units<cLine)(C:autoParam (X.K=K) au_0):OpR X (compareOp .Eq) (Dn K false):=by
 subst C;intro pins s G H x y v u Q I o n h;obtain⟨p,q,xs,rfl,rfl,B,hq,k⟩:=h;obtain rfl:=o;obtain rfl:=n;obtain⟨J,z,b,_⟩:=I.list B;obtain⟨l,w,p2,_⟩:=I.list hq;have M:=z.length;have L:0=l.length:=w.length;have f:=k;by_cases e:xs.length=0
 ·refine SeqAt.eq_listAt (e:=λ_=>true) b.isList p2.isList (by simp;lia) g (λj N E=>by simp at E;lia) ⟨.bl xs.isEmpty,H,I,?_,f⟩;show _=Value.bool xs.isEmpty
  grind
 ·refine SeqAt.eq_list_lengthsAt b.isList p2.isList (by simp;lia) g ⟨.bl xs.isEmpty,H,I,?_,f⟩;cases xs with
  |nil=>exact absurd rfl e
  |cons a r=>rfl
def Cg(g:X.A.units<cLine)(C:autoParam (X.K=K) au_0):OpR X (compareOp .NotEq) (Dn K true):=by
 subst C;intro pins s G H x y v u Q I o n h;obtain⟨p,q,xs,rfl,rfl,B,hq,k⟩:=h;obtain rfl:=o;obtain rfl:=n;obtain⟨J,z,b,_⟩:=I.list B;obtain⟨l,w,p2,_⟩:=I.list hq;have M:=z.length;have L:0=l.length:=w.length;have f:=k;by_cases e:xs.length=0
 ·refine SeqAt.RcNeAt.lists (e:=λ_=>true) b.isList p2.isList (by simp;lia) g (λj N E=>by simp at E;lia) _ _ _ _ ⟨.bl (!xs.isEmpty),H,I,?_,f⟩;show _=Value.bool (!xs.isEmpty)
  grind
 ·refine SeqAt.RcNeAt.lists_lengths b.isList p2.isList (by simp;lia) g _ _ _ _ ⟨.bl (!xs.isEmpty),H,I,?_,f⟩;cases xs with
  |nil=>exact absurd rfl e
  |cons a r=>rfl
end
end Own
namespace M
open PySem PySem.Spec PyProof.Rows L2 Own
def Bl(b:ZU)(r:ZV):Prop:=∀(i:Nat) (x y:Int),r[i]?=some x->r[i+1]?=some y->(x,y)∈b
structure Ring (hs:ZV) (ws:ZU) (r:ZV):Prop where
 two:2<=r.length
 nodup:r.Nodup
 sub:∀x∈r,x∈hs
 chain:Bl ws r
 last:∀x y,r[0]?=some x->r[r.length-1]?=some y->(y,x)∈ws
theorem Sn:∀{xs b:ZV},xs.Nodup->(∀x∈xs,x∈b)->xs.length<=b.length
 |[],_,_,_=>QM _
 |x::xs,b,g,h=>by
  obtain⟨n,l⟩:=Ql.mp g;have o:=Sn l λz f=>(List.mem_erase_of_ne (λe:z=x=>n (e▸f))).mpr (h z<|WT _ f)
  grind
def ET(G:∀q∈s,q.1≠q.2)(w:g≠[])(h:∀x∈g,∃y∈g,(y,x)∈s):∃r,Ring g s r:=by
 have grow:∀n r,r≠[]->r.Nodup->(∀x∈r,x∈g)->Bl s r->g.length<r.length+n->∃r,Ring g s r:=by
  intro n
  induction n with
  |zero=>
   intro r B u sub A H
   have:=Sn u sub
   lia
  |succ n E=>
   intro r B u sub A H;cases r with
   |nil=>exact absurd rfl B
   |cons x t=>
    obtain⟨y,v,hw⟩:=h x (sub x (WU ..));by_cases C:y∈x::t
    ·obtain⟨i,M,e⟩:=WJ.mp C
     have L:i≠0:=λz=>by
      subst z;exact G _ hw e.symm
     have p:((x::t).take (i+1)).length=i+1:=by
      rw[WG];lia
     refine⟨(x::t).take (i+1),by lia,u.sublist (QT _ _),λz o=>sub z (VC o),λk a b l f=>?_,λa b l f=>?_⟩
     ·have J:k+1<i+1:=by
       have:=(WI.mp f).1
       lia
      rw[QN (by lia)]at l;rw[QN J]at f;exact A k a b l f
     ·rw[p,VS,QN (by lia),Ww M,e]at f;cases l
      cases f
      exact hw
    ·refine E (y::x::t) (by simp) (Ql.mpr ⟨C,u⟩) (λz o=>?_) (λk a b l f=>?_) (by rw[WW];lia)
     ·rcases WB.mp o with rfl|o
      ·exact v
      ·exact sub z o
     ·cases k with
      |zero=>
       cases l
       cases f
       exact hw
      |succ k=>exact A k a b l f
 obtain⟨x,hx⟩:=VI g w;exact grow (g.length+1) [x] (by simp) (by simp) (λy v=>by rw[Wx.mp v];exact hx) (λi a b l f=>by simp at f) (by show g.length<1+(g.length+1);lia)
end M
namespace M
def sl:ZV->ZV->Prop
 |x::xs,y::b=>x<y\/(x=y/\sl xs b)
 |_,_=>False
def sl_cons:sl (l::a) (l::b)↔sl a b:=by
 show(l<l\/(l=l/\sl a b))↔sl a b;constructor
 ·simp
 ·simp
theorem F3:∀{a b} x y,sl a b->sl (a++[x]) (b++[y])
 |[],[],_,_,h|[],_::_,_,_,h|_::_,[],_,_,h=>by unfold sl at h;exact h.elim
 |p::a,q::b,x,y,h=>by
  rw[QA,QA];unfold sl at h ⊢;rcases h with h|⟨g,f⟩
  ·lia
  ·exact .inr ⟨g,F3 x y f⟩
theorem Aj:∀{a}{x y:Int},x<y->sl (a++[x]) (a++[y])
 |[],x,y,h=>.inl h
 |p::a,x,y,h=>by
  exact .inr ⟨rfl,Aj h⟩
theorem Bs:∀{a b c:ZV},sl a b->sl b c->sl a c
 |[],b,c,h,_|_::_,[],_,h,_|_::_,_::_,[],_,h=>by unfold sl at h;exact h.elim
 |x::a,y::b,z::c,g,f=>by
  unfold sl at g f ⊢;rcases g with g|⟨g,n⟩
  ·lia
  ·rcases f with f|⟨f,l⟩
   ·lia
   ·exact .inr ⟨by lia,Bs n l⟩
theorem Cj:∀{a:ZV},¬sl a a
 |[],h=>by unfold sl at h;exact h
 |x::a,h=>by
  rcases h with h|⟨_,h⟩
  ·lia
  ·exact Cj h
noncomputable def Xf(g:Int):ZV->Int
 |[]=>g
 |x::t=>Xf x t
theorem Kv(g:Int):∀a b,Xf g (a++b)=Xf (Xf g a) b
 |[],b=>rfl
 |x::a,b=>Kv x a b
theorem Fs(g:Int):∀t,(g::t)[t.length]?=some (Xf g t)
 |[]=>rfl
 |x::t=>by
  exact Fs x t
def Path(C:Int->Prop)(b:ZU):Int->ZV->Prop
 |_,[]=>True
 |g,x::t=>C x/\(g,x)∈b/\Path C b x t
section
variable {C:Int->Prop}{ws:ZU}
theorem path_app:∀{g}{a b:ZV},Path C ws g (a++b)↔Path C ws g a/\Path C ws (Xf g a) b
 |g,[],b=>⟨λh=>⟨trivial,h⟩,λh=>h.2⟩
 |g,x::a,b=>by
  constructor
  ·rintro⟨n,l,f⟩
   have:=path_app.mp f
   exact⟨⟨n,l,this.1⟩,this.2⟩
  ·rintro⟨⟨n,l,f⟩,o⟩;exact⟨n,l,path_app.mpr ⟨f,o⟩⟩
theorem N0:∀{g}{t:ZV},Path C ws g t->∀x∈t,C x
 |g,[],_,x,h=>by cases h
 |g,y::t,⟨f,_,b⟩,x,h=>by
  rcases WB.mp h with rfl|h
  ·lia
  ·exact N0 b x h
theorem HA:∀{g}{t:ZV},Path C ws g t->Bl ws (g::t)
 |g,[],_=>λi x y n b=>by simp at b
 |g,z::t,⟨n,b,l⟩=>λi x y h f=>by
  cases i with
  |zero=>grind
  |succ i=>exact HA l i x y h f
theorem Hs:∀{g}{t:ZV},Bl ws (g::t)->(∀x∈t,C x)->Path C ws g t
 |g,[],_,_=>trivial
 |g,z::t,h,b=>⟨b z WU,h 0 g z rfl rfl,Hs (λi x y l f=>h (i+1) x y l f) λx hx=>b x (WT _ hx)⟩
end
def Gr(b:ZV)(l:Int):Int->Prop:=λx=>x∈b/\l<x
def XG(f:ZV)(b:ZU)(l:Int)(t:ZV):Prop:=Path (Gr f l) b l t/\(Xf l t,l)∈b
def RF(f:ZV)(b:ZU)(l:Int)(r:ZV):Prop:=
 (r=[]/\∀t,¬XG f b l t)\/∃t,r=l::t/\XG f b l t/\∀u,XG f b l u->t.length<u.length\/(t.length=u.length/\(t=u\/sl t u))
structure Lev (hs:ZV) (ws:ZU) (l:Int) (k:Nat) (ps:List (ZV)) (ls:ZV):Prop where
 way:∀p∈ps,p.length=k/\Path (Gr hs l) ws l p
 srt:ps.Pairwise sl
 lin:∀h∈ls,Gr hs l h
 lsrt:ls.Pairwise (· < ·)
 cover:∀t,t.length<=k->Path (Gr hs l) ws l t->Xf l t∉ls
 first:∀t,t.length=k->Path (Gr hs l) ws l t->(∃p∈ps,Xf l p=Xf l t/\(p=t\/sl p t))\/∃u,u.length<k/\Path (Gr hs l) ws l u/\Xf l u=Xf l t
 none:∀t,t.length<k->¬XG hs ws l t
 comp:∀h,Gr hs l h->h∉ls->∃t,t.length<=k/\Path (Gr hs l) ws l t/\Xf l t=h
section
variable {hs:ZV}{ws:ZU}{l:Int}{k:Nat}{ps:List (ZV)}{ls:ZV}
def Lev.start (q:ls.Pairwise (· < ·)) (f:∀h,h∈ls↔Gr hs l h):Lev hs ws l 0 [[]] ls:=by
 have nil:∀t:ZV,t.length=0->t=[]:=λt h=>Q2.mp h;refine⟨λp n=>?_,by simp,λh g=>(f h).mp g,q,λt b _ h=>?_,λt b _=>.inl ⟨[],by simp,by rw[nil t b],.inl (nil t b).symm⟩,λt b=>by lia,λh g o=>absurd ((f h).mpr g) o⟩
 ·rw[Wx.mp n];trivial
 ·rw[nil t (by lia)]at h
  have:=((f _).mp h).2
  exact absurd this (by show ¬l<l;lia)
def Lev.found (L:Lev hs ws l k ps ls) {p i} (o:i<ps.length) (r:ps[i]=p) (G:(Xf l p,l)∈ws) (E:∀j h,j<i->(Xf l ps[j],l)∉ws):RF hs ws l (l::p):=by
 have B:p∈ps:=by rw[←r];exact WN o
 obtain⟨N,w⟩:=L.way p B;refine .inr ⟨p,rfl,⟨w,G⟩,λu f=>?_⟩;by_cases J:u.length<k
 ·exact absurd f (L.none u J)
 ·by_cases H:u.length=k
  ·rcases L.first u H f.1 with⟨q,hq,M,g⟩|⟨v,A,y,x⟩
   ·refine .inr ⟨by lia,?_⟩;obtain⟨j,h,s⟩:=WJ.mp hq;have n:(Xf l ps[j],l)∈ws:=by rw[s,M];exact f.2
    have C:=Nat.le_of_not_lt λz=>E j h z n
    have b:p=q\/sl p q:=by
     by_cases e:i=j
     ·grind
     ·have:=WY.mp L.srt i j o h (by lia)
      rw[r,s]at this;exact .inr this
    rcases b with rfl|b
    ·exact g
    ·rcases g with rfl|g
     ·exact .inr b
     ·exact .inr (Bs b g)
   ·exact absurd ⟨y,by rw[x];exact f.2⟩ (L.none v A)
  ·exact .inl (by lia)
def Lev.none_here (L:Lev hs ws l k ps ls) (h:∀p∈ps,(Xf l p,l)∉ws):∀t,t.length<k+1->¬XG hs ws l t:=λt s b=>by
 by_cases o:t.length<k
 ·exact L.none t o b
 ·rcases L.first t (by lia) b.1 with⟨q,hq,r,u⟩|⟨v,n,g,f⟩
  ·exact h q hq (by rw[r];exact b.2)
  ·exact L.none v n ⟨g,by rw[f];exact b.2⟩
def Lev.over (L:Lev hs ws l k [] ls):RF hs ws l []:=by
 refine .inl ⟨rfl,?_⟩
 have early:∀n t,t.length=n->Path (Gr hs l) ws l t->∃u,u.length<k/\Path (Gr hs l) ws l u/\Xf l u=Xf l t:=by
  intro n
  induction n with
  |zero=>
   intro t b f;by_cases M:0<k
   ·exact⟨t,by lia,f,rfl⟩
   ·rcases L.first t (by lia) f with⟨q,hq,_⟩|⟨v,p,_⟩
    ·cases hq
    ·lia
  |succ n H=>
   intro t b f;have y:t≠[]:=λz=>by rw[z]at b;cases b
   have o:=(Vd y).symm;generalize t.getLast y=x at o;generalize t.dropLast=s at o;subst o;obtain⟨G,p2⟩:=path_app.mp f;obtain⟨u,r,h,g⟩:=H s (by simpa using b) G;have w:=path_app.mpr ⟨h,by rw[g];exact p2⟩;have A:Xf l (u++[x])=Xf l (s++[x]):=by rw[Kv,Kv];rfl
   by_cases J:(u++[x]).length<k
   ·exact⟨_,J,w,A⟩
   ·rcases L.first (u++[x]) (by grind) w with⟨q,hq,_⟩|⟨v,p,E,C⟩
    ·cases hq
    ·exact⟨v,p,E,C.trans A⟩
 intro t B;obtain⟨u,r,h,g⟩:=early t.length t rfl B.1;exact L.none u r ⟨h,by rw[g];exact B.2⟩
structure LG (ws:ZU) (l:Int) (P:ZV->Int->Prop) (lg:List (ZV)):Prop where
 mem:∀q∈lg,∃p h,P p h/\q=p++[h]/\(Xf l p,h)∈ws
 srt:lg.Pairwise sl
 has:∀p h,P p h->(Xf l p,h)∈ws->∃p',p'++[h]∈lg/\(p'=p\/sl p' p)
def Lev.next (L:Lev hs ws l k ps ls) (hn:∀p∈ps,(Xf l p,l)∉ws) (G:LG ws l (λp h=>p∈ps/\h∈ls) E)
  (e:y=ls.filter λh=>decide (¬h∈E.map (Xf l))):Lev hs ws l (k+1) E y:=by
 have b:∀h,h∈y↔h∈ls/\¬h∈E.map (Xf l):=λh=>by rw[e,WM,Vq]
 have f:∀q∈E,q.length=k+1/\Path (Gr hs l) ws l q:=λq hq=>by
  obtain⟨p,h,⟨g,h2⟩,rfl,h3⟩:=G.mem q hq;obtain⟨w1,N⟩:=L.way p g;exact⟨by simp[w1],path_app.mpr ⟨N,L.lin h h2,h3,trivial⟩⟩
 have reach:∀s x,s.length=k->Path (Gr hs l) ws l s->Gr hs l x->(Xf l s,x)∈ws->x∈ls->∃p∈ps,Xf l p=Xf l s/\(p=s\/sl p s):=λs x g h2 h3 h4 h5=>by
  rcases L.first s g h2 with z|⟨v,v1,v2,v3⟩
  ·exact z
  ·have:=L.cover (v++[x]) (by simp;lia) (path_app.mpr ⟨v2,h3,by rw[v3];exact h4,trivial⟩)
   rw[Kv]at this;exact absurd h5 this
 refine⟨f,G.srt,λh hh=>L.lin h ((b h).mp hh).1,?_,λt A J hl=>?_,λt A J=>?_,L.none_here hn,λh hg hnl=>?_⟩
 ·rw[e];exact L.lsrt.filter _
 ·obtain⟨C,m2⟩:=(b _).mp hl;by_cases g:t.length<=k
  ·exact L.cover t g J C
  ·have w:t≠[]:=λz=>by rw[z]at g;simp at g
   have o:=(Vd w).symm;generalize t.getLast w=x at o;generalize t.dropLast=s at o;subst o;obtain⟨U,p2,r,_⟩:=path_app.mp J;rw[Kv]at C m2;obtain⟨p,n,B,_⟩:=reach s x (by simp at A g;lia) U p2 r C;obtain⟨Y,k1,_⟩:=G.has p x ⟨n,C⟩ (by rw[B];exact r);exact m2 (WK.mpr ⟨_,k1,by rw[Kv];rfl⟩)
 ·have w:t≠[]:=λz=>by rw[z]at A;simp at A
  have o:=(Vd w).symm;generalize t.getLast w=x at o;generalize t.dropLast=s at o;subst o;obtain⟨U,p2,r,_⟩:=path_app.mp J;have hs':s.length=k:=by simpa using A
  by_cases hx:x∈ls
  ·obtain⟨p,n,B,M⟩:=reach s x hs' U p2 r hx;obtain⟨Y,k1,H⟩:=G.has p x ⟨n,hx⟩ (by rw[B];exact r);refine .inl ⟨_,k1,by rw[Kv,Kv];rfl,?_⟩
   have:Y=s\/sl Y s:=by
    rcases H with rfl|H
    ·exact M
    ·rcases M with rfl|M
     ·exact .inr H
     ·exact .inr (Bs H M)
   rcases this with rfl|h
   ·exact .inl rfl
   ·exact .inr (F3 x x h)
  ·obtain⟨u,u1,T,Q⟩:=L.comp x p2 hx;exact .inr ⟨u,by lia,T,by rw[Q,Kv];rfl⟩
 ·by_cases hx:h∈ls
  ·have:=Qc λz=>hnl ((b h).mpr ⟨hx,z⟩)
   obtain⟨q,hq,B⟩:=WK.mp this;obtain⟨w1,N⟩:=f q hq;exact⟨q,by lia,N,B⟩
  ·obtain⟨u,u1,T,Q⟩:=L.comp h hg hx;exact⟨u,by lia,T,Q⟩
end
def FR(b:ZV)(f:ZU)(r:ZV):Prop:=
 (r=[]/\∀l∈b,∀t,¬XG b f l t)\/∃l t,r=l::t/\l∈b/\XG b f l t/\∀m∈b,∀u,XG b f m u->t.length<u.length\/(t.length=u.length/\(l<m\/(l=m/\(t=u\/sl t u))))
theorem EU:∀(r:ZV),r≠[]->∃i,∃h:i<r.length,∀x∈r,r[i]<=x
 |[],h=>absurd rfl h
 |[a],_=>⟨0,by simp,λx hx=>by rw[Wx.mp hx];exact VG _⟩
 |a::b::r,_=>by
  obtain⟨i,f,h⟩:=EU (b::r) (by simp);by_cases c:a<=(b::r)[i]
  ·refine⟨0,by simp,λx hx=>?_⟩;rcases WB.mp hx with rfl|hx
   ·exact VG _
   ·grind
  ·refine⟨i+1,by simpa using f,λx hx=>?_⟩;have e:(a::b::r)[i+1]'(by grind)=(b::r)[i]:=rfl;rcases WB.mp hx with rfl|hx
   ·lia
   ·exact h x hx
def Hi(r:ZV){i j}(b:i<=r.length):(r.drop i++r.take i)[j]?=if i+j<r.length then r[i+j]? else if j<r.length then r[i+j-r.length]? else none:=by grind
def Zkh(R:Ring v s r):∃l∈v,∃t,XG v s l t/\t.length+1=r.length:=by
 have two:=R.two;obtain⟨i,p,n⟩:=EU r (λz=>by rw[z]at two;simp at two);have erot:r.drop i++r.take i=r[i]::(r.drop (i+1)++r.take i):=by rw[Q0 p];rfl
 have o:(r.drop (i+1)++r.take i).length+1=r.length:=by rw[WA,List.length_drop,WG];lia
 have E:Bl s (r[i]::(r.drop (i+1)++r.take i)):=by
  rw[←erot];intro j x y g b;rw[Hi r (by lia)]at g b;by_cases B:i+(j+1)<r.length
  ·rw[W5 B]at b;rw[W5 (by lia)]at g;exact R.chain (i+j) x y g b
  ·rw[W2 B]at b;by_cases A:j+1<r.length
   ·rw[W5 A]at b;by_cases w:i+j<r.length
    ·rw[W5 w]at g;have f:i+j=r.length-1:=by lia
     have q:i+(j+1)-r.length=0:=by lia
     rw[f]at g;rw[q]at b;exact R.last y x b g
    ·rw[W2 w,W5 (by lia)]at g;have e:i+(j+1)-r.length=(i+j-r.length)+1:=by lia
     rw[e]at b;exact R.chain _ x y g b
   ·rw[W2 A]at b;cases b
 refine⟨r[i],R.sub _ (WN p),r.drop (i+1)++r.take i,⟨Hs E λx hx=>?_,?_⟩,o⟩
 ·have h:=(WD.mp hx).elim List.mem_of_mem_drop VC;refine⟨R.sub x h,Int.lt_iff_le_and_ne.mpr ⟨n x h,λz=>?_⟩⟩
  have u:(r.drop i++r.take i).Nodup:=by
   have:(r.take i++r.drop i).Perm (r.drop i++r.take i):=List.perm_append_comm
   rw[←this.nodup_iff,Vl];exact R.nodup
  rw[erot]at u;exact(Ql.mp u).1 (by rw[z];exact hx)
 ·have f:=Fs r[i] (r.drop (i+1)++r.take i);rw[←erot,Hi r (by lia)]at f;have q:(r.drop (i+1)++r.take i).length=r.length-1:=by lia
  rw[q]at f;by_cases c:i=0
  ·subst c;rw[W5 (by lia)]at f;exact R.last _ _ (Ww p) (by simpa using f)
  ·rw[W2 (by lia),W5 (by lia)]at f;have C:i+(r.length-1)-r.length=i-1:=by lia
   rw[C]at f;exact R.chain (i-1) _ _ f (by rw[show i-1+1=i by lia];exact Ww p)
theorem Gd:∀{t:ZV},¬t.Nodup->∃a x b c,t=a++x::(b++x::c)
 |[],h=>absurd QI h
 |y::t,h=>by
  by_cases f:y∈t
  ·obtain⟨b,c,e⟩:=List.append_of_mem f;exact⟨[],y,b,c,by rw[e];rfl⟩
  ·obtain⟨a,x,b,c,e⟩:=Gd λz=>h (Ql.mpr ⟨f,z⟩)
   grind
def BU{h l t}(w:∀q∈h,q.1≠q.2)(A:l∈n)(f:XG n h l t)(r:∀u,XG n h l u->t.length<=u.length):Ring n h (l::t):=by
 have p:t≠[]:=λz=>by
  have g:=f.2;rw[z]at g;exact w _ g rfl
 have s:=N0 f.1;refine⟨by have:=J6.mpr p;simp;lia,Ql.mpr ⟨λz=>absurd (s l z).2 (by lia),?_⟩,λx hx=>?_,HA f.1,λx y o g=>?_⟩
 ·refine Qc λz=>?_;obtain⟨a,x,b,c,e⟩:=Gd z;have o:=f.1;rw[e]at o;obtain⟨v,p2⟩:=path_app.mp o
  have C:XG n h l (a++x::c):=by
   refine⟨path_app.mpr ⟨v,p2.1,p2.2.1,((path_app (a:=x::b)).mp p2).2.2.2⟩,?_⟩
   have B:Xf l (a++x::c)=Xf l t:=by
    rw[e,Kv,Kv];show Xf x c=Xf x (b++x::c);rw[Kv];rfl
   rw[B];exact f.2
  grind
 ·rcases WB.mp hx with rfl|hx
  ·exact A
  ·exact(s x hx).1
 ·cases o
  simp only[WW,VS]at g;rw[(Fs l t)]at g;cases g
  exact f.2
def FR.none_iff {b r} (o:∀q∈b,q.1≠q.2) (F:FR p b r):r=[]↔¬ ∃r,Ring p b r:=by
 constructor
 ·rintro rfl ⟨r,R⟩;obtain⟨l,f,t,g,_⟩:=Zkh R;rcases F with⟨_,F⟩|⟨_,_,e,_⟩
  ·grind
  ·grind
 ·intro h;rcases F with⟨e,_⟩|⟨l,t,rfl,f,g,s⟩
  ·exact e
  ·refine absurd ⟨_,BU o f g λu n=>?_⟩ h
   grind
def FR.ring {b r} (n:∀q∈b,q.1≠q.2) (F:FR o b r) (h:r≠[]):Ring o b r/\∃l t,r=l::t/\∀x∈t,l<x:=by
 rcases F with⟨e,_⟩|⟨l,t,rfl,p,f,s⟩
 ·grind
 ·refine⟨BU n p f λu g=>?_,l,t,rfl,λx hx=>(N0 f.1 x hx).2⟩
  grind
def Pr(b:ZU):Prop:=b.length<=20/\b.Nodup/\∀q∈b,(1<=q.1/\q.1<=10/\1<=q.2/\q.2<=10)/\q.1≠q.2
open Own
noncomputable def exM(ps:ZU)(ns:ZV)(p:Nat):Int:=(ps.getD (ns.getD (p-1) 0-1).toNat (0,0)).2*(ps.getD (ns.getD p 0-1).toNat (0,0)).2
noncomputable def K4(ns:ZV)(p:Nat):ZV:=ns.take (p-1)++[ns.getD p 0,ns.getD (p-1) 0]++ns.drop (p+1)
def Gj{p}(n:1<=p)(g:p<ns.length):(K4 ns p).Perm ns:=by
 unfold K4;have l:ns.getD p 0=ns[p]:=by grind
 have h:ns.getD (p-1) 0=ns[p-1]'(by lia):=by grind
 rw[l,h]
 have e:ns=ns.take (p-1)++[ns[p-1]'(by lia),ns[p]]++ns.drop (p+1):=by
  have b:ns.drop (p-1)=ns[p-1]'(by lia)::ns.drop (p-1+1):=Q0 (by lia);have f:p-1+1=p:=by lia
  rw[f,(Q0 g)]at b
  calc ns=ns.take (p-1)++ns.drop (p-1):=(Vl _ _).symm
   _=_:=by rw[b];simp
 refine List.Perm.trans ?_ (List.Perm.of_eq e.symm);exact List.Perm.append_right _ (List.Perm.append_left _<|List.Perm.swap _ _ _)
def runI_mem:x∈Xn 1 n↔1<=x/\x<=n:=by
 unfold Xn;rw[WK];constructor
 ·grind
 ·intro h;exact⟨(x-1).toNat,Q6.mpr (by lia),by lia⟩
def Tp(n:Nat):(Xn 1 n).length=n:=by unfold Xn;rw[Wv,List.length_range]
end M
namespace Pu
open PySem PySem.Spec PyProof.Rows L2 Own
inductive D where
 |int (i:Int)|bl (b:Bool)|non|str (x:Str)|ty (n:String)|tup (ds:List D)|lst (ds:List D)|scr (ns:ZV)|dK (kvs:List (Key×V))|dT (kvs:List (List Key×V))|loc (a:Addr) (d:D)|err (C:Addr)|ref (a:Addr)|ins (C:Addr) (xs:Yc) (ds:List D)|dF (kvs:List (List Key×V))|erM (C:Addr) (r:ZV)|fL (ns:ZV)
mutual
inductive Rp (K:ZT) (H:Hp):D->V->Prop
 |int (i:Int):Rp K H (.int i) (.int i)
 |bl (b:Bool):Rp K H (.bl b) (.bl b)
 |non:Rp K H .non .non
 |str (x:Str):Rp K H (.str x) (.str x)
 |ty (n:String):Rp K H (.ty n) (.ty n)
 |tup {ds:List D} {vs:List V} {a:Addr}:H a=some (.tup vs)->Rps K H ds vs->Rp K H (.tup ds) (.ref a)
 |lst {ds:List D} {vs:List V} {a:Addr}:H a=some (.lst vs)->Rps K H ds vs->Rp K H (.lst ds) (.ref a)
 |scr {ns:ZV} {a:Addr}:SqL K H a (ns.map V.int)->Rp K H (.scr ns) (.ref a)
 |dK {kvs:List (Key×V)} {a:Addr}:H a=some (.dK kvs)->Rp K H (.dK kvs) (.ref a)
 |dT {kvs:List (List Key×V)} {a:Addr}:H a=some (.dT kvs)->Rp K H (.dT kvs) (.ref a)
 |dF {kvs:List (List Key×V)} {o:Obj} {a:Addr}:H a=some (.frz o<|.dT kvs)->Rp K H (.dF kvs) (.ref a)
 |loc {d:D} {a:Addr}:Rp K H d (.ref a)->Rp K H (.loc a d) (.ref a)
 |err {C a:Addr}:H a=some (ExcR.Ep a C)->Rp K H (.err C) (.ref a)
 |ref (a:Addr):Rp K H (.ref a) (.ref a)
 |erM {C a dx l:Addr} {r:ZV}:H a=some (ExcR.Km a C<|some dx)->H dx=some (.xd [("members",.ref l)])->H l=some (.lst<|r.map V.int)->Rp K H (.erM C r) (.ref a)
 |fL {a:Addr} {ns:ZV}:H a=some (.lst<|ns.map V.int)->Rp K H (.fL ns) (.ref a)
 |ins {C a dx:Addr} {xs:Yc} {ds:List D} {vs:List V}:H a=some (.ins C dx<|xs.zip vs)->xs.length=vs.length->Rps K H ds vs->Rp K H (.ins C xs ds) (.ref a)
inductive Rps (K:ZT) (H:Hp):List D->List V->Prop
 |nil:Rps K H [] []
 |cons {d:D} {v:V} {ds:List D} {vs:List V}:Rp K H d v->Rps K H ds vs->Rps K H (d::ds) (v::vs)
end
section
variable {K:ZT}{H H':Hp}
def Rp.mono (S:Same H H') {d:D}{v:V}:Rp K H d v->Rp K H' d v:=
 Rp.rec (motive_1:=λd v _=>Rp K H' d v) (motive_2:=λg f _=>Rps K H' g f) .int .bl .non .str .ty (λh _ r=>.tup (S _ _ h) r) (λh _ r=>.lst (S _ _ h) r) (λh=>.scr (S.seq h)) (λh=>.dK (S _ _ h)) (λh=>.dT (S _ _ h)) (λh=>.dF (S _ _ h)) (λ_ h=>.loc h) (λh=>.err (S _ _ h)) .ref (λa b c=>.erM (S _ _ a) (S _ _ b) (S _ _ c)) (λh=>.fL (S _ _ h)) (λh e _ r=>.ins (S _ _ h) e r) .nil λ_ _=>.cons
def Rps.mono (S:Same H H') {ds:List D}:∀{vs:List V},Rps K H ds vs->Rps K H' ds vs:=by
 induction ds with
 |nil=>intro _ h;cases h;exact .nil
 |cons _ _ f=>intro _ h;cases h with|cons a b=>exact .cons (Rp.mono S a) (f b)
def Rps.len:∀{ds}{vs:List V},Rps K H ds vs->vs.length=ds.length:=by
 intro ds
 induction ds with
 |nil=>
  intro _ h;cases h
  rfl
 |cons _ _ b=>
  intro _ h;cases h with
  |cons h r=>
   exact Qs (· + 1) (b r)
def Rps.get:∀{ds vs}{i:Nat}{d:D},Rps K H ds vs->ds[i]?=some d->∃v,vs[i]?=some v/\Rp K H d v:=by
 intro ds
 induction ds with
 |nil=>
  intro _ i _ h e;simp at e
 |cons _ _ b=>
  intro _ i d h e;cases h with
  |cons h r=>
   cases i with
   |zero=>
    simp at e;subst e;exact⟨_,rfl,h⟩
   |succ i=>
    obtain⟨v,g,f⟩:=b r (by simpa using e);exact⟨v,by simpa using g,f⟩
def Rps.append:∀{ds es}{vs us:List V},Rps K H ds vs->Rps K H es us->Rps K H (ds++es) (vs++us):=by
 intro ds
 induction ds with
 |nil=>
  intro _ _ _ h s;cases h
  exact s
 |cons _ _ b=>
  intro _ _ _ h s;cases h with
  |cons h r=>
   exact .cons h (b r s)
theorem Rps.drop:∀{ds vs} n,Rps K H ds vs->Rps K H (ds.drop n) (vs.drop n)
 |_,_,0,r=>r
 |_,_,_+1,.nil=>.nil
 |_,_,n+1,.cons _ r=>Rps.drop n r
theorem Rps.take:∀{ds vs} n,Rps K H ds vs->Rps K H (ds.take n) (vs.take n)
 |_,_,0,_|_,_,_+1,.nil=>.nil
 |_,_,n+1,.cons h r=>.cons h (Rps.take n r)
end
mutual
noncomputable def imm:D->Bool
 | .tup b=>XO b
 | .lst _=>false
 | .scr _=>false
 | .dK _=>false
 | .dT _=>false
 | .loc _ _=>false
 | .err _=>false
 | .erM _ _=>false
 | .fL _=>false
 | .ins _ _ _=>false
 |_=>true
noncomputable def XO:List D->Bool
 |[]=>true
 |d::r=>imm d&&XO r
end
open Classical in
noncomputable def off(Z:Addr->Prop)(H:Hp):Hp:=λb=>if Z b then none else H b
section
variable {K:ZT}{H H':Hp}{Z Z':Addr->Prop}
def P6(h:off Z H b=some o):H b=some o/\¬Z b:=by
 unfold off at h;by_cases z:Z b
 ·grind
 ·grind
def X8(h:H b=some o)(z:¬Z b):off Z H b=some o:=by
 unfold off
 grind
def Xm(S:Same H H')(g:∀b o,H b=some o->¬Z b->¬Z' b):Same (off Z H) (off Z' H'):=λb o h=>by
 obtain⟨f,l⟩:=P6 h;exact X8 (S b o f) (g b o f l)
def off_sub:Same (off Z H) H:=λ_ _ h=>(P6 h).1
def Rp.off (q:∀b,Z b->Mut (H b)) {d:D}{v:V}:Rp K H d v->imm d=true->Rp K (off Z H) d v:=by
 have g:∀{a o},H a=some o->¬Mut (some o)->Pu.off Z H a=some o:=λh n=>X8 h λz=>n (h▸q _ z);have f:∀{d} {P:Prop},imm d=false->imm d=true->P:=λh e=>by rw[h]at e;cases e
 exact Rp.rec (motive_1:=λd v _=>imm d=true->Rp K (Pu.off Z H) d v) (motive_2:=λl p _=>XO l=true->Rps K (Pu.off Z H) l p) (λi _=>.int i) (λb _=>.bl b) (λ_=>.non) (λx _=>.str x) (λn _=>.ty n) (λh _ r e=>.tup (g h id) (r<|by unfold imm at e;exact e)) (λ_ _ _=>f (by unfold imm;rfl)) (λ_=>f (by unfold imm;rfl)) (λ_=>f (by unfold imm;rfl)) (λ_=>f (by unfold imm;rfl)) (λh _=>.dF (g h id)) (λ_ _=>f (by unfold imm;rfl)) (λ_=>f (by unfold imm;rfl)) (λa _=>.ref a) (λ_ _ _=>f (by unfold imm;rfl)) (λ_=>f (by unfold imm;rfl)) (λ_ _ _ _=>f (by unfold imm;rfl)) (λ_=>.nil) (λ_ _ a b e=>by
  unfold XO at e;rw[Qd]at e;exact .cons (a e.1) (b e.2))
def Rps.off (g:∀b,Z b->Mut (H b)) {ds:List D}:∀{vs:List V},Rps K H ds vs->XO ds=true->Rps K (off Z H) ds vs:=by
 induction ds with
 |nil=>intro _ h _;cases h;exact .nil
 |cons _ _ f=>
  intro _ h e;unfold XO at e;rw[Qd]at e;cases h with|cons a b=>exact .cons (Rp.off g a e.1) (f b e.2)
end
inductive O where
 |lst (ds:List D)|dK (kvs:List (Key×V))|dT (kvs:List (List Key×V))|ins (a C:Addr) (xs:Yc) (cs:List (Addr×List D))|lsA (a:Addr) (ds:List D)|nst (cs:List (Addr×List D))|nsl (a:Addr) (cs:List (Addr×List D))|vls (a C:Addr) (xs:Yc) (vs:List (Addr×List (Addr×List D)))|tl (a:Addr) (ds:List D) (i:Int)|er (l C:Addr) (r:ZV)
instance:Coe (List D) O:=⟨O.lst⟩
noncomputable def O.d:O->D
 | .lst f=>.lst f | .dK b=>.dK b | .dT b=>.dT b | .ins _ C xs g=>.ins C xs (g.map λc=>.lst c.2) | .lsA _ f=>.lst f | .nst g=>.tup (g.map λc=>.lst c.2) | .nsl _ g=>.lst (g.map λc=>.lst c.2) | .vls _ C xs h=>.lst (h.map λv=>.ins C xs (v.2.map λc=>.lst c.2)) | .tl _ f i=>.tup [.lst f,.int i] | .er _ C r=>.erM C r
def O.adr (a:Addr):O->Addr->Prop
 | .lst _=>λb=>b=a
 | .dK _=>λb=>b=a
 | .dT _=>λb=>b=a
 | .ins x _ _ f=>λb=>b=x\/∃c∈f,b=c.1
 | .lsA x _=>λb=>b=x
 | .nst f=>λb=>∃c∈f,b=c.1
 | .tl x _ _=>λb=>b=x
 | .er l _ _=>λb=>b=l
 | .nsl x f=>λb=>b=x\/∃c∈f,b=c.1
 | .vls x _ _ g=>λb=>b=x\/∃v∈g,b=v.1\/∃c∈v.2,b=c.1
def OR(K:ZT)(F H:Hp)(a:Addr):O->Prop
 | .lst p=>∃f,H a=some (.lst f)/\Rps K F p f
 | .dK h=>H a=some (.dK h)
 | .dT h=>H a=some (.dT h)
 | .lsA x p=>a=x/\∃f,H a=some (.lst f)/\Rps K F p f
 | .ins x C xs g=>a=x/\xs.length=g.length/\(∃n,H a=some (.ins C n<|xs.zip (g.map λc=>V.ref c.1)))/\(∀c∈g,∃f,H c.1=some (.lst f)/\Rps K F c.2 f)/\(g.map (·.1)).Nodup
 | .nsl x g=>a=x/\H a=some (.lst (g.map λc=>V.ref c.1))/\(∀c∈g,∃f,H c.1=some (.lst f)/\Rps K F c.2 f)/\(x::g.map (·.1)).Nodup
 | .vls x C xs o=>a=x/\H a=some (.lst (o.map λw=>V.ref w.1))/\(∀w∈o,xs.length=w.2.length/\(∃n,H w.1=some (.ins C n<|xs.zip (w.2.map λc=>V.ref c.1)))/\∀c∈w.2,∃f,H c.1=some (.lst f)/\Rps K F c.2 f)/\(∀w∈o,(w.2.map (·.1)).Nodup/\¬(x=w.1\/∃c∈w.2,x=c.1))/\∀(i j:Nat) (w q:Addr×List (Addr×List D)) (b:Addr),o[i]?=some w->o[j]?=some q->(b=w.1\/∃c∈w.2,b=c.1)->(b=q.1\/∃c∈q.2,b=c.1)->i=j
 | .er l C r=>∃n,F a=some (ExcR.Km a C<|some n)/\F n=some (.xd [("members",.ref l)])/\H l=some (.lst<|r.map V.int)
 | .tl x p i=>F a=some (.tup [.ref x,.int i])/\∃f,H x=some (.lst f)/\Rps K F p f
 | .nst g=>F a=some (.tup (g.map λc=>V.ref c.1))/\(∀c∈g,∃f,H c.1=some (.lst f)/\Rps K F c.2 f)/\(g.map (·.1)).Nodup
def OR.mono {K F E H H'}{a o} (u:Same F E) (p:∀b,o.adr a b->∀x,H b=some x->H' b=some x) (h:OR K F H a o):OR K E H' a o:=by
 cases o with
 |lst A=>obtain⟨n,g,f⟩:=h;exact⟨n,p _ rfl _ g,Rps.mono u f⟩
 |lsA x A=>obtain⟨rfl,n,g,f⟩:=h;exact⟨rfl,n,p _ rfl _ g,Rps.mono u f⟩
 |nsl x B=>
  obtain⟨e,g,f,s⟩:=h;exact⟨e,p _ (.inl e) _ g,λc q=>let ⟨n,y,v⟩:=f c q;⟨n,p _ (.inr ⟨c,q,rfl⟩) _ y,Rps.mono u v⟩,s⟩
 |vls x C xs L=>
  obtain⟨e,g,f,s⟩:=h;refine⟨e,p _ (.inl e) _ g,λw hw=>?_,s⟩;obtain⟨l,⟨z,J⟩,G⟩:=f w hw;exact⟨l,⟨z,p _ (.inr ⟨w,hw,.inl rfl⟩) _ J⟩,λc q=>let ⟨n,y,v⟩:=G c q;⟨n,p _ (.inr ⟨w,hw,.inr ⟨c,q,rfl⟩⟩) _ y,Rps.mono u v⟩⟩
 |er l C r=>obtain⟨z,g,f,s⟩:=h;exact⟨z,u _ _ g,u _ _ f,p _ rfl _ s⟩
 |tl x A i=>obtain⟨g,n,f,s⟩:=h;exact⟨u _ _ g,n,p _ rfl _ f,Rps.mono u s⟩
 |nst B=>
  obtain⟨g,f,s⟩:=h;exact⟨u _ _ g,λc q=>let ⟨n,y,v⟩:=f c q;⟨n,p _ ⟨c,q,rfl⟩ _ y,Rps.mono u v⟩,s⟩
 |ins x C xs B=>
  obtain⟨e,l,⟨z,g⟩,f,s⟩:=h;exact⟨e,l,⟨z,p _ (.inl e) _ g⟩,λc q=>let ⟨n,y,v⟩:=f c q;⟨n,p _ (.inr ⟨c,q,rfl⟩) _ y,Rps.mono u v⟩,s⟩
 |_=>exact p _ rfl _ h
theorem PL{K F}:∀{b:List (Addr×List D)},(∀c∈b,∃vs,F c.1=some (.lst vs)/\Rps K F c.2 vs)->Rps K F (b.map λc=>.lst c.2) (b.map λc=>V.ref c.1)
 |[],_=>.nil
 |c::b,h=>let ⟨_,g,f⟩:=h c WU;.cons (.lst g f) (PL λn l=>h n (WT _ l))
theorem Fi{K:ZT}{F:Hp}{C:Addr}{xs:Yc}:∀{b:List (Addr×List (Addr×List D))},(∀w∈b,xs.length=w.2.length/\(∃dx,F w.1=some (.ins C dx<|xs.zip (w.2.map λc=>V.ref c.1)))/\∀c∈w.2,∃vs,F c.1=some (.lst vs)/\Rps K F c.2 vs)->Rps K F (b.map λw=>.ins C xs (w.2.map λc=>.lst c.2)) (b.map λw=>V.ref w.1)
 |[],_=>.nil
 |w::b,h=>let ⟨l,⟨_,n⟩,g⟩:=h w WU;.cons (.ins n (by rw[Wv];exact l)<|PL g) (Fi λf hw=>h f (WT _ hw))
def OR.rpIn {K F B H a o} (q:Same F B) (n:∀b,o.adr a b->∀x,H b=some x->B b=some x) (h:OR K F H a o):Rp K B o.d (.ref a):=by
 cases o with
 |lst E=>obtain⟨s,g,f⟩:=h;exact .lst (n _ rfl _ g) (Rps.mono q f)
 |dK z=>exact .dK (n _ rfl _ h)
 |dT z=>exact .dT (n _ rfl _ h)
 |lsA x E=>obtain⟨rfl,s,g,f⟩:=h;exact .lst (n _ rfl _ g) (Rps.mono q f)
 |nsl x G=>
  obtain⟨e,g,f,y⟩:=h;exact .lst (n _ (.inl e) _ g) (PL λc p=>let ⟨s,v,u⟩:=f c p;⟨s,n _ (.inr ⟨c,p,rfl⟩) _ v,Rps.mono q u⟩)
 |vls x C xs M=>
  obtain⟨e,g,f,y⟩:=h;refine .lst (n _ (.inl e) _ g) (Fi λw hw=>?_);obtain⟨l,⟨A,L⟩,J⟩:=f w hw;exact⟨l,⟨A,n _ (.inr ⟨w,hw,.inl rfl⟩) _ L⟩,λc p=>let ⟨s,v,u⟩:=J c p;⟨s,n _ (.inr ⟨w,hw,.inr ⟨c,p,rfl⟩⟩) _ v,Rps.mono q u⟩⟩
 |er l C r=>obtain⟨A,g,f,y⟩:=h;exact .erM (q _ _ g) (q _ _ f) (n _ rfl _ y)
 |tl x E i=>obtain⟨g,s,f,y⟩:=h;exact .tup (q _ _ g) (.cons (.lst (n _ rfl _ f)<|Rps.mono q y)<|.cons (.int i) .nil)
 |nst G=>
  obtain⟨g,f,y⟩:=h;exact .tup (q _ _ g) (PL λc p=>let ⟨s,v,u⟩:=f c p;⟨s,n _ ⟨c,p,rfl⟩ _ v,Rps.mono q u⟩)
 |ins x C xs G=>
  obtain⟨e,l,⟨A,g⟩,f,y⟩:=h;exact .ins (n _ (.inl e) _ g) (by grind) (PL λc p=>let ⟨s,v,u⟩:=f c p;⟨s,n _ (.inr ⟨c,p,rfl⟩) _ v,Rps.mono q u⟩)
def OR.rp {K F H a o} (b:Same F H) (h:OR K F H a o):Rp K H o.d (.ref a):=h.rpIn b λ_ _ _ e=>e
def OR.mut {K F H a o} (h:OR K F H a o):∀b,o.adr a b->Mut (H b):=by
 cases o with
 |lst y=>obtain⟨u,n,g⟩:=h;intro b e;rw[show b=a from e,n];trivial
 |dK q=>intro b e;rw[show b=a from e,show H a=some (.dK q)from h];trivial
 |dT q=>intro b e;rw[show b=a from e,show H a=some (.dT q)from h];trivial
 |lsA x y=>obtain⟨rfl,u,n,g⟩:=h;intro b e;rw[show b=a from e,n];trivial
 |nsl x z=>
  obtain⟨e,n,g,v⟩:=h;intro b f;rcases f with f|⟨c,s,f⟩
  ·rw[show b=a from f.trans e.symm,n];trivial
  ·obtain⟨u,p,_⟩:=g c s;rw[f,p];trivial
 |vls x C xs G=>
  obtain⟨e,n,g,v⟩:=h;intro b f;rcases f with f|⟨w,hw,f|⟨c,s,f⟩⟩
  ·rw[show b=a from f.trans e.symm,n];trivial
  ·obtain⟨_,⟨E,B⟩,_⟩:=g w hw;rw[f,B];trivial
  ·obtain⟨_,_,A⟩:=g w hw;obtain⟨u,p,_⟩:=A c s;rw[f,p];trivial
 |er l C r=>obtain⟨_,_,_,v⟩:=h;intro b e;rw[show b=l from e,v];trivial
 |tl x y i=>obtain⟨_,u,g,_⟩:=h;intro b e;rw[show b=x from e,g];trivial
 |nst z=>
  obtain⟨n,g,v⟩:=h;rintro b ⟨c,s,f⟩;obtain⟨u,p,_⟩:=g c s;rw[f,p];trivial
 |ins x C xs z=>
  obtain⟨e,l,⟨E,n⟩,g,v⟩:=h;intro b f;rcases f with f|⟨c,s,f⟩
  ·rw[show b=a from f.trans e.symm,n];trivial
  ·obtain⟨u,p,_⟩:=g c s;rw[f,p];trivial
inductive S where
 |bor (d:D)|sh (d:D)|own (o:O)|view (o:O)|tmp (d:D)
abbrev Γ:=List (Option S)
noncomputable def D.strip:D->D
 | .loc _ d=>d|d=>d
def Rp.strip {K H d v} (h:Rp K H d v):Rp K H d.strip v:=by
 cases h with
 |loc h=>exact h
 |int i=>exact .int i
 |bl b=>exact .bl b
 |non=>exact .non
 |str x=>exact .str x
 |ty n=>exact .ty n
 |tup h r=>exact .tup h r
 |lst h r=>exact .lst h r
 |scr h=>exact .scr h
 |dK h=>exact .dK h
 |dT h=>exact .dT h
 |dF h=>exact .dF h
 |err h=>exact .err h
 |ref a=>exact .ref a
 |erM l g f=>exact .erM l g f
 |fL h=>exact .fL h
 |ins h e r=>exact .ins h e r
noncomputable def S.d:S->D
 | .bor d=>d.strip | .sh d=>d | .own o=>o.d | .view o=>o.d | .tmp d=>d
noncomputable def arg(d:D):S:=match imm d with|true=>.sh d|false=>.bor d
noncomputable def XI(d:D):S:=match imm d with|true=>.sh d|false=>.tmp d
noncomputable def S.sub:S->D->S
 | .bor _,e=>arg e | .tmp _,e=>XI e | .own (.nst _),e=>XI e | .view (.nst _),e=>XI e | .own (.nsl _ _),e=>XI e | .view (.nsl _ _),e=>XI e | .own (.vls _ _ _ _),e=>XI e | .view (.vls _ _ _ _),e=>XI e | .own (.tl _ _ _),e=>XI e | .view (.tl _ _ _),e=>XI e|_,e=>.sh e
noncomputable def S.shd:S->Option D
 | .sh d=>some d | .own o=>some o.d
 | .bor d=>match imm d with|true=>some d|false=>none
 | .tmp d=>match imm d with|true=>some d|false=>none
 | .view _=>none
noncomputable def S.slot:S->Option S
 | .view _=>none | .bor d=>some (.bor d) | .sh d=>some (.sh d) | .own b=>some (.own b)
 | .tmp d=>match imm d with|true=>some (.sh d)|false=>none
def Md(h:Γ)(g:L2.St)(b:Addr):Prop:=∃(i:Nat) (f:O) (a:Addr),h[i]?=some (some<|.own f)/\g[i]?=some (some<|.ref a)/\f.adr a b
def zof(B:Addr->Prop)(g:Γ)(f:L2.St):Addr->Prop:=λb=>B b\/Md g f b
def SV(K:ZT)(Z:Addr->Prop)(H0 H:Hp):S->V->Prop
 | .bor d,v=>Rp K H0 d v
 | .sh d,v=>Rp K (off Z H) d v
 | .own o,v=>∃a,v=.ref a/\(∀b,o.adr a b->H0 b=none)/\OR K (off Z H) H a o
 |_,_=>False
def TV(K:ZT)(Z:Addr->Prop)(H0 H H':Hp):S->V->Prop
 | .bor d,v=>Rp K H0 d v
 | .sh d,v=>Rp K (off Z H') d v
 | .own o,v=>∃a,v=.ref a/\(∀b,o.adr a b->H b=none)/\OR K (off (λb=>Z b\/o.adr a b) H') H' a o
 | .view o,v=>∃a,v=.ref a/\OR K (off Z H') H' a o
 | .tmp d,v=>Rp K H' d v
structure Xd (K:ZT) (H0:Hp) (B:Addr->Prop) (H:Hp) (σ:L2.St) (γ:Γ):Prop where
 same:Same H0 H
 len:σ.length=γ.length
 bm:∀b,B b->Mut (H b)
 own:∀(i j:Nat) (a a':Addr) (ds es:O) (b:Addr),γ[i]?=some (some<|.own ds)->γ[j]?=some (some<|.own es)->σ[i]?=some (some<|.ref a)->σ[j]?=some (some<|.ref a')->ds.adr a b->es.adr a' b->i=j
 slot:∀(i:Nat) (s:S),γ[i]?=some (some s)->∃v,σ[i]?=some (some v)/\SV K (zof B γ σ) H0 H s v
section
variable {K:ZT}{H0 H H1 H':Hp}{B Z Z':Addr->Prop}{σ:L2.St}{γ:Γ}
def P7(S:Same H H'){b}(h:Mut (H b)):Mut (H' b):=by
 cases e:H b with
 |none=>rw[e]at h;exact h.elim
 |some o=>rw[S b o e,←e];exact h
def Sr(h:Mut (H b)):∃o,H b=some o:=by
 cases e:H b with
 |none=>rw[e]at h;exact h.elim
 |some o=>grind
def Xd.grow (E:Xd K H0 B H σ γ) (S:Same H H'):Xd K H0 B H' σ γ where
 same:=E.same.trans S
 len:=E.len
 bm b h:=P7 S (E.bm b h)
 own:=E.own
 slot i s h:=by
  obtain⟨v,h1,h2⟩:=E.slot i s h;refine⟨v,h1,?_⟩;cases s with
  |bor d=>trivial
  |sh d=>exact Rp.mono (Xm S λ_ _ _ z=>z) h2
  |own ds=>
   obtain⟨a,e1,e3,e4⟩:=h2;exact⟨a,e1,e3,e4.mono (Xm S λ_ _ _ z=>z) λb _ x=>S b x⟩
  |_=>exact h2
def Xd.zm (E:Xd K H0 B H σ γ):∀b,zof B γ σ b->Mut (H b):=λb h=>by
 rcases h with h|⟨i,r,x,n,l,g⟩
 ·exact E.bm b h
 ·obtain⟨v,f,a,p,q,o⟩:=E.slot i _ n;rw[l]at f;cases f
  cases p
  exact o.mut b g
def TV.rp (b:Same H0 H') (h:TV K Z H0 H H' s v):Rp K H' s.d v:=by
 cases s with
 |bor d=>exact(Rp.mono b h).strip
 |sh d=>exact Rp.mono off_sub h
 |own f=>
  obtain⟨a,rfl,_,r⟩:=h;exact r.rp off_sub
 |view f=>
  obtain⟨a,rfl,r⟩:=h;exact r.rp off_sub
 |tmp d=>exact h
def TV.grow (f:Same H' H1) (h:TV K Z H0 H H' s v):TV K Z H0 H H1 s v:=by
 cases s with
 |bor d=>exact h
 |sh d=>exact Rp.mono (Xm f λ_ _ _ z=>z) h
 |own l=>
  obtain⟨a,rfl,g,r⟩:=h;exact⟨a,rfl,g,r.mono (Xm f λ_ _ _ z=>z) λb _ x=>f b x⟩
 |view l=>
  obtain⟨a,rfl,r⟩:=h;exact⟨a,rfl,r.mono (Xm f λ_ _ _ z=>z) λb _ x=>f b x⟩
 |tmp d=>exact Rp.mono f h
def TV.weak (o:Same H H1) (f:∀b,Z b->Z' b) (h:TV K Z' H0 H1 H' s v):TV K Z H0 H H' s v:=by
 cases s with
 |sh d=>exact Rp.mono (Xm (Same.refl _) λb _ _ z y=>z (f b y)) h
 |own n=>
  obtain⟨a,rfl,l,r⟩:=h;exact⟨a,rfl,λb g=>o.free (l b g),r.mono (Xm (Same.refl _) λb _ _ z y=>z (y.imp (f b) id)) λ_ _ _ q=>q⟩
 |view n=>
  obtain⟨a,rfl,r⟩:=h;exact⟨a,rfl,r.mono (Xm (Same.refl _) λb _ _ z y=>z (f b y)) λ_ _ _ q=>q⟩
 |_=>exact h
def TV.shd (o:Same H0 H') (l:∀b,Z b->Mut (H b)) (w:Same H H') (h:TV K Z H0 H H' s v) (e:s.shd=some d):Rp K (off Z H') d v:=by
 have f:=λb z=>P7 w (l b z);cases s with
 |bor g=>
  unfold S.shd at e;cases q:imm g with
  |false=>simp_all
  |true=>
   simp[q]at e;subst e;exact Rp.off f (Rp.mono o h) q
 |sh g=>cases e;exact h
 |own u=>
  cases e
  obtain⟨a,rfl,p,r⟩:=h;exact r.rpIn (Xm (Same.refl _) λb _ _ z y=>z (.inl y)) λb n x e=>X8 e λz=>by have:=l _ z;rw[p b n]at this;exact this
 |view u=>cases e
 |tmp g=>
  unfold S.shd at e;cases q:imm g with
  |false=>simp[q]at e
  |true=>
   simp[q]at e;subst e;exact Rp.off f h q
def NQ(f:∀b,Z b->Mut (H' b))(g:Same H0 H')(h:Rp K H0 d v):TV K Z H0 H H' (arg d) v:=by
 unfold arg;cases q:imm d with
 |true=>exact Rp.off f (Rp.mono g h) q
 |false=>exact h
def K6(f:∀b,Z b->Mut (H' b))(h:Rp K H' d v):TV K Z H0 H H' (XI d) v:=by
 unfold XI;cases q:imm d with
 |true=>exact Rp.off f h q
 |false=>exact h
def Rp.lst_inv (h:Rp K H (.lst ds) v):∃a vs,v=.ref a/\H a=some (.lst vs)/\Rps K H ds vs:=by
 cases h with
 |lst h r=>grind
def Rp.tup_inv (h:Rp K H (.tup ds) v):∃a vs,v=.ref a/\H a=some (.tup vs)/\Rps K H ds vs:=by
 cases h with
 |tup h r=>grind
def TV.part (Q:Same H0 H') (hm:∀b,Z b->Mut (H b)) (S1:Same H H') (h:TV K Z H0 H H' s v) :
  (∀ds,s.d=.lst ds->∃a vs,v=.ref a/\H' a=some (.lst vs)/\vs.length=ds.length/\∀(i:Nat) d,ds[i]?=some d->∃u,vs[i]?=some u/\TV K Z H0 H H' (s.sub d) u)/\
  (∀ds,s.d=.tup ds->∃a vs,v=.ref a/\H' a=some (.tup vs)/\vs.length=ds.length/\∀(i:Nat) d,ds[i]?=some d->∃u,vs[i]?=some u/\TV K Z H0 H H' (s.sub d) u):=by
 have o:=λb z=>P7 S1 (hm b z);cases s with
 |bor d=>
  have h:=Rp.strip h;refine⟨λds e=>?_,λds e=>?_⟩<;>rw[show d.strip=_ from e]at h
  ·obtain⟨a,vs,rfl,h,r⟩:=Rp.lst_inv h;exact⟨_,_,rfl,Q _ _ h,r.len,λi d e=>let ⟨u,g,f⟩:=r.get e;⟨u,g,NQ o Q f⟩⟩
  ·obtain⟨a,vs,rfl,h,r⟩:=Rp.tup_inv h;exact⟨_,_,rfl,Q _ _ h,r.len,λi d e=>let ⟨u,g,f⟩:=r.get e;⟨u,g,NQ o Q f⟩⟩
 |sh d=>
  refine⟨λds e=>?_,λds e=>?_⟩<;>(have Y:=e;subst Y)
  ·obtain⟨a,vs,rfl,h,r⟩:=Rp.lst_inv h;exact⟨_,_,rfl,off_sub _ _ h,r.len,λi d e=>r.get e⟩
  ·obtain⟨a,vs,rfl,h,r⟩:=Rp.tup_inv h;exact⟨_,_,rfl,off_sub _ _ h,r.len,λi d e=>r.get e⟩
 |own J=>
  cases J with
  |lst J=>
   refine⟨λds e=>?_,λds e=>by cases e⟩;cases e
   obtain⟨a,rfl,N,vs,e,r⟩:=h;exact⟨a,vs,rfl,e,r.len,λi d e=>let ⟨u,g,f⟩:=r.get e;⟨u,g,Rp.mono (Xm (Same.refl _) λb _ _ z y=>z (.inl y)) f⟩⟩
  |lsA x J=>
   refine⟨λds e=>?_,λds e=>by cases e⟩;cases e
   obtain⟨a,rfl,N,_,vs,e,r⟩:=h;exact⟨a,vs,rfl,e,r.len,λi d e=>let ⟨u,g,f⟩:=r.get e;⟨u,g,Rp.mono (Xm (Same.refl _) λb _ _ z y=>z (.inl y)) f⟩⟩
  |nsl x cs=>
   refine⟨λds e=>?_,λds e=>by cases e⟩;cases e
   obtain⟨a,rfl,N,_,q,p,L⟩:=h;have r:=PL λc G=>let ⟨vs,E,A⟩:=p c G;⟨vs,E,Rps.mono off_sub A⟩;exact⟨a,_,rfl,q,r.len,λi d e=>let ⟨u,g,f⟩:=r.get e;⟨u,g,K6 o f⟩⟩
  |vls x C xs M=>
   refine⟨λds e=>?_,λds e=>by cases e⟩;cases e
   obtain⟨a,rfl,N,_,q,p,L⟩:=h;have r:Rps K H' (M.map λw=>D.ins C xs (w.2.map λc=>D.lst c.2)) (M.map λw=>V.ref w.1):=Fi λw hw=>let ⟨l,U,T⟩:=p w hw;⟨l,U,λc G=>let ⟨vs,E,A⟩:=T c G;⟨vs,E,Rps.mono off_sub A⟩⟩;exact⟨a,_,rfl,q,r.len,λi d e=>let ⟨u,g,f⟩:=r.get e;⟨u,g,K6 o f⟩⟩
  |er l C r=>exact⟨(λds e=>by cases e),(λds e=>by cases e)⟩
  |tl x J n=>
   refine⟨(λds e=>by cases e),λds e=>?_⟩;cases e
   obtain⟨a,rfl,N,q,vs,p,L⟩:=h;have r:Rps K H' [D.lst J,.int n] [V.ref x,.int n]:=.cons (.lst p<|Rps.mono off_sub L) (.cons (.int n) .nil);exact⟨a,_,rfl,off_sub _ _ q,r.len,λi d e=>let ⟨u,g,f⟩:=r.get e;⟨u,g,K6 o f⟩⟩
  |nst cs=>
   refine⟨(λds e=>by cases e),λds e=>?_⟩;cases e
   obtain⟨a,rfl,N,q,p,L⟩:=h;have r:=PL λc G=>let ⟨vs,E,A⟩:=p c G;⟨vs,E,Rps.mono off_sub A⟩;exact⟨a,_,rfl,off_sub _ _ q,r.len,λi d e=>let ⟨u,g,f⟩:=r.get e;⟨u,g,K6 o f⟩⟩
  |_=>exact⟨(λds e=>by cases e),(λds e=>by cases e)⟩
 |view J=>
  cases J with
  |lst J=>
   refine⟨λds e=>?_,λds e=>by cases e⟩;cases e
   obtain⟨a,rfl,vs,e,r⟩:=h;exact⟨a,vs,rfl,e,r.len,λi d e=>r.get e⟩
  |lsA x J=>
   refine⟨λds e=>?_,λds e=>by cases e⟩;cases e
   obtain⟨a,rfl,_,vs,e,r⟩:=h;exact⟨a,vs,rfl,e,r.len,λi d e=>r.get e⟩
  |nsl x cs=>
   refine⟨λds e=>?_,λds e=>by cases e⟩;cases e
   obtain⟨a,rfl,_,q,p,L⟩:=h;have r:=PL λc G=>let ⟨vs,E,A⟩:=p c G;⟨vs,E,Rps.mono off_sub A⟩;exact⟨a,_,rfl,q,r.len,λi d e=>let ⟨u,g,f⟩:=r.get e;⟨u,g,K6 o f⟩⟩
  |vls x C xs M=>
   refine⟨λds e=>?_,λds e=>by cases e⟩;cases e
   obtain⟨a,rfl,_,q,p,L⟩:=h;have r:Rps K H' (M.map λw=>D.ins C xs (w.2.map λc=>D.lst c.2)) (M.map λw=>V.ref w.1):=Fi λw hw=>let ⟨l,U,T⟩:=p w hw;⟨l,U,λc G=>let ⟨vs,E,A⟩:=T c G;⟨vs,E,Rps.mono off_sub A⟩⟩;exact⟨a,_,rfl,q,r.len,λi d e=>let ⟨u,g,f⟩:=r.get e;⟨u,g,K6 o f⟩⟩
  |er l C r=>exact⟨(λds e=>by cases e),(λds e=>by cases e)⟩
  |tl x J n=>
   refine⟨(λds e=>by cases e),λds e=>?_⟩;cases e
   obtain⟨a,rfl,q,vs,p,L⟩:=h;have r:Rps K H' [D.lst J,.int n] [V.ref x,.int n]:=.cons (.lst p<|Rps.mono off_sub L) (.cons (.int n) .nil);exact⟨a,_,rfl,off_sub _ _ q,r.len,λi d e=>let ⟨u,g,f⟩:=r.get e;⟨u,g,K6 o f⟩⟩
  |nst cs=>
   refine⟨(λds e=>by cases e),λds e=>?_⟩;cases e
   obtain⟨a,rfl,q,p,L⟩:=h;have r:=PL λc G=>let ⟨vs,E,A⟩:=p c G;⟨vs,E,Rps.mono off_sub A⟩;exact⟨a,_,rfl,off_sub _ _ q,r.len,λi d e=>let ⟨u,g,f⟩:=r.get e;⟨u,g,K6 o f⟩⟩
  |_=>exact⟨(λds e=>by cases e),(λds e=>by cases e)⟩
 |tmp d=>
  refine⟨λds e=>?_,λds e=>?_⟩<;>(have Y:=e;subst Y)
  ·obtain⟨a,vs,rfl,h,r⟩:=Rp.lst_inv h;exact⟨_,_,rfl,h,r.len,λi d e=>let ⟨u,g,f⟩:=r.get e;⟨u,g,K6 o f⟩⟩
  ·obtain⟨a,vs,rfl,h,r⟩:=Rp.tup_inv h;exact⟨_,_,rfl,h,r.len,λi d e=>let ⟨u,g,f⟩:=r.get e;⟨u,g,K6 o f⟩⟩
def Fr(B:Addr->Prop)(H:Hp)(σ:L2.St)(γ:Γ)(H':Hp)(f:L2.St)(g:Γ):Prop:=∀b o,H b=some o->¬zof B γ σ b->H' b=some o/\¬zof B g f b
def Fr.refl:Fr B H σ γ H σ γ:=λ_ _ h z=>⟨h,z⟩
def Fr.trans {H1 p g f n l} (a:Fr B H σ γ H1 g n) (b:Fr B H1 g n p f l):Fr B H σ γ p f l:=λx o h z=>let ⟨r,q⟩:=a x o h z;b x o r q
def Fr.grow (b:Same H H'):Fr B H σ γ H' σ γ:=λ_ _ h z=>⟨b _ _ h,z⟩
def Fr.off {H'}{σ'}{γ'} (f:Fr B H σ γ H' σ' γ'):Same (off (zof B γ σ) H) (Pu.off (zof B γ' σ') H'):=λb o h=>by
 obtain⟨p,n⟩:=P6 h;obtain⟨l,g⟩:=f b o p n;exact X8 l g
def X3{b:Type}{l:List b}{i j}{x y}(h:(l.set i x)[j]?=some y):(j=i/\x=y/\i<l.length)\/(j≠i/\l[j]?=some y):=by grind
def Bu{b:Type}{l:List b}{i}{x}(h:i<l.length):(l.set i x)[i]?=some x:=by grind
def KP{b:Type}{l:List b}{i j}{x}(h:j≠i):(l.set i x)[j]?=l[j]?:=by grind
def Xd.drop (E:Xd K H0 B H σ γ) (i:Nat):Xd K H0 B H σ (γ.set i none)/\Fr B H σ γ H σ (γ.set i none):=by
 have p:∀b,zof B (γ.set i none) σ b->zof B γ σ b:=λb z=>z.imp id λ⟨j,l,a,g,f,u⟩=>by
  rcases X3 g with⟨_,e,_⟩|⟨_,e⟩
  ·grind
  ·exact⟨j,l,a,e,f,u⟩
 refine⟨⟨E.same,by rw[Qy];exact E.len,E.bm,λk j a G l w b g f=>?_,λk s h=>?_⟩,λb o h z=>⟨h,λy=>z (p b y)⟩⟩
 ·rcases X3 g with⟨_,e,_⟩|⟨_,n⟩
  ·cases e
  ·rcases X3 f with⟨_,e,_⟩|⟨_,C⟩
   ·cases e
   ·exact E.own k j a G l w b n C
 ·rcases X3 h with⟨_,e,_⟩|⟨_,e⟩
  ·cases e
  ·obtain⟨v,g,f⟩:=E.slot k s e;refine⟨v,g,?_⟩;have r:Same (Pu.off (zof B γ σ) H) (Pu.off (zof B (γ.set i none) σ) H):=Xm (Same.refl _) λb _ _ z y=>z (p b y);cases s with
   |sh d=>exact Rp.mono r f
   |own l=>
    obtain⟨a,n,A,x⟩:=f;exact⟨a,n,A,x.mono r λ_ _ _ q=>q⟩
   |_=>exact f
def Xd.put {s s'}{v} (E:Xd K H0 B H σ γ) (S1:Same H H') (h:TV K (zof B γ σ) H0 H H' s v) (e:s.slot=some s') (hi:i<γ.length) :
  Xd K H0 B H' (σ.set i<|some v) (γ.set i<|some s')/\Fr B H σ γ H' (σ.set i<|some v) (γ.set i<|some s'):=by
 have n:i<σ.length:=by rw[E.len];exact hi
 have E':=E.grow S1
 have isown:∀f,s'=.own f->s=.own f:=λf q=>by
  subst q;cases s with
  |own J=>cases e;rfl
  |tmp d=>unfold S.slot at e;cases q:imm d<;>simp[q]at e
  |_=>cases e
 have l:∀b,zof B (γ.set i<|some s') (σ.set i<|some v) b->zof B γ σ b\/∃f a,s=.own f/\v=.ref a/\f.adr a b:=λb z=>by
  rcases z with z|⟨j,f,a,h1,G,A⟩
  ·exact .inl (.inl z)
  ·rcases X3 h1 with⟨U,g,_⟩|⟨Q,g⟩
   ·subst U;rw[Bu n]at G
    have:=WL g
    exact .inr ⟨f,a,isown f this,WL (WL G),A⟩
   ·rw[KP Q]at G;exact .inl (.inr ⟨j,f,a,g,G,A⟩)
 have fresh:∀f a b,s=.own f->v=.ref a->f.adr a b->H b=none:=λf a b J ev p=>by
  subst J;obtain⟨Y,g,e0,_⟩:=h;rw[ev]at g;cases g
  exact e0 b p
 have hz:∀b o,H b=some o->¬zof B γ σ b->¬zof B (γ.set i<|some s') (σ.set i<|some v) b:=λb o p z y=>by
  rcases l b y with y|⟨f,a,y1,y2,y3⟩
  ·exact z y
  ·rw[fresh f a b y1 y2 y3]at p;cases p
 have So:=Xm S1 hz;refine⟨⟨E'.same,by rw[Qy,Qy];exact E.len,E'.bm,λk j a Y f J b h1 G A L h5 h6=>?_,λk u hk=>?_⟩,λb o p z=>⟨S1 b o p,hz b o p z⟩⟩
 ·have N:∀(k:Nat) f a b,γ[k]?=some (some<|.own f)->σ[k]?=some (some<|.ref a)->f.adr a b->∃o,H b=some o:=λk f a b g C e3=>by
   obtain⟨u,q1,Y,M,_,q3⟩:=E.slot k _ g;rw[C]at q1;cases q1
   cases M
   exact Sr (q3.mut b e3)
  rcases X3 h1 with⟨ek,g,_⟩|⟨nk,g⟩
  ·rcases X3 G with⟨U,C,_⟩|⟨Q,C⟩
   ·rw[ek,U]
   ·subst ek;rw[Bu n]at A;rw[KP Q]at L;obtain⟨o,T⟩:=N j J Y b C L h6;rw[fresh f a b (isown f<|WL g) (WL<|WL A) h5]at T;cases T
  ·rcases X3 G with⟨U,C,_⟩|⟨Q,C⟩
   ·subst U;rw[Bu n]at L;rw[KP nk]at A;obtain⟨o,T⟩:=N k f a b g A h5;rw[fresh J Y b (isown J<|WL C) (WL<|WL L) h6]at T;cases T
   ·rw[KP nk]at A;rw[KP Q]at L;exact E.own k j a Y f J b g C A L h5 h6
 ·rcases X3 hk with⟨ek,g,_⟩|⟨nk,g⟩
  ·subst ek
   have:=(WL g).symm
   subst this;refine⟨v,Bu n,?_⟩;cases s with
   |own f=>
    cases e
    obtain⟨a,rfl,e0,r⟩:=h;refine⟨a,rfl,λb p=>E.same.free (e0 b p),r.mono (Xm (Same.refl _) λb o _ z y=>?_) λ_ _ _ q=>q⟩;rcases l b y with y|⟨_,_,y1,y,y2⟩
    ·exact z (.inl y)
    ·cases y;cases y1;exact z (.inr y2)
   |sh d=>
    cases e
    refine Rp.mono (Xm (Same.refl _) λb o _ z y=>?_) h;rcases l b y with y|⟨_,_,y,_⟩
    ·exact z y
    ·cases y
   |bor d=>cases e;exact h
   |view d=>cases e
   |tmp d=>
    unfold S.slot at e;cases q:imm d with
    |false=>simp[q]at e
    |true=>
     simp[q]at e;subst e;refine Rp.off (λb y=>?_) h q;rcases l b y with y|⟨_,_,y,_⟩
     ·exact P7 S1 (E.zm b y)
     ·cases y
  ·obtain⟨w,q1,M⟩:=E.slot k u g;refine⟨w,by rw[KP nk];exact q1,?_⟩;cases u with
   |sh d=>exact Rp.mono So M
   |own f=>
    obtain⟨a,g,e3,e4⟩:=M;exact⟨a,g,e3,e4.mono So λb _ x=>S1 b x⟩
   |_=>exact M
noncomputable def frz(i:Nat)(γ:Γ):Γ:=match γ[i]? with
 |some (some<|.own o)=>γ.set i (some<|.sh o.d)
 |_=>γ
def Xd.frz (E:Xd K H0 B H σ γ) (hB:∀b,B b->∃o,H0 b=some o) (i:Nat):Xd K H0 B H σ (frz i γ)/\Fr B H σ γ H σ (Pu.frz i γ):=by
 unfold Pu.frz;split
 ·rename_i p J
  have G:∀b,zof B (γ.set i<|some<|.sh p.d) σ b->zof B γ σ b:=λb z=>z.imp id λ⟨j,l,a,g,f,L⟩=>by
   rcases X3 g with⟨_,e,_⟩|⟨_,e⟩
   ·cases e
   ·exact⟨j,l,a,e,f,L⟩
  have C:Same (Pu.off (zof B γ σ) H) (Pu.off (zof B (γ.set i<|some<|.sh p.d) σ) H):=Xm (Same.refl _) λb _ _ z y=>z (G b y);refine⟨⟨E.same,by rw[Qy];exact E.len,E.bm,λk j a A l r b g f=>?_,λk s h=>?_⟩,λb o h z=>⟨h,λy=>z (G b y)⟩⟩
  ·rcases X3 g with⟨_,e,_⟩|⟨_,n⟩
   ·cases e
   ·rcases X3 f with⟨_,e,_⟩|⟨_,w⟩
    ·cases e
    ·exact E.own k j a A l r b n w
  ·rcases X3 h with⟨T,e,_⟩|⟨Y,e⟩
   ·subst T
    have:=WL e
    subst this;obtain⟨v,g,a,rfl,L,Q⟩:=E.slot k _ J;refine⟨_,g,Q.rpIn C λb N x f=>X8 f λz=>?_⟩;rcases z with z|⟨j,l,A,n,w,u⟩
    ·grind
    ·rcases X3 n with⟨_,q,_⟩|⟨M,q⟩
     ·cases q
     ·exact M (E.own j k A a l p b q J w g u N)
   ·obtain⟨v,g,f⟩:=E.slot k s e;refine⟨v,g,?_⟩;cases s with
    |sh d=>exact Rp.mono C f
    |own p=>
     obtain⟨a,n,u,U⟩:=f;exact⟨a,n,u,U.mono C λ_ _ _ q=>q⟩
    |_=>exact f
 ·exact⟨E,Fr.refl⟩
def Xd.change {o o'} (E:Xd K H0 B H σ γ) (M:γ[i]?=some (some<|.own o)) (A:σ[i]?=some (some<|.ref a))
  (N:∀b x,H b=some x->¬o.adr a b->H' b=some x) (hm:∀b,o.adr a b->Mut (H' b)) (l:∀b,o'.adr a b->o.adr a b\/H b=none) (r:OR K (Pu.off (zof B (γ.set i<|some<|.own o') σ) H') H' a o') :
  Xd K H0 B H' σ (γ.set i<|some<|.own o')/\Fr B H σ γ H' σ (γ.set i<|some<|.own o'):=by
 obtain⟨v,h1,a',rfl,h3,h4⟩:=E.slot i _ M;rw[A]at h1;cases h1
 have za:∀b,o.adr a b->zof B γ σ b:=λb C=>.inr ⟨i,o,a,M,A,C⟩
 have hz:∀b x,H b=some x->zof B (γ.set i<|some<|.own o') σ b->zof B γ σ b:=λb x hx z=>by
  rcases z with z|⟨j,fs,a',U,p,n⟩
  ·exact .inl z
  ·rcases X3 U with⟨T,q,_⟩|⟨_,e⟩
   ·subst T;cases q
    rw[A]at p;cases p
    rcases l b n with k|k
    ·exact za b k
    ·rw[k]at hx;cases hx
   ·exact .inr ⟨j,fs,a',e,p,n⟩
 have S1:=λb x h=>by
  obtain⟨g,f⟩:=P6 h;exact X8 (N b x g λk=>f (za b k)) λz=>f (hz b x g z)
 have J:∀(k:Nat) ds a b,γ[k]?=some (some<|.own ds)->σ[k]?=some (some<|.ref a)->ds.adr a b->∃o,H b=some o:=λk ds a b U p n=>by
  obtain⟨u,g,a',f,_,q3⟩:=E.slot k _ U;rw[p]at g;cases g
  cases f
  exact Sr (q3.mut b n)
 refine⟨⟨λb x h=>?_,by rw[Qy];exact E.len,λb C=>?_,λk j x x' fs Q b U p n G e5 e6=>?_,λk s h=>?_⟩,λb x h z=>⟨?_,λy=>z (hz b x h y)⟩⟩
 ·exact N b x (E.same b x h) λk=>by rw[h3 b k]at h;cases h
 ·by_cases k:o.adr a b
  ·exact hm b k
  ·have:=E.bm b C
   obtain⟨x,hx⟩:=Sr this;rwa[N b x hx k,←hx]
 ·rcases X3 U with⟨Y,g,_⟩|⟨nk,g⟩
  ·rcases X3 p with⟨T,_,_⟩|⟨nj,f⟩
   ·rw[Y,T]
   ·subst Y;cases g
    rw[A]at n;cases n
    rcases l b e5 with w|w
    ·exact E.own k j _ _ _ _ b M f A G w e6
    ·obtain⟨u,L⟩:=J j Q x' b f G e6;rw[w]at L;cases L
  ·rcases X3 p with⟨T,f,_⟩|⟨nj,f⟩
   ·subst T;cases f
    rw[A]at G;cases G
    rcases l b e6 with w|w
    ·exact E.own k j _ _ _ _ b g M n A e5 w
    ·obtain⟨u,L⟩:=J k fs x b g n e5;rw[w]at L;cases L
   ·exact E.own k j x x' fs Q b g f n G e5 e6
 ·rcases X3 h with⟨Y,e,_⟩|⟨nk,e⟩
  ·subst Y
   have:=WL e
   subst this;exact⟨_,A,a,rfl,λb C=>(l b C).elim (h3 b) λw=>E.same.free w,r⟩
  ·obtain⟨v,g,f⟩:=E.slot k s e;refine⟨v,g,?_⟩;cases s with
   |sh d=>exact Rp.mono S1 f
   |own fs=>
    obtain⟨x,rfl,n,G⟩:=f;exact⟨x,rfl,n,G.mono S1 λb C y p=>N b y p λw=>nk (E.own k i x a fs o b e M g A C w)⟩
   |_=>exact f
 ·exact N b x h λk=>z (za b k)
def Xd.mutate {i:Nat}{a:Addr}{ds es:O}{us:HO} (E:Xd K H0 B H σ γ) (u:γ[i]?=some (some<|.own ds)) (f:σ[i]?=some (some<|.ref a)) (w:Mut (some us)) (r:∀F H':Hp,Same (Pu.off (zof B γ σ) H) F->H' a=some us->OR K F H' a es)
  (k1:autoParam (ds.adr a=λb=>b=a) au_0) (k2:autoParam (es.adr a=λb=>b=a) au_0) :
  Xd K H0 B (upd H a us) σ (γ.set i<|some<|.own es)/\Fr B H σ γ (upd H a us) σ (γ.set i<|some<|.own es):=by
 refine E.change (o:=ds) (o':=es) u f (λb x h n=>by rw[Xa (λz=>n (by rw[k1];exact z))];exact h) (λb h=>by rw[k1]at h;rw[show b=a from h,Xk];exact w) (λb h=>.inl (by rw[k1];rw[k2]at h;exact h)) (r _ _ ?_ Xk)
 intro b x h;obtain⟨v,p⟩:=P6 h;have s:b≠a:=λz=>p (.inr ⟨i,ds,a,u,f,by rw[k1];exact z⟩);refine X8 (by rw[Xa s];exact v) λz=>p ?_;rcases z with z|⟨j,fs,C,A,l,g⟩
 ·exact .inl z
 ·rcases X3 A with⟨y,q,_⟩|⟨_,e⟩
  ·subst y;cases q
   rw[f]at l;cases l
   rw[k2]at g;exact absurd g s
  ·exact .inr ⟨j,fs,C,e,l,g⟩
end
end Pu
namespace Pu
open PySem PySem.Spec PyProof.Rows L2 Own
abbrev XR:=Str->Prop
noncomputable def eI:Int->Nat
 | .ofNat n=>2*n
 | .negSucc n=>2*n+1
noncomputable def dI(n:Nat):Int:=if n % 2=0 then .ofNat (n / 2)else .negSucc (n / 2)
def Ze7:∀i,dI (eI i)=i
 | .ofNat n=>by
  show dI (2*n)=_;unfold dI;simp
 | .negSucc n=>by
  show dI (2*n+1)=_;unfold dI;lia
noncomputable def T3(r:ZV):Str:=⟨(0::r.map eI).toArray⟩
noncomputable def Zf5:Ya->Option (ZV)
 | 0::t=>some (t.map dI)
 |_=>none
noncomputable def Sf(x:Str):Option (ZV):=Zf5 x.cps.toList
def MP(r:ZV):Sf (T3 r)=some r:=by
 show some ((r.map eI).map dI)=some r;rw[Qe];congr 1
 conv=>rhs;rw[←List.map_id r]
 exact Vc λi _=>Ze7 i
def XE(f:ZX)(E:XK)(c:Str)(H':Hp):Prop:=match Sf c with
 |none=>E (.ref<|ExcR.Xe f c) none H'
 |some r=>∀b l:Addr,H' b=none->H' l=none->b≠l->E (.ref<|ExcR.Xe f "Ringed") (some b) (upd (upd H' l<|.lst<|r.map V.int) b<|.xd [("members",.ref l)])
def XE.plain {c H'} (f:Sf c=none) (h:XE b E c H'):E (.ref<|ExcR.Xe b c) none H':=by
 unfold XE at h;simp_all
def XE.mem {b:ZX}{E:XK}{r:ZV}{H':Hp} (h:XE b E (T3 r) H') {dx l:Addr} (n:H' dx=none) (g:H' l=none) (f:dx≠l) :
  E (.ref<|ExcR.Xe b "Ringed") (some dx) (upd (upd H' l<|.lst<|r.map V.int) dx<|.xd [("members",.ref l)]):=by
 unfold XE at h;rw[MP]at h;exact h dx l n g f
def XE.ofM {b:ZX}{E:XK}{r:ZV}{H':Hp} (h:∀dx l:Addr,H' dx=none->H' l=none->dx≠l->E (.ref<|ExcR.Xe b "Ringed") (some dx) (upd (upd H' l<|.lst<|r.map V.int) dx<|.xd [("members",.ref l)])):XE b E (T3 r) H':=by
 unfold XE;rw[MP];exact h
abbrev PTE:=Γ->(S->Prop)->XR->Prop
abbrev PTT:=Γ->(Bool->Prop)->XR->Prop
abbrev PTA:=Γ->(List S->Prop)->XR->Prop
abbrev PTO:=Γ->(Option Int->Prop)->XR->Prop
structure Ni where
 nx:Γ->Prop
 rt:S->Prop
 ex:Γ->Str->Prop
 bk:Γ->Prop:=λ_=>False
 ct:Γ->Prop:=λ_=>False
 rv:Γ->D->Prop:=λ_ _=>False
abbrev PTS:=Ni->Γ->Prop
abbrev PTG:=S->Γ->(Γ->Prop)->Prop
abbrev N3:=List S->Γ->(Γ->Prop)->Prop
inductive TVs (K:ZT) (Z:Addr->Prop) (H0 H H':Hp):List S->List V->Prop
 |nil:TVs K Z H0 H H' [] []
 |cons {s:S} {v:V} {ss:List S} {vs:List V}:TV K Z H0 H H' s v->TVs K Z H0 H H' ss vs->TVs K Z H0 H H' (s::ss) (v::vs)
section
variable (K:ZT) (mg:ZX) (E:L2.St->XK)
def UX(t:TE)(p:PTE):Prop:=∀(h:Hp) (B:Addr->Prop) (H:Hp) (f:L2.St) (g:Γ) (R:S->Prop) (X:XR) (Q:VK),Xd K h B H f g->p g R X->
 (∀s v b,R s->Same H b->TV K (zof B g f) h H b s v->Q v b)->(∀c b,X c->Same H b->XE mg (E f) c b)->t f H Q
def Ka(t:TT)(p:PTT):Prop:=∀(l:Hp) (B:Addr->Prop) (H:Hp) (g:L2.St) (h:Γ) (R:Bool->Prop) (X:XR) (Q:Bool->Hp->Prop),Xd K l B H g h->p h R X->
 (∀b f,R b->Same H f->Q b f)->(∀c f,X c->Same H f->XE mg (E g) c f)->t g H Q
def Xq(t:TA)(p:PTA):Prop:=∀(n:Hp) (B:Addr->Prop) (H:Hp) (f:L2.St) (g:Γ) (R:List S->Prop) (X:XR) (Q:List V->Hp->Prop),Xd K n B H f g->p g R X->
 (∀l h b,R l->Same H b->TVs K (zof B g f) n H b l h->Q h b)->(∀c b,X c->Same H b->XE mg (E f) c b)->t f H Q
def SX(t:TO)(p:PTO):Prop:=∀(h:Hp) (B:Addr->Prop) (H:Hp) (f:L2.St) (g:Γ) (R:Option Int->Prop) (X:XR) (Q:Option Int->Hp->Prop),Xd K h B H f g->p g R X->
 (∀o b,R o->Same H b->Q o b)->(∀c b,X c->Same H b->XE mg (E f) c b)->t f H Q
structure By (H0:Hp) (B:Addr->Prop) (H:Hp) (σ:L2.St) (γ:Γ) (R:Ni) (D:Ends):Prop where
 nx:∀σ' γ' H',R.nx γ'->Xd K H0 B H' σ' γ'->Fr B H σ γ H' σ' γ'->D.nx σ' H'
 rt:∀s v H',R.rt s->Same H0 H'->TV K B H0 H0 H' s v->D.rt v H'
 ex:∀σ' γ' c H',R.ex γ' c->Xd K H0 B H' σ' γ'->Fr B H σ γ H' σ' γ'->XE mg (E σ') c H'
 bk:∀σ' γ' H',R.bk γ'->Xd K H0 B H' σ' γ'->Fr B H σ γ H' σ' γ'->D.bk σ' H'
 ct:∀σ' γ' H',R.ct γ'->Xd K H0 B H' σ' γ'->Fr B H σ γ H' σ' γ'->D.ct σ' H'
 rv:∀σ' γ' d v H',R.rv γ' d->Xd K H0 B H' σ' γ'->Fr B H σ γ H' σ' γ'->Rp K (off (zof B γ' σ') H') d v->D.rt v H'
def Xl(t:TS)(p:PTS):Prop:=∀(h:Hp) (B:Addr->Prop) (H:Hp) (f:L2.St) (g:Γ) (R:Ni) (D:Ends),(∀b,B b->∃o,h b=some o)->Xd K h B H f g->p R g->By K mg E h B H f g R D->t D f H
end
section
variable {K:ZT}{mg:ZX}{E:L2.St->XK}{H0 H H1 H':Hp}{B Z Z':Addr->Prop}{σ:L2.St}{γ:Γ}
def TVs.weakG {H1 f}:∀{ss}{vs:List V},Same H H1->TVs K Z H0 H1 f ss vs->TVs K Z H0 H f ss vs:=by
 intro ss
 induction ss with
 |nil=>
  intro _ _ h;cases h
  exact .nil
 |cons _ _ g=>
  intro _ b h;cases h with
  |cons h r=>
   exact .cons (TV.weak b (λ_ z=>z) h) (g b r)
def TVs.rps (f:Same H0 H'):∀{ss}{vs:List V},TVs K Z H0 H H' ss vs->Rps K H' (ss.map S.d) vs:=by
 intro ss
 induction ss with
 |nil=>
  intro _ h;cases h
  exact .nil
 |cons _ _ b=>
  intro _ h;cases h with
  |cons h r=>
   exact .cons (h.rp f) (b r)
theorem TVs.shd {ds:List D} (l:Same H0 H') (g:∀b,Z b->Mut (H b)) (n:Same H H'):∀{f vs}{ds:List D},TVs K Z H0 H H' f vs->f.map S.shd=ds.map some->Rps K (off Z H') ds vs
 |_,_,[],.nil,_=>.nil
 |_,_,_::_,.nil,e|_,_,[],.cons _ _,e=>by cases e
 |_,_,d::ds,.cons h r,e=>by
  rw[WQ,WQ,J0]at e;exact .cons (h.shd l g n e.1) (TVs.shd (ds:=ds) l g n r e.2)
def Rp.int_inv (h:Rp K H (.int i) v):v=.int i:=by cases h;rfl
def Rp.bl_inv (h:Rp K H (.bl b) v):v=.bl b:=by cases h;rfl
def Rp.str_inv (h:Rp K H (.str x) v):v=.str x:=by cases h;rfl
def Rp.non_inv (h:Rp K H .non v):v=.non:=by cases h;rfl
def Rp.ty_inv (h:Rp K H (.ty n) v):v=.ty n:=by cases h;rfl
noncomputable def AM(i:Nat):PTE:=λγ R _=>match γ[i]? with
 |some (some<|.own b)=>R (.view b)
 |some (some s)=>R s
 |_=>False
def UW(i:Nat):UX K mg E (KH i) (AM i):=by
 intro H0 B H σ γ R X Q b h q _;unfold AM at h;split at h
 ·rename_i n e;obtain⟨v,f,a,rfl,p,l⟩:=b.slot i _ e;exact⟨_,f,q _ _ H h (Same.refl _) ⟨a,rfl,l⟩⟩
 ·rename_i s o e;obtain⟨v,f,g⟩:=b.slot i _ e;refine⟨v,f,q _ _ H h (Same.refl _) ?_⟩;cases s with
  |bor d|sh d=>exact g
  |own n=>grind
  |_=>exact g.elim
 ·grind
noncomputable def pC(d:D):PTE:=λ_ R _=>R (.sh d)
def Bg(h:∀H,Rp K H d v):UX K mg E (tC v) (pC d):=by
 intro H0 B H σ γ R X Q b p q _;exact q _ _ H p (Same.refl _) (h _)
def Xp:UX K mg E (tC<|.int i) (pC<|.int i):=Bg λ_=>.int i
def B6:UX K mg E (tC<|.bl b) (pC<|.bl b):=Bg λ_=>.bl b
def LK:UX K mg E (tC<|.str x) (pC<|.str x):=Bg λ_=>.str x
def NV:UX K mg E (tC<|.ty n) (pC<|.ty n):=Bg λ_=>.ty n
noncomputable def p2(a b:PTE)(f:S->S->(S->Prop)->Prop):PTE:=λγ R X=>a γ (λx=>b γ (λy=>f x y R) X) X
def KN{A w a b f}(Y:UX K mg E A a)(U:UX K mg E w b)(N:∀H0 H h Z x y v u R Q,Same H0 h->Same H h->(∀b,Z b->Mut (H b))->TV K Z H0 H h x v->TV K Z H0 H h y u->f x y R->(∀s z H',R s->Same h H'->TV K Z H0 H H' s z->Q z H')->r v u h Q) :
  UX K mg E (tOp r A w) (p2 a b f):=by
 intro H0 B H σ γ R X Q l p q C;refine Y H0 B H σ γ _ X _ l p (λx v H1 h1 n L=>?_) C;have g:=l.grow n;refine U H0 B H1 σ γ _ X _ g h1 (λy u h h2 o J=>?_) λc H' T S'=>C c H' T (n.trans S');exact N H0 H h _ x y v u R Q (g.same.trans o) (n.trans o) l.zm (L.grow o) (TV.weak n (λ_ z=>z) J) h2 λs z H' M S3 G=>q s z H' M ((n.trans o).trans S3) G
def fI0(g:Int->Int->D):S->S->(S->Prop)->Prop:=λx y R=>match x.d,y.d with
 | .int i,.int j=>R (.sh<|g i j)
 |_,_=>False
def fI(C:Int->Int->Prop)(g:Int->Int->D):S->S->(S->Prop)->Prop:=λx y R=>match x.d,y.d with
 | .int i,.int j=>C i j/\R (.sh<|g i j)
 |_,_=>False
def SE{g'}{l f a b}(w:∀H i j,Rp K H (g' i j) (g i j))(A:UX K mg E l a)(z:UX K mg E f b):UX K mg E (tOp (rI0 g) l f) (p2 a b<|fI0 g'):=by
 refine KN A z λH0 H J Z x y v u R Q n L M s r h q=>?_;unfold fI0 at h;have p:=s.rp n;have o:=r.rp n;split at h
 ·rename_i i j G C;rw[G]at p;rw[C]at o;exact⟨i,j,p.int_inv,o.int_inv,q _ _ J h (Same.refl _) (w _ i j)⟩
 ·grind
def Dw{g r}{l f a b}(z:∀H i j,Rp K H (r i j) (g i j))(G:UX K mg E l a)(A:UX K mg E f b):UX K mg E (tOp (rI C g) l f) (p2 a b<|fI C r):=by
 refine KN G A λH0 H M Z x y v u R Q n N T w s h q=>?_;unfold fI at h;have p:=w.rp n;have o:=s.rp n;split at h
 ·rename_i i j L J;rw[L]at p;rw[J]at o;exact⟨i,j,p.int_inv,o.int_inv,h.1,q _ _ M h.2 (Same.refl _) (z _ i j)⟩
 ·grind
section
variable {ta tb tc:TE}{a b c:PTE}
def XC(g:UX K mg E ta a)(f:UX K mg E tb b):UX K mg E (tOp (rI0 λi j=>.int (i+j)) ta tb) (p2 a b (fI0 λi j=>.int (i+j))):=SE (λ_ _ _=>.int _) g f
def Kb(g:UX K mg E ta a)(f:UX K mg E tb b):UX K mg E (tOp (rI0 λi j=>.int (i-j)) ta tb) (p2 a b (fI0 λi j=>.int (i-j))):=SE (λ_ _ _=>.int _) g f
def PU(g:UX K mg E ta a)(f:UX K mg E tb b):UX K mg E (tOp (rI CMul λi j=>.int (i*j)) ta tb) (p2 a b (fI CMul λi j=>.int (i*j))):=Dw (λ_ _ _=>.int _) g f
def Kk(g:UX K mg E ta a)(f:UX K mg E tb b):UX K mg E (tOp (rI A6 λi j=>.int (i / j)) ta tb) (p2 a b (fI A6 λi j=>.int (i / j))):=Dw (λ_ _ _=>.int _) g f
def X2(g:UX K mg E ta a)(f:UX K mg E tb b):UX K mg E (tOp (rI (λ_ j=>0<j) λi j=>.int (i % j)) ta tb) (p2 a b (fI (λ_ j=>0<j) λi j=>.int (i % j))):=Dw (λ_ _ _=>.int _) g f
def Ts(g:UX K mg E ta a)(f:UX K mg E tb b):UX K mg E (tOp (rI0 λi j=>.bl (decide (i<j))) ta tb) (p2 a b (fI0 λi j=>.bl (decide (i<j)))):=SE (λ_ _ _=>.bl _) g f
def Pe(g:UX K mg E ta a)(f:UX K mg E tb b):UX K mg E (tOp (rI0 λi j=>.bl (decide (j<i))) ta tb) (p2 a b (fI0 λi j=>.bl (decide (j<i)))):=SE (λ_ _ _=>.bl _) g f
def Li(g:UX K mg E ta a)(f:UX K mg E tb b):UX K mg E (tOp (rI0 λi j=>.bl (decide (j<=i))) ta tb) (p2 a b (fI0 λi j=>.bl (decide (j<=i)))):=SE (λ_ _ _=>.bl _) g f
def fEq(neg:Bool):S->S->(S->Prop)->Prop:=λx y R=>match x.d,y.d with
 | .int i,.int j=>R (.sh<|.bl (if neg then !decide (i=j)else decide (i=j)))
 | .str i,.str j=>R (.sh<|.bl (if neg then !decide (i=j)else decide (i=j)))
 | .bl i,.bl j=>R (.sh<|.bl (if neg then !decide (i=j)else decide (i=j)))
 |_,_=>False
def N1{g h:Type}[DecidableEq g][DecidableEq h]{f:g->h}(l:∀a b,f a=f b->a=b)(a b:g):decide (f a=f b)=decide (a=b):=by grind
def fIx:S->S->(S->Prop)->Prop:=λx y R=>match x.d,y.d with
 | .lst g,.int k=>∃d,atI g k=some d/\R (x.sub d)
 | .tup g,.int k=>∃d,atI g k=some d/\R (x.sub d)
 | .scr f,.int k=>∃i,atI f k=some i/\R (.sh<|.int i)
 | .fL f,.int k=>∃i,atI f k=some i/\R (.sh<|.int i)
 |_,_=>False
def Mg{P:D->V->Prop}(f:vs.length=ds.length)(h:∀(i:Nat) d,ds[i]?=some d->∃u,vs[i]?=some u/\P d u)(e:atI ds k=some d):∃u,atI vs k=some u/\P d u:=by
 unfold atI at e ⊢;cases q:ixN ds.length k with
 |_=>grind
def KS(ha:UX K mg E ta a)(hb:UX K mg E tb b):UX K mg E (tOp (λx y H Q=>SS K x y H Q\/Bb K x y H Q) ta tb) (p2 a b fIx):=by
 refine KN ha hb λH0 H s Z x y v u R Q r Y hm A U h q=>?_;unfold fIx at h;have f:=U.rp r;obtain⟨pl,pt⟩:=A.part r hm Y;split at h
 ·rename_i T k o n;rw[n]at f;obtain⟨d,hd,g⟩:=h;obtain⟨l,w,rfl,M,L,J⟩:=pl T o;obtain⟨z,C,tz⟩:=Mg L J hd;exact .inl ⟨l,w,k,z,rfl,f.int_inv,SqL.of M,C,q _ _ s g (Same.refl _) tz⟩
 ·rename_i T k o n;rw[n]at f;obtain⟨d,hd,g⟩:=h;obtain⟨l,w,rfl,M,L,J⟩:=pt T o;obtain⟨z,C,tz⟩:=Mg L J hd;exact .inr ⟨l,w,k,z,rfl,f.int_inv,SqT.of M,C,q _ _ s g (Same.refl _) tz⟩
 ·rename_i ns k o n;rw[n]at f;obtain⟨i,N,g⟩:=h;have p:=A.rp r;rw[o]at p;cases p with
  |scr G=>exact .inl ⟨_,_,k,.int i,rfl,f.int_inv,G,P3 N,q _ _ s g (Same.refl _) (.int i)⟩
 ·rename_i ns k o n;rw[n]at f;obtain⟨i,N,g⟩:=h;have p:=A.rp r;rw[o]at p;cases p with
  |fL G=>exact .inl ⟨_,_,k,.int i,rfl,f.int_inv,SqL.of G,P3 N,q _ _ s g (Same.refl _) (.int i)⟩
 ·exact h.elim
noncomputable def Zd7(a b:PTE):PTE:=λγ R X=>a γ (λx=>match x.d with | .bl c=>if c=true then b γ R X else R (.sh<|.bl false)|_=>False) X
noncomputable def Zf3(a b:PTE):PTE:=λγ R X=>a γ (λx=>match x.d with | .bl c=>if c=true then R (.sh<|.bl true)else b γ R X|_=>False) X
noncomputable def IE(a:PTE):PTE:=λγ R X=>a γ (λx=>match x.d with | .bl c=>R (.sh<|.bl (!c))|_=>False) X
def Nr(C:UX K mg E ta a)(A:UX K mg E tb b):UX K mg E (Mq ta tb) (Zd7 a b):=by
 intro H0 B H σ γ R X Q h p q r;refine C H0 B H σ γ _ X _ h p (λx v H1 n l w=>?_) r;have f:=h.grow l;have o:=w.rp f.same;split at n
 ·rename_i c J;rw[J]at o;refine⟨c,o.bl_inv,?_⟩;split at n
  ·rename_i g;rw[W5 g];exact A H0 B H1 σ γ _ X _ f n (λy u N G L s=>q y u N G (l.trans L) (TV.weak l (λ_ z=>z) s)) λc H' g M=>r c H' g (l.trans M)
  ·rename_i g;rw[W2 g];exact q _ _ H1 n l (.bl _)
 ·grind
def F6(C:UX K mg E ta a)(A:UX K mg E tb b):UX K mg E (E2 ta tb) (Zf3 a b):=by
 intro H0 B H σ γ R X Q h p q r;refine C H0 B H σ γ _ X _ h p (λx v H1 n l w=>?_) r;have f:=h.grow l;have o:=w.rp f.same;split at n
 ·rename_i c J;rw[J]at o;refine⟨c,o.bl_inv,?_⟩;split at n
  ·rename_i g;rw[W5 g];exact q _ _ H1 n l (.bl _)
  ·rename_i g;rw[W2 g];exact A H0 B H1 σ γ _ X _ f n (λy u N G L s=>q y u N G (l.trans L) (TV.weak l (λ_ z=>z) s)) λc H' g M=>r c H' g (l.trans M)
 ·grind
def Lf(r:UX K mg E ta a):UX K mg E (Mi ta) (IE a):=by
 intro H0 B H σ γ R X Q f p q o;refine r H0 B H σ γ _ X _ f p (λx v H1 h l n=>?_) o;have g:=n.rp (f.grow l).same;split at h
 ·rename_i c s;rw[s]at g;exact⟨c,g.bl_inv,q _ _ H1 h l (.bl _)⟩
 ·grind
noncomputable def Zn8(a:PTE):PTE:=λγ R X=>a γ (λx=>match x.d with | .int i=>R (.sh<|.int (-i))|_=>False) X
def Tz(r:UX K mg E ta a):UX K mg E (tUn (rU λi=>.int (-i)) ta) (Zn8 a):=by
 intro H0 B H σ γ R X Q f p q o;refine r H0 B H σ γ _ X _ f p (λx v H1 h l n=>?_) o;have g:=n.rp (f.grow l).same;split at h
 ·rename_i c s;rw[s]at g;exact⟨c,g.int_inv,q _ _ H1 h l (.int _)⟩
 ·grind
noncomputable def TH(a:PTE):PTT:=λγ R X=>a γ (λx=>match x.d with | .bl c=>R c|_=>False) X
def Ph(r:UX K mg E ta a):Ka K mg E (BO ta) (TH a):=by
 intro H0 B H σ γ R X Q f p q o;refine r H0 B H σ γ _ X _ f p (λx v H1 h l n=>?_) o;have g:=n.rp (f.grow l).same;split at h
 ·rename_i c s;rw[s]at g;exact⟨c,g.bl_inv,q _ H1 h l⟩
 ·grind
def F7(f:UX K mg E ta a):Ka K mg E (tB ta) (TH a):=Ph f
variable {sa sb:TT}{pa pb:PTT}
noncomputable def Ib(a b:PTT):PTT:=λγ R X=>a γ (λc=>if c=true then b γ R X else R false) X
noncomputable def pOr(a b:PTT):PTT:=λγ R X=>a γ (λc=>if c=true then R true else b γ R X) X
noncomputable def HE(a:PTT):PTT:=λγ R X=>a γ (λc=>R (!c)) X
def Zln(r:Ka K mg E sa pa)(o:Ka K mg E sb pb):Ka K mg E (Im sa sb) (Ib pa pb):=by
 intro H0 B H σ γ R X Q f p q l;refine r H0 B H σ γ _ X _ f p (λc H1 n h=>?_) l;split at n
 ·rename_i g;rw[W5 g];exact o H0 B H1 σ γ _ X _ (f.grow h) n (λy w s u=>q y w s (h.trans u)) λc H' g v=>l c H' g (h.trans v)
 ·grind
def Zea(r:Ka K mg E sa pa)(o:Ka K mg E sb pb):Ka K mg E (tOr sa sb) (pOr pa pb):=by
 intro H0 B H σ γ R X Q f p q l;refine r H0 B H σ γ _ X _ f p (λc H1 n h=>?_) l;split at n
 ·grind
 ·rename_i g;rw[W2 g];exact o H0 B H1 σ γ _ X _ (f.grow h) n (λy w s u=>q y w s (h.trans u)) λc H' g v=>l c H' g (h.trans v)
def Zeu(h:Ka K mg E sa pa):Ka K mg E (MO sa) (HE pa):=by
 intro H0 B H σ γ R X Q f p q g;exact h H0 B H σ γ _ X _ f p (λc H1 l n=>q _ H1 l n) g
end
noncomputable def Td:PTA:=λ_ R _=>R []
noncomputable def K5(a:PTE)(r:PTA):PTA:=λγ R X=>a γ (λs=>r γ (λb=>R (s::b)) X) X
def Xr:Xq K mg E Kt Td:=by
 intro H0 B H σ γ R X Q b p q _;exact q _ _ H p (Same.refl _) .nil
def KW{a r}(x:UX K mg E te a)(u:Xq K mg E l r):Xq K mg E (XN te l) (K5 a r):=by
 intro H0 B H σ γ R X Q b p q g;refine x H0 B H σ γ _ X _ b p (λs v H1 z f o=>?_) g;refine u H0 B H1 σ γ _ X _ (b.grow f) z (λJ G C y h n=>?_) λc H' w A=>g c H' w (f.trans A);exact q _ _ C y (f.trans h) (.cons (o.grow h)<|TVs.weakG f n)
noncomputable def Be:List S->Option (List D)
 |[]=>some []
 |s::r=>match s.shd,Be r with
  |some d,some b=>some (d::b)
  |_,_=>none
theorem FB:∀{ss}{ds:List D},Be ss=some ds->ss.map S.shd=ds.map some
 |[],ds,h=>by cases h;rfl
 |s::r,ds,h=>by
  unfold Be at h;split at h
  ·rename_i d g f b;cases h
   rw[WQ,WQ,f,FB b]
  ·grind
noncomputable def Eb(r:PTA):PTE:=λγ R X=>r γ (λf=>match Be f with|some b=>b.length<=1000/\R (.sh<|.tup b)|none=>False) X
noncomputable def L7(r:PTA):PTE:=λγ R X=>r γ (λf=>match Be f with|some b=>b.length<=1000/\R (.own b)|none=>False) X
def AO(h:n<=1000):n<=sizeLine:=VJ (Ie h)
def T4(y:Xq K mg E v r):UX K mg E (Ic v) (Eb r):=by
 intro H0 B H σ γ R X Q f p q x;refine y H0 B H σ γ _ X _ f p (λA u H1 g h w=>?_) x;split at g
 ·rename_i ds e;have b:=f.grow h;have rp:=w.shd (ds:=ds) b.same f.zm h (FB e);refine⟨by rw[rp.len];exact AO g.1,λl n=>?_⟩;have s:=X4 (o:=.tup u) n;refine q _ _ _ g.2 (h.trans s) (.tup (X8 Xk λz=>?_)<|Rps.mono (Xm s λ_ _ _ z=>z) rp)
  have:=b.zm l z
  rw[n]at this;exact this
 ·grind
def N5{H H1 l vs ds}(h:Same H H1)(f:H1 l=none)(rp:Rps K (off Z H1) ds vs):TV K Z H0 H (upd H1 l<|.lst vs) (.own ds) (.ref l):=
 ⟨l,rfl,(λ_ e=>e▸h.free f),vs,Xk,Rps.mono (Xm (X4 f) λb o g z y=>y.elim z λe=>by rw[e,f]at g;cases g) rp⟩
def Pg(u:Xq K mg E n r):UX K mg E (LA n) (L7 r):=by
 intro H0 B H σ γ R X Q b p q s;refine u H0 B H σ γ _ X _ b p (λw v H1 g f o=>?_) s;split at g
 ·rename_i ds e;have rp:=o.shd (ds:=ds) (b.grow f).same b.zm f (FB e);refine⟨by rw[rp.len];exact AO g.1,λl h=>?_⟩;exact q _ _ _ g.2 (f.trans<|X4 h) (N5 f h rp)
 ·grind
abbrev Pc:=List D->(S->Prop)->XR->Prop
noncomputable def Xb(mg:ZX)(c:Pc)(K:ZT):Sp:=λg H Q E=>∃f R X,Rps K H f g/\c f R X/\(∀s v H',R s->Same H H'->TV K (λb=>Mut (H b)) H H H' s v->Q v H')/\∀e H',X e->Same H H'->XE mg E e H'
noncomputable def S.back:S->S
 | .bor d=>XI d | .view o=>.tmp o.d|s=>s
def TV.back (env:Xd K H0 B H1 σ γ) (o:Same H H1) (f:Same H1 H') (h:TV K (λb=>Mut (H1 b)) H1 H1 H' s v):TV K (zof B γ σ) H0 H H' s.back v:=by
 cases s with
 |bor d=>exact K6 (λb z=>P7 f (env.zm b z)) (Rp.mono f h)
 |sh d=>exact Rp.mono (Xm (Same.refl _) λb _ _ z y=>z (env.zm b y)) h
 |own n=>
  obtain⟨a,rfl,l,r⟩:=h;exact⟨a,rfl,(λb g=>o.free (l b g)),r.mono (Xm (Same.refl _) λb _ _ z y=>z (y.imp (env.zm b) id)) λ_ _ _ q=>q⟩
 |view n=>
  obtain⟨a,rfl,r⟩:=h;exact r.rp off_sub
 |tmp d=>exact h
noncomputable def Gy(c:Pc)(r:PTA):PTE:=λγ R X=>r γ (λb=>c (b.map S.d) (λs=>R s.back) λ_=>False) X
noncomputable def D5(c:Pc)(r:PTA):PTE:=λγ R X=>r γ (λb=>c (b.map S.d) (λs=>R s.back) X) X
def Ko{h r}(x:Xq K mg E h r):UX K mg E (NI (Xb mg c K) [] E0 h) (Gy c r):=by
 intro H0 B H σ γ R X Q f p q u;refine x H0 B H σ γ _ X _ f p (λC A H1 y g o=>?_) u;rw[Qn];have b:=f.grow g;exact⟨_,_,_,o.rps b.same,y,λs v H' w l n=>q _ _ H' w (g.trans l) (n.back b g l),λ_ _ z=>z.elim⟩
structure EE (R:S->Prop) (s s' s0:S):Prop where
 w:(s=s'/\R s0)\/R s.back
def Za5(c:Pc)(R:S->Prop):List S->Prop
 |s0::b=>∀a,c (.loc a s0.d::b.map S.d) (λs=>EE R s (.bor<|.loc a s0.d) s0) λ_=>False
 |[]=>False
noncomputable def Zbj(c:Pc)(r:PTA):PTE:=λγ R X=>r γ (Za5 c R) X
def Zfz{G r}(hr:Xq K mg E G r)(hc:∀o:S,∀v,(∃H,Rp K H o.d v)->True:=λ_ _ _=>trivial):UX K mg E (NI (Xb mg c K) [] E0 G) (Zbj (λds R X=>(∃l es,ds=.loc l es::ds.tail/\∃xs,es=.lst xs)/\c ds R X) r):=by
 intro H0 B H σ γ R X Q n p q Y;refine hr H0 B H σ γ _ X _ n p (λU M H1 A x T=>?_) Y;rw[Qn];have b:=n.grow x;cases T with
 |nil=>exact A.elim
 |cons J N=>
  rename_i o v0 U M;have L:=J.rp b.same;obtain⟨⟨l,es,e1,xs,e2⟩,_⟩:=A 0;have e3:o.d=.lst xs:=by cases (List.cons.inj e1).1;exact e2
  have g:=L;rw[e3]at g;obtain⟨a,us,rfl,ha,ru⟩:=g.lst_inv;refine⟨_,_,_,.cons (.loc L) (N.rps b.same),(A a).2,λs v H' hs u C=>?_,λ_ _ z=>z.elim⟩;rcases hs.w with⟨rfl,f⟩|f
  ·have y:Rp K H1 (.loc a o.d) v:=C;cases y with
   |loc h=>exact q _ _ H' f (x.trans u) (J.grow u)
  ·exact q _ _ H' f (x.trans u) (C.back b x u)
def Zgv{n r l}(y:Xq K mg (λ_=>l) n r):UX K mg (λ_=>l) (NI (Xb mg c K) [] l n) (D5 c r):=by
 intro H0 B H σ γ R X Q f p q o;refine y H0 B H σ γ _ X _ f p (λG C H1 A h w=>?_) o;rw[Qn];have b:=f.grow h;exact⟨_,_,X,w.rps b.same,A,λs v H' x g u=>q _ _ H' x (h.trans g) (u.back b h g),λe H' z g=>o e H' z (h.trans g)⟩
def Za0{l r}(x:Xq K mg E l r):UX K mg E (ExcR.II (Xb mg c K) E l) (D5 c r):=by
 intro H0 B H σ γ R X Q f p q n;refine x H0 B H σ γ _ X _ f p (λC A H1 z h u=>?_) n;rw[Qn];have b:=f.grow h;exact⟨_,_,X,u.rps b.same,z,λs v H' w g o=>q _ _ H' w (h.trans g) (o.back b h g),λe H' y g=>n e H' y (h.trans g)⟩
def Xd.set {s s'}{v} (f:Xd K H0 B H σ γ) (b:Same H H') (h:TV K (zof B γ σ) H0 H H' s v) (e:s.slot=some s') :
  Xd K H0 B H' (σ.set i<|some v) (γ.set i<|some s')/\Fr B H σ γ H' (σ.set i<|some v) (γ.set i<|some s'):=by
 by_cases g:i<γ.length
 ·exact f.put b h e g
 ·rw[List.set_eq_of_length_le (by rw[f.len];lia),List.set_eq_of_length_le (by lia)];exact⟨f.grow b,Fr.grow b⟩
def Upd(f:Ya)(σ b:L2.St):Prop:=(∀j,j∉f->b[j]?=σ[j]?)/\b.length=σ.length
def TN(K:ZT)(g:Ya)(t:TG)(p:PTG):Prop:=∀(H0:Hp) (B:Addr->Prop) (H H':Hp) (σ:L2.St) (γ:Γ) (s:S) (v:V) (R:Γ->Prop) (Q:L2.St->Hp->Prop),Xd K H0 B H σ γ->Same H H'->TV K (zof B γ σ) H0 H H' s v->p s γ R->
 (∀b f,R f->Xd K H0 B H' b f->Fr B H σ γ H' b f->Upd g σ b->Q b H')->t v σ H' Q
noncomputable def Bk(i:Nat):PTG:=λs γ R=>match s.slot with|some b=>R (γ.set i<|some b)|none=>False
def XT(i:Nat):TN K [i] (Nj i) (Bk i):=by
 intro H0 B H H' σ γ s v R Q b l f p q;unfold Bk at p;split at p
 ·rename_i n e;obtain⟨h,f1⟩:=b.set l f e;exact q _ _ p h f1 ⟨λj g=>KP λz=>g (by grind),Qy⟩
 ·grind
noncomputable def Oi:N3:=λb γ R=>match b with|[]=>R γ|_=>False
noncomputable def Em(g:PTG)(r:N3):N3:=λf γ R=>match f with|s::t=>g s γ λb=>r t b R|[]=>False
def TV.notown {σ'}{γ'}{Hb} (f:Fr B H σ γ H' σ' γ') (b:Same H H') (n:∀ds,s≠.own ds) (g:∀ds,s≠.view ds) (h:TV K (zof B γ σ) H0 Hb H s v):TV K (zof B γ' σ') H0 H' H' s v:=by
 cases s with
 |bor d=>exact h
 |sh d=>exact Rp.mono f.off h
 |tmp d=>exact Rp.mono b h
 |_=>grind
def TVs.notown (f:Fr B H σ γ H b g):∀{ss}{vs:List V},(∀s∈ss,∀ds,s≠.own ds/\s≠.view ds)->TVs K (zof B γ σ) H0 p H ss vs->TVs K (zof B g b) H0 H H ss vs:=by
 intro ss
 induction ss with
 |nil=>
  intro _ _ h;cases h
  exact .nil
 |cons _ _ l=>
  intro _ n h;cases h with
  |cons h r=>
   exact .cons (h.notown f (Same.refl _) (λds=>(n _ WU ds).1) λds=>(n _ WU ds).2) (l (λs o=>n s (WT _ o)) r)
def Du(d:D):arg d=.sh d\/arg d=.bor d:=by unfold arg;cases imm d<;>simp
def Gn(d:D):XI d=.sh d\/XI d=.tmp d:=by unfold XI;cases imm d<;>simp
def Mw(s:S)(d:D):∀ds,s.sub d≠.own ds/\s.sub d≠.view ds:=λds=>by
 cases s with
 |bor b=>rcases Du d with e|e<;>(show arg d≠_/\arg d≠_;rw[e];exact⟨(λz=>by cases z),(λz=>by cases z)⟩)
 |tmp b=>rcases Gn d with e|e<;>(show XI d≠_/\XI d≠_;rw[e];exact⟨(λz=>by cases z),(λz=>by cases z)⟩)
 |sh b=>exact⟨(λz=>by cases z),(λz=>by cases z)⟩
 |own b|view b=>
  cases b with
  |nst f|nsl a f|vls a C xs g|tl x h n=>rcases Gn d with e|e<;>(show XI d≠_/\XI d≠_;rw[e];exact⟨(λz=>by cases z),(λz=>by cases z)⟩)
  |_=>exact⟨(λz=>by cases z),(λz=>by cases z)⟩
def SA(K:ZT)(n:Ya)(t:TGs)(p:N3):Prop:=∀(H0:Hp) (B:Addr->Prop) (H:Hp) (σ:L2.St) (γ:Γ) (g:List S) (h:List V) (R:Γ->Prop) (Q:L2.St->Hp->Prop),Xd K H0 B H σ γ->TVs K (zof B γ σ) H0 H H g h->(∀s∈g,∀l,s≠.own l/\s≠.view l)->p g γ R->
 (∀b f,R f->Xd K H0 B H b f->Fr B H σ γ H b f->Upd n σ b->Q b H)->t h σ H Q
def Fw:SA K [] Lv Oi:=by
 intro H0 B H σ γ h g R Q b f l p q;cases f with
 |nil=>exact⟨rfl,q _ _ p b Fr.refl ⟨λ_ _=>rfl,rfl⟩⟩
 |cons _ _=>exact p.elim
def Nm{g r w v}(T:TN K M g w)(N:SA K L r v):SA K (M++L) (Ez g r) (Em w v):=by
 intro H0 B H σ γ ss vs R Q u G x p q;cases G with
 |nil=>exact p.elim
 |cons h t=>
  refine⟨_,_,rfl,T H0 B H H σ γ _ _ _ _ u (Same.refl _) h p λf n J e1 f1 A=>?_⟩;refine N H0 B H f n _ _ _ _ e1 (TVs.notown f1 (λs o=>x s (WT _ o)) t) (λs o=>x s (WT _ o)) J λb l p2 Y U y=>?_;exact q b l p2 Y (f1.trans U) ⟨λj C=>(y.1 j λz=>C (WV _ z)).trans (A.1 j λz=>C (QB _ z)),y.2.trans A.2⟩
noncomputable def Aq(n:Nat)(r:N3):PTG:=λs γ R=>match s.d with | .tup b=>b.length=n/\r (b.map s.sub) γ R|_=>False
theorem TVs.of_part {ds:List D}{s:S}:∀{vs}{ds:List D},vs.length=ds.length->(∀(i:Nat) d,ds[i]?=some d->∃u,vs[i]?=some u/\TV K Z H0 H H' (s.sub d) u)->TVs K Z H0 H H' (ds.map s.sub) vs
 |[],[],_,_=>.nil
 |[],_::_,e,_|_::_,[],e,_=>by cases e
 |v::vs,d::ds,e,h=>by
  obtain⟨u,f,b⟩:=h 0 d rfl;cases f
  exact .cons b (TVs.of_part (ds:=ds) (by grind) λi g hd=>by simpa using h (i+1) g (by grind))
def Fb{x r w}(G:SA K x r w):TN K x (D8 K n r) (Aq n w):=by
 intro H0 B H H' σ γ s v R Q f o z p q;unfold Aq at p;have b:=f.grow o;obtain⟨_,pt⟩:=z.part b.same f.zm o;split at p
 ·rename_i ds e;obtain⟨a,u,rfl,L,y,J⟩:=pt ds e;refine⟨a,u,rfl,SqT.of L,y.trans p.1,?_⟩;refine G H0 B H' σ γ _ u R Q b (TVs.notown (Fr.refl) (λA l ds=>?_)<|TVs.of_part (ds:=ds) y J) (λA l ds=>?_) p.2 λg h M N f1 C=>q g h M N (Fr.trans (Fr.grow o) f1) C
  ·obtain⟨d,_,rfl⟩:=WK.mp l;exact Mw s d ds
  ·obtain⟨d,_,rfl⟩:=WK.mp l;exact Mw s d ds
 ·grind
def By.from {D o p} (e:By K mg E H0 B H σ γ R D) (f:Fr B H σ γ H1 o p):By K mg E H0 B H1 o p R D:=
 ⟨λb g H' n l h=>e.nx b g H' n l (f.trans h),e.rt,λb g c H' n l h=>e.ex b g c H' n l (f.trans h),λb g H' n l h=>e.bk b g H' n l (f.trans h),λb g H' n l h=>e.ct b g H' n l (f.trans h),λb g d v H' n l h=>e.rv b g d v H' n l (f.trans h)⟩
variable {te:TE}{a:PTE}{tt:TT}{c:PTT}{t u:TS}{p q:PTS}
noncomputable def GL:PTS:=λR γ=>R.nx γ
def Zj3:Xl K mg E G8 GL:=λ_ _ _ _ _ _ _ _ b h e=>e.nx _ _ _ h b Fr.refl
noncomputable def IP(p q:PTS):PTS:=λR γ=>p {R with nx:=q R} γ
def ID(n:Xl K mg E t p)(hq:Xl K mg E u q):Xl K mg E (DP t u) (IP p q):=by
 intro H0 B H σ γ R D l g h e;refine n H0 B H σ γ _ _ l g h ⟨λb f H' o r f1=>?_,e.rt,e.ex,e.bk,e.ct,e.rv⟩;exact hq H0 B H' b f R D l r o (e.from f1)
structure Mm (p q:PTS) (R:Ni) (γ:Γ):Prop where
 w:∃J:Γ->Prop,p {R with nx:=J} γ/\∀γ',J γ'->q R γ'
noncomputable def Hm(p q:PTS):PTS:=λR γ=>Mm p q R γ
def Zk7(r:Xl K mg E t p)(hq:Xl K mg E u q):Xl K mg E (Mu t u) (Hm p q):=by
 intro H0 B H σ γ R D o l h e;obtain⟨J,h,k⟩:=h.w;refine⟨λf H'=>∃b,J b/\Xd K H0 B H' f b/\Fr B H σ γ H' f b,r H0 B H σ γ _ _ o l h ⟨λf b H' g n f1=>⟨b,g,n,f1⟩,e.rt,e.ex,e.bk,e.ct,e.rv⟩,?_⟩;rintro f H' ⟨b,g,n,f1⟩;exact hq H0 B H' f b R D o n (k b g) (e.from f1)
noncomputable def Hl(i:Nat)(p:PTS):PTS:=λR γ=>p R (frz i γ)
def Zhq(i:Nat)(g:Xl K mg E t p):Xl K mg E t (Hl i p):=by
 intro H0 B H σ γ R D f b h e;obtain⟨l,f1⟩:=b.frz f i;exact g H0 B H σ _ R D f l h (e.from f1)
noncomputable def A8(a:PTE)(g:PTG):PTS:=λR γ=>a γ (λs=>g s γ R.nx) (R.ex γ)
def Tr(y:UX K mg E te a)(w:TN K L g r):Xl K mg E (SN te g) (A8 a r):=by
 intro H0 B H σ γ R D M b h e;refine y H0 B H σ γ _ _ _ b h (λs v H1 A J o=>?_) λc H' x n=>e.ex σ γ c H' x (b.grow n) (Fr.grow n);exact w H0 B H H1 σ γ s v _ _ b J o A λf l z G C _=>e.nx f l H1 z G C
noncomputable def Ad(i:Nat)(f:Int->Int->Int)(a:PTE):PTS:=λR γ=>match γ[i]? with
 |some (some<|.sh<|.int x)=>a γ (λy=>match y.d with | .int j=>R.nx (γ.set i<|some<|.sh<|.int<|f x j)|_=>False) (R.ex γ)
 |_=>False
def RR(z:UX K mg E te a):Xl K mg E (Oj i te<|ipI f) (Ad i f a):=by
 intro H0 B H σ γ R D L b h e;unfold Ad at h;split at h
 ·rename_i x hx;obtain⟨v,C,A⟩:=b.slot i _ hx;refine⟨v,C,z H0 B H σ γ _ _ _ b h (λy u H1 l n r=>?_) λc H' w o=>e.ex σ γ c H' w (b.grow o) (Fr.grow o)⟩;have g:=r.rp (b.grow n).same;split at l
  ·rename_i j G;rw[G]at g;refine⟨x,j,Rp.int_inv A,g.int_inv,?_⟩;obtain⟨J,f1⟩:=b.set (s:=.sh (.int<|f x j)) n (.int _) rfl;exact e.nx _ _ H1 l J f1
  ·grind
 ·grind
noncomputable def Oa(a:PTE):PTS:=λR γ=>a γ R.rt (R.ex γ)
def OV(o:UX K mg E te a):Xl K mg E (NM te) (Oa a):=by
 intro H0 B H σ γ R D x f h e;refine o H0 B H σ γ _ _ _ f h (λs v H1 r w l=>?_) λc H' n g=>e.ex σ γ c H' n (f.grow g) (Fr.grow g);exact e.rt s v H1 r (f.same.trans w) (TV.weak f.same (λb z=>.inl z) l)
noncomputable def Sa(i:Nat):PTS:=λR γ=>match γ[i]? with|some (some s)=>R.rt s|_=>False
def R5(i:Nat):Xl K mg E (NM<|KH i) (Sa i):=by
 intro H0 B H σ γ R D C f h e;unfold Sa at h;split at h
 ·rename_i s n;obtain⟨v,o,g⟩:=f.slot i _ n;refine⟨v,o,e.rt s v H h f.same ?_⟩;cases s with
  |bor d=>exact g
  |sh d=>exact Rp.mono (Xm (Same.refl _) λb _ _ z y=>z (.inl y)) g
  |own r=>
   obtain⟨l,rfl,A,x⟩:=g;exact⟨l,rfl,A,x.mono (Xm (Same.refl _) λb _ _ z y=>z (y.elim .inl λw=>.inr ⟨i,r,l,n,o,w⟩)) λ_ _ _ q=>q⟩
  |view r=>exact g.elim
  |tmp d=>trivial
 ·grind
noncomputable def Hj(c:PTT)(p q:PTS):PTS:=λR γ=>c γ (λb=>if b=true then p R γ else q R γ) (R.ex γ)
def Zmr(l:Ka K mg E tt c)(v:Xl K mg E t p)(hq:Xl K mg E u q):Xl K mg E (Iq tt t u) (Hj c p q):=by
 intro H0 B H σ γ R D r f h e;refine l H0 B H σ γ _ _ _ f h (λb H1 o g=>?_) λc H' l s=>e.ex σ γ c H' l (f.grow s) (Fr.grow s);split at o
 ·rename_i n;rw[W5 n];exact v H0 B H1 σ γ R D r (f.grow g) o (e.from<|Fr.grow g)
 ·rename_i n;rw[W2 n];exact hq H0 B H1 σ γ R D r (f.grow g) o (e.from<|Fr.grow g)
noncomputable def HV(a:PTE):PTS:=λR γ=>a γ (λ_=>R.nx γ) (R.ex γ)
def FJ(n:UX K mg E te a):Xl K mg E (Bm te) (HV a):=by
 intro H0 B H σ γ R D w b h e;exact n H0 B H σ γ _ _ _ b h (λs v H1 o f r=>e.nx σ γ H1 o (b.grow f) (Fr.grow f)) λc H' l g=>e.ex σ γ c H' l (b.grow g) (Fr.grow g)
noncomputable def Lq(x:Str)(r:PTA):PTS:=λR γ=>r γ (λb=>b.length<=1000/\R.ex γ x) (R.ex γ)
def TVs.len:∀{ss}{vs:List V},TVs K Z H0 H H' ss vs->vs.length=ss.length:=by
 intro ss
 induction ss with
 |nil=>
  intro _ h;cases h
  rfl
 |cons _ _ b=>
  intro _ h;cases h with
  |cons h r=>
   exact Qs (· + 1) (b r)
def Zm2{g r f}(v:Xq K mg (λ_=>f) g r)(hx:autoParam (Sf x=none) au_0):Xl K mg (λ_=>f) (ExcR.LS (ExcR.Xe mg x) f g) (Lq x r):=by
 intro H0 B H σ γ R D A b h e;refine v H0 B H σ γ _ _ _ b h (λz y H1 l n s=>⟨?_,?_⟩) λc H' w o=>e.ex σ γ c H' w (b.grow o) (Fr.grow o)
 ·rw[s.len];exact AO l.1
 ·exact(e.ex σ γ x H1 l.2 (b.grow n)<|Fr.grow n).plain hx
def Os(i j:Nat)(γ:Γ)(R:Γ->Prop):List S->Prop
 |[.sh d,.sh e]=>R ((γ.set i<|some<|.sh d).set j (some<|.sh e))
 |_=>False
noncomputable def Zav(i j:Nat)(r:PTA):PTS:=λR γ=>r γ (Os i j γ R.nx) (R.ex γ)
def Zj6{o r}(N:Xq K mg E o r):Xl K mg E (Gk i j o) (Zav i j r):=by
 intro H0 B H σ γ R D hB f h e;refine N H0 B H σ γ _ _ _ f h (λss vs H1 n S1 g=>?_) λc H' Q v=>e.ex σ γ c H' Q (f.grow v) (Fr.grow v);unfold Os at n;split at n
 ·rename_i d e';cases g with
  |cons C g=>
   cases g with
   |cons A g=>
    cases g
    rename_i y w;refine⟨_,_,rfl,?_⟩;obtain⟨Y,f1⟩:=f.set S1 C rfl
    have l:TV K (zof B (γ.set i<|some<|.sh d)<|σ.set i<|some y) H0 H1 H1 (.sh e') w:=by
     refine Rp.mono (Xm (Same.refl _) λb _ _ M z=>M ?_) A;rcases z with z|⟨k,ds,x,L,s,J⟩
     ·exact .inl z
     ·rcases X3 L with⟨_,q,_⟩|⟨G,q⟩
      ·cases q
      ·rw[KP G]at s;exact .inr ⟨k,ds,x,q,s,J⟩
    obtain⟨U,T⟩:=Y.set (Same.refl _) l rfl;exact e.nx _ _ H1 n U (f1.trans T)
 ·grind
noncomputable def clr:Ya->Γ->Γ
 |[],γ=>γ
 |i::r,γ=>clr r (γ.set i none)
theorem Xd.clr:∀b {γ:Γ},Xd K H0 B H σ γ->Xd K H0 B H σ (clr b γ)/\Fr B H σ γ H σ (Pu.clr b γ)
 |[],_,e=>⟨e,Fr.refl⟩
 |i::r,γ,e=>by
  obtain⟨h,f1⟩:=e.drop i;obtain⟨g,f⟩:=Xd.clr r h;exact⟨g,f1.trans f⟩
def Later(H0:Hp)(Z:Addr->Prop)(H1:Hp)(Z':Addr->Prop)(H':Hp):Prop:=Same H0 H'/\(∀b,Z' b->Mut (H' b))/\∀b o,H1 b=some o->¬Z b->H' b=some o/\¬Z' b
def Later.of (e:Xd K H0 B H' b g) (f:Fr B H1 σ γ H' b g):Later H0 (zof B γ σ) H1 (zof B g b) H':=⟨e.same,e.zm,f⟩
def Later.off (l:Later H0 Z H1 Z' H'):Same (off Z H1) (Pu.off Z' H'):=λb o h=>by
 obtain⟨r,n⟩:=P6 h;obtain⟨g,f⟩:=l.2.2 b o r n;exact X8 g f
structure L3 (K:ZT) (H0:Hp) (B:Addr->Prop) (H1:Hp) (σ:L2.St) (γ:Γ) (J:It) (n:Nat) (item:Nat->S):Prop where
 go:∀(i:Nat) (H':Hp) (Z':Addr->Prop),i<n->Later H0 (zof B γ σ) H1 Z' H'->J.go i H'/\∀x H'',J.yld i H' x H''->Same H' H''/\TV K Z' H0 H' H'' (item i) x
 stop:∀(H':Hp) (Z':Addr->Prop),Later H0 (zof B γ σ) H1 Z' H'->J.stop n H'
abbrev PTI:=Γ->(Nat->(Nat->S)->Prop)->XR->Prop
def SndI(K:ZT)(mg:ZX)(E:L2.St->XK)(b:TI)(f:PTI):Prop:=∀(H0:Hp) (B:Addr->Prop) (H:Hp) (σ:L2.St) (γ:Γ) (R:Nat->(Nat->S)->Prop) (X:XR) (Q:It->Hp->Prop),Xd K H0 B H σ γ->f γ R X->
 (∀n item J H1,R n item->Same H H1->L3 K H0 B H1 σ γ J n item->Q J H1)->(∀c H',X c->Same H H'->XE mg (E σ) c H')->b σ H Q
structure SK (js:Ya) (γ:Γ) (g:PTG) (body:PTS) (R:Ni) (n:Nat) (item:Nat->S):Prop where
 w:∃inv:Nat->Γ->Prop,inv 0 (clr js γ)/\
 (∀i γ',i<n->inv i γ'->g (item i) γ' λγ2=>body {R with nx:=λγ3=>inv (i+1) (clr js γ3),ct:=λγ3=>inv (i+1) (clr js γ3),bk:=R.nx} γ2)/\∀γ',inv n γ'->R.nx γ'
noncomputable def G5(b:Ya)(f:PTI)(g:PTG)(body:PTS):PTS:=λR γ=>f γ (λn item=>SK b γ g body R n item) (R.ex γ)
def Zfk{wi g it pg}(L:Ya)(hi:SndI K mg E wi it)(hg:TN K is g pg)(hb:Xl K mg E t p):Xl K mg E (E9 wi g t) (G5 L it pg p):=by
 intro H0 B H σ γ R D hB N h e;refine hi H0 B H σ γ _ _ _ N h (λn item J H1 h1 S1 ok=>?_) λc H' hc S'=>e.ex σ γ c H' hc (N.grow S') (Fr.grow S');obtain⟨U,h0,hs,hd⟩:=h1.w;have G:=N.grow S1;refine⟨λi m s H'=>m=n-i/\i<=n/\∃b,U i b/\Xd K H0 B H' s b/\Fr B H1 σ γ H' s b,⟨n,by simp,QM _,_,h0,(G.clr L).1,(G.clr L).2⟩,?_⟩;rintro i m s H' ⟨rfl,hin,b,Y,e',f'⟩;by_cases M:i<n
 ·obtain⟨go,yl⟩:=ok.go i H' _ M (Later.of e' f');refine .inr ⟨go,λr H2=>∃o,U (i+1) o/\Xd K H0 B H2 r o/\Fr B H1 σ γ H2 r o,λr H2 ⟨o,a1,a2,a3⟩=>⟨n-(i+1),by lia,rfl,M,o,a1,a2,a3⟩,λx T y=>?_⟩;obtain⟨S2,tv⟩:=yl x T y;refine hg H0 B H' T s b _ _ _ _ e' S2 tv (hs i b M Y) λr o q2 e2 f2 _=>?_;have fall:=f'.trans f2;refine hb H0 B T r o _ _ hB e2 q2 ⟨λf l Q A z C=>?_,e.rt,λf l c Q A z C=>e.ex f l c Q A z ((Fr.grow S1).trans (fall.trans C)),λf l Q A z C=>e.nx f l Q A z ((Fr.grow S1).trans (fall.trans C)),λf l Q A z C=>?_,λf l d v Q A z C=>e.rv f l d v Q A z ((Fr.grow S1).trans (fall.trans C))⟩
  ·exact⟨_,A,(z.clr L).1,(fall.trans C).trans (z.clr L).2⟩
  ·exact⟨_,A,(z.clr L).1,(fall.trans C).trans (z.clr L).2⟩
 ·have:i=n:=by lia
  subst this;exact .inl ⟨ok.stop H' _ (Later.of e' f'),e.nx s b H' (hd b Y) e' ((Fr.grow S1).trans f')⟩
noncomputable def S.fix:S->Bool
 | .bor _=>true | .sh _=>true | .own (.nsl _ _)=>false | .own (.vls _ _ _ _)=>false | .own _=>true|_=>false
noncomputable def pIL(a:PTE):PTI:=λγ R X=>a γ (λs=>match s.d with
 | .lst f=>s.fix=true/\R f.length λi=>s.sub (f.getD i .non)
 | .scr b=>s.fix=true/\R b.length λi=>.sh (.int<|b.getD i 0)
 |_=>False) X
def TV.last (env:Xd K H0 B H σ γ) (L:Same H H1) (b:TV K (zof B γ σ) H0 H H1 s v) (G:s.fix=true) (hd:s.d=.lst ds):∃l vs,v=.ref l/\vs.length=ds.length/\
  ∀H' Z',Later H0 (zof B γ σ) H1 Z' H'->H' l=some (.lst vs)/\∀(i:Nat) d,ds[i]?=some d->∃u,vs[i]?=some u/\TV K Z' H0 H' H' (s.sub d) u:=by
 have f:∀{s:S},(∀d,s.sub d=.sh d)->Rp K (Pu.off (zof B γ σ) H1) (.lst ds) v->∃l vs,v=.ref l/\vs.length=ds.length/\
   ∀H' Z',Later H0 (zof B γ σ) H1 Z' H'->H' l=some (.lst vs)/\∀i d,ds[i]?=some d->∃u,vs[i]?=some u/\TV K Z' H0 H' H' (s.sub d) u:=λM h=>by
  obtain⟨l,vs,rfl,A,g⟩:=Rp.lst_inv h;refine⟨l,vs,rfl,g.len,λH' Z' lt=>⟨off_sub _ _ (lt.off _ _ A),λi d w=>?_⟩⟩;obtain⟨u,z,y⟩:=g.get w;refine⟨u,z,?_⟩;rw[M];exact Rp.mono lt.off y
 cases s with
 |bor d=>
  have b:=Rp.strip b;rw[show d.strip=.lst ds from hd]at b
  obtain⟨l,vs,rfl,A,g⟩:=Rp.lst_inv b;refine⟨l,vs,rfl,g.len,λH' Z' lt=>⟨lt.1 _ _ A,λi d w=>?_⟩⟩;obtain⟨u,z,y⟩:=g.get w;exact⟨u,z,NQ lt.2.1 lt.1 y⟩
 |sh d=>
  have:=hd
  subst this;exact f (λ_=>rfl) b
 |own o=>
  cases o with
  |dK o|dT o|ins x C xs J|nst J|tl x o n|er l C r=>cases hd
  |nsl a J|vls a C xs N=>cases G
  |_=>
   cases hd
   exact f (λ_=>rfl) (b.shd (env.grow L).same env.zm L rfl)
 |_=>cases G
def Zir(ha:UX K mg E te a):SndI K mg E (BS K te) (pIL a):=by
 intro H0 B H σ γ R X Q g h q qx;refine ha H0 B H σ γ _ X _ g h (λs v H1 o L n=>?_) qx;have b:=g.grow L;split at o
 ·rename_i U A;obtain⟨l,C,rfl,hn,f⟩:=n.last g L o.1 A;obtain⟨M,_⟩:=f H1 _ (Later.of b Fr.refl);refine⟨l,rfl,⟨C,SqL.of M⟩,q _ _ _ H1 o.2 L ⟨λi H' Z' J lt=>?_,λH' Z' lt=>?_⟩⟩
  ·obtain⟨r,k2⟩:=f H' Z' lt;have hd:U[i]?=some (U.getD i .non):=by rw[W7,Ww J];rfl
   obtain⟨u,w,Y⟩:=k2 i _ hd;refine⟨⟨C,u,SqL.of r,w⟩,λx N y=>?_⟩;obtain⟨rfl,y⟩:=y
   have:=y C (SqL.of r)
   rw[w]at this;cases this
   exact⟨Same.refl _,Y⟩
  ·exact⟨C,SqL.of (f H' Z' lt).1,by lia⟩
 ·rename_i G A
  have z:∃l,v=.ref l/\∀H' Z',Later H0 (zof B γ σ) H1 Z' H'->SqL K H' l (G.map V.int):=by
   cases s with
   |bor d=>
    have n:=Rp.strip n;rw[show d.strip=.scr G from A]at n
    cases n with
    |scr z=>exact⟨_,rfl,λH' Z' lt=>lt.1.seq z⟩
   |sh d=>
    have:=A
    subst this;cases n with
    |scr z=>exact⟨_,rfl,λH' Z' lt=>off_sub.seq (lt.off.seq z)⟩
   |own T|view T=>cases T<;>cases A
   |tmp d=>cases o.1
  obtain⟨l,rfl,f⟩:=z;refine⟨l,rfl,⟨_,f H1 _ (Later.of b Fr.refl)⟩,q _ _ _ H1 o.2 L ⟨λi H' Z' J lt=>?_,λH' Z' lt=>?_⟩⟩
  ·have r:=f H' Z' lt
   have w:(G.map V.int)[i]?=some (.int<|G.getD i 0):=by
    rw[WH,Ww J,W7,Ww J];rfl
   refine⟨⟨_,_,r,w⟩,λx N y=>?_⟩;obtain⟨rfl,y⟩:=y
   have:=y _ r
   rw[w]at this;cases this
   exact⟨Same.refl _,.int _⟩
  ·exact⟨_,f H' Z' lt,by rw[Wv];exact W3 _⟩
 ·exact o.elim
def fR1(R:Nat->(Nat->S)->Prop):List D->Prop
 |[.int j]=>(-(2 ^ 62)<=j/\j<2 ^ 62)/\R j.toNat λi=>.sh (.int (0+(i:Int)))
 |_=>False
def fR2(R:Nat->(Nat->S)->Prop):List D->Prop
 |[.int i,.int j]=>(-(2 ^ 62)<=i/\i<2 ^ 62/\-(2 ^ 62)<=j/\j<2 ^ 62)/\R (j-i).toNat λk=>.sh (.int (i+(k:Int)))
 |_=>False
noncomputable def IX(r:PTA):PTI:=λγ R X=>r γ (λb=>fR1 R (b.map S.d)) X
noncomputable def E8(r:PTA):PTI:=λγ R X=>r γ (λb=>fR2 R (b.map S.d)) X
def Rps.one_inv (h:Rps K H [d] vs):∃v,vs=[v]/\Rp K H d v:=by
 cases h with
 |cons h r=>cases r;exact⟨_,rfl,h⟩
def Rps.two_inv (h:Rps K H [d,e] vs):∃v u,vs=[v,u]/\Rp K H d v/\Rp K H e u:=by
 cases h with
 |cons h r=>cases r with|cons b r=>cases r;exact⟨_,_,rfl,h,b⟩
def L9{lo n}:L3 K H0 B H1 σ γ (Itr lo n) n λi=>.sh (.int (lo+(i:Int))):=by
 refine⟨λi H' Z' b lt=>⟨b,λx f y=>?_⟩,λH' Z' lt=>W3 _⟩;obtain⟨e,y⟩:=y;subst e y;exact⟨Same.refl _,.int _⟩
def Zgz(x:Xq K mg E n r):SndI K mg E (Eu n) (IX r):=by
 intro H0 B H σ γ R X Q f h q w;refine x H0 B H σ γ _ X _ f h (λA z H1 b l o=>?_) w;have g:=o.rps (f.grow l).same;unfold fR1 at b;split at b
 ·rename_i j y;rw[y]at g;obtain⟨v,rfl,s⟩:=g.one_inv;rw[s.int_inv];exact⟨j,rfl,b.1.1,b.1.2,q _ _ _ H1 b.2 l L9⟩
 ·grind
def Zgd(y:Xq K mg E n r):SndI K mg E (IS n) (E8 r):=by
 intro H0 B H σ γ R X Q b h q x;refine y H0 B H σ γ _ X _ b h (λC A H1 f l o=>?_) x;have g:=o.rps (b.grow l).same;unfold fR2 at f;split at f
 ·rename_i i j z;rw[z]at g;obtain⟨v,u,rfl,w,s⟩:=g.two_inv;rw[w.int_inv,s.int_inv];exact⟨i,j,rfl,f.1,q _ _ _ H1 f.2 l L9⟩
 ·grind
structure LL (js:Ya) (γ:Γ) (c:PTT) (body:PTS) (R:Ni):Prop where
 w:∃(inv:Γ->Prop) (μ:Γ->Nat),inv (clr js γ)/\∀γ',inv γ'->c γ' (λb=>if b=true then
  body {R with nx:=λγ3=>inv (clr js γ3)/\μ (clr js γ3)<μ γ',ct:=λγ3=>inv (clr js γ3)/\μ (clr js γ3)<μ γ',bk:=R.nx} γ' else R.nx γ') (R.ex γ')
noncomputable def GI(b:Ya)(c:PTT)(body:PTS):PTS:=λR γ=>LL b γ c body R
def Zgk(z:Ya)(L:Ka K mg E tt c)(hb:Xl K mg E t p):Xl K mg E (Mr tt t) (GI z c p):=by
 intro H0 B H σ γ R D hB G h e;obtain⟨C,J,h0,hs⟩:=h.w;refine⟨λm l H'=>∃f,m=J f/\C f/\Xd K H0 B H' l f/\Fr B H σ γ H' l f,⟨_,_,rfl,h0,(G.clr z).1,(G.clr z).2⟩,?_⟩;rintro m l H' ⟨f,rfl,hi,M,U⟩;refine L H0 B H' l f _ _ _ M (hs f hi) (λb H1 T S1=>?_) λc Q L S'=>e.ex l f c Q L (M.grow S') (U.trans<|Fr.grow S');have Y:=M.grow S1;have f1:=U.trans (Fr.grow S1);cases b with
 |false=>
  exact e.nx l f H1 T Y f1
 |true=>
  refine⟨λy N=>∃o,J o<J f/\C o/\Xd K H0 B N y o/\Fr B H σ γ N y o,λy N ⟨o,k,a1,a2,a3⟩=>⟨_,k,o,rfl,a1,a2,a3⟩,?_⟩;refine hb H0 B H1 l f _ _ hB Y T ⟨λg n A r s x=>?_,e.rt,λg n c A r s x=>e.ex g n c A r s (f1.trans x),λg n A r s x=>e.nx g n A r s (f1.trans x),λg n A r s x=>?_,λg n d v A r s x=>e.rv g n d v A r s (f1.trans x)⟩
  ·exact⟨_,r.2,r.1,(s.clr z).1,(f1.trans x).trans (s.clr z).2⟩
  ·exact⟨_,r.2,r.1,(s.clr z).1,(f1.trans x).trans (s.clr z).2⟩
end
section
variable {K:ZT}{mg:ZX}{E:L2.St->XK}{H0 H H1 H':Hp}{B Z Z':Addr->Prop}{σ:L2.St}{γ:Γ}
noncomputable def KR(N:Yc)(ds:List D):Γ:=ds.map (λd=>some (arg d))++List.replicate (N.length-ds.length) none
def Rw{ds vs}(r:Rps K H ds vs)(w:ds.length<=N.length):Xd K H (λb=>Mut (H b)) H (start N vs) (KR N ds):=by
 have get:∀i s,(KR N ds)[i]?=some (some s)->∃d,ds[i]?=some d/\s=arg d:=λi s h=>by
  unfold KR at h;by_cases g:i<ds.length
  ·rw[Qt (by rw[Wv];exact g),WH,Ww g]at h;exact⟨_,Ww g,(WL<|WL h).symm⟩
  ·rw[Q5 (by rw[Wv];lia),VU]at h;split at h<;>cases h
 have noown:∀(i:Nat) f,(KR N ds)[i]?≠some (some<|.own f):=λi f h=>by
  obtain⟨d,_,e⟩:=get i _ h;rcases Du d with q|q<;>rw[q]at e<;>cases e
 refine⟨Same.refl _,?_,λb h=>h,λi j a x f u b h=>absurd h (noown i f),λi s h=>?_⟩
 ·unfold L2.start KR;simp[r.len]
 ·obtain⟨d,hd,rfl⟩:=get i s h;obtain⟨v,n,o⟩:=r.get hd;refine⟨v,?_,?_⟩
  ·unfold L2.start;rw[Qt (by rw[Wv];exact(WI.mp n).1),WH,n];rfl
  ·have l:=NQ (Z:=zof (λb=>Mut (H b)) (KR N ds) (start N vs)) (H:=H) (λb z=>z.elim id λ⟨k,f,_,p,_⟩=>absurd p (noown k f)) (Same.refl _) o;rcases Du d with q|q<;>rw[q]at l ⊢<;>exact l
def O1{t p vs Q x n}(h:Xb mg c K vs H Q x)(o:Xl K mg (λ_=>x) t p)(J:n<=N.length)(q:∀ds R X,c ds R X->ds.length=n/\p {nx:=λ_=>R (.sh .non),rt:=R,ex:=λ_ e=>X e} (KR N ds)):t {nx:=λ_ H'=>Q .non H',rt:=Q} (start N vs) H:=by
 obtain⟨ds,R,X,r,A,w,C⟩:=h;obtain⟨e,q⟩:=q ds R X A;refine o H (λb=>Mut (H b)) H _ _ _ _ (λb z=>Sr z) (Rw r<|by lia) q ⟨λg l H' f u f1=>w _ _ H' f u.same .non,λs v H' f G y=>w s v H' f G y,λg l c H' f u f1=>C c H' f u.same,λ_ _ _ z=>z.elim,λ_ _ _ z=>z.elim,λ_ _ _ _ _ z=>z.elim⟩
def Zdz(h:Xb mg c K vs H Q g)(b:∀ds R X,c ds R X->ds.length=n):vs.length=n:=by
 obtain⟨ds,R,X,r,f,_⟩:=h;rw[r.len]
 grind
noncomputable def atP(φ:ZZ)(γ:Γ):Γ:=φ.map λo=>o.bind λj=>(γ[j]?).join
structure Ao (φ:ZZ) (γ:Γ) (g:PTG) (c:PTT) (e:PTE) (n:Nat) (item:Nat->S) (R:S->Prop):Prop where
 w:n<=100000/\∃f:Nat->Option D,(∀i,i<n->g (item i) (atP φ γ) λγ2=>c γ2 (λb=>if b=true then e γ2 (λs=>∃d,s.shd=some d/\f i=some d) (λ_=>False)else f i=none) (λ_=>False))/\R (.own ((List.range n).filterMap f))
noncomputable def Cv(φ:ZZ)(b:PTI)(g:PTG)(c:PTT)(e:PTE):PTE:=λγ R X=>b γ (λn item=>Ao φ γ g c e n item R) X
def Bt{i:Nat}{s}(h:(atP φ γ)[i]?=some (some s)):∃j,φ[i]?=some (some j)/\γ[j]?=some (some s):=by
 unfold atP at h;cases e:φ[i]? with
 |none=>grind
 |some o=>
  cases o with
  |_=>grind
theorem DB:∀{φ:ZZ},(φ.filterMap id).Nodup->∀(i j k:Nat),φ[i]?=some (some k)->φ[j]?=some (some k)->i=j
 |[],_,i,_,_,h,_=>by simp at h
 |none::r,l,i,j,k,f,b=>by
  cases i with
  |zero=>simp at f
  |succ i=>
   cases j with
   |zero=>simp at b
   |succ j=>exact Qs (· + 1) (DB (by simpa using l) i j k (by simpa using f)<|by simpa using b)
 |some m::r,l,i,j,k,f,b=>by
  have g:m∉r.filterMap id/\(r.filterMap id).Nodup:=by simpa using l
  have mem:∀{j:Nat},r[j]?=some (some k)->k∈r.filterMap id:=λh=>JC.mpr ⟨some k,Qa h,rfl⟩;cases i with
  |zero=>
   cases j with
   |zero=>rfl
   |succ j=>simp_all
  |succ i=>
   cases j with
   |zero=>simp_all
   |succ j=>exact Qs (· + 1) (DB g.2 i j k (by simpa using f)<|by simpa using b)
def BP{i j:Nat}(f:φ[i]?=some (some j)){v}(b:σ[j]?=some (some v)):(atStart φ σ)[i]?=some (some v):=by
 unfold atStart
 grind
def M5{L}(env:Xd K H0 B H σ γ)(r:H L=none):∀b o,H b=some o->¬zof B γ σ b->¬zof (λb=>zof B γ σ b\/b=L) (atP φ γ) (atStart φ σ) b:=λb o u z y=>by
 rcases y with(y|y)|⟨s,q,x,n,f,l⟩
 ·grind
 ·grind
 ·obtain⟨m,p,h⟩:=Bt n;obtain⟨w,g,_⟩:=env.slot m _ h;rw[BP p g]at f;exact z (.inr ⟨m,q,x,h,by rw[g];exact Qs some (WL f),l⟩)
def Zf7{L}(env:Xd K H0 B H σ γ)(n:Same H H')(M:H L=none)(N:∃r,H' L=some (.lst r))(q:(φ.filterMap id).Nodup) :
  Xd K H0 (λb=>zof B γ σ b\/b=L) H' (atStart φ σ) (atP φ γ):=by
 refine⟨env.same.trans n,by unfold atStart atP;simp,λb z=>?_,λi j a a' G es b h1 Y U C T Q=>?_,λi s h=>?_⟩
 ·rcases z with z|rfl
  ·exact P7 n (env.zm b z)
  ·obtain⟨r,e⟩:=N;rw[e];trivial
 ·obtain⟨k,g,f⟩:=Bt h1;obtain⟨l,A,y⟩:=Bt Y;obtain⟨v,p,_⟩:=env.slot k _ f;obtain⟨u,w,_⟩:=env.slot l _ y;rw[BP g p]at U;rw[BP A w]at C
  have:=env.own k l a a' G es b f y (by grind) (by rw[w];exact Qs some (WL C)) T Q
  subst this;exact DB q i j k g A
 ·obtain⟨k,g,f⟩:=Bt h;obtain⟨v,p,o⟩:=env.slot k _ f;have J:Same (off (zof B γ σ) H) (off (zof (λb=>zof B γ σ b\/b=L) (atP φ γ)<|atStart φ σ) H'):=Xm n (M5 env M);refine⟨v,BP g p,?_⟩;cases s with
  |sh d=>exact Rp.mono J o
  |own G=>
   obtain⟨a,e1,e3,e4⟩:=o;exact⟨a,e1,e3,e4.mono J λb _ x=>n b x⟩
  |_=>exact o
def Sub.of {f:Ya} (g:b.length=σ.length) (l:∀j,j∉f->b[j]?=σ[j]?) (n:∀j∈f,∀v,σ[j]?≠some (some v)):Sub σ b:=⟨g,λi v e=>by
 by_cases h:i∈f
 ·grind
 ·rw[l i h];exact e⟩
structure Zh0 (K:ZT) (H0:Hp) (B:Addr->Prop) (H1:Hp) (σ:L2.St) (γ:Γ) (J:It) (n:Nat) (item:Nat->S):Prop where
 go:∀(i:Nat) (H':Hp) (Z':Addr->Prop),i<n->Same H1 H'->Later H0 (zof B γ σ) H1 Z' H'->J.go i H'/\∀x H'',J.yld i H' x H''->Same H' H''/\TV K Z' H0 H' H'' (item i) x
 stop:∀(H':Hp) (Z':Addr->Prop),Same H1 H'->Later H0 (zof B γ σ) H1 Z' H'->J.stop n H'
def SO(K:ZT)(mg:ZX)(E:L2.St->XK)(b:TI)(f:PTI):Prop:=∀(H0:Hp) (B:Addr->Prop) (H:Hp) (σ:L2.St) (γ:Γ) (R:Nat->(Nat->S)->Prop) (X:XR) (Q:It->Hp->Prop),Xd K H0 B H σ γ->f γ R X->
 (∀n item J H1,R n item->Same H H1->Zh0 K H0 B H1 σ γ J n item->Q J H1)->(∀c H',X c->Same H H'->XE mg (E σ) c H')->b σ H Q
def SndI.c (h:SndI K mg E f l):SO K mg E f l:=λH0 B H σ γ R X Q b p q g=>
 h H0 B H σ γ R X Q b p (λn item J H1 r s ok=>q n item J H1 r s ⟨λi H' Z' o _ lt=>ok.go i H' Z' o lt,λH' Z' _ lt=>ok.stop H' Z' lt⟩) g
noncomputable def GS(a:PTE):PTI:=λγ R X=>a γ (λs=>match s.d with
 | .lst b=>R b.length λi=>s.sub (b.getD i .non)
 | .tup b=>False
 | .scr f=>R f.length λi=>.sh (.int<|f.getD i 0)
 |_=>False) X
def Nl(ha:UX K mg E te a):SO K mg E (BS K te) (GS a):=by
 intro H0 B H σ γ R X Q env h q qx;refine ha H0 B H σ γ _ X _ env h (λs v H1 h1 S1 L=>?_) qx;have T:=env.grow S1;split at h1
 ·rename_i ds M;have rv:=L.rp T.same;rw[M]at rv;obtain⟨l,Y,rfl,f,r1⟩:=rv.lst_inv;refine⟨l,rfl,⟨Y,SqL.of f⟩,q _ _ _ H1 h1 S1 ⟨λi H' Z' hi N lt=>?_,λH' Z' N lt=>⟨Y,SqL.of (N _ _ f),by rw[r1.len];exact W3 _⟩⟩⟩;have hd:ds[i]?=some (ds.getD i .non):=by rw[W7,Ww hi];rfl
  have hi':∃u,Y[i]?=some u/\TV K Z' H0 H' H' (s.sub<|ds.getD i .non) u:=by
   cases s with
   |bor d=>
    have L:=Rp.strip L;rw[show d.strip=.lst ds from M]at L
    obtain⟨U,p,J,A,w⟩:=Rp.lst_inv L;cases J
    rw[T.same _ _ A]at f;cases f
    obtain⟨u,o,g⟩:=w.get hd;exact⟨u,o,NQ lt.2.1 lt.1 g⟩
   |sh d=>
    have:=M
    subst this;obtain⟨U,p,J,A,w⟩:=Rp.lst_inv L;cases J
    rw[off_sub _ _ A]at f;cases f
    obtain⟨u,o,g⟩:=w.get hd;exact⟨u,o,Rp.mono lt.off g⟩
   |own G=>
    cases G with
    |dK G|dT G|ins x C xs cs|nst cs|tl x G n|er l C r=>cases M
    |nsl x cs|vls x C xs ws=>
     obtain⟨u,o,g⟩:=r1.get hd;exact⟨u,o,K6 lt.2.1 (Rp.mono N g)⟩
    |lsA x G=>
     cases M
     obtain⟨U,J,h0,_,p,A,w⟩:=L;cases J
     rw[A]at f;cases f
     obtain⟨u,o,g⟩:=w.get hd;exact⟨u,o,Rp.mono lt.off (Rp.mono (Xm (Same.refl _) λb _ _ z y=>z (.inl y)) g)⟩
    |lst G=>
    cases M
    obtain⟨U,J,h0,p,A,w⟩:=L;cases J
    rw[A]at f;cases f
    obtain⟨u,o,g⟩:=w.get hd;exact⟨u,o,Rp.mono lt.off (Rp.mono (Xm (Same.refl _) λb _ _ z y=>z (.inl y)) g)⟩
   |view G=>
    cases G with
    |dK G|dT G|ins x C xs cs|nst cs|tl x G n|er l C r=>cases M
    |nsl x cs|vls x C xs ws=>
     obtain⟨u,o,g⟩:=r1.get hd;exact⟨u,o,K6 lt.2.1 (Rp.mono N g)⟩
    |lsA x G=>
     cases M
     obtain⟨U,J,_,p,A,w⟩:=L;cases J
     rw[A]at f;cases f
     obtain⟨u,o,g⟩:=w.get hd;exact⟨u,o,Rp.mono lt.off g⟩
    |lst G=>
    cases M
    obtain⟨U,J,p,A,w⟩:=L;cases J
    rw[A]at f;cases f
    obtain⟨u,o,g⟩:=w.get hd;exact⟨u,o,Rp.mono lt.off g⟩
   |tmp d=>
    have:=M
    subst this;obtain⟨U,p,J,A,w⟩:=Rp.lst_inv L;cases J
    rw[A]at f;cases f
    obtain⟨u,o,g⟩:=w.get hd;exact⟨u,o,K6 lt.2.1 (Rp.mono N g)⟩
  obtain⟨u,hu,tu⟩:=hi';refine⟨⟨Y,u,SqL.of (N _ _ f),hu⟩,λx H'' y=>?_⟩;obtain⟨rfl,y⟩:=y
  have:=y Y (SqL.of<|N _ _ f)
  rw[hu]at this;cases this
  exact⟨Same.refl _,tu⟩
 ·exact h1.elim
 ·rename_i ns M;have rv:=L.rp T.same;rw[M]at rv;cases rv with
  |scr hs=>
   refine⟨_,rfl,⟨_,hs⟩,q _ _ _ H1 h1 S1 ⟨λi H' Z' hi N lt=>?_,λH' Z' N lt=>⟨_,N.seq hs,by rw[Wv];exact W3 _⟩⟩⟩
   have hu:(ns.map V.int)[i]?=some (.int<|ns.getD i 0):=by
    rw[WH,Ww hi,W7,Ww hi];rfl
   refine⟨⟨_,_,N.seq hs,hu⟩,λx H'' y=>?_⟩;obtain⟨rfl,y⟩:=y
   have:=y _ (N.seq hs)
   rw[hu]at this;cases this
   exact⟨Same.refl _,.int _⟩
 ·exact h1.elim
def Pf{φ is wi g tc te it pg c a}(hi:SO K mg E wi it)(hg:TN K is g pg)(hc:Ka K mg E tc c)(he:UX K mg E te a)(h1:autoParam ((φ.filterMap id).Nodup) au_1)(h2:autoParam (∀j∈is,φ[j]?=some none) au_1):UX K mg E (SB φ wi g tc te) (Cv φ it pg c a):=by
 intro H0 B H σ γ R X Q env h q qx;refine hi H0 B H σ γ _ X _ env h (λn item J H1 h1' S1 ok=>?_) qx;obtain⟨hn,f,hf,hR⟩:=h1'.w;have l:=env.grow S1;have hbig:n<=sizeLine:=W9 hn (by decide);intro L U;refine⟨λi m G C=>m=n-i/\i<=n/\Same H1 C/\C L=some (.lst G)/\Rps K (off (λb=>zof B γ σ b\/b=L) C) ((List.range i).filterMap f) G,⟨n,by simp,QM _,X4 U,Xk,.nil⟩,?_⟩;rintro i m G C ⟨rfl,hin,u,hL,p⟩;have A:=l.grow u;by_cases r:i<n
 ·have envI2:=Zf7 l u U ⟨G,hL⟩ h1;obtain⟨go,yl⟩:=ok.go i C _ r u ⟨A.same,envI2.zm,λb o Y z=>⟨u _ _ Y,M5 l U b o Y z⟩⟩;refine .inr ⟨go,λx H3 y=>?_⟩;obtain⟨S3,tv⟩:=yl x H3 y;refine hg H0 _ C H3 _ _ _ _ _ _ envI2 S3 tv (hf i r) λN T p2 e2 f2 k2=>⟨?_,?_⟩
  ·refine Sub.of k2.2 k2.1 λj hj v z=>?_;obtain⟨k,k1,_⟩:=En z;rw[h2 j hj]at k1;cases k1
  ·refine hc H0 _ H3 N T _ _ _ e2 p2 (λb H5 q5 S5=>?_) λ_ _ z=>z.elim;have e5:=e2.grow S5;cases b with
   |false=>
    rw[W2 WR]at q5 ⊢;refine⟨n-(i+1),by lia,rfl,r,(u.trans S3).trans S5,(S3.trans S5) _ _ hL,?_⟩;rw[List.range_succ,V8];simp only[QZ,q5,List.filterMap_nil,Qn];exact Rps.mono (Xm (S3.trans S5) λ_ _ _ z=>z) p
   |true=>
    refine he H0 _ H5 N T _ _ _ e5 q5 (λs v H6 q6 S6 t6=>?_) λ_ _ z=>z.elim;obtain⟨d,hd,hfd⟩:=q6;have M:=(S3.trans S5).trans S6
    have hlen:G.length<=i:=by
     rw[p.len];exact W9 (List.length_filterMap_le _ _) (by rw[List.length_range];exact W3 _)
    refine⟨M _ _ hL,by lia,n-(i+1),by lia,rfl,r,λb o Y=>?_,Xk,?_⟩
    ·rw[Xa (Xy Y U)];exact M _ _ (u _ _ Y)
    ·rw[List.range_succ,V8];have ef:[i].filterMap f=[d]:=by simp[hfd]
     rw[ef]
     have So:Same (off (λb=>zof B γ σ b\/b=L) H6) (off (λb=>zof B γ σ b\/b=L)<|upd H6 L<|.lst (G++[v])):=λb o h=>by
      obtain⟨a1,a2⟩:=P6 h;refine X8 ?_ a2;rwa[Xa λz=>a2 (.inr z)]
     refine Rps.append (Rps.mono So<|Rps.mono (Xm M λ_ _ _ z=>z) p) (.cons (Rp.mono So<|Rp.mono (Xm (Same.refl _) λb _ _ z y=>z (.inl y)) (t6.shd (e5.grow S6).same e5.zm S6 hd)) .nil)
 ·have:i=n:=by lia
  subst this;exact .inl ⟨ok.stop C _ u (Later.of A<|Fr.grow u),q _ _ C hR (S1.trans u) ⟨L,rfl,(λ_ e=>e▸S1.free U),G,hL,p⟩⟩
noncomputable def EO:PTT:=λ_ R _=>R true
def Nz:Ka K mg E El EO:=λ_ _ H _ _ _ _ _ _ p q _=>q _ H p (Same.refl _)
def Zih{b g:Type}(xs:List b)(f:b->Option g):(List.range xs.length).filterMap (λi=>(xs[i]?).bind f)=xs.filterMap f:=by
 induction xs with
 |nil=>rfl
 |cons x r h=>
  rw[WW,List.range_succ_eq_map,QZ,List.filterMap_map,QZ];have e:(λi=>((x::r)[i]?).bind f)∘Nat.succ=λi=>(r[i]?).bind f:=rfl;rw[e,h];rfl
end
open M
section
variable {K:ZT}{mg:ZX}{E:L2.St->XK}{H0 H H1 H':Hp}{B Z Z':Addr->Prop}{σ:L2.St}{γ:Γ}
noncomputable def pCB(f:List S->(S->Prop)->Prop)(r:PTA):PTE:=λγ R X=>r γ (λb=>f b R) X
def KQ{f o r}(A:Xq K mg E o r)(h:∀H0 H H1 Z l vs R Q,Same H0 H1->Same H H1->(∀b,Z b->Mut (H b))->TVs K Z H0 H H1 l vs->f l R->(∀s z H',R s->Same H1 H'->TV K Z H0 H H' s z->Q z H')->w vs H1 Q) :
  UX K mg E (tCB w o) (pCB f r):=by
 intro H0 B H σ γ R X Q g p q x;refine A H0 B H σ γ _ X _ g p (λl vs H1 C n v=>?_) x;exact h H0 H H1 _ l vs R Q (g.grow n).same n g.zm v C λs z H' y G u=>q s z H' y (n.trans G) u
noncomputable def S.free:S->List D->Bool
 | .bor _,b=>XO b | .tmp _,b=>XO b | .view (.nst _),b=>XO b | .view (.nsl _ _),b=>XO b | .view (.vls _ _ _ _),b=>XO b | .own (.tl _ _ _),_=>false | .view (.tl _ _ _),_=>false|_,_=>true
def TVs.one_inv (h:TVs K Z H0 H H' [s] vs):∃v,vs=[v]/\TV K Z H0 H H' s v:=by
 cases h with
 |cons h r=>cases r;exact⟨_,rfl,h⟩
def TVs.two_inv (h:TVs K Z H0 H H' [s,t] vs):∃v u,vs=[v,u]/\TV K Z H0 H H' s v/\TV K Z H0 H H' t u:=by
 cases h with
 |cons h r=>cases r with|cons b r=>cases r;exact⟨_,_,rfl,h,b⟩
def TV.items (u:Same H0 H') (w:∀b,Z b->Mut (H b)) (J:Same H H') (h:TV K Z H0 H H' s v) (q:s.free ds=true) :
  (s.d=.lst ds->∃a vs,v=.ref a/\H' a=some (.lst vs)/\Rps K (off Z H') ds vs)/\(s.d=.tup ds->∃a vs,v=.ref a/\H' a=some (.tup vs)/\Rps K (off Z H') ds vs):=by
 have g:=λb z=>P7 J (w b z);cases s with
 |bor d=>
  have h:=Rp.strip h;refine⟨λe=>?_,λe=>?_⟩<;>rw[show d.strip=_ from e]at h
  ·obtain⟨a,vs,rfl,f,r⟩:=Rp.lst_inv h;exact⟨a,vs,rfl,u _ _ f,Rps.off g (Rps.mono u r) q⟩
  ·obtain⟨a,vs,rfl,f,r⟩:=Rp.tup_inv h;exact⟨a,vs,rfl,u _ _ f,Rps.off g (Rps.mono u r) q⟩
 |sh d=>
  refine⟨λe=>?_,λe=>?_⟩<;>(have A:=e;subst A)
  ·obtain⟨a,vs,rfl,f,r⟩:=Rp.lst_inv h;exact⟨a,vs,rfl,off_sub _ _ f,r⟩
  ·obtain⟨a,vs,rfl,f,r⟩:=Rp.tup_inv h;exact⟨a,vs,rfl,off_sub _ _ f,r⟩
 |own p=>
  cases p with
  |nsl x G|vls x C xs L=>
   refine⟨λe=>?_,λe=>by cases e⟩;have o:=h.shd u w J rfl;cases e
   obtain⟨a,vs,rfl,f,r⟩:=Rp.lst_inv o;exact⟨a,vs,rfl,off_sub _ _ f,r⟩
  |tl x p n=>cases q
  |er l C r=>exact⟨(λe=>by cases e),(λe=>by cases e)⟩
  |nst G=>
   refine⟨(λe=>by cases e),λe=>?_⟩;have o:=h.shd u w J rfl;cases e
   obtain⟨a,vs,rfl,f,r⟩:=Rp.tup_inv o;exact⟨a,vs,rfl,off_sub _ _ f,r⟩
  |lst p=>
   refine⟨λe=>?_,λe=>by cases e⟩;cases e
   obtain⟨a,rfl,M,vs,e,r⟩:=h;exact⟨a,vs,rfl,e,Rps.mono (Xm (Same.refl _) λb _ _ z y=>z (.inl y)) r⟩
  |lsA x p=>
   refine⟨λe=>?_,λe=>by cases e⟩;cases e
   obtain⟨a,rfl,M,_,vs,e,r⟩:=h;exact⟨a,vs,rfl,e,Rps.mono (Xm (Same.refl _) λb _ _ z y=>z (.inl y)) r⟩
  |_=>exact⟨(λe=>by cases e),(λe=>by cases e)⟩
 |view p=>
  cases p with
  |nsl x G|vls x C xs L=>
   refine⟨λe=>?_,λe=>by cases e⟩;have o:=h.rp u;rw[e]at o;obtain⟨a,vs,rfl,f,r⟩:=Rp.lst_inv o;exact⟨a,vs,rfl,f,Rps.off g r q⟩
  |tl x p n=>cases q
  |er l C r=>exact⟨(λe=>by cases e),(λe=>by cases e)⟩
  |nst G=>
   refine⟨(λe=>by cases e),λe=>?_⟩;have o:=h.rp u;rw[e]at o;obtain⟨a,vs,rfl,f,r⟩:=Rp.tup_inv o;exact⟨a,vs,rfl,f,Rps.off g r q⟩
  |lst p=>
   refine⟨λe=>?_,λe=>by cases e⟩;cases e
   obtain⟨a,rfl,vs,e,r⟩:=h;exact⟨a,vs,rfl,e,r⟩
  |lsA x p=>
   refine⟨λe=>?_,λe=>by cases e⟩;cases e
   obtain⟨a,rfl,_,vs,e,r⟩:=h;exact⟨a,vs,rfl,e,r⟩
  |_=>exact⟨(λe=>by cases e),(λe=>by cases e)⟩
 |tmp d=>
  refine⟨λe=>?_,λe=>?_⟩<;>(have A:=e;subst A)
  ·obtain⟨a,vs,rfl,f,r⟩:=Rp.lst_inv h;exact⟨a,vs,rfl,f,Rps.off g r q⟩
  ·obtain⟨a,vs,rfl,f,r⟩:=Rp.tup_inv h;exact⟨a,vs,rfl,f,Rps.off g r q⟩
def Ce:List S->(S->Prop)->Prop
 |[s],R=>(match s.d with
  | .lst f=>R (.sh<|.int f.length) | .tup f=>R (.sh<|.int f.length) | .scr b=>R (.sh<|.int b.length) | .fL b=>R (.sh<|.int b.length) | .str x=>x.length<=sizeLine/\R (.sh<|.int x.length)|_=>False)
 |_,_=>False
def T9(A:Xq K mg E u r):UX K mg E (tCB (λxs H Q=>∃x n,xs=[x]/\Fg K x H n/\Q (.int n) H) u) (pCB Ce r):=by
 refine KQ A λH0 H H1 Z J G R Q y L M p h q=>?_;unfold Ce at h;split at h
 ·rename_i s;obtain⟨v,rfl,w⟩:=p.one_inv;have b:=w.rp y;split at h
  ·rename_i C e;rw[e]at b;obtain⟨a,f,rfl,o,g⟩:=b.lst_inv;exact⟨_,_,rfl,.inl ⟨f,SqL.of o,rfl⟩,by rw[g.len];exact q _ _ H1 h (Same.refl _) (.int _)⟩
  ·rename_i C e;rw[e]at b;obtain⟨a,f,rfl,o,g⟩:=b.tup_inv;exact⟨_,_,rfl,.inr ⟨f,SqT.of o,rfl⟩,by rw[g.len];exact q _ _ H1 h (Same.refl _) (.int _)⟩
  ·rename_i z e;rw[e]at b;cases b with
   |scr l=>exact⟨_,_,rfl,.inl ⟨_,l,rfl⟩,by rw[Wv];exact q _ _ H1 h (Same.refl _) (.int _)⟩
  ·rename_i z e;rw[e]at b;cases b with
   |fL l=>exact⟨_,_,rfl,.inl ⟨_,SqL.of l,rfl⟩,by rw[Wv];exact q _ _ H1 h (Same.refl _) (.int _)⟩
  ·rename_i x e;rw[e]at b;rw[b.str_inv];exact⟨_,_,rfl,⟨h.1,rfl⟩,q _ _ H1 h.2 (Same.refl _) (.int _)⟩
  ·exact h.elim
 ·exact h.elim
def LH:List S->(S->Prop)->Prop
 |[s],R=>(match s.d with
  | .lst b=>s.free b=true/\R (.own b) | .tup b=>s.free b=true/\R (.own b)|_=>False)
 |_,_=>False
def N6(C:Xq K mg E A r):UX K mg E (tCB (λxs H Q=>∃p g,xs=[.ref p]/\(SqL K H p g\/SqT K H p g)/\∀l,H l=none->Q (.ref l) (upd H l<|.lst g)) A) (pCB LH r):=by
 refine KQ C λH0 H H1 Z L J R Q x f y z h q=>?_;unfold LH at h;split at h
 ·rename_i s;obtain⟨v,rfl,w⟩:=z.one_inv;split at h
  ·rename_i G e;obtain⟨a,n,rfl,u,o⟩:=(w.items x y f h.1).1 e;exact⟨a,n,rfl,.inl (SqL.of u),λl b=>q _ _ _ h.2 (X4 b) (N5 f b o)⟩
  ·rename_i G e;obtain⟨a,n,rfl,u,o⟩:=(w.items x y f h.1).2 e;exact⟨a,n,rfl,.inr (SqT.of u),λl b=>q _ _ _ h.2 (X4 b) (N5 f b o)⟩
  ·grind
 ·grind
def EB:List S->(S->Prop)->Prop
 |[s],R=>(match s.d with
  | .lst b=>s.free b=true/\R (.sh<|.tup b) | .tup b=>s.free b=true/\R (.sh<|.tup b)|_=>False)
 |_,_=>False
def HX(L:Xq K mg E J r):UX K mg E (tCB (λxs H Q=>∃p n,xs=[.ref p]/\((SqL K H p n/\∀l,H l=none->Q (.ref l) (upd H l<|.tup n))\/(SqT K H p n/\Q (.ref p) H))) J) (pCB EB r):=by
 refine KQ L λH0 H H1 Z T N R Q C u y G h q=>?_;have f:=λb z=>P7 u (y b z);unfold EB at h;split at h
 ·rename_i s;obtain⟨v,rfl,A⟩:=G.one_inv;split at h
  ·rename_i M e;obtain⟨a,o,rfl,g,w⟩:=(A.items C y u h.1).1 e;refine⟨a,o,rfl,.inl ⟨SqL.of g,λl x=>q _ _ _ h.2 (X4 x) (.tup (X8 Xk λz=>?_)<|Rps.mono (Xm (X4 x) λ_ _ _ z=>z) w)⟩⟩
   have:=f l z
   rw[x]at this;exact this
  ·rename_i M e;obtain⟨a,o,rfl,g,w⟩:=(A.items C y u h.1).2 e;refine⟨a,o,rfl,.inr ⟨SqT.of g,q _ _ _ h.2 (Same.refl _) (.tup (X8 g λz=>?_) w)⟩⟩
   have:=f a z
   rw[g]at this;exact this
  ·grind
 ·exact h.elim
theorem Rps.ints:∀{b:ZV}{vs:List V},Rps K H (b.map D.int) vs->vs=b.map V.int
 |[],_,.nil=>rfl
 |j::r,_,.cons h t=>by rw[Rp.int_inv h,Rps.ints t];rfl
theorem Rps.of_ints:∀(b:ZV),Rps K H (b.map D.int) (b.map V.int)
 |[]=>.nil
 |j::r=>.cons (.int j) (Rps.of_ints r)
def Ip:List S->(S->Prop)->Prop
 |[s],R=>∃f:ZV,s.d=.lst (f.map D.int)/\f.length<64/\∀b:ZV,b.Perm f->b.Pairwise (·<=·)->R (.own<|b.map D.int)
 |_,_=>False
def Bf{f r}(J:Xq K mg E f r):UX K mg E (tCB (λxs H Q=>∃p b,xs=[.ref p]/\b.length<64/\(SqL K H p (b.map V.int)\/H p=some (T7 w p b))/\
  ∀l (ns:ZV),H l=none->ns.Perm b->ns.Pairwise (·<=·)->Q (.ref l) (upd H l<|.lst<|ns.map V.int)) f) (pCB Ip r):=by
 refine KQ J λH0 H H1 Z T M R Q z y U u h q=>?_;unfold Ip at h;split at h
 ·rename_i s;obtain⟨v,rfl,x⟩:=u.one_inv;obtain⟨b,e,C,k⟩:=h;have g:=x.rp z;rw[e]at g;obtain⟨a,N,rfl,o,A⟩:=g.lst_inv;rw[A.ints]at o;exact⟨a,b,rfl,C,.inl (SqL.of o),λl ns n L G=>q _ _ _ (k ns L G) (X4 n) (N5 y n<|Rps.of_ints ns)⟩
 ·grind
def Hf:List S->(S->Prop)->Prop
 |[s,t],R=>(match s.d,t.d with | .int i,.int j=>R (.sh<|.int (if j>i then j else i))|_,_=>False)
 |_,_=>False
def Hq:List S->(S->Prop)->Prop
 |[s,t],R=>(match s.d,t.d with | .int i,.int j=>R (.sh<|.int (if j<i then j else i))|_,_=>False)
 |_,_=>False
def Zgm(s:Xq K mg E n r):UX K mg E (tCB (λxs H Q=>∃i j,xs=[.int i,.int j]/\Q (.int (if j>i then j else i)) H) n) (pCB Hf r):=by
 refine KQ s λH0 H H1 Z z y R Q b A C l h q=>?_;unfold Hf at h;split at h
 ·obtain⟨v,u,rfl,p,o⟩:=l.two_inv;have g:=p.rp b;have f:=o.rp b;split at h
  ·rename_i i j x w;rw[x]at g;rw[w]at f;rw[g.int_inv,f.int_inv];exact⟨i,j,rfl,q _ _ H1 h (Same.refl _) (.int _)⟩
  ·grind
 ·grind
def Zcv(s:Xq K mg E n r):UX K mg E (tCB (λxs H Q=>∃i j,xs=[.int i,.int j]/\Q (.int (if j<i then j else i)) H) n) (pCB Hq r):=by
 refine KQ s λH0 H H1 Z z y R Q b A C l h q=>?_;unfold Hq at h;split at h
 ·obtain⟨v,u,rfl,p,o⟩:=l.two_inv;have g:=p.rp b;have f:=o.rp b;split at h
  ·rename_i i j x w;rw[x]at g;rw[w]at f;rw[g.int_inv,f.int_inv];exact⟨i,j,rfl,q _ _ H1 h (Same.refl _) (.int _)⟩
  ·grind
 ·grind
def Zoi:List S->(S->Prop)->Prop
 |[s],R=>(match s.d with | .int i=>R (.sh<|.int (if i<0 then -i else i))|_=>False)
 |_,_=>False
noncomputable def tyD:D->Option String
 | .int _=>some "int" | .bl _=>some "bool" | .non=>some "NoneType" | .str _=>some "str" | .tup _=>some "tuple" | .lst _=>some "list" | .fL _=>some "list" | .dK _=>some "dict" | .dT _=>some "dict" |_=>none
inductive XW:String->String->Bool->Prop
 |same (n:String):XW n n true
 |ib:XW "int" "bool" false
 |bi:XW "bool" "int" true
 |tl:XW "tuple" "list" false
 |lt:XW "list" "tuple" false
 |it:XW "int" "tuple" false
 |il:XW "int" "list" false
 |bt:XW "bool" "tuple" false
 |bL:XW "bool" "list" false
 |ti:XW "tuple" "int" false
 |li:XW "list" "int" false
 |si:XW "str" "int" false
 |is:XW "int" "str" false
 |ni:XW "NoneType" "int" false
 |nl:XW "NoneType" "list" false
 |nt:XW "NoneType" "tuple" false
def XW.kit (h:XW m n b):PySem.W.kitOne K (.type m) (.type n)=some b:=by
 cases h with
 |same=>exact Zmn K _
 |_=>rfl
def Lz:List S->(S->Prop)->Prop
 |[s,t],R=>(match tyD s.d,t.d with|some m,.ty n=>∃b,XW m n b/\R (.sh<|.bl b)|_,_=>False)
 |_,_=>False
def Zkg(h:Rp K H d v)(e:tyD d=some m):Kq K H v (.type m):=by
 cases h with
 |int i=>cases e;exact .int i
 |bl b=>cases e;exact .bl b
 |non=>cases e;exact .non
 |str x=>cases e;exact .str x
 |tup h r=>cases e;exact .tup h
 |lst h r=>cases e;exact .lst h
 |dK h=>cases e;exact .dK h
 |dT h=>cases e;exact .dT h
 |fL h=>cases e;exact .lst h
 |_=>cases e
def Sy(w:Xq K mg E o r):UX K mg E (tCB (λxs H Q=>∃x n t b,xs=[x,.ty n]/\Kq K H x t/\PySem.W.kitOne K t (.type n)=some b/\Q (.bl b) H) o) (pCB Lz r):=by
 refine KQ w λH0 H H1 Z G C R Q f J L l h q=>?_;unfold Lz at h;split at h
 ·obtain⟨v,u,rfl,s,p⟩:=l.two_inv;have g:=p.rp f;split at h
  ·rename_i m n A z;rw[z]at g;rw[g.ty_inv];obtain⟨b,k,y⟩:=h;exact⟨v,n,_,b,rfl,Zkg (s.rp f) A,k.kit,q _ _ H1 y (Same.refl _) (.bl _)⟩
  ·grind
 ·grind
noncomputable def pBM(f:S->List S->(S->Prop)->Prop)(a:PTE)(r:PTA):PTE:=λγ R X=>a γ (λs=>(∃g,s.d=.lst g)/\r γ (λb=>f s b R) X) X
def Zaw{f te y a r}(ha:UX K mg E te a)(U:Xq K mg E y r)(h:∀H0 H H1 Z s v u vs R Q,Same H0 H1->Same H H1->(∀b,Z b->Mut (H b))->TV K Z H0 H H1 s v->TVs K Z H0 H H1 u vs->f s u R->(∀s z H',R s->Same H1 H'->TV K Z H0 H H' s z->Q z H')->N v vs H1 Q) :
  UX K mg E (tBM K "list" N te y) (pBM f a r):=by
 intro H0 B H σ γ R X Q n p q G;refine ha H0 B H σ γ _ X _ n p (λs v H1 x o A=>?_) G;have g:=n.grow o;obtain⟨⟨ds,ed⟩,x⟩:=x;have C:=A.rp g.same;rw[ed]at C;obtain⟨l,J,rfl,Y,_⟩:=C.lst_inv;refine⟨.inl ⟨rfl,J,SqL.of Y⟩,U H0 B H1 σ γ _ X _ g x (λu vs H2 h2 w M=>?_) λc H' hc S'=>G c H' hc (o.trans S')⟩;exact h H0 H H2 _ s _ u vs R Q (g.grow w).same (o.trans w) n.zm (A.grow w) (TVs.weakG o M) h2 λs z H' T S3 L=>q s z H' T ((o.trans w).trans S3) L
def Ed:S->List S->(S->Prop)->Prop:=λs b R=>match b with
 |[t]=>(match t.d with | .int z=>∃xs:ZV,s.d=.lst (xs.map D.int)/\z∈xs/\R (.sh<|.int (xs.idxOf z:Nat))|_=>False)
 |_=>False
def Zaz{a r}(C:UX K mg E te a)(A:Xq K mg E p r):UX K mg E (tBM K "list" (F4 K) te p) (pBM Ed a r):=by
 refine Zaw C A λH0 H H1 Z s v M J R Q g N T x w h q=>?_;unfold Ed at h;split at h
 ·obtain⟨u,rfl,f⟩:=w.one_inv;have n:=f.rp g;split at h
  ·rename_i z e;rw[e]at n;obtain⟨xs,ex,y,G⟩:=h;have b:=x.rp g;rw[ex]at b;obtain⟨l,L,rfl,o,b⟩:=b.lst_inv;rw[b.ints]at o;exact⟨l,xs,z,rfl,by rw[n.int_inv],SqL.of o,y,q _ _ H1 G (Same.refl _) (.int _)⟩
  ·grind
 ·exact h.elim
noncomputable def prD(p:Int×Int):D:=.tup [.int p.1,.int p.2]
inductive InR:D->D->Bool->Prop
 |li (i:Int) (hs:ZV):InR (.int i) (.lst<|hs.map D.int) (decide (i∈hs))
 |ti (i:Int) (hs:ZV):InR (.int i) (.tup<|hs.map D.int) (decide (i∈hs))
 |lp (q:Int×Int) (ps:ZU):InR (prD q) (.lst<|ps.map prD) (decide (q∈ps))
def fIn(neg:Bool):S->S->(S->Prop)->Prop:=λx y R=>∃b,InR x.d y.d b/\R (.sh<|.bl (if neg then !b else b))
def Rp.pair (h:Rp K H (prD q) v):KC H v q:=by
 obtain⟨a,l,rfl,b,r⟩:=Rp.tup_inv h;obtain⟨x,y,rfl,g,f⟩:=r.two_inv;rw[g.int_inv,f.int_inv]at b;exact⟨a,rfl,b⟩
def Rps.lv {vs} (h:Rps K H (ps.map prD) vs):LV KC H vs ps:=by
 refine⟨by rw[h.len,Wv],λi p b=>?_⟩;obtain⟨v,g,f⟩:=h.get (by rw[WH,b];rfl);exact⟨v,g,f.pair⟩
def F1{C A a b}(U:UX K mg E C a)(T:UX K mg E A b):UX K mg E (tOp (λx y H Q=>rIn K neg x y H Q\/SG neg x y H Q) C A) (p2 a b<|fIn neg):=by
 refine KN U T λH0 H z Z x y v u R Q G Y hm L J h q=>?_;obtain⟨k,s,w⟩:=h;have n:=L.rp G;have g:=J.rp G;generalize ex:x.d=dx at s n;generalize ey:y.d=dy at s g;cases s with
 |li i N=>
  obtain⟨l,o,rfl,f,r⟩:=g.lst_inv;rw[r.ints]at f;rw[n.int_inv];refine .inl ⟨l,_,rfl,.inl (SqL.of f),rfl,Tj _,?_⟩;rw[Mb];exact q _ _ z w (Same.refl _) (.bl _)
 |ti i N=>
  obtain⟨l,o,rfl,f,r⟩:=g.tup_inv;rw[r.ints]at f;rw[n.int_inv];refine .inl ⟨l,_,rfl,.inr (SqT.of f),rfl,Tj _,?_⟩;rw[Mb];exact q _ _ z w (Same.refl _) (.bl _)
 |lp p M=>
  obtain⟨l,o,rfl,f,r⟩:=g.lst_inv;exact .inr ⟨l,M,p,rfl,n.pair,⟨o,f,r.lv⟩,q _ _ z w (Same.refl _) (.bl _)⟩
def ND(neg:Bool):S->S->(S->Prop)->Prop:=λx y R=>match x.d,y.d with
 | .lst g,.lst f=>∃xs b:ZV,g=xs.map D.int/\f=b.map D.int/\R (.sh<|.bl (if neg then !decide (xs=b)else decide (xs=b)))
 |_,_=>fEq neg x y R
def TR{a b}(T:UX K mg E L a)(N:UX K mg E J b):UX K mg E (tOp (λx y H Q=>rEq x y H Q\/P4 K false x y H Q) L J) (p2 a b<|ND false):=by
 refine KN T N λH0 H p Z x y v u R Q w s1 s G C h q=>?_;have g:=G.rp w;have f:=C.rp w;unfold ND at h;split at h
 ·rename_i ds es o n;obtain⟨xs,Y,rfl,rfl,U⟩:=h;rw[o]at g;rw[n]at f;obtain⟨l,us,rfl,A,r⟩:=g.lst_inv;obtain⟨m,ws,rfl,s,M⟩:=f.lst_inv;rw[r.ints]at A;rw[M.ints]at s;refine .inr ⟨l,m,_,_,rfl,rfl,SqL.of A,SqL.of s,Tj _,Tj _,?_⟩;rw[Cf];exact q _ _ p U (Same.refl _) (.bl _)
 ·refine .inl ?_;unfold fEq at h;split at h
  ·rename_i i j o n;rw[o]at g;rw[n]at f;rw[g.int_inv,f.int_inv];refine⟨rfl,?_⟩;rw[N1 λ_ _ z=>V.int.inj z];exact q _ _ p h (Same.refl _) (.bl _)
  ·rename_i i j o n;rw[o]at g;rw[n]at f;rw[g.str_inv,f.str_inv];refine⟨rfl,?_⟩;rw[N1 λ_ _ z=>V.str.inj z];exact q _ _ p h (Same.refl _) (.bl _)
  ·rename_i i j o n;rw[o]at g;rw[n]at f;rw[g.bl_inv,f.bl_inv];refine⟨rfl,?_⟩;rw[N1 λ_ _ z=>V.bl.inj z];exact q _ _ p h (Same.refl _) (.bl _)
  ·exact h.elim
def Fc{a b}(T:UX K mg E L a)(N:UX K mg E J b):UX K mg E (tOp (λx y H Q=>rNe x y H Q\/P4 K true x y H Q) L J) (p2 a b<|ND true):=by
 refine KN T N λH0 H p Z x y v u R Q w s1 s G C h q=>?_;have g:=G.rp w;have f:=C.rp w;unfold ND at h;split at h
 ·rename_i ds es o n;obtain⟨xs,Y,rfl,rfl,U⟩:=h;rw[o]at g;rw[n]at f;obtain⟨l,us,rfl,A,r⟩:=g.lst_inv;obtain⟨m,ws,rfl,s,M⟩:=f.lst_inv;rw[r.ints]at A;rw[M.ints]at s;refine .inr ⟨l,m,_,_,rfl,rfl,SqL.of A,SqL.of s,Tj _,Tj _,?_⟩;rw[Cf];exact q _ _ p U (Same.refl _) (.bl _)
 ·refine .inl ?_;unfold fEq at h;split at h
  ·rename_i i j o n;rw[o]at g;rw[n]at f;rw[g.int_inv,f.int_inv];refine⟨rfl,?_⟩;rw[N1 λ_ _ z=>V.int.inj z];exact q _ _ p h (Same.refl _) (.bl _)
  ·rename_i i j o n;rw[o]at g;rw[n]at f;rw[g.str_inv,f.str_inv];refine⟨rfl,?_⟩;rw[N1 λ_ _ z=>V.str.inj z];exact q _ _ p h (Same.refl _) (.bl _)
  ·rename_i i j o n;rw[o]at g;rw[n]at f;rw[g.bl_inv,f.bl_inv];refine⟨rfl,?_⟩;rw[N1 λ_ _ z=>V.bl.inj z];exact q _ _ p h (Same.refl _) (.bl _)
  ·exact h.elim
noncomputable abbrev IT(K:ZT)(b:TE):TT:=λσ H Q=>b σ H λx H'=>∃k,BC K x H' k/\Q k H'
noncomputable def Iv(a:PTE):PTT:=λγ R X=>a γ (λx=>match x.d with
 | .bl b=>R b | .lst f=>R (!f.isEmpty) | .tup f=>R (!f.isEmpty) | .int i=>R (i != 0) | .non=>R false|_=>False) X
def BW{f b:Type}{l:List f}{m:List b}(h:l.length=m.length):l.isEmpty=m.isEmpty:=by
 cases l<;>cases m<;>simp at h ⊢
def EJ(y:UX K mg E te a):Ka K mg E (IT K te) (Iv a):=by
 intro H0 B H σ γ R X Q o p q w;refine y H0 B H σ γ _ X _ o p (λx v H1 g h u=>?_) w;have f:=u.rp (o.grow h).same;split at g
 ·rename_i b e;rw[e]at f;rw[f.bl_inv];exact⟨b,rfl,q _ H1 g h⟩
 ·rename_i z e;rw[e]at f;obtain⟨l,n,rfl,s,r⟩:=f.lst_inv;exact⟨!n.isEmpty,.inl ⟨n,SqL.of s,rfl⟩,by rw[BW r.len];exact q _ H1 g h⟩
 ·rename_i z e;rw[e]at f;obtain⟨l,n,rfl,s,r⟩:=f.tup_inv;exact⟨!n.isEmpty,.inr (.inl ⟨n,SqT.of s,rfl⟩),by rw[BW r.len];exact q _ H1 g h⟩
 ·rename_i i e;rw[e]at f;rw[f.int_inv];exact⟨_,rfl,q _ H1 g h⟩
 ·rename_i e;rw[e]at f;rw[f.non_inv];exact⟨_,rfl,q _ H1 g h⟩
 ·exact g.elim
noncomputable def cutD{b:Type}(xs:List b)(lo f:Option Int):List b:=(xs.drop<|HT.sIx xs.length 0 lo).take (HT.sIx xs.length xs.length f-HT.sIx xs.length 0 lo)
noncomputable def Ia:PTO:=λ_ R _=>R none
noncomputable def EL(a:PTE):PTO:=λγ R X=>a γ (λs=>match s.d with | .int i=>R (some i)|_=>False) X
def Zdk:SX K mg E Oe Ia:=λ_ _ H _ _ _ _ _ _ p q _=>q _ H p (Same.refl _)
def Zmg(o:UX K mg E te a):SX K mg E (EZ te) (EL a):=by
 intro H0 B H σ γ R X Q b p q n;refine o H0 B H σ γ _ X _ b p (λx v H1 g h l=>?_) n;have f:=l.rp (b.grow h).same;split at g
 ·rename_i i e;rw[e]at f;exact⟨i,f.int_inv,q _ H1 g h⟩
 ·grind
noncomputable def pSl(a:PTE)(l u:PTO):PTE:=λγ R X=>a γ (λs=>l γ (λlo=>u γ (λf=>match s.d with | .lst b=>s.free b=true/\R (.own<|cutD b lo f)|_=>False) X) X) X
def Rps.cut {lo b} (r:Rps K H ds vs):Rps K H (cutD ds lo b) (Bc vs lo b):=by
 unfold cutD Bc;rw[r.len];exact Rps.take _ (Rps.drop _ r)
def Zg4{a l u}(U:UX K mg E te a)(N:SX K mg E G l)(M:SX K mg E J u):UX K mg E (tSl (Di K) te G J) (pSl a l u):=by
 intro H0 B H σ γ R X Q f p q o;refine U H0 B H σ γ _ X _ f p (λx v H1 h1 h L=>?_) o;refine N H0 B H1 σ γ _ X _ (f.grow h) h1 (λlo H2 Y n=>?_) λc H' s y=>o c H' s (h.trans y);refine M H0 B H2 σ γ _ X _ ((f.grow h).grow n) Y (λhi H3 w A=>?_) λc H' s y=>o c H' s ((h.trans n).trans y);have g:=(h.trans n).trans A;split at w
 ·rename_i ds e;obtain⟨b,C,rfl,T,r⟩:=((L.grow<|n.trans A).items (f.grow g).same f.zm g w.1).1 e;exact⟨b,C,rfl,SqL.of T,λm z=>q _ _ _ w.2 (g.trans<|X4 z) (N5 g z r.cut)⟩
 ·grind
def Hk:S->S->(S->Prop)->Prop:=λx y R=>match x.d,y.d with
 | .lst f,.lst b=>x.free f=true/\y.free b=true/\f.length+b.length<=100000/\R (.own (f++b))
 |_,_=>False
def P0{a b}(U:UX K mg E L a)(T:UX K mg E J b):UX K mg E (tOp L8 L J) (p2 a b Hk):=by
 refine KN U T λH0 H H2 Z x y v u R Q s f A G C h q=>?_;unfold Hk at h;split at h
 ·rename_i ds es e1 Y;obtain⟨l,o,rfl,N,r⟩:=(G.items s A f h.1).1 e1;obtain⟨m,n,rfl,g,w⟩:=(C.items s A f h.2.1).1 Y;have M:o.length+n.length<=sizeLine:=by rw[r.len,w.len];exact W9 h.2.2.1 (by decide)
  exact⟨l,m,o,n,rfl,rfl,N,g,M,λp z=>q _ _ _ h.2.2.2 (X4 z) (N5 f z<|r.append w)⟩
 ·grind
noncomputable def DG(i:Nat)(a:PTE):PTS:=λR γ=>match γ[i]? with
 |some (some<|.own<|.lst b)=>a γ (λs=>match s.shd with
  |some d=>b.length<10000000/\R.nx (γ.set i<|some<|.own (b++[d]))
  |none=>False) (R.ex γ)
 |some (some<|.own<|.lsA x b)=>a γ (λs=>match s.shd with
  |some d=>b.length<10000000/\R.nx (γ.set i<|some<|.own<|.lsA x (b++[d]))
  |none=>False) (R.ex γ)
 |_=>False
def Zc9(i:Nat){te a}(Q:UX K mg E te a):Xl K mg E (Bm<|tBM K "list" Cq (KH i)<|XN te Kt) (DG i a):=by
 intro H0 B H σ γ R D T f h e;unfold DG at h;split at h
 ·rename_i M r;obtain⟨v,q,b,rfl,G,us,w,p⟩:=f.slot i _ r;refine⟨_,q,.inl ⟨rfl,us,SqL.of w⟩,Q H0 B H σ γ _ _ _ f h (λs u H1 n l A=>?_) λc H' C y=>e.ex σ γ c H' C (f.grow y) (Fr.grow y)⟩;have g:=f.grow l;split at n
  ·rename_i d o;refine⟨b,us,u,rfl,rfl,l _ _ w,by rw[p.len];exact V6 n.1 (by decide),?_⟩;obtain⟨o,L⟩:=g.mutate (es:=.lst (M++[d])) (us:=.lst (us++[u])) r q trivial λF H' N J=>⟨_,J,Rps.mono N (Rps.append (Rps.mono (Xm l λ_ _ _ z=>z) p)<|.cons (A.shd g.same f.zm l o) .nil)⟩;exact e.nx _ _ _ n.2 o ((Fr.grow l).trans L)
  ·exact n.elim
 ·rename_i x M r;obtain⟨v,q,b,rfl,G,rfl,us,w,p⟩:=f.slot i _ r;refine⟨_,q,.inl ⟨rfl,us,SqL.of w⟩,Q H0 B H σ γ _ _ _ f h (λs u H1 n l A=>?_) λc H' C y=>e.ex σ γ c H' C (f.grow y) (Fr.grow y)⟩;have g:=f.grow l;split at n
  ·rename_i d o;refine⟨b,us,u,rfl,rfl,l _ _ w,by rw[p.len];exact V6 n.1 (by decide),?_⟩;obtain⟨o,L⟩:=g.mutate (es:=.lsA b (M++[d])) (us:=.lst (us++[u])) r q trivial λF H' N J=>⟨rfl,_,J,Rps.mono N (Rps.append (Rps.mono (Xm l λ_ _ _ z=>z) p)<|.cons (A.shd g.same f.zm l o) .nil)⟩;exact e.nx _ _ _ n.2 o ((Fr.grow l).trans L)
  ·exact n.elim
 ·exact h.elim
end
section
variable {X:Cx}{K:ZT}
def DH(b:X.A.in1.units<cLine)(f:autoParam (X.K=K) au_0):OpR X (compareOp .In) (λx y H Q=>rIn K false x y H Q\/SG false x y H Q):=(Zfo f).or (Ze6 b)
def Zda(b:X.A.in1.units<cLine)(f:autoParam (X.K=K) au_0):OpR X (compareOp .NotIn) (λx y H Q=>rIn K true x y H Q\/SG true x y H Q):=(Rv f).or (Zml b)
def NN(b:X.A.units<cLine)(f:autoParam (X.K=K) au_0):OpR X (compareOp .Eq) (λx y H Q=>rEq x y H Q\/P4 K false x y H Q):=by subst f;exact op_eq.or (Ey b)
def DK(b:X.A.units<cLine)(f:autoParam (X.K=K) au_0):OpR X (compareOp .NotEq) (λx y H Q=>rNe x y H Q\/P4 K true x y H Q):=by subst f;exact op_ne.or (M4 b)
def LQ(f:PE X e te)(g:autoParam (X.K=K) au_0)(b:autoParam (∀whole,isTrue e X.env whole=(do let v ←whole;standAt e.pos;holding [v] (truthy v))) au_3):PT X e (IT K te):=by
 subst g;exact RH f b
def N4(f:autoParam (X.K=K) au_0):XM X (.type "list") (λxs H Q=>∃p b,xs=[.ref p]/\(SqL K H p b\/SqT K H p b)/\∀l,H l=none->Q (.ref l) (upd H l<|.lst b)):=by subst f;exact Dk
def On(f:autoParam (X.K=K) au_0):XM X (.type "tuple") (λxs H Q=>∃p b,xs=[.ref p]/\((SqL K H p b/\∀l,H l=none->Q (.ref l) (upd H l<|.tup b))\/(SqT K H p b/\Q (.ref p) H))):=by subst f;exact Zbh
def SD(f:autoParam (X.K=K) au_0):XM X (.builtin "isinstance") (λxs H Q=>∃x n t b,xs=[x,.ty n]/\Kq K H x t/\PySem.W.kitOne K t (.type n)=some b/\Q (.bl b) H):=by subst f;exact Za4
def Zmx(b:autoParam (X.K=K) au_0):SlR X (Di K):=by subst b;exact Znp
def Sv(f:X.calm=true){w}(g:autoParam (X.K=K) au_0)(hw:autoParam (X.w=w) au_0):XM X (.builtin "sorted") (λxs H Q=>∃p b,xs=[.ref p]/\b.length<64/\(SqL K H p (b.map V.int)\/H p=some (T7 w p b))/\
  ∀l (ns:ZV),H l=none->ns.Perm b->ns.Pairwise (·<=·)->Q (.ref l) (upd H l<|.lst<|ns.map V.int)):=by subst g;subst hw;exact Ll f
def T1{f l b}(g:PE X l b)(h:autoParam (X.K=K) au_0):PI X f l (BS K b):=by subst h;exact G2 g
end
section
variable {P:Program}{w:World}{K:ZT}{mg:ZX}{base:Heap}{H H':Hp}
def Gi(C:Callee P w K mg base CX k x ps sp)(h:∀ds R X vs H Q E,Rps K H ds vs->c ds R X->(∀s v H',R s->Same H H'->TV K (λb=>Mut (H b)) H H H' s v->Q v H')->(∀e H',X e->Same H H'->XE mg E e H')->sp vs H Q E) :
  Callee P w K mg base CX k x ps (Xb mg c K):=by
 obtain⟨f,o,F,rest⟩:=C.ex;exact⟨f,o,F.imp λvs H Q E ⟨ds,R,X,r,g,n,l⟩=>h ds R X vs H Q E r g n l,rest⟩
def Rp.ints_inv {ns:ZV}{v} (h:Rp K H (.lst<|ns.map D.int) v):∃a,v=.ref a/\H a=some (.lst<|ns.map V.int):=by
 obtain⟨a,f,rfl,b,r⟩:=h.lst_inv;rw[r.ints]at b
 grind
def Rp.pairs_inv {v} (h:Rp K H (.lst<|ps.map prD) v):∃a,v=.ref a/\LAt KC H a ps:=by
 obtain⟨a,b,rfl,f,r⟩:=h.lst_inv;exact⟨a,rfl,b,f,r.lv⟩
def Lp{ns:ZV}(n:H a=none)(h:H' a=some (.lst<|ns.map V.int)):TV K (λb=>Mut (H b)) H H H' (.own<|ns.map D.int) (.ref a):=⟨a,rfl,(λ_ e=>e▸n),_,h,Rps.of_ints ns⟩
theorem Nd:∀(ns:ZV),XO (ns.map D.int)=true
 |[]=>rfl
 |n::r=>by rw[WQ];unfold XO;rw[Nd r];unfold imm;rfl
def Zn6(p:Int×Int):imm (prD p)=true:=rfl
theorem NC:∀(ps:ZU),XO (ps.map prD)=true
 |[]=>rfl
 |p::r=>by rw[WQ];unfold XO;rw[NC r,Zn6];rfl
def Zoo{b:Type}{f:b->D}{xs:List b}{i}(h:i<xs.length):(xs.map f).getD i .non=f xs[i]:=by grind
def Pj{b:Type}{f:b->D}{xs:List b}{i}(g:0<=i)(h:i<(xs.length:Int)):atI (xs.map f) i=some (f (xs[i.toNat]'(by lia))):=by
 have l:i.toNat<xs.length:=by lia
 exact P3 (BZ g<|Ww l)
def Bz{b:Type}{f:b->D}{xs:List b}{i}(h:i<xs.length):atI (xs.map f) (i:Int)=some (f xs[i]):=P3 (SL<|Ww h)
def XH{l:Type}{φ}{γ}{g}{c}{e}{s:S}{R}{xs:List l}{emb}(f:l->Option D)(n:xs.length<=100000)(turn:∀x∈xs,g (s.sub<|emb x) (atP φ γ) λh=>c h (λb=>if b=true then e h (λs=>∃d,s.shd=some d/\f x=some d) (λ_=>False)else f x=none) λ_=>False)(done:R (.own<|xs.filterMap f)) :
  Ao φ γ g c e (xs.map emb).length (λi=>s.sub ((xs.map emb).getD i .non)) R:=by
 rw[Wv];refine⟨⟨n,λi=>(xs[i]?).bind f,λi o=>?_,by rw[Zih];exact done⟩⟩;simp_all
def Bq{g c e item R n}(f:Nat->Option D)(o:n<=100000)(turn:∀i,i<n->g (item i) (atP φ l) λh=>c h (λb=>if b=true then e h (λs=>∃d,s.shd=some d/\f i=some d) (λ_=>False)else f i=none) λ_=>False)(done:R (.own ((List.range n).filterMap f))) :
  Ao φ l g c e n item R:=⟨⟨o,f,turn,done⟩⟩
def Kl{o:Type}{js}{γ}{g}{body}{s:S}{R}{xs:List o}{emb}(f:Nat->Γ->Prop)(q:f 0 (clr js γ))(turn:∀i p b,f i b->g (s.sub (emb xs[i])) b λn=>body {R with nx:=λl=>f (i+1) (clr js l),ct:=λl=>f (i+1) (clr js l),bk:=R.nx} n)(done:∀b,f xs.length b->R.nx b) :
  SK js γ g body R (xs.map emb).length (λi=>s.sub ((xs.map emb).getD i .non)):=by
 refine⟨⟨f,q,λi b p h=>?_,λb h=>?_⟩⟩
 ·grind
 ·grind
def P2{n item}(b:Nat->Γ->Prop)(q:b 0 (clr o p))(turn:∀i f,i<n->b i f->g (item i) f λl=>body {R with nx:=λh=>b (i+1) (clr o h),ct:=λh=>b (i+1) (clr o h),bk:=R.nx} l)(done:∀f,b n f->R.nx f):SK o p g body R n item:=⟨⟨b,q,turn,done⟩⟩
def BA(h:Γ->Prop)(l:Γ->Nat)(p:h (clr n o))(turn:∀f,h f->c f (λb=>if b=true then body {R with nx:=λg=>h (clr n g)/\l (clr n g)<l f,ct:=λg=>h (clr n g)/\l (clr n g)<l f,bk:=R.nx} f else R.nx f) (R.ex f)):LL n o c body R:=⟨⟨h,l,p,turn⟩⟩
def TU(J:Γ->Prop)(h:p {R with nx:=J} f)(g:∀b,J b->q R b):Mm p q R f:=⟨⟨J,h,g⟩⟩
theorem Kz{b:Type}(c:b->Bool)(emb:b->D):∀f:List b,f.filterMap (λq=>if c q=true then some (emb q)else none)=(f.filter c).map emb
 |[]=>rfl
 |q::r=>by
  by_cases h:c q=true
  ·rw[List.filterMap_cons_some (by rw[W5 h]),Vx h,WQ,Kz c emb r]
  ·rw[List.filterMap_cons_none (by grind),VY h,Kz c emb r]
def PB{b:Type}(emb:b->D)(f:List b):f.filterMap (λq=>some (emb q))=f.map emb:=by simp
def Te(f:g->D)(xs:List g)(lo b:Option Int):cutD (xs.map f) lo b=(cutD xs lo b).map f:=by
 unfold cutD;simp
def Ff(xs:List b){n}(h:0<=n):cutD xs none (some n)=xs.take n.toNat:=by
 unfold cutD;have e:n=(n.toNat:Int):=by lia
 rw[HT.M8,e,HT.Mp,List.drop_zero,Nat.sub_zero,Qm];by_cases c:n.toNat<=xs.length
 ·simp
 ·simp
def Fj(xs:List b){n}(h:0<=n):cutD xs (some n) none=xs.drop n.toNat:=by
 unfold cutD;have e:n=(n.toNat:Int):=by lia
 rw[HT.M8,e,HT.Mp,Qm];by_cases c:n.toNat<=xs.length
 ·grind
 ·rw[Nat.min_eq_right (by lia),List.drop_of_length_le (W3 _),List.drop_of_length_le (by lia)];simp
noncomputable def CY(K:ZT):Sp:=λb H Q _=>∃(a:Addr) (f:ZV),b=[.ref a]/\SqL K H a (f.map V.int)/\∀H',Q (.bl true) H'
noncomputable def Ov:Pc:=λf R _=>∃b:ZV,f=[.scr b]/\R (.sh<|.bl true)
def R0(h:CY K vs H Q l):Xb mg Ov K vs H Q l:=by
 obtain⟨a,b,rfl,g,q⟩:=h;refine⟨[.scr b],λs=>s=.sh (.bl true),λ_=>False,.cons (.scr g) .nil,⟨b,rfl,rfl⟩,λs v H' e n f=>?_,λ_ _ z=>z.elim⟩;subst e;cases f
 grind
end
section
variable {K:ZT}{mg:ZX}{E:L2.St->XK}{H0 H H1 H':Hp}{B Z Z':Addr->Prop}{σ:L2.St}{γ:Γ}
noncomputable def Sb:D->Option V
 | .int i=>some (.int i) | .bl b=>some (.bl b) | .non=>some .non | .str x=>some (.str x)|_=>none
noncomputable def vD:V->D
 | .int i=>.int i | .bl b=>.bl b | .str x=>.str x|_=>.non
noncomputable def Fy:V->Bool
 | .int _=>true | .bl _=>true | .str _=>true | .non=>true|_=>false
def CV(h:Fy v=true):Rp K H (vD v) v:=by
 cases v with
 |int i=>exact .int i
 |bl b=>exact .bl b
 |str x=>exact .str x
 |non=>exact .non
 |_=>cases h
def Ft(h:Rp K H d v)(e:Sb d=some u):v=u:=by
 cases h with
 |int i|bl b|non|str x=>cases e;rfl
 |_=>cases e
noncomputable def Sl:D->Option Key
 | .int i=>some (.inl i) | .str x=>some (.inr x)|_=>none
noncomputable def NR:List D->Option (List Key)
 |[]=>some []
 |d::r=>match Sl d,NR r with
  |some k,some b=>some (k::b)
  |_,_=>none
noncomputable def NH:D->Option (List Key)
 | .tup b=>NR b
 |_=>none
def Sq(h:Rp K H d v)(e:Sl d=some k):v=kV k:=by
 cases h with
 |int i|str x=>cases e;rfl
 |_=>cases e
def Znm:∀{ds vs}{b:List Key},Rps K H ds vs->NR ds=some b->vs=b.map kV:=by
 intro ds
 induction ds with
 |nil=>
  intro _ _ h e;cases h
  cases e
  rfl
 |cons _ _ f=>
  intro _ b h e;cases h with
  |cons h r=>
   unfold NR at e;split at e
   ·rename_i k n l g;cases e
    rw[Sq h l,f r g];rfl
   ·grind
def SM(h:Rp K H d v)(e:NH d=some f):∃b,v=.ref b/\H b=some (.tup<|f.map kV):=by
 cases h with
 |tup h r=>
  rw[Znm r e]at h
  grind
 |_=>cases e
def Rp.dK_inv (h:Rp K H (.dK b) v):∃a,v=.ref a/\H a=some (.dK b):=by
 cases h with
 |dK h=>grind
def Rp.dT_inv (h:Rp K H (.dT b) v):∃a,v=.ref a/\H a=some (.dT b):=by
 cases h with
 |dT h=>grind
noncomputable def Zec:PTE:=λ_ R _=>R (.own<|.dK [])
noncomputable def Zef:PTE:=λ_ R _=>R (.own<|.dT [])
def Eh:UX K mg E Ej Zec:=by
 intro H0 B H σ γ R X Q f p q _ l b;exact q _ _ _ p (X4 b) ⟨l,rfl,(λ_ e=>e▸b),Xk⟩
def Rx:UX K mg E Hc Zef:=by
 intro H0 B H σ γ R X Q f p q _ l b;exact q _ _ _ p (X4 b) ⟨l,rfl,(λ_ e=>e▸b),Xk⟩
def Gv:S->S->(S->Prop)->Prop:=λx y R=>match x.d with
 | .dK b=>∃k v,Sl y.d=some k/\Xi b k=some v/\Fy v=true/\R (.sh<|vD v)
 | .dT b=>∃k v,NH y.d=some k/\Xi b k=some v/\Fy v=true/\R (.sh<|vD v)
 |_=>False
def Nf{a b}(N:UX K mg E M a)(p:UX K mg E g b):UX K mg E (G7 M g) (p2 a b Gv):=by
 refine KN N p λH0 H J Z x y v u R Q C T U L g h q=>?_;have f:=L.rp C;have G:=g.rp C;unfold Gv at h;split at h
 ·rename_i n e;rw[e]at f;obtain⟨l,rfl,o⟩:=f.dK_inv;obtain⟨k,w,A,z,s,r⟩:=h;refine⟨l,w,rfl,?_,q _ _ J r (Same.refl _) (CV s)⟩;rw[Sq G A,←z];exact DGet.k o
 ·rename_i n e;rw[e]at f;obtain⟨l,rfl,o⟩:=f.dT_inv;obtain⟨k,w,A,z,s,r⟩:=h;obtain⟨b,rfl,p⟩:=SM G A;refine⟨l,w,rfl,?_,q _ _ J r (Same.refl _) (CV s)⟩;rw[←z];exact DGet.t o p
 ·grind
def B7(neg:Bool):S->S->(S->Prop)->Prop:=λy x R=>match x.d with
 | .dK b=>∃k,Sl y.d=some k/\R (.sh<|.bl (if neg then !(Xi b k).isSome else(Xi b k).isSome))
 | .dT b=>∃k,NH y.d=some k/\R (.sh<|.bl (if neg then !(Xi b k).isSome else(Xi b k).isSome))
 |_=>False
def DY{w f a b}(J:UX K mg E f a)(p:UX K mg E w b):UX K mg E (DU f w) (p2 a b<|B7 false):=by
 refine KN J p λH0 H C Z y x u v R Q z L M f G h q=>?_;have g:=G.rp z;have A:=f.rp z;unfold B7 at h;split at h
 ·rename_i n e;rw[e]at g;obtain⟨l,rfl,o⟩:=g.dK_inv;obtain⟨k,s,r⟩:=h;refine⟨l,_,rfl,?_,q _ _ C r (Same.refl _) (.bl _)⟩;rw[Sq A s];exact DGet.k o
 ·rename_i n e;rw[e]at g;obtain⟨l,rfl,o⟩:=g.dT_inv;obtain⟨k,s,r⟩:=h;obtain⟨b,rfl,p⟩:=SM A s;exact⟨l,_,rfl,DGet.t o p,q _ _ C r (Same.refl _) (.bl _)⟩
 ·grind
def Zm1{w f a b}(J:UX K mg E f a)(p:UX K mg E w b):UX K mg E (GJ f w) (p2 a b<|B7 true):=by
 refine KN J p λH0 H C Z y x u v R Q z L M f G h q=>?_;have g:=G.rp z;have A:=f.rp z;unfold B7 at h;split at h
 ·rename_i n e;rw[e]at g;obtain⟨l,rfl,o⟩:=g.dK_inv;obtain⟨k,s,r⟩:=h;refine⟨l,_,rfl,?_,q _ _ C r (Same.refl _) (.bl _)⟩;rw[Sq A s];exact DGet.k o
 ·rename_i n e;rw[e]at g;obtain⟨l,rfl,o⟩:=g.dT_inv;obtain⟨k,s,r⟩:=h;obtain⟨b,rfl,p⟩:=SM A s;exact⟨l,_,rfl,DGet.t o p,q _ _ C r (Same.refl _) (.bl _)⟩
 ·grind
noncomputable def Iz(i:Nat)(b a:PTE):PTS:=λR γ=>match γ[i]? with
 |some (some<|.own<|.dK f)=>a γ (λs=>b γ (λy=>∃k u,Sl y.d=some k/\Sb s.d=some u/\f.length<100000/\R.nx (γ.set i<|some<|.own<|.dK<|putK f k u)) (R.ex γ)) (R.ex γ)
 |some (some<|.own<|.dT f)=>a γ (λs=>b γ (λy=>∃k u,NH y.d=some k/\Sb s.d=some u/\f.length<100000/\R.nx (γ.set i<|some<|.own<|.dT<|putK f k u)) (R.ex γ)) (R.ex γ)
 |_=>False
def BL(i:Nat){ty tv a b}(hb:UX K mg E ty b)(ha:UX K mg E tv a):Xl K mg E (Le (KH i) ty tv) (Iz i b a):=by
 intro H0 B H σ γ R D hB n h e;have hx:=λc H' C r=>e.ex σ γ c H' C (n.grow r) (Fr.grow r);unfold Iz at h;split at h
 ·rename_i o A;obtain⟨v,x,l,rfl,U,T⟩:=n.slot i _ A;refine ha H0 B H σ γ _ _ _ n h (λs u H1 h1 p J=>⟨_,x,?_⟩) hx;have f:=n.grow p;refine hb H0 B H1 σ γ _ _ _ f h1 (λy w H2 h2 q G=>?_) λc H' C r=>hx c H' C (p.trans r);obtain⟨k,z,Q,N,M,L⟩:=h2;have g:=f.grow q;have eu:=Ft (J.rp f.same) N;have ew:=Sq (G.rp g.same) Q;subst eu ew;refine⟨l,_,rfl,DPut.k (q _ _<|p _ _ T) (V6 M<|by decide),?_⟩;obtain⟨e2,f2⟩:=g.mutate (es:=.dK (putK o k u)) (us:=.dK (putK o k u)) A x trivial λF H' SF hF=>hF;exact e.nx _ _ _ L e2 ((Fr.grow<|p.trans q).trans f2)
 ·rename_i o A;obtain⟨v,x,l,rfl,U,T⟩:=n.slot i _ A;refine ha H0 B H σ γ _ _ _ n h (λs u H1 h1 p J=>⟨_,x,?_⟩) hx;have f:=n.grow p;refine hb H0 B H1 σ γ _ _ _ f h1 (λy w H2 h2 q G=>?_) λc H' C r=>hx c H' C (p.trans r);obtain⟨k,z,Q,N,M,L⟩:=h2;have g:=f.grow q;have eu:=Ft (J.rp f.same) N;obtain⟨b',rfl,Y⟩:=SM (G.rp g.same) Q;subst eu;refine⟨l,_,rfl,DPut.t (q _ _<|p _ _ T) Y (V6 M<|by decide),?_⟩;obtain⟨e2,f2⟩:=g.mutate (es:=.dT (putK o k u)) (us:=.dT (putK o k u)) A x trivial λF H' SF hF=>hF;exact e.nx _ _ _ L e2 ((Fr.grow<|p.trans q).trans f2)
 ·exact h.elim
noncomputable def M9(a:PTE):PTS:=λR γ=>a γ (λs=>match s.shd with|some d=>R.rt (.sh d)|none=>False) (R.ex γ)
def Zmz(q:UX K mg E te a):Xl K mg E (NM te) (M9 a):=by
 intro H0 B H σ γ R D r f h e;refine q H0 B H σ γ _ _ _ f h (λs v H1 l g o=>?_) λc H' p n=>e.ex σ γ c H' p (f.grow n) (Fr.grow n);split at l
 ·rename_i d hd;exact e.rt (.sh d) v H1 l (f.same.trans g) (Rp.mono (Xm (Same.refl _) λb _ _ z y=>z (.inl y)) (o.shd (f.grow g).same f.zm g hd))
 ·grind
noncomputable def G9(i:Nat)(γ:Γ):Nat:=match γ[i]? with
 |some (some<|.own<|.lst b)=>b.length
 |_=>0
noncomputable def pIE(r:PTA):PTI:=λγ R X=>r γ (λf=>match f with
 |[s]=>(match s.d with
  | .lst b=>s.fix=true/\XO b=true/\R b.length λi=>.sh (.tup [.int i,b.getD i .non])
  |_=>False)
 |_=>False) X
theorem Oh:∀{ds}{i:Nat}{d:D},XO ds=true->ds[i]?=some d->imm d=true
 |[],i,d,_,e=>by simp at e
 |a::r,0,d,h,e=>by
  unfold XO at h
  grind
 |a::r,i+1,d,h,e=>by
  exact Oh (Qd _ _▸h).2 (by trivial)
def Zkp{s:S}{d}(h:imm d=true):(s.sub d).shd=some d:=by
 cases s with
 |bor b=>show(arg d).shd=_;unfold arg;rw[h];rfl
 |tmp b=>show(XI d).shd=_;unfold XI;rw[h];rfl
 |sh b=>rfl
 |own b|view b=>
  cases b with
  |nst f|nsl a f|vls a C xs g|tl x l n=>show(XI d).shd=_;unfold XI;rw[h];rfl
  |_=>rfl
def Zgn(hr:Xq K mg E M r):SndI K mg E (Io K M) (pIE r):=by
 intro H0 B H σ γ R X Q f h q U;refine hr H0 B H σ γ _ X _ f h (λss g H1 b A N=>?_) U;split at b
 ·rename_i s;obtain⟨v,rfl,n⟩:=N.one_inv;split at b
  ·rename_i J ed;obtain⟨l,g,rfl,hn,w⟩:=n.last f A b.1 ed;obtain⟨p,_⟩:=w H1 _ (Later.of (f.grow A) Fr.refl);refine⟨l,rfl,⟨g,SqL.of p⟩,q _ _ _ H1 b.2.2 A ⟨λi H' Z' hi lt=>?_,λH' Z' lt=>?_⟩⟩
   ·obtain⟨C,Y⟩:=w H' Z' lt;have hd:J[i]?=some (J.getD i .non):=by grind
    obtain⟨u,G,L⟩:=Y i _ hd;refine⟨⟨g,u,SqL.of C,G⟩,λx H'' y=>?_⟩;obtain⟨T,v,o,hv,rfl,rfl⟩:=y
    have:=hv g (SqL.of C)
    rw[G]at this;cases this
    refine⟨X4 o,.tup (X8 Xk λz=>?_) (.cons (.int _)<|.cons (Rp.mono (Xm (X4 o) λ_ _ _ z=>z)<|L.shd lt.1 lt.2.1 (Same.refl _)<|Zkp<|Oh b.2.1 hd) .nil)⟩
    have:=lt.2.1 T z
    rw[o]at this;exact this
   ·exact⟨g,SqL.of (w H' Z' lt).1,by lia⟩
  ·exact b.elim
 ·exact b.elim
def Zhr{o:Type}{js}{γ}{g}{body}{R}{xs:List o}{emb}(f:Nat->Γ->Prop)(q:f 0 (clr js γ))(turn:∀i p b,f i b->g (.sh<|.tup [.int i,emb xs[i]]) b λn=>body {R with nx:=λl=>f (i+1) (clr js l),ct:=λl=>f (i+1) (clr js l),bk:=R.nx} n)(done:∀b,f xs.length b->R.nx b) :
  SK js γ g body R (xs.map emb).length (λi=>.sh (.tup [.int i,(xs.map emb).getD i .non])):=by
 refine⟨⟨f,q,λi b p h=>?_,λb h=>?_⟩⟩
 ·grind
 ·grind
def N2(d:b)(ds:List b):atI (d::ds) 0=some d:=BZ (by simp) rfl
noncomputable def em(l:Int)(p:ZV):D:=.lst ((l::p).map D.int)
def BD(l:Int)(p:ZV):atI ((l::p).map D.int) (-1)=some (.int<|Xf l p):=by
 refine P3 ?_;unfold atI ixN;rw[W2 (by lia),W5 (by grind)];have e:(-1+((l::p).length:Int)).toNat=p.length:=by grind
 rw[e];exact Fs l p
def LY:List S->(S->Prop)->Prop
 |[s],R=>∃b:ZV,s.d=.lst (b.map D.int)/\R (.sh<|.int b.sum)
 |_,_=>False
def Cb(o:Xq K mg E g r):UX K mg E (tCB (λxs H Q=>∃(p:Addr) (ns:ZV),xs=[.ref p]/\SqL K H p (ns.map V.int)/\Q (.int ns.sum) H) g) (pCB LY r):=by
 refine KQ o λH0 H H1 Z x w R Q n y z f h q=>?_;unfold LY at h;split at h
 ·obtain⟨v,rfl,l⟩:=f.one_inv;obtain⟨ns,e,u⟩:=h;have b:=l.rp n;rw[e]at b;obtain⟨a,rfl,s⟩:=b.ints_inv;exact⟨a,ns,rfl,SqL.of s,q _ _ H1 u (Same.refl _) (.int _)⟩
 ·grind
def Gm:List S->(S->Prop)->Prop
 |[s],R=>∃b:ZV,s.d=.lst (b.map D.int)/\0<b.length/\∀m,m∈b->(∀a∈b,m<=a)->R (.sh<|.int m)
 |_,_=>False
def LN(s:Xq K mg E l r):UX K mg E (tCB (λxs H Q=>∃(p:Addr) (ns:ZV),xs=[.ref p]/\SqL K H p (ns.map V.int)/\0<ns.length/\∀M,M∈ns->(∀a∈ns,M<=a)->Q (.int M) H) l) (pCB Gm r):=by
 refine KQ s λH0 H H1 Z A z R Q o C G g h q=>?_;unfold Gm at h;split at h
 ·obtain⟨v,rfl,n⟩:=g.one_inv;obtain⟨ns,e,b,w⟩:=h;have f:=n.rp o;rw[e]at f;obtain⟨a,rfl,u⟩:=f.ints_inv;exact⟨a,ns,rfl,SqL.of u,b,λm y x=>q _ _ H1 (w m y x) (Same.refl _) (.int _)⟩
 ·grind
def Ex:List S->(S->Prop)->Prop
 |[s],R=>∃bs:List Bool,s.d=.lst (bs.map D.bl)/\R (.sh<|.bl<|bs.any id)
 |_,_=>False
theorem Rps.bls:∀{b:List Bool}{vs:List V},Rps K H (b.map D.bl) vs->vs=b.map V.bl
 |[],_,.nil=>rfl
 |j::r,_,.cons h t=>by rw[Rp.bl_inv h,Rps.bls t];rfl
def HD(u:Xq K mg E l r):UX K mg E (tCB (λxs H Q=>∃(p:Addr) (bs:List Bool),xs=[.ref p]/\SqL K H p (bs.map V.bl)/\Q (.bl<|bs.any id) H) l) (pCB Ex r):=by
 refine KQ u λH0 H H1 Z z x R Q o A C g h q=>?_;unfold Ex at h;split at h
 ·obtain⟨v,rfl,n⟩:=g.one_inv;obtain⟨bs,e,w⟩:=h;have b:=n.rp o;rw[e]at b;obtain⟨a,y,rfl,f,s⟩:=b.lst_inv;rw[s.bls]at f;exact⟨a,bs,rfl,SqL.of f,q _ _ H1 w (Same.refl _) (.bl _)⟩
 ·grind
def G6(neg:Bool):S->S->(S->Prop)->Prop:=λx y R=>match x.d,y.d with
 | .lst b,.lst []=>R (.sh<|.bl (if neg then !b.isEmpty else b.isEmpty))
 |_,_=>False
def BV{n g a b}(L:UX K mg E n a)(J:UX K mg E g b):UX K mg E (tOp (Dn K neg) n g) (p2 a b<|G6 neg):=by
 refine KN L J λH0 H T Z x y v u R Q o Y hm A z h q=>?_;have s:=A.rp o;have p:=z.rp o;unfold G6 at h;split at h
 ·rename_i ds N M;rw[N]at s;rw[M]at p;obtain⟨l,w,rfl,G,r⟩:=s.lst_inv;obtain⟨m,U,rfl,f,C⟩:=p.lst_inv;cases C
  refine⟨l,m,w,rfl,rfl,SqL.of G,SqL.of f,?_⟩;rw[BW r.len];exact q _ _ T h (Same.refl _) (.bl _)
 ·grind
def Zko(x y:Int){k}(h:k=0\/k=1):atI [D.int x,D.int y] k=some (.int (if k=0 then x else y)):=by
 rcases h with rfl|rfl
 ·rfl
 ·rfl
def Zoa{γ}{g}{body}{s:S}{R}{ds:List D}(P:D->Prop)(q:∀d∈ds,P d)(f:Nat->Γ->Prop)(r:f 0 (clr o γ))(turn:∀i d b,i<ds.length->P d->f i b->g (s.sub d) b λn=>body {R with nx:=λl=>f (i+1) (clr o l),ct:=λl=>f (i+1) (clr o l),bk:=R.nx} n)(done:∀b,f ds.length b->R.nx b):SK o γ g body R ds.length (λi=>s.sub (ds.getD i .non)):=by
 refine⟨⟨f,r,λi b p h=>turn i _ b p (q _ ?_) h,done⟩⟩
 grind
def PX(xs:List f)(lo b:Option Int):(cutD xs lo b).Sublist xs:=(QT _ _).trans (List.drop_sublist _ _)
def Zfy{s a ds es}(h:s=.own ds\/(ds=es/\s=.bor (.loc a<|.lst es)))(k:R (.own ds)):EE R s (.bor<|.loc a<|.lst es) (.own es):=by
 rcases h with rfl|⟨rfl,rfl⟩
 ·exact⟨.inr k⟩
 ·exact⟨.inl ⟨rfl,k⟩⟩
def Xd.gone (N:Xd K H0 B H σ γ) (i:Nat):Xd K H0 B H (σ.set i none) (γ.set i none)/\Fr B H σ γ H (σ.set i none) (γ.set i none):=by
 obtain⟨l,f1⟩:=N.drop i
 have f:∀j s,(γ.set i none)[j]?=some (some s)->j≠i:=λj s h=>by
  rcases X3 h with⟨_,e,_⟩|⟨n,_⟩
  ·cases e
  ·exact n
 have C:∀b,zof B (γ.set i none) (σ.set i none) b↔zof B (γ.set i none) σ b:=λb=>by
  constructor
  ·rintro(z|⟨j,p,x,g,q,r⟩)
   ·exact .inl z
   ·rw[KP (f j _ g)]at q;exact .inr ⟨j,p,x,g,q,r⟩
  ·rintro(z|⟨j,p,x,g,q,r⟩)
   ·exact .inl z
   ·exact .inr ⟨j,p,x,g,by rw[KP (f j _ g)];exact q,r⟩
 have ez:=funext λb=>propext (C b);refine⟨⟨l.same,by rw[Qy];exact l.len,l.bm,λk j a M p L b w u A y J G=>?_,λj s h=>?_⟩,λb o h z=>?_⟩
 ·rw[KP (f k _ w)]at A;rw[KP (f j _ u)]at y;exact l.own k j a M p L b w u A y J G
 ·obtain⟨v,w,u⟩:=l.slot j s h
  grind
 ·rw[ez];exact f1 b o h z
def Zj4:UX K mg E (tC<|.ref a) (pC<|.ref a):=Bg λ_=>.ref a
def IU(K:ZT):List S->(S->Prop)->Prop
 |[s,t],R=>(match s.d,t.d with
  | .err C,.ref f=>∃b,ExcR.XY K C/\PySem.W.kitOne K (.ref C) (.ref f)=some b/\R (.sh<|.bl b)
  | .err C,.ty n=>∃b,ExcR.XY K C/\PySem.W.kitOne K (.ref C) (.type n)=some b/\R (.sh<|.bl b)
  | .erM C _,.ref f=>∃b,ExcR.KJ K C/\PySem.W.kitOne K (.ref C) (.ref f)=some b/\R (.sh<|.bl b)
  | .erM C _,.ty n=>∃b,ExcR.KJ K C/\PySem.W.kitOne K (.ref C) (.type n)=some b/\R (.sh<|.bl b)
  |_,_=>False)
 |_,_=>False
def Rp.err_inv (h:Rp K H (.err C) v):∃a,v=.ref a/\H a=some (ExcR.Ep a C):=by
 cases h with
 |err h=>grind
def Rp.ref_inv (h:Rp K H (.ref a) v):v=.ref a:=by cases h;rfl
def Rp.erM_inv (h:Rp K H (.erM C r) v):∃a dx l,v=.ref a/\H a=some (ExcR.Km a C<|some dx)/\H dx=some (.xd [("members",.ref l)])/\H l=some (.lst<|r.map V.int):=by
 cases h with
 |erM g f b=>grind
def E7(T:Xq K mg E L r):UX K mg E (tCB (λxs H Q=>∃a C dx c b,xs=[.ref a,c]/\H a=some (ExcR.Km a C dx)/\ExcR.KJ K C/\(∃G,(∀u,RelV c u->u=G)/\PySem.W.kitOne K (.ref C) G=some b)/\Q (.bl b) H) L) (pCB (IU K) r):=by
 refine KQ T λH0 H H1 Z Y U R Q A s1 hm J h q=>?_;unfold IU at h;split at h
 ·obtain⟨v,u,rfl,N,M⟩:=J.two_inv;have g:=N.rp A;have f:=M.rp A;split at h
  ·rename_i C z y x;rw[y]at g;rw[x]at f;obtain⟨a,rfl,o⟩:=g.err_inv;obtain⟨b,w,s,p⟩:=h;rw[f.ref_inv];exact⟨a,C,_,_,b,rfl,o,w.any,⟨.ref z,λu l=>l,s⟩,q _ _ H1 p (Same.refl _) (.bl _)⟩
  ·rename_i C n y x;rw[y]at g;rw[x]at f;obtain⟨a,rfl,o⟩:=g.err_inv;obtain⟨b,w,s,p⟩:=h;rw[f.ty_inv];exact⟨a,C,_,_,b,rfl,o,w.any,⟨.type n,λu l=>l,s⟩,q _ _ H1 p (Same.refl _) (.bl _)⟩
  ·rename_i C r z y x;rw[y]at g;rw[x]at f;obtain⟨a,dx,_,rfl,o,_,_⟩:=g.erM_inv;obtain⟨b,w,s,p⟩:=h;rw[f.ref_inv];exact⟨a,C,_,_,b,rfl,o,w,⟨.ref z,λu l=>l,s⟩,q _ _ H1 p (Same.refl _) (.bl _)⟩
  ·rename_i C r n y x;rw[y]at g;rw[x]at f;obtain⟨a,dx,_,rfl,o,_,_⟩:=g.erM_inv;obtain⟨b,w,s,p⟩:=h;rw[f.ty_inv];exact⟨a,C,_,_,b,rfl,o,w,⟨.type n,λu l=>l,s⟩,q _ _ H1 p (Same.refl _) (.bl _)⟩
  ·exact h.elim
 ·exact h.elim
noncomputable def Zok(i:Nat)(b a:PTE):PTS:=λR γ=>match γ[i]? with
 |some (some<|.own<|.lst f)=>a γ (λs=>b γ (λy=>match y.d with
   | .int k=>∃j d,ixN f.length k=some j/\s.shd=some d/\R.nx (γ.set i<|some<|.own<|.lst<|f.set j d)
   |_=>False) (R.ex γ)) (R.ex γ)
 |some (some<|.own<|.lsA x f)=>a γ (λs=>b γ (λy=>match y.d with
   | .int k=>∃j d,ixN f.length k=some j/\s.shd=some d/\R.nx (γ.set i<|some<|.own<|.lsA x<|f.set j d)
   |_=>False) (R.ex γ)) (R.ex γ)
 |_=>False
def Zoj:S->S->(S->Prop)->Prop:=λx y R=>match x.d,y.d with
 | .lst b,.int k=>x.free b=true/\(-(2 ^ 63)<=k/\k<2 ^ 63)/\b.length*k.toNat<=10000000/\R (.own (.lst (List.replicate k.toNat b).flatten))
 |_,_=>False
noncomputable def Bi:List D->Option (List V)
 |[]=>some []
 |d::r=>match Sb d,Bi r with
  |some v,some b=>some (v::b)
  |_,_=>none
theorem DC:∀{ds}{vs us:List V},Rps K H ds vs->Bi ds=some us->vs=us
 |[],_,_,.nil,e=>by cases e;rfl
 |d::r,_,us,.cons h t,e=>by
  unfold Bi at e;split at e
  ·rename_i v vs f b;cases e
   rw[Ft h f,DC t b]
  ·grind
def IZ(neg:Bool):S->S->(S->Prop)->Prop:=λx y R=>match x.d,y.d with
 | .lst h,.lst g=>∃f b,Bi h=some f/\Bi g=some b/\f.all Kw=true/\b.all Kw=true/\R (.sh<|.bl (if neg then !eqL f b else eqL f b))
 |_,_=>False
def Zlt{n g a b}(N:UX K mg E n a)(M:UX K mg E g b):UX K mg E (tOp (P4 K neg) n g) (p2 a b<|IZ neg):=by
 refine KN N M λH0 H H2 Z x y v u R Q o s1 hm J G h q=>?_;unfold IZ at h;have s:=J.rp o;have p:=G.rp o;split at h
 ·rename_i ds es e1 e2;rw[e1]at s;rw[e2]at p;obtain⟨C,z,h1,h2,Y,U,T⟩:=h;obtain⟨l,vs,rfl,w,r⟩:=s.lst_inv;obtain⟨m,A,rfl,f,L⟩:=p.lst_inv;rw[DC r h1]at w;rw[DC L h2]at f;exact⟨l,m,C,z,rfl,rfl,SqL.of w,SqL.of f,Y,U,q _ _ H2 T (Same.refl _) (.bl _)⟩
 ·grind
def Zky(b:X.A.units<cLine)(f:autoParam (X.K=K) au_0):OpR X (compareOp .Eq) (P4 K false):=by subst f;exact Ey b
end
end Pu
namespace PySem
open Sem (wp)
structure Zcl {K:Type} (es:List DictEntry) (kvs:List (K×Value)):Prop where
 length:es.length=kvs.length
 get?:∀{i:Nat} {e:DictEntry} {k:K} {v:Value},es[i]?=some e->kvs[i]?=some (k,v)->True/\e.val=v
def VDict{K:Type}(h:Heap)(a:Addr)(b:List (K×Value))(g:Nat):Prop:=
 ∃o f,h.get? a=some o/\o.ExactDict/\o.data=.dict f g/\True/\Zcl f.toList b/\True
section
variable {prog:Program}{w:World}{K:Type}{A:Around}{E:ZY}{s:Shared}
def Zit(d:Addr)(hd:(d==sysModules)=false) :
  MeetsIn prog w (Builtin.«dict.values» ⟨[.ref d],[]⟩) (λ_ R s=>s.TypeIs (.ref d) "dict"/\
   R (.ok<|.ret<|.ref s.heap.objs.size) {s with heap:=s.heap.push {cls:=.type "dict_values",data:=.fields #[.ref d]}}):=
 .of_wp λA R s ⟨b,h⟩=>by
  refine Wu ?_;unfold Builtin.Dict.noArgs;refine Wu (wpAny_notOrdered_dict b ?_);show wpAny _ _ (pure d) _ _ s;refine Wy ?_;show wpAny _ _ (Builtin.Dict.showsAll d >>= _) _ _ s;unfold Builtin.Dict.showsAll;rw[W2 (by rw[hd];exact WR)];refine Wu (Wy ?_);exact Wu (Qo<|Wy ⟨_,rfl,h⟩)
def Zij{v d:Addr}{f:List (K×Value)}{r:Nat}{Q:ZY}(h:s.heap.IsValuesView v d)(y:VDict s.heap d f r)(B:Q (.ref s.heap.objs.size) {s with heap:=s.heap.push {cls:=.type "dict_valueiterator",data:=.fields #[.ref d,.int 0 0,.int f.length 0,.int r 0]}}) :
  wpAny (model prog w) A (pyIter<|.ref v) Q E s:=by
 obtain⟨G,n,z,p⟩:=id h;obtain⟨o,C,q,L,b,J,u,H⟩:=id y;refine Jd h.typeIs F.slot_dict_values_iter (QH F.slot_dict_values_iter h.typeIs F.entry_dict_values_iter ?_<|F.args_dict_values_iter_1 _);unfold Builtin.«dict_values.__iter__»;refine Wu (Wy ?_);refine Wu ?_;unfold Builtin.Dict_items.dictOf;refine Wu (JB n p (x:=.ref d) rfl<|Wy ?_);refine Wu ?_;unfold Builtin.Dict_items.newIterator;refine Wu (wpAny_dictEntries q b ?_);refine Wu (wpAny_dictEpoch q b ?_);have l:C.size=f.length:=by rw[←u.length];simp
 have g:Builtin.Dict_items.ownsTuple "dict_valueiterator"=false:=by decide
 simp only[g,VR,Jk];refine Qo (Wy ⟨_,rfl, "dict_valueiterator",_,⟨_,WE _ rfl,rfl⟩,F.slot_dict_valueiterator_next.lookup,?_⟩);simpa [rawInt,l]using B
def Zfq{l d:Addr}{i z:Nat}{b:List (K×Value)}{k:K}{v:Value}{Q:Yf->Shared->Prop}(f:s.heap.IsValIter l d i b.length z)(J:VDict s.heap d b z)(hx:b[i]?=some (k,v))(N:∀G,G.IsValIter l d (i+1) b.length z->Heap.SameBut l s.heap G->Q (some v) {s with heap:=G}) :
  wpAny (model prog w) A (pyNext<|.ref l) Q E s:=by
 obtain⟨o,B,M,hd⟩:=id f;obtain⟨T,y,u,L,x,Y,H,U⟩:=id J;unfold pyNext
 refine Wu (wpAny_attempt (VX (name:=Str.ofString "__next__") f.typeIs QO
  (QH QO f.typeIs F.entry_dict_valueiterator_next ?_<|F.args_dict_valueiterator_next_1 _)))
 refine Wu (Wy ?_);refine Wu ?_;refine Wu ?_
 first|refine Wu (QX f.typeIs<|Wy ?_)|refine Wu (Vv f.typeIs<|Wy ?_)
 refine Wu (wpAny_fieldsOf B hd ?_);have r:Builtin.Dict_items.ownsTuple "dict_valueiterator"=false:=by decide
 simp only[r,VR,Jk];show wpAny _ _ (if (Value.ref d==Value.none)=true then _ else _) _ _ s;rw[W2 (show ¬((Value.ref d==Value.none)=true)from WR)]
 refine Wu (Wy ?_);refine Wu (wpAny_dictEntries u x ?_);have q:y.size=b.length:=by rw[←H.length];simp
 rw[W2 (by rw[q];simp)];refine Wu (Wy ?_);refine Wu (wpAny_dictEpoch u x ?_);rw[W2 (by simp)];refine Wy ?_
 have C:i<b.length:=by
  rcases Nat.lt_or_ge i b.length with h|h
  ·exact h
  ·simp[V7 h]at hx
 have n:i<y.size:=by rw[q];exact C
 have p:y[i].val=v:=(H.get? (e:=y[i]) (by simp[n]) hx).2;simp only[show ¬((i:Int)<0)from by omega,Jk,Qm,Q8 n]
 refine Wu ?_
 first|refine Wu (QX f.typeIs<|Wy ?_)|refine Wu (Vv f.typeIs<|Wy ?_)
 refine Wu (Jo f.typeIs ?_);show wpAny _ _ (setField (.ref l) 1 (rawInt ((i:Int)+1)) >>= _) _ _ s;refine Wu (QK B hd (by simp) ?_)
 have g:(s.heap.update l<|Obj.mapFields (·.setIfInBounds 1 (rawInt ((i:Int)+1)))).IsValIter l d (i+1) b.length z:=
  ⟨_,Qq _ B (QL<|Qx hd _),(Jc ..).trans M,by rw[Qx hd];simp[rawInt]⟩
 refine Wu (QW ?_);refine Wu (Jo (s:={s with heap:=s.heap.update l (Obj.mapFields (·.setIfInBounds 1 (rawInt ((i:Int)+1))))}) g.typeIs ?_)
 refine Wu (Jo (s:={s with heap:=s.heap.update l (Obj.mapFields (·.setIfInBounds 1 (rawInt ((i:Int)+1))))}) g.typeIs ?_)
 show wpAny _ _ (pure y[i].val) _ _ _;exact Wy (Wy ⟨_,rfl,Wy (p▸N _ g (Q1 ..))⟩)
def RG{q d:Addr}{i y:Nat}{g:List (K×Value)}{Q:Yf->Shared->Prop}(C:A.handled=none)(f:s.heap.IsValIter q d i g.length y)(B:VDict s.heap d g y)(hx:g[i]?=none)(H:∀v,Heap.ExtBut q s.heap v->Q none {s with heap:=v}):wpAny (model prog w) A (pyNext<|.ref q) Q E s:=by
 obtain⟨o,u,N,hd⟩:=id f;obtain⟨J,x,n,G,p,M,z,L⟩:=id B;unfold pyNext
 refine Wu (wpAny_attempt (VX (name:=Str.ofString "__next__") f.typeIs QO
  (QH QO f.typeIs F.entry_dict_valueiterator_next ?_<|F.args_dict_valueiterator_next_1 _)))
 refine Wu (Wy ?_);refine Wu ?_;refine Wu ?_
 first|refine Wu (QX f.typeIs<|Wy ?_)|refine Wu (Vv f.typeIs<|Wy ?_)
 refine Wu (wpAny_fieldsOf u hd ?_);have l:Builtin.Dict_items.ownsTuple "dict_valueiterator"=false:=by decide
 simp only[l,VR,Jk];show wpAny _ _ (if (Value.ref d==Value.none)=true then _ else _) _ _ s;rw[W2 (show ¬((Value.ref d==Value.none)=true)from WR)]
 refine Wu (Wy ?_);refine Wu (wpAny_dictEntries n p ?_);have h:x.size=g.length:=by rw[←z.length];simp
 rw[W2 (by rw[h];simp)];refine Wu (Wy ?_);refine Wu (wpAny_dictEpoch n p ?_);rw[W2 (by simp)];refine Wy ?_;have r:x.size<=i:=by rw[h];simpa using hx
 simp only[show ¬((i:Int)<0)from by omega,Jk,Qm,Jg r]
 refine Wu ?_
 first|refine Wu (QX f.typeIs<|Wy ?_)|refine Wu (Vv f.typeIs<|Wy ?_)
 show wpAny _ _ (setField (.ref q) 0 .none >>= _) _ _ s;refine Wu (QK u hd (by simp) ?_);show wpAny _ _ (newExc (.type "StopIteration") [] >>= _) _ _ _;refine Wu ?_;simp only[newExc,newTuple];refine Wu (Qo ?_<|by size_fits);refine Wu (m:=firstArgMember _ _) (wpAny_of_eq (a:=Value.none) (by first|rfl|(simp only[firstArgMember];rfl)) ?_)
 refine Qo ?_ (by size_fits);simp only[raiseNew];refine Wu (wpAny_handled ?_);rw[show A.in1.handled=none from C]
 refine Wu (Wy<|wpAny_throw ?_);refine Wu (wpAny_isInstance (T:="StopIteration") (b:=true) ⟨_,WE _ rfl,rfl⟩ isSubtype_stop ?_);exact Wy (H _ (((Q1 ..).extBut.push _).push _))
end
end PySem
open PySem PySem.Spec PyProof.Rows
namespace Own
open L2
noncomputable def GH(K:ZT):R2:=λx y H Q=>∃a b xs f,x=.ref a/\y=.ref b/\SqT K H a xs/\SqT K H b f/\xs.length+f.length<=sizeLine/\
 (xs=[]->Q (.ref b) H)/\(xs≠[]->f=[]->Q (.ref a) H)/\(xs≠[]->f≠[]->∀p,H p=none->Q (.ref p) (upd H p<|.tup (xs++f)))
section
variable {X:Cx}{K:ZT}
def Ik(hK:autoParam (X.K=K) au_0):OpR X (binaryOp .Add) (GH K):=by
 subst hK;intro pins s E H x y v u Q I L J h;obtain⟨a,b,xs,G,rfl,rfl,B,A,hz,U,T,N⟩:=h;cases L
 cases J
 by_cases hx:xs=[]
 ·obtain⟨q,M,Y,_⟩:=I.tuple B;obtain⟨f,r2,p2,_⟩:=I.tuple A;have e:=M.nil_iff.mpr hx;obtain⟨⟨cls,dd,data,sl⟩,w,z,n,hd⟩:=id Y;obtain⟨⟨C,r,data2,p⟩,g,o,n2,l⟩:=id p2;simp only at z hd o l;subst z hd o l
  exact concat_meets ⟨_,w,rfl⟩ ⟨_,g,rfl⟩ noFill_tuple_add seq_tuple_add Jf VW (VM _ _)
   (tuple_addW0 a b q.toArray f.toArray n n2 dd r sl p<|by grind) ⟨w,g,⟨.ref b,H,I,rfl,U hx⟩⟩
 ·exact Zhi pins s E H (.ref a) (.ref b) _ _ Q I rfl rfl ⟨a,b,xs,G,rfl,rfl,B,A,hx,hz,T hx,N hx⟩
def Zlp(h:VV [(.ref b,x)] f):∃r,f=[(.ref b,r)]/\RelV x r:=by
 cases h with
 |cons h t=>
  cases t
  rename_i y;obtain⟨u,r⟩:=y;obtain⟨g,l⟩:=h;cases g
  grind
noncomputable def IY(n l:TE):TE:=λg H Q=>∀p,H p=none->n g (upd H p<|.dT []) λy o=>l g o λx f=>f p=some (.dT [])/\∃b h,y=.ref b/\f b=some (.tup<|h.map kV)/\Q (.ref p) (upd f p<|.dT [(h,x)])
def Zle{r p pos}(M:X.A.units+1<cLine)(T:PE X k r)(L:PE X v p):PE X (.Dict [some k] [v] pos) (IY r p):=by
 intro pins s C H Q I q
 refine wpAny_Dict_any rfl rfl (by simp) (by simp) (thn ((Zao T L Ze2) pins _ C _ (λw l=>match w with
  |[(y,x)]=>l s.heap.objs.size=some (.dT [])/\∃b g,y=.ref b/\l b=some (.tup<|g.map kV)/\Q (.ref s.heap.objs.size) (upd l s.heap.objs.size<|.dT [(g,x)])
  |_=>False) (I.laid (t':=s.toks) (λ_ _ q=>Wz _ q) (W3 _)<|Ge s.heap I.big)<|q _<|I.hok.fresh<|W3 s.heap.objs.size) λws s2 ⟨w,l,o,rel,h⟩=>?_)
 split at h
 ·rename_i y x;obtain⟨e,b,g,ey,B,J⟩:=h;subst ey;obtain⟨E,ew,G⟩:=Zlp rel;subst ew;obtain⟨z,hd,xs,f,dd⟩:=BG o.hok e;cases f
  unfold storeAll;rw[List.forIn_cons];refine Wu (Wu (wpAny_dictSet_heap (Nat.lt_of_succ_lt M) (Nx o.hok B) dd λh' n N=>Wy ?_))
  dsimp only
  refine Wy ?_;obtain⟨u,es,ep,hq,h,h3,Y,_,U⟩:=n;refine⟨.ref s.heap.objs.size,_,Am (ob:=.dT [(g,x)]) o (by rw[e];exact True.intro) N ⟨u,hq⟩ ⟨(by show 1<=sizeLine;decide),hd,[(g,b,E)],?_,u,es,ep,hq,h,h3,Y,U⟩,rfl,J⟩;refine .cons ⟨rfl,?_,G⟩ .nil;rwa[Xa (HJ B e (λz=>nomatch z))]
 ·exact h.elim
end
section
variable {prog:Program}{w:World}{A:Around}{K:Type}{d r:Addr}{kvs:List (K×Value)}{ep:Nat}{h h':Heap}
def VDict.at (x:VDict h d kvs ep) (e:∀o,h.get? d=some o->h'.get? d=some o):VDict h' d kvs ep:=let ⟨o,f,b,r⟩:=x;⟨o,f,e _ b,r⟩
def VDict.lt (x:VDict h d kvs ep):d<h.objs.size:=let ⟨_,_,b,_⟩:=x;W8 b
def Zcf(hh:A.handled=none)(I d:Addr)(hne:d≠I)(kvs:List (K×Value))(ep:Nat) :
  Walks prog w A I [I,d] [I] kvs.length (λi v=>∃k,kvs[i]?=some (k,v)) (λi h=>h.IsValIter I d i kvs.length ep/\VDict h d kvs ep) where
 sub:=λb hb=>by simp at hb;simp[hb]
 frame:=λ_ _ _ st hk=>⟨st.1.at λo e=>hk I (by simp) o e,VDict.at st.2 λo e=>hk d (by simp) o e⟩
 item:=λi s Q E hi st hQ=>by
  refine Zfq (k:=(kvs[i]).1) (v:=(kvs[i]).2) st.1 st.2 (by grind) λh' hit' hs'=>?_;exact hQ _ h' s.toks ⟨(kvs[i]).1,by simp[hi]⟩ ⟨hit',VDict.at st.2 λo e=>hs'.extBut d o hne e⟩ λb o hb e=>hs'.extBut b o (λh=>hb (by grind)) e
 done:=λs Q E st hQ=>RG hh st.1 st.2 (by simp) λh' he'=>hQ h' s.toks λb o hb e=>he' b o (λh=>hb (by grind)) e
 self:=λ_ _ _ _ st hQ=>wpAny_pyIter_valiter st.1 hQ
def Zjz:PySem.W.KdlSrc prog w "dict_values" r d kvs.length (λi v=>∃k,kvs[i]?=some (k,v)) (λh=>h.IsValuesView r d/\VDict h d kvs ep) where
 type:=λ_ hm=>hm.1.typeIs
 there:=λ_ hm=>⟨let ⟨_,ho,_⟩:=hm.1;W8 ho,VDict.lt hm.2⟩
 keep:=λ_ _ hm hk=>⟨let ⟨o,ho,x⟩:=hm.1;⟨o,hk r (.inl rfl) o ho,x⟩,VDict.at hm.2 λo e=>hk d (.inr rfl) o e⟩
 notList:=by decide
 notTuple:=by decide
 hint:=λ_ _ _ _ hm hq=>PySem.W.kdl_hint_values hm.1.typeIs hq
 iter:=λ_ _ hh hm=>⟨_,_,(λ_ _ hq=>Zij hm.1 hm.2 hq),Zcf hh _ d (WS<|VDict.lt hm.2) kvs ep,⟨⟨_,WE _ rfl,rfl,rfl⟩,VDict.at hm.2 λo e=>Wz _ e⟩⟩
end
noncomputable def SH(v d:Addr):HO:=.ext λh=>h.IsValuesView v d
def D2:V->List V->Hp->VK->Prop:=λx f H Q=>∃d b,x=.ref d/\f=[]/\H d=some (.dT b)/\∀v,H v=none->Q (.ref v) (upd H v<|SH v d)
section
variable {X:Cx}
def Zi9:MtR X "dict.values" D2:=by
 intro pins s u H x xs v w Q I g l h;obtain⟨d,n,rfl,rfl,hd,q⟩:=h;cases g
 have f:=l.zero;subst f;obtain⟨z,lo,xs,rel,p⟩:=BG I.hok hd;obtain⟨o,B,C,b,hx,_⟩:=id p;refine call_meetsIn PySem.F.slot_dict_values ⟨o,b,hx.1⟩ PySem.F.entry_dict_values (PySem.F.args_dict_values_1 _) (Zit d lo) ⟨⟨o,b,hx.1⟩,?_⟩;refine⟨.ref s.heap.objs.size,_,I.laid (o:=SH s.heap.objs.size d) (λ_ _ q=>Wz _ q) (W3 _) ⟨⟨_,WE _ rfl,rfl,rfl⟩,⟨_,WE _ rfl⟩,λA y ⟨o,b,r⟩ e=>⟨o,e o b,r⟩⟩,rfl,q _ (I.hok.fresh<|W3 _)⟩
def Zhm{K}{o}{to}{name:Str}{apos cpos}(g:PE X o to)(l:autoParam (X.K=K) au_0)(h:autoParam (name = "values") au_0)(f:autoParam (attributeBase o name X.env (eval o X.env)=eval o X.env) au_0)(b:autoParam ((apos.endLine==cpos.line)=true) au_0):PE X (.Call (.Attribute o name apos) [] [] cpos) (Dd K "dict" D2 to):=by
 subst l h;exact Zfa PySem.F.plainAttrs_dict PySem.F.slot_dict_values PySem.F.type_dict_values Zi9 g f b
def ML:∀{kvs}{xs:List (List Key×Addr×Value)},KT H kvs xs->Vals (kvs.map (·.2)) (xs.map (·.2.2)):=by
 intro f
 induction f with
 |nil=>
  intro _ h;cases h
  exact .nil
 |cons _ _ b=>
  intro _ h;cases h with
  |cons h r=>
   exact .cons h.2.2 (b r)
def Zjp(M:X.calm=true):XM X (.type "list") (λxs H Q=>∃v d b,xs=[.ref v]/\H v=some (SH v d)/\H d=some (.dT b)/\∀l,H l=none->Q (.ref l) (upd H l<|.lst<|b.map (·.2))):=by
 intro pins s σ H xs us Q I B h;obtain⟨v,d,b,rfl,E,hd,q⟩:=h;obtain⟨u,rfl,C⟩:=B.one;obtain rfl:=C;obtain⟨z,lo,xs,rel,Y⟩:=BG I.hok hd;obtain⟨o,T,U,J,hx,n,y,w,hn⟩:=id Y;have hl:xs.length=b.length:=by simpa using(ML rel).length.symm
 have A:VDict s.heap d (xs.map λx=>((),x.2.2)) U:=by
  refine⟨o,T,J,hx,n,trivial,⟨by rw[y,Wv,Wv],λ{i e k v} r p=>⟨trivial,?_⟩⟩,trivial⟩;rw[y,WH]at r;rw[WH]at p;cases L:xs[i]? with
  |none=>grind
  |some x=>
   rw[L]at r p;cases r
   cases p
   rfl
 refine PySem.W.kdl_call Zjz (I.ok.hd M) ⟨((I.hok v _ E).1),A⟩ (by rw[Wv];lia) λh' tk g c' w N f=>?_;refine⟨.ref s.heap.objs.size,upd H s.heap.objs.size (.lst<|b.map (·.2)),?_,rfl,q _ (I.hok.fresh<|W3 _)⟩;refine I.laid w (W3 _) ⟨by rw[Wv];exact z,g.toList,c',?_,by simpa using N⟩;rw[(PySem.W.kdl_vals_eq g.toList (by rw[Qu];exact f.1) λj u G=>f.2 j u (by rw[←G,Q9])),Qe];exact ML rel
end
end Own
namespace Pu
open L2 Own M
section
variable {K:ZT}{mg:ZX}{E:L2.St->XK}{H0 H H1 H':Hp}{B Z Z':Addr->Prop}{σ:L2.St}{γ:Γ}
noncomputable def NL:Option D->Option (List D)
 |some (.tup b)=>some b|_=>none
def FF(h:NL o=some ds):o=some (.tup ds):=by
 unfold NL at h;split at h
 ·grind
 ·grind
def Zb1:S->S->(S->Prop)->Prop:=λx y R=>∃f b,NL x.shd=some f/\NL y.shd=some b/\f.length+b.length<=100000/\R (.sh<|.tup (f++b))
def Mj{a b}(Y:UX K mg E M a)(U:UX K mg E L b):UX K mg E (tOp (GH K) M L) (p2 a b Zb1):=by
 refine KN Y U λH0 H H2 Z x y v u R Q s f r J G h q=>?_;obtain⟨ds,es,e1,e2,T,h⟩:=h;have N:=J.shd s r f (FF e1);have w:=G.shd s r f (FF e2);obtain⟨l,C,rfl,h1,o⟩:=Rp.tup_inv N;obtain⟨m,A,rfl,h2,n⟩:=Rp.tup_inv w;refine⟨l,m,C,A,rfl,rfl,SqT.of (off_sub _ _ h1),SqT.of (off_sub _ _ h2),by rw[o.len,n.len];exact W9 T (by decide),λe=>?_,λ_ e=>?_,λ_ _ p g=>?_⟩
 ·subst e;cases o
  exact q _ _ _ h (Same.refl _) w
 ·subst e;cases n
  refine q _ _ _ h (Same.refl _) ?_;rw[Qn];trivial
 ·refine q _ _ _ h (X4 g) (.tup (X8 Xk λz=>?_)<|Rps.mono (Xm (X4 g) λ_ _ _ z=>z)<|o.append n)
  have:=(λb z=>P7 f (r b z)) p z
  rw[g]at this;exact this
noncomputable def pIT(a:PTE):PTI:=λγ R X=>a γ (λs=>∃b,NL s.shd=some b/\R b.length λi=>.sh (b.getD i .non)) X
def NA(J:UX K mg E te a):SndI K mg E (AR K te) (pIT a):=by
 intro H0 B H σ γ R X Q b h q C;refine J H0 B H σ γ _ X _ b h (λs v H1 n o A=>?_) C;obtain⟨w,L,n⟩:=n;obtain⟨l,f,rfl,g,p⟩:=Rp.tup_inv (A.shd (b.grow o).same b.zm o (FF L));refine⟨l,rfl,⟨f,SqT.of (off_sub _ _ g)⟩,q _ _ _ H1 n o ⟨λi H' Z' G lt=>?_,λH' Z' lt=>?_⟩⟩
 ·have hd:w[i]?=some (w.getD i .non):=by rw[W7,Ww G];rfl
  obtain⟨u,r,z⟩:=p.get hd;have k:=off_sub _ _ (lt.off _ _ g);refine⟨⟨f,u,SqT.of k,r⟩,λx M y=>?_⟩;obtain⟨rfl,y⟩:=y
  have:=y f (SqT.of k)
  rw[r]at this;cases this
  exact⟨Same.refl _,Rp.mono lt.off z⟩
 ·exact⟨f,SqT.of (off_sub _ _<|lt.off _ _ g),by rw[p.len];exact W3 _⟩
noncomputable def NT:List (List Key×V)->Bool
 |[]=>true
 |p::r=>Fy p.2&&NT r
theorem Hv:∀{b:List (List Key×V)},NT b=true->Rps K H (b.map λp=>vD p.2) (b.map (·.2))
 |[],_=>.nil
 |p::r,h=>by
  unfold NT at h;rw[Qd]at h;exact .cons (CV h.1) (Hv h.2)
def Zcw:List V->Hp->VK->Prop:=λxs H Q=>∃(v d:Addr) (b:List (List Key×V)),xs=[.ref v]/\H v=some (SH v d)/\H d=some (.dT b)/\∀l,H l=none->Q (.ref l) (upd H l<|.lst<|b.map (·.2))
noncomputable def Zl7(a:PTE):PTE:=λγ R X=>a γ (λs=>∃b,s.d=.dT b/\NT b=true/\R (.own<|.lst (b.map λp=>vD p.2))) X
def Znd(A:UX K mg E te a):UX K mg E (tCB Zcw<|XN (Dd K "dict" D2 te) Kt) (Zl7 a):=by
 intro H0 B H σ γ R X Q f h q y;refine A H0 B H σ γ _ X _ f h (λs v H1 G n x=>?_) y;obtain⟨b,e,z,C⟩:=G;have o:=x.rp (f.grow n).same;rw[e]at o;obtain⟨l,rfl,g⟩:=o.dT_inv;refine⟨.inr (.inr<|.inl ⟨rfl,.inr ⟨b,g⟩⟩),l,b,rfl,rfl,g,λp r=>?_⟩;refine⟨p,l,b,rfl,Xk,by rw[Xa (Xy g r)];exact g,λm u=>?_⟩;have w:Same H1 (upd H1 p<|SH p l):=X4 r;exact q _ _ _ C ((n.trans w).trans (X4 u)) ⟨m,rfl,(λ_ e=>e▸(n.trans w).free u),_,Xk,Hv z⟩
noncomputable def Zme(a b:PTE):PTE:=λγ R X=>a γ (λy=>b γ (λx=>∃f u,NH y.d=some f/\Sb x.d=some u/\R (.own<|.dT [(f,u)])) X) X
def Za7{a b}(ha:UX K mg E L a)(hb:UX K mg E J b):UX K mg E (IY L J) (Zme a b):=by
 intro H0 B H σ γ R X Q A h q G p s;have r:Same H (upd H p<|.dT []):=X4 s;have env0:=A.grow r;refine ha H0 B _ σ γ _ X _ env0 h (λy v H1 h1 n N=>?_) λc H' g C=>G c H' g (r.trans C);have f:=env0.grow n;refine hb H0 B H1 σ γ _ X _ f h1 (λx w H2 h2 l M=>?_) λc H' g C=>G c H' g ((r.trans n).trans C);obtain⟨T,u,k1,Y,U⟩:=h2;have eu:=Ft (M.rp (f.grow l).same) Y;obtain⟨b',rfl,z⟩:=SM (Rp.mono l<|N.rp f.same) k1;subst eu;refine⟨l _ _ (n _ _ Xk),b',T,rfl,z,q _ _ _ U (λc o g=>?_) ⟨p,rfl,(λ_ e=>e▸s),Xk⟩⟩
 have:c≠p:=λe=>by subst e;rw[s]at g;cases g
 rw[Xa this];exact l _ _ (n _ _<|r _ _ g)
end
section
variable {X:Cx}{K:ZT}
def Nu{f l b}(g:PE X l b)(h:autoParam (X.K=K) au_0):PI X f l (AR K b):=by subst h;exact Zbf g
end
end Pu
namespace M
open L2 Own Pu
noncomputable def tD(b:ZV):D:=.tup (b.map D.int)
noncomputable def kT(b:ZV):List Key:=b.map Sum.inl
def Co(b:ZV):arg (tD b)=.sh (tD b):=by
 unfold arg tD imm;rw[Nd]
def Bh:KR N (tD b::ds)=some (.sh<|tD b)::(ds.map (λd=>some (arg d))++List.replicate (N.length-(ds.length+1)) none):=by
 unfold KR;rw[WQ,Co];rfl
def B9(b:ZV):NH (tD b)=some (kT b):=by
 show NR (b.map D.int)=some (b.map Sum.inl)
 induction b with
 |nil=>rfl
 |cons m r f=>
  rw[WQ,WQ];unfold NR;rw[f];rfl
def Zmu(b:ZV):NL (some<|tD b)=some (b.map D.int):=rfl
def Zfd(b:ZV):imm (tD b)=true:=Nd b
noncomputable def Xj(b:ZV)(h:Int):ZV:=b.filter λm=>decide (m≠h)
noncomputable def PM(b:ZU)(f:ZV)(h:Int):Bool:=!(b.any λq=>decide (q.1=h)&&decide (q.2∈f))
noncomputable def firstM(b:ZU)(f:ZV)(h:Int):Bool:=!(b.any λq=>decide (q.2=h)&&decide (q.1∈f))
noncomputable def Xs(b:ZV):List (ZV):=b.foldl (λS h=>S++S.map (·++[h])) [[]]
def Nq(b:ZV)(h:Int):Xs (b++[h])=Xs b++(Xs b).map (·++[h]):=by
 unfold Xs;simp
def Tg{P:ZV->Prop}(g:P [])(f:∀r h,P r->P (r++[h]))(l:ZV):P l:=by
 have b:∀r:ZV,P r.reverse:=λr=>by
  induction r with
  |_=>grind
 rw[←List.reverse_reverse l]
 grind
def LF(b:ZV):(Xs b).length=2 ^ b.length:=by
 refine Tg (P:=λb=>(Xs b).length=2 ^ b.length) rfl (λr h f=>?_) b;rw[Nq,WA,Wv,f,WA,Vm,Nat.pow_succ];lia
def Si(f:ZV):∀b∈Xs f,b.Sublist f:=by
 refine Tg (P:=λf=>∀b∈Xs f,b.Sublist f) (λb h=>?_) (λr h g b hm=>?_) f
 ·have:b=[]:=by simpa [Xs]using h
  grind
 ·rw[Nq,WD]at hm;rcases hm with hm|hm
  ·grind
  ·grind
noncomputable def oc(c:Int->Int->Int):ZV->Int
 |[]=>0
 |a::r=>(r.map<|c a).sum+oc c r
def Keeps(f:ZU)(o:ZV):Prop:=o.Pairwise λa b=>(b,a)∉f
structure Kx (ws:ZU) (c:Int->Int->Int) (ms:ZV) (v:Int):Prop where
 is:∃o:ZV,o.Perm ms/\Keeps ws o/\oc c o=v
 le:∀o:ZV,o.Perm ms->Keeps ws o->v<=oc c o
theorem Cp(c:Int->Int->Int)(l:Int):∀o,oc c (o++[l])=oc c o+(o.map (c · l)).sum
 |[]=>by simp[oc]
 |a::r=>by
  rw[QA];unfold oc;rw[Cp c l r]
  grind
def NZ{f:Int->Int}{xs b:ZV}(h:xs.Perm b):(xs.map f).sum=(b.map f).sum:=by
 induction h with
 |nil=>rfl
 |trans _ _ l g=>lia
 |_=>grind
def PK{b:ZV}{h}(f:b.Nodup)(g:h∈b):b.Perm (h::Xj b h):=by
 have e:Xj b h=b.erase h:=by
  unfold Xj;rw[f.erase_eq_filter]
  grind
 grind
def less_sub:(Xj b h).Sublist b:=List.filter_sublist
def lastM_iff:PM f g h=true↔∀b∈g,(h,b)∉f:=by
 unfold PM;constructor
 ·grind
 ·grind
def firstM_iff:firstM f g h=true↔∀b∈g,(b,h)∉f:=by
 unfold firstM;constructor
 ·grind
 ·grind
def Zci{ms}{vs:Int->Int}{M}(s:ms.Nodup)(hw:∀q∈h,q.1≠q.2)(w:∀l∈ms,Kx h c (Xj ms l) (vs l))(E:∃l∈ms,PM h ms l=true/\M=vs l+((Xj ms l).map (c · l)).sum)(C:∀l∈ms,PM h ms l=true->M<=vs l+((Xj ms l).map (c · l)).sum):Kx h c ms M:=by
 constructor
 ·obtain⟨l,g,f,e⟩:=E;obtain⟨o,o1,n,x⟩:=(w l g).is;refine⟨o++[l],?_,?_,?_⟩
  ·exact(List.perm_append_singleton l o).trans (((List.Perm.cons l o1)).trans (PK s g).symm)
  ·refine Q4.mpr ⟨n,List.pairwise_singleton _ _,λa B b v=>?_⟩;rw[Wx.mp v];exact lastM_iff.mp f a (less_sub.subset<|o1.mem_iff.mp B)
  ·rw[Cp,x,e,NZ o1]
 ·intro o o1 n;rcases List.eq_nil_or_concat o with rfl|⟨p,l,rfl⟩
  ·grind
  ·rw[List.concat_eq_append]at o1 n ⊢;have g:l∈ms:=o1.mem_iff.mp (by simp);obtain⟨A,_,y⟩:=Q4.mp n
   have r:p.Perm (Xj ms l):=by
    have:=((List.perm_append_singleton l p).symm.trans o1).trans (PK s g)
    exact this.cons_inv
   have f:=lastM_iff.mpr λb v=>by
    rcases WB.mp ((PK s g).mem_iff.mp v)with e|u
    ·subst e;exact λz=>hw _ z rfl
    ·exact y b (r.mem_iff.mpr u) l (Wx.mpr rfl)
   have a1:=C l g f;have a2:=(w l g).le p r A;rw[Cp,NZ r];lia
def Me(a b:ZV)(l:Int):Xj (a++b) l=Xj a l++Xj b l:=VT ..
def DV(h:l∉a):Xj a l=a:=List.filter_eq_self.mpr λm b=>W1 λe=>h (e▸b)
def Zkn(b:ZV):∃T,Xs b=[]::T:=by
 refine Tg (P:=λb=>∃T,Xs b=[]::T) ⟨[],rfl⟩ (λr h ⟨T,e⟩=>?_) b;rw[Nq,e]
 grind
def GO(b:ZV):(Xs b).getLast?=some b:=by
 refine Tg (P:=λb=>(Xs b).getLast?=some b) rfl (λr h e=>?_) b;rw[Nq,List.getLast?_append,List.getLast?_map,e];rfl
def Gp:f.Nodup->(Xs f).Nodup:=by
 refine Tg (P:=λf=>f.Nodup->(Xs f).Nodup) (λ_=>by simp[Xs]) (λr h n o=>?_) f;obtain⟨l,_,p⟩:=Qf.mp o;rw[Nq];refine Qf.mpr ⟨n l,?_,λa s b q e=>?_⟩
 ·exact JJ _ (λa b g e=>g (List.append_cancel_right e)) (n l)
 ·obtain⟨c,u,rfl⟩:=WK.mp q;subst e;exact p h ((Si r _ s).subset (by simp)) h (by simp) rfl
def Mt:f.Nodup->∀k b,(Xs f)[k]?=some b->∀l∈b,∃j:Nat,j<k/\(Xs f)[j]?=some (Xj b l):=by
 refine Tg (P:=λf=>f.Nodup->∀k b,(Xs f)[k]?=some b->∀l∈b,∃j,j<k/\(Xs f)[j]?=some (Xj b l)) (λ_ k b e l p=>?_) (λr h x y k b e l p=>?_) f
 ·have:b=[]:=by
   have:=Qa e
   simpa [Xs]using this
  subst this;cases p
 ·obtain⟨w,_,A⟩:=Qf.mp y;rw[Nq]at e ⊢;by_cases B:k<(Xs r).length
  ·rw[Qt B]at e;obtain⟨j,g,o⟩:=x w k b e l p;exact⟨j,g,by rw[Qt (by lia)];exact o⟩
  ·rw[Q5 (by lia),WH]at e;cases q:(Xs r)[k-(Xs r).length]? with
   |none=>rw[q]at e;cases e
   |some n=>
    rw[q]at e;cases e
    have C:=λz=>A h ((Si r n<|Qa q).subset z) h (by simp) rfl;by_cases u:l=h
    ·subst u
     have v:Xj (n++[l]) l=n:=by
      rw[Me,DV C];simp[Xj]
     obtain⟨j,g,o⟩:=WJ.mp (Qa q);refine⟨j,by lia,?_⟩;rw[Qt g,v,Ww g,o]
    ·have s:l∈n:=by
      rcases WD.mp p with z|z
      ·exact z
      ·exact absurd (Wx.mp z) u
     have v:Xj (n++[h]) l=Xj n l++[h]:=by
      rw[Me];congr 1;exact DV λz=>u (Wx.mp z)
     obtain⟨j,g,o⟩:=x w _ n q l s;refine⟨(Xs r).length+j,by lia,?_⟩;rw[Q5 (by lia),WH,Nat.add_sub_cancel_left,o,v];rfl
def BE(h:kT a=kT b):a=b:=List.map_inj_right (λ_ _=>Sum.inl.inj) |>.mp h
def LB(h:ZV)(g:ZU):Prop:=∀f:ZV,f.Sublist h->f≠[]->∃l∈f,∀b∈f,(l,b)∉g
structure Tab (ws:ZU) (c:Int->Int->Int) (S:List (ZV)) (kvs:List (List Key×V)):Prop where
 keys:kvs.map (·.1)=S.map kT
 val:∀ms∈S,∃v,Xi kvs (kT ms)=some (.int v)/\Kx ws c ms v
def Zgy(b:ZU)(c:Int->Int->Int):Tab b c [[]] [([],.int 0)]:=by
 refine⟨rfl,λh g=>?_⟩;rw[Wx.mp g];refine⟨0,rfl,⟨[],.refl _,.nil,rfl⟩,λo f _=>?_⟩;rw[f.eq_nil];exact VG _
def Tab.put {S b g v} (T:Tab h c S b) (r:g∉S) (L:Kx h c g v):Tab h c (S++[g]) (putK b (kT g)<|.int v):=by
 have o:Xi b (kT g)=none:=by
  cases e:Xi b (kT g)with
  |none=>rfl
  |some u=>
   unfold Xi at e;cases q:b.find? (λp=>decide (p.1=kT g))with
   |none=>rw[q]at e;cases e
   |some x=>
    have s:=List.find?_some q;have l:x.1∈b.map (·.1):=WK.mpr ⟨x,(List.mem_of_find?_eq_some q),rfl⟩;rw[T.keys,W6 s]at l;obtain⟨n,f,w⟩:=WK.mp l;rw[BE w]at f;exact absurd f r
 constructor
 ·rw[OL _ o,WC,WC,T.keys];rfl
 ·intro n f;rw[SZ];by_cases e:n=g
  ·grind
  ·rw[W2 λz=>e (BE z)];rcases WD.mp f with z|z
   ·exact T.val n z
   ·exact absurd (Wx.mp z) e
open Classical in
def La{g:ZV}{P:Int->Int->Prop}(h:∀l∈g,∃v,P l v):∃f:Int->Int,∀l∈g,P l (f l):=
 ⟨λl=>if b:l∈g then Classical.choose (h l b)else 0,λl b=>by
  simp only[dif_pos b];exact Classical.choose_spec (h l b)⟩
def RM{r}(R:Ring n (g.map λq=>(q.2,q.1)) r):Ring n g r.reverse:=by
 have l:∀{x y:Int},(x,y)∈(g.map λq=>(q.2,q.1))->(y,x)∈g:=λh=>by
  obtain⟨q,hq,e⟩:=WK.mp h;cases e
  exact hq
 refine⟨by rw[J7];exact R.two,List.pairwise_reverse.mpr (R.nodup.imp λh=>Ne.symm h),λx hx=>R.sub x (List.mem_reverse.mp hx),λi x y f b=>?_,λx y f b=>?_⟩
 ·have o:i+1<r.length:=by
   have:=(WI.mp b).1
   rw[J7]at this;exact this
  rw[Jp (by lia)]at f b;exact l (R.chain (r.length-1-(i+1)) y x b<|by rw[←f];congr 1;lia)
 ·have two:=R.two;rw[Jp (by lia)]at f;rw[J7,Jp (by lia)]at b;exact l (R.last y x (by rw[←b];congr 1;lia)<|by rw[←f];congr 1)
def Gz{ws}(g:∀q∈ws,q.1≠q.2)(h:¬ ∃r,Ring l ws r):LB l ws:=λf o b=>by
 refine Qc λz=>h ?_
 have s:∀x∈f,∃y∈f,(y,x)∈(ws.map λq=>(q.2,q.1)):=λx hx=>by
  grind
 obtain⟨r,R⟩:=ET (λq hq=>by
  obtain⟨p,n,e⟩:=WK.mp hq;subst e;exact λe=>g p n e.symm) b s
 have F:=RM R;exact⟨_,F.two,F.nodup,λx hx=>o.subset (F.sub x hx),F.chain,F.last⟩
theorem DR:∀{b:List (List Key×V)},(b.map (·.1)).Nodup->∀p∈b,Xi b p.1=some p.2
 |[],_,p,h=>by cases h
 |q::r,f,p,h=>by
  rw[WQ,Ql]at f;rcases WB.mp h with e|h
  ·rw[e];exact Pa rfl
  ·rw[KZ λe=>f.1 (WK.mpr ⟨p,h,e.symm⟩)];exact DR f.2 p h
def Cd(f:ZU)(c:Int->Int->Int)(S:List (ZV))(vs:ZV):Prop:=vs.length=S.length/\∀(i:Nat) (b:ZV) (v:Int),S[i]?=some b->vs[i]?=some v->Kx f c b v
def Tab.vals {S f} (T:Tab s c S f) (z:S.Nodup):∃vs,f.map (·.2)=vs.map V.int/\Cd s c S vs:=by
 have y:(f.map (·.1)).Nodup:=by
  rw[T.keys];exact JJ _ (λa b r e=>r (BE e)) z
 have x:∀p∈f,∃g∈S,p.1=kT g/\∃v,p.2=.int v/\Kx s c g v:=λp l=>by
  have o:p.1∈f.map (·.1):=WK.mpr ⟨p,l,rfl⟩;rw[T.keys]at o;obtain⟨g,w,e⟩:=WK.mp o;obtain⟨v,h,n⟩:=T.val g w;rw[e,DR y p l]at h;exact⟨g,w,e.symm,v,WL h,n⟩
 have C:f.length=S.length:=by
  have:=Qs List.length T.keys
  rw[Wv,Wv]at this;exact this
 refine⟨f.map λp=>match p.2 with | .int v=>v|_=>0,?_,by rw[Wv,C],λi g v o h=>?_⟩
 ·rw[Qe];refine Vc λp l=>?_;obtain⟨g,_,_,v,e,_⟩:=x p l;show p.2=V.int (match p.2 with | .int v=>v|_=>0)
  rw[e]
 ·rw[WH]at h;cases q:f[i]? with
  |none=>rw[q]at h;cases h
  |some p=>
   obtain⟨A,B,E,u,H,L⟩:=x p (Qa q);have n:(f.map (·.1))[i]?=some p.1:=by rw[WH,q];rfl
   rw[T.keys,WH,o]at n;have G:=BE ((WL n).trans E);simp_all
theorem G1:∀{kvs}{vs:ZV},kvs.map (·.2)=vs.map V.int->NT kvs=true/\kvs.map (λp=>vD p.2)=vs.map D.int
 |[],[],_=>⟨rfl,rfl⟩
 |p::r,v::vs,h=>by
  rw[WQ,WQ,J0]at h;obtain⟨f,b⟩:=G1 h.2;unfold NT;rw[f,WQ,WQ,b,h.1];trivial
structure P8 (ws:ZU) (c:Int->Int->Int) (ms o:ZV):Prop where
 perm:o.Perm ms
 keeps:Keeps ws o
 le:∀p:ZV,p.Perm ms->Keeps ws p->oc c o<=oc c p
 first:∀p:ZV,p.Perm ms->Keeps ws p->oc c p=oc c o->o=p\/sl o p
def Zat(f:ZU)(c:Int->Int->Int):P8 f c [] []:=by
 refine⟨.refl _,.nil,λp b _=>?_,λp b _ _=>.inl b.eq_nil.symm⟩;simp_all
def HQ{ms}{vs:Int->Int}{V g}{p}(r:ms.Nodup)(A:∀q∈n,q.1≠q.2)(v:∀l∈ms,Kx n c (Xj ms l) (vs l))(G:Kx n c ms V)(w:(g::p).Perm ms)(B:Keeps n (g::p))(e:oc c (g::p)=V):g∈ms/\firstM n ms g=true/\vs g+((Xj ms g).map (c g)).sum=V/\p.Perm (Xj ms g)/\oc c p=vs g:=by
 have h:=w.mem_iff.mp (WU ..);have u:=(w.trans<|PK r h).cons_inv;obtain⟨M,y⟩:=QJ.mp B
 have C:=firstM_iff.mpr λb s=>by
  rcases WB.mp ((PK r h).mem_iff.mp s)with e|E
  ·subst e;exact λz=>A _ z rfl
  ·grind
 have a1:=(v g h).le p u y;obtain⟨o,o1,x,L⟩:=(v g h).is;have a2:=G.le (g::o) ((List.Perm.cons g o1).trans (PK r h).symm) (QJ.mpr ⟨λb s=>firstM_iff.mp C b (less_sub.subset<|o1.mem_iff.mp s),x⟩);have Q:oc c (g::p)=(p.map<|c g).sum+oc c p:=rfl;have N:oc c (g::o)=(o.map<|c g).sum+oc c o:=rfl;have J:=NZ (f:=c g) u;have H:=NZ (f:=c g) o1
 grind
def Zag{h o}{vs:Int->Int}{V f}(w:h.Nodup)(H:∀q∈n,q.1≠q.2)(s:∀l∈h,Kx n c (Xj h l) (vs l))(x:Kx n c h V)(u:f∈h)(N:firstM n h f=true)(U:vs f+((Xj h f).map (c f)).sum=V)(M:∀g∈h,firstM n h g=true->vs g+((Xj h g).map (c g)).sum=V->f<=g)(B:P8 n c (Xj h f) o):P8 n c h (f::o):=by
 have Q:oc c o=vs f:=by
  obtain⟨p,r,p2,v⟩:=(s f u).is
  have:=(s f u).le o B.perm B.keeps
  have:=B.le p r p2
  lia
 have Y:=NZ (f:=c f) B.perm
 have e:oc c (f::o)=V:=by
  show(o.map<|c f).sum+oc c o=V;lia
 refine⟨(List.Perm.cons f B.perm).trans (PK w u).symm,QJ.mpr ⟨λb L=>firstM_iff.mp N b (less_sub.subset<|B.perm.mem_iff.mp L),B.keeps⟩,λp r p2=>?_,λp r p2 v=>?_⟩
 ·rw[e];exact x.le p r p2
 ·cases p with
  |nil=>grind
  |cons g p=>
   obtain⟨G,E,C,A,y⟩:=HQ w H s x r p2 (v.trans e);have J:=M g G E C;by_cases T:f=g
   ·subst T;rcases B.first p A (QJ.mp p2).2 (y.trans Q.symm)with z|z
    ·exact .inl (by rw[z])
    ·exact .inr (sl_cons.mpr z)
   ·exact .inr (.inl<|by lia)
end M
namespace Pu
open L2 Own
section
variable {K:ZT}{mg:ZX}{E:L2.St->XK}{H0 H H1 H':Hp}{B Z Z':Addr->Prop}{σ:L2.St}{γ:Γ}
def O.from:O->O->Prop
 | .ins x _ _ g,.ins f _ _ b=>f=x/\∀c∈g,∃h∈b,h.1=c.1
 | .lsA x _,.lsA f _=>f=x
 | .nsl x g,.nsl f b=>f=x/\b.map (·.1)=g.map (·.1)
 |_,_=>False
def O.from_adr {o o':O}{a} (h:o.from o'):∀b,o.adr a b->o'.adr a b:=by
 unfold O.from at h
 split at h
 ·intro b g;rcases g with g|⟨c,p,g⟩
  ·exact .inl (g.trans h.1.symm)
  ·obtain⟨q,n,l⟩:=h.2 c p;exact .inr ⟨q,n,g.trans l.symm⟩
 ·intro b g;exact g.trans h.symm
 ·intro b g;rcases g with g|⟨c,p,g⟩
  ·exact .inl (g.trans h.1.symm)
  ·have m:=VH (f:=(·.1)) p;rw[←h.2]at m;obtain⟨q,n,l⟩:=WK.mp m;exact .inr ⟨q,n,g.trans l.symm⟩
 ·grind
def O.from_at {a g}{F l H H'} (h:o.from o') (f:OR K F H a o) (b:OR K l H' g o'):g=a:=by
 unfold O.from at h
 split at h
 ·exact b.1.trans (h.1.trans f.1.symm)
 ·exact b.1.trans (h.trans f.1.symm)
 ·exact b.1.trans (h.1.trans f.1.symm)
 ·grind
abbrev Pw:=O->List S->(O->D->Prop)->(O->Str->Prop)->Prop
noncomputable def S.pass:S->Option S
 | .sh d=>some (.sh d) | .own o=>some (.sh o.d)
 | .bor d=>match imm d with|true=>some (.sh d)|false=>some (.bor d)
 | .tmp d=>match imm d with|true=>some (.sh d)|false=>none
 | .view _=>none
def S.flat:S->Prop
 | .sh _=>True | .bor _=>True|_=>False
noncomputable def passes:List S->Option (List S)
 |[]=>some []
 |s::r=>match s.pass,passes r with|some b,some f=>some (b::f)|_,_=>none
structure After (K:ZT) (B:Addr->Prop) (H:Hp) (a:Addr) (o o':O) (H':Hp):Prop where
 same:Same (off (o.adr a) H) H'
 old:∀b,o.adr a b->o'.adr a b
 new:∀b,o'.adr a b->o.adr a b\/H b=none
 at_:OR K (off (λb=>B b\/o'.adr a b) H') H' a o'
noncomputable def spW(mg:ZX)(c:Pw)(K:ZT):Sp:=λl H Q E=>∃(o:O) (a:Addr) (g:List S) (h:List V) (B:Addr->Prop) (R:O->D->Prop) (X:O->Str->Prop),
 l=.ref a::h/\(∀b,B b->Mut (H b)/\¬o.adr a b)/\OR K (off (λb=>B b\/o.adr a b) H) H a o/\TVs K (λb=>B b\/o.adr a b) (off (o.adr a) H) H H g h/\(∀s∈g,s.flat)/\c o g R X/\
 (∀f d v H',R f d->After K B H a o f H'->Rp K (off (λb=>B b\/f.adr a b) H') d v->Q v H')/\∀f e H',X f e->After K B H a o f H'->XE mg E e H'
def TVs.get:∀{b vs}{i:Nat}{s:S},TVs K Z H0 H H' b vs->b[i]?=some s->∃v,vs[i]?=some v/\TV K Z H0 H H' s v:=by
 intro n
 induction n with
 |nil=>
  intro _ i _ h e;simp at e
 |cons _ _ f=>
  intro _ i d h e;cases h with
  |cons h r=>
   cases i with
   |zero=>
    simp at e;subst e;exact⟨_,rfl,h⟩
   |succ i=>
    obtain⟨v,l,g⟩:=f r (by simpa using e);exact⟨v,by simpa using l,g⟩
noncomputable def Tx(N:Yc)(o:O)(b:List S):Γ:=some (.own o)::(b.map some++List.replicate (N.length-(b.length+1)) none)
def Zhb{o a f us}(T:∀b,B b->Mut (H b)/\¬o.adr a b)(M:OR K (off (λb=>B b\/o.adr a b) H) H a o)(r:TVs K (λb=>B b\/o.adr a b) (off (o.adr a) H) H H f us)(L:∀s∈f,s.flat)(hn:f.length+1<=N.length) :
  Xd K (off (o.adr a) H) B H (start N (.ref a::us)) (Tx N o f):=by
 have get:∀i s,(Tx N o f)[i+1]?=some (some s)->f[i]?=some s:=λi s h=>by
  unfold Tx at h;rw[VZ]at h;by_cases p:i<f.length
  ·rw[Qt (by rw[Wv];exact p),WH,Ww p]at h;rw[Ww p];exact Qs some (WL<|WL h)
  ·rw[Q5 (by rw[Wv];lia),VU]at h;split at h<;>cases h
 have noown:∀i g,(Tx N o f)[i+1]?≠some (some<|.own g):=λi g h=>L _ (Qa<|get i _ h)
 have n:(start N (V.ref a::us))[0]?=some (some<|.ref a):=by
  unfold L2.start;rfl
 have C:∀b,zof B (Tx N o f) (start N (V.ref a::us)) b->B b\/o.adr a b:=λb z=>by
  rcases z with z|⟨i,g,a',l,u,U⟩
  ·exact .inl z
  ·cases i with
   |zero=>
    cases u
    have:o=g:=by
     cases l
     rfl
    subst this;exact .inr U
   |succ i=>exact absurd l (noown i g)
 refine⟨off_sub,?_,λb h=>(T b h).1,λi j x Y g w b l u _ _ _ _=>?_,λi s h=>?_⟩
 ·unfold L2.start Tx;simp[r.len]
 ·cases i with
  |succ i=>exact absurd l (noown i g)
  |zero=>
   cases j with
   |zero=>rfl
   |succ j=>exact absurd u (noown j w)
 ·cases i with
  |zero=>
   have h:=h;cases h
   refine⟨_,n,a,rfl,λb Q=>?_,M.mono (Xm (Same.refl _) λb _ _ z y=>z (C b y)) λ_ _ _ q=>q⟩;unfold off;rw[W5 Q]
  |succ i=>
   have J:=get i s h;obtain⟨v,G,A⟩:=r.get J;refine⟨v,?_,?_⟩
   ·unfold L2.start;rw[Qt (by rw[Wv,WW];have:=(WI.mp G).1;lia),WH,VZ,G];rfl
   ·have:=L s (Qa J)
    cases s with
    |bor d=>exact A
    |sh d=>exact Rp.mono (Xm (Same.refl _) λb _ _ z y=>z (C b y)) A
    |_=>exact this.elim
def Gh(o:O)(R:O->D->Prop)(γ:Γ)(d:D):Prop:=∃b,γ[0]?=some (some<|.own b)/\o.from b/\R b d
def Rt(o:O)(X:O->Str->Prop)(γ:Γ)(e:Str):Prop:=∃b,γ[0]?=some (some<|.own b)/\o.from b/\X b e
noncomputable def Ln(o:O)(R:O->D->Prop)(X:O->Str->Prop):Ni:={nx:=λγ=>Gh o R γ .non,rt:=λ_=>False,ex:=Rt o X,rv:=Gh o R}
def D4{σ'}{γ'}(n:OR K (off (λb=>B b\/o.adr a b) H) H a o)(e:Xd K (off (o.adr a) H) B H' σ' γ')(h:γ'[0]?=some (some<|.own o'))(k:o.from o'):After K B H a o o' H'/\∀b,B b\/o'.adr a b->zof B γ' σ' b:=by
 obtain⟨v,s,f,rfl,r,l⟩:=e.slot 0 _ h;have u:=O.from_at k n l;subst u;have g:∀b,B b\/o'.adr f b->zof B γ' σ' b:=λb z=>z.imp id λz=>⟨0,o',f,h,s,z⟩;refine⟨⟨e.same,O.from_adr k,λb p=>?_,l.mono (Xm (Same.refl _) λb _ _ z y=>z (g b y)) λ_ _ _ q=>q⟩,g⟩
 have:=r b p
 unfold off at this;by_cases q:o.adr f b
 ·exact .inl q
 ·grind
def Zb5{t p vs Q U n}(h:spW mg c K vs H Q U)(J:Xl K mg (λ_=>U) t p)(hn:n+1<=N.length)(L:∀o s R X,c o s R X->s.length=n/\p (Ln o R X) (Tx N o s)):t {nx:=λ_ H'=>Q .non H',rt:=Q} (start N vs) H:=by
 obtain⟨o,a,s,us,B,R,X,rfl,T,G,r,hf,hc,M,hX⟩:=h;obtain⟨e,L⟩:=L o s R X hc;refine J _ B H _ _ _ _ (λb z=>?_) (Zhb T G r hf<|by rw[e];exact hn) L ⟨λl q H' A C f1=>?_,λ_ _ _ z=>z.elim,λl q c H' A C f1=>?_,λ_ _ _ z=>z.elim,λ_ _ _ z=>z.elim,λl q d v H' A C f1 Y=>?_⟩
 ·obtain⟨g,f⟩:=T b z;obtain⟨x,hx⟩:=Sr g;exact⟨x,X8 hx f⟩
 ·obtain⟨w,g,f,u⟩:=A;exact M w .non .non H' u (D4 G C g f).1 .non
 ·obtain⟨w,g,f,u⟩:=A;exact hX w c H' u (D4 G C g f).1
 ·obtain⟨w,g,f,u⟩:=A;obtain⟨k1,k2⟩:=D4 G C g f;exact M w d v H' u k1 (Rp.mono (Xm (Same.refl _) λb _ _ z y=>z (k2 b y)) Y)
def Zhv(h:spW mg c K vs H Q p)(f:∀o b R X,c o b R X->b.length=n):vs.length=n+1:=by
 obtain⟨o,a,b,l,B,R,X,rfl,_,_,r,_,g,_⟩:=h;rw[WW,r.len,f o b R X g]
abbrev PTW:=Γ->(Γ->D->Prop)->(Γ->Str->Prop)->Prop
def Fx(K:ZT)(mg:ZX)(E:L2.St->XK)(t:TE)(p:PTW):Prop:=∀(H0:Hp) (B:Addr->Prop) (H:Hp) (σ:L2.St) (γ:Γ) (R:Γ->D->Prop) (X:Γ->Str->Prop) (Q:VK),(∀b,B b->∃o,H0 b=some o)->Xd K H0 B H σ γ->p γ R X->
 (∀f d v H',R f d->Xd K H0 B H' σ f->Fr B H σ γ H' σ f->Rp K (off (zof B f σ) H') d v->Q v H')->(∀f c H',X f c->Xd K H0 B H' σ f->Fr B H σ γ H' σ f->XE mg (E σ) c H')->t σ H Q
variable {te:TE}{w:PTW}
noncomputable def Zd3(w:PTW):PTS:=λR γ=>w γ (λb _=>R.nx b) R.ex
def BJ(hw:Fx K mg E te w):Xl K mg E (Bm te) (Zd3 w):=by
 intro H0 B H σ γ R D l f h e;exact hw H0 B H σ γ _ _ _ l f h (λb d v H1 n p f1 _=>e.nx σ b H1 n p f1) λb c H' g q o=>e.ex σ b c H' g q o
noncomputable def Znx(w:PTW):PTS:=λR γ=>w γ R.rv R.ex
def Zi5(hw:Fx K mg E te w):Xl K mg E (NM te) (Znx w):=by
 intro H0 B H σ γ R D n f h e;exact hw H0 B H σ γ _ _ _ n f h (λb d v H1 o q f1 g=>e.rv σ b d v H1 o q f1 g) λb c H' l r p=>e.ex σ b c H' l r p
noncomputable def RU(a:PTE):PTS:=λR γ=>a γ (λs=>match s.shd with|some d=>R.rv γ d|none=>False) (R.ex γ)
def Zfr(p:UX K mg E te a):Xl K mg E (NM te) (RU a):=by
 intro H0 B H σ γ R D r b h e;refine p H0 B H σ γ _ _ _ b h (λs v H1 g f n=>?_) λc H' o l=>e.ex σ γ c H' o (b.grow l) (Fr.grow l);split at g
 ·rename_i d q;exact e.rv σ γ d v H1 g (b.grow f) (Fr.grow f) (n.shd (b.grow f).same b.zm f q)
 ·grind
def Zli{s s':S}(h:s.pass=some s'):s'.flat:=by
 cases s with
 |bor d=>unfold S.pass at h;cases q:imm d<;>simp[q]at h<;>subst h<;>trivial
 |tmp d=>
  unfold S.pass at h;cases q:imm d<;>simp[q]at h
  subst h;trivial
 |view o=>cases h
 |_=>cases h;trivial
theorem FQ:∀{f b:List S},passes f=some b->∀s∈b,s.flat
 |[],_,h=>by cases h;simp
 |s::r,_,h=>by
  unfold passes at h;split at h
  ·rename_i n o l g;cases h
   intro x hx;rcases WB.mp hx with rfl|hx
   ·exact Zli l
   ·exact FQ g x hx
  ·grind
def TV.pass {v P W f} (p:Same H0 H') (l:∀b,Z b->Mut (H b)) (u:Same H H') (n:Same H0 (off P f)) (g:Same (off Z H') (off W f)) (h:TV K Z H0 H H' s v) (e:s.pass=some s'):TV K W (off P f) f f s' v:=by
 have shd:∀d,s.shd=some d->Rp K (off W f) d v:=λd r=>Rp.mono g (h.shd p l u r);cases s with
 |view o=>cases e
 |tmp d=>
  unfold S.pass at e;cases q:imm d with
  |false=>simp_all
  |true=>simp[q]at e;subst e;exact shd d (by unfold S.shd;simp[q])
 |bor d=>
  unfold S.pass at e;cases q:imm d with
  |false=>simp[q]at e;subst e;exact Rp.mono n h
  |true=>simp[q]at e;subst e;exact shd d (by unfold S.shd;simp[q])
 |_=>cases e;exact shd _ rfl
theorem TVs.pass {HB} (p:Same H0 H') (n:∀b,Z b->Mut (H b)) (q:Same H H') (o:Same H0 (off P HB)) (l:Same (off Z H') (off W HB)):∀{g f}{vs:List V},TVs K Z H0 H H' g vs->passes g=some f->TVs K W (off P HB) HB HB f vs
 |_,_,_,.nil,e=>by cases e;exact .nil
 |_,_,_,.cons h r,e=>by
  unfold passes at e;split at e
  ·rename_i v x u s;cases e
   exact .cons (h.pass p n q o l u) (TVs.pass p n q o l r s)
  ·grind
def Zkz{c:Pw}{i:Nat}{o:O}{a:Addr}{ss l:List S}{us:List V}{R:Γ->D->Prop}{X:Γ->Str->Prop}{Q:VK}{Ec:XK}(env:Xd K H0 B H σ γ)(hB:∀b,B b->∃o,H0 b=some o)(U:Same H H1)(L:γ[i]?=some (some<|.own o))(G:σ[i]?=some (some<|.ref a))(t1:TVs K (zof B γ σ) H0 H H1 ss us)(hp:passes ss=some l)(hc:c o l (λo' d=>R (γ.set i<|some<|.own o') d) (λo' e=>X (γ.set i<|some<|.own o') e))(q:∀f d v H',R f d->Xd K H0 B H' σ f->Fr B H σ γ H' σ f->Rp K (off (zof B f σ) H') d v->Q v H')(qx:∀f c H',X f c->Xd K H0 B H' σ f->Fr B H σ γ H' σ f->XE mg Ec c H'):spW mg c K (.ref a::us) H1 Q Ec:=by
 have g:=env.grow U;obtain⟨v,h1,T,ev,h3,h4⟩:=g.slot i _ L;rw[G]at h1;cases h1
 cases ev
 have Y:∀b,o.adr a b->zof B γ σ b:=λb p=>.inr ⟨i,o,a,L,G,p⟩
 have J:∀o' H',After K (λb=>zof B γ σ b/\¬o.adr a b) H1 a o o' H'->Xd K H0 B H' σ (γ.set i<|some<|.own o')/\Fr B H σ γ H' σ (γ.set i<|some<|.own o')/\∀b x,H' b=some x->¬((zof B γ σ b/\¬o.adr a b)\/o'.adr a b)->¬zof B (γ.set i<|some<|.own o') σ b:=λo' H' A=>by
  have C:∀b x,H' b=some x->¬((zof B γ σ b/\¬o.adr a b)\/o'.adr a b)->¬zof B (γ.set i<|some<|.own o') σ b:=λb x _ n z=>by
   rcases z with z|⟨j,fs,T,e1,M,N⟩
   ·refine n (.inl ⟨.inl z,λw=>?_⟩);obtain⟨u,hu⟩:=hB b z;rw[h3 b w]at hu;cases hu
   ·rcases X3 e1 with⟨ej,q,_⟩|⟨nj,q⟩
    ·subst ej;cases q
     rw[G]at M;cases M
     exact n (.inr N)
    ·exact n (.inl ⟨.inr ⟨j,fs,T,q,M,N⟩,λw=>nj (env.own j i T a fs o b q L M G N w)⟩)
  obtain⟨s,r⟩:=g.change (o':=o') (H':=H') L G (λb x hx n=>A.same b x (X8 hx n)) (λb p=>A.at_.mut b (A.old b p)) A.new (A.at_.mono (Xm (Same.refl _) λb x hx z=>C b x hx z) λ_ _ _ q=>q);exact⟨s,(Fr.grow U).trans r,C⟩
 refine⟨o,a,l,us,λb=>zof B γ σ b/\¬o.adr a b,_,_,rfl,λb p=>⟨g.zm b p.1,p.2⟩,h4.mono (Xm (Same.refl _) λb _ _ z y=>z (y.elim (λy=>y.1)<|Y b)) λ_ _ _ q=>q,?_,FQ hp,hc,λo' d v H' hR A rd=>?_,λo' e H' hX A=>?_⟩
 ·refine t1.pass g.same env.zm U (λb x hx=>X8 (g.same b x hx) λw=>?_) (Xm (Same.refl _) λb _ _ z y=>z (y.elim (λy=>y.1)<|Y b)) hp;rw[h3 b w]at hx;cases hx
 ·obtain⟨s,r,k3⟩:=J o' H' A;exact q _ d v H' hR s r (Rp.mono (λb x h=>let ⟨p1,p2⟩:=P6 h;X8 p1 (k3 b x p1 p2)) rd)
 ·obtain⟨s,r,_⟩:=J o' H' A;exact qx _ e H' hX s r
noncomputable def Zol(i:Nat)(c:Pw)(r:PTA):PTW:=λγ R X=>match γ[i]? with
 |some (some<|.own o)=>r γ (λg=>match passes g with|some b=>c o b (λf d=>R (γ.set i<|some<|.own f) d) (λf e=>X (γ.set i<|some<|.own f) e)|none=>False) (X γ)
 |_=>False
def Hu(C:Addr)(xs:Yc)(j:Nat):S->(S->Prop)->Prop
 | .view (.ins _ f b h),R=>f=C/\b=xs/\∃c,h[j]?=some c/\R (.view<|.lst c.2)
 | .bor (.ins f b g),R=>f=C/\b=xs/\∃d,g[j]?=some d/\R (arg d)
 |_,_=>False
noncomputable def Zlo(C:Addr)(xs:Yc)(j:Nat)(a:PTE):PTE:=λγ R X=>a γ (λs=>Hu C xs j s R) X
def Rp.ins_inv (h:Rp K H (.ins C xs ds) v):∃a dx vs,v=.ref a/\H a=some (.ins C dx<|xs.zip vs)/\xs.length=vs.length/\Rps K H ds vs:=by
 cases h with
 |ins h e r=>grind
def FldAt(f:Str)(xs:Yc)(j:Nat):Prop:=∀b:List V,xs.length=b.length->(xs.zip b).lookup f=b[j]?
def BH(j:Nat){a}(L:Cls K C)(G:NoAttr K C f)(J:FldAt f xs j)(ha:UX K mg E te a):UX K mg E (A0 K te f) (Zlo C xs j a):=by
 intro H0 B H σ γ R X Q l p q qx;refine ha H0 B H σ γ _ X _ l p (λs v H1 h z A=>?_) qx;have g:=l.grow z;unfold Hu at h;split at h
 ·rename_i x C' n cs;obtain⟨rfl,rfl,c,M,o⟩:=h;obtain⟨b,rfl,T,N,⟨y,r⟩,e4,e5⟩:=A;obtain⟨U,u1,Y⟩:=e4 c (Qa M);refine⟨b,_,y,_,_,rfl,r,L,G,?_,q _ _ H1 o z ⟨c.1,rfl,U,u1,Y⟩⟩;rw[J _ (by grind),WH,M];rfl
 ·rename_i C' n ds;obtain⟨rfl,rfl,d,ed,o⟩:=h;obtain⟨b,y,vs,rfl,T,N,r⟩:=Rp.ins_inv A;obtain⟨u,hu,ru⟩:=r.get ed;refine⟨b,_,y,_,u,rfl,g.same _ _ T,L,G,by rw[J _ N];exact hu,q _ _ H1 o z (NQ g.zm g.same ru)⟩
 ·exact h.elim
noncomputable def HI(C:Addr)(xs:Yc)(c:Pc)(a:PTE)(r:PTA):PTE:=λγ R X=>a γ (λs=>match s.d with
 | .ins f b h=>f=C/\b=xs/\r γ (λg=>c (.ins f b h::g.map S.d) (λs=>R s.back) X) X
 |_=>False) X
def NoFld(m:Str)(xs:Yc):Prop:=∀b:List V,(xs.zip b).lookup m=none
noncomputable def Zch(C:Addr)(m:Str)(sp:Sp)(E:L2.St->XK)(f:TE)(t:TA):TE:=λσ H Q=>f σ H λx H1=>∃a g fs,x=.ref a/\H1 a=some (.ins C g fs)/\fs.lookup m=none/\t σ H1 λb h=>sp (x::(b++[])) h Q (E σ)
def Zbw{m xs c z a r}(hx:NoFld m xs)(ha:UX K mg E te a)(T:Xq K mg E z r):UX K mg E (Zch C m (Xb mg c K) E te z) (HI C xs c a r):=by
 intro H0 B H σ γ R X Q h p q y;refine ha H0 B H σ γ _ X _ h p (λs v H1 o n M=>?_) y;have f:=h.grow n;split at o
 ·rename_i C' A ds ed;obtain⟨rfl,rfl,o⟩:=o;have x:=M.rp f.same;rw[ed]at x;obtain⟨b,dx,G,rfl,e1,e2,e3⟩:=Rp.ins_inv x;refine⟨b,dx,_,rfl,e1,hx G,T H0 B H1 σ γ _ X _ f o (λss us H2 h2 l L=>?_) λc H' Y S'=>y c H' Y (n.trans S')⟩;have g:=f.grow l;rw[Qn];refine⟨_,_,X,Rps.cons (Rp.mono l x) (L.rps g.same),h2,λs v H' N u J=>q _ _ H' N ((n.trans l).trans u) (J.back g (n.trans l) u),λe H' U u=>y e H' U ((n.trans l).trans u)⟩
 ·grind
def Py{m xs c f a r b}(hx:NoFld m xs)(h:UX K mg (λ_=>b) te a)(g:Xq K mg (λ_=>b) f r):UX K mg (λ_=>b) (Nk C m (Xb mg c K) [] b te f) (HI C xs c a r):=Zbw hx h g
noncomputable def Zab(C:Addr)(xs:Yc)(c:Pc)(a:PTE)(r:PTA):PTE:=λγ R X=>a γ (λs=>match s.d with
 | .ins f b h=>f=C/\b=xs/\r γ (λg=>c (.ins f b h::g.map S.d) (λs=>R s.back) λ_=>False) X
 |_=>False) X
def Kp{m xs c x a r}(hx:NoFld m xs)(ha:UX K mg E te a)(U:Xq K mg E x r):UX K mg E (Nk C m (Xb mg c K) [] E0 te x) (Zab C xs c a r):=by
 intro H0 B H σ γ R X Q h p q y;refine ha H0 B H σ γ _ X _ h p (λs v H1 l o N=>?_) y;have f:=h.grow o;split at l
 ·rename_i C' G ds ed;obtain⟨rfl,rfl,l⟩:=l;have u:=N.rp f.same;rw[ed]at u;obtain⟨b,dx,J,rfl,e1,e2,e3⟩:=Rp.ins_inv u;refine⟨b,dx,_,rfl,e1,hx J,U H0 B H1 σ γ _ X _ f l (λss us H2 h2 n M=>?_) λc H' Y S'=>y c H' Y (o.trans S')⟩;have g:=f.grow n;rw[Qn];exact⟨_,_,_,Rps.cons (Rp.mono n u) (M.rps g.same),h2,λs v H' T A L=>q _ _ H' T ((o.trans n).trans A) (L.back g (o.trans n) A),λ_ _ z=>z.elim⟩
 ·grind
noncomputable def Zom(i:Nat)(C:Addr)(xs:Yc)(c:Pw)(r:PTA):PTW:=λγ R X=>match γ[i]? with
 |some (some<|.own<|.ins x h b n)=>h=C/\b=xs/\r γ (λl=>match passes l with|some f=>c (.ins x h b n) f (λg d=>R (γ.set i<|some<|.own g) d) (λg e=>X (γ.set i<|some<|.own g) e)|none=>False) (X γ)
 |_=>False
noncomputable def Oy(i:Nat)(C:Addr)(xs:Yc)(c:Pw)(r:PTA):PTW:=λγ R X=>match γ[i]? with
 |some (some<|.own<|.ins x g b n)=>g=C/\b=xs/\r γ (λh=>match passes h with|some f=>c (.ins x g b n) f (λl d=>R (γ.set i<|some<|.own l) d) (λ_ _=>False)|none=>False) (X γ)
 |_=>False
def IQ(i:Nat){C m xs c f r}(hx:NoFld m xs)(A:Xq K mg E f r):Fx K mg E (Nk C m (spW mg c K) [] E0 (KH i) f) (Oy i C xs c r):=by
 intro H0 B H σ γ R X Q J b h q y;unfold Oy at h;split at h
 ·rename_i x C' p cs l;obtain⟨rfl,rfl,h⟩:=h;obtain⟨v,g,a,rfl,_,e1,e2,⟨N,M⟩,e4⟩:=b.slot i _ l;refine⟨_,g,a,N,_,rfl,M,hx _,A H0 B H σ γ _ _ _ b h (λY U H1 n T s=>?_) λc H' G o=>y γ c H' G (b.grow o) (Fr.grow o)⟩;rw[Qn];split at n
  ·rename_i u L;exact Zkz (X:=λ_ _=>False) b J T l g s L n q λ_ _ _ z=>z.elim
  ·grind
 ·grind
theorem MD{f:Type}:∀{l:List f}{i j:Nat}{x:f},l.Nodup->l[i]?=some x->l[j]?=some x->i=j
 |[],_,_,_,_,h,_=>by simp at h
 |y::r,0,0,_,_,_,_=>rfl
 |y::r,0,j+1,x,b,n,g|y::r,i+1,0,x,b,n,g=>by
  grind
 |y::r,i+1,j+1,x,b,n,g=>Qs (· + 1) (MD (Ql.mp b).2 (by trivial)<|by grind)
def Xd.cell {f b ds es us} (env:Xd K H0 B H σ γ) (L:γ[i]?=some (some<|.own<|.ins x C xs f)) (s:f[j]?=some (b,ds)) (r:Rps K (off (zof B γ σ) H) es us) :
  Xd K H0 B (upd H b<|.lst us) σ (γ.set i<|some<|.own<|.ins x C xs<|f.set j (b,es))/\Fr B H σ γ (upd H b<|.lst us) σ (γ.set i<|some<|.own<|.ins x C xs<|f.set j (b,es)):=by
 obtain⟨v,Y,a,rfl,e0,e1,e2,⟨dx,e3⟩,e4,e5⟩:=env.slot i _ L;subst e1;have l:=Qa s
 have M:a≠b:=λz=>by
  obtain⟨T,o,_⟩:=e4 _ l;rw[←show a=b from z,e3]at o
  cases o
 have em:(f.set j (b,es)).map (·.1)=f.map (·.1):=by
  apply JI;intro k;rw[WH,WH,List.getElem?_set];by_cases e:j=k
  ·subst e;rw[W5 rfl,W5 ((WI.mp s).1),s];rfl
  ·rw[W2 e]
 have N:(f.set j (b,es)).map (λc=>V.ref c.1)=f.map λc=>V.ref c.1:=by
  have:=Qs (List.map V.ref) em
  rw[Qe,Qe]at this;exact this
 have adr:∀c,(O.ins a C xs<|f.set j (b,es)).adr a c->(O.ins a C xs f).adr a c:=λc g=>by
  rcases g with g|⟨d,hd,g⟩
  ·exact .inl g
  ·have:d.1∈(f.set j (b,es)).map (·.1):=VH hd
   rw[em]at this;obtain⟨d',A,p⟩:=WK.mp this;exact .inr ⟨d',A,g.trans p.symm⟩
 have y:∀c,(O.ins a C xs f).adr a c->zof B γ σ c:=λc g=>.inr ⟨i,_,a,L,Y,g⟩
 have So:Same (off (zof B γ σ) H) (off (zof B (γ.set i<|some<|.own<|.ins a C xs<|f.set j (b,es)) σ)<|upd H b<|.lst us):=λc u h=>by
  obtain⟨A,p⟩:=P6 h;have G:=λz=>p (y c<|.inr ⟨_,l,z⟩);refine X8 (by rw[Xa G];exact A) λz=>p ?_;rcases z with z|⟨k,fs,a',k1,k2,U⟩
  ·exact .inl z
  ·rcases X3 k1 with⟨Q,q,_⟩|⟨_,q⟩
   ·subst Q;cases q
    exact y c (adr c U)
   ·exact .inr ⟨k,fs,a',q,k2,U⟩
 refine env.change L Y (λc u hu n=>?_) (λc g=>?_) (λc g=>.inl (adr c g)) ⟨rfl,by rw[Qy];exact e2,⟨dx,?_⟩,λc g=>?_,by rw[em];exact e5⟩
 ·rw[Xa λz=>n (.inr ⟨_,l,z⟩)];exact hu
 ·by_cases z:c=b
  ·rw[z,Xk];trivial
  ·rw[Xa z];exact env.zm c (y c g)
 ·rw[Xa M,N];exact e3
 ·obtain⟨k,hk,Q⟩:=J8 g;have J:(f.set j (b,es))[k]?=some c:=by rw[Ww hk,Q]
  rcases X3 J with⟨_,q,_⟩|⟨nk,q⟩
  ·subst q;exact⟨us,Xk,Rps.mono So r⟩
  ·obtain⟨T,o,w2⟩:=e4 c (Qa q)
   have G:=λz=>nk (by
    have h1:(f.map (·.1))[k]?=some b:=by rw[WH,q];exact Qs some z
    have h2:(f.map (·.1))[j]?=some b:=by rw[WH,s];rfl
    exact MD e5 h1 h2)
   exact⟨T,by rw[Xa G];exact o,Rps.mono So w2⟩
noncomputable def Iu(i j:Nat)(C:Addr)(xs:Yc)(a:PTE):PTW:=λγ R X=>match γ[i]? with
 |some (some<|.own<|.ins x g b f)=>g=C/\b=xs/\∃c,f[j]?=some c/\a γ (λs=>match s.shd with
  |some d=>c.2.length<10000000/\R (γ.set i<|some<|.own<|.ins x g b<|f.set j (c.1,c.2++[d])) .non
  |none=>False) (X γ)
 |_=>False
def Cm(i j:Nat){C f xs a}(p:Cls K C)(hn:NoAttr K C f)(hj:FldAt f xs j)(ha:UX K mg E te a):Fx K mg E (tBM K "list" Cq (A0 K (KH i) f)<|XN te Kt) (Iu i j C xs a):=by
 intro H0 B H σ γ R X Q hB g h q T;unfold Iu at h;split at h
 ·rename_i x C' M cs J;obtain⟨rfl,rfl,c,r,h⟩:=h;obtain⟨v,hv,b,rfl,_,e1,e2,⟨dx,e3⟩,e4,e5⟩:=g.slot i _ J;obtain⟨y,G,A⟩:=e4 c (Qa r);refine⟨_,hv,b,_,dx,_,V.ref c.1,rfl,e3,p,hn,?_,.inl ⟨rfl,y,SqL.of G⟩,ha H0 B H σ γ _ _ _ g h (λs u H1 o n N=>?_) λc H' p L=>T γ c H' p (g.grow L) (Fr.grow L)⟩
  ·rw[hj _ (by grind),WH,r];rfl
  ·have l:=g.grow n;split at o
   ·rename_i d ed;refine⟨c.1,y,u,rfl,rfl,n _ _ G,by rw[A.len];exact V6 o.1 (by decide),?_⟩;obtain⟨Y,U⟩:=l.cell J r (Rps.append (Rps.mono (Xm n λ_ _ _ z=>z) A)<|.cons (N.shd l.same g.zm n ed) .nil);exact q _ _ _ _ o.2 Y ((Fr.grow n).trans U) .non
   ·exact o.elim
 ·exact h.elim
def PutAt(f:Str)(xs:Yc):Prop:=∀(b:List V) (y:V),xs.length=b.length->Kg f y (xs.zip b)=(xs++[f]).zip (b++[y])
noncomputable def Zh2(i:Nat)(C:Addr)(f:Str)(xs:Yc)(a:PTE):PTS:=λR γ=>a γ (λs=>match s with
 | .own (.lst l)=>(match γ[i]? with
  |some (some<|.own<|.ins x h g n)=>h=C/\g=xs/\xs.length<1000/\∀b,R.nx (γ.set i<|some<|.own<|.ins x h (xs++[f]) (n++[(b,l)]))
  |_=>False)
 |_=>False) (R.ex γ)
def FA(i:Nat){C f xs a}(g:Cls K C)(hn:NoAttr K C f)(hp:PutAt f xs)(ha:UX K mg E te a):Xl K mg E (M1 K (KH i) te f) (Zh2 i C f xs a):=by
 intro H0 B H σ γ R D hB p h e;refine ha H0 B H σ γ _ _ _ p h (λs v H1 G Q t1=>?_) λc H' g S'=>e.ex σ γ c H' g (p.grow S') (Fr.grow S');split at G
 ·rename_i ds;split at G
  ·rename_i x M o r hi;obtain⟨rfl,rfl,hl,G⟩:=G;obtain⟨u,hv,b,rfl,e0,e1,e2,⟨dx,e3⟩,e4,e5⟩:=p.slot i _ hi;subst e1;obtain⟨l,rfl,L,vs,l1,l2⟩:=t1;have L:=L l rfl;refine⟨_,hv,b,_,dx,_,rfl,Q _ _ e3,g,hn,?_,?_⟩
   ·rw[List.length_zip,Wv];lia
   ·rw[hp _ _ (by rw[Wv];exact e2)]
    have nl:∀c∈r,c.1≠l:=λc g=>by
     obtain⟨ws,J,_⟩:=e4 c g;exact Xy J L
    have nb:∀c∈r,c.1≠b:=λc g z=>by
     obtain⟨ws,J,_⟩:=e4 c g;rw[z,e3]at J;cases J
    have T:∀c,(O.ins b M o r).adr b c->zof B γ σ c:=λc g=>.inr ⟨i,_,b,hi,hv,g⟩
    have key:∀c u,H1 c=some u->¬(zof B γ σ c\/c=l)->¬zof B (γ.set i<|some<|.own<|.ins b M (o++[f]) (r++[(l,ds)])) σ c:=λc u _ n z=>by
     rcases z with z|⟨k,fs,a',k1,N,A⟩
     ·exact n (.inl<|.inl z)
     ·rcases X3 k1 with⟨ek,q,_⟩|⟨_,q⟩
      ·subst ek;cases q
       rw[hv]at N;cases N
       rcases A with A|⟨d,hd,A⟩
       ·exact n (.inl<|T c<|.inl A)
       ·rcases WD.mp hd with hd|hd
        ·exact n (.inl<|T c<|.inr ⟨d,hd,A⟩)
        ·rw[Wx]at hd;subst hd;exact n (.inr A)
      ·exact n (.inl<|.inr ⟨k,fs,a',q,N,A⟩)
    have So:Same (off (λc=>zof B γ σ c\/c=l) H1) (off (zof B (γ.set i<|some<|.own<|.ins b M (o++[f]) (r++[(l,ds)])) σ)<|upd H1 b<|.ins M dx ((o++[f]).zip ((r.map λc=>V.ref c.1)++[.ref l]))):=λc u h=>by
     obtain⟨Y,U⟩:=P6 h;exact X8 (by rw[Xa λz=>U (.inl<|T c<|.inl z)];exact Y) (key c u Y U)
    have S0:Same (off (zof B γ σ) H) (off (λc=>zof B γ σ c\/c=l) H1):=Xm Q λc u g z y=>y.elim z λy=>by rw[y,L]at g;cases g
    obtain⟨k1,N⟩:=p.change (o':=.ins b M (o++[f]) (r++[(l,ds)])) (H':=upd H1 b (.ins M dx ((o++[f]).zip ((r.map λc=>V.ref c.1)++[.ref l])))) hi hv
     (λc u hu n=>by rw[Xa λz=>n (.inl z)];exact Q _ _ hu)
     (λc g=>by
      by_cases z:c=b
      ·rw[z,Xk];trivial
      ·rw[Xa z];exact(p.grow Q).zm c (T c g))
     (λc g=>by
      rcases g with g|⟨d,hd,g⟩
      ·exact .inl (.inl g)
      ·rcases WD.mp hd with hd|hd
       ·exact .inl (.inr ⟨d,hd,g⟩)
       ·rw[Wx]at hd;subst hd;exact .inr (by rw[show c=l from g];exact L))
     ⟨rfl,by rw[WA,WA,e2];rfl,⟨dx,by rw[Xk,WC];rfl⟩,λc g=>by
      rcases WD.mp g with g|g
      ·obtain⟨ws,J,w2⟩:=e4 c g;exact⟨ws,by rw[Xa (nb c g)];exact Q _ _ J,Rps.mono So (Rps.mono S0 w2)⟩
      ·rw[Wx]at g;subst g;exact⟨vs,by rw[Xa (λz=>(Xy e3 L) z.symm)];exact l1,Rps.mono So l2⟩,by
      rw[WC,Qf]
      exact⟨e5,by simp,λc g d hd z=>by
       obtain⟨c',Y,U⟩:=WK.mp g
       have:d=l:=by simpa using hd
       exact nl c' Y (U.trans<|z.trans this)⟩⟩
    exact e.nx _ _ _ (G l) k1 N
  ·exact G.elim
 ·exact G.elim
def Zbr{c}{L h}{us}{R:S->Prop}{X:XR}{Q:VK}{Ec}(env:Xd K H0 B H σ γ)(n:Same H H1)(N:TVs K (zof B γ σ) H0 H H1 L us)(M:passes L=some h)(h1:∀x,c (.ins x C [] []) h (λo' d=>d=.non/\R (.own o')) (λ_ e=>X e))(q:∀s v H',R s->Same H H'->TV K (zof B γ σ) H0 H H' s v->Q v H')(U:∀c H',X c->Same H H'->XE mg Ec c H') :
  ∀x dx,H1 x=none->H1 dx=none->dx≠x->spW mg c K (.ref x::us) (upd (upd H1 dx<|.own x) x<|.ins C dx []) (λv H2=>v=.non/\Q (.ref x) H2) Ec:=by
 have f:=env.grow n;intro x dx l G Y
 have r:Same H1 (upd (upd H1 dx<|.own x) x<|.ins C dx []):=λb o e=>by
  rwa[Xa (Xy e l),Xa (Xy e G)]
 have p:∀o' H',After K (zof B γ σ) (upd (upd H1 dx<|.own x) x<|.ins C dx []) x (.ins x C [] []) o' H'->Same H1 H'/\∀b,o'.adr x b->H b=none:=λo' H' A=>by
  refine⟨λb o e=>A.same b o (X8 (r b o e) λz=>?_),λb u=>?_⟩
  ·rcases z with z|⟨c,g,_⟩
   ·rw[z,l]at e;cases e
   ·cases g
  ·rcases A.new b u with(z|⟨c,g,_⟩)|z
   ·rw[z];exact n.free l
   ·cases g
   ·exact n.free (r.free z)
 refine⟨.ins x C [] [],x,h,us,zof B γ σ,_,_,rfl,λb u=>⟨P7 r (f.zm b u),λz=>?_⟩,⟨rfl,rfl,⟨dx,Xk⟩,(λc g=>by cases g),QI⟩,?_,FQ M,h1 x,λo' d v H' J A T=>?_,λo' e H' hX A=>?_⟩
 ·rcases z with z|⟨c,g,_⟩
  ·have:=f.zm b u
   rw[z,l]at this;exact this
  ·cases g
 ·refine N.pass f.same env.zm n (λb o e=>X8 (r _ _<|f.same b o e) λz=>?_) (Xm r λb o e z y=>?_) M
  ·rcases z with z|⟨c,g,_⟩
   ·rw[z,(f.same).free l]at e;cases e
   ·cases g
  ·rcases y with y|y|⟨c,g,_⟩
   ·exact z y
   ·rw[y,l]at e;cases e
   ·cases g
 ·obtain⟨rfl,J⟩:=J;obtain⟨k1,k2⟩:=p o' H' A;exact⟨Rp.non_inv T,q _ _ H' J (n.trans k1) ⟨x,rfl,k2,A.at_⟩⟩
 ·exact U e H' hX (n.trans (p o' H' A).1)
noncomputable def Zco(C:Addr)(c:Pw)(r:PTA):PTE:=λγ R X=>r γ (λf=>match passes f with|some b=>∀x,c (.ins x C [] []) b (λg d=>d=.non/\R (.own g)) (λ_ _=>False)|none=>False) X
def Zfs{f r}(o:Xq K mg E f r):UX K mg E (AV C (spW mg c K) [] E0 f) (Zco C c r):=by
 intro H0 B H σ γ R X Q b p q n;refine o H0 B H σ γ _ X _ b p (λx v H1 g u h=>?_) n;split at g
 ·rename_i l s;rw[Qn];exact Zbr b u h s g q λ_ _ z=>z.elim
 ·grind
end
def Sw{b:Type}{us:List b}(h:us.length=1):∃a,us=[a]:=List.length_eq_one_iff.mp h
def Sd{f:Type}{us:List f}(h:us.length=2):∃a b,us=[a,b]:=by
 cases us with
 |nil=>grind
 |cons a r=>obtain⟨b,rfl⟩:=Sw (by simpa using h);exact⟨a,b,rfl⟩
def Br{f:Type}{us:List f}(h:us.length=3):∃a b c,us=[a,b,c]:=by
 cases us with
 |nil=>grind
 |cons a r=>obtain⟨b,c,rfl⟩:=Sd (by simpa using h);exact⟨a,b,c,rfl⟩
def FO{f:Type}{us:List f}(h:us.length=4):∃a b c d,us=[a,b,c,d]:=by
 cases us with
 |nil=>grind
 |cons a r=>obtain⟨b,c,d,rfl⟩:=Br (by simpa using h);exact⟨a,b,c,d,rfl⟩
def Zkt{f:Type}{us:List f}(h:us.length=5):∃a b c d e,us=[a,b,c,d,e]:=by
 cases us with
 |nil=>grind
 |cons a r=>obtain⟨b,c,d,e,rfl⟩:=FO (by simpa using h);exact⟨a,b,c,d,e,rfl⟩
structure Xt (K:ZT) (W:Addr->Prop) (x q:Str) (st:Stmt) (ps:Yc):Prop where
 ex:∃f fd,Fun K x q st f fd/\W f/\Binds K fd ps []
structure KB (P:Program) (w:World) (K:ZT) (mg:ZX) (base:Heap) (CX:CXT) (k:Nat) (W:Addr->Prop) (ps:Yc) (sp:Sp):Prop where
 ex:∃f fd,Ki P w K mg base CX k f fd ps sp/\W f/\Binds K fd ps []
section
variable {P:Program}{w:World}{K:ZT}{mg:ZX}{base:Heap}{W:Addr->Prop}
def Xt.ok {st N ps k sp} (D:Xt K W x q st ps) (S:UZ N ps (UY st)) (len:∀vs H Q E,sp vs H Q E->vs.length=ps.length)
  (g:∀f b A outer s H vs Q E,Xh k (A.deeper<|envOfC q (UY st) s.heap.objs.size f b)->sp vs H Q E->
   ∃t,PSs (X6 CX0 P w K mg base N q (UY st) f b A outer s H E).nox (Xw st) t/\t {nx:=λ_ H'=>Q .non H',rt:=Q} (start N vs) H):KB P w K mg base CX0 (k+1) W ps sp:=by
 obtain⟨f,p,F,n,o⟩:=D.ex;exact⟨f,p,F.ok S len λb A outer s H vs Q E l h=>g f b A outer s H vs Q E l h,n,o⟩
def Xt.okX {st N ps k sp} (D:Xt K W x q st ps) (S:UZ N ps (UY st)) (len:∀vs H Q E,sp vs H Q E->vs.length=ps.length)
  (g:∀f b A outer s H vs Q E,Xh k (A.deeper<|envOfC q (UY st) s.heap.objs.size f b)->sp vs H Q E->
   ∃t,PSs (X6 (ExcR.CXe P w) P w K mg base N q (UY st) f b A outer s H E) (Xw st) t/\t {nx:=λ_ H'=>Q .non H',rt:=Q} (start N vs) H):KB P w K mg base (ExcR.CXe P w) (k+1) W ps sp:=by
 obtain⟨f,B,F,r,u⟩:=D.ex;obtain⟨oc,z,kV,v,y,G,b,C,n,rfl,o,l⟩:=F.ex;exact⟨f,_,A9 o l S len λA outer s H vs Q E p h=>g f b A outer s H vs Q E p h,r,u⟩
def Af:K7 (ExcR.CXe P w) X E0:=λ_ _ _ _ _ _ _ h=>by
 obtain⟨a,T,C,b,f,_,_,z⟩:=h
 grind
end
section
variable {X:Cx}{CX:CXT}{k:Nat}{Cc:Addr}{ps:Yc}{sp:Sp}{E:XK}{ES:L2.St->XK}{x m:Str}{p pos apos:Pos}{e o:Expr}{es:Yd}{ta:TE}{t:TA}
def Ax{pl}(C:KB X.prog X.w X.K X.mg X.base CX k (Xv X.K Cc m) ps sp)(c:Cls X.K Cc)(n:Xh k X.A)(hx:K7 CX X E)(r:PE X o ta)(u:PA X (e::es) t)(b:autoParam (starEach (e::es) X.env=(false,eval e X.env)::starEach es X.env) au_0)(g:autoParam ((backTo pos<|starEach es X.env).any (·.1)=false) au_0)
  (l:autoParam (eval (.Call (.Attribute o m apos) (e::es) [] pos) X.env=(do
   let h ←eval o X.env
   standAt apos.atName
   let (f,first) ←holding [h] (getMethod h m pl)
   callWith pos f first (backTo pos<|starEach (e::es) X.env) (backToKw pos<|keywordEach [] X.env))) au_0) :
  PE X (.Call (.Attribute o m apos) (e::es) [] pos) (Nk Cc m sp [] E ta t):=by
 obtain⟨f,v,F,q,s⟩:=C.ex;exact Ze0 r c q F n s .nil hx u b g l
def X9(C:KB X.prog X.w X.K X.mg X.base CX k (Xv X.K Cc m) ps sp)(c:Cls X.K Cc)(h:Xh k X.A)(hx:K7 CX X E)(n:PE X o ta)
  (g:autoParam (eval (.Call (.Attribute o m apos) [] [] pos) X.env=(do
   let b ←eval o X.env
   standAt apos.atName
   let (f,first) ←holding [b] (getMethod b m r)
   callWith pos f first (backTo pos<|starEach [] X.env) (backToKw pos<|keywordEach [] X.env))) au_0) :
  PE X (.Call (.Attribute o m apos) [] [] pos) (Nk Cc m sp [] E ta Kt):=by
 obtain⟨f,s,F,l,q⟩:=C.ex;exact Zmh n c l F h q .nil hx g
def Zm0(C:KB X.prog X.w X.K X.mg X.base CX k (Mk X.K Cc) ps sp)(l:X.mg x=some (.ref Cc))(h:Xh (k+1) X.A)(hx:K7 CX X E)(s:PA X (e::es) t)(n:autoParam (Gl X x) au_0)(g:autoParam ((x==("__debug__" : Str))=false) au_1)(q:autoParam (starEach (e::es) X.env=(false,eval e X.env)::starEach es X.env) au_0)(b:autoParam ((backTo pos<|starEach es X.env).any (·.1)=false) au_0) :
  PE X (.Call (.Name x p) (e::es) [] pos) (AV Cc sp [] E t):=by
 obtain⟨f,u,F,M,r⟩:=C.ex;exact Zjt M F h n l r .nil hx s g q b
end
abbrev PTF:=Γ->Str->(Str->Prop)->XR->Prop
section
variable {K:ZT}{mg:ZX}{E:L2.St->XK}{t:ExcR.TF}{p:PTF}{te:TE}{a:PTE}
def NF(K:ZT)(mg:ZX)(E:L2.St->XK)(t:ExcR.TF)(p:PTF):Prop:=∀(l:Hp) (B:Addr->Prop) (H:Hp) (g:L2.St) (h:Γ) (b:Str) (R:Str->Prop) (X:XR) (Q:Str->Hp->Prop),Xd K l B H g h->p h b R X->
 (∀x f,R x->Same H f->Q x f)->(∀c f,X c->Same H f->XE mg (E g) c f)->t g H b Q
noncomputable def Zgb:PTF:=λ_ b R _=>b.length<=sizeLine/\R b
def N9:NF K mg E ExcR.IB Zgb:=λn B H g l b R X Q f h q _=>⟨h.1,q _ H h.2 (Same.refl _)⟩
noncomputable def Zd1(x:Str)(p:PTF):PTF:=λf b R X=>(b++x).length<=sizeLine/\p f (b++x) R X
def Pq(h:NF K mg E t p):NF K mg E (ExcR.M0 x t) (Zd1 x p):=λr B H g l o R X Q b f q n=>⟨f.1,h r B H g l _ R X Q b f.2 q n⟩
noncomputable def Zio(a:PTE)(p:PTF):PTF:=λf b R X=>a f (λs=>match s.d with
 | .int i=>i.natAbs.log2<1920/\(b++(Str.ofString<|toString i)).length<=sizeLine/\p f (b++Str.ofString (toString i)) R X
 | .str x=>x.length<=sizeLine/\(b++x).length<=sizeLine/\p f (b++x) R X
 |_=>False) X
def NW(M:UX K mg E te a)(h:NF K mg E t p):NF K mg E (ExcR.Hr te t) (Zio a p):=λA B H u w J R X Q n L q y=>by
 refine M A B H u w _ X _ n L (λs v C f o G=>?_) y;have b:=n.grow o;have r:=G.rp b.same;split at f
 ·rename_i i ei;rw[ei]at r;exact .inl ⟨i,r.int_inv,f.1,f.2.1,h A B C u w _ R X Q b f.2.2 (λx l hx g=>q x l hx (o.trans g)) λc l z g=>y c l z (o.trans g)⟩
 ·rename_i x ex;rw[ex]at r;exact .inr ⟨x,r.str_inv,f.1,f.2.1,h A B C u w _ R X Q b f.2.2 (λx l hx g=>q x l hx (o.trans g)) λc l z g=>y c l z (o.trans g)⟩
 ·grind
noncomputable def pF(p:PTF):PTE:=λb R X=>p b Str.empty (λx=>R (.sh<|.str x)) X
def Ny(h:NF K mg E t p):UX K mg E (ExcR.tF t) (pF p):=λr B H f g R X Q b n q l=>
 h r B H f g _ _ X _ b n (λx s hx o=>q _ _ s hx o (.str x)) l
end
open M
noncomputable abbrev plD(f:ZU):D:=.lst (f.map prD)
noncomputable abbrev dD(q:Str×ZV):D:=.tup (.str q.1::q.2.map D.int)
noncomputable abbrev vF:Yc:=["book","fields","wished"]
noncomputable abbrev vO(C x b1 b2 f:Addr)(bk:List (Str×ZV))(fs b:List (ZU)):O:=.ins x C vF [(b1,bk.map dD),(b2,fs.map plD),(f,b.map plD)]
noncomputable abbrev KE(C:Addr)(bk:List (Str×ZV))(fs b:List (ZU)):D:=.ins C vF [.lst (bk.map dD),.lst (fs.map plD),.lst (b.map plD)]
def BB{b:Type}(f:b->D)(xs:List b)(x:b):atI ((xs++[x]).map f) (-1)=some (f x):=by
 refine P3 ?_;unfold atI ixN;rw[W2 (by lia),W5 (by grind)];show(xs++[x])[_]?=some x;have e:((-1:Int)+((xs++[x]).length:Int)).toNat=xs.length:=by grind
 rw[e,Q5 (W3 _),Nat.sub_self];rfl
def K0(e:Option Str)(X:Str->Prop)(R:Prop):Prop:=match e with|some c=>X c|none=>R
noncomputable def NU(h:Int):Option Str:=if 1<=h/\h<=10 then none else some "BadHolder"
noncomputable def To:ZU->Option Str
 |[]=>none
 |q::r=>if ¬(1<=q.1/\q.1<=10)then some "BadHolder" else if ¬(1<=q.2/\q.2<=1000)then some "BadWidth" else To r
noncomputable def NJ(ps:ZU):Option Str:=if 40<ps.length then some "TooManyStrips" else To ps
theorem EN:∀{ps:ZU},Field ps->To ps=none
 |[],_=>rfl
 |q::r,h=>by
  obtain⟨l,g,f,b⟩:=h q WU;unfold To;rw[W2 (λz=>z ⟨l,g⟩),W2 (λz=>z ⟨f,b⟩)];exact EN λx hx=>h x (WT _ hx)
def OG(h:Field ps)(b:ps.length<=40):NJ ps=none:=by
 unfold NJ;rw[W2 (by lia)];exact EN h
noncomputable def FI(ps:ZU)(p:Int):Option Str:=if p<1\/(ps.length:Int)<p then some "NoStrip" else none
noncomputable def XU(ps:ZU)(p:Int):Int×Int:=ps.getD (p-1).toNat (0,0)
noncomputable def Tv(ps:ZU)(p h:Int):Option Str:=if p<1\/(ps.length:Int)<p then some "NoStrip" else if ¬(1<=h/\h<=10)then some "BadHolder" else if (XU ps p).1=h then some "OwnStrip" else none
noncomputable def TK(ps:ZU)(p h:Int):ZU:=ps.set (p-1).toNat (h,(XU ps p).2)
def RN{ps:ZU}{p:Int}{x}(f:1<=p)(b:p<=ps.length):cutD (ps.map prD) none (some (p-1))++[prD x]++cutD (ps.map prD) (some p) none=(ps.set (p-1).toNat x).map prD:=by
 rw[Te,Te,Ff ps (by lia),Fj ps (by lia)];have e:p.toNat=(p-1).toNat+1:=by lia
 rw[e,List.set_eq_take_append_cons_drop,W5 (by lia),WC,WQ,QD];rfl
def BX{p}(f:1<=p)(b:p<=ps.length):atI (ps.map prD) (p-1)=some (prD<|XU ps p):=by
 rw[Pj (by lia) (by lia)];unfold XU;rw[W7,Ww (by lia)];rfl
def OX(ps:ZU)(p h:Int):(TK ps p h).length=ps.length:=Qy ..
def ON(b:Field ps)(e:Tv ps p h=none):Field (TK ps p h):=by
 unfold Tv at e;split at e
 ·cases e
 ·split at e
  ·cases e
  ·rename_i o n;have f:(p-1).toNat<ps.length:=by lia
   intro q hq;rcases List.mem_or_eq_of_mem_set hq with hq|rfl
   ·exact b q hq
   ·have:XU ps p∈ps:=by
     unfold XU;rw[W7,Ww f]
     grind
    obtain⟨_,_,l,g⟩:=b _ this;lia
def Zog(q:Int×Int)(r:ZU):To (q::r)=if ¬(1<=q.1/\q.1<=10)then some ("BadHolder" : Str)else if ¬(1<=q.2/\q.2<=1000)then some ("BadWidth" : Str)else To r:=rfl
def G4{p}(g:1<=p)(f:p<=ps.length):XU ps p∈ps:=by
 have b:(p-1).toNat<ps.length:=by lia
 unfold XU;rw[W7,Ww b]
 grind
section
variable {K:ZT}{mg:ZX}{E:L2.St->XK}
noncomputable def GC(i:Nat)(a:PTE):PTS:=λR b=>match b[i]? with
 |some (some<|.own<|.lst g)=>a b (λs=>match s.shd with
  |some (.lst f)=>g.length+f.length<=10000000/\R.nx (b.set i<|some<|.own (g++f))
  |_=>False) (R.ex b)
 |_=>False
def OJ(i:Nat){te a}(T:UX K mg E te a):Xl K mg E (Bm<|tBM K "list" Gs (KH i)<|XN te Kt) (GC i a):=by
 intro H0 B H r w R D hB f h e;unfold GC at h;split at h
 ·rename_i ds C;obtain⟨v,A,b,rfl,Q,us,G,y⟩:=f.slot i _ C;refine⟨_,A,.inl ⟨rfl,us,SqL.of G⟩,T H0 B H r w _ _ _ f h (λs u H1 p n M=>?_) λc L N J=>e.ex r w c L N (f.grow J) (Fr.grow J)⟩;have g:=f.grow n;split at p
  ·rename_i es q;obtain⟨a',x,rfl,o,l⟩:=Rp.lst_inv (M.shd g.same f.zm n q);refine⟨b,a',us,x,rfl,rfl,n _ _ G,off_sub _ _ o,by rw[y.len,l.len];exact W9 p.1 (by decide),?_⟩;obtain⟨q,Y⟩:=g.mutate (es:=.lst (ds++es)) (us:=.lst (us++x)) C A trivial λF L SF U=>⟨_,U,Rps.mono SF (Rps.append (Rps.mono (Xm n λ_ _ _ z=>z) y) l)⟩;exact e.nx _ _ _ p.2 q ((Fr.grow n).trans Y)
  ·grind
 ·exact h.elim
end
noncomputable def nextM(b r:ZV):List (ZV):=(b.filter λh=>!decide (h∈r)).map λh=>r++[h]
noncomputable def PV(b:ZV):Nat->List (ZV)
 | 0=>[[]]
 |k+1=>(PV b k).flatMap (nextM b)
def next_mem:o∈nextM b r↔∃h,h∈b/\h∉r/\o=r++[h]:=by
 unfold nextM;constructor
 ·grind
 ·grind
theorem rows_mem:∀{k}{r:ZV},r∈PV f k↔r.length=k/\r.Nodup/\∀x∈r,x∈f
 | 0,r=>by
  unfold PV;constructor
  ·intro h;rw[Wx]at h;subst h;exact⟨rfl,QI,by simp⟩
  ·rintro⟨h,_⟩;rw[Q2.mp h];exact Wx.mpr rfl
 |k+1,r=>by
  unfold PV;rw[List.mem_flatMap];constructor
  ·rintro⟨p,g,l⟩;obtain⟨h,q,o,rfl⟩:=next_mem.mp l;obtain⟨a,b,c⟩:=rows_mem.mp g
   ·rw[Qf]
    grind
  ·rintro⟨a,b,c⟩;rcases List.eq_nil_or_concat r with rfl|⟨p,h,rfl⟩
   ·cases a
   ·rw[List.concat_eq_append]at a b c ⊢;rw[Qf]at b;obtain⟨b1,_,n⟩:=b;refine⟨p,rows_mem.mpr ⟨by rw[WA]at a;simpa using a,b1,λx hx=>c x (QB _ hx)⟩,next_mem.mpr ⟨h,c h (by simp),λz=>n h z h (by simp) rfl,rfl⟩⟩
def Zjm(g:f.Nodup):r∈PV f f.length↔r.Perm f:=by
 rw[rows_mem];constructor
 ·rintro⟨o,n,l⟩;rw[QF n g];refine λx=>⟨l x,λhx=>?_⟩;by_cases c:x∈r
  ·lia
  ·have:=List.Nodup.length_le_of_subset (Ql.mpr ⟨c,n⟩) (by
    intro y b;rcases WB.mp b with rfl|b
    ·exact hx
    ·exact l y b)
   grind
 ·intro h;exact⟨h.length_eq,h.nodup_iff.mpr g,λx hx=>h.mem_iff.mp hx⟩
theorem HZ:∀{a b:ZV},sl a b->¬sl b a
 |[],_,h,_|_::_,[],h,_=>by cases h
 |a::r,b::t,h,k=>by
  rcases h with h|⟨e,h⟩
  ·rcases k with k|⟨e,_⟩<;>lia
  ·rcases k with k|⟨_,k⟩
   ·lia
   ·exact HZ h k
noncomputable def wdM(ps:ZU)(x:Int):Int:=(XU ps x).2
noncomputable def Kn(ps:ZU)(r:ZV)(x:Int):Int:=wdM ps x*(((Xn 1 (x-1).toNat).filter λy=>!decide (y∈r)).map (wdM ps)).sum
noncomputable def stD(q:ZV×Int):D:=.tup [tD q.1,.int q.2]
noncomputable def Pk(ps:ZU)(q:ZV×Int):List (ZV×Int):=((Xn 1 ps.length).filter λx=>!decide (x∈q.1)).map λx=>(q.1++[x],q.2+Kn ps q.1 x)
def Zgg(q:ZV×Int):imm (stD q)=true:=by
 unfold stD imm XO;rw[Zfd];rfl
def O9(q:ZV×Int):arg (stD q)=.sh (stD q):=by
 unfold arg;rw[Zgg]
def run_mem:x∈Xn 1 n↔1<=x/\x<=n:=by
 unfold Xn;rw[WK];constructor
 ·grind
 ·rintro⟨f,b⟩;exact⟨(x-1).toNat,Q6.mpr (by lia),by lia⟩
def Zbl(ps:ZU)(q:ZV×Int):(Pk ps q).length<=ps.length:=by
 unfold Pk;rw[Wv]
 have:=Qk (λx=>!decide (x∈q.1)) (Xn 1 ps.length)
 rwa[Tp]at this
theorem FT(h:ps.length<=7):∀S:List (ZV×Int),(S.flatMap<|Pk ps).length<=S.length*7
 |[]=>by simp
 |q::t=>by
  rw[JK,WA,WW,Nat.succ_mul];have f:=Zbl ps q;have b:=FT h t;lia
noncomputable def Ku(ps:ZU):Nat->List (ZV×Int)
 | 0=>[([],0)]
 |k+1=>(Ku ps k).flatMap (Pk ps)
theorem GX:∀{k}{q:ZV×Int},q∈Ku ps k->q.1.length=k
 | 0,q,h=>by
  unfold Ku at h
  grind
 |k+1,q,h=>by
  obtain⟨p,b,hq⟩:=List.mem_flatMap.mp h;obtain⟨x,_,rfl⟩:=WK.mp hq;rw[WA,GX b];rfl
theorem GM(h:ps.length<=7):∀k,(Ku ps k).length<=7 ^ k
 | 0=>by unfold Ku;simp
 |k+1=>by
  exact W9 (FT h _) (Nat.mul_le_mul_right _<|GM h k)
noncomputable def P5(ps:ZU):ZV->ZV->Int
 |_,[]=>0
 |pre,x::t=>Kn ps pre x+P5 ps (pre++[x]) t
theorem MA(ps:ZU)(x:Int):∀t pre,P5 ps pre (t++[x])=P5 ps pre t+Kn ps (pre++t) x
 |[],pre=>by
  show Kn ps pre x+0=0+Kn ps (pre++[]) x;simp
 |y::t,pre=>by
  show Kn ps pre y+P5 ps (pre++[y]) (t++[x])=Kn ps pre y+P5 ps (pre++[y]) t+Kn ps (pre++y::t) x;rw[MA ps x t (pre++[y]),QD]
  grind
theorem De(ps:ZU):∀k,Ku ps k=(PV (Xn 1 ps.length) k).map λr=>(r,P5 ps [] r)
 | 0=>rfl
 |k+1=>by
  unfold Ku PV;rw[De ps k,List.flatMap_map,List.map_flatMap];congr 1;funext r;unfold Pk nextM;rw[Qe];apply Vc;intro x _;show(r++[x],P5 ps [] r+Kn ps r x)=(r++[x],P5 ps [] (r++[x]));rw[MA,List.nil_append]
noncomputable def Tt(ps:ZU):ZV->Int
 |[]=>0
 |x::t=>wdM ps x*((t.filter λy=>decide (y<x)).map (wdM ps)).sum+Tt ps t
def Fm(n:Nat):(Xn 1 n).Nodup:=by
 unfold Xn;rw[List.Nodup,QU];exact List.nodup_range.imp λh z=>h (by lia)
theorem Dv:∀{t pre:ZV},(pre++t).Perm (Xn 1 ps.length)->P5 ps pre t=Tt ps t
 |[],_,_=>rfl
 |x::t,pre,h=>by
  have f:=h.nodup_iff.mpr (Fm _)
  have g:∀y,y∈pre\/y=x\/y∈t↔1<=y/\y<=ps.length:=λy=>by
   rw[←run_mem,←h.mem_iff,WD,WB]
  rw[Qf]at f;obtain⟨p,n,o⟩:=f;have l:=Ql.mp n
  have b:((Xn 1 (x-1).toNat).filter λy=>!decide (y∈pre)).Perm (t.filter λy=>decide (y<x)):=by
   rw[QF ((Fm _).filter _) (l.2.filter _)];intro y;rw[WM,WM,run_mem];constructor
   ·grind
   ·grind
  show Kn ps pre x+P5 ps (pre++[x]) t=wdM ps x*_+Tt ps t;rw[Dv (by simp_all)];unfold Kn;rw[NZ b]
noncomputable def Tf(f:ZU)(a b:Int):Option Str:=if ¬(1<=a/\a<=10)then some "BadHolder" else if ¬(1<=b/\b<=10)then some "BadHolder" else if a=b then some "LikeHolders" else if (a,b)∈f then some "WishStands" else if 20<=f.length then some "TooManyWishes" else none
def Zdt(h:Pr f)(e:Tf f a b=none):Pr (f++[(a,b)]):=by
 unfold Tf at e;split at e
 ·cases e
 split at e
 ·cases e
 split at e
 ·cases e
 split at e
 ·cases e
 split at e
 ·cases e
 rename_i v u s n r;obtain⟨p,l,o⟩:=h;refine⟨by rw[WA,Vm];lia,?_,λq hq=>?_⟩
 ·rw[Qf];exact⟨l,by simp,λx hx y g z=>by rw[Wx]at g;subst g;exact n (z▸hx)⟩
 ·grind
def Zer:Pr []:=by trivial
noncomputable def CH(m:ZV)(k:Int):Int:=1+(k*m.getD 1 0+m.getD 2 0) % 10
def Zn4(f:SY m){x y}(hx:0<=x/\x<=9)(l:0<=y/\y<=9)(h:x≠y):CH m x≠CH m y:=by
 obtain⟨a,b,c,d,e,rfl,q,⟨_,_,p⟩,o,hd,n⟩:=f;intro z;have g:1+(x*b+c) % 10=1+(y*b+c) % 10:=z
 grind
def two_ne{o r p:Int}(f:0<=o/\o<p)(b:0<=r/\r<p-1):(0<=(o+1+r) % p/\(o+1+r) % p<p)/\o≠(o+1+r) % p:=by
 by_cases h:o+1+r<p
 ·rw[JL (by lia) h];lia
 ·rw[←Int.sub_emod_right,JL (by lia) (by lia)];lia
def HC{a b}(o:1<=a/\a<=10)(n:1<=b/\b<=10)(l:a≠b)(h:(a,b)∉f)(g:f.length<20):Tf f a b=none:=by
 unfold Tf
 grind
noncomputable def NS(ps:ZU)(os:ZV):Option Str:=if os.isPerm (Xc ps)=true then none else some "BadOrder"
def HL{os}(h:os.Perm (Xc ps)):NS ps os=none:=by
 unfold NS;rw[W5 (List.isPerm_iff.mpr h)]
def Zmi{os ns}(b:ns.Perm os)(f:ns.Pairwise (·<=·)):(ns=Xc ps)↔os.isPerm (Xc ps)=true:=by
 rw[List.isPerm_iff];exact⟨λz=>z▸b.symm,λz=>Ri z b f⟩
def Zfc(h:Pr b){i}(g:i<b.length):Tf (b.take i) b[i].1 b[i].2=none:=by
 obtain⟨⟨q,p,o,n⟩,l⟩:=h.2.2 b[i] (WN g);refine HC ⟨q,p⟩ ⟨o,n⟩ l (λz=>?_) (by rw[WG];have:=h.1;lia);obtain⟨j,f,e⟩:=WJ.mp z;rw[WG]at f;rw[Qg]at e
 have:=(JM h.2.1).mp (e.trans rfl)
 lia
noncomputable abbrev d3(k:Str)(a b:Int):D:=.tup [.str k,.int a,.int b]
end Pu
namespace M
open L2 Own Pu
def Zc7{o:ZV}(f:Field ps)(h:o.Perm (Xc ps)):∀p∈ps,p.1∈o:=λp b=>h.mem_iff.mpr ((Se f).mpr (WK.mpr ⟨p,b,rfl⟩))
def HK(g:Keeps f o){a b}(n:a∈o)(l:b∈o.take (o.idxOf a)):(a,b)∉f:=by
 obtain⟨j,h,e⟩:=WJ.mp l;rw[WG]at h
 have:=WY.mp g j (o.idxOf a) (by lia) (Vu.mpr n) (by lia)
 grind
end M
namespace Pu
open L2 Own
section
variable {K:ZT}{mg:ZX}{E:L2.St->XK}
def Ly:List S->(S->Prop)->Prop
 |[s],R=>(match s.d with | .int i=>R (.sh<|.int i) | .bl k=>R (.sh<|.int (if k then 1 else 0))|_=>False)
 |_,_=>False
def Zj5(p:Xq K mg E l r):UX K mg E (tCB (λxs H Q=>(∃i,xs=[.int i]/\Q (.int i) H)\/∃k,xs=[.bl k]/\Q (.int (if k then 1 else 0)) H) l) (pCB Ly r):=by
 refine KQ p λz H f Z w u R Q o x y g h q=>?_;unfold Ly at h;split at h
 ·rename_i s;obtain⟨v,rfl,n⟩:=g.one_inv;have b:=n.rp o;split at h
  ·rename_i i e;rw[e]at b;exact .inl ⟨i,by rw[b.int_inv],q _ _ f h (Same.refl _) (.int _)⟩
  ·rename_i k e;rw[e]at b;exact .inr ⟨k,by rw[b.bl_inv],q _ _ f h (Same.refl _) (.int _)⟩
  ·grind
 ·exact h.elim
end
structure DI (K:ZT) (x:Str) (st:Stmt):Prop where
 ex:∃f fd,PySem.W.nsIn K mainGlobals x=some (some<|.ref f)/\Fun K x x st f fd
structure MI (K:ZT) (C:Addr) (m q:Str) (st:Stmt):Prop where
 ex:∃f fd,PySem.W.findIn K (.ref C) m=some (some<|.ref f)/\PySem.W.isFn K (.ref f)=true/\Fun K m q st f fd
section
variable {K:ZT}{h:Heap}{mg:ZX}
def di{st f oc od p g kV n o b ct}(a:PySem.W.nsIn K mainGlobals x=some (some<|.ref f))(l:K.lookup f=some ⟨oc,od,.func (PySem.W.fnOf x x (K8 st) (Xw st) (UY st) .none kV n o p b ct),g⟩)(c:PySem.W.codeIn K b x=true)(k:PySem.W.keepIn K (.ref f)=true):DI K x st:=⟨f,_,a,B3 l c k⟩
def mi{st f oc od p g kV n o b ct}(a:PySem.W.findIn K (.ref C) m=some (some<|.ref f))(i:PySem.W.isFn K (.ref f)=true)(l:K.lookup f=some ⟨oc,od,.func (PySem.W.fnOf m q (K8 st) (Xw st) (UY st) .none kV n o p b ct),g⟩)(c:PySem.W.codeIn K b q=true)(k:PySem.W.keepIn K (.ref f)=true):MI K C m q st:=⟨f,_,a,i,B3 l c k⟩
def DI.d {st ps} (D:DI K x st) (X:K.In h) (o:h.Ns mainGlobals mg)
  (b:∀kV f l n g ct us,us.length=ps.length->bindArgs (PySem.W.fnOf x x (K8 st) (Xw st) (UY st) .none kV f l n g ct) ⟨us,[]⟩=pure (ps.zip us)):Def K mg x st ps:=
 let ⟨_,_,a,F⟩:=D.ex
 ⟨_,_,F,Qr X o a,F.binds b⟩
def MI.d {m q st ps} (D:MI K C m q st) (e:o=C)
  (b:∀kV f l n g ct us,us.length=ps.length->bindArgs (PySem.W.fnOf m q (K8 st) (Xw st) (UY st) .none kV f l n g ct) ⟨us,[]⟩=pure (ps.zip us)):Xt K (Xv K o m) m q st ps:=
 let ⟨_,_,a,i,F⟩:=D.ex
 ⟨_,_,F,by rw[e];exact⟨a,i,F.kp⟩,F.binds b⟩
def MI.i {q st ps} (D:MI K C "__init__" q st) (e:p=C) (mk:PySem.W.makesIn K C=true) (n:PySem.W.keepIn K (.ref C)=true)
  (b:∀kV f l o g ct us,us.length=ps.length->bindArgs (PySem.W.fnOf "__init__" q (K8 st) (Xw st) (UY st) .none kV f l o g ct) ⟨us,[]⟩=pure (ps.zip us)):Xt K (Mk K p) "__init__" q st ps:=
 let ⟨_,_,a,i,F⟩:=D.ex
 ⟨_,_,F,by rw[e];exact⟨mk,a,i,n⟩,F.binds b⟩
end
def fs{N P b}(p:autoParam (b.kind=.function) au_0)(o:autoParam (b.isCoroutine=false) au_0)(n:autoParam (b.isGenerator=false) au_0)(l:autoParam (N.Nodup) au_5)(h:autoParam (N.take P.length=P) au_0)(g:autoParam (∀x∈P,b.names.lookup x=some .local\/b.names.lookup x=some .cell) au_5)(f:autoParam (∀y∈b.names,y.2≠.free) au_5):UZ N P b:=⟨p,o,n,l,h,g,f⟩
def pz{pos x e te b}(i:Nat)(n:X.N.Nodup)(l:PE X e te)(g:autoParam (X.N[i]?=some x) au_0)(hx:autoParam (Loc X.env.scope x) au_6)(f:autoParam (swapsWith e (some<|.Name x b) pos.line X.env=pure false) au_0)(h:autoParam (X.fn x=true\/X.env.scope.names.lookup x=some .local) au_2) :
  PS X (.Assign [.Name x b] e pos) (SN te<|Nj i):=Zgr n g hx l f h
section
variable {K:ZT}{mg:ZX}{E:L2.St->XK}{H0 H H1 H':Hp}{B Z Z':Addr->Prop}{σ:L2.St}{γ:Γ}
def two(o1 f:O)(a1 a2:Addr):Addr->Prop:=λb=>o1.adr a1 b\/f.adr a2 b
end
end Pu
namespace M
open L2 Own Pu
noncomputable def ltS(k:Int):ZU->Int
 |[]=>0
 |q::l=>(if q.1<k then q.2 else 0)+ltS k l
noncomputable def TZ:ZU->Int
 |[]=>0
 |p::l=>ltS p.1 l*p.2+TZ l
theorem IV(k:Int)(a b:Int×Int)(B:ZU):∀A,ltS k (A++a::b::B)=ltS k (A++b::a::B)
 |[]=>by simp only[List.nil_append,ltS];lia
 |q::A=>by simp only[QA,ltS];rw[IV k a b B A]
theorem Hg(a b:Int×Int)(B:ZU):∀A,TZ (A++a::b::B)+(if a.1<b.1 then a.2*b.2 else 0)=TZ (A++b::a::B)+(if b.1<a.1 then a.2*b.2 else 0)
 |[]=>by
  simp only[List.nil_append,TZ,ltS];by_cases f:a.1<b.1
  ·grind
  ·grind
 |q::A=>by
  simp only[QA,TZ];rw[IV q.1 a b B A]
  have:=Hg a b B A
  lia
noncomputable def hdN(ps:ZU)(m:Int):Int:=(ps.getD (m-1).toNat (0,0)).1
def Zma{p}(n:1<=p)(f:p<ns.length):∃A x y B,ns=A++x::y::B/\A.length+1=p/\K4 ns p=A++y::x::B/\ns.getD (p-1) 0=x/\ns.getD p 0=y:=by
 have b:ns.drop (p-1)=ns[p-1]'(by lia)::ns.drop (p-1+1):=Q0 (by lia);have l:p-1+1=p:=by lia
 rw[l,(Q0 f)]at b;have h:ns.getD p 0=ns[p]:=by rw[W7,Ww f];rfl
 have g:ns.getD (p-1) 0=ns[p-1]'(by lia):=by grind
 refine⟨ns.take (p-1),ns[p-1]'(by lia),ns[p],ns.drop (p+1),by rw[←b,Vl],by rw[WG];lia,?_,g,h⟩;unfold K4;rw[h,g];simp
def Zfm{p}(f:1<=p)(b:p<ns.length):(K4 ns p).length=ns.length:=(Gj f b).length_eq
noncomputable def rkN(ps:ZU)(o:ZV)(m:Int):Int:=(o.idxOf (hdN ps m):Nat)
noncomputable def Nt(ps:ZU)(h:Int):ZV:=((List.range ps.length).filter λi=>decide ((ps.getD i (0,0)).1=h)).map λi:Nat=>0+(i:Int)+1
def Zh1:x∈Nt ps h↔(1<=x/\x<=ps.length)/\hdN ps x=h:=by
 unfold Nt hdN;rw[WK];constructor
 ·rintro⟨i,f,rfl⟩
  grind
 ·rintro⟨g,b⟩;exact⟨(x-1).toNat,WM.mpr ⟨Q6.mpr (by lia),W1 b⟩,by lia⟩
def Gu(ps:ZU)(h:Int):(Nt ps h).Pairwise (· < ·):=by
 unfold Nt;rw[QU];exact(List.pairwise_lt_range.filter _).imp λ{a b} f=>by lia
def Zcg(n:Nat):(Xn 1 n).Nodup:=JJ _ (λa b h z=>h (by lia)) List.nodup_range
def Zf1{o G mine:ZV}{i}(g:o.Nodup)(u:i<o.length)(A:G.Nodup)(q:∀x,x∈G↔(1<=x/\x<=ps.length)/\hdN ps x∈o.take i)(s:mine.Perm (Nt ps o[i])) :
  (G++mine).Nodup/\(∀x,x∈G++mine↔(1<=x/\x<=ps.length)/\hdN ps x∈o.take (i+1))/\(∀x∈G,∀y∈mine,rkN ps o x<rkN ps o y)/\∀y∈mine,rkN ps o y=i:=by
 have b:∀x,x∈mine↔(1<=x/\x<=ps.length)/\hdN ps x=o[i]:=λx=>s.mem_iff.trans Zh1
 have l:o[i]∉o.take i:=λz=>by
  obtain⟨j,n,e⟩:=WJ.mp z;rw[WG]at n;rw[Qg]at e
  have:=(JM g).mp e
  lia
 have r:∀y∈mine,rkN ps o y=i:=λy f=>by
  unfold rkN;rw[((b y).mp f).2,g.idxOf_getElem i u]
 have w:∀x∈G,rkN ps o x<i:=λx hx=>by
  obtain⟨j,n,e⟩:=WJ.mp ((q x).mp hx).2;rw[WG]at n;rw[Qg]at e;unfold rkN;rw[←e,g.idxOf_getElem j (by lia)];lia
 refine⟨Qf.mpr ⟨A,s.symm.nodup ((Gu ps _).imp λh=>Vi h),λx hx y f z=>?_⟩,λx=>?_,λx hx y f=>?_,r⟩
 ·subst z
  have:=((q x).mp hx).2
  rw[((b x).mp f).2]at this;exact l this
 ·rw[WD,q x,b x,W4 u,WD,Wx];constructor
  ·grind
  ·rintro⟨v,p|p⟩
   ·exact .inl ⟨v,p⟩
   ·exact .inr ⟨v,p⟩
 ·have:=w x hx
  rwa[r y f]
def FW(b:ZV)(p:Nat):Prop:=(∀q,1<=q->q<(if p=0 then b.length else p)->b.getD (q-1) 0<=b.getD q 0)/\(p=0\/(1<=p/\p<b.length/\b.getD p 0<b.getD (p-1) 0))
abbrev Mo:=Int×Int×Int×Int
inductive Mv (ps:ZU) (f:Int->Int):ZV->List Mo->Prop
 |done (ns:ZV):FW (ns.map f) 0->Mv ps f ns []
 |step (ns:ZV) (p:Nat) (ms:List Mo):FW (ns.map f) p->p≠0->Mv ps f (K4 ns p) ms->Mv ps f ns (((p:Int),ns.getD (p-1) 0,ns.getD p 0,exM ps ns p)::ms)
def D1{f:Int->Int}{ns:ZV}{i}(h:i<ns.length):(ns.map f).getD i 0=f (ns.getD i 0):=by grind
noncomputable def KA(f:Int->Int)(ns:ZV):Int:=TZ (ns.map λm=>(f m,1))
def Znw(f:Int->Int){ns p}(g:1<=p)(b:p<ns.length)(h:f (ns.getD p 0)<f (ns.getD (p-1) 0)):KA f ns=KA f (K4 ns p)+1:=by
 obtain⟨A,x,y,B,e,_,l,ex,ey⟩:=Zma g b;rw[ex,ey]at h;rw[l,e];unfold KA;rw[WC,WQ,WQ,WC,WQ,WQ];have k:=Hg (f x,1) (f y,1) (B.map λm=>(f m,1)) (A.map λm=>(f m,1));lia
theorem HY(f:Int->Int)(k:Int):∀l:ZV,0<=ltS k (l.map λm=>(f m,1))/\ltS k (l.map λm=>(f m,1))<=l.length
 |[]=>⟨VG 0,VG 0⟩
 |m::l=>by
  have:=HY f k l
  rw[WQ,WW];unfold ltS;lia
theorem Fz(f:Int->Int):∀l,0<=KA f l/\KA f l<=(l.length:Int)*l.length
 |[]=>⟨VG 0,VG 0⟩
 |m::l=>by
  have b:=Fz f l;have g:=HY f (f m) l;unfold KA at b ⊢;rw[WQ,WW];unfold TZ
  grind
noncomputable def toI:D->Int
 | .int i=>i
 |_=>0
noncomputable def mvN(b:List (Option Pu.S)):Nat:=match b[2]?,b[3]? with
 |some (some<|Pu.S.own<|Pu.O.lst f),some (some<|Pu.S.own<|Pu.O.lst g)=>(KA (λm=>(f.map toI).getD (m-1).toNat 0)<|g.map toI).toNat
 |_,_=>0
def AQ(xs:ZV):(xs.map D.int).map toI=xs:=by
 rw[Qe];exact List.map_id _
end M
namespace Pu
open L2 Own M
noncomputable abbrev mvD(m:Mo):D:=.tup [.int m.1,.int m.2.1,.int m.2.2.1,.int m.2.2.2]
end Pu
namespace Pu
open L2 Own
section
variable {X:Cx}{k j:Nat}{x:Str}{ps:Yc}{sp:Sp}{e a b c:Expr}{es:Yd}{t:TA}{te tf tg:TE}{p pos:Pos}
def fz(C:Callee X.prog X.w X.K X.mg X.base CX0 k x ps sp)(h:Xh j X.A)(q:PA X (e::es) t)(l:autoParam (k<=j) au_1)(n:autoParam (Gl X x) au_0)(g:autoParam ((x==("__debug__" : Str))=false) au_1)(o:autoParam (starEach (e::es) X.env=(false,eval e X.env)::starEach es X.env) au_0)(f:autoParam ((backTo pos<|starEach es X.env).any (·.1)=false) au_0) :
  PE X (.Call (.Name x p) (e::es) [] pos) (NI sp [] E0 t):=An C (h.mono l) XZ q n g o f
def jx(K:ZT)(h:PE X a te)(g:PE X b tf)(l:autoParam (X.K=K) au_0)(f:autoParam (Cy b) au_7):PE X (.Subscript a b pos) (tOp (λx y H Q=>SS K x y H Q\/Bb K x y H Q) te tf):=A3 (Ze5 l) h g f
def ln(K:ZT)(h:X.mg "len"=none)(o:PE X a te)(q:autoParam (X.K=K) au_0)(l:autoParam (Gl X "len") au_0)(g:autoParam (starEach [a] X.env=(false,eval a X.env)::starEach [] X.env) au_0)(f:autoParam ((backTo pos<|starEach [] X.env).any (·.1)=false) au_0) :
  PE X (.Call (.Name "len" p) [a] [] pos) (tCB (λxs H Q=>∃x n,xs=[x]/\Fg K x H n/\Q (.int (n:Nat)) H)<|XN te Kt):=XF (Zi1 q) l h PySem.boot_len (XB o XA g) (by decide) rfl g f
def cq(K:ZT)(f:Xh j X.A)(h:PE X a te)(g:PE X b tf)(l:autoParam (X.K=K) au_0):PT X (.Compare a [.Eq] [b] pos) (BO<|tOp (λx y H Q=>rEq x y H Q\/P4 K false x y H Q) te tf):=PY (NN f.units0 l) h g (Ke _)
def cn(K:ZT)(f:Xh j X.A)(h:PE X a te)(g:PE X b tf)(l:autoParam (X.K=K) au_0):PT X (.Compare a [.NotEq] [b] pos) (BO<|tOp (λx y H Q=>rNe x y H Q\/P4 K true x y H Q) te tf):=PY (DK f.units0 l) h g (Ke _)
def az(f:PE X a te)(g:autoParam (starEach [a] X.env=(false,eval a X.env)::starEach [] X.env) au_0):PA X [a] (XN te Kt):=XB f XA g
def bz(g:PE X a te)(f:PE X b tf)(l:autoParam (starEach [a,b] X.env=(false,eval a X.env)::starEach [b] X.env) au_0)(h:autoParam (starEach [b] X.env=(false,eval b X.env)::starEach [] X.env) au_0):PA X [a,b] (XN te<|XN tf Kt):=XB g (XB f XA h) l
def dz(h:PE X a te)(g:PE X b tf)(f:PE X c tg)(o:autoParam (starEach [a,b,c] X.env=(false,eval a X.env)::starEach [b,c] X.env) au_0)(n:autoParam (starEach [b,c] X.env=(false,eval b X.env)::starEach [c] X.env) au_0)(l:autoParam (starEach [c] X.env=(false,eval c X.env)::starEach [] X.env) au_0):PA X [a,b,c] (XN te<|XN tf<|XN tg Kt):=XB h (XB g (XB f XA l) n) o
end
section
variable {K:ZT}{mg:ZX}{E:L2.St->XK}{ta tb tc:TE}{a b c:PTE}
def sz(f:UX K mg E ta a):Xq K mg E (XN ta Kt) (K5 a Td):=KW f Xr
def tz(g:UX K mg E ta a)(f:UX K mg E tb b):Xq K mg E (XN ta<|XN tb Kt) (K5 a<|K5 b Td):=KW g (sz f)
def uz(h:UX K mg E ta a)(g:UX K mg E tb b)(f:UX K mg E tc c):Xq K mg E (XN ta<|XN tb<|XN tc Kt) (K5 a<|K5 b<|K5 c Td):=KW h (tz g f)
end
section
variable {K:ZT}{h:Heap}{mg:ZX}{C C':Addr}{x m q:Str}{st:Stmt}{ps:Yc}
abbrev Bd(x q:Str)(st:Stmt)(ps:Yc):Prop:=∀(kV f l:Value) (o:Yg) (g n:Value) (b:Yb),b.length=ps.length->bindArgs (PySem.W.fnOf x q (K8 st) (Xw st) (UY st) .none kV f l o g n) ⟨b,[]⟩=pure (ps.zip b)
def DI.e (D:DI K x st) (X:K.In h) (g:h.Ns mainGlobals mg) (b:Bd x x st ps:=by
  intro _ _ _ _ _ _ us f
  first
   |(obtain⟨_,rfl⟩:=Pu.Sw f;rfl)
   |(obtain⟨_,_,rfl⟩:=Pu.Sd f;rfl)
   |(obtain⟨_,_,_,rfl⟩:=Pu.Br f;rfl)
   |(obtain⟨_,_,_,_,rfl⟩:=Pu.FO f;rfl)
   |(obtain⟨_,_,_,_,_,rfl⟩:=Pu.Zkt f;rfl)):Def K mg x st ps:=D.d X g b
def MI.e (D:MI K C m q st) (e:C'=C) (b:Bd m q st ps:=by
  intro _ _ _ _ _ _ us f
  first
   |(obtain⟨_,rfl⟩:=Pu.Sw f;rfl)
   |(obtain⟨_,_,rfl⟩:=Pu.Sd f;rfl)
   |(obtain⟨_,_,_,rfl⟩:=Pu.Br f;rfl)
   |(obtain⟨_,_,_,_,rfl⟩:=Pu.FO f;rfl)):Xt K (Xv K C' m) m q st ps:=D.d e b
def MI.j (D:MI K C "__init__" q st) (e:C'=C) (mk:PySem.W.makesIn K C=true) (g:PySem.W.keepIn K (.ref C)=true) (b:Bd "__init__" q st ps:=by
  intro _ _ _ _ _ _ us f
  first
   |(obtain⟨_,rfl⟩:=Pu.Sw f;rfl)
   |(obtain⟨_,_,rfl⟩:=Pu.Sd f;rfl)
   |(obtain⟨_,_,_,rfl⟩:=Pu.Br f;rfl)):Xt K (Mk K C') "__init__" q st ps:=D.i e mk g b
end
section
variable {P:Program}{w:World}{K:ZT}{mg:ZX}{base:Heap}{N ps:Yc}{sp:Sp}{p:PTS}{x q:Str}{st:Stmt}{k:Nat}{W:Addr->Prop}
structure Uz (K:ZT) (mg:ZX) (N ps:Yc) (sp:Sp) (p:PTS):Prop where
 len:∀vs H Q E,sp vs H Q E->vs.length=ps.length
 run:∀vs H Q E t,sp vs H Q E->Xl K mg (λ_=>E) t p->t {nx:=λ_ H'=>Q .non H',rt:=Q} (start N vs) H
def Uz.a (b:∀ds R X,c ds R X->ds.length=ps.length/\p {nx:=λ_=>R (.sh .non),rt:=R,ex:=λ_ e=>X e} (KR N ds)) (f:autoParam (ps.length<=N.length) au_1):Uz K mg N ps (Xb mg c K) p:=
 ⟨λ_ _ _ _ h=>Zdz h λds R X z=>(b ds R X z).1,λ_ _ _ _ _ h s=>O1 h s f b⟩
def Uz.c {c y} (f:∀o b R X,c o b R X->b.length=ps.length/\p (Ln o R X) (Tx N o b)) (g:autoParam (ps.length+1<=N.length) au_1):Uz K mg N (y::ps) (spW mg c K) p:=
 ⟨λ_ _ _ _ h=>Zhv h λo l R X z=>(f o l R X z).1,λ_ _ _ _ _ h s=>Zb5 h s g f⟩
def _root_.Own.Def.oz (D:Def K mg x st ps) (S:UZ N ps (UY st))
  (g:∀f b A outer s H E,Xh k (A.deeper<|envOfC x (UY st) s.heap.objs.size f b)->
   ∃t,PSs (X6 CX0 P w K mg base N x (UY st) f b A outer s H E).nox (Xw st) t/\Xl K mg (λ_=>E) t p) (u:Uz K mg N ps sp p):Callee P w K mg base CX0 (k+1) x ps sp:=
 D.ok S u.len λf b A outer s H n Q E l h=>(g f b A outer s H E l).elim λt z=>⟨t,z.1,u.run _ _ _ _ _ h z.2⟩
def _root_.Own.Def.ox (D:Def K mg x st ps) (S:UZ N ps (UY st))
  (g:∀f b A outer s H E,Xh k (A.deeper<|envOfC x (UY st) s.heap.objs.size f b)->
   ∃t,PSs (X6 (ExcR.CXe P w) P w K mg base N x (UY st) f b A outer s H E) (Xw st) t/\Xl K mg (λ_=>E) t p) (u:Uz K mg N ps sp p):Callee P w K mg base (ExcR.CXe P w) (k+1) x ps sp:=
 ExcR.Def.okX D S u.len λf b A outer s H n Q E l h=>(g f b A outer s H E l).elim λt z=>⟨t,z.1,u.run _ _ _ _ _ h z.2⟩
def Xt.oz (D:Xt K W x q st ps) (S:UZ N ps (UY st))
  (g:∀f b A outer s H E,Xh k (A.deeper<|envOfC q (UY st) s.heap.objs.size f b)->
   ∃t,PSs (X6 CX0 P w K mg base N q (UY st) f b A outer s H E).nox (Xw st) t/\Xl K mg (λ_=>E) t p) (u:Uz K mg N ps sp p):KB P w K mg base CX0 (k+1) W ps sp:=
 D.ok S u.len λf b A outer s H n Q E l h=>(g f b A outer s H E l).elim λt z=>⟨t,z.1,u.run _ _ _ _ _ h z.2⟩
def Xt.ox (D:Xt K W x q st ps) (S:UZ N ps (UY st))
  (g:∀f b A outer s H E,Xh k (A.deeper<|envOfC q (UY st) s.heap.objs.size f b)->
   ∃t,PSs (X6 (ExcR.CXe P w) P w K mg base N q (UY st) f b A outer s H E) (Xw st) t/\Xl K mg (λ_=>E) t p) (u:Uz K mg N ps sp p):KB P w K mg base (ExcR.CXe P w) (k+1) W ps sp:=
 D.okX S u.len λf b A outer s H n Q E l h=>(g f b A outer s H E l).elim λt z=>⟨t,z.1,u.run _ _ _ _ _ h z.2⟩
end
section
variable {K:ZT}{h:Heap}{mg:ZX}{x:Str}{C:Addr}
structure EI (K:ZT) (x:Str) (C:Addr):Prop where
 a:PySem.W.nsIn K mainGlobals x=some (some<|.ref C)
 g:ExcR.XY K C
def ei(a:PySem.W.nsIn K mainGlobals x=some (some<|.ref C))(q:PySem.W.excIn K C [.type "ValueError",.type "Exception",.type "BaseException",.type "object"] "ValueError.__new__"=true)(f:PySem.W.findIn K (.ref C) "__getattribute__"=some (some<|.builtin "BaseException.__getattribute__"))(b:PySem.W.findIn K (.ref C) "__getattr__"=some none)(g:PySem.W.findIn K (.ref C) "__class__"=some (some<|.builtin "object.__class__"))(i:PySem.W.clsIn K C=some d):EI K x C:=⟨a,⟨⟨q⟩,f,b,g,by rw[i];rfl⟩⟩
def EI.c (y:EI K x C) (X:K.In h) (b:h.Ns mainGlobals mg):ExcR.Xe mg x=C:=ExcR.AH (Qr X b y.a)
def EI.m (y:EI K x C) (X:K.In h) (b:h.Ns mainGlobals mg):mg x=some (.ref<|ExcR.Xe mg x):=by rw[y.c X b];exact Qr X b y.a
def EI.k (y:EI K x C) (X:K.In h) (b:h.Ns mainGlobals mg):ExcR.XY K (ExcR.Xe mg x):=by rw[y.c X b];exact y.g
end
end Pu
namespace M
open L2 Own Pu
noncomputable def endsN(ps:ZU)(o:ZV):ZV:=o.flatMap (Nt ps)
def Ab(ps:ZU)(o:ZV)(x y:Int):Prop:=rkN ps o x<rkN ps o y\/(rkN ps o x=rkN ps o y/\x<y)
theorem GW(f:o.Nodup):∀i,i<=o.length->(endsN ps<|o.take i).Nodup/\(∀x,x∈endsN ps (o.take i)↔(1<=x/\x<=ps.length)/\hdN ps x∈o.take i)/\(endsN ps<|o.take i).Pairwise (Ab ps o)
 | 0,_=>by simp[endsN]
 |i+1,v=>by
  obtain⟨s,r,q⟩:=GW f i (by lia)
  have u:endsN ps (o.take (i+1))=endsN ps (o.take i)++Nt ps o[i]:=by
   unfold endsN;rw[W4 (by lia),J9];simp
  rw[u];obtain⟨n,l,g,b⟩:=Zf1 f (by lia) s r (.refl _);refine⟨n,l,Q4.mpr ⟨q,?_,λx hx y p=>.inl (g x hx y p)⟩⟩;exact(Jq.mp (Gu ps o[i])).imp λ{x y} h=>.inr ⟨by rw[b x h.1,b y h.2.1],h.2.2⟩
def Znj(l:o.Nodup)(n:∀q∈ps,q.1∈o):(endsN ps o).Perm (Xn 1 ps.length)/\(endsN ps o).Pairwise (Ab ps o):=by
 obtain⟨g,f,b⟩:=GW l o.length (W3 _);rw[WX]at g f b;refine⟨(QF g<|Zcg _).mpr λx=>?_,b⟩;rw[f x,runI_mem];refine⟨λh=>h.1,λh=>⟨h,?_⟩⟩;have hx:(x-1).toNat<ps.length:=by lia
 unfold hdN;rw[W7,Ww hx]
 grind
end M
namespace Pu
open L2 Own
theorem NoFld.of:∀{xs:Yc},(xs.all λx=>!(m==x))=true->NoFld m xs
 |[],_,_|_::_,_,[]=>rfl
 |x::xs,h,v::b=>by
  rw[Ji,Qd]at h;show(match m==x with|true=>some v|false=>(xs.zip b).lookup m)=none
  rw[show(m==x)=false by simpa using h.1];exact NoFld.of h.2 b
theorem FldAt.of (g:(f==f)=true):∀{xs}{j:Nat},((xs.take j).all λx=>!(f==x))=true->xs[j]?=some f->FldAt f xs j
 |[],_,_,e,_,_=>by simp at e
 |_::_,_,_,_,[],e=>rfl
 |x::xs,0,_,e,v::b,_=>by
  simp_all
 |x::xs,j+1,h,e,v::b,l=>by
  rw[List.take_succ_cons,Ji,Qd]at h;show(match f==x with|true=>some v|false=>(xs.zip b).lookup f)=(v::b)[j+1]?
  rw[show(f==x)=false by simpa using h.1];exact FldAt.of g h.2 (by grind) b (by grind)
theorem PutAt.of:∀{xs:Yc},(xs.all λx=>decide (x≠f))=true->PutAt f xs
 |[],_,[],_,_=>rfl
 |[],_,_::_,_,e|_::_,_,[],_,e=>by cases e
 |x::xs,h,v::b,y,e=>by
  rw[Ji,Qd]at h;show(if x=f then(x,y)::xs.zip b else(x,v)::Kg f y (xs.zip b))=(x,v)::(xs++[f]).zip (b++[y]);rw[W2 (W6 h.1),PutAt.of h.2 b y (by grind)]
end Pu
namespace M
open L2 Own Pu
noncomputable def hAt(ps:ZU)(k:Nat):Int:=(ps.getD k (0,0)).1
noncomputable def Ks(ps:ZU)(k:Nat):Bool:=decide (k=0) || !decide (hAt ps (k-1)=hAt ps k)
noncomputable def K9(ps:ZU)(k:Nat):Bool:=!decide (hAt ps k∈(ps.take k).map (·.1))
def Bj(ps:ZU):Prop:=∀k j,j<k->k<ps.length->hAt ps j=hAt ps k->hAt ps (k-1)=hAt ps k
def Px{k}(h:k<ps.length):hAt ps k=ps[k].1:=by
 unfold hAt
 grind
def Sx{k}(g:k<=ps.length){z}:z∈(ps.take k).map (·.1)↔∃j,j<k/\hAt ps j=z:=by
 rw[WK];constructor
 ·rintro⟨q,hq,rfl⟩;obtain⟨j,f,rfl⟩:=J8 hq;rw[WG]at f;refine⟨j,by lia,?_⟩;rw[Px (by lia),Qg]
 ·rintro⟨j,f,rfl⟩;have b:j<ps.length:=by lia
  refine⟨ps[j],WJ.mpr ⟨j,by rw[WG];lia,by rw[Qg]⟩,(Px b).symm⟩
def Zl6{k}(b:k<ps.length)(h:K9 ps k=true):Ks ps k=true:=by
 unfold Ks;by_cases e:k=0
 ·grind
 ·rw[Jy];unfold K9 at h;rw[QV,QY,Sx (by lia)]at h
  grind
def Zl8(v:Field ps):((List.range ps.length).filter (K9 ps)).length=(Xc ps).length:=by
 have o:(((List.range ps.length).filter (K9 ps)).map (hAt ps)).Perm (Xc ps):=by
  refine(QF ?_ ((Pn ps).imp (λh=>Vi h))).mpr λz=>?_
  ·rw[List.Nodup,QU];refine(Jq.mp<|List.pairwise_lt_range.filter<|K9 ps).imp λ{a b} h e=>?_;have p:=WM.mp h.2.1;have u:=Q6.mp p.1;have l:=p.2;unfold K9 at l;rw[QV,QY,Sx (by lia)]at l;exact l ⟨a,h.2.2,e⟩
  ·rw[Se v,WK];constructor
   ·rintro⟨k,f,rfl⟩;have g:=Q6.mp (WM.mp f).1;rw[Px g];exact WK.mpr ⟨_,WN g,rfl⟩
   ·intro r
    have w:∃k,k<ps.length/\hAt ps k=z:=by
     obtain⟨q,hq,rfl⟩:=WK.mp r;obtain⟨k,f,rfl⟩:=J8 hq;exact⟨k,f,Px f⟩
    have l:∀n k,k<n->k<ps.length->hAt ps k=z->∃j,j∈(List.range ps.length).filter (K9 ps)/\hAt ps j=z:=λn=>by
     induction n with
     |zero=>intro k f;lia
     |succ n x=>
      intro k f s e;by_cases c:K9 ps k=true
      ·exact⟨k,WM.mpr ⟨Q6.mpr s,c⟩,e⟩
      ·unfold K9 at c;rw[QV,QY,Classical.not_not,Sx (by lia)]at c
       grind
    obtain⟨k,f,e⟩:=w;exact l (k+1) k (VA _) f e
 have:=o.length_eq
 rwa[Wv]at this
def EW(p:Field ps):((List.range ps.length).filter (Ks ps)).length=(Xc ps).length↔Bj ps:=by
 rw[←Zl8 p]
 have e:(List.range ps.length).filter (K9 ps)=((List.range ps.length).filter (Ks ps)).filter (K9 ps):=by
  rw[List.filter_filter];refine List.filter_congr λk b=>?_;cases c:K9 ps k with
  |false=>rfl
  |true=>rw[Zl6 (Q6.mp b) c];rfl
 rw[e,eq_comm,List.length_filter_eq_length_iff];constructor
 ·intro h k j g b n;refine Qc λr=>?_
  have o:Ks ps k=true:=by
   unfold Ks
   grind
  have:=h k (WM.mpr ⟨Q6.mpr b,o⟩)
  unfold K9 at this;rw[QV,QY,Sx (by lia)]at this;exact this ⟨j,g,n⟩
 ·intro h k b;obtain⟨q,l⟩:=WM.mp b;have f:=Q6.mp q;unfold K9;rw[QV,QY,Sx (by lia)];rintro⟨j,g,n⟩
  have:=h k j g f n
  unfold Ks at l;rw[Jy]at l;rcases l with z|z
  ·have:=W6 z
   lia
  ·rw[W1 this]at z;cases z
noncomputable def X7(l:ZV):ZV:=l.foldl (λb h=>if h∈b then b else b++[h]) []
def B0(l:ZV)(h:Int):X7 (l++[h])=if h∈X7 l then X7 l else X7 l++[h]:=by
 unfold X7;simp
def Dt(l:ZV):(X7 l).Nodup/\∀z,z∈X7 l↔z∈l:=by
 refine Tg (P:=λl=>(X7 l).Nodup/\∀z,z∈X7 l↔z∈l) ⟨QI,λz=>Iff.rfl⟩ (λr h b=>?_) l;rw[B0];by_cases c:h∈X7 r
 ·grind
 ·grind
def Lu(l:ZV):(X7 l).length<=l.length:=by
 refine Tg (P:=λl=>(X7 l).length<=l.length) (W3 _) (λr h b=>?_) l;rw[B0,WA,Vm];split
 ·lia
 ·grind
noncomputable def BN(n:Nat):Nat->Nat
 | 0=>1
 |k+1=>BN n k*(n-k)
noncomputable def F8:Nat->Nat
 | 0=>1
 |k+1=>F8 k*(k+1)
def Zbq:∀n,n<8->BN n n=F8 n/\F8 n<=5040:=by decide
def Zg9{b r}(o:b.Nodup)(n:r.Nodup)(q:∀x∈r,x∈b):(nextM b r).length=b.length-r.length:=by
 have g:(b.filter λh=>decide (h∈r)).Perm r:=by grind
 have s:=g.length_eq;unfold nextM;rw[Wv]
 have f:∀l:ZV,(l.filter λh=>!decide (h∈r)).length+(l.filter λh=>decide (h∈r)).length=l.length:=λl=>by
  induction l with
  |nil=>rfl
  |cons x l p=>grind
 have:=f b
 lia
theorem Og{b g:Type}{f:b->List g}{c}:∀{l:List b},(∀x∈l,(f x).length=c)->(l.flatMap f).length=l.length*c
 |[],_=>by simp
 |x::l,h=>by
  rw[JK,WA,h x WU,Og λy n=>h y (WT _ n),WW,Nat.add_mul];lia
theorem DZ(f:g.Nodup):∀k,(PV g k).length=BN g.length k
 | 0=>rfl
 |k+1=>by
  unfold PV BN;rw[Og λr b=>by rw[Zg9 f (rows_mem.mp b).2.1 (rows_mem.mp b).2.2,(rows_mem.mp b).1],DZ f k]
def Zc3(f:ps.length<=7):(Ku ps ps.length).length<=5040:=by
 have h:=DZ (Fm ps.length) ps.length;rw[Tp]at h;obtain⟨b,g⟩:=Zbq ps.length (by lia);rw[De,Wv,h,b];lia
noncomputable def LU(os:ZV)(q:Int×Int):Bool:=decide (q.1∈os)&&decide (q.2∈os.take (os.idxOf q.1))
def Zly{os:ZV}(b:os.Nodup){x j}(hx:x∈os):x∈os.take j↔os.idxOf x<j:=by
 obtain⟨k,g,rfl⟩:=WJ.mp hx;rw[b.idxOf_getElem k g];constructor
 ·intro h;obtain⟨m,f,e⟩:=WJ.mp h;rw[WG]at f;have a1:=b.idxOf_getElem m (by lia)
  grind
 ·intro h;exact WJ.mpr ⟨k,by rw[WG];lia,by rw[Qg]⟩
def Ti(ps b:ZU):Prop:=Bj ps/\∀q∈b,LU (X7<|ps.map (·.1)) q=false
noncomputable def Fu(ps b:ZU):Bool:=@decide (Ti ps b) (Classical.propDecidable _)
def keepB_iff:Fu ps b=true↔Ti ps b:=⟨λh=>@W6 _ (Classical.propDecidable _) h,λh=>@W1 _ (Classical.propDecidable _) h⟩
noncomputable def Ky(ps:ZU)(r:ZV):ZU:=r.map λz=>XU ps z
def Zmc(ps b:ZU)(m:Int):Prop:=(∃r,r.Perm (Xn 1 ps.length)/\Ti (Ky ps r) b/\Tt ps r=m)/\∀r,r.Perm (Xn 1 ps.length)->Ti (Ky ps r) b->m<=Tt ps r
def R6(f:Field ps){r:ZV}(h:∀z∈r,1<=z/\z<=ps.length):Field (Ky ps r):=by
 intro q hq;obtain⟨z,b,rfl⟩:=WK.mp hq
 have:=h z b
 have e:XU ps z=ps[(z-1).toNat]:=by
  unfold XU;rw[W7,Ww (by lia)];rfl
 rw[e];exact f _ (WN _)
def stands_mem:q∈Ku ps ps.length↔q.1.Perm (Xn 1 ps.length)/\q.2=Tt ps q.1:=by
 have b:=λr=>by
  have:=Zjm (r:=r) (Fm ps.length)
  rwa[Tp]at this
 rw[De,WK];constructor
 ·rintro⟨r,f,rfl⟩;exact⟨(b r).mp f,Dv ((b r).mp f)⟩
 ·rintro⟨g,h⟩;refine⟨q.1,(b _).mpr g,?_⟩;rw[Dv (pre:=[]) g,←h]
end M
namespace Own
open L2
section
variable {X:Cx}{K:ZT}
noncomputable def LM(K:ZT)(g:TE):TE:=λf H Q=>g f H λx b=>∃k,BC K x b k/\Q (.bl (!k)) b
def Zbu(q:PE X a g)(r:autoParam (X.K=K) au_0):PE X (.UnaryOp .Not a pos) (LM K g):=by
 subst r;intro pins s f H Q I h;refine UnaryOp_ (thn (q pins s f H _ I h) ?_);rintro v l ⟨x,z,w,n,p⟩;exact not_of (thn (HH pins l f z x v (λk A=>Q (.bl (!k)) A) w n p) λb B ⟨y,u,o⟩=>⟨.bl (!b),y,u,rfl,o⟩)
end
end Own
namespace Pu
open L2 Own
section
variable {K:ZT}{mg:ZX}{E:L2.St->XK}
noncomputable def Zkl(a:PTE):PTE:=λb R X=>a b (λx=>match x.d with | .lst f=>R (.sh<|.bl f.isEmpty)|_=>False) X
def Zhc(z:UX K mg E te a):UX K mg E (LM K te) (Zkl a):=by
 intro C B H o s R X Q b p q w;refine z C B H o s _ X _ b p (λx v A h n u=>?_) w;have g:=u.rp (b.grow n).same;split at h
 ·rename_i G e;rw[e]at g;obtain⟨l,f,rfl,y,r⟩:=g.lst_inv;refine⟨!f.isEmpty,.inl ⟨f,SqL.of y,rfl⟩,?_⟩;rw[Bool.not_not,BW r.len];exact q _ _ A h n (.bl _)
 ·grind
end
end Pu
namespace M
open L2 Own Pu
def Ha{o:ZV}{a b}(g:a∈o)(f:b∈o)(e:o.idxOf a=o.idxOf b):a=b:=by
 have h:o[o.idxOf a]?=some a:=by grind
 grind
theorem Lc{ws}(s:∀q∈ws,q.1≠q.2)(v:¬ ∃r,Ring B ws r):∀n f,f.length=n->(∀x∈f,x∈B)->∃o,o.Perm f/\Keeps ws o
 | 0,f,h,_=>⟨[],by rw[Q2.mp h],.nil⟩
 |n+1,f,h,g=>by
  have p:f≠[]:=λz=>by rw[z]at h;simp at h
  have hx:∃x∈f,∀y∈f,(y,x)∉ws:=Qc λz=>by
   obtain⟨r,R⟩:=ET s p λx hx=>Qc λk=>z ⟨x,hx,λy l w=>k ⟨y,l,w⟩⟩;exact v ⟨r,{R with sub:=λx hx=>g x (R.sub x hx)}⟩
  obtain⟨x,hx,l⟩:=hx;obtain⟨o,u,C⟩:=Lc s v n (f.erase x) (by grind) λz A=>g z (List.mem_of_mem_erase A);exact⟨x::o,(u.cons x).trans (List.perm_cons_erase hx).symm,QJ.mpr ⟨λb E=>l b (List.mem_of_mem_erase<|u.mem_iff.mp E),C⟩⟩
def Zm4{o:ZV}(l:ZV):(∀z∈l,z∈o)->l.Pairwise (λa b=>o.idxOf a<=o.idxOf b)->(X7 l).Pairwise λa b=>o.idxOf a<o.idxOf b:=by
 refine Tg (P:=λl=>(∀z∈l,z∈o)->l.Pairwise (λa b=>o.idxOf a<=o.idxOf b)->(X7 l).Pairwise λa b=>o.idxOf a<o.idxOf b) (λ_ _=>.nil) (λr h q f u=>?_) l;obtain⟨p,_,n⟩:=Q4.mp u;rw[B0];by_cases c:h∈X7 r
 ·grind
 ·rw[W2 c];refine Q4.mpr ⟨(q (λz s=>f z (WD.mpr<|.inl s)) p),List.pairwise_singleton _ _,λa w b v=>?_⟩;rw[Wx.mp v];have g:=((Dt r).2 a).mp w;refine Nat.lt_of_le_of_ne (n a g h<|by simp) λe=>c ?_;rw[←Ha (f a<|WD.mpr<|.inl g) (f h<|by simp) e];lia
def Zcu(Y:Field ps)(N:∀q∈A,q.1≠q.2)(U:¬ ∃r,Ring (Xc ps) A r):∃r,r.Perm (Xn 1 ps.length)/\Ti (Ky ps r) A:=by
 obtain⟨o,C,Q⟩:=Lc N U _ (Xc ps) rfl λ_ h=>h;have B:=C.nodup_iff.mpr ((Pn ps).imp (λh=>Vi h));have u:=λq hq=>C.mem_iff.mpr ((Se Y).mpr (WK.mpr ⟨q,hq,rfl⟩));obtain⟨w,H⟩:=Znj B u;generalize endsN ps o=r at w H
 have f:∀q∈Ky ps r,q.1∈o:=λq hq=>by
  obtain⟨z,n,rfl⟩:=WK.mp hq;have l:=run_mem.mp (w.mem_iff.mp n);exact u _ (G4 l.1 l.2)
 have v:(Ky ps r).Pairwise λp q=>o.idxOf p.1<=o.idxOf q.1:=by
  unfold Ky;rw[QU];refine H.imp λ{x y} h=>?_;unfold Ab rkN at h
  have h':((o.idxOf (hdN ps x):Nat):Int)<=((o.idxOf (hdN ps y):Nat):Int):=by
   rcases h with h|h
   ·lia
   ·lia
  exact Int.ofNat_le.mp h'
 refine⟨r,w,λk j T g e=>?_,λq hq=>?_⟩
 ·rw[Px (by lia),Px g]at e;rw[Px (by lia),Px g];rcases Nat.lt_or_eq_of_le (Nat.le_sub_one_of_lt T)with c|c
  ·have a1:=WY.mp v j (k-1) (by lia) (by lia) c;have a2:=WY.mp v (k-1) k (by lia) g (by lia);rw[e]at a1;exact Ha (f _<|WN _) (f _<|WN _) (by lia)
  ·subst c;exact e
 ·have G:=Zm4 ((Ky ps r).map (·.1)) (λz n=>by obtain⟨q,hq,rfl⟩:=WK.mp n;exact f q hq) (QU.mpr v);have E:=Dt ((Ky ps r).map (·.1));generalize X7 ((Ky ps r).map (·.1))=L at G E
  have s:∀z∈L,z∈o:=λz n=>by
   obtain⟨q,hq,rfl⟩:=WK.mp ((E.2 z).mp n);exact f q hq
  unfold LU;by_cases M:q.1∈L
  ·by_cases J:q.2∈L.take (L.idxOf q.1)
   ·exact absurd hq (HK ((Jq.mp G).imp λ{a b} h=>HK Q (s b h.2.1) ((Zly B<|s a h.1).mpr h.2.2)) M J)
   ·simp[J]
  ·simp[M]
end M
namespace Lam
open L2 Own
section
variable {X:Cx}{pins:ZW}{σ:L2.St}{H:Hp}{A:Around}{E:ZY}{s:Shared}{kS D:Addr}{vs:Yb}{kz:ZV}{keys:Array Value}{e e1:Nat}
def Zi3{H h a o}(x:HOk P w H h)(f:H a=none)(new:ObjOk P w (upd H a o) h a o):HOk P w (upd H a o) h:=λb u e=>by
 by_cases g:b=a
 ·subst g;rw[Xk]at e;cases e;exact new
 ·rw[Xa g]at e;exact(x b u e).stay (λc v _ q=>q) (λc q=>by rw[Xa (Xy q f)];exact q) λc xs q=>by rw[Xa (Xy q f)];exact q
variable {P:PySem.Fin->Shared->Prop}
end
end Lam
namespace ExcR
open L2
open Sem (wp)
section
variable {prog:Program}{w:World}{A:Around}{E:ZY}{h:Heap}{g:Array GenState}{d:Drawn}{t:Nat}{os:OsState}
variable {nm q:Str}{C N:Addr}{bs bm bmB:Yb}{hdct:Bool}{sn:Yc}{sub:Yb}{ab:Bool}{col:Option Bool}{dd:Yg}{k0 k1 k2 k3 k5:Yf}{B Bn newId nid initId inN:String}{bmN:Yb}
noncomputable def Pb(C t:Addr)(dx:Yg):Obj:={cls:=.ref C,dict:=dx,data:=.fields #[.ref t,.none,.none,.none,.bool false,.none]}
def Zjo(H:ExcBaseFacts Bn newId inN bmN)(u:bmB.contains (.type Bn)=true)(F:ExcBaseFacts B nid initId bmB)(T:OwnTail h bmB bm){J rest fI oI Q}(s:h.get? C=some (excClassObj nm q C N bs bm hdct sn sub ab col dd k0 k1 k2 k3 k5 newId))(U:h.Ns N J)(Y:J "__init__"=some (.ref fI))(z:h.get? fI=some oI)(y:oI.cls=.type "function")(hq:∀L e,Heap.MadeExcOf h L e (.ref C) rest->wpAny (model prog w) A (call (.ref fI) (.ref e::rest)) (λr s'=>r=.none/\Q (.done<|.ret<|.ref e) s') E ⟨L,g,d,t,os⟩)(hrest:autoParam (rest.length<=sizeLine) au_8) :
  wpAny (model prog w) A (Builtin.«type.__call__» ⟨.ref C::rest,[]⟩) Q E ⟨h,g,d,t,os⟩:=by
 repeat (first|with_reducible refine Qp s ?_|with_reducible refine wpAny_madeBy_exc s ?_|wp_step)
 refine codeAny_call_builtin_code (VQ _ H.quiet) (wpAny_check_new_subU H u T s ?_);refine codeAny_exc_new_subU H u F T s ?_ hrest;show wpAny _ _ _ _ _ _
 have k:∀b o,h.get? b=some o->((h.push {cls:=.type "tuple",data:=.seq rest.toArray}).push {cls:=.ref C,data:=.fields #[.ref h.objs.size,.none,.none,.none,.bool false,.none]}).get? b=some o:=
  λb o e=>Wz _ (Wz _ e)
 have f:=k _ _ s;have l:=k _ _ z;have p:=U.keeps k;have v:=T.keeps k
 have n:((h.push {cls:=.type "tuple",data:=.seq rest.toArray}).push
   {cls:=.ref C,data:=.fields #[.ref h.objs.size,.none,.none,.none,.bool false,.none]}).get? (h.objs.size+1)=some
   {cls:=.ref C,data:=.fields #[.ref h.objs.size,.none,.none,.none,.bool false,.none]}:=by heap_get
 have G:(Value.ref C::bm).contains (.ref C)=true:=by simp
 unfold isInstance
 repeat (first|with_reducible refine Qp n ?_|(with_reducible refine Vw f ?_;rw[G])|wp_step)
 show wpAny _ _ (typeLookup (.ref C) _) _ _ _;refine wpAny_typeLookup_tail f p v F.mroIs F.init.lookup ?_;rw[Y];refine QW (Wu ?_);unfold bindSpecial;refine Wu (wpAny_typeOf ⟨_,l,y⟩ ?_);rw[W5 (by decide)];refine Wy (Wu (Qh (hq _ (h.objs.size+1) ⟨k,Vr (Ve _),h.objs.size,n,Vr (W3 _),?_⟩) (λr s' M=>?_) λ_ _ x=>x))
 ·exact Wz _ (Heap.get?_push_at rfl rfl)
 ·obtain⟨rfl,hQ⟩:=M
  wp_walk
  exact hQ
def Zd6(x:ExcBaseFacts Bn newId inN bmN)(o:bmB.contains (.type Bn)=true)(F:ExcBaseFacts B nid initId bmB)(T:OwnTail h bmB bm){p rest fI oI Q}(b:h.get? C=some (excClassObj nm q C N bs bm hdct sn sub ab col dd k0 k1 k2 k3 k5 newId))(s:h.Ns N p)(v:p "__init__"=some (.ref fI))(n:h.get? fI=some oI)(l:oI.cls=.type "function")(hq:∀f e,Heap.MadeExcOf h f e (.ref C) rest->wpAny (model prog w) (A.under<|.builtin "type.__call__" ⟨.ref C::rest,[]⟩) (call (.ref fI) (.ref e::rest)) (λr s'=>r=.none/\Q (.ref e) s') E ⟨f,g,d,t,os⟩)(hrest:autoParam (rest.length<=sizeLine) au_8) :
  wpAny (model prog w) A (call (.ref C) rest) Q E ⟨h,g,d,t,os⟩:=by
 have f1:=tc_lookup;have z:=tc_bind (.ref C);have y:(⟨h,g,d,t,os⟩:Shared).TypeIs (.ref C) "type":=⟨_,b,rfl⟩;refine Jv (codeAny_of_tree ?_);show wpAny _ _ (callAny (.ref C) _) _ _ _
 repeat (any_goals (first|assumption|with_reducible refine Qp b ?_|wp_step))
 refine⟨rfl,?_⟩;refine codeAny_call_builtin_at (VQ _<|by decide +kernel) entry_typeCall (wpAny_check_type_call_sub b (Zjo (hrest:=hrest) x o F T b s v n l λf e u=>?_));exact hq f e u
end
section
variable {prog:Program}{w:World}{A:Around}{E:ZY}{s:Shared}{env:Env}
variable {nm q:Str}{C N:Addr}{bs bm bmB:Yb}{hdct:Bool}{sn:Yc}{sub:Yb}{ab:Bool}{col:Option Bool}{dd:Yg}{k0 k1 k2 k3 k5:Yf}{B Bn newId nid initId inN:String}{bmN:Yb}
def Zhd(f:bm.contains (.type "BaseException")=true)(r:A.handled=none)(h:wpAny (model prog w) A x (λv b=>∃e t dx,v=.ref e/\b.heap.get? C=some (excClassObj nm q C N bs bm hdct sn sub ab col dd k0 k1 k2 k3 k5 newId)/\b.heap.get? e=some (Pb C t dx)/\E (.ref e) b) E s) :
  wpAny (model prog w) A (raiseStmt env (some x) none) Q E s:=by
 have n:(Value.ref C::bm).contains (.type "BaseException")=true:=by rw[V0,f,Bool.or_true]
 unfold raiseStmt;refine Wu (Qh h (λv b l=>?_) λ_ _ x=>x);obtain⟨e,t,dx,rfl,p,o,u⟩:=l;obtain⟨z,g,d,y,os⟩:=b;unfold Pb at o
 repeat (first|with_reducible refine Qp o ?_|with_reducible refine Qp p ?_|(with_reducible refine Vw p ?_;rw[n])|wp_step)
 exact wpAny_raiseNew_none r u
def Zkv(Fn:ExcBaseFacts Bn newId inN bmN)(M:bmB.contains (.type Bn)=true)(F:ExcBaseFacts B nid initId bmB){mN x Y cpos pos args fI oI Q}(p:bm.contains (.type "BaseException")=true)(hh:A.handled=none)(n:(backTo cpos<|starEach args env).any (·.1)=false)(hi:mN "__init__"=some (.ref fI))(H:oI.cls=.type "function")
  (h:wpAny (model prog w) A (eval (.Name x Y) env) (λf o=>f=.ref C/\wpAny (model prog w) A (evalArgs (.ref C) true (backTo cpos<|starEach args env) [])
   (λa b=>a.kw=[]/\a.pos.length<=sizeLine/\b.heap.get? C=some (excClassObj nm q C N bs bm hdct sn sub ab col dd k0 k1 k2 k3 k5 newId)/\b.heap.Ns N mN/\OwnTail b.heap bmB bm/\b.heap.get? fI=some oI/\
    ∀y e,Heap.MadeExcOf b.heap y e (.ref C) a.pos->wpAny (model prog w) (A.under<|.builtin "type.__call__" ⟨.ref C::a.pos,[]⟩) (call (.ref fI) (.ref e::a.pos))
     (λr s'=>r=.none/\s'.heap.get? C=some (excClassObj nm q C N bs bm hdct sn sub ab col dd k0 k1 k2 k3 k5 newId)/\(∃t dx,s'.heap.get? e=some (Pb C t dx))/\E (.ref e) s') E {b with heap:=y}) E o) E s) :
  wpAny (model prog w) A (exec (.Raise (some<|.Call (.Name x Y) args [] cpos) none pos) env) Q E s:=by
 refine Wu (VD<|Zhd (C:=C) (nm:=nm) (q:=q) (N:=N) (bs:=bs) (hdct:=hdct) (sn:=sn) (sub:=sub) (ab:=ab) (col:=col) (dd:=dd) (k0:=k0) (k1:=k1) (k2:=k2) (k3:=k3) (k5:=k5) (newId:=newId) p hh<|Wu (Qh (wpAny_Call_ofName (Qh h (λf o l=>?_) λ_ _ x=>x)) (λv U u=>Wu (VD<|Wy u)) λ_ _ x=>x));obtain⟨rfl,l⟩:=l;refine Wu (QW (Qh l (λa b g=>Wu (VD ?_)) λ_ _ x=>x));obtain⟨apos,akw⟩:=a;obtain⟨G,hlen,hC,hn,T,J,g⟩:=g;obtain rfl:=G;simp only[n];refine Wu (wpAny_keeperOf_exc hC ?_);refine Wu (Zd6 Fn M F T hC hn hi J H λy e hm=>Qh (g y e hm) (λr s' z=>?_) λ_ _ x=>x);obtain⟨rfl,L,⟨t,dx,he⟩,hE⟩:=z;exact⟨rfl,Wu (QW<|wpAny_point<|Wy ⟨e,t,dx,rfl,L,he,hE⟩)⟩
end
end ExcR
namespace ExcR
open L2
open Sem (wp)
open Builtin Builtin.ObjectAttr
noncomputable def NB:Yb:=[.type "ValueError",.type "Exception",.type "BaseException",.type "object"]
noncomputable def Bp:Yb->Bool
 | .ref _::r=>Bp r
 |l=>l==NB
theorem GR(self:Value):∀{l:Yb},Bp l=true->refuseLoop self "__setattr__" l=pure ()
 | .ref c::r,e=>by rw[refuseLoop_ref];exact GR self e
 |[],e=>rfl
 | .type n::r,e=>by
  have:=beq_iff_eq.mp e
  rw[this];exact PySem.F.store_ValueError.passes self
theorem MW:∀{l:Yb},Bp l=true->l.contains (.type "object")=true
 | .ref c::r,e=>by rw[V0,MW (l:=r) e,Bool.or_true]
 |[],e=>by cases e
 | .type n::r,e=>by
  have:=beq_iff_eq.mp e
  rw[this];decide
structure BY (K:ZT) (C:Addr):Prop where
 po:(PySem.W.clsIn K C).any (λcd=>Bp cd.mro&&cd.hasDict)=true
 sa:PySem.W.findIn K (.ref C) "__setattr__"=some (some<|.builtin "object.__setattr__")
section
variable {prog:Program}{w:World}{A:Around}{E:ZY}{s:Shared}{K:ZT}{x C t:Addr}{name:Str}{v:Value}
def Zf6(X:K.In s.heap)(hx:s.heap.get? x=some (Pb C t none))(c:BY K C)(n:NoAttr K C name)
  (h:∀g,g.get? x=some (Pb C t<|some s.heap.objs.size)->g.Ns1 s.heap.objs.size (λy=>if y=name then some v else none)->(∀b o,b≠x->s.heap.get? b=some o->g.get? b=some o)->s.heap.objs.size<=g.objs.size->
   Q () {s with heap:=g,toks:=s.toks+2}):wpAny (model prog w) A (setAttr (.ref x) name v) Q E s:=by
 have u:=PySem.F.store_object;have J:PySem.W.InstAt s.heap x (Pb C t none) C none:=⟨hx,rfl,rfl,True.intro⟩;obtain⟨Y,T,l⟩:=V9 c.po;obtain⟨l,M⟩:=(Qd _ _▸l:_/\_);have ne:Y.mro.isEmpty=false:=by cases q:Y.mro with|nil=>rw[q]at l;cases l|cons _ _=>rfl
 have sub:PySem.W.Looks (model prog w) s.heap (isInstance (.ref x)<|.type "object") true:=J.type.andThen (PySem.W.looks_mroIn X<|by unfold PySem.W.mroIn;rw[T,Option.bind_some,W2 (by rw[ne];decide),MW l]);have hm:PySem.W.Looks (model prog w) s.heap (mroOf<|.ref C) Y.mro:=(J4 X T).andThen .now;refine PySem.W.set_plain X J c.sa (Vs u.slot.plain u.entry (@PySem.W.check_slot (model prog w) _ _ {s with toks:=s.toks+1} "object.__setattr__" "object" "__setattr__" (.ref x) [.str name s.toks,v] [] _ u.kind u.split sub (u.args (.ref x) (.str name s.toks) v) ?_))
 rw[PySem.W.osa_eq,refuse_eq];refine Wu (Wu<|J.type.here (s:={s with toks:=s.toks+1})<|Wu<|hm.here (s:={s with toks:=s.toks+1}) ?_)
 rw[GR _ l];refine Wy (Wu<|J.type.here (s:={s with toks:=s.toks+1})<|Wu<|JD (Q3 X n)<|Wu<|Wy ?_)
 refine Wu (Wy<|Wu<|Wu<|wpAny_loadPart hx<|Wu<|JD (J4 X T) ?_);rw[M];have f:(s.heap.push {cls:=.type "dict",data:=.dict #[]}).get? x=some (Pb C t none):=Wz _ hx;have p:=WS (W8 hx);refine Wu (wpAny_alloc' ?_);refine Wu (wpAny_update' f ?_);refine Wy ?_
 have H:((s.heap.push {cls:=.type "dict",data:=.dict #[]}).update x λo=>{cls:=o.cls,dict:=some s.heap.objs.size,data:=o.data,slots:=o.slots}).get? s.heap.objs.size
   = some {cls:=.type "dict",data:=.dict #[]}:=
  (Heap.get?_update_ne _ _ _ _ p.symm).trans (Heap.get?_push_at rfl rfl)
 have G:((s.heap.push {cls:=.type "dict",data:=.dict #[]}).update x λo=>{cls:=o.cls,dict:=some s.heap.objs.size,data:=o.data,slots:=o.slots}).Ns s.heap.objs.size (λ_=>none):=
  ⟨_,#[],_,H,rfl,λe he=>absurd he (by simp),λ_=>rfl⟩
 refine Wu (Wy<|Wu (wpAny_nsSet1 (Heap.Ns1.of_empty G) λg r z=>?_));obtain⟨oD,esD,epD,B,L,N⟩:=r.count (Within.cons name v Within.nil);refine Wu (wpAny_lookBehind B (by rw[L];exact pastItsLine_dict (W9 N<|by rw[WW,List.length_nil,JA];lia)) ?_);refine Wy (h g ?_ r (λb ob U hb=>?_) ?_)
 ·refine(z.2 x p).trans (Qq _ f rfl)
 ·exact(z.2 b<|WS<|W8 hb).trans ((Heap.get?_update_ne _ _ _ _ U).trans (Wz _ hb))
 ·rw[z.1,Heap.size_update,V5];exact Ve _
end
end ExcR
namespace ExcR
open L2
open Sem (wp)
open Builtin Builtin.ObjectAttr
section
variable {prog:Program}{w:World}{A:Around}{E:ZY}{h:Heap}{g:Array GenState}{d:Drawn}{t:Nat}{os:OsState}{a C dx:Addr}{o:Obj}{K:ZT}{name:Str}{v:Value}{mA:ZX}
def Zek(k:K.In h)(n:PySem.W.hasDictIn K C=true)(hx:h.get? a=some o)(q:o.cls=.ref C)(hd:o.dict=some dx)(f:PySem.W.notCls o=true)(ns:h.Ns1 dx mA)(r:mA name=some v) :
  PySem.W.Looks (model prog w) h (inOwnDict name<|.ref a) (some v):=by
 obtain⟨od,l,s⟩:=HR ns;obtain⟨u,b,p⟩:=V9 n;refine PySem.W.looks_own k (od:=some od) ⟨hx,q,f,by rw[hd];exact l⟩ b ?_;unfold PySem.W.ownOf
 grind
def RA{Q}(k:K.In h)(p:PySem.W.hasDictIn K C=true)(n:NoAttr K C name)(hx:h.get? a=some o)(b:o.cls=.ref C)(hd:o.dict=some dx)(f:PySem.W.notCls o=true)(ns:h.Ns1 dx mA)(l:mA name=some v)(hq:Q (.done<|.ret v) ⟨h,g,d,t,os⟩):wpAny (model prog w) A (Builtin.«object.__getattribute__» ⟨[.ref a,.str name q],[]⟩) Q E ⟨h,g,d,t,os⟩:=by
 have L:=Q3 (M:=model prog w) k n
 repeat (any_goals (first|assumption|(with_reducible refine Qp hx ?_;rw[b])|with_reducible refine L.at ?_|with_reducible refine(Zek (prog:=prog) (w:=w) k p hx b hd f ns l).at ?_|wp_step))
def Zft{fill expr Q}(k:K.In h)(z:PySem.W.findIn K (.ref C) "__getattribute__"=some (some<|.builtin "BaseException.__getattribute__"))(y:PySem.W.findIn K (.ref C) "__getattr__"=some none)(B:∀{A E t u} {Q:Unit->Shared->Prop},Q () ⟨h,g,d,t,os⟩->wpAny (model prog w) A (checkBuiltinCall "BaseException.__getattribute__" ⟨[.ref a,u],[]⟩) Q E ⟨h,g,d,t,os⟩)(x:PySem.W.hasDictIn K C=true)(n:NoAttr K C name)(hx:h.get? a=some o)(l:o.cls=.ref C)(hd:o.dict=some dx)(q:PySem.W.notCls o=true)(ns:h.Ns1 dx mA)(s:mA name=some v)(f:PySem.W.handedIn v=true)(hq:Q v ⟨h,g,d,t,os⟩):wpAny (model prog w) A (getAttrBy (.ref a) (.str name H) fill expr) Q E ⟨h,g,d,t,os⟩:=by
 have f0:=F.attrBase_ValueError.ga.bind (.ref a);have r:(expr&&onTheHeap (Value.builtin "BaseException.__getattribute__"))=false:=by cases expr<;>rfl
 have p:(Value.builtin "BaseException.__getattribute__" == Value.builtin "object.__getattribute__")=false:=by decide +kernel
 have G:(onTheHeap (Value.ref C)&&Value.builtin "BaseException.__getattribute__" == Value.builtin "object.__getattribute__")=false:=by rw[p];rfl
 have L:=Q3 (M:=model prog w) k z;have L2:=Q3 (M:=model prog w) k y
 repeat (any_goals (first|assumption|(with_reducible refine Qp hx ?_;rw[l])|with_reducible refine L.at ?_|with_reducible refine L2.at ?_|wp_step))
 refine Vs F.attrBase_ValueError.ga.plain F.entry_bexc_ga (B<|RA k x n hx l hd q ns s ?_);have b:=PySem.W.handedOut_of f;unfold handedOut at b
 repeat (any_goals (first|assumption|rw[b]|wp_step))
def Zhn{Q}(k:K.In h)(s:PySem.W.findIn K (.ref C) "__getattribute__"=some (some<|.builtin "BaseException.__getattribute__"))(r:PySem.W.findIn K (.ref C) "__getattr__"=some none)(x:∀{A E t u} {Q:Unit->Shared->Prop},Q () ⟨h,g,d,t,os⟩->wpAny (model prog w) A (checkBuiltinCall "BaseException.__getattribute__" ⟨[.ref a,u],[]⟩) Q E ⟨h,g,d,t,os⟩)(p:PySem.W.hasDictIn K C=true)(n:NoAttr K C name)(hx:h.get? a=some o)(q:o.cls=.ref C)(hd:o.dict=some dx)(f:PySem.W.notCls o=true)(ns:h.Ns1 dx mA)(l:mA name=some v)(b:PySem.W.handedIn v=true)(hq:Q v ⟨h,g,d,t+1,os⟩):wpAny (model prog w) A (getAttr (.ref a) name expr) Q E ⟨h,g,d,t,os⟩:=by
 repeat (any_goals (first|assumption|with_reducible apply Zft k s r x p n hx q hd f ns l b|wp_step))
end
end ExcR
namespace ExcR
open L2
section
variable {X:Cx}{pins:ZW}{σ:L2.St}{H:Hp}{s:Shared}{a b:Addr}
def Oz(I:Inv X pins σ H s)(n:H b=none)(E:b≠X.env.locals)(C:∀x c,X.env.cells.lookup x=some c->c≠b)(B:∀p∈X.pn++pins,p.1≠b)(A:∀c u,X.s₀.heap.get? c=some u->c≠b)(new:ObjOk X.prog X.w (upd H b o) s.heap b o):Inv X pins σ (upd H b o) s:=by
 refine⟨I.ok,I.os,I.bare,⟨λc u g h f r=>I.base.keep c u g h f r,λc u g h f r=>I.base.slot c u g h f r,λc u g h f=>?_,I.base.there,λc y g=>?_,λc u v g=>?_,λc z g=>?_⟩,I.loc,I.cell,?_,λx c g=>?_,λp l=>?_,?_,I.len⟩
 ·rw[Xa (A c u g)];exact I.base.free c u g h f
 ·rw[Xa (Xy (I.base.tups c y g) n)];exact I.base.tups c y g
 ·rw[Xa (Xy (I.base.frzs c u v g) n)];exact I.base.frzs c u v g
 ·obtain⟨m,q⟩:=I.base.tbls c z g;exact⟨m,by rw[Xa (Xy q n)];exact q⟩
 ·rw[Xa (Ne.symm E)];exact I.free
 ·rw[Xa (C x c g)];exact I.freeC x c g
 ·obtain⟨a1,a2,a3,a4,a5⟩:=I.pin p l;exact⟨a1,by rw[Xa (B p l)];exact a2,a3,a4,a5⟩
 ·exact Lam.Zi3 I.hok n new
def Zkr(I:Inv X pins σ H s)(hex:X.ex=[])(h:s.heap.get? b=none)(k:∀c u,s.heap.get? c=some u->l.get? c=some u)(new:ObjOk X.prog X.w (upd H b o) l b o) :
  Inv X pins σ (upd H b o) {s with heap:=l,toks:=t'}:=by
 have g:∀{c u},s.heap.get? c=some u->c≠b:=λ{c u} e z=>by rw[z,h]at e;cases e
 refine Oz (I.kept k) (CN I.hok h) ?_ (λx c e=>?_) (λp n=>g (I.pin p n).1) (λc u e=>?_) new
 ·obtain⟨m,⟨o1,r,y,f,_⟩,_⟩:=I.loc
  grind
 ·obtain⟨v,o1,f,_⟩:=I.cell x c e
  grind
 ·obtain⟨q,f⟩:=I.base.there c u e (by grind);exact g f
noncomputable def er(H:Hp)(a:Addr):Hp:=λb=>if b=a then none else H b
def Fh:er H a a=none:=by unfold er;rw[W5 rfl]
def Tn(h:b≠a):er H a b=H b:=by unfold er;rw[W2 h]
def Zey(h:er H a b=some o):H b=some o:=by
 by_cases z:b=a
 ·rw[z,Fh]at h;cases h
 ·rw[Tn z]at h;exact h
def forget(I:Inv X pins σ H s)(G:H a=some (.ext φ)):Inv X pins σ (er H a) s:=by
 have f:∀{c o},H c=some o->(∀B,o≠HO.ext B)->c≠a:=λ{c o} e n z=>by rw[z,G]at e;exact n _ (WL e).symm
 have r:∀{c},H c=none->er H a c=none:=λ{c} e=>by
  by_cases z:c=a
  ·rw[z];exact Fh
  ·rw[Tn z];exact e
 refine⟨I.ok,I.os,I.bare,⟨λc u g l h y=>I.base.keep c u g l h y,λc u g l h y=>I.base.slot c u g l h y,λc u g l h=>r (I.base.free c u g l h),I.base.there,λc C g=>?_,λc u v g=>?_,λc E g=>?_⟩,I.loc,I.cell,r I.free,λx c g=>r (I.freeC x c g),λp A=>?_,λc o e=>?_,I.len⟩
 ·have q:=I.base.tups c C g;rw[Tn (f q λ_ z=>nomatch z)];exact q
 ·have q:=I.base.frzs c u v g;rw[Tn (f q λ_ z=>nomatch z)];exact q
 ·obtain⟨m,q⟩:=I.base.tbls c E g;exact⟨m,by rw[Tn (f q λ_ z=>nomatch z)];exact q⟩
 ·obtain⟨a1,a2,a3,a4,a5⟩:=I.pin p A
  grind
 ·refine(I.hok c o<|Zey e).stay (λ_ _ _ z=>z) (λd z=>?_) λd xs z=>?_
  ·rw[Tn (f z λ_ w=>nomatch w)];exact z
  ·rw[Tn (f z λ_ w=>nomatch w)];exact z
end
def Zl1(K:ZT)(C f:Addr):Prop:=∃(q:Yg) (b:ClassData) (sl:Array (Yf)) (g:Yb) (p o n l h:Yf),K.lookup C=some ⟨.type "type",q,.cls b,sl⟩/\b.mro=.ref C::g/\
 sl.toList=[p,o,n,l,some (.builtin "ValueError.__new__"),h]/\b.hasDel=false/\PySem.W.tailIn K NB g=true/\PySem.W.nsOkIn K b.ns=true/\PySem.W.nsIn K b.ns "__init__"=some (some<|.ref f)
def Zaj{K h N b n v}(X:K.In h)(G:h.Ns N b)(e:PySem.W.nsIn K N n=some (some v)):b n=some v:=by
 obtain⟨o,s,u,p,hd,_,f⟩:=G;unfold PySem.W.nsIn at e;split at e
 ·rename_i c d g l sl q
  have:=X _ _ q
  split at e
  ·rename_i w r;rw[←f];unfold nsFind findBy
   grind
  ·grind
 ·cases e
structure Kh (K:ZT) (C f:Addr):Prop where
 q:Zl1 K C f
 fn:PySem.W.typeIn K (.ref f)=some (.type "function")
 st:BY K C
 ga:PySem.W.findIn K (.ref C) "__getattribute__"=some (some<|.builtin "BaseException.__getattribute__")
 gt:PySem.W.findIn K (.ref C) "__getattr__"=some none
 nm:NoAttr K C "members"
 cl:PySem.W.findIn K (.ref C) "__class__"=some (some<|.builtin "object.__class__")
def Kh.hd {K C f} (c:Kh K C f):PySem.W.hasDictIn K C=true:=by
 obtain⟨h,g,b⟩:=V9 c.st.po;unfold PySem.W.hasDictIn
 grind
def Kh.obj {K C f h} (c:Kh K C f) (k:K.In h):∃bm N nm q bs hdct sn sub ab col dd k0 k1 k2 k3 k5 l,h.get? C=some (excClassObj nm q C N bs bm hdct sn sub ab col dd k0 k1 k2 k3 k5 "ValueError.__new__")/\h.Ns N l/\l "__init__"=some (.ref f)/\
  OwnTail h NB bm:=by
 obtain⟨dd,z,sl,bm,k0,k1,k2,k3,k5,w,n,A,r,x,g,p⟩:=c.q;have o:=k _ _ w;cases z with
 |mk nm bs v u s hd sn sub ab col y=>
  simp only at n r g p;have b:sl=#[k0,k1,k2,k3,some (.builtin "ValueError.__new__"),k5]:=by grind
  rw[n,r,b]at o;exact⟨bm,u,nm,s,bs,hd,sn,sub,ab,col,dd,k0,k1,k2,k3,k5,_,o,.of_isNs (JG k g),Zaj k (.of_isNs<|JG k g) p,PySem.W.tail_of_in k x⟩
def Kh.any {K C f} (c:Kh K C f):KJ K C:=
 ⟨λk=>by
  obtain⟨z,N,l,q,bs,b,h,sub,A,g,y,s,r,p,o,n,B,w,E,u,v⟩:=c.obj k
  exact⟨z,N,l,q,bs,b,h,sub,A,g,y,s,r,p,o,n,w,v⟩,c.ga,c.gt,c.cl,by
   obtain⟨G,x,_⟩:=V9 c.st.po;rw[x];rfl⟩
noncomputable def KD(a C t:Addr)(dx:Yg):HO:=.ext λh=>h.get? a=some (Pb C t dx)
def Ow{a C t dx}(e:h.get? a=some (Pb C t dx)):ObjOk P w H h a (KD a C t dx):=⟨e,⟨_,e⟩,λ_ _ q k=>k _ q⟩
noncomputable def HU(K:ZT)(f:Str)(n te:TE):TS:=λD g H=>te g H λy o=>n g o λx b=>∃a C t l xs,x=.ref a/\y=.ref l/\b a=some (KD a C t none)/\BY K C/\NoAttr K C f/\b l=some (.lst xs)/\
 ∀h,b h=none->D.nx g (upd (upd b a<|KD a C t<|some h) h<|.xd [(f,.ref l)])
def Zbx{X:Cx}{o value:Expr}{f:Str}{pos r:Pos}{N M:TE}(ha:PE X o N)(hv:PE X value M)(hs:swapsWith value (some<|.Attribute o f r) pos.line X.env=pure false):PS X (.Assign [.Attribute o f r] value pos) (HU X.K f N M):=by
 intro pins s B H D I h;refine plainObj_wpAny_Assign_Attribute (thn (hv pins s B H _ I h) ?_) hs;rintro u T ⟨y,H1,I1,U,q⟩;refine thn (ha pins T B H1 _ I1 q) ?_;rintro ov p ⟨x,E,v,Y,a,C,t,l,xs,ex,ey,L,c,n,hl,q2⟩;subst ex ey;obtain rfl:ov=Value.ref a:=Y;obtain rfl:u=Value.ref l:=U;have hg:p.heap.get? a=some (Pb C t none):=(show ObjOk X.prog X.w E p.heap a (KD a C t none)from v.hok a _ L).1
 have J:E p.heap.objs.size=none:=v.hok.fresh (W3 _);have G:p.heap.objs.size≠a:=Xy L J |>.symm
 refine Zf6 v.kIn hg c n λh' Q h2 h3 h4=>?_;have f0:=v.fpOk (H':=upd E a (KD a C t<|some p.heap.objs.size)) (W3 _) (by rw[Xa G];exact J)
 have I4:Inv X pins B (upd E a<|KD a C t<|some p.heap.objs.size) {p with heap:=h',toks:=p.toks+2}:=
  v.write (x:=a) (e:=a) (by rw[L];exact True.intro) (.inl rfl) (λb q A z=>h3 b q A z) ⟨_,Q⟩ (Ow Q)
 have I5:=Oz (o:=.xd [(f,.ref l)]) I4 f0.1 f0.2.1 f0.2.2.2.2.1 f0.2.2.2.2.2 (λc u e z=>by
  have:=W8 e
  rw[z]at this
  exact absurd (WZ this v.sz) (QE _)) ⟨_,h2,λg=>by
   show RelO (List.lookup g [(f,V.ref l)]) (if g=f then some (Value.ref l)else none);by_cases A:g=f
   ·subst A;rw[W5 rfl];simp only[List.lookup,beq_self_eq_true];exact rfl
   ·rw[W2 A];simp only[List.lookup,Va.mpr A];exact True.intro⟩
 exact⟨B,_,I5,q2 _ J⟩
noncomputable def Ox(K:ZT)(f:Str)(n:TE):TE:=λl H Q=>n l H λx b=>∃a C g h fs v,x=.ref a/\b a=some (Km a C<|some h)/\Kh K C g/\NoAttr K C f/\b h=some (.xd fs)/\fs.lookup f=some v/\Q v b
def Zn9{h g d t os a C f o K v Q}(k:K.In h)(G:Kh K C f)(hx:h.get? a=some o)(r:o.cls=.ref C)(hq:Q () ⟨h,g,d,t,os⟩) :
  wpAny (model prog w) A (checkBuiltinCall "BaseException.__getattribute__" ⟨[.ref a,v],[]⟩) Q E ⟨h,g,d,t,os⟩:=by
 obtain⟨B,N,J,q,bs,n,H,sub,ab,z,dd,k0,Y,U,T,M,L,u,hN,p,s⟩:=G.obj k;have l:(Value.ref C::B).contains (.type "BaseException")=true:=by rw[V0,s.hasType (b:=true) (by decide +kernel)];rfl
 have y:builtinKind "BaseException.__getattribute__"=some .slot:=by decide +kernel
 have x:splitId "BaseException.__getattribute__"=some ("BaseException","__getattribute__"):=by decide +kernel
 have e3:=F.args_bexc_ga (.ref a) v;simp only[checkBuiltinCall,y,x];refine Wu ?_;unfold isInstance
 repeat (first|(with_reducible refine Qp hx ?_;rw[r])|(with_reducible refine Vw u ?_;rw[l])|wp_step)
 exact hq
def Zgf{ta}(J:PE X e ta)(L:attributeBase e f X.env (eval e X.env)=eval e X.env):PE X (.Attribute e f pos) (Ox X.K f ta):=by
 intro pins s A H Q I h;refine Hh L (thn (J pins s A H _ I h) ?_);rintro u s1 ⟨x,U,p,B,a,C,g,T,fs,v,ex,N,c,n,hd,l,q⟩;subst ex;obtain rfl:=B;obtain⟨⟨o,z,y,Y,M⟩,_⟩:=(p.hok a _ N);obtain⟨mA,G,E⟩:=(p.hok T _ hd);obtain⟨w,hw,b⟩:=RelO.some_of (by rw[←l];exact E f);have r:=Qs Prod.fst y;refine Zhn p.kIn c.ga c.gt (λhq=>Zn9 p.kIn c z r hq) c.hd n z r (Qs Prod.snd y) (by unfold PySem.W.notCls;rw[M]) G hw (Ma b) ⟨v,U,p.tok _,b,q⟩
def DX(X:Cx)(E:XK):Prop:=∀(pins:ZW) (f:L2.St) (H:Hp) (s:Shared) (C a t:Addr) (b:Yg),Inv X pins f H s->s.heap.get? a=some (Pb C t b)->H a=none->X.s₀.heap.get? a=none->E (.ref C) b H->X.xe (.ref a) s
noncomputable def S8(K:ZT):Sp:=λf H Q _=>∃(a C t p:Addr) (xs:List V),f=[.ref a,.ref p]/\H a=some (KD a C t none)/\SqL K H p xs/\BY K C/\NoAttr K C "members"/\
 ∀l b:Addr,H l=none->H b=none->b≠l->Q .non (upd (upd (upd H l<|.lst xs) a<|KD a C t<|some b) b<|.xd [("members",.ref l)])
noncomputable def LI(K:ZT)(C:Addr)(E:XK)(t:TA):TS:=λ_ g H=>t g H λh f=>∃(p:Addr) (xs:List V),h=[.ref p]/\SqL K f p xs/\
 ∀l b:Addr,f l=none->f b=none->b≠l->E (.ref C) (some b) (upd (upd f l<|.lst xs) b<|.xd [("members",.ref l)])
def Zg6{a l dx o0 o1 F D}(g:H a=none)(f:l≠a)(hd:dx≠a):er (upd (upd (upd (upd H a o0) l F) a o1) dx D) a=upd (upd H l F) dx D:=by
 funext b;by_cases z:b=a
 ·subst z;rw[Fh,Xa (Ne.symm hd),Xa (Ne.symm f),g]
 ·rw[Tn z];by_cases y:b=dx
  ·rw[y,Xk,Xk]
  ·rw[Xa y,Xa y,Xa z];by_cases x:b=l
   ·rw[x,Xk,Xk]
   ·rw[Xa x,Xa x,Xa z]
section
variable {X:Cx}{x:Str}{C:Addr}{E:XK}{e:Expr}{t:TA}{p cpos pos:Pos}{k:Nat}{ps:Yc}
def Zn7(Ci:Pu.KB X.prog X.w X.K X.mg X.base CX0 k (Kh X.K C) ps (S8 X.K))(hr:Xh (k+1) X.A)(hm:X.mg x=some (.ref C))(hR:DX X E)(hex:X.ex=[])(hc:X.calm=true)(ha:PA X [e] t)(hg:autoParam (Gl X x) au_0)(hdb:autoParam ((x==("__debug__" : Str))=false) au_1)(he:autoParam (starEach [e] X.env=[(false,eval e X.env)]) au_0):PS X (.Raise (some<|.Call (.Name x p) [e] [] cpos) none pos) (LI X.K C E t):=by
 obtain⟨f,fd,F,G,hb⟩:=Ci.ex;intro pins s σ H D I h;obtain⟨bm,N,nm,q,bs,hdct,sn,sub,ab,col,dd,k0,k1,k2,k3,k5,mN,hC,hN,Y,hT⟩:=G.obj I.ok.mod.kin;obtain⟨oI,U,hcI⟩:=Option.map_eq_some_iff.mp G.fn
 have T:(backTo cpos<|starEach [e] X.env).any (·.1)=false:=by
  rw[he];rfl
 refine Zkv (C:=C) (nm:=nm) (q:=q) (N:=N) (bs:=bs) (bm:=bm) (hdct:=hdct) (sn:=sn) (sub:=sub) (ab:=ab) (col:=col) (dd:=dd) (k0:=k0) (k1:=k1) (k2:=k2) (k3:=k3) (k5:=k5) (oI:=oI)
  Vo (by decide +kernel) Vo (hT.hasType<|by decide +kernel) (I.ok.hd hc) T Y hcI (Ng I hg hm ⟨rfl,?_⟩ hdb)
 have hA:=ha cpos pins s σ H _ I h;rw[he]at hA ⊢;refine Jw (thn hA ?_);rintro us s2 ⟨vs,J,o,r2,p2,xs,ev,hp,q2⟩;subst ev;obtain⟨u,rfl,ru⟩:=r2.one;obtain rfl:u=Value.ref p2:=ru;refine⟨rfl,by show 1<=_;rw[JA];lia,o.bk _ _ hC,hN.keeps o.bk,hT.keeps o.bk,o.bk _ _ (I.ok.mod.kin _ _ U),λh' a g=>?_⟩;obtain⟨n,ht,_,_⟩:=g.there;have na:J a=none:=CN o.hok g.new;have I3:=Zkr (t':=s2.toks) o hex g.new g.keeps (Ow (C:=C) (t:=n) (dx:=none) ht)
 have y:S8 X.K [.ref a,.ref p2] (upd J a<|KD a C n none) (λv H3=>v=.non/\∃l dx,J l=none/\J dx=none/\dx≠l/\l≠a/\dx≠a/\H3=upd (upd (upd (upd J a<|KD a C n none) l<|.lst xs) a<|KD a C n<|some dx) dx (.xd [("members",.ref l)])) (λ_ _ _=>False):=by
  refine⟨a,C,n,p2,xs,rfl,Xk,(Own.X4 na).seq hp,G.st,G.nm,λl dx M L h3=>⟨rfl,l,dx,?_⟩⟩;have e1:l≠a:=λz=>by rw[z,Xk]at M;cases M
  have e2:dx≠a:=λz=>by rw[z,Xk]at L;cases L
  rw[Xa e1]at M;rw[Xa e2]at L;exact⟨M,L,h3,e1,e2,rfl⟩
 have r3:Vals [V.ref a,V.ref p2] [Value.ref a,Value.ref p2]:=.cons rfl (.cons rfl .nil)
 have hl:([Value.ref a,Value.ref p2]++[]).length=ps.length:=by
  have:=F.len _ _ _ _ y
  exact this
 refine Jv (Vh (F.run _ X.stack _ _ ⟨[Value.ref a,Value.ref p2],[]⟩ [Value.ref a,Value.ref p2] _ _ (λ_ _ _=>False) (hr.make C [.ref p2] []) (I3.env0.make C [.ref p2] []) (hb _ [Value.ref a,Value.ref p2] I3.kIn hl) r3 y) λr Q b=>?_);cases r with
 |error e=>exact False.elim b
 |ok fl=>
  cases fl with
  |ret u=>
   obtain⟨v,H',I4,rv,ev,l,dx,n1,n2,n3,n4,n5,eH⟩:=I3.after b;subst ev;obtain rfl:u=Value.none:=rv;have ea:H' a=some (KD a C n<|some dx):=by rw[eH,Xa (Ne.symm n5),Xk]
   have B:Q.heap.get? a=some (Pb C n<|some dx):=(show ObjOk X.prog X.w H' Q.heap a (KD a C n<|some dx)from I4.hok a _ ea).1
   refine⟨rfl,I4.bk _ _ hC,⟨n,some dx,B⟩,hR pins σ (er H' a) Q C a n (some dx) (forget I4 ea) B Fh (Ba o hex g.new) ?_⟩;rw[eH,Zg6 na n4 n5];exact q2 l dx n1 n2 n3
  |next=>exact False.elim b
  |brk=>exact False.elim b
  |cont=>exact False.elim b
def Zak{K g base N qual scope f cd A outer s H E} :
  DX (X6 (CXe P w) P w K g base N qual scope f cd A outer s H E) E:=by
 intro pins u r B C a t n I h l b q;exact Qh (EC I rfl rfl rfl b l h rfl rfl rfl rfl) (λ_ v ⟨o,y⟩=>⟨a,o,C,n,r,rfl,y,q⟩) λ_ _ z=>z
def Zm3{K:ZT}{vs:List V}{H:Hp}{Q:VK}{E:XK}{D:Ends}(h:S8 K vs H Q E)(v:D.nx=λ_ H'=>Q .non H') :
  HU K "members" (KH 0) (tCB (λxs H Q=>∃p f,xs=[.ref p]/\(SqL K H p f\/SqT K H p f)/\∀l,H l=none->Q (.ref l) (upd H l<|.lst f))<|XN (KH 1) Kt) D (start ["self","members"] vs) H:=by
 obtain⟨a,C,t,p,xs,rfl,o,u,c,n,q⟩:=h;refine⟨_,rfl,p,xs,rfl,.inl u,λl g=>⟨_,rfl,a,C,t,l,xs,rfl,rfl,?_,c,n,Xk,λs b=>?_⟩⟩
 ·rw[Xa (Xy o g)];exact o
 ·have r:s≠l:=λz=>by rw[z,Xk]at b;cases b
  rw[Xa r]at b;rw[v];exact q l s g b r
end
end ExcR
namespace Pu
open L2 Own M
section
variable {K:ZT}{mg:ZX}{E:L2.St->XK}{H0 H H1 H':Hp}{B Z Z':Addr->Prop}{σ:L2.St}{γ:Γ}
theorem MQ:∀{ns:ZV}{vs:List V},Rps K H (ns.map D.int) vs->vs=ns.map V.int
 |[],_,h=>by cases h;rfl
 |n::ns,_,h=>by
  cases h with
  |cons h r=>rw[MQ r,h.int_inv];rfl
noncomputable def Zkd(r:PTA):PTS:=λR γ=>r γ (λf=>match f with
 |[s]=>(∃b:ZV,s.d=.lst (b.map D.int)/\R.ex γ (T3 b))
 |_=>False) (R.ex γ)
def Zn3{Ec}(L:Xq K mg (λ_=>Ec) x r):Xl K mg (λ_=>Ec) (ExcR.LI K (ExcR.Xe mg "Ringed") Ec x) (Zkd r):=by
 intro H0 B H σ γ R D U b h e;refine L H0 B H σ γ _ _ _ b h (λT u H1 o f y=>?_) λc H' M q=>e.ex σ γ c H' M (b.grow q) (Fr.grow q);split at o
 ·rename_i s;obtain⟨A,Q,N⟩:=o;obtain⟨v,rfl,w⟩:=y.one_inv;have g:=w.rp (b.grow f).same;rw[Q]at g;obtain⟨p,u,rfl,n,z⟩:=g.lst_inv;rw[MQ z]at n;exact⟨p,_,rfl,SqL.of n,λl Y C J G=>(e.ex σ γ (T3 A) H1 N (b.grow f)<|Fr.grow f).mem J C G⟩
 ·grind
def Lb{l dx:Addr}{r:ZV}(g:H dx=none)(b:H l=none)(f:dx≠l):Same H (upd (upd H l<|.lst<|r.map V.int) dx<|.xd [("members",.ref l)]):=(X4 b).trans (X4<|by rw[Xa f];exact g)
def Znl{a l dx C:Addr}{r:ZV}(x:∀b,Z b->Mut (H b))(s:H dx=none)(q:H l=none)(n:dx≠l)(p:upd (upd H l<|.lst<|r.map V.int) dx (.xd [("members",.ref l)]) a=none) :
  Rp K (off Z<|upd (upd (upd H l<|.lst<|r.map V.int) dx<|.xd [("members",.ref l)]) a<|ExcR.Km a C<|some dx) (.erM C r) (.ref a)/\
  TV K Z H0 H (upd (upd (upd H l<|.lst<|r.map V.int) dx<|.xd [("members",.ref l)]) a<|ExcR.Km a C<|some dx) (.own<|.er l C r) (.ref a):=by
 have f:∀b,H b=none->¬Z b:=λb h z=>by have:=x b z;rw[h]at this;exact this
 have w:=X4 (o:=ExcR.Km a C (some dx)) p;have v:=w _ _ Xk;have u:=w _ _ (show upd (upd H l<|.lst<|r.map V.int) dx (.xd [("members",.ref l)]) l=_ by rw[Xa (Ne.symm n)];exact Xk);have g:=(Lb (r:=r) s q n).free p;have A:a≠l:=λz=>by rw[z,Xa (Ne.symm n),Xk]at p;cases p
 refine⟨.erM (X8 Xk<|f a g) (X8 v<|f dx s) (X8 u<|f l q),a,rfl,λb y=>by rw[show b=l from y];exact q,dx,X8 Xk λz=>z.elim (f a g) A,X8 v λz=>z.elim (f dx s) n,u⟩
noncomputable def Zbg(mg:ZX)(i:Nat)(h f:PTS):PTS:=λR γ=>h {R with ex:=λb c=>∃r,c=T3 r/\∀l,f {nx:=λg=>R.nx (g.set i none),rt:=R.rt,ex:=λ_ _=>False,bk:=λg=>R.bk (g.set i none),ct:=λg=>R.ct (g.set i none),rv:=R.rv} (b.set i<|some<|.own<|.er l (ExcR.Xe mg "Ringed") r)} γ
def Zh5{C0}{A:Ends->TS}{ts}{J G}{E'}(x:PySem.W.exmOne K (.ref<|ExcR.Xe mg "Ringed") (.ref C0)=some true)(hb:∀D,Xl K mg (ExcR.hx K C0 i ts D) (A D) J)(hh:Xl K mg E' ts G):Xl K mg E (λD σ H=>A D D σ H) (Zbg mg i J G):=by
 intro H0 B H σ γ R D T y h e;refine hb D H0 B H σ γ _ D T y h ⟨e.nx,e.rt,λY γ' c H' hc U f'=>?_,e.bk,e.ct,e.rv⟩;obtain⟨r,rfl,hp⟩:=hc;refine .ofM λdx l N L M=>⟨_,rfl,x,λa Q=>?_⟩;have S0:=Lb (r:=r) N L M;obtain⟨_,tv⟩:=Znl (K:=K) (H0:=H0) (C:=ExcR.Xe mg "Ringed") U.zm N L M Q;obtain⟨e2,f2⟩:=U.set (i:=i) (s:=.own (.er l (ExcR.Xe mg "Ringed") r)) (s':=.own (.er l (ExcR.Xe mg "Ringed") r)) (v:=.ref a) (S0.trans<|X4 Q) tv rfl;have g:=f'.trans f2;refine hh H0 B _ _ _ _ _ T e2 (hp l) ⟨λb f q n p o=>?_,e.rt,λ_ _ _ _ z=>z.elim,λb f q n p o=>?_,λb f q n p o=>?_,λb f d v q n p o=>e.rv b f d v q n p (g.trans o)⟩
 ·obtain⟨w,u⟩:=p.gone i;exact e.nx _ _ q n w (g.trans<|o.trans u)
 ·obtain⟨w,u⟩:=p.gone i;exact e.bk _ _ q n w (g.trans<|o.trans u)
 ·obtain⟨w,u⟩:=p.gone i;exact e.ct _ _ q n w (g.trans<|o.trans u)
end
end Pu
namespace Pu
open L2 Own
structure RI (K:ZT) (x:Str) (C:Addr) (q:Str) (st:Stmt):Prop where
 a:PySem.W.nsIn K mainGlobals x=some (some<|.ref C)
 ex:∃f fd,ExcR.Kh K C f/\Fun K "__init__" q st f fd
section
variable {K:ZT}{h:Heap}{mg:ZX}{x q:Str}{st:Stmt}{C M N f:Addr}
def Zgu{cd:ClassData}(m:PySem.W.excIn K M ExcR.NB "ValueError.__new__"=true):PySem.W.tailIn K ExcR.NB (.ref M::ExcR.NB)=true:=by
 unfold PySem.W.excIn at m;split at m
 next z cd sl b=>
  split at m
  next B A u s r p n o w v=>
   simp only[Qd,beq_iff_eq,QV]at m;obtain⟨⟨⟨_,y⟩,l⟩,g⟩:=m;unfold PySem.W.tailIn;rw[Jy];right
   try dsimp only
   rw[b]
   try dsimp only
   rw[l,g];rfl
  grind
 next=>cases m
def ri{cd sl w k0 k1 k2 k3 k5 L es n oc od Q g kV r y b ct}(a:PySem.W.nsIn K mainGlobals x=some (some<|.ref C))(l:K.lookup C=some ⟨.type "type",dd,.cls cd,sl⟩)(s:cd.mro=.ref C :: .ref M::[.type "ValueError",.type "Exception",.type "BaseException",.type "object"])(dl:cd.hasDel=false)(p:cd.hasDict=true)(o:sl.toList=[k0,k1,k2,k3,some (.builtin "ValueError.__new__"),k5])(u:cd.ns=N)(B:K.lookup N=some ⟨L,T,.dict es n,w⟩)(z:(es.toList.all λe=>match e.key with | .str _ _=>true|_=>false)=true)(i:PySem.W.nsIn K N "__init__"=some (some<|.ref f))(m:PySem.W.excIn K M [.type "ValueError",.type "Exception",.type "BaseException",.type "object"] "ValueError.__new__"=true)(fn:PySem.W.isFn K (.ref f)=true)(v:PySem.W.findIn K (.ref C) "__setattr__"=some (some<|.builtin "object.__setattr__"))(H:PySem.W.findIn K (.ref C) "__getattribute__"=some (some<|.builtin "BaseException.__getattribute__"))(G:PySem.W.findIn K (.ref C) "__getattr__"=some none)(E:PySem.W.findIn K (.ref C) "__class__"=some (some<|.builtin "object.__class__"))(nm:PySem.W.findIn K (.ref C) "members"=some none)(A:K.lookup f=some ⟨oc,od,.func (PySem.W.fnOf "__init__" q (K8 st) (Xw st) (UY st) .none kV r y Q b ct),g⟩)(c:PySem.W.codeIn K b q=true)(k:PySem.W.keepIn K (.ref f)=true):RI K x C q st:=by
 have J:PySem.W.clsIn K C=some cd:=by unfold PySem.W.clsIn;rw[l]
 refine⟨a,f,_,⟨?_,beq_iff_eq.mp fn,⟨?_,v⟩,H,G,nm,E⟩,B3 A c k⟩
 ·refine⟨dd,cd,sl,_,k0,k1,k2,k3,k5,l,s,o,dl,Zgu (cd:=cd) m,?_,by rw[u];exact i⟩;rw[u];unfold PySem.W.nsOkIn;rw[B];show(es.all _)=true;rw[←Array.all_toList];omega
 ·rw[J];show(ExcR.Bp cd.mro&&cd.hasDict)=true;rw[s,p];rfl
def RI.c (y:RI K x C q st) (X:K.In h) (b:h.Ns mainGlobals mg):ExcR.Xe mg x=C:=ExcR.AH (Qr X b y.a)
def RI.m (y:RI K x C q st) (X:K.In h) (b:h.Ns mainGlobals mg):mg x=some (.ref<|ExcR.Xe mg x):=by rw[y.c X b];exact Qr X b y.a
def RI.i (y:RI K x C q st) (X:K.In h) (b:h.Ns mainGlobals mg):∃g,ExcR.Kh K (ExcR.Xe mg x) g:=by
 obtain⟨f,l,e,_⟩:=y.ex;rw[y.c X b]
 grind
def RI.d (y:RI K x C q st) (e:p=C)
  (b:∀kV g n o l ct us,us.length=ps.length->bindArgs (PySem.W.fnOf "__init__" q (K8 st) (Xw st) (UY st) .none kV g n o l ct) ⟨us,[]⟩=pure (ps.zip us)):Xt K (ExcR.Kh K p) "__init__" q st ps:=
 let ⟨_,_,i,F⟩:=y.ex
 ⟨_,_,F,by rw[e];exact i,F.binds b⟩
def RI.j (y:RI K x C q st) (e:l=C) (b:Bd "__init__" q st ps:=by
  intro _ _ _ _ _ _ us g;obtain⟨_,_,rfl⟩:=Pu.Sd g;rfl):Xt K (ExcR.Kh K l) "__init__" q st ps:=y.d e b
end
end Pu
namespace M
open L2 Own Pu
def KF(f:ZV)(b:ZU)(X:Str->Prop)(A:Prop):Prop:=(∀r,FR f b r->r≠[]->X (T3 r))/\((¬ ∃r,Ring f b r)->A)
def FR.one (h:FR x v r) (n:FR x v w):r=w:=by
 rcases h with⟨rfl,h⟩|⟨l,t,rfl,s,u,A⟩
 ·rcases n with⟨rfl,_⟩|⟨p,o,rfl,f,g,_⟩
  ·rfl
  ·exact absurd g (h p f o)
 ·rcases n with⟨rfl,n⟩|⟨p,o,rfl,f,g,q⟩
  ·exact absurd u (n l s t)
  ·rcases A p f o g with z|⟨z,y⟩
   ·grind
   ·rcases q l s t u with B|⟨_,b⟩
    ·lia
    ·rcases y with y|⟨rfl,y⟩
     ·rcases b with b|⟨rfl,_⟩<;>lia
     ·rcases b with b|⟨_,b⟩
      ·lia
      ·rcases y with rfl|y
       ·rfl
       ·rcases b with rfl|b
        ·rfl
        ·exact absurd b (HZ y)
noncomputable def pcc(ps:ZU):Int->Int->Int:=λx y=>pcM ps x y ps.length
theorem Lw{P:Int->Prop}:∀{b:ZV},(∃l∈b,P l)->∃l∈b,P l/\∀m∈b,P m->l<=m
 |[],h=>by obtain⟨_,h,_⟩:=h;cases h
 |a::b,h=>by
  by_cases c:∃l∈b,P l
  ·obtain⟨l,n,g,f⟩:=Lw c;by_cases d:P a/\a<=l
   ·grind
   ·grind
  ·grind
theorem GA{o:ZV}:∀n {P:ZV->Prop},(∃t,P t/\t.length=n/\∀x∈t,x∈o)->∃t,P t/\t.length=n/\∀u,P u->u.length=n->(∀x∈u,x∈o)->t=u\/sl t u
 | 0,P,⟨t,v,g,_⟩=>⟨t,v,g,λu _ p _=>.inl (by grind)⟩
 |n+1,P,h=>by
  have B:∃l∈o,∃t,P (l::t)/\t.length=n/\∀x∈t,x∈o:=by
   obtain⟨t,v,g,s⟩:=h;cases t with
   |nil=>cases g
   |cons l t=>grind
  obtain⟨l,_,g,s⟩:=Lw B;obtain⟨t,A,y,w⟩:=GA n g;refine⟨l::t,A,by rw[WW,y],λu p r q=>?_⟩;cases u with
  |nil=>cases r
  |cons m u=>
   have f:=Nat.succ.inj r;have b:=λx hx=>q x (WT _ hx);by_cases e:l=m
   ·subst e;rcases w u p f b with rfl|z
    ·exact .inl rfl
    ·exact .inr (.inr ⟨rfl,z⟩)
   ·have:=s m (q m WU) ⟨u,p,f,b⟩
    exact .inr (.inl<|by lia)
def FR.ex (b:ZV) (f:ZU):∃r,FR b f r:=by
 by_cases c:∃l∈b,∃t,XG b f l t
 ·have A:∀n,∀l∈b,∀t,XG b f l t->t.length<=n->∃r,FR b f r:=λn=>by
   induction n using Nat.strongRecOn with
   |ind n G=>
    intro l p t B y;by_cases d:∃m∈b,∃u,XG b f m u/\u.length<t.length
    ·obtain⟨m,s,u,q,J⟩:=d;exact G u.length (by lia) m s u q (W3 _)
    ·have mem:∀m∈b,∀u,XG b f m u->∀x∈m::u,x∈b:=λm s u q x hx=>by
      rcases WB.mp hx with rfl|hx
      ·exact s
      ·exact(N0 q.1 x hx).1
     obtain⟨v,⟨m,u,rfl,s,q⟩,E,C⟩:=GA (t.length+1) (P:=λv=>∃m u,v=m::u/\m∈b/\XG b f m u) ⟨l::t,⟨l,t,rfl,p,B⟩,rfl,mem l p t B⟩;have H:=Nat.succ.inj E;refine⟨m::u,.inr ⟨m,u,rfl,s,q,λw h o g=>?_⟩⟩;have L:¬o.length<t.length:=λz=>d ⟨w,h,o,g,z⟩;by_cases e:o.length=t.length
     ·refine .inr ⟨by lia,?_⟩;rcases C (w::o) ⟨w,o,rfl,h,g⟩ (by rw[WW,e]) (mem w h o g)with z|z|z
      ·grind
      ·exact .inl z
      ·exact .inr ⟨z.1,.inr z.2⟩
     ·exact .inl (by lia)
  obtain⟨l,p,t,y⟩:=c;exact A t.length l p t y (W3 _)
 ·exact⟨[],.inl ⟨rfl,λl p t y=>c ⟨l,p,t,y⟩⟩⟩
end M
namespace Pu
open L2 Own
def hq{A}(h:Xh j A)(b:autoParam (k<=j) au_1):Xh k A:=h.mono b
section
variable {X:Cx}{sc:Scope}{elt iter tg:Expr}{ifs:Yd}{pos:Pos}{wi:TI}{g:TG}{tc:TT}{te:TE}{x:Str}
def cz(N':Yc)(φ:ZZ)(p:PI X tg iter wi)(l:∀{n C b f ex},PG (XJ X N' sc n C b f ex) tg g/\Nc (XJ X N' sc n C b f ex) ifs tc/\PE (XJ X N' sc n C b f ex) elt te)(h:autoParam (X.calm=true) au_0)(S:autoParam (SW sc X.env.scope X.N N' φ=true) au_0)(o:autoParam (∀x,foldedSetIterable iter X.env x=pure x) au_3):PE X (.ListComp elt [⟨tg,iter,ifs,0⟩] sc pos) (SB φ wi g tc te):=A4 h (.of S) p (λ_ _ _ _ _=>l) o
def gk(i:Nat)(h:autoParam (decide X.N.Nodup=true) au_9)(b:autoParam (X.N[i]?=some x) au_0)(hx:autoParam (Loc X.env.scope x) au_6)(f:autoParam (X.fn x=true\/X.env.scope.names.lookup x=some .local) au_2):PG X (.Name x pos) (Nj i):=AZ (W6 h) b hx f
end
section
variable {P:Program}{w:World}{K:ZT}{mg:ZX}{base:Heap}{N ps:Yc}{sp:Sp}{p:PTS}{x q:Str}{st:Stmt}{k:Nat}{W:Addr->Prop}
def _root_.Own.Def.ez (D:Def K mg x st ps) (S:UZ N ps (UY st))
  (g:∀{f b A outer s H} {E:XK},Xh k (A.deeper<|envOfC x (UY st) s.heap.objs.size f b)->
   ∃t,PSs (X6 CX0 P w K mg base N x (UY st) f b A outer s H E).nox (Xw st) t/\Xl K mg (λ_=>E) t p) (u:Uz K mg N ps sp p):Callee P w K mg base CX0 (k+1) x ps sp:=D.oz S (λ_ _ _ _ _ _ _=>g) u
def _root_.Own.Def.ey (D:Def K mg x st ps) (S:UZ N ps (UY st))
  (g:∀{f b A outer s H} {E:XK},Xh k (A.deeper<|envOfC x (UY st) s.heap.objs.size f b)->
   ∃t,PSs (X6 (ExcR.CXe P w) P w K mg base N x (UY st) f b A outer s H E) (Xw st) t/\Xl K mg (λ_=>E) t p) (u:Uz K mg N ps sp p):Callee P w K mg base (ExcR.CXe P w) (k+1) x ps sp:=D.ox S (λ_ _ _ _ _ _ _=>g) u
def Xt.ez (D:Xt K W x q st ps) (S:UZ N ps (UY st))
  (g:∀{f b A outer s H} {E:XK},Xh k (A.deeper<|envOfC q (UY st) s.heap.objs.size f b)->
   ∃t,PSs (X6 CX0 P w K mg base N q (UY st) f b A outer s H E).nox (Xw st) t/\Xl K mg (λ_=>E) t p) (u:Uz K mg N ps sp p):KB P w K mg base CX0 (k+1) W ps sp:=D.oz S (λ_ _ _ _ _ _ _=>g) u
def Xt.ey (D:Xt K W x q st ps) (S:UZ N ps (UY st))
  (g:∀{f b A outer s H} {E:XK},Xh k (A.deeper<|envOfC q (UY st) s.heap.objs.size f b)->
   ∃t,PSs (X6 (ExcR.CXe P w) P w K mg base N q (UY st) f b A outer s H E) (Xw st) t/\Xl K mg (λ_=>E) t p) (u:Uz K mg N ps sp p):KB P w K mg base (ExcR.CXe P w) (k+1) W ps sp:=D.ox S (λ_ _ _ _ _ _ _=>g) u
end
structure Fit {ι:Type} (F:ι->Cx) (K:ZT) (mg:ZX):Prop where
 k:∀j,(F j).K=K
 m:∀j,(F j).mg=mg
section
variable {ι:Type} (F:ι->Cx) (K:ZT) (mg:ZX) (E:L2.St->XK)
structure CE (e:Expr) (p:PTE):Prop where
 h:Fit F K mg->∃t,(∀j,PE (F j) e t)/\UX K mg E t p
structure CT (e:Expr) (p:PTT):Prop where
 h:Fit F K mg->∃t,(∀j,PT (F j) e t)/\Ka K mg E t p
structure CW (e:Expr) (p:PTT):Prop where
 h:Fit F K mg->∃t,(∀j,PW (F j) e t)/\Ka K mg E t p
structure CA (es:Yd) (p:PTA):Prop where
 h:Fit F K mg->∃t,(∀j,PA (F j) es t)/\Xq K mg E t p
structure CS (s:Stmt) (p:PTS):Prop where
 h:Fit F K mg->∃t,(∀j,PS (F j) s t)/\Xl K mg E t p
structure CB (b:Ye) (p:PTS):Prop where
 h:Fit F K mg->∃t,(∀j,PSs (F j) b t)/\Xl K mg E t p
structure CI (tg e:Expr) (p:PTI):Prop where
 h:Fit F K mg->∃t,(∀j,PI (F j) tg e t)/\SndI K mg E t p
structure CJ (tg e:Expr) (p:PTI):Prop where
 h:Fit F K mg->∃t,(∀j,PI (F j) tg e t)/\SO K mg E t p
structure CG (e:Expr) (is:Ya) (p:PTG):Prop where
 h:Fit F K mg->∃t,(∀j,PG (F j) e t)/\TN K is t p
structure CGs (es:Yd) (is:Ya) (p:N3):Prop where
 h:Fit F K mg->∃t,(∀j,PGs (F j) es t)/\SA K is t p
structure CF (es:Yd) (p:PTT):Prop where
 h:Fit F K mg->∃t,(∀j,Nc (F j) es t)/\Ka K mg E t p
end
section
variable {ι:Type}{F:ι->Cx}{K:ZT}{mg:ZX}{E:L2.St->XK}{e f g:Expr}{es:Yd}{a b c:PTE}{r:PTA}{x:Str}{pos p1:Pos}{k n:Nat}{s:Stmt}{d1 d2:Ye}{p q:PTS}{t u:PTT}{is:Ya}{pg:PTG}{it:PTI}
def xv(i:Nat)(o:autoParam (∀j,(F j).N[i]?=some x) au_3)(h:autoParam (∀j,Vis (F j).env.scope x) au_10)(hd:autoParam ((x==("__debug__" : Str))=false) au_1)(l:autoParam ((x==("__classdict__" : Str))=false) au_1):CE F K mg E (.Name x pos) (AM i):=.mk λ_=>⟨_,λj=>pv i (o j) (h j) hd l,UW i⟩
def xi:CE F K mg E (.Constant (.int i) k pos) (pC<|.int i):=.mk λ_=>⟨_,λ_=>X1,Xp⟩
def xb:CE F K mg E (.Constant (.bool i) k pos) (pC<|.bl i):=.mk λ_=>⟨_,λ_=>Fl,B6⟩
def xs:CE F K mg E (.Constant (.str i) k pos) (pC<|.str i):=.mk λ_=>⟨_,λ_=>Gg,LK⟩
def xe(h:∀{j},PE (F j) e te)(k:UX K mg E te a):CE F K mg E e a:=.mk λ_=>⟨_,λ_=>h,k⟩
def xo{r}(y:∀{X},OpR X (binaryOp l) r)(w:∀{t u},UX K mg E t a->UX K mg E u b->UX K mg E (tOp r t u) c)(A:CE F K mg E e a)(B:CE F K mg E f b):CE F K mg E (.BinOp e l f pos) c:=
 .mk λh=>let ⟨_,C,v⟩:=A.h h;let ⟨_,z,o⟩:=B.h h;⟨_,λj=>KU y (C j) (z j),w v o⟩
def xx(A:CE F K mg E e a)(B:CE F K mg E f b)(v:autoParam (Cy f) au_7):CE F K mg E (.Subscript e f pos) (p2 a b fIx):=
 .mk λh=>let ⟨_,y,o⟩:=A.h h;let ⟨_,w,l⟩:=B.h h;⟨_,λj=>jx K (y j) (w j) (h.k j) v,KS o l⟩
def xl(w:mg "len"=none)(A:CE F K mg E e a)(y:autoParam (∀j,Gl (F j) "len") au_3)(v:autoParam (∀j,starEach [e] (F j).env=(false,eval e (F j).env)::starEach [] (F j).env) au_3)(l:autoParam (∀j,(backTo pos (starEach [] (F j).env)).any (·.1)=false) au_3) :
  CE F K mg E (.Call (.Name "len" p1) [e] [] pos) (pCB Ce<|K5 a Td):=
 .mk λh=>let ⟨_,z,o⟩:=A.h h;⟨_,λj=>ln K (by rw[h.m j];exact w) (z j) (h.k j) (y j) (v j) (l j),T9 (sz o)⟩
def xf{ps v}(C:Callee P w K mg base CX0 k x ps (Xb mg v K))(H:∀j,Xh m (F j).A)(A:CA F K mg E (e::es) r)(N:autoParam (∀j,(F j).prog=P/\(F j).w=w/\(F j).base=base) au_11)(J:autoParam (k<=m) au_1)(L:autoParam (∀j,Gl (F j) x) au_3)(o:autoParam ((x==("__debug__" : Str))=false) au_1)(M:autoParam (∀j,starEach (e::es) (F j).env=(false,eval e (F j).env)::starEach es (F j).env) au_3)(l:autoParam (∀j,(backTo pos (starEach es (F j).env)).any (·.1)=false) au_3) :
  CE F K mg E (.Call (.Name x p1) (e::es) [] pos) (Gy v r):=
 .mk λh=>let ⟨_,Q,G⟩:=A.h h;⟨_,λj=>fz (by obtain⟨B,z,y⟩:=N j;rw[B,z,y,h.k j,h.m j];exact C) (H j) (Q j) J (L j) o (M j) (l j),Ko G⟩
def xt(A:CA F K mg E es r):CE F K mg E (.Tuple es k pos) (Eb r):=.mk λh=>let ⟨_,o,l⟩:=A.h h;⟨_,λj=>Th (o j),T4 l⟩
def xL(A:CA F K mg E es r):CE F K mg E (.List es pos) (L7 r):=.mk λh=>let ⟨_,o,l⟩:=A.h h;⟨_,λj=>KM (o j),Pg l⟩
def a0:CA F K mg E [] Td:=.mk λ_=>⟨_,λ_=>XA,Xr⟩
def ac(A:CE F K mg E e a)(B:CA F K mg E es r)(y:autoParam (∀j,starEach (e::es) (F j).env=(false,eval e (F j).env)::starEach es (F j).env) au_3):CA F K mg E (e::es) (K5 a r):=
 .mk λh=>let ⟨_,w,o⟩:=A.h h;let ⟨_,v,l⟩:=B.h h;⟨_,λj=>XB (w j) (v j) (y j),KW o l⟩
def a1(A:CE F K mg E e a)(h:autoParam (∀j,starEach [e] (F j).env=(false,eval e (F j).env)::starEach [] (F j).env) au_3):CA F K mg E [e] (K5 a Td):=ac A a0 h
def a2(A:CE F K mg E e a)(B:CE F K mg E f b)(l:autoParam (∀j,starEach [e,f] (F j).env=(false,eval e (F j).env)::starEach [f] (F j).env) au_3)(h:autoParam (∀j,starEach [f] (F j).env=(false,eval f (F j).env)::starEach [] (F j).env) au_3):CA F K mg E [e,f] (K5 a<|K5 b Td):=ac A (a1 B h) l
def a3(A:CE F K mg E e a)(B:CE F K mg E f b)(C:CE F K mg E g c)(o:autoParam (∀j,starEach [e,f,g] (F j).env=(false,eval e (F j).env)::starEach [f,g] (F j).env) au_3)(l:autoParam (∀j,starEach [f,g] (F j).env=(false,eval f (F j).env)::starEach [g] (F j).env) au_3)(h:autoParam (∀j,starEach [g] (F j).env=(false,eval g (F j).env)::starEach [] (F j).env) au_3):CA F K mg E [e,f,g] (K5 a<|K5 b<|K5 c Td):=ac A (a2 B C l h) o
def te(h:∀{j},PT (F j) e tt)(k:Ka K mg E tt t):CT F K mg E e t:=.mk λ_=>⟨_,λ_=>h,k⟩
def tc{r}(y:∀{X},OpR X (compareOp l) r)(w:∀{t u},UX K mg E t a->UX K mg E u b->UX K mg E (tOp r t u) c)(A:CE F K mg E e a)(B:CE F K mg E f b)(z:behindInMarks l f=false:=by exact Ke _):CT F K mg E (.Compare e [l] [f] pos) (TH c):=
 .mk λh=>let ⟨_,G,v⟩:=A.h h;let ⟨_,C,o⟩:=B.h h;⟨_,λj=>PY y (G j) (C j) z,Ph (w v o)⟩
def tq(v:∀j,Xh n (F j).A)(A:CE F K mg E e a)(B:CE F K mg E f b):CT F K mg E (.Compare e [.Eq] [f] pos) (TH<|p2 a b<|ND false):=
 .mk λh=>let ⟨_,y,o⟩:=A.h h;let ⟨_,w,l⟩:=B.h h;⟨_,λj=>cq K (v j) (y j) (w j) (h.k j),Ph (TR o l)⟩
def tn(v:∀j,Xh n (F j).A)(A:CE F K mg E e a)(B:CE F K mg E f b):CT F K mg E (.Compare e [.NotEq] [f] pos) (TH<|p2 a b<|ND true):=
 .mk λh=>let ⟨_,y,o⟩:=A.h h;let ⟨_,w,l⟩:=B.h h;⟨_,λj=>cn K (v j) (y j) (w j) (h.k j),Ph (Fc o l)⟩
def ti(v:∀j,Xh n (F j).A)(A:CE F K mg E e a)(B:CE F K mg E f b)(w:autoParam (behindInMarks .In f=false) au_12):CT F K mg E (.Compare e [.In] [f] pos) (TH<|p2 a b<|fIn false):=
 .mk λh=>let ⟨_,z,o⟩:=A.h h;let ⟨_,y,l⟩:=B.h h;⟨_,λj=>PY (DH (XX<|v j)<|h.k j) (z j) (y j) w,Ph (F1 o l)⟩
def tI(v:∀j,Xh n (F j).A)(A:CE F K mg E e a)(B:CE F K mg E f b)(w:autoParam (behindInMarks .NotIn f=false) au_12):CT F K mg E (.Compare e [.NotIn] [f] pos) (TH<|p2 a b<|fIn true):=
 .mk λh=>let ⟨_,z,o⟩:=A.h h;let ⟨_,y,l⟩:=B.h h;⟨_,λj=>PY (Zda (XX<|v j)<|h.k j) (z j) (y j) w,Ph (F1 o l)⟩
def tt(A:CE F K mg E e a)(o:autoParam (∀j whole,isTrue e (F j).env whole=(do let v ←whole;standAt e.pos;holding [v] (truthy v))) au_7):CT F K mg E e (Iv a):=.mk λh=>let ⟨_,w,l⟩:=A.h h;⟨_,λj=>LQ (w j) (h.k j) (o j),EJ l⟩
def tN(A:CT F K mg E e t):CT F K mg E (.UnaryOp .Not e pos) (HE t):=.mk λh=>let ⟨_,o,l⟩:=A.h h;⟨_,λj=>Zmw (o j),Zeu l⟩
def tp(A:CW F K mg E e t):CT F K mg E e t:=.mk λh=>let ⟨_,o,l⟩:=A.h h;⟨_,λj=>(o j).pt,l⟩
def wa(A:CT F K mg E e t)(B:CW F K mg E (.BoolOp .And (f::es) pos) u):CW F K mg E (.BoolOp .And (e::f::es) pos) (Ib t u):=.mk λh=>let ⟨_,w,o⟩:=A.h h;let ⟨_,v,l⟩:=B.h h;⟨_,λj=>RE (w j) (v j),Zln o l⟩
def wo(A:CT F K mg E e t)(B:CW F K mg E (.BoolOp .Or (f::es) pos) u):CW F K mg E (.BoolOp .Or (e::f::es) pos) (pOr t u):=.mk λh=>let ⟨_,w,o⟩:=A.h h;let ⟨_,v,l⟩:=B.h h;⟨_,λj=>O7 (w j) (v j),Zea o l⟩
def wA(A:CT F K mg E e t):CW F K mg E (.BoolOp .And [e] pos) t:=.mk λh=>let ⟨_,o,l⟩:=A.h h;⟨_,λj=>Zbd (o j),l⟩
def wO(A:CT F K mg E e t):CW F K mg E (.BoolOp .Or [e] pos) t:=.mk λh=>let ⟨_,o,l⟩:=A.h h;⟨_,λj=>Zdb (o j),l⟩
def se(h:∀{j},PS (F j) s l)(k:Xl K mg E l p):CS F K mg E s p:=.mk λ_=>⟨_,λ_=>h,k⟩
def sS(i:Nat)(y:∀j,(F j).N.Nodup)(A:CE F K mg E e a)(v:autoParam (∀j,(F j).N[i]?=some x) au_3)(hx:autoParam (∀j,Loc (F j).env.scope x) au_13)(o:autoParam (∀j,swapsWith e (some<|.Name x p1) pos.line (F j).env=pure false) au_3)(w:autoParam (∀j,(F j).fn x=true\/(F j).env.scope.names.lookup x=some .local) au_14):CS F K mg E (.Assign [.Name x p1] e pos) (A8 a<|Bk i):=
 .mk λh=>let ⟨_,z,l⟩:=A.h h;⟨_,λj=>pz i (y j) (z j) (v j) (hx j) (o j) (w j),Tr l (XT i)⟩
def sR(A:CE F K mg E e a):CS F K mg E (.Return (some e) pos) (Oa a):=.mk λh=>let ⟨_,o,l⟩:=A.h h;⟨_,λj=>Nb (o j),OV l⟩
def sF(i:Nat)(A:CS F K mg E s p):CS F K mg E s (Hl i p):=.mk λh=>let ⟨_,o,l⟩:=A.h h;⟨_,o,Zhq i l⟩
def sI(A:CT F K mg E e t)(B:CB F K mg E d1 p)(C:CB F K mg E d2 q):CS F K mg E (.If e d1 d2 pos) (Hj t p q):=.mk λh=>let ⟨_,z,v⟩:=A.h h;let ⟨_,y,o⟩:=B.h h;let ⟨_,w,l⟩:=C.h h;⟨_,λj=>Zm8 (z j) (y j) (w j),Zmr v o l⟩
def sE(A:CE F K mg E e a)(o:autoParam (∀j,swapsWith e none pos.line (F j).env=pure false) au_3):CS F K mg E (.Expr e pos) (HV a):=.mk λh=>let ⟨_,v,l⟩:=A.h h;⟨_,λj=>Pm (v j) (o j),FJ l⟩
def sO(l:Ya)(C:∀{j},PassesOwn (model (F j).prog (F j).w) (F j).A (F j).env (F j).xe)(I:CI F K mg E f e it)(G:CG F K mg f is pg)(B:CB F K mg E d1 p)(H:autoParam (∀j,(F j).calm=true) au_3)(z:autoParam (∀j x,foldedSetIterable e (F j).env x=pure x) au_7) :
  CS F K mg E (.For f e d1 [] pos) (G5 l it pg p):=
 .mk λh=>let ⟨_,M,y⟩:=I.h h;let ⟨_,L,v⟩:=G.h h;let ⟨_,J,o⟩:=B.h h;⟨_,λj=>OY C (H j) (M j) (L j) (J j) (z j),Zfk l y v o⟩
def sW(l:Ya)(y:∀{j},PassesOwn (model (F j).prog (F j).w) (F j).A (F j).env (F j).xe)(A:CT F K mg E e t)(B:CB F K mg E d1 p):CS F K mg E (.While e d1 [] pos) (GI l t p):=
 .mk λh=>let ⟨_,C,v⟩:=A.h h;let ⟨_,z,o⟩:=B.h h;⟨_,λj=>Mc y (C j) (z j),Zgk l v o⟩
def b0:CB F K mg E [] GL:=.mk λ_=>⟨_,λ_=>RO,Zj3⟩
def b1(A:CS F K mg E s p):CB F K mg E [s] p:=.mk λh=>let ⟨_,o,l⟩:=A.h h;⟨_,λj=>TB (o j),l⟩
def bc(A:CS F K mg E s p)(B:CB F K mg E d1 q):CB F K mg E (s::d1) (IP p q):=.mk λh=>let ⟨_,w,o⟩:=A.h h;let ⟨_,v,l⟩:=B.h h;⟨_,λj=>Tu (w j) (v j),ID o l⟩
def bj(A:CS F K mg E s p)(B:CB F K mg E d1 q):CB F K mg E (s::d1) (Hm p q):=.mk λh=>let ⟨_,w,o⟩:=A.h h;let ⟨_,v,l⟩:=B.h h;⟨_,λj=>Zh4 (w j) (v j),Zk7 o l⟩
def ie(h:∀{j},PI (F j) f e l)(k:SndI K mg E l it):CI F K mg E f e it:=.mk λ_=>⟨_,λ_=>h,k⟩
def iL(A:CE F K mg E e a):CI F K mg E f e (pIL a):=.mk λh=>let ⟨_,o,l⟩:=A.h h;⟨_,λj=>T1 (o j) (h.k j),Zir l⟩
def ir(v:mg "range"=none)(A:CA F K mg E [e] r)(w:autoParam (∀j,Gl (F j) "range") au_3)(o:autoParam (∀j,starEach [e] (F j).env=[(false,eval e (F j).env)]) au_3):CI F K mg E f (.Call (.Name "range" p1) [e] [] pos) (IX r):=
 .mk λh=>let ⟨_,y,l⟩:=A.h h;⟨_,λj=>Zfp (w j) (by rw[h.m j];exact v) (y j) (o j),Zgz l⟩
def iR(w:mg "range"=none)(A:CA F K mg E [e,g] r)(y:autoParam (∀j,Gl (F j) "range") au_3)(v:autoParam (∀j,starEach [e,g] (F j).env=[(false,eval e (F j).env),(false,eval g (F j).env)]) au_3)(l:autoParam (∀j,starEach [g] (F j).env=[(false,eval g (F j).env)]) au_3):CI F K mg E f (.Call (.Name "range" p1) [e,g] [] pos) (E8 r):=
 .mk λh=>let ⟨_,z,o⟩:=A.h h;⟨_,λj=>Zoc (y j) (by rw[h.m j];exact w) (z j) (v j) (l j),Zgd o⟩
def je(h:∀{j},PI (F j) f e l)(k:SO K mg E l it):CJ F K mg E f e it:=.mk λ_=>⟨_,λ_=>h,k⟩
def jL(A:CE F K mg E e a):CJ F K mg E f e (GS a):=.mk λh=>let ⟨_,o,l⟩:=A.h h;⟨_,λj=>T1 (o j) (h.k j),Nl l⟩
def jI(I:CI F K mg E f e it):CJ F K mg E f e it:=.mk λh=>let ⟨_,o,l⟩:=I.h h;⟨_,o,l.c⟩
def gN(i:Nat)(o:autoParam (∀j,decide (F j).N.Nodup=true) au_15)(h:autoParam (∀j,(F j).N[i]?=some x) au_3)(hx:autoParam (∀j,Loc (F j).env.scope x) au_13)(l:autoParam (∀j,(F j).fn x=true\/(F j).env.scope.names.lookup x=some .local) au_14):CG F K mg (.Name x pos) [i] (Bk i):=.mk λ_=>⟨_,λj=>gk i (o j) (h j) (hx j) (l j),XT i⟩
def gT(n:Nat){pr}(G:CGs F K mg es is pr)(w:autoParam (∀j,(F j).calm=true) au_3)(v:autoParam (∀j,(assignEach es (F j).env).length=n) au_3)(l:autoParam (∀j,(assignEach es (F j).env).findIdx? (·.1)=none) au_3):CG F K mg (.Tuple es k pos) is (Aq n pr):=
 .mk λh=>let ⟨_,y,o⟩:=G.h h;⟨_,λj=>SJ (w j) (y j) (h.k j) (v j) (l j),Fb o⟩
def g0:CGs F K mg [] [] Oi:=.mk λ_=>⟨_,λ_=>Su,Fw⟩
def gc(G:CG F K mg e is pg)(B:CGs F K mg es w l)(y:autoParam (∀j,(assignEach (e::es) (F j).env).map (·.2)=assign e (F j).env::(assignEach es (F j).env).map (·.2)) au_3):CGs F K mg (e::es) (is++w) (Em pg l):=
 .mk λh=>let ⟨_,A,v⟩:=G.h h;let ⟨_,z,o⟩:=B.h h;⟨_,λj=>PH (A j) (z j) (y j),Nm v o⟩
def f0:CF F K mg E [] EO:=.mk λ_=>⟨_,λ_=>Na,Nz⟩
def f1(A:CT F K mg E e t):CF F K mg E [e] t:=.mk λh=>let ⟨_,o,l⟩:=A.h h;⟨_,λj=>SC (o j),l⟩
noncomputable abbrev Blk(F:ι->Cx)(N':Yc)(h:Scope):ι×List (Str×Addr)×Addr×Shared×Hp×List Addr->Cx:=λj=>XJ (F j.1) N' h j.2.1 j.2.2.1 j.2.2.2.1 j.2.2.2.2.1 j.2.2.2.2.2
def xC(N':Yc)(φ:ZZ)(I:CJ F K mg E f e it)(G:CG (Blk F N' v) K mg f is pg)(T:CF (Blk F N' v) K mg E es t)(A:CE (Blk F N' v) K mg E g a)(hc:autoParam (∀j,(F j).calm=true) au_3)(S:autoParam (∀j,SW v (F j).env.scope (F j).N N' φ=true) au_3)(Y:autoParam (∀j x,foldedSetIterable e (F j).env x=pure x) au_7)(h1:autoParam ((φ.filterMap id).Nodup) au_1)(h2:autoParam (∀j∈is,φ[j]?=some none) au_1) :
  CE F K mg E (.ListComp g [⟨f,e,es,0⟩] v pos) (Cv φ it pg t a):=.mk λh=>by
 have w:Fit (Blk F N' v) K mg:=⟨λj=>h.k j.1,λj=>h.m j.1⟩;obtain⟨_,U,J⟩:=I.h h;obtain⟨_,Q,H⟩:=G.h w;obtain⟨_,M,B⟩:=T.h w;obtain⟨_,L,z⟩:=A.h w;exact⟨_,λj=>A4 (hc j) (.of<|S j) (U j) (λy C l o ex=>⟨Q (j,y,C,l,o,ex),M (j,y,C,l,o,ex),L (j,y,C,l,o,ex)⟩) (Y j),Pf J H B z h1 h2⟩
def sr(A:CE F K mg E e a):CS F K mg E (.Return (some e) pos) (M9 a):=.mk λh=>let ⟨_,o,l⟩:=A.h h;⟨_,λj=>Nb (o j),Zmz l⟩
def sV(i:Nat)(o:autoParam (∀j,(F j).N[i]?=some x) au_3)(h:autoParam (∀j,Vis (F j).env.scope x) au_10)(hd:autoParam ((x==("__debug__" : Str))=false) au_1)(l:autoParam ((x==("__classdict__" : Str))=false) au_1):CS F K mg E (.Return (some<|.Name x p1) pos) (Sa i):=.mk λ_=>⟨_,λj=>Nb (pv i (o j) (h j) hd l),R5 i⟩
def sA(i:Nat)(A:CE F K mg E e a)(G:autoParam (∀j,(F j).N[i]?=some x) au_3)(B:autoParam (∀j,Vis (F j).env.scope x) au_10)(hd:autoParam ((x==("__debug__" : Str))=false) au_1)(C:autoParam ((x==("__classdict__" : Str))=false) au_1){apos cpos}(v:autoParam (∀j,attributeBase (.Name x p1) "append" (F j).env (eval (.Name x p1) (F j).env)=eval (.Name x p1) (F j).env) au_3)(w:autoParam (∀j,((backTo cpos (starEach [e] (F j).env)).all (λx=>!x.1)&&(backToKw cpos (keywordEach [] (F j).env)).all (λx=>x.1.isSome)&&decide ([e].length+([]:List Keyword).length+(if ([]:List Keyword).isEmpty then 0 else 1)<30))=true) au_3)(o:autoParam ((apos.endLine==cpos.line)=true) au_0)(y:autoParam (∀j,starEach [e] (F j).env=(false,eval e (F j).env)::starEach [] (F j).env) au_3)(l:autoParam (∀j,(backTo cpos (starEach [] (F j).env)).any (·.1)=false) au_3)(hw:autoParam (∀j,swapsWith (.Call (.Attribute (.Name x p1) "append" apos) [e] [] cpos) none pos.line (F j).env=pure false) au_3):CS F K mg E (.Expr (.Call (.Attribute (.Name x p1) "append" apos) [e] [] cpos) pos) (DG i a):=
 .mk λh=>let ⟨_,H,z⟩:=A.h h;⟨_,λj=>Pm (L4 Qv QP QR NG (pv i (G j) (B j) hd C) (XB (H j) XA<|y j) (h.k j) (v j) (w j) o (y j)<|l j) (hw j),Zc9 i z⟩
def sU(i:Nat){l o}(B:∀j,(F j).N.Nodup)(w:∀{X},PIp X l (ipI o))(A:CE F K mg E e a)(y:autoParam (∀j,(F j).N[i]?=some x) au_3)(hx:autoParam (∀j,Loc (F j).env.scope x) au_13)(z:autoParam (∀j,(F j).fn x=true\/(F j).env.scope.names.lookup x=some .local) au_14):CS F K mg E (.AugAssign (.Name x p1) l e pos) (Ad i o a):=
 .mk λh=>let ⟨_,C,v⟩:=A.h h;⟨_,λj=>Zc4 (B j) (y j) (hx j) (C j) w (z j),RR v⟩
def sC(i:Nat)(N':Yc)(φ:ZZ){y py spos}(hN:∀j,(F j).N.Nodup)(I:CJ F K mg E f e it)(G:CG (Blk F N' v) K mg f is pg)(T:CF (Blk F N' v) K mg E es t)(A:CE (Blk F N' v) K mg E g a)(hy:autoParam (∀j,(F j).N[i]?=some y) au_3)(hl:autoParam (∀j,(F j).env.scope.names.lookup y=some .local) au_3)(hc:autoParam (∀j,(F j).calm=true) au_3)(S:autoParam (∀j,SW v (F j).env.scope (F j).N N' φ=true) au_3)(hs:autoParam (∀j x,foldedSetIterable e (F j).env x=pure x) au_7)(h1:autoParam ((φ.filterMap id).Nodup) au_1)(h2:autoParam (∀j∈is,φ[j]?=some none) au_1)(hw:autoParam (∀j,swapsWith (.ListComp g [⟨f,e,es,0⟩] v pos) (some<|.Name y py) spos.line (F j).env=pure true) au_3) :
  CS F K mg E (.Assign [.Name y py] (.ListComp g [⟨f,e,es,0⟩] v pos) spos) (A8 (Cv φ it pg t a)<|Bk i):=.mk λh=>by
 have w:Fit (Blk F N' v) K mg:=⟨λj=>h.k j.1,λj=>h.m j.1⟩;obtain⟨_,Y,L⟩:=I.h h;obtain⟨_,U,J⟩:=G.h w;obtain⟨_,Q,H⟩:=T.h w;obtain⟨_,M,B⟩:=A.h w;exact⟨_,λj=>Zad (hN j) (hy j) (hl j) (hc j) (.of<|S j) (Y j) (λz C l o ex=>⟨U (j,z,C,l,o,ex),Q (j,z,C,l,o,ex),M (j,z,C,l,o,ex)⟩) (hs j) (hw j),Tr (Pf L J H B h1 h2) (XT i)⟩
structure CO {ι:Type} (F:ι->Cx) (K:ZT) (mg:ZX) (E:L2.St->XK) (o:Option Expr) (p:PTO):Prop where
 h:Fit F K mg->∃t,(∀j,PO (F j) o t)/\SX K mg E t p
def o0:CO F K mg E none Ia:=.mk λ_=>⟨_,λ_=>Zb7,Zdk⟩
def o1(A:CE F K mg E e a):CO F K mg E (some e) (EL a):=.mk λh=>let ⟨_,o,l⟩:=A.h h;⟨_,λj=>Zdq (o j),Zmg l⟩
def xp{lo o l u v}(A:CE F K mg E e a)(L:CO F K mg E lo l)(U:CO F K mg E o u):CE F K mg E (.Subscript e (.Slice lo o none v) pos) (pSl a l u):=
 .mk λh=>let ⟨_,G,z⟩:=A.h h;let ⟨_,C,y⟩:=L.h h;let ⟨_,B,w⟩:=U.h h;⟨_,λj=>Zk9 (Zmx<|h.k j) (G j) (C j) (B j),Zg4 z y w⟩
def xn(A:CE F K mg E e a):CE F K mg E (.UnaryOp .Not e pos) (IE a):=.mk λh=>let ⟨_,o,l⟩:=A.h h;⟨_,λj=>LP (o j),Lf l⟩
def sQ{cpos v}(B:ExcR.XY K (ExcR.Xe mg x))(y:mg x=some (.ref<|ExcR.Xe mg x))(H:∀{j},ExcR.Ca (F j) v)(A:CA F K mg (λ_=>v) (e::es) r)(G:autoParam (∀j,(F j).calm=true) au_3)(z:autoParam (∀j,Gl (F j) x) au_3)(o:autoParam ((x==("__debug__" : Str))=false) au_1)(C:autoParam (∀j,starEach (e::es) (F j).env=(false,eval e (F j).env)::starEach es (F j).env) au_3)(l:autoParam (∀j,(backTo cpos (starEach es (F j).env)).any (·.1)=false) au_3)(hx:autoParam (Sf x=none) au_0) :
  CS F K mg (λ_=>v) (.Raise (some<|.Call (.Name x p1) (e::es) [] cpos) none pos) (Lq x r):=
 .mk λh=>let ⟨_,J,w⟩:=A.h h;⟨_,λj=>ExcR.Zb3 (by rw[h.k j];exact B.c) (by rw[h.m j];exact y) H (G j) (J j) (z j) o (C j) (l j),Zm2 w hx⟩
def xg{ps y v}(C:Callee P w K mg base (ExcR.CXe P w) k x ps (Xb mg y K))(J:∀j,Xh m (F j).A)(hx:∀{j},K7 (ExcR.CXe P w) (F j) v)(A:CA F K mg (λ_=>v) (e::es) r)(Q:autoParam (∀j,(F j).prog=P/\(F j).w=w/\(F j).base=base) au_11)(L:autoParam (k<=m) au_1)(M:autoParam (∀j,Gl (F j) x) au_3)(o:autoParam ((x==("__debug__" : Str))=false) au_1)(N:autoParam (∀j,starEach (e::es) (F j).env=(false,eval e (F j).env)::starEach es (F j).env) au_3)(l:autoParam (∀j,(backTo pos (starEach es (F j).env)).any (·.1)=false) au_3) :
  CE F K mg (λ_=>v) (.Call (.Name x p1) (e::es) [] pos) (D5 y r):=
 .mk λh=>let ⟨_,T,H⟩:=A.h h;⟨_,λj=>An (by obtain⟨G,B,z⟩:=Q j;rw[G,B,z,h.k j,h.m j];exact C) ((J j).mono L) hx (T j) (M j) o (N j) (l j),Zgv H⟩
variable {pw:PTW}
end
section
variable {P:Program}{w:World}{K:ZT}{mg:ZX}{base:Heap}{N ps:Yc}{sp:Sp}{p:PTS}{x q:Str}{st:Stmt}{k:Nat}{W:Addr->Prop}
def _root_.Own.Def.fz (D:Def K mg x st ps) (S:UZ N ps (UY st))
  (n:∀{f b A outer s H} {E:XK},(∀{g:Type},g->Xh k (A.deeper<|envOfC x (UY st) s.heap.objs.size f b))->(Unit->N.Nodup)->
   CB (λ_:Unit=>(X6 CX0 P w K mg base N x (UY st) f b A outer s H E).nox) K mg (λ_=>E) (Xw st) p) (u:Uz K mg N ps sp p):Callee P w K mg base CX0 (k+1) x ps sp:=
 D.ez S (λo=>let ⟨t,h,l⟩:=(n (λ_=>o) λ_=>S.nd).h ⟨λ_=>rfl,λ_=>rfl⟩;⟨t,h (),l⟩) u
def _root_.Own.Def.fy (D:Def K mg x st ps) (S:UZ N ps (UY st))
  (n:∀{f b A outer s H} {E:XK},(∀{g:Type},g->Xh k (A.deeper<|envOfC x (UY st) s.heap.objs.size f b))->(Unit->N.Nodup)->
   CB (λ_:Unit=>X6 (ExcR.CXe P w) P w K mg base N x (UY st) f b A outer s H E) K mg (λ_=>E) (Xw st) p) (u:Uz K mg N ps sp p):Callee P w K mg base (ExcR.CXe P w) (k+1) x ps sp:=
 D.ey S (λo=>let ⟨t,h,l⟩:=(n (λ_=>o) λ_=>S.nd).h ⟨λ_=>rfl,λ_=>rfl⟩;⟨t,h (),l⟩) u
def Xt.fz (D:Xt K W x q st ps) (S:UZ N ps (UY st))
  (n:∀{f b A outer s H} {E:XK},(∀{g:Type},g->Xh k (A.deeper<|envOfC q (UY st) s.heap.objs.size f b))->(Unit->N.Nodup)->
   CB (λ_:Unit=>(X6 CX0 P w K mg base N q (UY st) f b A outer s H E).nox) K mg (λ_=>E) (Xw st) p) (u:Uz K mg N ps sp p):KB P w K mg base CX0 (k+1) W ps sp:=
 D.ez S (λo=>let ⟨t,h,l⟩:=(n (λ_=>o) λ_=>S.nd).h ⟨λ_=>rfl,λ_=>rfl⟩;⟨t,h (),l⟩) u
def Xt.fy (D:Xt K W x q st ps) (S:UZ N ps (UY st))
  (n:∀{f b A outer s H} {E:XK},(∀{g:Type},g->Xh k (A.deeper<|envOfC q (UY st) s.heap.objs.size f b))->(Unit->N.Nodup)->
   CB (λ_:Unit=>X6 (ExcR.CXe P w) P w K mg base N q (UY st) f b A outer s H E) K mg (λ_=>E) (Xw st) p) (u:Uz K mg N ps sp p):KB P w K mg base (ExcR.CXe P w) (k+1) W ps sp:=
 D.ey S (λo=>let ⟨t,h,l⟩:=(n (λ_=>o) λ_=>S.nd).h ⟨λ_=>rfl,λ_=>rfl⟩;⟨t,h (),l⟩) u
end
mutual
noncomputable def py:D->PyData
 | .int i=>.int i
 | .bl b=>.bool b
 | .str x=>.str x
 | .tup f=>.tuple (pys f)
 | .lst f=>.list (pys f)
 | .fL g=>.list (g.map .int)
 |_=>.none
noncomputable def pys:List D->List PyData
 |[]=>[]
 |d::r=>py d::pys r
end
end Pu
namespace Pu
open L2 Own
section
variable {K:ZT}{mg:ZX}{E:L2.St->XK}{H0 H H1 H':Hp}{B Z Z':Addr->Prop}{σ:L2.St}{γ:Γ}
abbrev PTL:=Γ->(List (List D)->Prop)->(Str->Prop)->Prop
noncomputable def pLc(a:PTE)(r:PTL):PTL:=λγ R X=>a γ (λs=>match s with
 | .own (.lst f)=>XO f=true/\r γ (λb=>R (f::b)) X
 |_=>False) X
def HM(K:ZT)(mg:ZX)(E:L2.St->XK)(g:Bool)(t:TA)(r:PTL):Prop:=∀(H0:Hp) (B:Addr->Prop) (H:Hp) (σ:L2.St) (γ:Γ) (R:List (List D)->Prop) (X:Str->Prop) (Q:List V->Hp->Prop),Xd K H0 B H σ γ->r γ R X->
 (∀(b:List (Addr×List D)) (H':Hp),R (b.map (·.2))->Same H H'->(∀c∈b,(H c.1=none\/g=false/\Md γ σ c.1)/\XO c.2=true/\∃f,H' c.1=some (.lst f)/\Rps K H' c.2 f)->(b.map (·.1)).Nodup->Q (b.map λc=>V.ref c.1) H')->
 (∀c H',X c->Same H H'->XE mg (E σ) c H')->t σ H Q
def sl_cons{y:Bool}{te:TE}{a:PTE}{p:TA}{r:PTL}(Y:UX K mg E te a)(U:HM K mg E y p r):HM K mg E y (XN te p) (pLc a r):=by
 intro H0 B H σ γ R X Q f h q u;refine Y H0 B H σ γ _ X _ f h (λs v H1 l n M=>?_) u;have g:=f.grow n;split at l
 ·rename_i ds;obtain⟨a,rfl,a0,L,a1,a2⟩:=M;refine U H0 B H1 σ γ _ X _ g l.2 (λcs H2 T o x N=>?_) λc H' b S'=>u c H' b (n.trans S');refine q ((a,ds)::cs) H2 T (n.trans o) (λc b=>?_) ?_
  ·rcases WB.mp b with rfl|b
   ·exact⟨.inl (a0 a rfl),l.1,L,o _ _ a1,Rps.mono (off_sub.trans o) a2⟩
   ·obtain⟨J,G,C⟩:=x c b;exact⟨J.imp (λz=>n.free z) id,G,C⟩
  ·refine Ql.mpr ⟨λz=>?_,N⟩;obtain⟨c,b,A⟩:=WK.mp z;rcases(x c b).1 with w|⟨_,w⟩
   ·rw[show c.1=a from A,a1]at w
    cases w
   ·rw[show c.1=a from A]at w
    have:=f.zm a (.inr w)
    rw[a0 a rfl]at this;exact this
 ·exact l.elim
end
section
variable {K:ZT}{mg:ZX}{E:L2.St->XK}{H0 H:Hp}{B:Addr->Prop}{σ:L2.St}{γ:Γ}
def Xd.take {i j:Nat}{o o':O}{a l:Addr} (u:Xd K H0 B H σ γ) (Q:γ[i]?=some (some<|.own o)) (N:σ[i]?=some (some<|.ref a)) (hj:j<γ.length) (p:∀b,o'.adr l b->o.adr a b) (hor:OR K (off (zof B γ σ) H) H l o') :
  Xd K H0 B H (σ.set j<|some<|.ref l) ((γ.set i none).set j (some<|.own o'))/\Fr B H σ γ H (σ.set j<|some<|.ref l) ((γ.set i none).set j (some<|.own o')):=by
 have hjs:j<σ.length:=by rw[u.len];exact hj
 have f:∀(k:Nat) (s:S),k≠j->((γ.set i none).set j (some<|.own o'))[k]?=some (some s)->k≠i/\γ[k]?=some (some s):=λk s Y h=>by
  rcases X3 h with⟨e,_,_⟩|⟨_,h⟩
  ·exact absurd e Y
  ·rcases X3 h with⟨_,e,_⟩|⟨n,h⟩
   ·cases e
   ·exact⟨n,h⟩
 have new:∀s,((γ.set i none).set j (some<|.own o'))[j]?=some (some s)->s=.own o':=λs h=>by
  rcases X3 h with⟨_,e,_⟩|⟨n,_⟩
  ·exact(WL e).symm
  ·exact absurd rfl n
 have M:(σ.set j<|some<|.ref l)[j]?=some (some<|.ref l):=by rw[List.getElem?_set,W5 rfl,W5 hjs]
 have C:∀k,k≠j->(σ.set j<|some<|.ref l)[k]?=σ[k]?:=λk Y=>KP Y
 have hz:∀b,zof B ((γ.set i none).set j (some<|.own o')) (σ.set j<|some<|.ref l) b->zof B γ σ b:=λb z=>z.imp id λ⟨k,U,x,J,w,r⟩=>by
  by_cases e:k=j
  ·subst e;cases new _ J
   rw[M]at w;cases w
   exact⟨i,o,a,Q,N,p b r⟩
  ·rw[C k e]at w;exact⟨k,U,x,(f k _ e J).2,w,r⟩
 have S1:Same (off (zof B γ σ) H) (off (zof B ((γ.set i none).set j (some<|.own o'))<|σ.set j<|some<|.ref l) H):=Xm (Same.refl _) λb _ _ z y=>z (hz b y);refine⟨⟨u.same,by rw[Qy,Qy,Qy];exact u.len,u.bm,λk m x x' U es b J w r G h5 h6=>?_,λk s h=>?_⟩,λb _ h z=>⟨h,λy=>z (hz b y)⟩⟩
 ·by_cases e:k=j
  ·by_cases A:m=j
   ·rw[e,A]
   ·subst e;cases new _ J
    rw[M]at r;cases r
    obtain⟨n,g⟩:=f m _ A w;rw[C m A]at G;exact absurd (u.own i m a x' _ _ b Q g N G (p b h5) h6).symm n
  ·by_cases A:m=j
   ·subst A;cases new _ w
    rw[M]at G;cases G
    obtain⟨n,g⟩:=f k _ e J;rw[C k e]at r;exact absurd (u.own k i x a _ _ b g Q r N h5<|p b h6) n
   ·rw[C k e]at r;rw[C m A]at G;exact u.own k m x x' _ _ b (f k _ e J).2 (f m _ A w).2 r G h5 h6
 ·by_cases e:k=j
  ·subst e;cases new _ h
   obtain⟨v,T,y,rfl,e0,_⟩:=u.slot i _ Q;rw[N]at T;cases T
   exact⟨_,M,l,rfl,λb hb=>e0 b (p b hb),hor.mono S1 λ_ _ _ q=>q⟩
  ·obtain⟨v,T,L⟩:=u.slot k s (f k _ e h).2;refine⟨v,by rw[C k e];exact T,?_⟩;cases s with
   |bor d=>exact L
   |sh d=>exact Rp.mono S1 L
   |own U=>
    obtain⟨y,e1,e3,e4⟩:=L;exact⟨y,e1,e3,e4.mono S1 λ_ _ _ q=>q⟩
   |view U=>exact L
   |tmp d=>exact L
noncomputable def L5(b:Addr)(i j:Nat):PTS:=λR γ=>match γ[i]? with
 |some (some<|.own<|.er _ C r)=>C=b/\j<γ.length/\R.nx ((γ.set i none).set j (some<|.own<|r.map D.int))
 |_=>False
def Zan{p:Addr}(i j:Nat)(s:∃g,ExcR.Kh K p g):Xl K mg E (SN (ExcR.Ox K "members"<|KH i)<|Nj j) (L5 p i j):=by
 obtain⟨g,c⟩:=s;intro H0 B H σ γ R D J f h e;unfold L5 at h;split at h
 ·rename_i l C r o;obtain⟨rfl,q,h⟩:=h;obtain⟨v,n,a,rfl,L,G,y,x,w⟩:=f.slot i _ o;obtain⟨A,z⟩:=f.take (j:=j) (o':=.lst (r.map Pu.D.int)) (l:=l) o n q (λb u=>u) ⟨_,w,Rps.of_ints r⟩;exact⟨_,n,a,C,g,G,_,.ref l,rfl,off_sub _ _ y,c,c.nm,off_sub _ _ x,rfl,e.nx _ _ _ h A z⟩
 ·exact h.elim
end
end Pu
namespace T
open L2
noncomputable def top(i:Nat):Stmt:=PySem.Challenge.pw_stripmeld_k19_ring_at_every_door.main.body.getD i (.Pass ⟨0,0,0,0⟩)
noncomputable abbrev DF:Stmt:=inClass (top 14) 0
def Zcz:UZ ["self","members"] ["self","members"] (UY DF):=Pu.fs
noncomputable abbrev Dp:Stmt:=top 19
def Zae:UZ ["holder"] ["holder"] (UY Dp):=Pu.fs
noncomputable abbrev Aw:Stmt:=top 20
def Ziy:UZ ["width"] ["width"] (UY Aw):=Pu.fs
noncomputable abbrev Av:Stmt:=top 21
def Ze1:UZ ["strips","holder","width"] ["strips"] (UY Av):=Pu.fs
noncomputable abbrev Dy:Stmt:=top 22
def Zjb:UZ ["strips"] ["strips"] (UY Dy):=Pu.fs
noncomputable abbrev AW:Stmt:=top 23
def Zh8:UZ ["strips","index"] ["strips","index"] (UY AW):=Pu.fs
noncomputable abbrev Dj:Stmt:=top 24
def RC:UZ ["strips","runs"] ["strips"] (UY Dj):=Pu.fs
noncomputable abbrev AF:Stmt:=top 25
def Zes:UZ ["strips","order"] ["strips","order"] (UY AF):=Pu.fs
noncomputable abbrev FD:Stmt:=top 26
def Zi7:UZ ["strips","order","field","holder"] ["strips","order"] (UY FD):=Pu.fs
noncomputable abbrev DA:Stmt:=top 28
def Zl3:UZ ["strips","ahead","behind","to_pass","cost","holder","width"] ["strips","ahead","behind"] (UY DA):=Pu.fs
noncomputable abbrev CQ:Stmt:=top 31
def LJ:UZ ["order","wishes","index_of","index","holder","between"] ["order","wishes"] (UY CQ):=Pu.fs
noncomputable abbrev F9:Stmt:=top 32
def O0:UZ ["paths","left","wishes","longer","reached","path","holder"] ["paths","left","wishes"] (UY F9):=Pu.fs
noncomputable abbrev Ds:Stmt:=top 33
def Zi8:UZ ["least","holders","wishes","paths","left","rings","reached"] ["least","holders","wishes"] (UY Ds):=Pu.fs
noncomputable abbrev AL:Stmt:=top 34
def Zlf:UZ ["holders","wishes","ring","least","found"] ["holders","wishes"] (UY AL):=Pu.fs
noncomputable abbrev Az:Stmt:=top 35
def Zcy:UZ ["strips","wishes","ring"] ["strips","wishes"] (UY Az):=Pu.fs
noncomputable abbrev Cr:Stmt:=top 37
def Lh:UZ ["strips","holders","costs","ahead","behind"] ["strips"] (UY Cr):=Pu.fs
noncomputable abbrev CC:Stmt:=top 38
def Zho:UZ ["holders","sets","holder"] ["holders"] (UY CC):=Pu.fs
noncomputable abbrev A2:Stmt:=top 39
def RP:UZ ["members","holder"] ["members","holder"] (UY A2):=Pu.fs
noncomputable abbrev DL:Stmt:=top 40
def RD:UZ ["members","holder","wishes"] ["members","holder","wishes"] (UY DL):=Pu.fs
noncomputable abbrev Ah:Stmt:=top 41
def Znk:UZ ["members","holder","wishes"] ["members","holder","wishes"] (UY Ah):=Pu.fs
noncomputable abbrev FC:Stmt:=top 42
def Zah:UZ ["members","last","least","pairs","others"] ["members","last","least","pairs"] (UY FC):=Pu.fs
noncomputable abbrev Ar:Stmt:=top 43
def Zdu:UZ ["members","first","least","pairs","others"] ["members","first","least","pairs"] (UY Ar):=Pu.fs
noncomputable abbrev CU:Stmt:=top 44
def IC:UZ ["strips","wishes","pairs","least","members","lasts"] ["strips","wishes","pairs"] (UY CU):=Pu.fs
noncomputable abbrev CM:Stmt:=top 45
def Zja:UZ ["strips","wishes","least"] ["strips","wishes"] (UY CM):=Pu.fs
noncomputable abbrev FN:Stmt:=top 46
def Hd:UZ ["strips","wishes","pairs","least","members","order","firsts","best"] ["strips","wishes"] (UY FN):=Pu.fs
noncomputable abbrev AJ:Stmt:=top 47
def Zjj:UZ ["strips","wishes"] ["strips","wishes"] (UY AJ):=Pu.fs
noncomputable abbrev Ap:Stmt:=top 49
def Zf0:UZ ["strips"] ["strips"] (UY Ap):=Pu.fs
noncomputable abbrev A1:Stmt:=top 50
def Zau:UZ ["strips","numbers","place","left","right"] ["strips","numbers","place"] (UY A1):=Pu.fs
noncomputable abbrev Ag:Stmt:=top 51
def Zaf:UZ ["numbers","place"] ["numbers","place"] (UY Ag):=Pu.fs
noncomputable abbrev Dx:Stmt:=top 52
def Zc1:UZ ["numbers","ranks","place"] ["numbers","ranks"] (UY Dx):=Pu.fs
noncomputable abbrev Do:Stmt:=top 53
def Zf9:UZ ["strips","order","ranks","numbers","moves","place"] ["strips","order"] (UY Do):=Pu.fs
noncomputable abbrev FZ:Stmt:=top 56
def Zc5:UZ ["strips"] ["strips"] (UY FZ):=Pu.fs
noncomputable abbrev FX:Stmt:=top 57
def Zlw:UZ ["strips","stand","number","passed"] ["strips","stand","number"] (UY FX):=Pu.fs
noncomputable abbrev Aa:Stmt:=top 58
def RZ:UZ ["strips","stands","longer","stand","cost","number"] ["strips","stands"] (UY Aa):=Pu.fs
noncomputable abbrev Dq:Stmt:=top 59
def Znh:UZ ["strips","stands","length"] ["strips"] (UY Dq):=Pu.fs
noncomputable abbrev AG:Stmt:=top 60
def Rq:UZ ["field","order","holder","width"] ["field"] (UY AG):=Pu.fs
noncomputable abbrev Ai:Stmt:=top 61
def Zhk:UZ ["field","wishes"] ["field","wishes"] (UY Ai):=Pu.fs
noncomputable abbrev DJ:Stmt:=top 62
def Zl5:UZ ["strips","stand"] ["strips","stand"] (UY DJ):=Pu.fs
noncomputable abbrev FH:Stmt:=top 63
def Rk:UZ ["strips","wishes","stands"] ["strips","wishes"] (UY FH):=Pu.fs
noncomputable abbrev FM:Stmt:=top 65
def Znr:UZ ["strips","place"] ["strips","place"] (UY FM):=Pu.fs
noncomputable abbrev F5:Stmt:=top 66
def Zep:UZ ["strips","place","holder","strip"] ["strips","place","holder"] (UY F5):=Pu.fs
noncomputable abbrev FS:Stmt:=top 67
def Rz:UZ ["wishes","ahead","behind"] ["wishes","ahead","behind"] (UY FS):=Pu.fs
noncomputable abbrev D9:Stmt:=inClass (top 70) 0
def Zga:UZ ["self","strips"] ["self","strips"] (UY D9):=Pu.fs
noncomputable abbrev FY:Stmt:=inClass (top 70) 1
def Zdl:UZ ["self"] ["self"] (UY FY):=Pu.fs
noncomputable abbrev FG:Stmt:=inClass (top 70) 2
def Rf:UZ ["self"] ["self"] (UY FG):=Pu.fs
noncomputable abbrev DE:Stmt:=inClass (top 70) 4
def Zhf:UZ ["self"] ["self"] (UY DE):=Pu.fs
noncomputable abbrev A5:Stmt:=inClass (top 70) 5
def Rr:UZ ["self","deed","field","wishes"] ["self","deed","field","wishes"] (UY A5):=Pu.fs
noncomputable abbrev Cs:Stmt:=inClass (top 70) 9
def Zig:UZ ["self","ahead","behind","wishes"] ["self","ahead","behind"] (UY Cs):=Pu.fs
noncomputable abbrev Dh:Stmt:=inClass (top 70) 13
def Zdy:UZ ["self"] ["self"] (UY Dh):=Pu.fs
noncomputable abbrev AC:Stmt:=inClass (top 70) 14
def Znf:UZ ["self"] ["self"] (UY AC):=Pu.fs
noncomputable abbrev D6:Stmt:=inClass (top 70) 15
def Zdf:UZ ["self"] ["self"] (UY D6):=Pu.fs
noncomputable abbrev Ck:Stmt:=inClass (top 70) 16
def Zbs:UZ ["self"] ["self"] (UY Ck):=Pu.fs
noncomputable abbrev AB:Stmt:=inClass (top 70) 17
def Ze9:UZ ["self"] ["self"] (UY AB):=Pu.fs
noncomputable abbrev Ae:Stmt:=inClass (top 70) 18
def Zd5:UZ ["self"] ["self"] (UY Ae):=Pu.fs
noncomputable abbrev AY:Stmt:=inClass (top 70) 21
def Zbz:UZ ["self","place","holder","field","cost"] ["self","place","holder"] (UY AY):=Pu.fs
noncomputable abbrev Dl:Stmt:=top 72
def OD:UZ ["_law_script","_law_k"] ["_law_script","_law_k"] (UY Dl):=Pu.fs
noncomputable abbrev AA:Stmt:=top 73
def Zne:UZ ["_law_found"] ["_law_found"] (UY AA):=Pu.fs
noncomputable abbrev FP:Stmt:=top 74
def Zlh:UZ ["_law_cell","_law_place","_law_first"] ["_law_cell","_law_place"] (UY FP):=Pu.fs
noncomputable abbrev CK:Stmt:=top 75
def Za2:UZ ["_law_script","_law_k"] ["_law_script","_law_k"] (UY CK):=Pu.fs
noncomputable abbrev A7:Stmt:=top 76
def Zhw:UZ ["_law_script"] ["_law_script"] (UY A7):=Pu.fs
noncomputable abbrev Df:Stmt:=top 77
def Zem:UZ ["_law_cell","_law_wide","_law_least"] ["_law_cell"] (UY Df):=Pu.fs
noncomputable abbrev D3:Stmt:=top 78
def Znt:UZ ["_law_menu_here","_law_k"] ["_law_menu_here","_law_k"] (UY D3):=Pu.fs
noncomputable abbrev FL:Stmt:=top 79
def Ze3:UZ ["_law_script","_law_menu_here","_law_many","_law_strips_here","_law_k","_law_cell","_law_width"] ["_law_script","_law_menu_here","_law_many"] (UY FL):=Pu.fs
noncomputable abbrev CP:Stmt:=top 80
def Hw:UZ ["_law_script","_law_menu_here","_law_how","_law_pool","_law_wishes_here","_law_k","_law_cell","_law_one","_law_two","_law_pair"] ["_law_script","_law_menu_here"] (UY CP):=Pu.fs
noncomputable abbrev Ct:Stmt:=top 81
def Zjf:UZ ["_law_found","_law_due","_law_k"] ["_law_found","_law_due"] (UY Ct):=Pu.fs
noncomputable abbrev Cu:Stmt:=top 82
def Zay:UZ ["_law_found","_law_due","_law_k","_law_j"] ["_law_found","_law_due"] (UY Cu):=Pu.fs
noncomputable abbrev AN:Stmt:=top 83
def OE:UZ ["_law_strips_here","_law_owners"] ["_law_strips_here"] (UY AN):=Pu.fs
noncomputable abbrev Cz:Stmt:=top 84
def Zkw:UZ ["_law_holders","_law_wishes_here","_law_rows","_law_grown","_law_row_here","_law_holder_here"] ["_law_holders","_law_wishes_here"] (UY Cz):=Pu.fs
noncomputable abbrev CD:Stmt:=top 85
def Zk8:UZ ["_law_wishes_here","_law_holders","_law_cell","_law_many","_law_laid","_law_first","_law_k","_law_pair","_law_rest","_law_spot"] ["_law_wishes_here","_law_holders","_law_cell"] (UY CD):=Pu.fs
noncomputable abbrev Ak:Stmt:=top 86
def S9:UZ ["_law_holders","_law_cell","_law_left","_law_order","_law_rest"] ["_law_holders","_law_cell"] (UY Ak):=Pu.fs
noncomputable abbrev Ay:Stmt:=top 87
def Zbi:UZ ["_law_which","_law_strips_here","_law_wishes_here","_law_village"] ["_law_which","_law_strips_here","_law_wishes_here","_law_village"] (UY Ay):=Pu.fs
noncomputable abbrev CZ:Stmt:=top 88
def B5:UZ ["_law_which","_law_strips_here","_law_wishes_here","_law_village","_law_due","_law_kinds","_law_told","e","_law_good"] ["_law_which","_law_strips_here","_law_wishes_here","_law_village","_law_due"] (UY CZ):=Pu.fs
noncomputable abbrev Pp:Stmt:=top 89
def Rb:UZ ["_law_script","_law_menu_here","_law_size","_law_strips_here","_law_holders","_law_wishes_here","_law_due","_law_village","_law_one","_law_two","_law_which","_law_field","_law_small"] ["_law_script"] (UY Pp):=Pu.fs
structure Glob (K:ZT) (mg:ZX):Prop where
 Z5:mg "ValueError"=none
 ZN:mg "any"=none
 ZP:mg "bool"=none
 ZG:mg "enumerate"=none
 ZO:mg "int"=none
 Zb:mg "isinstance"=none
 len:mg "len"=none
 Zg:mg "list"=none
 ZQ:mg "max"=none
 ZH:mg "min"=none
 Zc:mg "range"=none
 ZR:mg "set"=none
 Zh:mg "sorted"=none
 ZI:mg "sum"=none
 Zo:mg "tuple"=none
 Zv:∃u,mg "HOLDERS"=some u/\RelV (.int 10) u
 Zy:∃u,mg "STRIPS"=some u/\RelV (.int 40) u
 Zz:∃u,mg "WIDEST"=some u/\RelV (.int 1000) u
 Zj:∃u,mg "MOST_WISHES"=some u/\RelV (.int 20) u
 Z6:∃u,mg "SMALL"=some u/\RelV (.int 7) u
 Zk:∃u,mg "MOST_DEEDS"=some u/\RelV (.int 100) u
 Z2:mg "MeldError"=some (.ref<|ExcR.Xe mg "MeldError")
 ZS:ExcR.XY K (ExcR.Xe mg "MeldError")
 Zp:mg "TooManyStrips"=some (.ref<|ExcR.Xe mg "TooManyStrips")
 Zq:ExcR.XY K (ExcR.Xe mg "TooManyStrips")
 Z3:mg "BadHolder"=some (.ref<|ExcR.Xe mg "BadHolder")
 Z4:ExcR.XY K (ExcR.Xe mg "BadHolder")
 Z7:mg "BadWidth"=some (.ref<|ExcR.Xe mg "BadWidth")
 Z8:ExcR.XY K (ExcR.Xe mg "BadWidth")
 ZJ:mg "NoStrip"=some (.ref<|ExcR.Xe mg "NoStrip")
 ZK:ExcR.XY K (ExcR.Xe mg "NoStrip")
 Z9:mg "BadOrder"=some (.ref<|ExcR.Xe mg "BadOrder")
 ZA:ExcR.XY K (ExcR.Xe mg "BadOrder")
 Zr:mg "TooManyStands"=some (.ref<|ExcR.Xe mg "TooManyStands")
 Zs:ExcR.XY K (ExcR.Xe mg "TooManyStands")
 ZC:mg "OwnStrip"=some (.ref<|ExcR.Xe mg "OwnStrip")
 ZD:ExcR.XY K (ExcR.Xe mg "OwnStrip")
 Zw:mg "LikeHolders"=some (.ref<|ExcR.Xe mg "LikeHolders")
 Zx:ExcR.XY K (ExcR.Xe mg "LikeHolders")
 Z0:mg "WishStands"=some (.ref<|ExcR.Xe mg "WishStands")
 Z1:ExcR.XY K (ExcR.Xe mg "WishStands")
 Zt:mg "TooManyWishes"=some (.ref<|ExcR.Xe mg "TooManyWishes")
 Zu:ExcR.XY K (ExcR.Xe mg "TooManyWishes")
 ZE:mg "BookFull"=some (.ref<|ExcR.Xe mg "BookFull")
 ZF:ExcR.XY K (ExcR.Xe mg "BookFull")
 Zn:mg "Ringed"=some (.ref<|ExcR.Xe mg "Ringed")
 Zi:∃g,ExcR.Kh K (ExcR.Xe mg "Ringed") g
 ZM:PySem.W.exmOne K (.ref<|ExcR.Xe mg "Ringed") (.ref<|ExcR.Xe mg "Ringed")=some true
 Zm:PySem.W.kitOne K (.ref<|ExcR.Xe mg "Ringed") (.ref<|ExcR.Xe mg "MeldError")=some true
 Zl:PySem.W.kitOne K (.ref<|ExcR.Xe mg "Ringed") (.type "ValueError")=some true
 ZL:mg "Village"=some (.ref<|ExcR.Xe mg "Village")
 Za:Cls K (ExcR.Xe mg "Village")
 Zd:NoAttr K (ExcR.Xe mg "Village") "book"
 Ze:NoAttr K (ExcR.Xe mg "Village") "fields"
 Zf:NoAttr K (ExcR.Xe mg "Village") "wished"
def Da:Pu.FldAt "book" ["book","fields","wished"] 0:=.of (by decide +kernel) (by decide +kernel) rfl
def Zdm:Pu.PutAt "book" []:=.of (by decide +kernel)
def GK:Pu.FldAt "fields" ["book","fields","wished"] 1:=.of (by decide +kernel) (by decide +kernel) rfl
def Zai:Pu.PutAt "fields" ["book"]:=.of (by decide +kernel)
def MX:Pu.FldAt "wished" ["book","fields","wished"] 2:=.of (by decide +kernel) (by decide +kernel) rfl
def Zng:Pu.PutAt "wished" ["book","fields"]:=.of (by decide +kernel)
def PR:Pu.NoFld "strips" ["book","fields","wished"]:=.of (by decide +kernel)
def TX:Pu.NoFld "wishes" ["book","fields","wished"]:=.of (by decide +kernel)
def OI:Pu.NoFld "check_room" ["book","fields","wished"]:=.of (by decide +kernel)
def Zks:Pu.NoFld "enter" ["book","fields","wished"]:=.of (by decide +kernel)
def Zdd:Pu.NoFld "wish" ["book","fields","wished"]:=.of (by decide +kernel)
def Zl4:Pu.NoFld "ring" ["book","fields","wished"]:=.of (by decide +kernel)
def Ac:Pu.NoFld "order" ["book","fields","wished"]:=.of (by decide +kernel)
def HG:Pu.NoFld "cost" ["book","fields","wished"]:=.of (by decide +kernel)
def Zff:Pu.NoFld "table" ["book","fields","wished"]:=.of (by decide +kernel)
def Zob:Pu.NoFld "moves" ["book","fields","wished"]:=.of (by decide +kernel)
def Zc0:Pu.NoFld "melded" ["book","fields","wished"]:=.of (by decide +kernel)
def Zas:Pu.NoFld "offer" ["book","fields","wished"]:=.of (by decide +kernel)
end T
namespace M
open L2 Own Pu
noncomputable def Zgc:Pc:=λb R X=>∃h:Int,b=[.int h]/\K0 (NU h) X (R<|.sh .non)
noncomputable def Au(h:Int):Option Str:=if 1<=h/\h<=1000 then none else some "BadWidth"
noncomputable def Zcb:Pc:=λb R X=>∃h:Int,b=[.int h]/\K0 (Au h) X (R<|.sh .non)
noncomputable def Gf(_:ZT):Sp:=λg H Q _=>∃(l:Addr) (b:ZU),g=[.ref l]/\LAt KC H l b/\Field b/\b.length<=50/\
 ∀(q:Addr) (f:Hp),H q=none->Same H f->f q=some (.lst ((Xc b).map V.int))->Q (.ref q) f
noncomputable def Iw:Pc:=λf R _=>∃b:ZU,f=[.lst (b.map prD)]/\Field b/\b.length<=50/\R (.own ((Xc b).map D.int))
def Nh{P:Program}{w:World}{K:ZT}{b:ZX}{base:Heap}(C:Callee P w K b base CX0 1 "holders_of" ["strips"] (Gf K)):Callee P w K b base CX0 1 "holders_of" ["strips"] (Xb b Iw K):=Gi C λB R X z H Q E r o u A=>by
 obtain⟨g,rfl,x,n,s⟩:=o;obtain⟨v,rfl,f⟩:=r.one_inv;obtain⟨a,rfl,p⟩:=f.pairs_inv;exact⟨a,g,rfl,p,x,n,λq y l S h=>u _ _ y s S (Lp l h)⟩
noncomputable def Zl2:Pc:=λf R _=>∃(b:ZU) (k:Nat),f=[plD b,.int k]/\k<b.length/\R (.sh<|.bl<|Ks b k)
noncomputable def Zjn:Pc:=λf R _=>∃(b:ZU) (x y:Int),f=[.lst (b.map prD),.int x,.int y]/\Field b/\R (.sh<|.int<|pcM b x y b.length)
noncomputable def Pt(os:ZV)(q:Int×Int):Bool:=decide (q.1∈os)&&decide (q.2∈os.take (os.idxOf q.1))
noncomputable def Zlg:Pc:=λf R _=>∃(os:ZV) (b:ZU),f=[.lst (os.map D.int),.lst (b.map prD)]/\os.Nodup/\os.length<=50/\b.length<=50/\R (.own ((b.filter<|Pt os).map prD))
noncomputable def Zia:Pc:=λo R _=>∃(l:Int) (f:List (ZV)) (b:ZV) (n:ZU),o=[.lst (f.map<|em l),.lst (b.map D.int),.lst (n.map prD)]/\f.Pairwise sl/\b.Pairwise (· < ·)/\(∀p∈f,p.length<=100)/\b.length<=100/\
 ∀g,LG n l (λp h=>p∈f/\h∈b) g->g.length<=b.length->R (.own<|g.map<|em l)
noncomputable def Zlc:Pc:=λf R _=>∃b:ZV,f=[.lst (b.map D.int)]/\b.length<=10/\R (.own ((Xs b).map tD))
noncomputable def Zmj:Pc:=λf R _=>∃(b:ZV) (h:Int),f=[tD b,.int h]/\b.length<=1000/\R (.sh<|tD<|Xj b h)
noncomputable def Zll:Pc:=λg R _=>∃(f:ZV) (h:Int) (b:ZU),g=[tD f,.int h,.lst (b.map prD)]/\b.length<=50/\R (.sh<|.bl<|PM b f h)
noncomputable def Zfu:Pc:=λg R _=>∃(f:ZV) (h:Int) (b:ZU),g=[tD f,.int h,.lst (b.map prD)]/\b.length<=50/\R (.sh<|.bl<|firstM b f h)
noncomputable def Zfw:Pc:=λf R _=>∃b:ZU,f=[.lst (b.map prD)]/\b.length<=1000/\R (.own ((Xn 1 b.length).map D.int))
noncomputable def Za3:Pc:=λg R _=>∃(b:ZU) (f:ZV) (p:Int),g=[.lst (b.map prD),.lst (f.map D.int),.int p]/\Field b/\(∀n∈f,1<=n/\n<=b.length)/\1<=p/\p<f.length/\R (.sh<|.int<|exM b f p.toNat)
noncomputable def Zm6:Pc:=λf R _=>∃(b:ZV) (p:Int),f=[.lst (b.map D.int),.int p]/\1<=p/\p<b.length/\b.length<=1000/\R (.own ((K4 b p.toNat).map D.int))
noncomputable def Ze8:Pc:=λg R _=>∃b f:ZV,g=[.lst (b.map D.int),.lst (f.map D.int)]/\(∀m∈b,1<=m/\m<=f.length)/\b.length<=1000/\∀p:Nat,FW (b.map λm=>f.getD (m-1).toNat 0) p->R (.sh<|.int p)
noncomputable def P9(ps:ZU):Option Str:=if 7<ps.length then some "TooManyStands" else none
noncomputable def OU:Pc:=λf R X=>∃b:ZU,f=[plD b]/\K0 (P9 b) X (R<|.sh .non)
noncomputable def Zoh:Pc:=λf R _=>∃(b:ZU) (r:ZV) (x:Int),f=[plD b,tD r,.int x]/\Field b/\b.length<=50/\1<=x/\x<=b.length/\R (.sh<|.int<|Kn b r x)
noncomputable def Zlm:Pc:=λf R _=>∃b:ZU,f=[plD b]/\b.length<=1000/\R (.own ((X7<|b.map (·.1)).map D.int))
noncomputable def Zg8:Pc:=λf R _=>∃(b:ZU) (r:ZV),f=[plD b,tD r]/\r.length<=1000/\(∀z∈r,1<=z/\z<=b.length)/\R (.own ((r.map λz=>XU b z).map prD))
noncomputable def Zei:Pc:=λf R X=>∃(b:ZU) (p:Int),f=[plD b,.int p]/\K0 (FI b p) X (R<|.sh .non)
noncomputable def Zfv(C:Addr):Pc:=λg R _=>∃(bk:List (Str×ZV)) (fs b:List (ZU)) (f:ZU),g=[KE C bk (fs++[f]) b]/\R (.own<|f.map prD)
noncomputable def Zej(C:Addr):Pc:=λg R _=>∃(bk:List (Str×ZV)) (fs b:List (ZU)) (f:ZU),g=[KE C bk fs (b++[f])]/\R (.own<|f.map prD)
noncomputable def Dz(bk:List (Str×ZV)):Option Str:=if 100<=bk.length then some "BookFull" else none
noncomputable def Zjq(C:Addr):Pc:=λf R X=>∃(bk:List (Str×ZV)) (fs b:List (ZU)),f=[KE C bk fs b]/\K0 (Dz bk) X (R<|.sh .non)
noncomputable def Zh3(C:Addr):Pw:=λo l R _=>∃(x b1 h g:Addr) (bk:List (Str×ZV)) (fs b:List (ZU)) (q:Str×ZV) (f w:ZU),o=vO C x b1 h g bk fs b/\l=[.sh (dD q),.sh (plD f),.sh (plD w)]/\bk.length<=1000/\fs.length<=1000/\b.length<=1000/\
 R (vO C x b1 h g (bk++[q]) (fs++[f]) (b++[w])) (.int (bk.length+1))
noncomputable def Zc8:Pc:=λf R _=>∃(b:ZV) (k:Int),f=[.scr b,.int k]/\0<=k/\∀v:Int,R (.sh<|.int v)
noncomputable def Zix:Pc:=λb R _=>∃i:Int,b=[.int i]/\R (.sh<|.bl true)
noncomputable def Zhg:Pc:=λb R _=>∃c p:Int,b=[.int c,.int p]/\∀v:Int,R (.sh<|.int v)
noncomputable def O3:Pc:=λb R _=>∃c:Int,b=[.int c]/\∀m,SY m->R (.own<|m.map D.int)
noncomputable def Zf8:Pc:=λb R _=>∃(m:ZV) (k:Int),b=[.lst (m.map D.int),.int k]/\SY m/\∀h:Int,1<=h->h<=10->h=CH m k->R (.sh<|.int h)
noncomputable def Zh6:Pc:=λf R _=>∃b:ZU,f=[.lst (b.map prD)]/\b.length<=50/\R (.own ((Xc b).map D.int))
noncomputable def Zl9:Pc:=λg R _=>∃(f:ZV) (b:ZU) (r:ZV),g=[.lst (f.map D.int),.lst (b.map prD)]/\f.Nodup/\f.length<=10/\(∀q∈b,q.1≠q.2)/\b.length<=20/\FR f b r/\R (.sh<|.lst<|r.map D.int)
noncomputable def R9:Pc:=λl R _=>∃(a:Addr) (f:ZU) (g:ZV) (c:Int),l=[.loc a (.lst<|f.map prD),.lst (g.map D.int),.int c]/\Pr f/\g.Nodup/\g.length<=10/\(∀h∈g,1<=h/\h<=10)/\
 ∀b,Pr b->∀s,(s=.own (b.map prD)\/(b.map prD=f.map prD/\s=.bor (.loc a<|.lst<|f.map prD)))->R s
noncomputable def Ol(K:ZT):Sp:=λg H Q _=>∃(l:Addr) (b:ZV) (c:Int),g=[.ref l,.int c]/\SqL K H l (b.map V.int)/\b.length<=50/\
 ∀(q:Addr) (f:Hp) (os:ZV),H q=none->Same H f->f q=some (.lst<|os.map V.int)->os.Perm b->Q (.ref q) f
noncomputable def Mn:Pc:=λf R _=>∃(b:ZV) (c:Int),f=[.lst (b.map D.int),.int c]/\b.length<=50/\∀os:ZV,os.Perm b->R (.own<|os.map D.int)
def Zjc{P:Program}{w:World}{K:ZT}{b:ZX}{base:Heap}(C:Callee P w K b base CX0 1 "_law_shuffled" ["_law_holders","_law_cell"] (Ol K)):Callee P w K b base CX0 1 "_law_shuffled" ["_law_holders","_law_cell"] (Xb b Mn K):=Gi C λJ R X B H Q E r s z G=>by
 obtain⟨o,c,rfl,n,y⟩:=s;obtain⟨v,u,rfl,g,f⟩:=r.two_inv;obtain⟨a,rfl,x⟩:=g.ints_inv;rw[f.int_inv];exact⟨a,o,c,rfl,SqL.of x,n,λq A os l S h p=>z _ _ A (y os p) S (Lp l h)⟩
noncomputable def Zdr:Pc:=λf R X=>∃b:ZU,f=[plD b]/\b.length<=1000/\K0 (NJ b) X (R<|.sh .non)
noncomputable def Zk0:Pc:=λf R _=>∃b:ZU,f=[plD b]/\Field b/\b.length<=50/\(Bj b->R (.sh<|.bl true))/\(¬Bj b->R (.sh<|.bl false))
noncomputable def RT:Pc:=λf R X=>∃(b:ZU) (os:ZV),f=[plD b,.lst (os.map D.int)]/\Field b/\b.length<=50/\os.length<64/\K0 (NS b os) X (R<|.sh .non)
noncomputable def Zk1:Pc:=λg R _=>∃(l:Int) (b:ZV) (f:ZU),g=[.int l,.lst (b.map D.int),.lst (f.map prD)]/\b.Nodup/\b.length<=50/\∀r,RF b f l r->r.length<=60->R (.sh<|.lst<|r.map D.int)
noncomputable def Ziv:Pc:=λg R _=>∃b:ZU,g=[.lst (b.map prD)]/\Field b/\b.length<=50/\
 ∀f:List (List Key×V),(∀x∈Xc b,∀y∈Xc b,Xi f [.inl x,.inl y]=some (.int<|pcM b x y b.length))->R (.own<|.dT f)
noncomputable def O2:Pc:=λg R _=>∃(b:ZV) (l:Int) (le f:List (List Key×V)) (c:Int->Int) (v:Int),g=[tD b,.int l,.dT le,.dT f]/\b.length<=1000/\Xi le (kT<|Xj b l)=some (.int v)/\
 (∀m∈Xj b l,Xi f [.inl m,.inl l]=some (.int<|c m))/\R (.sh<|.int (v+((Xj b l).map c).sum))
noncomputable def Zcd:Pc:=λg R _=>∃(b:ZV) (l:Int) (le f:List (List Key×V)) (c:Int->Int) (v:Int),g=[tD b,.int l,.dT le,.dT f]/\b.length<=1000/\Xi le (kT<|Xj b l)=some (.int v)/\
 (∀m∈Xj b l,Xi f [.inl l,.inl m]=some (.int<|c m))/\R (.sh<|.int (v+((Xj b l).map c).sum))
noncomputable def Zil:Pc:=λf R _=>∃(b:ZU) (S:List (ZV×Int)),f=[plD b,.lst (S.map stD)]/\Field b/\b.length<=7/\S.length<=1000000/\(∀q∈S,q.1.length<=10)/\R (.own ((S.flatMap<|Pk b).map stD))
noncomputable def Zin:Pc:=λf R X=>∃(b:ZU) (p h:Int),f=[plD b,.int p,.int h]/\b.length<=1000/\K0 (Tv b p h) X (R<|.own (TK b p h |>.map prD))
noncomputable def Zbo:Pc:=λg R X=>∃(f:ZU) (a b:Int),g=[plD f,.int a,.int b]/\f.length<=1000/\K0 (Tf f a b) X (R<|.own ((f++[(a,b)]).map prD))
noncomputable def OB:Pc:=λf R _=>∃(b:ZV) (k:Int),f=[.scr b,.int k]/\0<=k/\∀v:Int,R (.sh<|.int v)
noncomputable def Znq:Pc:=λf R _=>∃b:ZV,f=[.scr b]/\∀v:Int,R (.sh<|.int v)
noncomputable def Zmo:Pc:=λb R _=>∃xs:ZV,(b=[.lst (xs.map D.int),.lst (xs.map D.int)]\/b=[.fL xs,.lst (xs.map D.int)])/\xs.length<=1000000/\R (.sh<|.bl true)
noncomputable def Zjd:Pc:=λf R _=>∃b:ZU,f=[.lst (b.map prD),.lst (b.map prD)]/\b.length<=1000000/\R (.sh<|.bl true)
noncomputable def PQ(ps:ZU)(os:ZV):ZU:=os.flatMap λh=>ps.filter λq=>decide (q.1=h)
noncomputable def Ra:Pc:=λf R X=>∃(b:ZU) (os:ZV),f=[plD b,.lst (os.map D.int)]/\Field b/\b.length<=50/\os.length<64/\K0 (NS b os) X (R<|.own ((PQ b os).map prD))
noncomputable def Zhl:Pc:=λg R _=>∃(b:ZV) (f:ZU),g=[.lst (b.map D.int),.lst (f.map prD)]/\b.Nodup/\b.length<=50/\∀r,FR b f r->r.length<=60->R (.sh<|.lst<|r.map D.int)
noncomputable def Zmm:Pc:=λl R _=>∃(b f:ZU) (h:List (List Key×V)) (c:Int->Int->Int),l=[.lst (b.map prD),.lst (f.map prD),.dT h]/\Field b/\b.length<=50/\f.length<=50/\(∀q∈f,q.1≠q.2)/\
 (∀x∈Xc b,∀y∈Xc b,Xi h [.inl x,.inl y]=some (.int<|c x y))/\LB (Xc b) f/\∀g,Tab f c (Xs<|Xc b) g->R (.own<|.dT g)
noncomputable def Zhp:Pc:=λg R _=>∃(b:ZU) (o:ZV),g=[plD b,.lst (o.map D.int)]/\Field b/\b.length<=40/\o.Perm (Xc b)/\∀f:List Mo,Mv b (rkN b o) (Xn 1 b.length) f->R (.own<|f.map mvD)
noncomputable def Zj0:Pc:=λf R X=>∃b:ZU,f=[plD b]/\Field b/\K0 (P9 b) X (R<|.own ((Ku b b.length).map stD))
noncomputable def Zb6:Pc:=λg R _=>∃b f:ZU,g=[plD b,plD f]/\Field b/\b.length<=50/\f.length<=50/\(Ti b f->R (.sh<|.bl true))/\(¬Ti b f->R (.sh<|.bl false))
noncomputable def Znz(C:Addr):Pw:=λo f R X=>∃(x:Addr) (b:ZU),o=.ins x C [] []/\f=[.sh (plD b)]/\b.length<=1000/\K0 (NJ b) (X<|.ins x C [] []) (∀b1 h g,R (vO C x b1 h g [] [b] [[]]) .non)
noncomputable def FV(bk:List (Str×ZV))(w:ZU)(a b:Int):Option Str:=if 100<=bk.length then some "BookFull" else Tf w a b
noncomputable def Zg1(C:Addr):Pw:=λo n R X=>∃(x b1 l g:Addr) (bk:List (Str×ZV)) (fs b:List (ZU)) (f w:ZU) (p h:Int),o=vO C x b1 l g bk (fs++[f]) (b++[w])/\n=[.sh (.int p),.sh (.int h)]/\bk.length<=1000/\fs.length<=900/\b.length<=900/\w.length<=1000/\
 K0 (FV bk w p h) (X<|vO C x b1 l g bk (fs++[f]) (b++[w])) (R (vO C x b1 l g (bk++[(("wish" : Str),[p,h])]) (fs++[f]++[f]) (b++[w]++[w++[(p,h)]]))<|.int (bk.length+1))
noncomputable def Zam:Pc:=λg R _=>∃(f m:ZV) (n:Int),g=[.scr f,.lst (m.map D.int),.int n]/\SY m/\0<=n/\n<=1000/\∀b:ZU,Field b->b.length=n.toNat->R (.own<|b.map prD)
noncomputable def Zhu:Pc:=λg R _=>∃(f m:ZV),g=[.scr f,.lst (m.map D.int)]/\SY m/\∀b,Pr b->R (.own<|b.map prD)
noncomputable def Zn5:Pc:=λg R X=>∃(b f:ZU),g=[.lst (b.map prD),.lst (f.map prD)]/\Field b/\b.length<=50/\(∀q∈f,q.1≠q.2)/\KF (Xc b) f X (R<|.sh .non)
noncomputable def Zmv(C:Addr):Pc:=λg R _=>∃(bk:List (Str×ZV)) (fs b:List (ZU)) (f w:ZU),g=[KE C bk (fs++[f]) (b++[w])]/\Field f/\f.length<=50/\∀r,FR (Xc f) w r->r.length<=60->R (.sh<|.lst<|r.map D.int)
noncomputable def OS:Pc:=λh R X=>∃(b f:ZU),h=[.lst (b.map prD),.lst (f.map prD)]/\Field b/\b.length<=50/\f.length<=50/\(∀q∈f,q.1≠q.2)/\KF (Xc b) f X (∀g,Cd f (pcc b) (Xs<|Xc b) g->R (.own<|g.map D.int))
noncomputable def Zm7:Pc:=λg R X=>∃(b f:ZU),g=[.lst (b.map prD),.lst (f.map prD)]/\Field b/\b.length<=50/\f.length<=50/\(∀q∈f,q.1≠q.2)/\KF (Xc b) f X (∀o,P8 f (pcc b) (Xc b) o->R (.own<|o.map D.int))
noncomputable def RL:Pc:=λg R X=>∃b f:ZU,g=[plD b,plD f]/\Field b/\K0 (P9 b) X (f.length<=50/\(∀q∈f,q.1≠q.2)/\KF (Xc b) f X ((∃r,r.Perm (Xn 1 b.length)/\Ti (Ky b r) f)/\∀m,Zmc b f m->R (.sh<|.int m)))
noncomputable def Zno:Pc:=λg R X=>∃(b f:ZU),g=[.lst (b.map prD),.lst (f.map prD)]/\Field b/\b.length<=50/\f.length<=50/\(∀q∈f,q.1≠q.2)/\KF (Xc b) f X (∀v,Kx f (pcc b) (Xc b) v->R (.sh<|.int v))
noncomputable def Za1(C:Addr):Pc:=λg R X=>∃(bk:List (Str×ZV)) (fs b:List (ZU)) (f w:ZU),g=[KE C bk (fs++[f]) (b++[w])]/\Field f/\f.length<=50/\w.length<=50/\(∀q∈w,q.1≠q.2)/\KF (Xc f) w X (∀o,P8 w (pcc f) (Xc f) o->R (.own<|o.map D.int))
noncomputable def OP(C:Addr):Pc:=λh R X=>∃(bk:List (Str×ZV)) (fs g:List (ZU)) (f w:ZU),h=[KE C bk (fs++[f]) (g++[w])]/\Field f/\f.length<=50/\w.length<=50/\(∀q∈w,q.1≠q.2)/\KF (Xc f) w X (∀b,Cd w (pcc f) (Xs<|Xc f) b->R (.own<|b.map D.int))
noncomputable def Znb(C:Addr):Pc:=λg R X=>∃(bk:List (Str×ZV)) (fs b:List (ZU)) (f w:ZU),g=[KE C bk (fs++[f]) (b++[w])]/\Field f/\f.length<=50/\w.length<=50/\(∀q∈w,q.1≠q.2)/\KF (Xc f) w X (∀v,Kx w (pcc f) (Xc f) v->R (.sh<|.int v))
noncomputable def Zhs(C:Addr):Pc:=λh R X=>∃(bk:List (Str×ZV)) (fs g:List (ZU)) (f w:ZU),h=[KE C bk (fs++[f]) (g++[w])]/\Field f/\f.length<=40/\w.length<=50/\(∀q∈w,q.1≠q.2)/\KF (Xc f) w X (∀o b,P8 w (pcc f) (Xc f) o->Mv f (rkN f o) (Xn 1 f.length) b->R (.own<|b.map mvD))
noncomputable def Zkm(C:Addr):Pc:=λg R X=>∃(bk:List (Str×ZV)) (fs b:List (ZU)) (f w:ZU),g=[KE C bk (fs++[f]) (b++[w])]/\Field f/\f.length<=50/\w.length<=50/\(∀q∈w,q.1≠q.2)/\KF (Xc f) w X (∀o,P8 w (pcc f) (Xc f) o->R (.own ((PQ f o).map prD)))
noncomputable def RJ(C:Addr):Pc:=λg R X=>∃(bk:List (Str×ZV)) (fs b:List (ZU)) (f w:ZU) (p h:Int),g=[KE C bk (fs++[f]) (b++[w]),.int p,.int h]/\Field f/\f.length<=40/\w.length<=50/\(∀q∈w,q.1≠q.2)/\K0 (Tv f p h) X (KF (Xc f) w X (∀u,Kx w (pcc f) (Xc f) u->KF (Xc<|TK f p h) w X (∀v,Kx w (pcc<|TK f p h) (Xc<|TK f p h) v->R (.sh<|.int (v-u)))))
noncomputable def OZ(C:Addr):Pc:=λh R X=>∃(w:Int) (bk:List (Str×ZV)) (fs g:List (ZU)) (f b:ZU),h=[.int w,plD f,plD b,KE C bk (fs++[f]) (g++[b])]/\(0<=w/\w<10)/\Field f/\f.length<=40/\(w=3->f.length<=7)/\(w=9->∃r,FR (Xc f) b r/\r≠[])/\b.length<=50/\(∀q∈b,q.1≠q.2)/\
 (∀r,FR (Xc f) b r->r≠[]->X (T3 r))/\((¬ ∃r,Ring (Xc f) b r)->∀s,R s)
noncomputable def Zic(C:Addr):Pc:=λl R _=>∃(w:Int) (bk:List (Str×ZV)) (fs h:List (ZU)) (f b:ZU) (g:ZV),l=[.int w,plD f,plD b,KE C bk (fs++[f]) (h++[b]),.lst (g.map D.int)]/\(0<=w/\w<10)/\Field f/\f.length<=40/\(w=3->f.length<=7)/\(w=9->g≠[])/\b.length<=50/\(∀q∈b,q.1≠q.2)/\
 FR (Xc f) b g/\g.length<=60/\R (.sh<|.bl true)
structure Fv (P:Program) (w:World) (K:ZT) (mg:ZX) (base:Heap):Type
variable {P:Program}{w:World}{K:ZT}{mg:ZX}{base:Heap}
abbrev Cal(_:Fv P w K mg base):=Callee P w K mg base
abbrev Cam(_:Fv P w K mg base):=KB P w K mg base
abbrev Cxe(_:Fv P w K mg base):=ExcR.CXe P w
abbrev Xo(_:Fv P w K mg base):=ExcR.Xe mg "Village"
variable (ζ:Fv P w K mg base)
abbrev RB:Prop:=Cam ζ CX0 1 (ExcR.Kh K<|ExcR.Xe mg "Ringed") ["self","members"] (ExcR.S8 K)
abbrev MK:Prop:=Cal ζ (Cxe ζ) 1 "check_holder" ["holder"] (Xb mg Zgc K)
abbrev L6:Prop:=Cal ζ (Cxe ζ) 1 "check_width" ["width"] (Xb mg Zcb K)
abbrev Zjs:Prop:=Cal ζ CX0 1 "holders_of" ["strips"] (Xb mg Iw K)
abbrev Ea:Prop:=Cal ζ CX0 1 "begins_run" ["strips","index"] (Xb mg Zl2 K)
abbrev Ho:Prop:=Cal ζ CX0 1 "pair_cost" ["strips","ahead","behind"] (Xb mg Zjn K)
abbrev ED:Prop:=Cal ζ CX0 1 "broken_wishes" ["order","wishes"] (Xb mg Zlg K)
abbrev MY:Prop:=Cal ζ CX0 1 "longer_paths" ["paths","left","wishes"] (Xb mg Zia K)
abbrev Ir:Prop:=Cal ζ CX0 1 "sets_of" ["holders"] (Xb mg Zlc K)
abbrev MC:Prop:=Cal ζ CX0 1 "without" ["members","holder"] (Xb mg Zmj K)
abbrev EV:Prop:=Cal ζ CX0 1 "may_lie_last" ["members","holder","wishes"] (Xb mg Zll K)
abbrev E5:Prop:=Cal ζ CX0 1 "may_lie_first" ["members","holder","wishes"] (Xb mg Zfu K)
abbrev GP:Prop:=Cal ζ CX0 1 "own_numbers" ["strips"] (Xb mg Zfw K)
abbrev Ij:Prop:=Cal ζ CX0 1 "exchange_cost" ["strips","numbers","place"] (Xb mg Za3 K)
abbrev Lo:Prop:=Cal ζ CX0 1 "exchanged" ["numbers","place"] (Xb mg Zm6 K)
abbrev LX:Prop:=Cal ζ CX0 1 "first_wrong_place" ["numbers","ranks"] (Xb mg Ze8 K)
abbrev IL:Prop:=Cal ζ (Cxe ζ) 1 "check_small" ["strips"] (Xb mg OU K)
abbrev MJ:Prop:=Cal ζ CX0 1 "cost_to_come_next" ["strips","stand","number"] (Xb mg Zoh K)
abbrev M6:Prop:=Cal ζ CX0 1 "holders_from_left" ["field"] (Xb mg Zlm K)
abbrev MF:Prop:=Cal ζ CX0 1 "field_of_stand" ["strips","stand"] (Xb mg Zg8 K)
abbrev Eo:Prop:=Cal ζ (Cxe ζ) 1 "check_place" ["strips","place"] (Xb mg Zei K)
abbrev Et:Prop:=Cam ζ CX0 1 (Xv K (Xo ζ) "strips") ["self"] (Xb mg (Zfv<|Xo ζ) K)
abbrev MS:Prop:=Cam ζ CX0 1 (Xv K (Xo ζ) "wishes") ["self"] (Xb mg (Zej<|Xo ζ) K)
abbrev Lg:Prop:=Cam ζ (Cxe ζ) 1 (Xv K (Xo ζ) "check_room") ["self"] (Xb mg (Zjq<|Xo ζ) K)
abbrev LD:Prop:=Cam ζ CX0 1 (Xv K (Xo ζ) "enter") ["self","deed","field","wishes"] (Pu.spW mg (Zh3<|Xo ζ) K)
abbrev Oq:Prop:=Cal ζ CX0 1 "_law_at" ["_law_script","_law_k"] (Xb mg Zc8 K)
abbrev Hn:Prop:=Cal ζ CX0 1 "_law_whole" ["_law_found"] (Xb mg Zix K)
abbrev HN:Prop:=Cal ζ CX0 1 "_law_mix" ["_law_cell","_law_place"] (Xb mg Zhg K)
abbrev Ml:Prop:=Cal ζ CX0 1 "_law_menu" ["_law_cell"] (Xb mg O3 K)
abbrev HS:Prop:=Cal ζ CX0 1 "_law_holder" ["_law_menu_here","_law_k"] (Xb mg Zf8 K)
abbrev IJ:Prop:=Cal ζ CX0 1 "_law_present" ["_law_strips_here"] (Xb mg Zh6 K)
abbrev Lj:Prop:=Cal ζ CX0 1 "_law_ring" ["_law_holders","_law_wishes_here"] (Xb mg Zl9 K)
abbrev Gq:Prop:=Cal ζ CX0 1 "_law_with_round" ["_law_wishes_here","_law_holders","_law_cell"] (Xb mg R9 K)
abbrev Zcm:Prop:=Cal ζ CX0 1 "_law_shuffled" ["_law_holders","_law_cell"] (Xb mg Mn K)
abbrev Ew:Prop:=Cal ζ (Cxe ζ) 2 "check_strips" ["strips"] (Xb mg Zdr K)
abbrev GD:Prop:=Cal ζ CX0 2 "lies_together" ["strips"] (Xb mg Zk0 K)
abbrev DQ:Prop:=Cal ζ (Cxe ζ) 2 "check_order" ["strips","order"] (Xb mg RT K)
abbrev GQ:Prop:=Cal ζ CX0 2 "ring_from" ["least","holders","wishes"] (Xb mg Zk1 K)
abbrev Od:Prop:=Cal ζ CX0 2 "pair_costs" ["strips"] (Xb mg Ziv K)
abbrev EG:Prop:=Cal ζ CX0 2 "cost_with_last" ["members","last","least","pairs"] (Xb mg O2 K)
abbrev EM:Prop:=Cal ζ CX0 2 "cost_with_first" ["members","first","least","pairs"] (Xb mg Zcd K)
abbrev EY:Prop:=Cal ζ CX0 2 "longer_stands" ["strips","stands"] (Xb mg Zil K)
abbrev Gc:Prop:=Cal ζ (Cxe ζ) 2 "sold" ["strips","place","holder"] (Xb mg Zin K)
abbrev LZ:Prop:=Cal ζ (Cxe ζ) 2 "with_wish" ["wishes","ahead","behind"] (Xb mg Zbo K)
abbrev MT:Prop:=Cal ζ CX0 2 "_law_draw" ["_law_script","_law_k"] (Xb mg OB K)
abbrev Oc:Prop:=Cal ζ CX0 2 "_law_spare" ["_law_script"] (Xb mg Znq K)
abbrev M3:Prop:=Cal ζ CX0 2 "_law_row" ["_law_found","_law_due"] (Xb mg Zmo K)
abbrev Ht:Prop:=Cal ζ CX0 2 "_law_tuples" ["_law_found","_law_due"] (Xb mg Zjd K)
abbrev Om:Prop:=Cal ζ (Cxe ζ) 3 "gathered" ["strips","order"] (Xb mg Ra K)
abbrev Gb:Prop:=Cal ζ CX0 3 "find_ring" ["holders","wishes"] (Xb mg Zhl K)
abbrev HF:Prop:=Cal ζ CX0 3 "least_costs" ["strips","wishes","pairs"] (Xb mg Zmm K)
abbrev GZ:Prop:=Cal ζ CX0 3 "told_moves" ["strips","order"] (Xb mg Zhp K)
abbrev Ot:Prop:=Cal ζ (Cxe ζ) 3 "all_stands" ["strips"] (Xb mg Zj0 K)
abbrev Lx:Prop:=Cal ζ CX0 3 "is_melded" ["field","wishes"] (Xb mg Zb6 K)
abbrev Mz:Prop:=Cam ζ (Cxe ζ) 3 (Mk K<|Xo ζ) ["self","strips"] (Pu.spW mg (Znz<|Xo ζ) K)
abbrev GY:Prop:=Cam ζ (Cxe ζ) 3 (Xv K (Xo ζ) "wish") ["self","ahead","behind"] (Pu.spW mg (Zg1<|Xo ζ) K)
abbrev MU:Prop:=Cal ζ CX0 3 "_law_strips" ["_law_script","_law_menu_here","_law_many"] (Xb mg Zam K)
abbrev DS:Prop:=Cal ζ CX0 3 "_law_wishes" ["_law_script","_law_menu_here"] (Xb mg Zhu K)
abbrev Ms:Prop:=Cal ζ (Cxe ζ) 4 "check_no_ring" ["strips","wishes"] (Xb mg Zn5 K)
abbrev I0:Prop:=Cam ζ CX0 4 (Xv K (Xo ζ) "ring") ["self"] (Xb mg (Zmv<|Xo ζ) K)
abbrev G3:Prop:=Cal ζ (Cxe ζ) 5 "cost_table" ["strips","wishes"] (Xb mg OS K)
abbrev Eg:Prop:=Cal ζ (Cxe ζ) 5 "best_order" ["strips","wishes"] (Xb mg Zm7 K)
abbrev HP:Prop:=Cal ζ (Cxe ζ) 5 "least_by_stands" ["strips","wishes"] (Xb mg RL K)
abbrev Gx:Prop:=Cal ζ (Cxe ζ) 6 "least_cost" ["strips","wishes"] (Xb mg Zno K)
abbrev Mf:Prop:=Cam ζ (Cxe ζ) 6 (Xv K (Xo ζ) "order") ["self"] (Xb mg (Za1<|Xo ζ) K)
abbrev DO:Prop:=Cam ζ (Cxe ζ) 6 (Xv K (Xo ζ) "table") ["self"] (Xb mg (OP<|Xo ζ) K)
abbrev IG:Prop:=Cam ζ (Cxe ζ) 7 (Xv K (Xo ζ) "cost") ["self"] (Xb mg (Znb<|Xo ζ) K)
abbrev M7:Prop:=Cam ζ (Cxe ζ) 7 (Xv K (Xo ζ) "moves") ["self"] (Xb mg (Zhs<|Xo ζ) K)
abbrev E1:Prop:=Cam ζ (Cxe ζ) 7 (Xv K (Xo ζ) "melded") ["self"] (Xb mg (Zkm<|Xo ζ) K)
abbrev GE:Prop:=Cam ζ (Cxe ζ) 8 (Xv K (Xo ζ) "offer") ["self","place","holder"] (Xb mg (RJ<|Xo ζ) K)
abbrev IH:Prop:=Cal ζ (Cxe ζ) 9 "_law_named" ["_law_which","_law_strips_here","_law_wishes_here","_law_village"] (Xb mg (OZ<|Xo ζ) K)
abbrev HW:Prop:=Cal ζ CX0 10 "_law_ringed" ["_law_which","_law_strips_here","_law_wishes_here","_law_village","_law_due"] (Xb mg (Zic<|Xo ζ) K)
abbrev Zmf:Prop:=Cal ζ CX0 11 "law" ["_law_script"] (Xb mg Ov K)
end M
namespace M
open L2 Own Pu
def BI{os:ZV}(b:os.Nodup){j:Nat}(f:j<os.length):os.idxOf os[j]=j:=b.idxOf_getElem j f
def take_mem{os:ZV}{j:Nat}{z:Int}(b:j<os.length):z∈os.take (j+1)↔z∈os.take j\/z=os[j]:=by
 rw[W4 b,WD,Wx]
def Zk5{os:ZV}(b:os.Nodup){x:Int}{j:Nat}(hx:x∈os):x∈os.take j↔os.idxOf x<j:=by
 obtain⟨k,f,rfl⟩:=WJ.mp hx;rw[BI b f];constructor
 ·intro h;obtain⟨m,g,e⟩:=WJ.mp h;rw[WG]at g;rw[Qg]at e;have a1:=BI b (j:=m) (by lia);rw[e,BI b f]at a1;lia
 ·intro h;exact WJ.mpr ⟨k,by rw[WG];lia,by rw[Qg]⟩
def Zld{os:ZV}(g:os.Nodup)(q:Int×Int):Pt os q=(decide (q.1∈os)&&decide (q.2∈os)&&decide (os.idxOf q.2<os.idxOf q.1)):=by
 unfold Pt;by_cases f:q.1∈os
 ·by_cases b:q.2∈os
  ·simp only[f,b,decide_true,Jj,Zk5 g b]
  ·have:¬q.2∈os.take (os.idxOf q.1):=λz=>b (VC z)
   simp[f,b,this]
 ·simp[f]
def Pd(ps:List (ZV))(b:ZV)(i j:Nat)(p:ZV)(h:Int):Prop:=(p∈ps.take i/\h∈b)\/(ps[i]?=some p/\h∈b.take j)
structure LGs (ws:ZU) (l:Int) (P:ZV->Int->Prop) (ls:ZV) (lg:List (ZV)) (kvs:List (Key×V)):Prop where
 g:LG ws l P lg
 nd:(lg.map<|Xf l).Nodup
 sub:∀h∈lg.map (Xf l),h∈ls
 rc:∀h:Int,(Xi kvs<|.inl h).isSome=true↔h∈lg.map (Xf l)
 len:kvs.length<=lg.length
def LGs.len_le {h:ZU}{l:Int}{P:ZV->Int->Prop}{f:ZV}{g:List (ZV)}{b:List (Key×V)} (L:LGs h l P f g b):g.length<=f.length:=by
 have:=Sn L.nd L.sub
 rwa[Wv]at this
def LG.congr {f:ZU}{l:Int}{P n:ZV->Int->Prop}{g:List (ZV)} (h:∀p x,P p x↔n p x) (G:LG f l P g):LG f l n g:=
 ⟨λq hq=>let ⟨p,x,a,b⟩:=G.mem q hq;⟨p,x,(h p x).mp a,b⟩,G.srt,λp x a b=>G.has p x ((h p x).mpr a) b⟩
def LGs.congr {f:ZU}{l:Int}{P q:ZV->Int->Prop}{n:ZV}{o:List (ZV)}{b:List (Key×V)} (h:∀p x,P p x↔q p x) (G:LGs f l P n o b):LGs f l q n o b:=⟨G.g.congr h,G.nd,G.sub,G.rc,G.len⟩
def LGs.start {ps:List (ZV)}{b:ZV}{f:ZU}{l:Int}:LGs f l (Pd ps b 0 0) b [] []:=by
 refine⟨⟨(λq hq=>by cases hq),List.Pairwise.nil,λp h a=>?_⟩,QI,(λh g=>by cases g),(λh=>by simp[Xi]),W3 _⟩;rcases a with⟨a,_⟩|⟨_,a⟩
 ·rw[Q7]at a;cases a
 ·rw[Q7]at a;cases a
def LGs.skip {ps:List (ZV)}{f:ZV}{u:ZU}{l:Int}{A:List (ZV)}{n:List (Key×V)}{i j:Nat}{p:ZV}{h:Int} (w:ps[i]?=some p) (L:f[j]?=some h) (C:ps.Pairwise sl)
  (G:LGs u l (Pd ps f i j) f A n) (no:(Xi n<|.inl h).isSome=true\/(Xf l p,h)∉u):LGs u l (Pd ps f i (j+1)) f A n:=by
 obtain⟨H,M⟩:=WI.mp L;obtain⟨J,ei⟩:=WI.mp w;have y:∀x,x∈f.take (j+1)↔x∈f.take j\/x=h:=λx=>by rw[W4 H,WD,Wx,M]
 refine⟨⟨λq hq=>?_,G.g.srt,λs x a b=>?_⟩,G.nd,G.sub,G.rc,G.len⟩
 ·obtain⟨s,x,a,b⟩:=G.g.mem q hq;exact⟨s,x,a.imp id λz=>⟨z.1,(y x).mpr (.inl z.2)⟩,b⟩
 ·rcases a with a|⟨a1,a2⟩
  ·exact G.g.has s x (.inl a) b
  ·rcases(y x).mp a2 with a2|rfl
   ·exact G.g.has s x (.inr ⟨a1,a2⟩) b
   ·rw[w]at a1;cases a1
    rcases no with no|no
    ·obtain⟨q,hq,e⟩:=WK.mp ((G.rc x).mp no);obtain⟨v,B,o,rfl,N⟩:=G.g.mem q hq;have ex:B=x:=by rw[Kv]at e;exact e
     subst ex;refine⟨v,hq,?_⟩;rcases o with⟨o,_⟩|⟨o,_⟩
     ·obtain⟨m,E,r⟩:=WJ.mp o;rw[WG]at E;rw[Qg]at r
      have:=WY.mp C m i (by lia) J (by lia)
      rw[r,ei]at this;exact .inr this
     ·rw[w]at o;cases o
      exact .inl rfl
    ·exact absurd b no
def LGs.put {ps:List (ZV)}{r:ZV}{v:ZU}{l:Int}{y:List (ZV)}{s:List (Key×V)}{i j:Nat}{p:ZV}{h:Int} (A:ps[i]?=some p) (hh:r[j]?=some h) (T:ps.Pairwise sl) (U:r.Pairwise (· < ·))
  (G:LGs v l (Pd ps r i j) r y s) (new:(Xi s<|.inl h).isSome=false) (hw:(Xf l p,h)∈v):LGs v l (Pd ps r i (j+1)) r (y++[p++[h]]) (putK s (.inl h)<|.bl true):=by
 obtain⟨J,L⟩:=WI.mp hh;obtain⟨Y,ei⟩:=WI.mp A;have B:∀x,x∈r.take (j+1)↔x∈r.take j\/x=h:=λx=>by rw[W4 J,WD,Wx,L]
 have C:Xf l (p++[h])=h:=by rw[Kv];rfl
 have M:h∉y.map (Xf l):=λz=>by rw[(G.rc h).mpr z]at new;cases new
 refine⟨⟨λq hq=>?_,?_,λf x a b=>?_⟩,?_,λx hx=>?_,λx=>?_,?_⟩
 ·rcases WD.mp hq with hq|hq
  ·obtain⟨f,x,a,b⟩:=G.g.mem q hq;exact⟨f,x,a.imp id λz=>⟨z.1,(B x).mpr (.inl z.2)⟩,b⟩
  ·rw[Wx.mp hq];exact⟨p,h,.inr ⟨A,(B h).mpr (.inr rfl)⟩,rfl,hw⟩
 ·refine Q4.mpr ⟨G.g.srt,by simp,λq hq q' E=>?_⟩;rw[Wx.mp E];obtain⟨f,x,a,rfl,b⟩:=G.g.mem q hq;rcases a with⟨a,_⟩|⟨a1,a2⟩
  ·obtain⟨m,H,o⟩:=WJ.mp a;rw[WG]at H;rw[Qg]at o
   have:=WY.mp T m i (by lia) Y (by lia)
   rw[o,ei]at this;exact F3 x h this
  ·rw[A]at a1;cases a1
   obtain⟨m,H,o⟩:=WJ.mp a2;rw[WG]at H;rw[Qg]at o
   have:=WY.mp U m j (by lia) J (by lia)
   rw[o,L]at this;exact Aj this
 ·have u:∀f x,Pd ps r i j f x->(Xf l f,x)∈v->∃n,n++[x]∈y++[p++[h]]/\(n=f\/sl n f):=λf x a b=>let ⟨n,Q,N⟩:=G.g.has f x a b;⟨n,QB _ Q,N⟩;rcases a with a|⟨a1,a2⟩
  ·exact u f x (.inl a) b
  ·rcases(B x).mp a2 with a2|rfl
   ·exact u f x (.inr ⟨a1,a2⟩) b
   ·rw[A]at a1;cases a1
    exact⟨p,WV _ (Wx.mpr rfl),.inl rfl⟩
 ·rw[WC,V1,C];refine Qf.mpr ⟨G.nd,by simp,λa ha b hb=>?_⟩;rw[Wx.mp hb];rintro rfl;exact M ha
 ·rw[WC,V1,C]at hx;rcases WD.mp hx with hx|hx
  ·exact G.sub x hx
  ·rw[Wx.mp hx,←L];exact WN J
 ·rw[WC,V1,C,SZ,WD,Wx];by_cases e:x=h
  ·subst e;rw[W5 rfl];exact⟨λ_=>.inr rfl,λ_=>rfl⟩
  ·rw[W2 (λz=>e (Sum.inl.inj z)),G.rc];exact⟨.inl,λz=>z.elim id λw=>absurd w e⟩
 ·rw[WA]
  have:=SR s (.inl h) (.bl true)
  have:=G.len
  simp;lia
def BK{b:Type}{xs:List b}{i:Nat}{d:b}(h:i<xs.length):xs.getD i d=xs[i]:=by rw[W7,Ww h];rfl
def Hx{b:Type}{xs:List b}{i:Nat}{d:b}(h:i<xs.length):xs.getD i d=xs[i]:=by rw[W7,Ww h];rfl
def Znu{ns:ZV}{p:Int}(h:1<=p)(g:p<ns.length){b1:p.toNat<ns.length}{b2:(p-1).toNat<ns.length}:cutD (ns.map D.int) none (some (p-1))++[D.int ns[p.toNat],D.int ns[(p-1).toNat]]++cutD (ns.map D.int) (some (p+1)) none=(K4 ns p.toNat).map D.int:=by
 unfold K4;rw[Te,Te,Ff ns (by lia),Fj ns (by lia),WC,WC];have f:p.toNat-1=(p-1).toNat:=by lia
 have b:p.toNat+1=(p+1).toNat:=by lia
 rw[f,b,Hx b1,Hx b2];rfl
noncomputable def eL(w:ZV):D:=.lst (w.map D.int)
def GN(b:ZV)(f:ZU)(k:Nat)(w:ZV):Prop:=∃l t,w=l::t/\l∈b/\Path (Gr b l) f l t/\(l::t).Nodup/\t.length=k
structure TY (hs:ZV) (ws:ZU) (k:Nat) (rows:List (ZV)):Prop where
 mem:∀w,w∈rows↔GN hs ws k w
 srt:rows.Pairwise sl
def NoC(b:ZV)(f:ZU)(k:Nat):Prop:=∀l t,l∈b->XG b f l t->(l::t).Nodup->t.length<=k->False
def B8(b:ZU)(w:ZV):Prop:=∃l t,w=l::t/\(Xf l t,l)∈b
section
variable {hs:ZV}{ws:ZU}{k:Nat}{rows:List (ZV)}{r:ZV}
def Zj7{l:Int}{t:ZV}(g:l∈hs)(b:Path (Gr hs l) ws l t)(f:(l::t).Nodup)(h:k<=t.length):GN hs ws k (l::t.take k):=by
 have e:t=t.take k++t.drop k:=(Vl k t).symm;rw[e]at b;refine⟨l,t.take k,rfl,g,(path_app.mp b).1,f.sublist ?_,by rw[WG];omega⟩;exact(QT k t).cons₂ l
def NoC.next (L:TY hs ws (k+1) rows) (h:∀w∈rows,¬B8 ws w) (N:NoC hs ws k):NoC hs ws (k+1):=λl t g b f n=>by
 by_cases c:t.length<=k
 ·exact N l t g b f c
 ·exact h _ ((L.mem _).mpr ⟨l,t,rfl,g,b.1,f,by omega⟩) ⟨l,t,rfl,b.2⟩
def NoC.zero (b:∀q∈ws,q.1≠q.2):NoC hs ws 0:=λl t n f h g=>by
 have:t=[]:=Q2.mp (by omega)
 subst this;exact b _ f.2 rfl
def Zj2(h:∀q∈ws,q.1≠q.2)(F:FR hs ws r)(L:TY hs ws k [])(N:NoC hs ws k):r=[]:=by
 rcases F with⟨e,_⟩|⟨l,t,rfl,b,g,n⟩
 ·exact e
 ·have R:=BU h b g λu f=>by rcases n l b u f with z|⟨z,_⟩<;>omega
  by_cases c:t.length<=k
  ·exact(N l t b g R.nodup c).elim
  ·have:=(L.mem _).mpr (Zj7 (k:=k) b g.1 R.nodup<|by omega)
   cases this
def MM{a b:ZV}(g:sl a b)(f:sl b a):False:=Cj (Bs g f)
def Zmt(H:∀q∈ws,q.1≠q.2)(F:FR hs ws r)(L:TY hs ws (k+1) rows)(N:NoC hs ws k){i:Nat}(C:i<rows.length)(Y:B8 ws rows[i])(U:∀w∈rows.take i,¬B8 ws w):r=rows[i]:=by
 obtain⟨m,u,E,x,M,hn,B⟩:=(L.mem rows[i]).mp (WN C);obtain⟨m',u',n,y⟩:=Y;rw[E]at n;cases n
 have g:XG hs ws m u:=⟨M,y⟩;rcases F with⟨_,F⟩|⟨l,t,rfl,p,f,b⟩
 ·exact absurd g (F m x u)
 ·have R:=BU H p f λv G=>by rcases b l p v G with z|⟨z,_⟩<;>omega
  have ht:¬t.length<=k:=λz=>N l t p f R.nodup z;have s:t.length=k+1:=by rcases b m x u g with z|⟨z,_⟩<;>omega
  have J:(l::t)∈rows:=(L.mem _).mpr ⟨l,t,rfl,p,f.1,R.nodup,s⟩;obtain⟨j,Q,A⟩:=WJ.mp J;have T:i<=j:=Nat.le_of_not_lt λz=>U (l::t) (WJ.mpr ⟨j,by rw[WG];omega,by rw[Qg,A]⟩) ⟨l,t,rfl,f.2⟩;by_cases e:i=j
  ·subst e;exact A.symm
  ·have o:=WY.mp L.srt i j C Q (by omega);rw[E,A]at o;exfalso;rcases b m x u g with z|⟨_,z⟩
   ·omega
   ·rcases z with z|⟨z,h⟩
    ·exact MM o (.inl z)
    ·subst z;rcases h with h|h
     ·subst h;exact Cj o
     ·exact MM o (sl_cons.mpr h)
end
def Okh(b:ZU)(l:Int)(t:ZV)(h:Int):Prop:=l<h/\¬h∈l::t/\(Xf l t,h)∈b
def PdR(rows:List (ZV))(ns:ZV)(i j:Nat)(w:ZV)(h:Int):Prop:=(w∈rows.take i/\h∈ns)\/(rows[i]?=some w/\h∈ns.take j)
noncomputable def PN(o:Option (ZV))(h:Int):Bool:=match o with|some w=>decide (¬h∈w)|none=>true
structure GRs (ws:ZU) (rows:List (ZV)) (ns:ZV) (i j c:Nat) (g:List (ZV)):Prop where
 mem:∀q,q∈g↔∃l t h,PdR rows ns i j (l::t) h/\Okh ws l t h/\q=l::t++[h]
 srt:g.Pairwise sl
 len:g.length<=i*c+((ns.take j).filter (PN rows[i]?)).length
section
variable {ws:ZU}{rows:List (ZV)}{ns:ZV}{i j c:Nat}{g:List (ZV)}{l h:Int}{t:ZV}
def GRs.start:GRs ws rows ns 0 0 c []:=by
 refine⟨λq=>⟨(λz=>by cases z),?_⟩,List.Pairwise.nil,by simp⟩;rintro⟨l,t,h,z|z,_⟩
 ·have:=z.1;rw[Q7]at this;cases this
 ·have:=z.2;rw[Q7]at this;cases this
def GRs.take_mem (f:ns[j]?=some h) (x:Int):x∈ns.take (j+1)↔x∈ns.take j\/x=h:=by
 obtain⟨b,n⟩:=WI.mp f;rw[W4 b,WD,Wx,n]
def GRs.skip (hw:rows[i]?=some (l::t)) (u:ns[j]?=some h) (G:GRs ws rows ns i j c g) (v:¬Okh ws l t h):GRs ws rows ns i (j+1) c g:=by
 have s:=GRs.take_mem u;obtain⟨w,A⟩:=WI.mp u;refine⟨λq=>(G.mem q).trans ⟨?_,?_⟩,G.srt,W9 G.len ?_⟩
 ·rintro⟨n,f,x,z,b,o⟩;exact⟨n,f,x,z.imp id λy=>⟨y.1,(s x).mpr (.inl y.2)⟩,b,o⟩
 ·rintro⟨n,f,x,z|⟨r,p⟩,b,o⟩
  ·exact⟨n,f,x,.inl z,b,o⟩
  ·rcases(s x).mp p with p|rfl
   ·exact⟨n,f,x,.inr ⟨r,p⟩,b,o⟩
   ·rw[hw]at r;cases r
    exact absurd b v
 ·rw[W4 w,VT,WA];omega
def GRs.put (hw:rows[i]?=some (l::t)) (B:ns[j]?=some h) (E:rows.Pairwise sl) (H:ns.Pairwise (· < ·)) (G:GRs ws rows ns i j c g) (ok:Okh ws l t h):GRs ws rows ns i (j+1) c (g++[l::t++[h]]):=by
 have u:=GRs.take_mem B;obtain⟨A,C⟩:=WI.mp B;obtain⟨J,ei⟩:=WI.mp hw;refine⟨λq=>?_,Q4.mpr ⟨G.srt,by simp,λq hq L v=>?_⟩,?_⟩
 ·rw[WD,Wx,G.mem q];constructor
  ·rintro(⟨p,o,x,z,s,r⟩|rfl)
   ·exact⟨p,o,x,z.imp id λy=>⟨y.1,(u x).mpr (.inl y.2)⟩,s,r⟩
   ·exact⟨l,t,h,.inr ⟨hw,(u h).mpr (.inr rfl)⟩,ok,rfl⟩
  ·rintro⟨p,o,x,z|⟨f,n⟩,s,r⟩
   ·exact .inl ⟨p,o,x,.inl z,s,r⟩
   ·rcases(u x).mp n with n|rfl
    ·exact .inl ⟨p,o,x,.inr ⟨f,n⟩,s,r⟩
    ·rw[hw]at f;cases f
     exact .inr r
 ·rw[Wx.mp v];obtain⟨p,o,x,z,s,rfl⟩:=(G.mem q).mp hq;rcases z with⟨z,_⟩|⟨f,n⟩
  ·obtain⟨m,w,b⟩:=WJ.mp z;rw[WG]at w;rw[Qg]at b
   have:=WY.mp E m i (by omega) J (by omega)
   rw[b,ei]at this;exact F3 x h this
  ·rw[hw]at f;cases f
   obtain⟨m,w,b⟩:=WJ.mp n;rw[WG]at w;rw[Qg]at b
   have:=WY.mp H m j (by omega) A (by omega)
   rw[b,C]at this;exact Aj this
 ·have e:(ns.take (j+1)).filter (PN rows[i]?)=(ns.take j).filter (PN rows[i]?)++[h]:=by
   rw[W4 A,VT,C]
   have:PN rows[i]? h=true:=by
    rw[hw];exact W1 ok.2.1
   rw[Vx this,List.filter_nil]
  rw[e,WA,WA]
  have:=G.len
  simp;omega
def Ru{w:ZV}(n:ns.Nodup)(hw:w.Nodup)(f:∀x∈w,x∈ns):(ns.filter<|PN<|some w).length+w.length<=ns.length:=by
 have:(ns.filter (PN<|some w)++w).length<=ns.length:=by
  refine Sn (Qf.mpr ⟨n.filter _,hw,λa p b o=>?_⟩) λx hx=>?_
  ·rintro rfl
   have:=(WM.mp p).2
   exact W6 this o
  ·rcases WD.mp hx with hx|hx
   ·exact(WM.mp hx).1
   ·exact f x hx
 rwa[WA]at this
def GRs.row (hw:rows[i]?=some (l::t)) (u:(ns.filter<|PN<|some (l::t)).length<=c) (G:GRs ws rows ns i ns.length c g):GRs ws rows ns (i+1) 0 c g:=by
 obtain⟨s,ei⟩:=WI.mp hw;refine⟨λq=>(G.mem q).trans ⟨?_,?_⟩,G.srt,?_⟩
 ·rintro⟨n,f,x,z,p,o⟩;refine⟨n,f,x,.inl ?_,p,o⟩;rw[W4 s,WD,Wx,ei];rcases z with z|⟨b,r⟩
  ·exact⟨.inl z.1,z.2⟩
  ·rw[hw]at b;rw[WX]at r;exact⟨.inr (WL b).symm,r⟩
 ·rintro⟨n,f,x,z|⟨_,z⟩,p,o⟩
  ·rw[W4 s,WD,Wx,ei]at z;rcases z.1 with b|b
   ·exact⟨n,f,x,.inl ⟨b,z.2⟩,p,o⟩
   ·exact⟨n,f,x,.inr ⟨by rw[hw,b],by rw[WX];exact z.2⟩,p,o⟩
  ·rw[Q7]at z;cases z
 ·have:=G.len
  rw[WX,hw]at this;rw[Nat.succ_mul];simp;omega
def GRs.all {r:ZV}{k:Nat} (y:∀x,x∈ns↔x∈r) (L:TY r ws k rows) (G:GRs ws rows ns rows.length 0 c g):TY r ws (k+1) g:=by
 refine⟨λq=>(G.mem q).trans ⟨?_,?_⟩,G.srt⟩
 ·rintro⟨l,t,x,z|⟨_,z⟩,p,rfl⟩
  ·rw[WX]at z;obtain⟨Q,M,e,v,u,n,f⟩:=(L.mem _).mp z.1;cases e
   refine⟨l,t++[x],rfl,v,path_app.mpr ⟨u,⟨(y x).mp z.2,p.1⟩,p.2.2,trivial⟩,?_,by simp[f]⟩;rw[←QA];refine Qf.mpr ⟨n,by simp,λa J b H=>?_⟩;rw[Wx.mp H];rintro rfl;exact p.2.1 J
  ·rw[Q7]at z;cases z
 ·rintro⟨l,t,rfl,v,u,n,f⟩;have o:t≠[]:=λz=>by rw[z]at f;cases f
  have w:t=t.dropLast++[t.getLast o]:=(Vd o).symm;generalize t.getLast o=x at w;generalize t.dropLast=s at w;subst w;obtain⟨B,p2,A,_⟩:=path_app.mp u;rw[←QA]at n;obtain⟨E,N,C⟩:=Qf.mp n;refine⟨l,s,x,.inl ⟨?_,(y x).mpr p2.1⟩,⟨p2.2,λz=>C x z x (Wx.mpr rfl) rfl,A⟩,rfl⟩;rw[WX];exact(L.mem _).mpr ⟨l,s,rfl,v,B,E,by simpa using f⟩
end
noncomputable def fall:Nat->Nat
 | 0=>10
 |k+1=>fall k*(9-k)
def Zfe:∀k,fall k<=3628800:=by
 have z:∀k,fall (10+k)=0:=by
  intro k
  induction k with
  |zero=>decide
  |succ k b=>show fall (10+k)*_=0;rw[b,Nat.zero_mul]
 intro k;by_cases h:k<10
 ·have:∀k,k<10->fall k<=3628800:=by decide
  exact this k h
 ·have:=z (k-10)
  rw[show 10+(k-10)=k by omega]at this;omega
noncomputable def F2(b:List (Option Pu.S)):Nat:=match (b[2]?:Option (Option Pu.S))with
 |some (some<|Pu.S.sh<|Pu.D.lst (Pu.D.lst f::_))=>20-f.length
 |_=>0
def Lk(l:Int)(t:ZV):atI ((l::t).map D.int) (-1)=some (.int<|Xf l t):=BD l t
noncomputable def Xx(b:ZV)(c:Int):Int:=if 2+c / 2 % 9<(((b.map D.int).length:Nat):Int)then 2+c / 2 % 9 else(((b.map D.int).length:Nat):Int)
def Zde(b:ZV)(c:Int):0<=Xx b c/\Xx b c<=b.length:=by
 unfold Xx;rw[Wv];split<;>omega
def Laid(b:ZU):Prop:=b.Nodup/\∀q∈b,(1<=q.1/\q.1<=10/\1<=q.2/\q.2<=10)/\q.1≠q.2
def Laid.put {g:ZU}{q:Int×Int} (h:Laid g) (l:¬q∈g) (hq:(1<=q.1/\q.1<=10/\1<=q.2/\q.2<=10)/\q.1≠q.2):Laid (g++[q]):=by
 refine⟨Qf.mpr ⟨h.1,by simp,λa o b n=>?_⟩,λp f=>?_⟩
 ·rw[Wx.mp n];rintro rfl;exact l o
 ·rcases WD.mp f with f|f
  ·exact h.2 p f
  ·rw[Wx.mp f];exact hq
def Zgt{n f g:ZU}{k:Nat}(r:Pr n)(p:f.Sublist (n.filter λq=>decide (¬q∈g)))(s:Laid g):Pr ((f.take k++g++f.drop k).take 20):=by
 have l:∀q∈f,q∈n/\¬q∈g:=λq hq=>by
  have:=WM.mp (p.subset hq)
  exact⟨this.1,W6 this.2⟩
 have o:(f.take k++g++f.drop k).Perm (f++g):=by
  have:(f.take k++g++f.drop k).Perm (f.take k++(f.drop k++g)):=by
   rw[QD];exact List.Perm.append_left _ List.perm_append_comm
  rw[←QD,Vl]at this;exact this
 have u:(f.take k++g++f.drop k).Nodup:=by
  rw[o.nodup_iff];refine Qf.mpr ⟨(r.2.1.filter _).sublist p,s.1,λa w b v=>?_⟩;rintro rfl;exact(l a w).2 v
 refine⟨by rw[WG];omega,u.sublist (QT _ _),λq hq=>?_⟩;rcases WD.mp (o.mem_iff.mp<|VC hq)with h|h
 ·exact r.2.2 q (l q h).1
 ·exact s.2 q h
def Al{b:ZU}{lo f:Option Int}(h:b.length<=20):(cutD (b.map prD) lo f).length<=20:=by
 have:=(PX (b.map prD) lo f).length_le
 rw[Wv]at this;omega
def Zck(b f:ZU){n:Int}(h:0<=n):cutD (cutD (b.map prD) none (some n)++f.map prD++cutD (b.map prD) (some n) none) none (some 20)=((b.take n.toNat++f++b.drop n.toNat).take 20).map prD:=by
 rw[Te,Te,Ff b h,Fj b h,←WC,←WC,Te,Ff _ (by decide)];rfl
theorem GT{b:Type}{c:b->Bool}:∀{xs:List b}{x:b}{r:List b},xs.filter c=x::r->∃i,∃n:i<xs.length,xs[i]=x/\c x=true/\∀j (g:j<xs.length),j<i->c xs[j]=false
 |[],x,r,h=>by cases h
 |y::s,x,r,h=>by
  by_cases f:c y=true
  ·rw[Vx f]at h;cases h
   exact⟨0,by simp,rfl,f,λj _ g=>by lia⟩
  ·rw[VY f]at h;obtain⟨i,n,q,p,o⟩:=GT h;refine⟨i+1,by simp;lia,by simpa using q,p,λj g l=>?_⟩;cases j with
   |zero=>simpa using f
   |succ j=>simpa using o j (by simpa using g) (by lia)
def Ee(c:Int->Bool):∀b:ZV,b.filterMap (λq=>if c q=true then some (D.int q)else none)=(b.filter c).map D.int:=Kz c D.int
def Zjg(ps:ZU)(os:ZV):(PQ ps os).length<=os.length*ps.length:=by
 unfold PQ
 induction os with
 |nil=>simp
 |cons h r b=>
  rw[JK,WA,WW,Nat.add_mul]
  have:=Qk (λq:Int×Int=>decide (q.1=h)) ps
  lia
def FRi(f:ZV)(b:ZU)(ns:ZV)(r:ZV):Prop:=
 (r=[]/\∀l∈ns,∀t,¬XG f b l t)\/∃l t,r=l::t/\l∈ns/\XG f b l t/\∀m∈ns,∀u,XG f b m u->t.length<u.length\/(t.length=u.length/\(l<m\/(l=m/\(t=u\/sl t u))))
def FRi.keep {o:ZV}{n:ZU}{ns r f:ZV}{l:Int} (h:FRi o n ns r) (w:∀m∈ns,m<l) (b:RF o n l f) (c:f=[]\/(r≠[]/\r.length<=f.length)):FRi o n (ns++[l]) r:=by
 rcases h with⟨rfl,h⟩|⟨q,t,rfl,v,y,x⟩
 ·rcases c with rfl|⟨c,_⟩
  ·rcases b with⟨_,b⟩|⟨t,e,_⟩
   ·refine .inl ⟨rfl,λm hm=>?_⟩;rcases WD.mp hm with hm|hm
    ·exact h m hm
    ·rw[Wx.mp hm];exact b
   ·cases e
  ·exact absurd rfl c
 ·refine .inr ⟨q,t,rfl,QB _ v,y,λm hm u g=>?_⟩;rcases WD.mp hm with hm|hm
  ·exact x m hm u g
  ·rw[Wx.mp hm]at g ⊢;rcases b with⟨rfl,b⟩|⟨s,rfl,_,b⟩
   ·exact absurd g (b u)
   ·rcases c with c|⟨_,c⟩
    ·cases c
    ·have p:=w q v;simp at c;rcases b u g with z|⟨z,_⟩
     ·exact .inl (by lia)
     ·by_cases e:t.length<u.length
      ·exact .inl e
      ·exact .inr ⟨by lia,.inl p⟩
def FRi.take {n:ZV}{g:ZU}{ns r f:ZV}{l:Int} (h:FRi n g ns r) (x:∀m∈ns,m<l) (p:RF n g l f) (c:f≠[]/\(r=[]\/f.length<r.length)):FRi n g (ns++[l]) f:=by
 rcases p with⟨rfl,_⟩|⟨s,rfl,f1,v⟩
 ·exact absurd rfl c.1
 ·refine .inr ⟨l,s,rfl,WV _ (Wx.mpr rfl),f1,λm hm u b=>?_⟩;rcases WD.mp hm with hm|hm
  ·rcases h with⟨rfl,h⟩|⟨w,t,rfl,A,y,q⟩
   ·exact absurd b (h m hm u)
   ·rcases c.2 with c|c
    ·cases c
    ·simp at c;rcases q m hm u b with z|⟨z,_⟩
     ·exact .inl (by lia)
     ·exact .inl (by lia)
  ·rw[Wx.mp hm]at b ⊢;rcases v u b with z|⟨z,o⟩
   ·exact .inl z
   ·exact .inr ⟨z,.inr ⟨rfl,o⟩⟩
def FRi.all {b:ZV}{g:ZU}{ns r:ZV} (f:∀z,z∈ns↔z∈b) (h:FRi b g ns r):FR b g r:=by
 rcases h with⟨rfl,h⟩|⟨l,t,rfl,s,q,p⟩
 ·exact .inl ⟨rfl,λl o=>h l ((f l).mpr o)⟩
 ·exact .inr ⟨l,t,rfl,(f l).mp s,q,λm n=>p m ((f m).mpr n)⟩
noncomputable def Zca(b:List (Option Pu.S)):Nat:=match b[4]? with
 |some (some<|Pu.S.sh<|Pu.D.tup f)=>f.length
 |_=>0
def BB{b:Type}{xs:List b}{x:b}(h:xs[xs.length-1]?=some x):atI xs (-1)=some x:=by
 have f:=(WI.mp h).1;unfold atI ixN;rw[W2 (by lia),W5 (by lia)];show xs[_]?=some x;rw[←h];congr 1;lia
noncomputable def Cn(b:ZV):List D:=if b=[]then[]else[.bl true,.bl true]
def FR.congr {b os:ZV}{o:ZU}{r:ZV} (h:∀x,x∈b↔x∈os) (f:FR b o r):FR os o r:=by
 have e:Gr b=Gr os:=by
  funext l x;exact propext (and_congr_left λ_=>h x)
 unfold FR XG at *;rw[e]at f;rcases f with⟨n,g⟩|⟨l,t,n,g,u,s⟩
 ·exact .inl ⟨n,λl q=>g l ((h l).mpr q)⟩
 ·exact .inr ⟨l,t,n,(h l).mp g,u,λm p=>s m ((h m).mpr p)⟩
end M
namespace T
open L2 Own M
section
variable {P:Program}{w:World}{K:ZT}{mg:ZX}{base:Heap}
def Zof(G:Glob K mg)(D:Pu.Xt K (ExcR.Kh K<|ExcR.Xe mg "Ringed") "__init__" "Ringed.__init__" DF ["self","members"])
  : Pu.KB P w K mg base CX0 1 (ExcR.Kh K<|ExcR.Xe mg "Ringed") ["self","members"] (ExcR.S8 K):=by
 refine D.ok (k:=0) Zcz (λb H Q E h=>?_) (λf g A outer s H b Q E l h=>?_)
 ·obtain⟨_,_,_,_,_,rfl,_⟩:=h;rfl
 ·exact⟨_,TB (ExcR.Zbx (pv 0) (KO Dk (by rfl) G.Zg boot_list<|XB (pv 1) XA)<|by rfl),ExcR.Zm3 h rfl⟩
def Zgs(G:Glob K mg)(D:Def K mg "holders_of" Dy ["strips"])
  : Callee P w K mg base CX0 1 "holders_of" ["strips"] (Gf K):=by
 refine D.ok (k:=0) Zjb (λp H Q E h=>?_) (λf cdv A outer s H p Q E hr h=>?_)
 ·obtain⟨l,b,rfl,⟨p,v,u⟩,J,C,q⟩:=h;rfl
 ·obtain⟨l,b,rfl,⟨p,v,u⟩,J,C,q⟩:=h;refine⟨_,(TB<|Nb<|XF (Ll rfl) (by rfl) G.Zh Jh<|XB (KO (Zjr rfl) (by rfl) G.ZR boot_set<|XB (A4 (N':=["holder","width"]) (φ:=[none,none]) rfl (Nw.of<|by rfl) (G2<|pv 0) (λ_ _ _ _ _=>⟨(SJ (K:=K) (n:=2) rfl<|PH (AZ (i:=0) (show(["holder","width"]:Yc).Nodup from by decide +kernel) rfl (by first|exact Or.inl rfl|exact Or.inr rfl))<|PH (AZ (i:=1) (show(["holder","width"]:Yc).Nodup from by decide +kernel) rfl (by first|exact Or.inl rfl|exact Or.inr rfl)) Su),Na,(pv 0)⟩)) XA) XA),?_⟩
  have e1:=u.1;refine⟨_,rfl,l,rfl,⟨_,SqL.of v⟩,λD z=>Zeq (ds:=b) (λd=>some (V.int d.1)) (SqL.of v) e1 z (W9 C<|by decide) (λi x d H2 hx hd S k U=>?_) ?_⟩
  ·obtain⟨d',g,a,rfl,Y⟩:=u.get hx;rw[hd]at g;cases g
   exact⟨a,_,rfl,SqT.of (S _ _ Y),rfl,_,_,rfl,_,_,rfl,rfl,.skip (.skip .refl),_,rfl,U⟩
  ·have em:b.filterMap (λd=>some (V.int d.1))=(b.map (·.1)).map V.int:=by
    rw[V4,Qe];rfl
   rw[em];have S1:Same H (upd H D<|.lst ((b.map (·.1)).map V.int)):=X4 z;refine⟨D,b.map (·.1),rfl,SqL.of Xk,by rw[Wv];lia,λy M=>?_⟩;have L:=Own.Same.new (o:=T7 w y ((b.map (·.1)).foldl SetR.XQ [])) S1 M;refine⟨y,_,rfl,?_,.inr Xk,λr ns B T N=>?_⟩
   ·have:=Ef (b.map (·.1)) []
    rw[Wv]at this;simp at this ⊢;lia
   ·rw[Zf4 J T N];exact q r _ (L.free B) (Own.Same.new L B) Xk
def Zdg(G:Glob K mg)(D:Def K mg "_law_shuffled" Ak ["_law_holders","_law_cell"])
  : Callee P w K mg base CX0 1 "_law_shuffled" ["_law_holders","_law_cell"] (Ol K):=by
 refine D.ok (k:=0) S9 (λvs H Q E h=>?_) (λf cdv A outer s H vs Q E hr h=>?_)
 ·obtain⟨l,B,c,rfl,hl,hz,q⟩:=h;rfl
 ·obtain⟨l,B,c,rfl,hl,hz,q⟩:=h
  refine⟨_,(Tu (Pu.pz 2 S9.nd<|KO Dk (by rfl) G.Zg boot_list<|XB (pv 0) XA)
   (Tu (Pu.pz 3 S9.nd<|KM XA)
   (Tu (Pu.pz 4 S9.nd<|pv 1)
   (Tu (Mc WO (PY (M4 hr.units0) (pv 2) (KM XA)<|Ke _)
   (Tu (Pm<|TM Qv QP QR NG (pv 3)<|XB (A3 D7 (pv 2) (KU Xz (pv 4)<|XF AS (by rfl) G.len PySem.boot_len<|XB (pv 2) XA) (λ_ _=>rfl)) XA)
   (Tu (Pu.pz 4 S9.nd<|KU Kd (pv 4)<|XF AS (by rfl) G.len PySem.boot_len<|XB (pv 2) XA)
   (TB<|Pm<|TM Qv PySem.F.slot_list_remove PySem.F.type_list_remove Zdp (pv 2)<|XB (A3 D7 (pv 3) (PJ PD X1) (λ_ _=>rfl)) XA))))
   (TB<|Nb<|pv 3))))),?_⟩
  refine⟨_,rfl,_,_,rfl,.inl hl,λL nL=>⟨by decide,λO nO=>⟨_,rfl,?_⟩⟩⟩;have S1:=X4 (o:=.lst (B.map V.int)) nL;have S2:=Own.Same.new (o:=.lst []) S1 nO;have v:L≠O:=λz=>by rw[←z,Xk]at nO;cases nO
  have M:=S1.free nO;refine⟨λm σ y=>∃(xs os:ZV) (g:Int),m=xs.length/\σ=[some (.ref l),some (.int c),some (.ref L),some (.ref O),some (.int g)]/\y L=some (.lst<|xs.map V.int)/\y O=some (.lst<|os.map V.int)/\(os++xs).Perm B/\Same H y,⟨B.length,B,[],c,rfl,rfl,by rw[Xa v,Xk],Xk,List.Perm.refl _,S2⟩,?_⟩;rintro m σ y ⟨xs,os,g,rfl,rfl,hL,hO,hp,S⟩;refine⟨_,rfl,by decide,λe ne=>⟨L,e,_,_,rfl,rfl,SqL.of (by rw[Xa (Xy hL ne)];exact hL),SqL.of Xk,Tj xs,Tj [],_,rfl,?_⟩⟩;show if (!eqL (xs.map V.int) (([]:ZV).map V.int))=true then _ else _;rw[Cf];have S3:=Own.Same.new (o:=.lst []) S ne;have r:(upd y e<|.lst []) L=some (.lst<|xs.map V.int):=by rw[Xa (Xy hL ne)];exact hL
  have n:(upd y e<|.lst []) O=some (.lst<|os.map V.int):=by rw[Xa (Xy hO ne)];exact hO
  generalize upd y e (.lst [])=Y at S3 r n;have T:=hp.length_eq;rw[WA]at T;by_cases hx:xs=[]
  ·rw[W1 hx];subst hx;refine X5 ⟨_,rfl,q O Y os M S3 n ?_⟩;simpa using hp
  ·rw[Qb hx];have hpos:0<xs.length:=J6.mpr hx;refine Kr ⟨λC H'=>∃m',m'<xs.length/\∃(u J:ZV) (g:Int),m'=u.length/\C=[some (.ref l),some (.int c),some (.ref L),some (.ref O),some (.int g)]/\H' L=some (.lst<|u.map V.int)/\H' O=some (.lst<|J.map V.int)/\(J++u).Perm B/\Same H H',λC H' z=>z,?_⟩;have hi1:=V2 g (show(xs.length:Int)≠0 by omega);have hi2:=V3 g (show(0:Int)<xs.length by omega);have hk:(g % (xs.length:Int)).toNat<xs.length:=by omega
   have ai:atI (xs.map V.int) (g % (xs.length:Int))=some (.int xs[(g % (xs.length:Int)).toNat]):=P3 (BZ hi1<|Ww hk);generalize hz0:xs[(g % (xs.length:Int)).toNat]=z at ai;have N:z∈xs:=by rw[←hz0];exact WN hk
   refine⟨_,rfl,.inl ⟨rfl,_,SqL.of n⟩,_,rfl,_,rfl,_,rfl,_,_,rfl,.inl ⟨_,SqL.of r,rfl⟩,_,_,rfl,rfl,(by show(0:Int)<_;rw[Wv];omega),.inl ⟨L,xs.map V.int,g % ((xs.map V.int).length:Int),.int z,rfl,rfl,SqL.of r,by rw[Wv];exact ai,O,_,_,rfl,rfl,n,Ie (by rw[Wv];omega),?_⟩⟩;have x:(upd Y O<|.lst (os.map V.int++[.int z])) O=some (.lst ((os++[z]).map V.int)):=by rw[Xk,WC];rfl
   have p:(upd Y O<|.lst (os.map V.int++[.int z])) L=some (.lst<|xs.map V.int):=by rw[Xa v];exact r
   have S4:Same H (upd Y O<|.lst (os.map V.int++[.int z])):=λb o U=>by rw[Xa (Xy U M)];exact S3 b o U
   generalize upd Y O (.lst (os.map V.int++[.int z]))=H4 at S4 p x;refine⟨_,rfl,_,rfl,_,_,rfl,.inl ⟨_,SqL.of p,rfl⟩,_,_,rfl,rfl,⟨by rw[Wv];omega,by rw[Wv];omega⟩,?_⟩;have al:atI ((os++[z]).map V.int) (-1)=some (.int z):=by rw[WC];exact Zj1 _ _
   refine⟨_,rfl,.inl ⟨rfl,_,SqL.of p⟩,_,rfl,_,rfl,.inl ⟨O,_,_,_,rfl,rfl,SqL.of x,al,L,xs,z,rfl,rfl,p,N,?_⟩⟩;have hj:xs.idxOf z<xs.length:=Vu.mpr N;have e1:(xs.eraseIdx<|xs.idxOf z).length<xs.length:=by rw[List.length_eraseIdx_of_lt hj];omega
   refine⟨_,e1,xs.eraseIdx (xs.idxOf z),os++[z],_,rfl,rfl,Xk,by rw[Xa v.symm];exact x,?_,λb o U=>by rw[Xa (Xy U nL)];exact S4 b o U⟩;have pe:=SetR.BF xs (xs.idxOf z) hj;have ez:xs[xs.idxOf z]=z:=JF hj;rw[ez]at pe;rw[QD];exact(pe.append_left os).trans hp
end
open Pu
section
variable {P:Program}{w:World}{K:ZT}{mg:ZX}{base:Heap} (ζ:Fv P w K mg base)
variable (G:Glob K mg) (Y8:RB ζ) (Yn:MK ζ) (YA:L6 ζ) (Yj:Zjs ζ) (YB:Ea ζ) (YC:Ho ζ) (YD:ED ζ) (YE:MY ζ) (YF:Ir ζ) (Yo:MC ζ) (YG:EV ζ) (YH:E5 ζ) (Yu:GP ζ) (YI:Ij ζ) (YJ:Lo ζ) (Yv:LX ζ) (Yw:IL ζ) (YK:MJ ζ) (YL:M6 ζ) (YM:MF ζ) (YN:Eo ζ) (Yi:Et ζ) (Yk:MS ζ) (YO:Lg ζ) (YQ:LD ζ) (Yl:Oq ζ) (Yx:Hn ζ) (Yy:HN ζ) (YR:Ml ζ) (Yp:HS ζ) (YS:IJ ζ) (YT:Lj ζ) (YU:Gq ζ) (YV:Zcm ζ) (YW:Ew ζ) (YX:GD ζ) (Yz:DQ ζ) (YY:GQ ζ) (Y0:Od ζ) (YZ:EG ζ) (Wa:EM ζ) (Wb:EY ζ) (Wc:Gc ζ) (Wd:LZ ζ) (Ym:MT ζ) (We:Oc ζ) (Y1:M3 ζ) (Y2:Ht ζ) (Wf:Om ζ) (Y3:Gb ζ) (Y4:HF ζ) (Wg:GZ ζ) (Wh:Ot ζ) (Wi:Lx ζ) (Wj:Mz ζ) (Wk:GY ζ) (Wl:MU ζ) (Wm:DS ζ) (Yq:Ms ζ) (Wn:I0 ζ) (Yr:G3 ζ) (Y5:Eg ζ) (Wo:HP ζ) (Ys:Gx ζ) (Yt:Mf ζ) (Wp:DO ζ) (Y6:IG ζ) (Wq:M7 ζ) (Wr:E1 ζ) (Ws:GE ζ) (Wt:IH ζ) (Y7:HW ζ)
def Zee(o:Def K mg "check_holder" Dp ["holder"])
  : MK ζ:=by
 refine o.fy Zae (λp n=>(b1<|sI (tp<|wo (tc T6 Ts (xv 0) xi)<|wO<|tc Po Pe (xv 0)<|xe (ExcR.KY G.Zv) Xp) (b1<|sQ G.Z4 G.Z3 ExcR.Pi<|a1<|xe (ExcR.NK<|ExcR.Pv<|ExcR.NP (ExcR.KY G.Zv) ExcR.Nv)<|Ny<|Pq<|NW Xp N9) b0)) (.a ?_)
 ·rintro r R X ⟨h,rfl,b⟩;refine⟨rfl,?_⟩;unfold NU at b;refine Xg (λg=>Kr ?_) (λg=>?_)
  ·rw[W2 (by have:=W6 g;lia)]at b;exact⟨by decide,by decide,by decide,by decide,by simp,b⟩
  ·have q:¬h<1:=λz=>g (W1 z);refine Xg (λf=>?_) (λf=>?_)
   ·rw[W2 (by have:=W6 f;lia)]at b;exact⟨by decide,by decide,by decide,by decide,by simp,b⟩
   ·have l:¬10<h:=λz=>f (W1 z);rw[W5 (by lia)]at b;exact b
def Rh(o:Def K mg "check_width" Aw ["width"])
  : L6 ζ:=by
 refine o.fy Ziy (λp n=>(b1<|sI (tp<|wo (tc T6 Ts (xv 0) xi)<|wO<|tc Po Pe (xv 0)<|xe (ExcR.KY G.Zz) Xp) (b1<|sQ G.Z8 G.Z7 ExcR.Pi<|a1<|xe (ExcR.NK<|ExcR.Pv<|ExcR.NP (ExcR.KY G.Zz) ExcR.Nv)<|Ny<|Pq<|NW Xp N9) b0)) (.a ?_)
 ·rintro r R X ⟨h,rfl,b⟩;refine⟨rfl,?_⟩;unfold Au at b;refine Xg (λg=>Kr ?_) (λg=>?_)
  ·rw[W2 (by have:=W6 g;lia)]at b;exact⟨by decide,by decide,by decide,by decide,by simp,b⟩
  ·have q:¬h<1:=λz=>g (W1 z);refine Xg (λf=>?_) (λf=>?_)
   ·rw[W2 (by have:=W6 f;lia)]at b;exact⟨by decide,by decide,by decide,by decide,by simp,b⟩
   ·have l:¬1000<h:=λz=>f (W1 z);rw[W5 (by lia)]at b;exact b
def Zm5(u:Def K mg "begins_run" AW ["strips","index"])
  : Ea ζ:=by
 refine u.fz Zh8 (λg n=>(b1<|sR<|xe (DM (KI (NN (K:=K)<|show _<cLine from(g ()).units0) (pv 1) X1<|Ke _)<|PZ<|KI (DK (K:=K)<|show _<cLine from(g ()).units0) (jx K (jx K (pv 0)<|KU Kc (pv 1) X1) X1) (jx K (jx K (pv 0)<|pv 1) X1)<|Ke _)<|F6 (TR (UW 1) Xp)<|Fc (KS (KS (UW 0)<|Kb (UW 1) Xp) Xp)<|KS (KS (UW 0)<|UW 1) Xp)) (.a ?_)
 ·rintro v R X ⟨b,k,rfl,p,f⟩;refine⟨rfl,?_⟩;have o:∀(j:Nat) (z:Int),j<b.length->z=(j:Int)->∃h:j<b.length,atI (b.map prD) z=some (prD b[j]):=λj z l e=>⟨l,by rw[e];exact Bz l⟩;unfold Ks at f;by_cases c:k=0
  ·subst c;exact f
  ·show if decide (((k:Nat):Int)=0)=true then _ else _;have s:¬((k:Nat):Int)=0:=by lia
   rw[Qb s];obtain⟨r,a1⟩:=o (k-1) ((k:Int)-1) (by lia) (by lia);obtain⟨q,a2⟩:=o k (k:Int) p rfl;refine X5 ⟨_,a1,_,rfl,_,a2,_,rfl,?_⟩;rw[Qb c,Bool.false_or,Px r,Px q]at f;exact f
def Zlk(E:Def K mg "pair_cost" DA ["strips","ahead","behind"])
  : Ho ζ:=by
 refine E.fz Zl3 (λr n=>(bc (sS 3 n xi)<|bc (sS 4 n xi)<|bc (sF 0<|sO [5,6] WO (iL<|xv 0) (gT 2<|gc (gN 5)<|gc (gN 6) g0)<|b1<|sI (tq r (xv 5)<|xv 2) (b1<|sU 3 n Ii<|xv 6)<|b1<|sI (tq r (xv 5)<|xv 1) (b1<|sU 4 n Ii<|xo PP PU (xv 3)<|xv 6) b0)<|b1<|sV 4)) (.a ?_)
 ·rintro H R X ⟨b,x,y,rfl,A,v⟩;refine⟨rfl,rfl,Kl (xs:=b) (emb:=prD) (λi f=>f=[some (.bor<|.lst<|b.map prD),some (.sh<|.int x),some (.sh<|.int y),some (.sh<|.int<|tpM b y i),some (.sh<|.int<|pcM b x y i),none,none]) rfl ?_ ?_⟩
  ·rintro i u f rfl;have s:b.getD i (0,0)=b[i]:=by rw[W7,Ww u];rfl
   have hw:=A _ (WN u);have C:tpM b y (i+1)=tpM b y i+(if b[i].1=y then b[i].2 else 0):=by simp only[tpM];rw[s]
   have B:pcM b x y (i+1)=pcM b x y i+(if x≠y/\b[i].1=x then tpM b y i*b[i].2 else 0):=by simp only[pcM];rw[s]
   rw[C,B];generalize b[i]=p at hw;refine⟨rfl,Xg (λg=>?_) (λg=>Xg (λo=>?_) (λo=>?_))⟩
   ·have e:p.1=y:=W6 g;rw[W5 e,W2 (by rintro⟨q,l⟩;exact q (l.symm.trans e)),JN];rfl
   ·have e:¬p.1=y:=λz=>g (W1 z);have h:p.1=x:=W6 o;rw[W2 e,W5 ⟨λz=>e (h.trans z),h⟩,JN];exact⟨.inr ⟨by show -(2 ^ 64)<p.2;lia,by show p.2<2 ^ 64;lia⟩,rfl⟩
   ·have e:¬p.1=y:=λz=>g (W1 z);have h:¬p.1=x:=λz=>o (W1 z);rw[W2 e,W2 (by rintro⟨q,l⟩;exact h l),JN,JN];rfl
  ·rintro f rfl;exact v
def Zed(H:Def K mg "broken_wishes" CQ ["order","wishes"])
  : ED ζ:=by
 refine H.fz LJ (λp n=>(bc (se (Pu.pz 2 LJ.nd MG)<|Tr Eh<|XT 2)<|bc (sF 0<|sO [3,4] WO (ie (RK rfl G.ZG<|az<|pv 0)<|Zgn<|sz<|UW 0) (gT 2<|gc (gN 3)<|gc (gN 4) g0)<|b1<|se (Fe (XX<|p ()) (pv 2) (pv 4) (pv 3) rfl)<|BL 2 (UW 4)<|UW 3)<|bc (sC 5 ["ahead","behind","index_of"] [none,none,some 2] n (jL<|xv 1) (gT 2<|gc (gN 0)<|gc (gN 1) g0) (f1<|tp<|wa (te (AX<|Lr (XX<|p ()) (pv 0)<|pv 2)<|F7<|DY (UW 0)<|UW 2)<|wA<|te (AX<|Lr (XX<|p ()) (pv 1)<|pv 2)<|F7<|DY (UW 1)<|UW 2)<|xt<|a2 (xv 0)<|xv 1)<|b1<|sR<|xC ["ahead","behind","index_of"] [none,none,some 2] (jL<|xv 5) (gT 2<|gc (gN 0)<|gc (gN 1) g0) (f1<|tc T6 Ts (xe (TQ (XX<|p ()) (pv 2) (pv 1) (λ_ _=>rfl))<|Nf (UW 2)<|UW 1)<|xe (TQ (XX<|p ()) (pv 2) (pv 0) (λ_ _=>rfl))<|Nf (UW 2)<|UW 0)<|xt<|a2 (xv 0)<|xv 1)) (.a ?_)
 ·rintro M R X ⟨os,s,rfl,r,L,hw,C⟩;refine⟨rfl,rfl,Nd _,Zhr (xs:=os) (emb:=D.int) (λi f=>∃b:List (Key×V),f=[some (.bor<|.lst<|os.map D.int),some (.bor<|.lst<|s.map prD),some (.own<|.dK b),none,none,none]/\b.length<=i/\∀h:Int,Xi b (.inl h)=if h∈os.take i then some (.int<|os.idxOf h)else none) ⟨[],rfl,by simp,λh=>by simp[Xi]⟩ ?_ ?_⟩
  ·rintro i x f ⟨b,rfl,A,g⟩;refine⟨rfl,.inl os[i],.int i,rfl,rfl,by lia,_,rfl,W9 (SR _ _ _) (by lia),λh=>?_⟩;rw[SZ,g];by_cases e:h=os[i]
   ·subst e;rw[W5 rfl,W5 ((take_mem x).mpr (.inr rfl)),BI r x]
   ·rw[W2 (λz=>e (Sum.inl.inj z))];simp only[take_mem x,e,or_false]
  ·rintro f ⟨b,rfl,A,g⟩;rw[WX]at g;refine XH (xs:=s) (emb:=prD) (λq=>if (decide (q.1∈os)&&decide (q.2∈os))=true then some (prD q)else none) (by lia) (λq hq=>⟨rfl,⟨_,rfl,?_⟩⟩) ?_
   ·have v:(Xi b<|.inl q.1).isSome=decide (q.1∈os):=by
     rw[g];by_cases e:q.1∈os<;>simp[e]
    have u:(Xi b<|.inl q.2).isSome=decide (q.2∈os):=by
     rw[g];by_cases e:q.2∈os<;>simp[e]
    refine Xg (λo=>⟨_,rfl,Xg (λy=>⟨by simp,_,rfl,W5 ?_⟩) (λy=>W2 λz=>y ?_)⟩) (λo=>X5 (W2 λz=>o ?_))
    ·rw[←v,←u,Qd];exact⟨o,y⟩
    ·rw[←v,←u,Qd]at z;exact z.2
    ·rw[←v,←u,Qd]at z;exact z.1
   rw[Kz (λq=>decide (q.1∈os)&&decide (q.2∈os)) prD];have B:=Qk (λq:Int×Int=>decide (q.1∈os)&&decide (q.2∈os)) s;refine XH (xs:=s.filter λq=>decide (q.1∈os)&&decide (q.2∈os)) (emb:=prD) (λq=>if decide (os.idxOf q.2<os.idxOf q.1)=true then some (prD q)else none) (by lia) (λq hq=>?_) ?_
   ·have l:=(WM.mp hq).2;rw[Qd,Vq,Vq]at l;refine⟨rfl,.inl q.2,.int (os.idxOf q.2),rfl,by rw[g,W5 l.2],rfl,.inl q.1,.int (os.idxOf q.1),rfl,by rw[g,W5 l.1],rfl,?_⟩;refine Xg (λo=>⟨by simp,_,rfl,W5 ?_⟩) (λo=>W2 λz=>o ?_)
    ·have E:((os.idxOf q.2:Nat):Int)<((os.idxOf q.1:Nat):Int):=W6 o;exact W1 (by lia)
    ·have J:=W6 z;exact W1 (show((os.idxOf q.2:Nat):Int)<((os.idxOf q.1:Nat):Int) by lia)
   rw[Kz (λq=>decide (os.idxOf q.2<os.idxOf q.1)) prD,List.filter_filter]
   have e:(λq:Int×Int=>decide (os.idxOf q.2<os.idxOf q.1)&&(decide (q.1∈os)&&decide (q.2∈os)))=Pt os:=by
    funext q;rw[Zld r,Bool.and_comm]
   rw[e];exact C
def Zht(DD:Def K mg "longer_paths" F9 ["paths","left","wishes"])
  : MY ζ:=by
 refine DD.fz O0 (λC n=>(bc (sS 3 n<|xL a0)<|bc (se (Pu.pz 4 O0.nd MG)<|Tr Eh<|XT 4)<|bc (sF 1<|sF 0<|sO [5,6] WO (iL<|xv 0) (gN 5)<|b1<|sF 1<|sO [6] WO (iL<|xv 1) (gN 6)<|b1<|sI (tp<|wa (te (AX<|OM (XX<|C ()) (pv 6)<|pv 4)<|F7<|Zm1 (UW 6)<|UW 4)<|wA<|ti C (xt<|a2 (xx (xv 5)<|xe (PJ PD X1)<|Tz Xp)<|xv 6)<|xv 2) (bc (se (Fe (XX<|C ()) (pv 4) (pv 6) Fl rfl)<|BL 4 (UW 6) B6)<|b1<|sF 6<|sA 3<|xo P1 P0 (xv 5)<|xL<|a1<|xv 6) b0)<|b1<|sV 3)) (.a ?_)
 ·rintro ds R X ⟨l,u,s,y,rfl,B,U,E,T,hR⟩;refine⟨rfl,?_⟩
  refine⟨by simp,rfl,Kl (xs:=u) (emb:=em l) (λi o=>∃q f,o=[some (.bor<|.lst<|u.map<|em l),some (.bor<|.lst<|s.map D.int),some (.bor<|.lst<|y.map prD),some (.own<|q.map<|em l),some (.own<|.dK f),none,none]/\LGs y l (Pd u s i 0) s q f)
   ⟨[],[],rfl,LGs.start⟩ ?_ ?_⟩
  ·rintro i J o ⟨q,f,rfl,r⟩;have v:u[i]?=some u[i]:=Ww J;have H:=E u[i] (WN J);generalize u[i]=p at v H ⊢;refine⟨rfl,Kl (xs:=s) (emb:=D.int) (λj o=>∃q f,o=[some (.bor<|.lst<|u.map<|em l),some (.bor<|.lst<|s.map D.int),some (.bor<|.lst<|y.map prD),some (.own<|q.map<|em l),some (.own<|.dK f),some (.bor<|em l p),none]/\LGs y l (Pd u s i j) s q f) ⟨q,f,rfl,r⟩ ?_ ?_⟩
   ·rintro j hj o ⟨q,f,rfl,r⟩;have A:s[j]?=some s[j]:=Ww hj;generalize s[j]=h at A ⊢;have N:=r.len_le;have Y:=r.len;refine⟨.inl h,rfl,Xg (λg=>?_) (λg=>?_)⟩
    ·have M:(Xi f<|.inl h).isSome=false:=by
      cases e:(Xi f<|.inl h).isSome with
      |false=>rfl
      |true=>rw[e]at g;cases g
     refine⟨_,BD l p,by simp,_,.lp (Xf l p,h) y,Xg (λL=>?_) (λL=>?_)⟩
     ·refine⟨.inl h,.bl true,rfl,rfl,by lia,by simp,Nd _,rfl,by simp;lia,by rw[Wv];lia,q++[p++[h]],_,?_,r.put v A B U M (W6 L)⟩;rw[WC]
      have e:em l (p++[h])=.lst ((l::p).map D.int++[.int h]):=by
       unfold em;rw[←QA,WC];rfl
      rw[V1,e];rfl
     ·exact⟨q,f,rfl,r.skip v A B (.inr λz=>L (W1 z))⟩
    ·have M:(Xi f<|.inl h).isSome=true:=by
      cases e:(Xi f<|.inl h).isSome with
      |true=>rfl
      |false=>rw[e]at g;exact absurd rfl g
     exact X5 ⟨q,f,rfl,r.skip v A B (.inl M)⟩
   ·rintro o ⟨q,f,rfl,r⟩;refine⟨q,f,rfl,r.congr λQ x=>?_⟩;unfold Pd;rw[WX,Q7];obtain⟨hi',ei⟩:=WI.mp v;rw[W4 J,WD,Wx,v,ei];constructor
    ·rintro(⟨a,b⟩|⟨a,b⟩)
     ·exact .inl ⟨.inl a,b⟩
     ·exact .inl ⟨.inr (WL a).symm,b⟩
    ·rintro(⟨a|a,b⟩|⟨_,a⟩)
     ·exact .inl ⟨a,b⟩
     ·exact .inr ⟨Qs some a.symm,b⟩
     ·cases a
  ·rintro o ⟨q,f,rfl,r⟩;refine hR q (r.g.congr λQ x=>?_) r.len_le;unfold Pd;rw[WX,Q7];exact⟨(λz=>z.elim id λw=>by cases w.2),.inl⟩
def Zk3(s:Def K mg "sets_of" CC ["holders"])
  : Ir ζ:=by
 refine s.fz Zho (λv n=>(bc (sS 1 n<|xL<|a1<|xt a0)<|bc (sF 0<|sO [2] WO (iL<|xv 0) (gN 2)<|b1<|sF 2<|sS 1 n<|xo P1 P0 (xv 1)<|xC ["members","holder"] [none,some 2] (jL<|xv 1) (gN 0) f0<|xe (KU (Ik (K:=K)) (pv 0)<|Th<|az<|pv 1)<|Mj (UW 0)<|T4<|sz<|UW 1)<|b1<|sV 1)) (.a ?_)
 ·rintro x R X ⟨g,rfl,u,r⟩;refine⟨rfl,by simp,by simp,rfl,Kl (xs:=g) (emb:=D.int) (λi f=>f=[some (.bor<|.lst<|g.map D.int),some (.own ((Xs<|g.take i).map tD)),none]) rfl ?_ ?_⟩
  ·rintro i q f rfl
   have l:(Xs<|g.take i).length<=1024:=by
    rw[LF,WG];exact J1 (j:=10) (by decide) (by lia)
   have o:∀b∈Xs (g.take i),b.length<=10:=λb p=>by
    have:=(Si _ b p).length_le
    rw[WG]at this;lia
   rw[W4 q,Nq];generalize Xs (g.take i)=S at l o ⊢;generalize g[i]=h;refine XH (xs:=S) (emb:=tD) (λb=>some (tD (b++[h]))) (by lia) (λb p=>?_) ?_
   ·refine⟨by simp,_,_,Zmu b,rfl,?_,_,rfl,?_⟩
    ·have:=o b p
     rw[Wv];show b.length+1<=100000;lia
    ·unfold tD;rw[WC];rfl
   ·rw[PB];refine⟨rfl,rfl,?_,?_⟩
    ·rw[Wv,Wv];lia
    ·show[_,_,_]=[_,_,_];rw[WC,Qe];rfl
  ·rintro f rfl;rw[WX];exact r
def Zcc(l:Def K mg "without" A2 ["members","holder"])
  : MC ζ:=by
 refine l.fz RP (λf n=>(b1<|sR<|xe (KO (On (K:=K)) (by rfl) G.Zo boot_tuple<|az<|cz ["member","holder"] [none,some 1] (Nu (K:=K)<|pv 0) ⟨(gk 0),(SC<|cn K (f ()) (pv 0)<|pv 1),(pv 0)⟩)<|HX<|sz<|Pf (SndI.c<|NA<|UW 0) (XT 0) (Ph<|Fc (UW 0)<|UW 1)<|UW 0)) (.a ?_)
 ·rintro q R X ⟨b,h,rfl,o,g⟩;refine⟨rfl,?_⟩;rw[Bh];refine⟨_,rfl,XH (s:=.sh .non) (xs:=b) (emb:=D.int) (λm=>if decide (m≠h)=true then some (.int m)else none) (by lia) (λm p=>?_) ?_⟩
  ·show if (!decide (m=h))=true then _ else _;by_cases e:m=h
   ·rw[W1 e];exact X5 (by simp[e])
   ·rw[Qb e];exact Kr ⟨_,rfl,W5 (W1 e)⟩
  ·rw[Kz (λm=>decide (m≠h))];exact⟨rfl,g⟩
def Zi2(p:Def K mg "may_lie_last" DL ["members","holder","wishes"])
  : EV ζ:=by
 refine p.fz RD (λl n=>(b1<|sR<|xn<|xe (XF (Ei (K:=K) rfl) (by rfl) G.ZN boot_any<|az<|cz ["ahead","behind","holder","members"] [none,none,some 1,some 0] (T1 (K:=K)<|pv 2) ⟨(SJ (K:=K) (n:=2) rfl<|PH (gk 0)<|PH (gk 1) Su),Na,(TL (KI (NN (K:=K)<|show _<cLine from(l ()).units0) (pv 0) (pv 2)<|Ke _)<|PZ<|KI (DH (K:=K)<|show _<cLine from XX (l ())) (pv 1) (pv 3)<|by with_unfolding_all rfl)⟩)<|HD<|sz<|Pf (Nl<|UW 2) (Fb<|Nm (XT 0)<|Nm (XT 1) Fw) Nz<|Nr (TR (UW 0)<|UW 2)<|F1 (UW 1)<|UW 3)) (.a ?_)
 ·rintro s R X ⟨b,h,f,rfl,r,o⟩;refine⟨rfl,?_⟩;rw[Bh];refine XH (xs:=f) (emb:=prD) (λq=>some (.bl (decide (q.1=h)&&decide (q.2∈b)))) (by lia) (λq hq=>?_) ?_
  ·refine⟨rfl,?_⟩;show if true=true then(if decide (q.1=h)=true then _ else _)else(some (D.bl (decide (q.1=h)&&decide (q.2∈b)))=none);refine Kr (Xg (λg=>⟨_,.ti _ _,?_⟩) (λg=>?_))
   ·refine⟨_,rfl,?_⟩;rw[g,Jj];rfl
   ·refine⟨_,rfl,?_⟩;rw[Je.mpr g,Bool.false_and]
  ·rw[PB];refine⟨f.map λq=>decide (q.1=h)&&decide (q.2∈b),by rw[Qe];rfl,?_⟩;rw[List.any_map];exact o
def OC(p:Def K mg "may_lie_first" Ah ["members","holder","wishes"])
  : E5 ζ:=by
 refine p.fz Znk (λl n=>(b1<|sR<|xn<|xe (XF (Ei (K:=K) rfl) (by rfl) G.ZN boot_any<|az<|cz ["ahead","behind","holder","members"] [none,none,some 1,some 0] (T1 (K:=K)<|pv 2) ⟨(SJ (K:=K) (n:=2) rfl<|PH (gk 0)<|PH (gk 1) Su),Na,(TL (KI (NN (K:=K)<|show _<cLine from(l ()).units0) (pv 1) (pv 2)<|Ke _)<|PZ<|KI (DH (K:=K)<|show _<cLine from XX (l ())) (pv 0) (pv 3)<|by with_unfolding_all rfl)⟩)<|HD<|sz<|Pf (Nl<|UW 2) (Fb<|Nm (XT 0)<|Nm (XT 1) Fw) Nz<|Nr (TR (UW 1)<|UW 2)<|F1 (UW 0)<|UW 3)) (.a ?_)
 ·rintro s R X ⟨b,h,f,rfl,r,o⟩;refine⟨rfl,?_⟩;rw[Bh];refine XH (xs:=f) (emb:=prD) (λq=>some (.bl (decide (q.2=h)&&decide (q.1∈b)))) (by lia) (λq hq=>?_) ?_
  ·refine⟨rfl,?_⟩;show if true=true then(if decide (q.2=h)=true then _ else _)else(some (D.bl (decide (q.2=h)&&decide (q.1∈b)))=none);refine Kr (Xg (λg=>⟨_,.ti _ _,?_⟩) (λg=>?_))
   ·refine⟨_,rfl,?_⟩;rw[g,Jj];rfl
   ·refine⟨_,rfl,?_⟩;rw[Je.mpr g,Bool.false_and]
  ·rw[PB];refine⟨f.map λq=>decide (q.2=h)&&decide (q.1∈b),by rw[Qe];rfl,?_⟩;rw[List.any_map];exact o
def Zod(h:Def K mg "own_numbers" Ap ["strips"])
  : GP ζ:=by
 refine h.fz Zf0 (λo n=>(b1<|sR<|xC ["index"] [none] (jI<|ir G.Zc<|a1<|xl G.len<|xv 0) (gN 0) f0<|xo XD XC (xv 0) xi)) (.a ?_)
 ·rintro p R X ⟨b,rfl,l,g⟩;refine⟨rfl,?_⟩;have f:(b.map prD).length=b.length:=Wv ..;refine⟨⟨by lia,by lia⟩,Bq (λi=>some (.int (0+(i:Int)+1))) (by lia) (λi _=>⟨_,rfl,rfl⟩) ?_⟩
  have e:(List.range ((b.map prD).length:Int).toNat).filterMap (λ(i:Nat)=>some (D.int (0+(i:Int)+1)))=(Xn 1 b.length).map D.int:=by
   unfold Xn;rw[V4,Qe,f,Qm];refine Vc λi _=>?_;show D.int (0+(i:Int)+1)=D.int (1+(i:Int));congr 1;lia
  rw[e];exact g
def Zid(u:Def K mg "exchange_cost" A1 ["strips","numbers","place"])
  : Ij ζ:=by
 refine u.fz Zau (λy n=>(bc (sS 3 n<|xx (xv 0)<|xo Kc Kb (xx (xv 1)<|xo Kc Kb (xv 2) xi) xi)<|bc (sS 4 n<|xx (xv 0)<|xo Kc Kb (xx (xv 1)<|xv 2) xi)<|b1<|sR<|xo PP PU (xx (xv 3) xi)<|xx (xv 4) xi)) (.a ?_)
 ·rintro B R X ⟨f,b,p,rfl,q,g,A,z,h⟩;refine⟨rfl,?_⟩;have b1:(p-1).toNat<b.length:=by omega
  have o:p.toNat<b.length:=by omega
  have x:=g _ (WN b1);have v:=g _ (WN o);refine⟨_,Pj (by omega) (by omega),_,Pj (by omega) (by omega),_,Pj (by omega) (by omega),_,Pj (by omega) (by omega),_,rfl,_,rfl,?_⟩;have l:(b[(p-1).toNat]-1).toNat<f.length:=by omega
  have s:(b[p.toNat]-1).toNat<f.length:=by omega
  have f1:=q _ (WN l);refine⟨.inl ⟨by show -(2 ^ 64)<(f[(b[(p-1).toNat]-1).toNat]).2;omega,by show(f[(b[(p-1).toNat]-1).toNat]).2<2 ^ 64;omega⟩,?_⟩
  have e:exM f b p.toNat=(f[(b[(p-1).toNat]-1).toNat]).2*(f[(b[p.toNat]-1).toNat]).2:=by
   unfold exM
   have r:b.getD (p.toNat-1) 0=b[(p-1).toNat]:=by
    rw[show p.toNat-1=(p-1).toNat by omega];exact BK b1
   rw[r,BK o,BK l,BK s]
  rw[e]at h;exact h
def Zgi(q:Def K mg "exchanged" Ag ["numbers","place"])
  : Lo ζ:=by
 refine q.fz Zaf (λs n=>(b1<|sR<|xo P1 P0 (xo P1 P0 (xp (xv 0) o0<|o1<|xo Kc Kb (xv 1) xi)<|xL<|a2 (xx (xv 0)<|xv 1)<|xx (xv 0)<|xo Kc Kb (xv 1) xi)<|xp (xv 0) (o1<|xo XD XC (xv 1) xi) o0)) (.a ?_)
 ·rintro u R X ⟨b,p,rfl,o,l,r,g⟩;refine⟨rfl,?_⟩;have b1:p.toNat<b.length:=by lia
  have b2:(p-1).toNat<b.length:=by lia
  have f:(cutD (b.map D.int) none<|some (p-1)).length<=1000:=by have:=(PX (b.map D.int) none<|some (p-1)).length_le;rw[Wv]at this;lia
  have h:(cutD (b.map D.int) (some (p+1)) none).length<=1000:=by have:=(PX (b.map D.int) (some (p+1)) none).length_le;rw[Wv]at this;lia
  refine⟨Nd _,_,Pj (by lia) (by lia),_,Pj (by lia) (by lia),by simp,rfl,rfl,W9 (QC f<|W3 2) (by decide),Nd _,rfl,rfl,W9 (QC (by rw[WA];exact QC f (W3 2)) h) (by decide),?_⟩;have e:=Znu o l (b1:=b1) (b2:=b2);rw[←e]at g;exact g
def Znc(J:Def K mg "first_wrong_place" Dx ["numbers","ranks"])
  : LX ζ:=by
 refine J.fz Zc1 (λM n=>(bc (sO [2] WO (iR G.Zc<|a2 xi<|xl G.len<|xv 0) (gN 2)<|b1<|sI (tc Po Pe (xx (xv 1)<|xo Kc Kb (xx (xv 0)<|xo Kc Kb (xv 2) xi) xi)<|xx (xv 1)<|xo Kc Kb (xx (xv 0)<|xv 2) xi) (b1<|sV 2) b0)<|b1<|sR xi)) (.a ?_)
 ·rintro T R X ⟨b,h,rfl,x,L,C⟩;refine⟨rfl,?_⟩;have N:(b.map D.int).length=b.length:=Wv ..
  have B:∀(i:Nat) (k:Int),i<b.length->k=(i:Int)->atI (b.map D.int) k=some (.int<|b.getD i 0):=λi k o e=>by
   rw[e];exact P3 (f:=D.int) (SL<|by rw[W7,Ww o];rfl)
  have y:∀i:Nat,i<b.length->atI (h.map D.int) (b.getD i 0-1)=some (.int (h.getD (b.getD i 0-1).toNat 0)):=λi o=>by
   have H:b.getD i 0∈b:=by
    rw[W7,Ww o];exact WN o
   have:=x _ H
   generalize b.getD i 0=z at this;rw[Pj (f:=D.int) (xs:=h) (by lia) (by lia),W7,Ww (show(z-1).toNat<h.length by lia)];rfl
  have v:∀i:Nat,i<b.length->(b.map λm=>h.getD (m-1).toNat 0).getD i 0=h.getD (b.getD i 0-1).toNat 0:=λi o=>D1 o;have A:(b.map λm=>h.getD (m-1).toNat 0).length=b.length:=Wv ..;refine⟨⟨by lia,by lia⟩,P2 (λi p=>(∀q,1<=q->q<1+i->(b.map λm=>h.getD (m-1).toNat 0).getD (q-1) 0<=(b.map λm=>h.getD (m-1).toNat 0).getD q 0)/\p=[some (.bor<|.lst<|b.map D.int),some (.bor<|.lst<|h.map D.int),none]) ⟨λq s Q=>by lia,rfl⟩ ?_ ?_⟩
  ·rintro i p o ⟨s,rfl⟩
   have l:i+1<b.length:=by
    have:i<((((b.map D.int).length:Nat):Int)-1).toNat:=o
    lia
   refine⟨_,B i _ (by lia) (by lia),_,y i (by lia),_,B (i+1) _ l (by lia),_,y (i+1) l,?_⟩;refine Xg (λg=>?_) (λg=>?_)
   ·have E:h.getD (b.getD (i+1) 0-1).toNat 0<h.getD (b.getD i 0-1).toNat 0:=W6 g
    have:=C (i+1) ⟨λq r u=>s q r (by rw[W2 (by lia)]at u;lia),.inr ⟨by lia,by rw[A];exact l,by rw[v _ l,VS,v _ (by lia)];exact E⟩⟩
    rw[show((i+1:Nat):Int)=1+(i:Int) by lia]at this;exact this
   ·have E:¬h.getD (b.getD (i+1) 0-1).toNat 0<h.getD (b.getD i 0-1).toNat 0:=λz=>g (W1 z);refine⟨λq r u=>?_,rfl⟩;by_cases c:q<1+i
    ·exact s q r c
    ·have:q=i+1:=by lia
     subst this;rw[v _ l,VS,v _ (by lia)];lia
  ·rintro p ⟨s,rfl⟩;refine C 0 ⟨λq r u=>s q r ?_,.inl rfl⟩;rw[W5 rfl,A]at u;lia
def Ze4(l:Def K mg "check_small" FZ ["strips"])
  : IL ζ:=by
 refine l.fy Zc5 (λo n=>(b1<|sI (tc Po Pe (xl G.len<|xv 0)<|xe (ExcR.KY G.Z6) Xp) (b1<|sQ G.Zs G.Zr ExcR.Pi<|a1<|xe (ExcR.NK<|ExcR.Pv<|ExcR.NP (ExcR.KY G.Z6)<|ExcR.Pv ExcR.Nv)<|Ny<|Pq<|NW Xp<|Pq N9) b0)) (.a ?_)
 ·rintro q R X ⟨f,rfl,b⟩;refine⟨rfl,?_⟩;have p:(f.map prD).length=f.length:=Wv ..;unfold P9 at b;refine Xg (λg=>?_) (λg=>?_)
  ·have h:(7:Int)<((f.map prD).length:Int):=W6 g;rw[W5 (by lia)]at b;exact⟨by decide,by decide,by decide,by decide,by decide,by simp,b⟩
  ·have h:¬(7:Int)<((f.map prD).length:Int):=λz=>g (W1 z);rw[W2 (by lia)]at b;exact b
def Zib(v:Def K mg "cost_to_come_next" FX ["strips","stand","number"])
  : MJ ζ:=by
 refine v.fz Zlw (λh n=>(bc (sC 3 ["other","strips","stand"] [none,some 0,some 1] n (jI<|iR G.Zc<|a2 xi<|xv 2) (gN 0) (f1<|tI h (xv 0)<|xv 2)<|xx (xx (xv 1)<|xo Kc Kb (xv 0) xi) xi)<|b1<|sR<|xo PP PU (xx (xx (xv 0)<|xo Kc Kb (xv 2) xi) xi)<|xe (XF (AU (K:=K) rfl) (by rfl) G.ZI boot_sum<|az<|pv 3)<|Cb<|sz<|UW 3)) (.a ?_)
 ·rintro B R X ⟨f,r,x,rfl,q,z,u,s,p⟩;refine⟨rfl,?_⟩;unfold KR;rw[WQ,WQ,Co];have A:(f.map prD).length=f.length:=Wv ..;have hw:∀y:Int,1<=y->y<=f.length->1<=wdM f y/\wdM f y<=1000:=λy a b=>(q _<|G4 a b).2.2;refine⟨⟨by lia,by lia⟩,Bq (λi=>if (!decide ((1+(i:Int))∈r))=true then some (.int<|wdM f (1+(i:Int)))else none) (by show(x-1).toNat<=100000;lia) (λi o=>?_) ?_⟩
  ·have l:i<(x-1).toNat:=o;refine⟨_,.ti _ _,Xg (λg=>⟨_,BX (by lia) (by lia),_,rfl,_,rfl,W5 g⟩) (λg=>W2 g)⟩
  ·have e:(List.range (x-1).toNat).filterMap (λ(i:Nat)=>if (!decide ((1+(i:Int))∈r))=true then some (D.int<|wdM f (1+(i:Int)))else none)=(((Xn 1 (x-1).toNat).filter λy=>!decide (y∈r)).map (wdM f)).map D.int:=by
    unfold Xn;rw[List.filter_map,Qe,Qe,←List.filterMap_eq_map,List.filterMap_filter];rfl
   have:=hw x u s
   refine⟨_,BX (by lia) (by lia),_,rfl,_,Qs D.lst e,.inl ⟨by show -(2 ^ 64)<wdM f x;lia,by show wdM f x<2 ^ 64;lia⟩,p⟩
def Zgh(u:Def K mg "holders_from_left" AG ["field"])
  : M6 ζ:=by
 refine u.fz Rq (λo n=>(bc (sS 1 n<|xL a0)<|bc (sF 0<|sO [2,3] WO (iL<|xv 0) (gT 2<|gc (gN 2)<|gc (gN 3) g0)<|b1<|sI (tI o (xv 2)<|xv 1) (b1<|sF 2<|sA 1<|xv 2) b0)<|b1<|sV 1)) (.a ?_)
 ·rintro x R X ⟨b,rfl,v,r⟩;refine⟨rfl,by simp,rfl,Kl (xs:=b) (emb:=prD) (λi f=>f=[some (.bor<|plD b),some (.own ((X7 ((b.take i).map (·.1))).map D.int)),none,none]) rfl ?_ ?_⟩
  ·rintro i p f rfl;have s:(b.take (i+1)).map (·.1)=(b.take i).map (·.1)++[b[i].1]:=by rw[W4 p,WC];rfl
   have l:=Lu ((b.take i).map (·.1));rw[Wv,WG]at l;rw[s,B0];generalize X7 ((b.take i).map (·.1))=L at l ⊢;generalize b[i]=q;refine⟨rfl,_,.li _ _,Xg (λg=>?_) (λg=>?_)⟩
   ·have h:¬q.1∈L:=λz=>by rw[W5 rfl,W1 z]at g;cases g
    rw[W2 h,WC];exact⟨by rw[Wv];lia,rfl⟩
   ·have h:q.1∈L:=Qc λz=>g (by rw[W5 rfl,Qb z];rfl);rw[W5 h];exact rfl
  ·rintro f rfl;rw[WX];exact r
def Zk4(l:Def K mg "field_of_stand" DJ ["strips","stand"])
  : MF ζ:=by
 refine l.fz Zl5 (λp n=>(b1<|sR<|xC ["number","strips"] [none,some 0] (je (Nu (K:=K)<|pv 1)<|SndI.c<|NA<|UW 1) (gN 0) f0<|xx (xv 1)<|xo Kc Kb (xv 0) xi)) (.a ?_)
 ·rintro q R X ⟨g,r,rfl,o,f,h⟩;refine⟨rfl,?_⟩;unfold KR;rw[WQ,WQ,Co];refine⟨_,rfl,XH (s:=.sh .non) (xs:=r) (emb:=D.int) (λz=>some (prD<|XU g z)) (by lia) (λz b=>?_) ?_⟩
  ·have:=f z b
   exact⟨_,BX this.1 this.2,_,rfl,rfl⟩
  rw[PB (λz:Int=>prD (XU g z))];rw[Qe]at h;exact h
def Zla(o:Def K mg "check_place" FM ["strips","place"])
  : Eo ζ:=by
 refine o.fy Znr (λq n=>(b1<|sI (tp<|wo (tc T6 Ts (xv 1) xi)<|wO<|tc Po Pe (xv 1)<|xl G.len<|xv 0) (b1<|sQ G.ZK G.ZJ ExcR.Pi<|a1 xs) b0)) (.a ?_)
 ·rintro u R X ⟨f,p,rfl,b⟩;refine⟨rfl,?_⟩;have r:(f.map prD).length=f.length:=Wv ..;unfold FI at b;refine Xg (λg=>Kr ?_) (λg=>?_)
  ·rw[W5 (.inl<|W6 g)]at b;exact⟨by simp,b⟩
  ·have s:¬p<1:=λz=>g (W1 z);refine Xg (λl=>?_) (λl=>?_)
   ·have h:((f.map prD).length:Int)<p:=W6 l;rw[W5 (.inr<|by lia)]at b;exact⟨by simp,b⟩
   ·have h:¬((f.map prD).length:Int)<p:=λz=>l (W1 z);rw[W2 (by lia)]at b;exact b
def Rc(g:Xt K (Xv K (Xo ζ) "strips") "strips" "Village.strips" FY ["self"])
  : Et ζ:=by
 refine g.fz Zdl (λl n=>(b1<|sR<|xe (KO (N4 (K:=K)) (by rfl) G.Zg boot_list<|az<|jx K (TC (pv 0) rfl)<|PJ PD X1)<|N6<|sz<|KS (BH 1 G.Za G.Ze GK<|UW 0)<|Tz Xp)) (.a ?_)
 ·rintro o R X ⟨bk,fs,h,f,rfl,b⟩;refine⟨rfl,?_⟩;exact⟨rfl,rfl,_,rfl,_,BB plD fs f,NC _,b⟩
def Zfx(h:Xt K (Xv K (Xo ζ) "wishes") "wishes" "Village.wishes" FG ["self"])
  : MS ζ:=by
 refine h.fz Rf (λl n=>(b1<|sR<|xe (KO (N4 (K:=K)) (by rfl) G.Zg boot_list<|az<|jx K (TC (pv 0) rfl)<|PJ PD X1)<|N6<|sz<|KS (BH 2 G.Za G.Zf MX<|UW 0)<|Tz Xp)) (.a ?_)
 ·rintro o R X ⟨bk,fs,b,f,rfl,g⟩;refine⟨rfl,?_⟩;exact⟨rfl,rfl,_,rfl,_,BB plD b f,NC _,g⟩
def Zoe(h:Xt K (Xv K (Xo ζ) "check_room") "check_room" "Village.check_room" DE ["self"])
  : Lg ζ:=by
 refine h.fy Zhf (λo n=>(b1<|sI (tc EF Li (xl G.len<|xe (TC (pv 0) rfl)<|BH 0 G.Za G.Zd Da<|UW 0)<|xe (ExcR.KY G.Zk) Xp) (b1<|sQ G.ZF G.ZE ExcR.Pi<|a1<|xe (ExcR.NK<|ExcR.Pv<|ExcR.NP (ExcR.KY G.Zk)<|ExcR.Pv ExcR.Nv)<|Ny<|Pq<|NW Xp<|Pq N9) b0)) (.a ?_)
 ·rintro q R X ⟨bk,fs,l,rfl,b⟩;refine⟨rfl,?_⟩;have p:(bk.map dD).length=bk.length:=Wv ..;unfold Dz at b;refine⟨rfl,rfl,_,rfl,Xg (λg=>?_) (λg=>?_)⟩
  ·have f:(100:Int)<=((bk.map dD).length:Int):=W6 g;rw[W5 (by lia)]at b;exact⟨by decide,by decide,by decide,by decide,by decide,by simp,b⟩
  ·have f:¬(100:Int)<=((bk.map dD).length:Int):=λz=>g (W1 z);rw[W2 (by lia)]at b;exact b
def Zg3(z:Xt K (Xv K (Xo ζ) "enter") "enter" "Village.enter" A5 ["self","deed","field","wishes"])
  : LD ζ:=by
 refine z.fz Rr (λB n=>(bc (sF 1<|se (Pm<|TM Qv QP QR NG (TC (pv 0) rfl)<|az<|pv 1)<|BJ<|Cm 0 0 G.Za G.Zd Da<|UW 1)<|bc (sF 2<|se (Pm<|TM Qv QP QR NG (TC (pv 0) rfl)<|az<|pv 2)<|BJ<|Cm 0 1 G.Za G.Ze GK<|UW 2)<|bc (sF 3<|se (Pm<|TM Qv QP QR NG (TC (pv 0) rfl)<|az<|pv 3)<|BJ<|Cm 0 2 G.Za G.Zf MX<|UW 3)<|b1<|se (Nb<|ln K G.len<|TC (pv 0) rfl)<|Zfr<|T9<|sz<|BH 0 G.Za G.Zd Da<|UW 0)) (.c ?_)
 ·rintro o A R X ⟨x,b1,y,v,bk,fs,b,q,f,w,rfl,rfl,H,E,C,p⟩;refine⟨rfl,?_⟩;have l:(bk.map dD).length<10000000:=by rw[Wv];lia
  have h:(fs.map plD).length<10000000:=by rw[Wv];lia
  have g:(b.map plD).length<10000000:=by rw[Wv];lia
  refine⟨rfl,rfl,_,rfl,l,rfl,rfl,_,rfl,h,rfl,rfl,_,rfl,g,rfl,rfl,_,rfl,_,rfl,⟨rfl,by simp⟩,?_⟩;have e:(((bk.map dD++[dD q]).length:Nat):Int)=(bk.length:Int)+1:=by rw[WA,Wv];simp
  show R (.ins x _ vF [(b1,bk.map dD++[dD q]),(y,fs.map plD++[plD f]),(v,b.map plD++[plD w])]) (.int (((bk.map dD++[dD q]).length:Nat):Int));rw[e];have u:bk.map dD++[dD q]=(bk++[q]).map dD:=by rw[WC];rfl
  have s:fs.map plD++[plD f]=(fs++[f]).map plD:=by rw[WC];rfl
  have r:b.map plD++[plD w]=(b++[w]).map plD:=by rw[WC];rfl
  rw[u,s,r];exact p
def Zgl(l:Def K mg "_law_at" Dl ["_law_script","_law_k"])
  : Oq ζ:=by
 refine l.fz OD (λo n=>(bc (sI (tc T6 Ts (xv 1)<|xl G.len<|xv 0) (b1<|sR<|xx (xv 0)<|xv 1) b0)<|b1<|sR xi)) (.a ?_)
 ·rintro q R X ⟨b,k,rfl,h,f⟩;refine⟨rfl,?_⟩;refine Xg (λg=>?_) (λ_=>f 0);have p:k<(b.length:Int):=W6 g;exact⟨_,BZ h (Ww<|show k.toNat<b.length by omega),f _⟩
def Zlu(f:Def K mg "_law_whole" AA ["_law_found"])
  : Hn ζ:=by
 refine f.fz Zne (λg n=>(b1<|sR<|xe (TL (XF (SD (K:=K)) (by rfl) G.Zb Vn<|bz (pv 0)<|NY (v:=.ty "int") rfl G.ZO boot_int rfl)<|PZ<|LP<|XF (SD (K:=K)) (by rfl) G.Zb Vn<|bz (pv 0)<|NY (v:=.ty "bool") rfl G.ZP boot_bool rfl)<|Nr (Sy<|tz (UW 0) NV)<|Lf<|Sy<|tz (UW 0) NV)) (.a ?_)
 ·rintro h R X ⟨i,rfl,b⟩;refine⟨rfl,?_⟩;exact⟨_,.same _,_,.ib,b⟩
def Zka(f:Def K mg "_law_mix" FP ["_law_cell","_law_place"])
  : HN ζ:=by
 refine f.fz Zlh (λg n=>(bc (sS 2 n<|xo Xz X2 (xo PP PU (xo XD XC (xo XD XC (xo Xz X2 (xv 0) xi)<|xo PP PU xi<|xv 1) xi) xi) xi)<|b1<|sR<|xo Xz X2 (xo PP PU (xo XD XC (xo XD XC (xv 2)<|xo PP PU xi<|xv 1) xi) xi) xi)) (.a ?_)
 ·rintro h R X ⟨c,p,rfl,b⟩;refine⟨rfl,?_⟩;exact⟨(by show(0:Int)<2147483647;decide),.inl ⟨by decide,by decide⟩,.inr ⟨by decide,by decide⟩,(by show(0:Int)<2147483647;decide),.inl ⟨by decide,by decide⟩,.inr ⟨by decide,by decide⟩,(by show(0:Int)<2147483647;decide),b _⟩
def Zdx(y:Def K mg "_law_menu" Df ["_law_cell"])
  : Ml ζ:=by
 refine y.fz Zem (λz n=>(bc (sS 1 n<|xx (xL<|ac xi<|ac xi<|ac xi<|ac xi<|ac xi a0)<|xo Xz X2 (xo Kd Kk (xv 0) xi) xi)<|bc (sS 2 n<|xx (xL<|ac xi<|ac xi<|ac xi<|ac xi<|ac xi a0)<|xo Xz X2 (xo Kd Kk (xv 0) xi) xi)<|b1<|sF 2<|sF 1<|sR<|xL<|ac (xo XD XC xi<|xo Xz X2 (xv 0) xi)<|ac (xx (xL<|ac xi<|ac xi<|ac xi<|ac xi a0)<|xo Xz X2 (xo Kd Kk (xv 0) xi) xi)<|ac (xo Xz X2 (xo Kd Kk (xv 0) xi) xi)<|ac (xv 1)<|ac (xv 2) a0)) (.a ?_)
 ·rintro A R X ⟨c,rfl,s⟩;refine⟨rfl,?_⟩;have p:0<=c / 10 % 4/\c / 10 % 4<4:=by lia
  have o:0<=c / 400 % 5/\c / 400 % 5<5:=by lia
  have r:∀v∈([1,3,7,9]:ZV),1<=v/\v<=9/\(v=1\/v=3\/v=7\/v=9):=by decide
  have g:∀i:Int,0<=i->i<5->∃d e:Int,atI [D.int 1000,.int 3,.int 1,.int 2,.int 3] i=some (.int d)/\atI [D.int 1,.int 1,.int 1,.int 1,.int 998] i=some (.int e)/\(1<=d/\d<=1000)/\1<=e/\e+d<=1001:=λi a b=>by
   have:i=0\/i=1\/i=2\/i=3\/i=4:=by lia
   rcases this with rfl|rfl|rfl|rfl|rfl
   ·exact⟨1000,1,rfl,rfl,by decide,by decide,by decide⟩
   ·exact⟨3,1,rfl,rfl,by decide,by decide,by decide⟩
   ·exact⟨1,1,rfl,rfl,by decide,by decide,by decide⟩
   ·exact⟨2,1,rfl,rfl,by decide,by decide,by decide⟩
   ·exact⟨3,998,rfl,rfl,by decide,by decide,by decide⟩
  obtain⟨d,e,x,u,hd,q⟩:=g _ o.1 o.2;have h:=r _ (WN (l:=([1,3,7,9]:ZV)) (n:=(c / 10 % 4).toNat)<|by show(c / 10 % 4).toNat<4;lia);refine⟨by simp,⟨by decide,by decide⟩,(by show(0:Int)<5;decide),_,x,by simp,⟨by decide,by decide⟩,(by show(0:Int)<5;decide),_,u,(by show(0:Int)<10;decide),by simp,⟨by decide,by decide⟩,(by show(0:Int)<4;decide),_,Pj (f:=D.int) (xs:=[1,3,7,9]) p.1 p.2,⟨by decide,by decide⟩,(by show(0:Int)<10;decide),by simp,?_⟩;exact s [_,_,_,_,_] ⟨_,_,_,_,_,rfl,by lia,h,by lia,hd,q⟩
def Zeo(h:Def K mg "_law_holder" D3 ["_law_menu_here","_law_k"])
  : HS ζ:=by
 refine h.fz Znt (λl n=>(b1<|sR<|xo XD XC xi<|xo Xz X2 (xo XD XC (xo PP PU (xv 1)<|xx (xv 0) xi)<|xx (xv 0) xi) xi)) (.a ?_)
 ·rintro s R X ⟨m,k,rfl,g,f⟩;refine⟨rfl,?_⟩;obtain⟨a,b,c,d,e,rfl,r,q,p,hd,o⟩:=g;exact⟨_,rfl,.inr ⟨by lia,by lia⟩,_,rfl,(by show(0:Int)<10;decide),f _ (by lia) (by lia) rfl⟩
def Zhh(l:Def K mg "_law_present" AN ["_law_strips_here"])
  : IJ ζ:=by
 refine l.fz OE (λf n=>(bc (sS 1 n<|xC ["_law_strip"] [none] (jL<|xv 0) (gN 0) f0<|xx (xv 0) xi)<|b1<|sR<|xC ["_law_holder_here","_law_owners"] [none,some 1] (jI<|iR G.Zc<|a2 xi xi) (gN 0) (f1<|ti f (xv 0)<|xv 1)<|xv 0)) (.a ?_)
 ·rintro r R X ⟨b,rfl,o,h⟩;refine⟨rfl,?_⟩;refine XH (xs:=b) (emb:=prD) (λq=>some (.int q.1)) (by lia) (λq hq=>⟨_,rfl,_,rfl,rfl⟩) ?_;rw[PB (λq:Int×Int=>D.int q.1),show b.map (λq:Int×Int=>D.int q.1)=(b.map (·.1)).map D.int by rw[Qe];rfl];refine⟨⟨by decide,by decide,by decide,by decide⟩,Bq (n:=10) (λi=>if decide ((1:Int)+(i:Int)∈b.map (·.1))=true then some (.int (1+(i:Int)))else none) (by decide) (λi p=>?_) ?_⟩
  ·exact⟨_,.li _ _,Xg (λg=>⟨_,rfl,W5 g⟩) (λg=>W2 g)⟩
  rw[Kz (λi:Nat=>decide ((1:Int)+(i:Int)∈b.map (·.1)))]
  have e:((List.range 10).filter λi:Nat=>decide ((1:Int)+(i:Int)∈b.map (·.1))).map (λi:Nat=>D.int (1+(i:Int)))=(Xc b).map D.int:=by
   unfold Xc;rw[Zhy,List.filter_map,Qe];rfl
  rw[e];exact h
def Zgp(DD:Def K mg "_law_ring" Cz ["_law_holders","_law_wishes_here"])
  : Lj ζ:=by
 refine DD.fz Zkw (λhr n=>(bc (sF 5<|sC 2 ["_law_holder_here"] [none] n (jL<|xe (XF (Sv (K:=K) (w:=w) rfl) (by rfl) G.Zh Jh<|az<|pv 0)<|Bf<|sz<|UW 0) (gN 0) f0<|xL<|a1<|xv 0)<|bc (sF 2<|sW [3,4,5] WO (te (PY (Cg (K:=K)<|show _<cLine from(hr ()).units0) (pv 2) (KM XA)<|Ke _)<|Ph<|BV (UW 2)<|Pg Xr)<|bc (sS 3 n<|xL a0)<|bc (sF 2<|sO [4,5] WO (iL<|xv 2) (gN 4)<|b1<|sO [5] WO (iL<|xe (XF (Sv (K:=K) (w:=w) rfl) (by rfl) G.Zh Jh<|az<|pv 0)<|Bf<|sz<|UW 0) (gN 5)<|b1<|sI (tp<|wa (tc Po Pe (xv 5)<|xx (xv 4) xi)<|wa (tI hr (xv 5)<|xv 4)<|wA<|ti hr (xt<|a2 (xx (xv 4)<|xe (PJ PD X1)<|Tz Xp)<|xv 5)<|xv 1) (b1<|sF 5<|sA 3<|xo P1 P0 (xv 4)<|xL<|a1<|xv 5) b0)<|bc (sF 3<|sO [4] WO (iL<|xv 3) (gN 4)<|b1<|sI (ti hr (xt<|a2 (xx (xv 4)<|xe (PJ PD X1)<|Tz Xp)<|xx (xv 4) xi)<|xv 1) (b1<|sF 4<|sV 4) b0)<|b1<|sF 3<|sS 2 n<|xv 3)<|b1<|sr<|xL a0)) (.a ?_)
 ·rintro ds R X ⟨p,s,r,rfl,E,hz,hu,hw,F,hR⟩;refine⟨rfl,p,rfl,by omega,λv y Y=>?_⟩;have H:v.Pairwise (· < ·):=N8 Y (y.nodup_iff.mpr E);have hnl:=y.length_eq;refine XH (xs:=v) (emb:=D.int) (λh=>some (.lst [.int h])) (by omega) (λh _=>⟨by simp,_,rfl,rfl⟩) ?_;have e0:v.filterMap (λh=>some (D.lst [.int h]))=(v.map λh=>[h]).map eL:=by rw[V4,Qe];rfl
  rw[e0]
  have L0:TY p s 0 (v.map λh=>[h]):=by
   refine⟨λw=>⟨λb=>?_,?_⟩,?_⟩
   ·obtain⟨h,J,rfl⟩:=WK.mp b;exact⟨h,[],rfl,y.mem_iff.mp J,trivial,by simp,rfl⟩
   ·rintro⟨l,t,rfl,M,_,_,B⟩
    have:t=[]:=Q2.mp B
    subst this;exact WK.mpr ⟨l,y.mem_iff.mpr M,rfl⟩
   ·rw[QU];exact H.imp λh=>.inl h
  refine BA (λf=>∃k rows,f=[some (.bor<|.lst<|p.map D.int),some (.bor<|.lst<|s.map prD),some (.sh<|.lst<|rows.map eL),none,none,none]/\TY p s k rows/\rows.length<=fall k/\NoC p s k) F2 ⟨0,_,rfl,L0,by rw[Wv];show _<=10;omega,NoC.zero hu⟩ ?_;rintro f ⟨k,rows,rfl,L,hrl,N⟩;have emp:(!(rows.map eL).isEmpty)=decide (rows≠[]):=by cases rows<;>simp
  refine⟨by simp,?_⟩;show if (!(rows.map eL).isEmpty)=true then _ else _;rw[emp];refine Xg (λg=>?_) (λg=>?_)
  ·have hne:rows≠[]:=W6 g
   have hk1:k+1<=p.length:=by
    obtain⟨w,b⟩:=VI rows hne;obtain⟨l,t,rfl,M,h2,T,B⟩:=(L.mem w).mp b
    have:=Sn T (λx hx=>by
     rcases WB.mp hx with rfl|hx
     ·exact M
     ·exact(N0 h2 x hx).1)
    simp at this;omega
   have cap:rows.length*(p.length-(k+1))<=3628800:=by
    refine W9 (Nat.mul_le_mul hrl<|show p.length-(k+1)<=9-k by omega) ?_;exact Zfe (k+1)
   refine⟨by simp,rfl,Kl (xs:=rows) (emb:=eL) (λi f=>∃o,f=[some (.bor<|.lst<|p.map D.int),some (.bor<|.lst<|s.map prD),some (.sh<|.lst<|rows.map eL),some (.own<|o.map eL),none,none]/\GRs s rows v i 0 (p.length-(k+1)) o) ⟨[],rfl,GRs.start⟩ ?_ ?_⟩
   ·rintro i hi f ⟨o,rfl,G⟩;have b:rows[i]?=some rows[i]:=Ww hi;obtain⟨l,t,ew,M,h2,T,B⟩:=(L.mem rows[i]).mp (WN hi);rw[ew]at b ⊢
    have U:∀x∈l::t,x∈v:=λx hx=>by
     rcases WB.mp hx with rfl|hx
     ·exact y.mem_iff.mpr M
     ·exact y.mem_iff.mpr (N0 h2 x hx).1
    have hfl:=Ru (y.nodup_iff.mpr E) T U;have A:(v.filter<|PN<|some (l::t)).length<=p.length-(k+1):=by simp at hfl;omega
    refine⟨p,rfl,by omega,λq hp' C=>?_⟩
    have:q=v:=FU (N8 C<|hp'.nodup_iff.mpr E) H λz=>by rw[hp'.mem_iff,y.mem_iff]
    subst this;refine⟨rfl,Kl (xs:=q) (emb:=D.int) (λj f=>∃o,f=[some (.bor<|.lst<|p.map D.int),some (.bor<|.lst<|s.map prD),some (.sh<|.lst<|rows.map eL),some (.own<|o.map eL),some (.sh<|eL (l::t)),none]/\GRs s rows q i j (p.length-(k+1)) o) ⟨o,rfl,G⟩ ?_ ?_⟩
    ·rintro j hj f ⟨o,rfl,G⟩;have J:q[j]?=some q[j]:=Ww hj;generalize q[j]=h at J ⊢
     have gl:o.length<=3628800:=by
      have M:=G.len
      have h2:((q.take j).filter (PN rows[i]?)).length<=p.length-(k+1):=by
       rw[b];exact W9 ((QT j q).filter _).length_le A
      have T:(i+1)*(p.length-(k+1))<=rows.length*(p.length-(k+1)):=Nat.mul_le_mul_right _ hi;rw[Nat.succ_mul]at T;omega
     refine⟨_,N2 _ _,Xg (λg1=>⟨_,.li h (l::t),?_⟩) (λg1=>X5 ⟨o,rfl,G.skip b J λz=>g1 (W1 z.1)⟩)⟩;by_cases c2:h∈l::t
     ·rw[W1 c2];exact X5 (X5 ⟨o,rfl,G.skip b J λz=>z.2.1 c2⟩)
     ·rw[Qb c2];refine Kr ⟨_,Lk l t,by simp,_,.lp (Xf l t,h) s,Xg (λQ=>?_) (λQ=>⟨o,rfl,G.skip b J λz=>Q (W1 z.2.2)⟩)⟩;refine⟨by simp,rfl,rfl,by simp;omega,by rw[Wv];omega,o++[l::t++[h]],?_,G.put b J L.srt H ⟨W6 g1,c2,W6 Q⟩⟩;rw[WC,V1]
      have e:eL (l::t++[h])=.lst ((l::t).map D.int++[.int h]):=by
       unfold eL;rw[WC];rfl
      rw[e];rfl
    ·rintro f ⟨o,rfl,G⟩;exact⟨o,rfl,G.row b A⟩
   ·rintro f ⟨o,rfl,G⟩;have L':=G.all (λx=>y.mem_iff) L
    have hgl:o.length<=fall (k+1):=by
     have:=G.len
     rw[Q7]at this;refine W9 (show o.length<=rows.length*(p.length-(k+1)) by simpa using this) ?_;exact Nat.mul_le_mul hrl (by omega)
    refine⟨rfl,Kl (xs:=o) (emb:=eL) (λj f=>f=[some (.bor<|.lst<|p.map D.int),some (.bor<|.lst<|s.map prD),some (.sh<|.lst<|rows.map eL),some (.sh<|.lst<|o.map eL),none,none]/\∀w∈o.take j,¬B8 s w) ⟨rfl,λw b=>by rw[Q7]at b;cases b⟩ ?_ ?_⟩
    ·rintro j hj f ⟨rfl,u⟩;obtain⟨l,t,ew,M,h2,T,B⟩:=(L'.mem o[j]).mp (WN hj);have fe:=Zmt hu F L' N hj;rw[W4 hj];rw[ew]at fe ⊢;refine⟨_,Lk l t,_,N2 _ _,by simp,_,.lp (Xf l t,l) s,Xg (λQ=>?_) (λQ=>⟨rfl,λw b=>?_⟩)⟩
     ·have:=fe ⟨l,t,rfl,W6 Q⟩ u
      subst this;exact hR
     ·rcases WD.mp b with b|b
      ·exact u w b
      ·rw[Wx.mp b];rintro⟨l',t',e',z⟩;cases e'
       exact Q (W1 z)
    ·rintro f ⟨rfl,u⟩;rw[WX]at u;refine⟨⟨k+1,o,rfl,L',hgl,NoC.next L' u N⟩,?_⟩
     have hm:F2 [some (.bor<|.lst<|p.map D.int),some (.bor<|.lst<|s.map prD),some (.sh<|.lst<|rows.map eL),none,none,none]=20-(k+1):=by
      cases rows with
      |nil=>exact absurd rfl hne
      |cons w rs=>
       obtain⟨l,t,rfl,_,_,_,B⟩:=(L.mem w).mp WU;show 20-((l::t).map D.int).length=_;rw[Wv,WW,B]
     show F2 [some (.bor<|.lst<|p.map D.int),some (.bor<|.lst<|s.map prD),some (.sh<|.lst<|o.map eL),none,none,none]<F2 [some (.bor<|.lst<|p.map D.int),some (.bor<|.lst<|s.map prD),some (.sh<|.lst<|rows.map eL),none,none,none];rw[hm];cases o with
     |nil=>show 0<_;omega
     |cons w rs=>
      obtain⟨l,t,rfl,_,_,_,B⟩:=(L'.mem w).mp WU;show 20-((l::t).map D.int).length<_;rw[Wv,WW,B];omega
  ·have hre:rows=[]:=Qc λz=>g (W1 z);subst hre
   have:=Zj2 hu F L N
   subst this;exact⟨by simp,hR⟩
def Zfb(DD:Def K mg "_law_with_round" CD ["_law_wishes_here","_law_holders","_law_cell"])
  : Gq ζ:=by
 refine DD.fz Zk8 (λC n=>(bc (sS 3 n<|xe (XF (Zlb rfl) (by rfl) G.ZH boot_min<|bz (ln K G.len<|pv 1)<|KU XD X1<|KU Xz (KU Kd (pv 2) X1) X1)<|Zcv<|tz (T9<|sz<|UW 1)<|XC Xp<|X2 (Kk (UW 2) Xp) Xp)<|bc (sI (tp<|wo (tq C (xo Xz X2 (xv 2) xi) xi)<|wO<|tc T6 Ts (xv 3) xi) (b1<|sV 0) b0)<|bc (sS 4 n<|xL a0)<|bc (sO [5,6,7] WO (iL<|xp (xL<|a2 xi<|xo Kc Kb (xl G.len<|xv 1)<|xv 3) o0<|o1<|xo XD XC xi<|xo Xz X2 (xo Kd Kk (xv 2) xi) xi) (gN 5)<|b1<|sO [6,7] WO (ir G.Zc<|a1<|xv 3) (gN 6)<|bc (sS 7 n<|xt<|a2 (xx (xv 1)<|xo XD XC (xv 5)<|xv 6)<|xx (xv 1)<|xo XD XC (xv 5)<|xo Xz X2 (xo XD XC (xv 6) xi)<|xv 3)<|b1<|sI (tI C (xv 7)<|xv 4) (b1<|sF 7<|sA 4<|xv 7) b0)<|bc (sS 8 n<|xp (xC ["_law_pair","_law_laid"] [none,some 4] (jL<|xv 0) (gN 0) (f1<|tI C (xv 0)<|xv 1)<|xv 0) o0<|o1<|xo Xz X2 (xo Kd Kk (xv 2) xi) xi)<|bc (sS 9 n<|xo Xz X2 (xo Kd Kk (xv 2) xi)<|xo XD XC (xl G.len<|xv 8) xi)<|b1<|sR<|xp (xo P1 P0 (xo P1 P0 (xp (xv 8) o0<|o1<|xv 9)<|xv 4)<|xp (xv 8) (o1<|xv 9) o0) o0<|o1 xi)) (.a ?_)
 ·rintro ds R X ⟨a,p,b,c,rfl,H,v,hz,B,M⟩;refine⟨rfl,?_⟩;have E:=H.1;obtain⟨m0,m1⟩:=Zde b c;refine⟨⟨by decide,by decide⟩,(by show(0:Int)<9;decide),?_⟩;have back:∀{Q:S->Prop},Q=R->Q (.bor<|.loc a<|.lst<|p.map prD):=λe=>by rw[e];exact M p H _ (.inr ⟨rfl,rfl⟩)
  refine⟨(by show(0:Int)<2;decide),Xg (λ_=>Kr (back rfl)) (λ_=>?_)⟩;refine Xg (λ_=>back rfl) (λg2=>?_)
  have Y:2<=Xx b c:=by
   have:¬Xx b c<2:=λz=>g2 (W1 z)
   omega
  refine⟨by simp,by simp,⟨by decide,by decide⟩,(by show(0:Int)<2;decide),rfl,rfl,?_⟩;refine Zoa (λd=>∃f:Int,d=.int f/\0<=f/\f+Xx b c<=b.length) (λd hd=>?_) (λi l=>∃g:ZU,l=[some (.bor<|.loc a<|.lst<|p.map prD),some (.bor<|.lst<|b.map D.int),some (.sh<|.int c),some (.sh<|.int<|Xx b c),some (.own<|g.map prD),none,none,none,none,none]/\Laid g/\g.length<=10*i) ⟨[],rfl,⟨QI,λq hq=>by cases hq⟩,by simp⟩ ?_ ?_
  ·have:=(PX _ _ _).subset hd
   rcases WB.mp this with rfl|this
   ·exact⟨0,rfl,by decide,by omega⟩
   ·rw[Wx.mp this];refine⟨b.length-Xx b c,?_,by omega,by omega⟩;show D.int (((b.map D.int).length:Nat)-Xx b c)=_;rw[Wv]
  ·rintro i d l hi ⟨f,rfl,f0,f1⟩ ⟨g,rfl,r,o⟩
   have hi2:i<2:=by
    have:=(PX [D.int 0,D.int (((b.map D.int).length:Nat)-Xx b c)] none<|some (1+c / 18 % 2)).length_le
    exact WZ hi this
   refine⟨⟨by show -(2 ^ 62)<=Xx b c;omega,by show Xx b c<2 ^ 62;omega⟩,P2 (λj l=>∃g:ZU,l=[some (.bor<|.loc a<|.lst<|p.map prD),some (.bor<|.lst<|b.map D.int),some (.sh<|.int c),some (.sh<|.int<|Xx b c),some (.own<|g.map prD),some (.sh<|.int f),none,none,none,none]/\Laid g/\g.length<=10*i+j) ⟨g,rfl,r,by omega⟩ ?_ ?_⟩
   ·rintro j l hj ⟨g,rfl,r,o⟩
    have hj':(j:Int)<Xx b c:=by
     have:j<(Xx b c).toNat:=hj
     omega
    have r1:=V2 (0+(j:Int)+1) (show Xx b c≠0 by omega);have r2:=V3 (0+(j:Int)+1) (show 0<Xx b c by omega)
    have r3:(0+(j:Int)+1) % Xx b c≠j:=by
     by_cases q:(j:Int)+1<Xx b c
     ·rw[JL (by omega) (by omega)];omega
     ·have:0+(j:Int)+1=Xx b c:=by omega
      rw[this,Int.emod_self];omega
    have b1:(f+(0+(j:Int))).toNat<b.length:=by omega
    have T:(f+(0+(j:Int)+1) % Xx b c).toNat<b.length:=by omega
    refine⟨_,Pj (by omega) (by omega),(by show 0<Xx b c;omega),_,Pj (by show 0<=f+(0+(j:Int)+1) % Xx b c;omega) (by show f+(0+(j:Int)+1) % Xx b c<_;omega),by simp,?_⟩
    have U:b[(f+(0+(j:Int))).toNat]≠b[(f+(0+(j:Int)+1) % Xx b c).toNat]:=λz=>by
     have N:=v.idxOf_getElem _ b1;have e2:=v.idxOf_getElem _ T;rw[z]at N;rw[N]at e2;omega
    have L:=B _ (WN b1);have J:=B _ (WN T);refine⟨_,.lp (b[(f+(0+(j:Int))).toNat],b[(f+(0+(j:Int)+1) % Xx b c).toNat]) g,?_⟩;by_cases hq:(b[(f+(0+(j:Int))).toNat],b[(f+(0+(j:Int)+1) % Xx b c).toNat])∈g
    ·rw[W1 hq];exact X5 ⟨g,rfl,r,by omega⟩
    ·rw[Qb hq];refine Kr ⟨by rw[Wv];omega,g++[_],?_,r.put hq ⟨⟨L.1,L.2,J.1,J.2⟩,U⟩,by rw[WA];simp;omega⟩;rw[WC];rfl
   ·rintro l ⟨g,rfl,r,o⟩;refine⟨g,rfl,r,?_⟩
    have:(Xx b c).toNat<=10:=by omega
    have h2:g.length<=10*i+(Xx b c).toNat:=o;omega
  ·rintro l ⟨g,rfl,r,o⟩
   have A:g.length<=20:=by
    have this:(cutD [D.int 0,D.int (((b.map D.int).length:Nat)-Xx b c)] none<|some (1+c / 18 % 2)).length<=2:=(PX _ _ _).length_le;have h2:g.length<=10*(cutD [D.int 0,D.int (((b.map D.int).length:Nat)-Xx b c)] none<|some (1+c / 18 % 2)).length:=o;omega
   refine XH (xs:=p) (emb:=prD) (λq=>if decide (¬q∈g)=true then some (prD q)else none) (by omega) (λq _=>⟨_,.lp q g,?_⟩) ?_
   ·by_cases h:q∈g
    ·rw[W1 h];exact X5 (W2<|by simp[h])
    ·rw[Qb h];exact Kr ⟨_,rfl,W5 (by simp[h])⟩
   rw[Kz λq=>decide (¬q∈g)];refine⟨⟨by decide,by decide⟩,(by show(0:Int)<8;decide),rfl,?_⟩;rw[Te];have u:=PX (p.filter λq=>decide (¬q∈g)) none (some (c / 36 % 8));have s:(cutD (p.filter λq=>decide (¬q∈g)) none<|some (c / 36 % 8)).length<=20:=W9 u.length_le (W9 (Qk _ _) E);refine⟨⟨by decide,by decide⟩,(by show(0:Int)<(((cutD (p.filter λq=>decide (¬q∈g)) none<|some (c / 36 % 8)).map prD).length:Nat)+1;omega),?_⟩;have y:(g.map prD).length<=20:=by rw[Wv];exact A
   refine⟨rfl,rfl,rfl,W9 (QC (Al s) y) (by decide),rfl,rfl,rfl,W9 (QC (by rw[WA];exact QC (Al s) y)<|Al s) (by decide),rfl,?_⟩;exact M _ (Zgt H u r) _ (.inl<|Qs (λx=>S.own (O.lst x))<|Zck _ g<|V2 _<|by omega)
def Zdo(v:Def K mg "check_strips" Av ["strips"])
  : Ew ζ:=by
 refine v.fy Ze1 (λq n=>(bc (sI (tc Po Pe (xl G.len<|xv 0)<|xe (ExcR.KY G.Zy) Xp) (b1<|sQ G.Zq G.Zp ExcR.Pi<|a1<|xe (ExcR.NK<|ExcR.Pv<|ExcR.NP (ExcR.KY G.Zy)<|ExcR.Pv ExcR.Nv)<|Ny<|Pq<|NW Xp<|Pq N9) b0)<|b1<|sF 0<|sO [1,2] ExcR.BQ (iL<|xv 0) (gT 2<|gc (gN 1)<|gc (gN 2) g0)<|bc (sE<|xg Yn q ExcR.Xu<|a1<|xv 1)<|b1<|sE<|xg YA q ExcR.Xu<|a1<|xv 2)) (.a ?_)
 ·rintro A R X ⟨b,rfl,x,h⟩;refine⟨rfl,?_⟩;have y:(b.map prD).length=b.length:=Wv ..;unfold NJ at h;refine Xg (λg=>?_) (λg=>?_)
  ·have s:(40:Int)<((b.map prD).length:Int):=W6 g;rw[W5 (by lia)]at h;exact⟨by decide,by decide,by decide,by decide,by decide,by simp,h⟩
  ·have s:¬(40:Int)<((b.map prD).length:Int):=λz=>g (W1 z);rw[W2 (by lia)]at h;refine⟨rfl,Kl (xs:=b) (emb:=prD) (λi l=>l=[some (.bor<|plD b),none,none]/\To (b.drop i)=To b) ⟨rfl,rfl⟩ ?_ ?_⟩
   ·rintro i r l ⟨rfl,f⟩;have u:b.drop i=b[i]::b.drop (i+1):=Q0 r;rw[u,Zog]at f;generalize b[i]=p at f ⊢;refine⟨rfl,p.1,rfl,?_⟩;unfold NU;by_cases c:1<=p.1/\p.1<=10
    ·rw[W2 (λz=>z c)]at f;rw[W5 c];refine⟨p.2,rfl,?_⟩;unfold Au;by_cases o:1<=p.2/\p.2<=1000
     ·rw[W2 (λz=>z o)]at f;rw[W5 o];exact⟨rfl,f⟩
     ·rw[W5 o]at f;rw[W2 o];rw[←f]at h;exact h
    ·rw[W5 c]at f;rw[W2 c];rw[←f]at h;exact h
   ·rintro l ⟨rfl,f⟩;rw[List.drop_length]at f;rw[←f]at h;exact h
def Znn(v:Def K mg "lies_together" Dj ["strips"])
  : GD ζ:=by
 refine v.fz RC (λl n=>(bc (sC 1 ["index","strips"] [none,some 0] n (jI<|ir G.Zc<|a1<|xl G.len<|xv 0) (gN 0) (f1<|tt<|xf YB l<|a2 (xv 1)<|xv 0)<|xv 0)<|b1<|sR<|xe (KI (NN (K:=K)<|show _<cLine from(l ()).units0) (ln K G.len<|pv 1) (ln K G.len<|fz Yj (l ())<|az<|pv 0)<|Ke _)<|TR (T9<|sz<|UW 1)<|T9<|sz<|Ko<|sz<|UW 0)) (.a ?_)
 ·rintro C R X ⟨b,rfl,p,r,s,u⟩;refine⟨rfl,?_⟩;have x:(b.map prD).length=b.length:=Wv ..;refine⟨⟨by lia,by lia⟩,Bq (λi=>if Ks b i=true then some (D.int (0+(i:Int)))else none) (by lia) (λi y=>?_) ?_⟩
  ·have o:i<b.length:=by lia
   refine⟨b,i,by rw[show(0:Int)+(i:Int)=((i:Nat):Int) by lia];rfl,o,?_⟩;exact Xg (λg=>⟨_,rfl,W5 g⟩) (λg=>W2 g)
  rw[Kz (λi:Nat=>Ks b i)];refine⟨b,rfl,p,r,?_⟩
  have B:(((List.range (((b.map prD).length:Nat):Int).toNat).filter λi:Nat=>Ks b i).map λi:Nat=>D.int (0+(i:Int))).length=((List.range b.length).filter (Ks b)).length:=by
   rw[Wv,show(((b.map prD).length:Nat):Int).toNat=b.length by lia]
  have A:((Xc b).map D.int).length=(Xc b).length:=Wv ..;by_cases c:Bj b
  ·have:=(EW p).mpr c
   have q:((((((List.range (((b.map prD).length:Nat):Int).toNat).filter λi:Nat=>Ks b i).map λi:Nat=>D.int (0+(i:Int))).length:Nat):Int)=((((Xc b).map D.int).length:Nat):Int)):=by lia
   have f:=s c;rw[←W1 q]at f;exact f
  ·have h:¬((List.range b.length).filter (Ks b)).length=(Xc b).length:=λz=>c ((EW p).mp z);have q:¬((((((List.range (((b.map prD).length:Nat):Int).toNat).filter λi:Nat=>Ks b i).map λi:Nat=>D.int (0+(i:Int))).length:Nat):Int)=((((Xc b).map D.int).length:Nat):Int)):=by lia
   have f:=u c;rw[←Qb q]at f;exact f
def Znv(v:Def K mg "check_order" AF ["strips","order"])
  : DQ ζ:=by
 refine v.fy Zes (λl n=>(b1<|sI (tn l (xe (XF (Sv (K:=K) (w:=w) rfl) (by rfl) G.Zh Jh<|az<|pv 1)<|Bf<|sz<|UW 1)<|xf Yj l<|a1<|xv 0) (b1<|sQ G.ZA G.Z9 ExcR.Pi<|a1 xs) b0)) (.a ?_)
 ·rintro x R X ⟨ps,os,rfl,r,o,p,b⟩;refine⟨rfl,os,rfl,p,λh u s=>⟨ps,rfl,r,o,_,_,rfl,rfl,?_⟩⟩;have q:=Zmi (ps:=ps) u s;unfold NS at b;refine Xg (λg=>?_) (λg=>?_)
  ·have f:¬h=Xc ps:=λz=>by rw[W5 rfl,W1 z]at g;cases g
   rw[W2 (λz=>f (q.mpr z))]at b;exact⟨by simp,b⟩
  ·have f:h=Xc ps:=Qc λz=>g (by rw[W5 rfl,Qb z];rfl);rw[W5 (q.mp f)]at b;exact b
def Ro(DD:Def K mg "ring_from" Ds ["least","holders","wishes"])
  : GQ ζ:=by
 refine DD.fz Zi8 (λT n=>(bc (sF 0<|sS 3 n<|xL<|a1<|xL<|a1<|xv 0)<|bc (sS 4 n<|xe (XF (Sv (K:=K) (w:=w) rfl) (by rfl) G.Zh Jh<|az<|cz ["holder","least"] [none,some 0] (T1 (K:=K)<|pv 1) ⟨(gk 0),(SC<|PY Po (pv 0) (pv 1)<|Ke _),(pv 0)⟩)<|Bf<|sz<|Pf (Nl<|UW 1) (XT 0) (Ph<|Pe (UW 0)<|UW 1)<|UW 0)<|bc (sW [5,6] WO (tt<|xv 3)<|bc (sF 0<|sC 5 ["path","wishes","least"] [none,some 2,some 0] n (jL<|xv 3) (gN 0) (f1<|ti T (xt<|a2 (xx (xv 0)<|xe (PJ PD X1)<|Tz Xp)<|xv 2)<|xv 1)<|xv 0)<|bc (sI (tt<|xv 5) (b1<|sr<|xx (xv 5) xi) b0)<|bc (sS 3 n<|xf YE T<|a3 (xv 3) (xv 4)<|xv 2)<|bc (sS 6 n<|xC ["path"] [none] (jL<|xv 3) (gN 0) f0<|xx (xv 0)<|xe (PJ PD X1)<|Tz Xp)<|b1<|sC 4 ["holder","reached"] [none,some 6] n (jL<|xv 4) (gN 0) (f1<|tI T (xv 0)<|xv 1)<|xv 0)<|b1<|sr<|xL a0)) (.a ?_)
 ·rintro ds R X ⟨l,v,A,rfl,hnd,hz,hR⟩;refine⟨rfl,by simp,by simp,XH (xs:=v) (emb:=D.int) (λh=>if decide (l<h)=true then some (.int h)else none) (by lia) (λh _=>Xg (λg=>⟨_,rfl,W5 g⟩) (λg=>W2 g)) ?_⟩;rw[Ee λh=>decide (l<h)];refine⟨v.filter λh=>decide (l<h),rfl,JE (Qk _ _) (by lia),λb s H=>?_⟩;have hlt:b.Pairwise (· < ·):=N8 H (s.nodup_iff.mpr<|hnd.filter _)
  have hm:∀h,h∈b↔Gr v l h:=λh=>by
   rw[s.mem_iff,WM,Vq];exact Iff.rfl
  have J:b.length<=v.length:=by
   rw[s.length_eq];exact Qk _ _
  refine BA (λC=>∃k f b,C=[some (.sh<|.int l),some (.bor<|.lst<|v.map D.int),some (.bor<|.lst<|A.map prD),some (.own<|f.map<|em l),some (.own<|b.map D.int),none,none]/\Lev v A l k f b/\f.length<=60/\b.length<=v.length/\(k+b.length<=v.length\/(f=[]/\k<=v.length+1)))
   (λγ=>2*G9 4 γ+min 1 (G9 3 γ)) ⟨0,[[]],b,rfl,Lev.start hlt hm,by simp,J,.inl (by lia)⟩ ?_
  rintro C ⟨k,f,b,rfl,L,hpl,hll,hk⟩;have emp:(!(f.map<|em l).isEmpty)=decide (f≠[]):=by cases f<;>simp
  show if (!(f.map<|em l).isEmpty)=true then _ else _;rw[emp];refine Xg (λg=>?_) (λg=>?_)
  ·have y:f≠[]:=W6 g;have hk':k+b.length<=v.length:=hk.elim id λz=>absurd z.1 y;have U:∀p∈f,p.length<=60:=λp s=>by rw[(L.way p s).1];lia
   refine XH (xs:=f) (emb:=em l) (λp=>if decide ((Xf l p,l)∈A)=true then some (em l p)else none) (by lia) (λp s=>⟨_,BD l p,by simp,_,.lp (Xf l p,l) A,Xg (λg=>⟨_,rfl,W5 g⟩) (λg=>W2 g)⟩) ?_;rw[Kz λp=>decide ((Xf l p,l)∈A)];generalize ef:(f.filter λp=>decide ((Xf l p,l)∈A))=fs;have N:(!(fs.map<|em l).isEmpty)=decide (fs≠[]):=by cases fs<;>simp
   show if (!(fs.map<|em l).isEmpty)=true then _ else _;rw[N];refine Xg (λg2=>?_) (λg2=>?_)
   ·have B:fs≠[]:=W6 g2;cases fs with
    |nil=>exact absurd rfl B
    |cons p r=>
     obtain⟨i,hi,Q,e2,e3⟩:=GT ef;have s:p∈f:=by rw[←Q];exact WN hi
     refine⟨em l p,N2 _ _,hR (l::p) (L.found hi Q (W6 e2) λj hj hji z=>?_) (by have:=(L.way p s).1;simp;lia)⟩
     have:=e3 j hj hji
     rw[W1 z]at this;cases this
   ·have B:fs=[]:=Qc λz=>g2 (W1 z)
    have hn:∀p∈f,(Xf l p,l)∉A:=λp s z=>by
     have:p∈fs:=by rw[←ef];exact WM.mpr ⟨s,W1 z⟩
     rw[B]at this;cases this
    refine⟨l,f,b,A,rfl,L.srt,L.lsrt,λp s=>W9 (U p s) (by decide),by lia,λo G hlg=>?_⟩;refine XH (xs:=o) (emb:=em l) (λp=>some (.int<|Xf l p)) (by lia) (λp _=>⟨_,BD l p,_,rfl,rfl⟩) ?_;have Q:o.filterMap (λp=>some (D.int<|Xf l p))=(o.map<|Xf l).map D.int:=by rw[V4,Qe];rfl
    rw[Q];refine XH (xs:=b) (emb:=D.int) (λh=>if decide (¬h∈o.map (Xf l))=true then some (.int h)else none) (by lia) (λh _=>⟨_,.li h _,?_⟩) ?_
    ·by_cases c:h∈o.map (Xf l)
     ·simp only[W1 c];exact X5 (W2<|by simp[c])
     ·simp only[Qb c];exact Kr ⟨_,rfl,W5 (by simp[c])⟩
    rw[Ee λh=>decide (¬h∈o.map (Xf l))];have L':=L.next hn G rfl
    have E:∀h∈o.map (Xf l),h∈b:=λh hh=>by
     obtain⟨q,hq,e⟩:=WK.mp hh;obtain⟨p,x,⟨_,a⟩,rfl,_⟩:=G.mem q hq;rw[Kv]at e;rw[←e];exact a
    have M:=Qk (λh=>decide (¬h∈o.map (Xf l))) b
    have u:o≠[]->(b.filter λh=>decide (¬h∈o.map (Xf l))).length<b.length:=λy=>by
     obtain⟨q,hq⟩:=VI o y;have hm:Xf l q∈b:=E _ (VH hq);refine Nat.lt_of_le_of_ne M λz=>?_
     have:=List.filter_eq_self.mp (List.Sublist.eq_of_length (List.filter_sublist (l:=b)) z) (Xf l q) hm
     rw[Vq]at this;exact this (VH hq)
    refine⟨⟨k+1,o,_,rfl,L',by lia,by lia,?_⟩,?_⟩
    ·by_cases c:o=[]
     ·exact .inr ⟨c,by lia⟩
     ·have:=u c
      exact .inl (by lia)
    ·show 2*((b.filter λh=>decide (¬h∈o.map (Xf l))).map D.int).length+min 1 (o.map<|em l).length<2*(b.map D.int).length+min 1 (f.map<|em l).length;rw[Wv,Wv,Wv,Wv]
     have:0<f.length:=J6.mpr y
     by_cases c:o=[]
     ·rw[c];rw[c]at M;simp only[List.length_nil];lia
     ·have:=u c
      lia
  ·have Y:f=[]:=Qc λz=>g (W1 z);subst Y;exact⟨by simp,hR [] L.over (by simp)⟩
def Zje(B:Def K mg "pair_costs" Cr ["strips"])
  : Od ζ:=by
 refine B.fz Lh (λp n=>(bc (sS 1 n<|xf Yj p<|a1<|xv 0)<|bc (se (Pu.pz 2 Lh.nd Zju)<|Tr Rx<|XT 2)<|bc (sF 1<|sO [3,4] WO (iL<|xv 1) (gN 3)<|b1<|sF 1<|sO [4] WO (iL<|xv 1) (gN 4)<|b1<|sF 4<|sF 3<|se (Fe (XX<|p ()) (pv 2) (Th<|bz (pv 3)<|pv 4) (fz YC (p ())<|dz (pv 0) (pv 3)<|pv 4) rfl)<|BL 2 (T4<|tz (UW 3)<|UW 4)<|Ko<|uz (UW 0) (UW 3)<|UW 4)<|b1<|sV 2)) (.a ?_)
 ·rintro C R X ⟨h,rfl,s,u,r⟩;refine⟨rfl,h,rfl,s,u,?_⟩;have A:=Tc h;generalize Xc h=f at A r ⊢
  refine⟨rfl,Kl (xs:=f) (emb:=D.int) (λi g=>∃b:List (List Key×V),g=[some (.bor<|.lst<|h.map prD),some (.sh<|.lst<|f.map D.int),some (.own<|.dT b),none,none]/\b.length<=i*10/\
   ∀x∈f.take i,∀y∈f,Xi b [.inl x,.inl y]=some (.int<|pcM h x y h.length)) ⟨[],rfl,by simp,by simp⟩ ?_ ?_⟩
  ·rintro i z g ⟨b,rfl,q,o⟩
   refine⟨rfl,Kl (xs:=f) (emb:=D.int) (λj g=>∃b:List (List Key×V),g=[some (.bor<|.lst<|h.map prD),some (.sh<|.lst<|f.map D.int),some (.own<|.dT b),some (.sh (.int f[i])),none]/\b.length<=i*10+j/\
    (∀x∈f.take i,∀y∈f,Xi b [.inl x,.inl y]=some (.int<|pcM h x y h.length))/\∀y∈f.take j,Xi b [.inl f[i],.inl y]=some (.int (pcM h f[i] y h.length))) ⟨b,rfl,by lia,o,by simp⟩ ?_ ?_⟩
   ·rintro j v g ⟨b,rfl,q,o,hw⟩;refine⟨h,_,_,rfl,s,by simp,_,_,rfl,rfl,by lia,_,rfl,W9 (SR _ _ _) (by lia),λx hx y l=>?_,λy l=>?_⟩
    ·rw[SZ];by_cases e:([.inl x,.inl y]:List Key)=[.inl f[i],.inl f[j]]
     ·rw[W5 e];simp only[J0,Sum.inl.injEq,and_true]at e;rw[e.1,e.2]
     ·rw[W2 e];exact o x hx y l
    ·rw[SZ];by_cases e:([.inl f[i],.inl y]:List Key)=[.inl f[i],.inl f[j]]
     ·rw[W5 e];simp only[J0,Sum.inl.injEq,and_true]at e;rw[e.2]
     ·rw[W2 e];rw[W4 v,WD,Wx]at l;rcases l with l|l
      ·exact hw y l
      ·subst l;exact absurd rfl e
   ·rintro g ⟨b,rfl,q,o,hw⟩;rw[WX]at hw;refine⟨b,rfl,by lia,λx hx y l=>?_⟩;rw[W4 z,WD,Wx]at hx;rcases hx with hx|hx
    ·exact o x hx y l
    ·subst hx;exact hw y l
  ·rintro g ⟨b,rfl,q,o⟩;rw[WX]at o;exact r b o
def Zd2(u:Def K mg "cost_with_last" FC ["members","last","least","pairs"])
  : EG ζ:=by
 refine u.fz Zah (λf n=>(bc (sS 4 n<|xf Yo f<|a2 (xv 0)<|xv 1)<|b1<|sF 1<|sR<|xo XD XC (xe (TQ (XX<|f ()) (pv 2) (pv 4) (λ_ _=>rfl))<|Nf (UW 2)<|UW 4)<|xe (XF (AU (K:=K) rfl) (by rfl) G.ZI boot_sum<|az<|cz ["other","pairs","last"] [none,some 3,some 1] (Nu (K:=K)<|pv 4) ⟨(gk 0),Na,(TQ (XX<|f ()) (pv 1) (Th<|bz (pv 0)<|pv 2) (λ_ _=>rfl))⟩)<|Cb<|sz<|Pf (SndI.c<|NA<|UW 4) (XT 0) Nz<|Nf (UW 1)<|T4<|tz (UW 0)<|UW 2)) (.a ?_)
 ·rintro y R X ⟨b,l,le,x,c,v,rfl,g,o,q,r⟩;refine⟨rfl,?_⟩;rw[Bh];have h:(Xj b l).length<=1000:=W9 less_sub.length_le g;refine⟨b,l,rfl,g,_,_,B9 _,o,rfl,_,rfl,XH (s:=.sh .non) (xs:=Xj b l) (emb:=D.int) (λm=>some (.int<|c m)) (by lia) (λm p=>?_) ?_⟩
  ·exact⟨by simp,_,_,rfl,q m p,rfl,_,rfl,rfl⟩
  ·rw[PB];exact⟨(Xj b l).map c,by rw[Qe];rfl,r⟩
def Zds(u:Def K mg "cost_with_first" Ar ["members","first","least","pairs"])
  : EM ζ:=by
 refine u.fz Zdu (λf n=>(bc (sS 4 n<|xf Yo f<|a2 (xv 0)<|xv 1)<|b1<|sF 1<|sR<|xo XD XC (xe (TQ (XX<|f ()) (pv 2) (pv 4) (λ_ _=>rfl))<|Nf (UW 2)<|UW 4)<|xe (XF (AU (K:=K) rfl) (by rfl) G.ZI boot_sum<|az<|cz ["other","pairs","first"] [none,some 3,some 1] (Nu (K:=K)<|pv 4) ⟨(gk 0),Na,(TQ (XX<|f ()) (pv 1) (Th<|bz (pv 2)<|pv 0) (λ_ _=>rfl))⟩)<|Cb<|sz<|Pf (SndI.c<|NA<|UW 4) (XT 0) Nz<|Nf (UW 1)<|T4<|tz (UW 2)<|UW 0)) (.a ?_)
 ·rintro y R X ⟨b,l,le,x,c,v,rfl,g,o,q,r⟩;refine⟨rfl,?_⟩;rw[Bh];have h:(Xj b l).length<=1000:=W9 less_sub.length_le g;refine⟨b,l,rfl,g,_,_,B9 _,o,rfl,_,rfl,XH (s:=.sh .non) (xs:=Xj b l) (emb:=D.int) (λm=>some (.int<|c m)) (by lia) (λm p=>?_) ?_⟩
  ·exact⟨by simp,_,_,rfl,q m p,rfl,_,rfl,rfl⟩
  ·rw[PB];exact⟨(Xj b l).map c,by rw[Qe];rfl,r⟩
def Zeg(L:Def K mg "longer_stands" Aa ["strips","stands"])
  : EY ζ:=by
 refine L.fz RZ (λo n=>(bc (sS 2 n<|xL a0)<|bc (sF 1<|sO [3,4,5] WO (iL<|xv 1) (gT 2<|gc (gN 3)<|gc (gN 4) g0)<|b1<|sO [5] WO (iL<|xf Yu o<|a1<|xv 0) (gN 5)<|b1<|sI (tI o (xv 5)<|xv 3) (b1<|sF 5<|sA 2<|xt<|a2 (xe (KU (Ik (K:=K)) (pv 3)<|Th<|az<|pv 5)<|Mj (UW 3)<|T4<|sz<|UW 5)<|xo XD XC (xv 4)<|xf YK o<|a3 (xv 0) (xv 3)<|xv 5) b0)<|b1<|sV 2)) (.a ?_)
 ·rintro Q R X ⟨b,h,rfl,E,y,M,hq,C⟩;refine⟨rfl,by simp,rfl,Kl (xs:=h) (emb:=stD) (λi f=>f=[some (.bor<|plD b),some (.bor<|.lst<|h.map stD),some (.own (((h.take i).flatMap (Pk b)).map stD)),none,none,none]) rfl ?_ ?_⟩
  ·rintro i v f rfl
   have H:(h.take (i+1)).flatMap (Pk b)=(h.take i).flatMap (Pk b)++Pk b h[i]:=by
    rw[W4 v,J9];simp
   have s:=FT y (h.take i);have z:(h.take i).length<=1000000:=by rw[WG];lia
   have p:=hq _ (WN v);rw[H];generalize h[i]=q at p ⊢;generalize (h.take i).flatMap (Pk b)=A at s ⊢;rw[show(arg<|D.lst<|h.map stD).sub (stD q)=Pu.S.sh (stD q)from O9 q]
   refine⟨rfl,b,rfl,by lia,?_⟩;refine⟨rfl,Kl (xs:=Xn 1 b.length) (emb:=D.int) (λj f=>f=[some (.bor<|plD b),some (.bor<|.lst<|h.map stD),some (.own ((A++((((Xn 1 b.length).take j).filter λx=>!decide (x∈q.1)).map λx=>(q.1++[x],q.2+Kn b q.1 x))).map stD)),some (.sh<|tD q.1),some (.sh<|.int q.2),none]) (by simp;rfl) ?_ ?_⟩
   ·rintro j u f rfl;have r:=run_mem.mp (WN u);have J:(Xn 1 b.length).take (j+1)=(Xn 1 b.length).take j++[(Xn 1 b.length)[j]]:=W4 u;have l:=Qk (λx=>!decide (x∈q.1)) ((Xn 1 b.length).take j);rw[WG]at l;have B:(Xn 1 b.length).length=b.length:=Tp _;rw[J,VT,WC];generalize (Xn 1 b.length)[j]=x at r ⊢;generalize N:(((Xn 1 b.length).take j).filter λx=>!decide (x∈q.1))=P at l ⊢;refine⟨_,.ti _ _,Xg (λg=>?_) (λg=>?_)⟩
    ·refine⟨by simp,_,_,rfl,rfl,?_,b,q.1,x,rfl,E,by lia,r.1,r.2,by simp,?_,?_⟩
     ·show(q.1.map D.int).length+1<=100000;rw[Wv];lia
     ·rw[WA,Wv,Wv,Wv];lia
     ·rw[show([x].filter λx=>!decide (x∈q.1))=[x]from Vx g]
      show[_,_,some (Pu.S.own<|O.lst ((A.map stD++(P.map λx=>(q.1++[x],q.2+Kn b q.1 x)).map stD)++[.tup [.tup (q.1.map D.int++[D.int x]),.int (q.2+Kn b q.1 x)]])),_,_,_]=_
      have e:D.tup [.tup (q.1.map D.int++[D.int x]),.int (q.2+Kn b q.1 x)]=stD (q.1++[x],q.2+Kn b q.1 x):=by
       unfold stD tD;rw[WC];rfl
      rw[e];simp[WC]
    ·rw[show([x].filter λx=>!decide (x∈q.1))=[]from VY g]
     simp;rfl
   ·rintro f rfl;rw[WX];rfl
  ·rintro f rfl;rw[WX];exact C
def Zke(s:Def K mg "sold" F5 ["strips","place","holder"])
  : Gc ζ:=by
 refine s.fy Zep (λl n=>(bc (sE<|xg YN l ExcR.Xu<|a2 (xv 0)<|xv 1)<|bc (sE<|xg Yn l ExcR.Xu<|a1<|xv 2)<|bc (sS 3 n<|xx (xv 0)<|xo Kc Kb (xv 1) xi)<|bc (sI (tq l (xx (xv 3) xi)<|xv 2) (b1<|sQ G.ZD G.ZC ExcR.Pi<|a1 xs) b0)<|b1<|sF 2<|sR<|xo P1 P0 (xo P1 P0 (xp (xv 0) o0<|o1<|xo Kc Kb (xv 1) xi)<|xL<|a1<|xt<|a2 (xv 2)<|xx (xv 3) xi)<|xp (xv 0) (o1<|xv 1) o0)) (.a ?_)
 ·rintro v R X ⟨ps,p,h,rfl,u,b⟩;refine⟨rfl,?_⟩;unfold Tv at b;refine⟨ps,p,rfl,?_⟩;unfold FI;by_cases c:p<1\/(ps.length:Int)<p
  ·rw[W5 c]at b ⊢;exact b
  ·rw[W2 c]at b ⊢;refine⟨h,rfl,?_⟩;unfold NU;by_cases f:1<=h/\h<=10
   ·rw[W2 (λz=>z f)]at b;rw[W5 f];refine⟨_,BX (by lia) (by lia),?_⟩;have q:(cutD (ps.map prD) none<|some (p-1)).length<=1000:=by have:=(PX (ps.map prD) none<|some (p-1)).length_le;rw[Wv]at this;lia
    have r:(cutD (ps.map prD) (some p) none).length<=1000:=by have:=(PX (ps.map prD) (some p) none).length_le;rw[Wv]at this;lia
    refine⟨_,rfl,Xg (λg=>?_) (λg=>?_)⟩
    ·have o:(XU ps p).1=h:=W6 g;rw[W5 o]at b;exact⟨by simp,b⟩
    ·have o:¬(XU ps p).1=h:=λz=>g (W1 z);rw[W2 o]at b;refine⟨NC _,_,rfl,by simp,by simp,rfl,rfl,W9 (QC q<|W3 1) (by decide),NC _,rfl,rfl,W9 (QC (by rw[WA];exact QC q (W3 1)) r) (by decide),?_⟩;have e:=RN (ps:=ps) (p:=p) (x:=(h,(XU ps p).2)) (by lia) (by lia);show R (.own (cutD (ps.map prD) none (some (p-1))++[prD (h,(XU ps p).2)]++cutD (ps.map prD) (some p) none));rw[e];exact b
   ·rw[W5 f]at b;rw[W2 f];exact b
def Zlr(x:Def K mg "with_wish" FS ["wishes","ahead","behind"])
  : LZ ζ:=by
 refine x.fy Rz (λl n=>(bc (sE<|xg Yn l ExcR.Xu<|a1<|xv 1)<|bc (sE<|xg Yn l ExcR.Xu<|a1<|xv 2)<|bc (sI (tq l (xv 1)<|xv 2) (b1<|sQ G.Zx G.Zw ExcR.Pi<|a1 xs) b0)<|bc (sI (ti l (xt<|a2 (xv 1)<|xv 2)<|xv 0) (b1<|sQ G.Z1 G.Z0 ExcR.Pi<|a1 xs) b0)<|bc (sI (tc EF Li (xl G.len<|xv 0)<|xe (ExcR.KY G.Zj) Xp) (b1<|sQ G.Zu G.Zt ExcR.Pi<|a1<|xe (ExcR.NK<|ExcR.Pv<|ExcR.NP (ExcR.KY G.Zj)<|ExcR.Pv ExcR.Nv)<|Ny<|Pq<|NW Xp<|Pq N9) b0)<|b1<|sF 2<|sF 1<|sR<|xo P1 P0 (xv 0)<|xL<|a1<|xt<|a2 (xv 1)<|xv 2)) (.a ?_)
 ·rintro y R X ⟨h,a,b,rfl,u,f⟩;refine⟨rfl,?_⟩;have v:(h.map prD).length=h.length:=Wv ..;unfold Tf at f;refine⟨a,rfl,?_⟩;unfold NU;by_cases p:1<=a/\a<=10
  ·rw[W2 (λz=>z p)]at f;rw[W5 p];refine⟨b,rfl,?_⟩;unfold NU;by_cases o:1<=b/\b<=10
   ·rw[W2 (λz=>z o)]at f;rw[W5 o];refine Xg (λg=>?_) (λg=>?_)
    ·rw[W5 (W6 g)]at f;exact⟨by simp,f⟩
    ·rw[W2 (λz=>g (W1 z))]at f;refine⟨by simp,_,.lp (a,b) h,Xg (λs=>?_) (λs=>?_)⟩
     ·rw[W5 (W6 s)]at f;exact⟨by simp,f⟩
     ·rw[W2 (λz=>s (W1 z))]at f;refine Xg (λr=>?_) (λr=>?_)
      ·have q:(20:Int)<=((h.map prD).length:Int):=W6 r;rw[W5 (by lia)]at f;exact⟨by decide,by decide,by decide,by decide,by decide,by simp,f⟩
      ·have q:¬(20:Int)<=((h.map prD).length:Int):=λz=>r (W1 z);rw[W2 (by lia)]at f;refine⟨by simp,by simp,NC _,rfl,W9 (QC (W9 (Vg v) u)<|W3 1) (by decide),?_⟩;rw[WC]at f;exact f
   ·rw[W5 o]at f;rw[W2 o];exact f
  ·rw[W5 p]at f;rw[W2 p];exact f
def Zb9(h:Def K mg "_law_draw" CK ["_law_script","_law_k"])
  : MT ζ:=by
 refine h.fz Za2 (λb n=>(bc (sI (tq b (xo Xz X2 (xf Yl b<|a2 (xv 0) xi) xi) xi) (b1<|sR<|xf Yl b<|a2 (xv 0)<|xo XD XC xi<|xv 1) b0)<|b1<|sR<|xf Yy b<|a2 (xf Yl b<|a2 (xv 0) xi)<|xv 1)) (.a ?_)
 ·rintro o R X ⟨f,k,rfl,l,g⟩;refine⟨rfl,f,0,rfl,by decide,λv=>⟨(by show(0:Int)<2;decide),Xg (λ_=>?_) (λ_=>?_)⟩⟩
  ·exact⟨f,_,rfl,by omega,λv=>g v⟩
  ·exact⟨f,1,rfl,by decide,λu=>⟨_,_,rfl,λv=>g v⟩⟩
def O6(h:Def K mg "_law_spare" A7 ["_law_script"])
  : Oc ζ:=by
 refine h.fz Zhw (λb n=>(bc (sI (tq b (xo Xz X2 (xf Yl b<|a2 (xv 0) xi) xi) xi) (b1<|sR<|xo Kd Kk (xf Yl b<|a2 (xv 0) xi) xi) b0)<|b1<|sR<|xf Yy b<|a2 (xf Yl b<|a2 (xv 0) xi) xi)) (.a ?_)
 ·rintro l R X ⟨f,rfl,g⟩;refine⟨rfl,?_⟩;exact⟨f,0,rfl,by decide,λv=>⟨(by show(0:Int)<2;decide),Xg (λ_=>⟨f,0,rfl,by decide,λu=>⟨⟨by decide,by decide⟩,g _⟩⟩) (λ_=>⟨f,1,rfl,by decide,λu=>⟨_,_,rfl,λz=>g _⟩⟩)⟩⟩
def Zd8(u:Def K mg "_law_row" Ct ["_law_found","_law_due"])
  : M3 ζ:=by
 refine u.fz Zjf (λh n=>(bc (sI (tp<|wo (tN<|tt<|xe (XF (SD (K:=K)) (by rfl) G.Zb Vn<|bz (pv 0)<|NY (v:=.ty "list") rfl G.Zg boot_list rfl)<|Sy<|tz (UW 0) NV)<|wO<|tn h (xl G.len<|xv 0)<|xl G.len<|xv 1) (b1<|sR xb) b0)<|bc (sO [2] WO (ir G.Zc<|a1<|xl G.len<|xv 1) (gN 2)<|b1<|sI (tp<|wo (tN<|tt<|xf Yx h<|a1<|xx (xv 0)<|xv 2)<|wO<|tn h (xx (xv 0)<|xv 2)<|xx (xv 1)<|xv 2) (b1<|sR xb) b0)<|b1<|sR xb)) (.a ?_)
 ·rintro y R X ⟨xs,rfl|rfl,x,s⟩;refine⟨rfl,?_⟩
  ·have q:(xs.map D.int).length=xs.length:=Wv ..;refine⟨_,.same _,X5 (NO rfl ?_)⟩;refine⟨⟨by lia,by lia⟩,P2 (λi b=>b=[some (.bor<|.lst<|xs.map D.int),some (.bor<|.lst<|xs.map D.int),none]) rfl ?_ ?_⟩
   ·rintro i b p rfl;have o:i<(((xs.map D.int).length:Nat):Int).toNat:=p;have ez:(0:Int)+(i:Int)=(i:Int):=by lia
    have g:i<xs.length:=by lia
    have f:atI (xs.map D.int) (0+(i:Int))=some (.int xs[i]):=by rw[ez];exact Bz g
    exact⟨_,f,_,rfl,X5 ⟨_,f,_,f,NO rfl rfl⟩⟩
   ·rintro b rfl;exact s
  ·refine⟨rfl,?_⟩;have q:(xs.map D.int).length=xs.length:=Wv ..;have l:((xs.length:Nat):Int)=(((xs.map D.int).length:Nat):Int):=by rw[q]
   refine⟨_,.same _,X5 (NO l ?_)⟩;refine⟨⟨by lia,by lia⟩,P2 (λi b=>b=[some (.bor<|.fL xs),some (.bor<|.lst<|xs.map D.int),none]) rfl ?_ ?_⟩
   ·rintro i b p rfl;have o:i<(((xs.map D.int).length:Nat):Int).toNat:=p;have ez:(0:Int)+(i:Int)=(i:Int):=by lia
    have g:i<xs.length:=by lia
    have f:atI (xs.map D.int) (0+(i:Int))=some (.int xs[i]):=by rw[ez];exact Bz g
    have r:atI xs (0+(i:Int))=some xs[i]:=by rw[ez];exact SL (Ww g)
    exact⟨_,r,_,rfl,X5 ⟨_,r,_,f,NO rfl rfl⟩⟩
   ·rintro b rfl;exact s
def O5(y:Def K mg "_law_tuples" Cu ["_law_found","_law_due"])
  : Ht ζ:=by
 refine y.fz Zay (λh n=>(bc (sI (tp<|wo (tN<|tt<|xe (XF (SD (K:=K)) (by rfl) G.Zb Vn<|bz (pv 0)<|NY (v:=.ty "list") rfl G.Zg boot_list rfl)<|Sy<|tz (UW 0) NV)<|wO<|tn h (xl G.len<|xv 0)<|xl G.len<|xv 1) (b1<|sR xb) b0)<|bc (sO [2,3] WO (ir G.Zc<|a1<|xl G.len<|xv 1) (gN 2)<|bc (sI (tp<|wo (tN<|tt<|xe (XF (SD (K:=K)) (by rfl) G.Zb Vn<|bz (jx K (pv 0)<|pv 2)<|NY (v:=.ty "tuple") rfl G.Zo boot_tuple rfl)<|Sy<|tz (KS (UW 0)<|UW 2) NV)<|wO<|tn h (xl G.len<|xx (xv 0)<|xv 2)<|xl G.len<|xx (xv 1)<|xv 2) (b1<|sR xb) b0)<|b1<|sO [3] WO (ir G.Zc<|a1<|xl G.len<|xx (xv 1)<|xv 2) (gN 3)<|b1<|sI (tp<|wo (tN<|tt<|xf Yx h<|a1<|xx (xx (xv 0)<|xv 2)<|xv 3)<|wO<|tn h (xx (xx (xv 0)<|xv 2)<|xv 3)<|xx (xx (xv 1)<|xv 2)<|xv 3) (b1<|sR xb) b0)<|b1<|sR xb)) (.a ?_)
 ·rintro C R X ⟨f,rfl,A,x⟩;refine⟨rfl,?_⟩;have B:(f.map prD).length=f.length:=Wv ..;refine⟨_,.same _,X5 (NO rfl ?_)⟩;refine⟨⟨by lia,by lia⟩,P2 (λi b=>∃t,b=[some (.bor<|.lst<|f.map prD),some (.bor<|.lst<|f.map prD),none,t]) ⟨_,rfl⟩ ?_ ?_⟩
  ·rintro i b s ⟨t,rfl⟩;have r:i<(((f.map prD).length:Nat):Int).toNat:=s;have ez:(0:Int)+(i:Int)=(i:Int):=by lia
   have u:i<f.length:=by lia
   have g:atI (f.map prD) (0+(i:Int))=some (prD f[i]):=by rw[ez];exact Bz u
   generalize f[i]=q at g;refine⟨_,g,_,.same _,X5 ⟨_,g,_,g,?_⟩⟩;refine⟨_,g,⟨(by show -(2 ^ 62)<=(2:Int);decide),(by show(2:Int)<2 ^ 62;decide)⟩,P2 (λj b=>∃t,b=[some (.bor<|.lst<|f.map prD),some (.bor<|.lst<|f.map prD),some (.sh<|.int (0+(i:Int))),t]) ⟨_,rfl⟩ ?_ ?_⟩
   ·rintro j b p ⟨t,rfl⟩;have o:j<2:=p
    obtain⟨z,l⟩:∃z:Int,atI [D.int q.1,D.int q.2] (0+(j:Int))=some (.int z):=by
     have:j=0\/j=1:=by lia
     rcases this with rfl|rfl
     ·exact⟨_,rfl⟩
     ·exact⟨_,rfl⟩
    exact⟨_,g,_,l,z,rfl,X5 ⟨_,g,_,l,_,g,_,l,NO rfl ⟨_,rfl⟩⟩⟩
   ·rintro b ⟨t,rfl⟩;exact⟨_,rfl⟩
  ·rintro b ⟨t,rfl⟩;exact x
def OH(y:Def K mg "gathered" FD ["strips","order"])
  : Om ζ:=by
 refine y.fy Zi7 (λp n=>(bc (sE<|xg Yz p ExcR.Xu<|a2 (xv 0)<|xv 1)<|bc (sS 2 n<|xL a0)<|bc (sF 1<|sO [3] ExcR.BQ (iL<|xv 1) (gN 3)<|b1<|se (Pm<|TM Qv PySem.F.slot_list_extend PySem.F.type_list_extend Zhx (pv 2)<|az<|cz ["strip","holder"] [none,some 3] (T1 (K:=K)<|pv 0) ⟨(gk 0),(SC<|cq K (p ()) (jx K (pv 0) X1)<|pv 1),(pv 0)⟩)<|OJ 2<|Pf (Nl<|UW 0) (XT 0) (Ph<|TR (KS (UW 0) Xp)<|UW 1)<|UW 0)<|b1<|sV 2)) (.a ?_)
 ·rintro C R X ⟨b,os,rfl,v,o,s,h⟩;refine⟨rfl,b,os,rfl,v,o,s,?_⟩;cases e:NS b os with
  |some c=>rw[e]at h;exact h
  |none=>
   rw[e]at h;have l:R (.own ((PQ b os).map prD)):=h;refine⟨by simp,rfl,Kl (xs:=os) (emb:=D.int) (λi f=>f=[some (.bor<|plD b),some (.bor<|.lst<|os.map D.int),some (.own ((PQ b<|os.take i).map prD)),none]) rfl ?_ ?_⟩
   ·rintro i u f rfl;have A:=Zjg b (os.take i);have r:(os.take i).length<=64:=by rw[WG];lia
    have z:=Nat.mul_le_mul r o;have B:=Qk (λq:Int×Int=>decide (q.1=os[i])) b;refine XH (xs:=b) (emb:=prD) (λq=>if decide (q.1=os[i])=true then some (prD q)else none) (by lia) (λq hq=>⟨_,rfl,Xg (λg=>⟨_,rfl,W5 g⟩) (λg=>W2 g)⟩) ?_;rw[Kz (λq:Int×Int=>decide (q.1=os[i]))];refine⟨by rw[Wv,Wv];lia,?_⟩
    have x:PQ b (os.take (i+1))=PQ b (os.take i)++b.filter λq=>decide (q.1=os[i]):=by
     unfold PQ;rw[W4 u,J9];simp
    rw[x,WC];rfl
   ·rintro f rfl;rw[WX];exact l
def Re(DD:Def K mg "find_ring" AL ["holders","wishes"])
  : Gb ζ:=by
 refine DD.fz Zlf (λN n=>(bc (sS 2 n<|xL a0)<|bc (sF 2<|sO [3,4] WO (iL<|xe (XF (Sv (K:=K) (w:=w) rfl) (by rfl) G.Zh Jh<|az<|pv 0)<|Bf<|sz<|UW 0) (gN 3)<|bc (sS 4 n<|xf YY N<|a3 (xv 3) (xv 0)<|xv 1)<|b1<|sI (tp<|wa (tt<|xv 4)<|wA<|tp<|wo (tN<|tt<|xv 2)<|wO<|tc T6 Ts (xl G.len<|xv 4)<|xl G.len<|xv 2) (b1<|sF 4<|sS 2 n<|xv 4) b0)<|b1<|sF 2<|sV 2)) (.a ?_)
 ·rintro ds R X ⟨y,B,rfl,u,M,U⟩;refine⟨rfl,by simp,y,rfl,by lia,λq H s=>?_⟩;have C:q.Pairwise (· < ·):=N8 s (H.nodup_iff.mpr u);refine⟨rfl,Kl (xs:=q) (emb:=D.int) (λi p=>∃r,p=[some (.bor<|.lst<|y.map D.int),some (.bor<|.lst<|B.map prD),some (.sh<|.lst<|r.map D.int),none,none]/\r.length<=60/\FRi y B (q.take i) r) ⟨[],rfl,by simp,.inl ⟨rfl,λl J=>by rw[Q7]at J;cases J⟩⟩ ?_ ?_⟩
  ·rintro i L p ⟨r,rfl,h,F⟩
   have b:∀m∈q.take i,m<q[i]:=λm Q=>by
    obtain⟨j,T,e⟩:=WJ.mp Q;rw[WG]at T;rw[Qg]at e;rw[←e];exact WY.mp C j i (by lia) L (by lia)
   rw[W4 L];generalize q[i]=l at b ⊢;refine⟨l,y,B,rfl,u,M,λf A v=>?_⟩;have Y:(!(f.map D.int).isEmpty)=decide (f≠[]):=by cases f<;>simp
   have er:(!(r.map D.int).isEmpty)=decide (r≠[]):=by cases r<;>simp
   show if (!(f.map D.int).isEmpty)=true then _ else _;rw[Y];refine Xg (λg=>?_) (λg=>X5 ⟨r,rfl,h,F.keep b A (.inl (Qc λz=>g (W1 z)))⟩);have x:f≠[]:=W6 g;show if (!(!(r.map D.int).isEmpty))=true then _ else _;rw[er];by_cases o:r=[]
   ·rw[Qb (λz=>z o)];exact Kr (Kr ⟨f,rfl,v,F.take b A ⟨x,.inl o⟩⟩)
   ·rw[W1 o];refine X5 ?_;show if decide (((f.map D.int).length:Int)<((r.map D.int).length:Int))=true then _ else _;rw[Wv,Wv];refine Xg (λE=>?_) (λE=>?_)
    ·have:=W6 E
     exact⟨f,rfl,v,F.take b A ⟨x,.inr (by lia)⟩⟩
    ·have:¬(f.length:Int)<(r.length:Int):=λz=>E (W1 z)
     exact⟨r,rfl,h,F.keep b A (.inr ⟨o,by lia⟩)⟩
  ·rintro p ⟨r,rfl,h,F⟩;rw[WX]at F;exact U r (F.all λz=>H.mem_iff) h
def Zkq(DD:Def K mg "least_costs" CU ["strips","wishes","pairs"])
  : HF ζ:=by
 refine DD.fz IC (λJ n=>(bc (se (Pu.pz 3 IC.nd<|Zle (XX<|J ()) (Th XA) X1)<|Tr (Za7 (T4 Xr) Xp)<|XT 3)<|bc (sO [4,5] WO (iL<|xp (xf YF J<|a1<|xf Yj J<|a1<|xv 0) (o1 xi) o0) (gN 4)<|bc (sC 5 ["holder","members","wishes"] [none,some 4,some 1] n (je (Nu (K:=K)<|pv 4)<|SndI.c<|NA<|UW 4) (gN 0) (f1<|tt<|xf YG J<|a3 (xv 1) (xv 0)<|xv 2)<|xv 0)<|b1<|se (Fe (XX<|J ()) (pv 3) (pv 4) (XF (Mh (K:=K) rfl) (by rfl) G.ZH boot_min<|az<|cz ["last","members","least","pairs"] [none,some 4,some 3,some 2] (T1 (K:=K)<|pv 5) ⟨(gk 0),Na,(fz YZ (J ())<|XB (pv 1)<|XB (pv 0)<|XB (pv 2)<|XB (pv 3) XA)⟩) rfl)<|BL 3 (UW 4)<|LN<|sz<|Pf (Nl<|UW 5) (XT 0) Nz<|Ko<|KW (UW 1)<|KW (UW 0)<|KW (UW 2)<|KW (UW 3) Xr)<|b1<|sV 3)) (.a ?_)
 ·rintro ds R X ⟨A,r,pa,c,rfl,hF,hz,hw,hu,hc,hL,hR⟩;refine⟨rfl,by simp,_,_,rfl,rfl,?_⟩;refine⟨A,rfl,hF,hz,_,rfl,Tc A,?_⟩;have hh:=Tc A;have nd:(Xc A).Nodup:=(Pn A).imp (λh=>Vi h);generalize Xc A=hs at hh nd hc hL hR ⊢;have hsl:=LF hs;have u:=Si hs;have x:=Mt nd;have B:=Gp nd
  have v:(Xs hs).length<=1024:=by
   rw[hsl];exact J1 (j:=10) (by decide) hh
  obtain⟨T,eT⟩:=Zkn hs;rw[eT]at u x B v hR ⊢;refine⟨rfl,rfl,?_⟩
  have ec:Pu.cutD (List.map tD ([]::T)) (some 1) none=T.map tD:=by
   rw[Te,Fj _ (by decide)];rfl
  rw[ec];refine Kl (xs:=T) (emb:=tD) (λi y=>∃b:List (List Key×V),y=[some (.bor<|.lst<|A.map prD),some (.bor<|.lst<|r.map prD),some (.bor<|.dT pa),some (.own<|.dT b),none,none]/\Tab r c ([]::T.take i) b) ⟨_,rfl,Zgy r c⟩ ?_ ?_
  ·rintro i hi y ⟨b,rfl,H⟩;have em:([]::T)[i+1]?=some T[i]:=by rw[VZ,Ww hi]
   have U:T[i]∈[]::T:=Qa em;have o:=u _ U;have Q:T[i]≠[]:=λe=>(Ql.mp B).1 (e▸WN hi)
   have N:T[i]∉[]::T.take i:=λz=>by
    rcases WB.mp z with z|z
    ·exact Q z
    ·obtain⟨j,hj,e⟩:=WJ.mp z;rw[WG]at hj;rw[Qg]at e;exact WY.mp (Ql.mp B).2 j i (by lia) hi (by lia) e
   have hml:T[i].length<=10:=W9 o.length_le hh
   have C:∀l∈T[i],Xj T[i] l∈[]::T.take i:=λl p=>by
    obtain⟨j,hj,e⟩:=x (i+1) _ em l p
    have:([]::T.take i)=([]::T).take (i+1):=by rw[List.take_succ_cons]
    rw[this];refine Qa (i:=j) ?_;rw[QN hj];exact e
   have ndm:T[i].Nodup:=nd.sublist o
   have hkl:b.length<=1024:=by
    have:=Qs List.length H.keys
    rw[Wv,Wv,WW,WG]at this;rw[WW]at v;lia
   have etk:[]::T.take (i+1)=([]::T.take i)++[T[i]]:=by rw[W4 hi];rfl
   rw[etk];generalize T[i]=f at *;obtain⟨vs,L⟩:=La λl p=>H.val _ (C l p);obtain⟨l0,hl0,hl0'⟩:=hL f o Q;refine⟨_,rfl,XH (s:=.sh .non) (xs:=f) (emb:=D.int) (λh=>if PM r f h=true then some (.int h)else none) (by lia) (λh hm=>?_) ?_⟩
   ·refine⟨f,h,r,rfl,hw,?_⟩;refine Xg (λg=>⟨_,rfl,W5 g⟩) (λg=>W2 g)
   ·rw[Kz (λh=>PM r f h)];refine XH (xs:=f.filter (λh=>PM r f h)) (emb:=D.int) (λl=>some (.int (vs l+((Xj f l).map (c · l)).sum))) (W9 (Qk _ _)<|by lia) (λl p=>?_) ?_
    ·obtain⟨q,Y⟩:=WM.mp p;exact⟨f,l,b,pa,(c · l),vs l,rfl,by lia,(L l q).1,λm hm=>hc m (o.subset<|less_sub.subset hm) l (o.subset q),_,rfl,rfl⟩
    ·rw[PB];refine⟨(f.filter (λh=>PM r f h)).map λl=>vs l+((Xj f l).map (c · l)).sum,by rw[Qe];rfl,?_,λM hM hle=>⟨_,_,B9 f,rfl,by lia,_,rfl,H.put N (Zci ndm hu (λl p=>(L l p).2) ?_ ?_)⟩⟩
     ·rw[Wv];exact List.length_pos_of_mem (WM.mpr ⟨hl0,lastM_iff.mpr hl0'⟩)
     ·obtain⟨l,p,e⟩:=WK.mp hM;obtain⟨q,Y⟩:=WM.mp p;exact⟨l,q,Y,e.symm⟩
     ·intro l p E;exact hle _ (WK.mpr ⟨l,WM.mpr ⟨p,E⟩,rfl⟩)
  ·rintro y ⟨b,rfl,H⟩;rw[WX]at H;exact hR b H
def Zkb(DD:Def K mg "told_moves" Do ["strips","order"])
  : GZ ζ:=by
 refine DD.fz Zf9 (λA n=>(bc (sE<|xe (An Yz (hq<|A ()) Af<|bz (pv 0)<|pv 1)<|Ko<|tz (UW 0)<|UW 1)<|bc (sC 2 ["holder","width","order"] [none,none,some 1] n (jL<|xv 0) (gT 2<|gc (gN 0)<|gc (gN 1) g0) f0<|xe (L4 (K:=K) Qv PySem.F.slot_list_index PySem.F.type_list_index (Zdh (K:=K)) (pv 2)<|az<|pv 0)<|Zaz (UW 2)<|sz<|UW 0)<|bc (sS 3 n<|xf Yu A<|a1<|xv 0)<|bc (sS 4 n<|xL a0)<|bc (sS 5 n<|xf Yv A<|a2 (xv 3)<|xv 2)<|bc (sW [] WO (tc Po Pe (xv 5) xi)<|bc (sF 5<|sA 4<|xt<|ac (xv 5)<|ac (xx (xv 3)<|xo Kc Kb (xv 5) xi)<|ac (xx (xv 3)<|xv 5)<|ac (xf YI A<|a3 (xv 0) (xv 3)<|xv 5) a0)<|bc (sS 3 n<|xf YJ A<|a2 (xv 3)<|xv 5)<|b1<|sS 5 n<|xf Yv A<|a2 (xv 3)<|xv 2)<|b1<|sV 4)) (.a ?_)
 ·rintro ds R X ⟨l,o,rfl,hF,hz,Q,hR⟩;refine⟨rfl,?_⟩;have hh:=Tc l;have hol:=Q.length_eq;have U:=Zc7 hF Q;refine⟨l,o,rfl,hF,by lia,by lia,?_⟩;rw[HL Q];refine XH (xs:=l) (emb:=prD) (λq=>some (.int (o.idxOf q.1:Nat))) (by lia) (λq hq=>?_) ?_
  ·exact⟨rfl,⟨_,rfl⟩,o,rfl,U q hq,_,rfl,rfl⟩
  rw[PB (λq:Int×Int=>D.int (o.idxOf q.1:Nat))];have er:l.map (λq:Int×Int=>D.int (o.idxOf q.1:Nat))=(l.map λq:Int×Int=>((o.idxOf q.1:Nat):Int)).map D.int:=by rw[Qe];rfl
  rw[er];generalize L:(l.map λq:Int×Int=>((o.idxOf q.1:Nat):Int))=v;have lrs:v.length=l.length:=by rw[←L,Wv]
  have rk:∀m:Int,1<=m/\m<=l.length->v.getD (m-1).toNat 0=rkN l o m:=λm y=>by
   have Y:(m-1).toNat<l.length:=by lia
   rw[←L];unfold rkN hdN;rw[W7,W7,WH,Ww Y];rfl
  have keys:∀r:ZV,r.Perm (Xn 1 l.length)->r.map (λm=>v.getD (m-1).toNat 0)=r.map (rkN l o):=λr u=>Vc λm y=>rk m (runI_mem.mp<|u.mem_iff.mp y)
  have inr:∀r:ZV,r.Perm (Xn 1 l.length)->∀m∈r,1<=m/\m<=v.length:=λr u m y=>by
   have:=runI_mem.mp (u.mem_iff.mp y)
   lia
  refine⟨l,rfl,by lia,by simp,?_⟩;refine⟨_,v,rfl,inr _ (.refl _),by rw[Tp];lia,λp0 H=>?_⟩;rw[keys _ (.refl _)]at H
  have e0:∀r:ZV,r.Perm (Xn 1 l.length)->KA (λm=>v.getD (m-1).toNat 0) r=KA (rkN l o) r:=λr u=>by
   unfold KA;congr 1;exact Vc λm y=>by show(v.getD (m-1).toNat 0,(1:Int))=_;rw[rk m (runI_mem.mp<|u.mem_iff.mp y)]
  have b0:=Fz (rkN l o) (Xn 1 l.length)
  have nn:((l.length:Int))*l.length<=1600:=by
   have:=Int.mul_le_mul (a:=(l.length:Int)) (b:=l.length) (c:=40) (d:=40) (by lia) (by lia) (by lia) (by lia)
   lia
  rw[Tp]at b0;refine BA (λC=>∃(r:ZV) (s:List Mo) (p:Nat),FW (r.map<|rkN l o) p/\r.Perm (Xn 1 l.length)/\(∀E,Mv l (rkN l o) r E->Mv l (rkN l o) (Xn 1 l.length) (s++E))/\(s.length:Int)+KA (rkN l o) r=KA (rkN l o) (Xn 1 l.length)/\C=[some (.bor<|plD l),some (.bor<|.lst<|o.map D.int),some (.own<|v.map D.int),some (.own<|r.map D.int),some (.own<|s.map mvD),some (.sh<|.int p)]) mvN ⟨Xn 1 l.length,[],p0,H,.refl _,λE h=>h,by simp,rfl⟩ ?_;rintro C ⟨r,s,p,hw,u,hM,hc,rfl⟩;have hl:r.length=l.length:=by rw[u.length_eq,Tp]
  have b1:=Fz (rkN l o) r;refine Xg (λg=>?_) (λg=>?_)
  ·have g':0<((p:Nat):Int):=W6 g;obtain⟨h1,B,h3⟩:=hw.2.resolve_left (by lia);rw[Wv]at B;rw[D1 B,D1 (by lia)]at h3;have hs:=Znw (rkN l o) h1 B h3;have x:(K4 r p).Perm (Xn 1 l.length):=(Gj h1 B).trans u;have b2:=Fz (rkN l o) (K4 r p)
   have ix:∀(i:Nat) (k:Int),i<r.length->k=(i:Int)->atI (r.map D.int) k=some (.int<|r.getD i 0):=λi k Y e=>by
    rw[e];exact P3 (f:=D.int) (SL<|by rw[W7,Ww Y];rfl)
   have lm:(s.map mvD).length=s.length:=Wv ..;have M:∀m∈r,1<=m/\m<=l.length:=λm y=>runI_mem.mp (u.mem_iff.mp y);refine⟨_,ix (p-1) _ (by lia) (by lia),_,ix p _ B rfl,?_⟩;refine⟨l,r,p,rfl,hF,M,by lia,by lia,by simp,by lia,?_⟩;refine⟨r,p,rfl,by lia,by lia,by lia,?_⟩;rw[Qm];refine⟨K4 r p,v,rfl,inr _ x,by rw[Zfm h1 B];lia,λp' J=>?_⟩;rw[keys _ x]at J;refine⟨⟨K4 r p,s++[((p:Int),r.getD (p-1) 0,r.getD p 0,exM l r p)],p',J,x,λE T=>?_,?_,?_⟩,?_⟩
   ·rw[QD];exact hM _ (.step r p E hw (by lia) T)
   ·rw[WA,Vm];lia
   ·rw[WC];rfl
   ·show(KA _ (((K4 r p).map D.int).map toI)).toNat<(KA _ ((r.map D.int).map toI)).toNat;rw[AQ,AQ,AQ,e0 _ x,e0 _ u];lia
  ·have g':¬0<((p:Nat):Int):=λz=>g (W1 z);have N:p=0:=by lia
   subst N
   have:=hM [] (.done r hw)
   rw[Qn]at this;exact hR s this
def Zdi(v:Def K mg "all_stands" Dq ["strips"])
  : Ot ζ:=by
 refine v.fy Znh (λo n=>(bc (sE<|xg Yw o ExcR.Xu<|a1<|xv 0)<|bc (sS 1 n<|xL<|a1<|xt<|a2 (xt a0) xi)<|bc (sO [2] ExcR.BQ (ir G.Zc<|a1<|xl G.len<|xv 0) (gN 2)<|b1<|sS 1 n<|xf Wb o<|a2 (xv 0)<|xv 1)<|b1<|sV 1)) (.a ?_)
 ·rintro y R X ⟨b,rfl,s,h⟩;refine⟨rfl,?_⟩;have x:(b.map prD).length=b.length:=Wv ..;by_cases l:b.length<=7
  ·have g:P9 b=none:=W2 (by lia);rw[g]at h;refine⟨b,rfl,?_⟩;rw[g];refine⟨by simp,by simp,by simp,?_⟩;refine⟨⟨by lia,by lia⟩,P2 (λi f=>f=[some (.bor<|plD b),some (.own ((Ku b i).map stD)),none]) ?_ ?_ ?_⟩
   ·rfl
   ·rintro i f r rfl;have p:i<(((b.map prD).length:Nat):Int).toNat:=r;have u:(Ku b i).length<=7 ^ 6:=W9 (GM l i) (J1 (n:=7) (by decide)<|by lia);exact⟨b,Ku b i,rfl,s,l,W9 u (by decide),(λq hq=>by rw[GX hq];lia),rfl⟩
   ·rintro f rfl;have e:(((b.map prD).length:Nat):Int).toNat=b.length:=by lia
    show R (.own ((Ku b (((b.map prD).length:Nat):Int).toNat).map stD));rw[e];exact h
  ·have g:P9 b=some "TooManyStands":=W5 (by lia);rw[g]at h;refine⟨b,rfl,?_⟩;rw[g];exact h
def R4(x:Def K mg "is_melded" Ai ["field","wishes"])
  : Lx ζ:=by
 refine x.fz Zhk (λg n=>(b1<|sR<|xe (TL (fz YX (g ())<|az<|pv 0)<|PZ<|Zbu (K:=K)<|fz YD (g ())<|bz (fz YL (g ())<|az<|pv 0)<|pv 1)<|Nr (Ko<|sz<|UW 0)<|Zhc<|Ko<|tz (Ko<|sz<|UW 0)<|UW 1)) (.a ?_)
 ·rintro y R X ⟨b,f,rfl,u,o,hw,s,l⟩;refine⟨rfl,b,rfl,u,o,λt=>Kr ?_,λt=>X5 (l λz=>t z.1)⟩;have p:=Dt (b.map (·.1));have r:=Lu (b.map (·.1));rw[Wv]at r;refine⟨b,rfl,by lia,X7 (b.map (·.1)),f,rfl,p.1,by lia,hw,?_⟩;show R (.sh (.bl ((f.filter<|Pt<|X7<|b.map (·.1)).map prD).isEmpty));by_cases c:∀q∈f,Pt (X7<|b.map (·.1)) q=false
  ·have e:f.filter (Pt<|X7<|b.map (·.1))=[]:=List.filter_eq_nil_iff.mpr λq hq z=>by rw[c q hq]at z;cases z
   rw[e];exact s ⟨t,c⟩
  ·have e:f.filter (Pt<|X7<|b.map (·.1))≠[]:=λz=>c λq hq=>by
    have:=List.filter_eq_nil_iff.mp z q hq
    cases h:Pt (X7<|b.map (·.1)) q
    ·rfl
    ·exact absurd h this
   have v:((f.filter<|Pt<|X7<|b.map (·.1)).map prD).isEmpty=false:=by
    rw[List.isEmpty_eq_false_iff];exact λz=>e (List.map_eq_nil_iff.mp z)
   rw[v];exact l λz=>c z.2
def Zaa(q:Xt K (Mk K<|Xo ζ) "__init__" "Village.__init__" D9 ["self","strips"])
  : Mz ζ:=by
 refine q.fy Zga (λh n=>(bc (sE<|xg YW h ExcR.Xu<|a1<|xv 1)<|bc (se (FK (pv 0) (KM XA) rfl)<|FA 0 G.Za G.Zd Zdm<|Pg Xr)<|bc (se (FK (pv 0) (KM<|az<|KO (N4 (K:=K)) (by rfl) G.Zg boot_list<|az<|pv 1) rfl)<|FA 0 G.Za G.Ze Zai<|Pg<|sz<|N6<|sz<|UW 1)<|b1<|se (FK (pv 0) (KM<|az<|KM XA) rfl)<|FA 0 G.Za G.Zf Zng<|Pg<|sz<|Pg Xr)) (.c ?_)
 ·rintro o r R X ⟨x,f,rfl,rfl,g,b⟩;refine⟨rfl,f,rfl,g,?_⟩;cases e:NJ f with
  |some c=>
   rw[e]at b;exact⟨_,rfl,⟨rfl,by simp⟩,b⟩
  |none=>
   rw[e]at b;refine⟨by simp,rfl,rfl,by decide,λb1=>?_⟩;refine⟨rfl,by simp,rfl,rfl,by decide,λp=>?_⟩;refine⟨by simp,by simp,rfl,rfl,by decide,λl=>?_⟩;exact⟨_,rfl,⟨rfl,by simp⟩,b b1 p l⟩
def Zby(v:Xt K (Xv K (Xo ζ) "wish") "wish" "Village.wish" Cs ["self","ahead","behind"])
  : GY ζ:=by
 refine v.fy Zig (λg n=>(bc (se (Pm<|X9 YO G.Za (hq<|g ()) ExcR.Xu<|pv 0)<|FJ<|Py OI (UW 0) Xr)<|bc (sS 3 n<|xg Wd g ExcR.Xu<|a3 (xe (X9 Yk G.Za (hq<|g ()) XZ<|pv 0)<|Kp TX (UW 0) Xr) (xv 1)<|xv 2)<|b1<|sF 2<|sF 1<|sF 3<|se (Nb<|Ax YQ G.Za (hq<|g ()) XZ (pv 0)<|dz (Th<|dz Gg (pv 1)<|pv 2) (X9 Yi G.Za (hq<|g ()) XZ<|pv 0)<|pv 3)<|Zi5<|IQ 0 Zks<|uz (T4<|uz LK (UW 1)<|UW 2) (Kp PR (UW 0) Xr)<|UW 3)) (.c ?_)
 ·rintro o y R X ⟨x,b1,u,s,bk,fs,l,f,w,p,h,rfl,rfl,r,z,hw,q,b⟩;refine⟨rfl,?_⟩;unfold FV at b;refine⟨rfl,rfl,bk,fs++[f],l++[w],rfl,?_⟩;unfold Dz;by_cases c:100<=bk.length
  ·rw[W5 c]at b ⊢;exact⟨_,rfl,⟨rfl,by simp⟩,b⟩
  ·rw[W2 c]at b ⊢;refine⟨rfl,rfl,bk,fs++[f],l,w,rfl,w,p,h,rfl,q,?_⟩;cases e:Tf w p h with
   |some c=>
    rw[e]at b;exact⟨_,rfl,⟨rfl,by simp⟩,b⟩
   |none=>
    rw[e]at b;refine⟨rfl,rfl,by simp,rfl,rfl,bk,fs,l++[w],f,rfl,?_⟩;exact⟨x,b1,u,s,bk,fs++[f],l++[w],("wish",[p,h]),f,w++[(p,h)],rfl,rfl,r,by rw[WA];simp;lia,by rw[WA];simp;lia,_,rfl,⟨rfl,by simp⟩,b⟩
def Rg(E:Def K mg "_law_strips" FL ["_law_script","_law_menu_here","_law_many"])
  : MU ζ:=by
 refine E.fz Ze3 (λs n=>(bc (sS 3 n<|xL a0)<|bc (sO [4,5,6] WO (ir G.Zc<|a1<|xv 2) (gN 4)<|bc (sS 5 n<|xf Ym s<|a2 (xv 0)<|xo XD XC xi<|xv 4)<|bc (sS 6 n<|xo XD XC (xx (xv 1) xi)<|xo Xz X2 (xo Kd Kk (xv 5)<|xx (xv 1) xi)<|xx (xv 1) xi)<|b1<|sF 6<|sA 3<|xt<|a2 (xf Yp s<|a2 (xv 1)<|xo Xz X2 (xv 5)<|xx (xv 1) xi)<|xv 6)<|b1<|sV 3)) (.a ?_)
 ·rintro Y R X ⟨r,m,n,rfl,u,U,T,C⟩;refine⟨rfl,?_⟩;have o:=u;obtain⟨a,b,c,d,e,rfl,Q,N,M,hd,L⟩:=u;refine⟨by simp,⟨by omega,by omega⟩,P2 (λi g=>∃f:ZU,g=[some (.bor<|.scr r),some (.bor<|.lst (([a,b,c,d,e]:ZV).map D.int)),some (.sh<|.int n),some (.own<|f.map prD),none,none,none]/\Field f/\f.length=i) ⟨[],rfl,(λq hq=>by cases hq),rfl⟩ ?_ ?_⟩
  ·rintro i g B ⟨f,rfl,p,l⟩;have z:(f.map prD).length=f.length:=Wv ..;have A:i<n.toNat:=B;refine⟨r,_,rfl,by omega,λv=>?_⟩;have J:=V2 (v / a) (show d≠0 by omega);have H:=V3 (v / a) (show 0<d by omega);refine⟨_,rfl,_,rfl,⟨by omega,by omega⟩,_,rfl,(by show 0<d;omega),_,rfl,(by show 0<a;omega),[a,b,c,d,e],_,rfl,o,λh y x _=>⟨by simp,by omega,f++[(h,e+v / a % d)],?_,λq hq=>?_,by rw[WA,l];rfl⟩⟩
   ·rw[WC];rfl
   ·rcases WD.mp hq with hq|hq
    ·exact p q hq
    ·rw[Wx]at hq;subst hq;exact⟨y,x,by show 1<=e+v / a % d;omega,by show e+v / a % d<=1000;omega⟩
  ·rintro g ⟨f,rfl,p,l⟩;exact C f p l
def Ziz(DD:Def K mg "_law_wishes" CP ["_law_script","_law_menu_here"])
  : DS ζ:=by
 refine DD.fz Hw (λv n=>(bc (sS 2 n<|xf Ym v<|a2 (xv 0) xi)<|bc (sS 3 n<|xx (xL<|a2 xi<|xe (XF (Zba rfl) (by rfl) G.ZQ boot_max<|bz X1<|jx K (pv 1) X1)<|Zgm<|tz Xp<|KS (UW 1) Xp)<|xo Xz X2 (xo Kd Kk (xv 2) xi) xi)<|bc (sS 4 n<|xL a0)<|bc (sO [5,6,7,8,9] WO (ir G.Zc<|a1<|xo Xz X2 (xv 2) xi) (gN 5)<|bc (sS 6 n<|xf Ym v<|a2 (xv 0)<|xo XD XC xi<|xv 5)<|bc (sS 7 n<|xo Xz X2 (xv 6)<|xv 3)<|bc (sS 8 n<|xo Xz X2 (xo XD XC (xo XD XC (xv 7) xi)<|xo Xz X2 (xo Kd Kk (xv 6)<|xv 3)<|xo Kc Kb (xv 3) xi)<|xv 3)<|bj (sI (tp<|wa (tc Po Pe (xo Xz X2 (xo Kd Kk (xv 2) xi) xi) xi)<|wA<|tc Po Pe (xv 7)<|xv 8) (b1<|sF 7<|sF 8<|se (Zlv (i:=7) (j:=8) rfl Hw.nd rfl rfl (by decide) rfl rfl (bz (pv 8)<|pv 7)<|by rfl)<|Zj6<|tz (UW 8)<|UW 7) b0)<|bc (sS 9 n<|xt<|a2 (xf Yp v<|a2 (xv 1)<|xv 7)<|xf Yp v<|a2 (xv 1)<|xv 8)<|b1<|sI (tI v (xv 9)<|xv 4) (b1<|sF 9<|sA 4<|xv 9) b0)<|b1<|sV 4)) (.a ?_)
 ·rintro ds R X ⟨x,m,rfl,H,hR⟩;refine⟨rfl,?_⟩;have u:=H;obtain⟨a,b,c,d,e,rfl,ha,hb,hc,hd,he⟩:=H;refine⟨x,1,rfl,by decide,λl=>?_⟩
  have r:∃p:Int,atI [D.int 10,.int (if a>2 then a else 2)] (l / 63 % 2)=some (.int p)/\2<=p/\p<=10:=by
   have:l / 63 % 2=0\/l / 63 % 2=1:=by omega
   rcases this with e|e<;>rw[e]
   ·exact⟨10,rfl,by decide,by decide⟩
   ·exact⟨_,rfl,by split<;>omega,by split<;>omega⟩
  obtain⟨pool,ep,hp⟩:=r;refine⟨_,rfl,by simp,⟨by decide,by decide⟩,(by show(0:Int)<2;decide),_,ep,by simp,(by show(0:Int)<21;decide),⟨by omega,by omega⟩,P2 (λi f=>∃h:ZU,f=[some (.bor<|.scr x),some (.bor<|.lst (([a,b,c,d,e]:ZV).map D.int)),some (.sh<|.int l),some (.sh<|.int pool),some (.own<|h.map prD),none,none,none,none,none]/\Pr h/\h.length<=i) ⟨[],rfl,Zer,W3 _⟩ ?_ ?_⟩
  ·rintro i f hi ⟨h,rfl,y,hl⟩;have hi':i<(l % 21).toNat:=hi;have Y:(h.map prD).length=h.length:=Wv ..;refine⟨x,_,rfl,by omega,λcell=>?_⟩;refine⟨(by show 0<pool;omega),⟨by omega,by omega⟩,(by show 0<pool-1;omega),(by show 0<pool;omega),?_⟩
   have q:(0<=cell % pool/\cell % pool<=9)/\(0<=(cell % pool+1+cell / pool % (pool-1)) % pool/\(cell % pool+1+cell / pool % (pool-1)) % pool<=9)/\cell % pool≠(cell % pool+1+cell / pool % (pool-1)) % pool:=by
    have J:=V2 cell (show pool≠0 by omega);have g2:=V3 cell (show 0<pool by omega);have g3:=V2 (cell / pool) (show pool-1≠0 by omega);have g4:=V3 (cell / pool) (show 0<pool-1 by omega);obtain⟨⟨U,k2⟩,T⟩:=two_ne ⟨J,g2⟩ ⟨g3,g4⟩;exact⟨⟨J,by omega⟩,⟨U,by omega⟩,T⟩
   refine TU (λf=>∃(o t:Int) (E C:Option S),((0<=o/\o<=9)/\(0<=t/\t<=9)/\o≠t)/\f=[some (.bor<|.scr x),some (.bor<|.lst (([a,b,c,d,e]:ZV).map D.int)),some (.sh<|.int l),some (.sh<|.int pool),some (.own<|h.map prD),E,C,some (.sh<|.int o),some (.sh<|.int t),none]) ?_ ?_
   ·refine⟨⟨by decide,by decide⟩,(by show(0:Int)<3;decide),Xg (λ_=>Xg (λ_=>?_) (λ_=>?_)) (λ_=>X5 ?_)⟩
    ·exact⟨_,_,_,_,⟨q.2.1,q.1,λz=>q.2.2 z.symm⟩,rfl⟩
    ·exact⟨_,_,_,_,q,rfl⟩
    ·exact⟨_,_,_,_,q,rfl⟩
   ·rintro f ⟨o,t,E,C,s,rfl⟩;refine⟨_,_,rfl,u,λB Q N e1=>⟨_,_,rfl,u,λA M L e2=>?_⟩⟩;have b3:=Zn4 u s.1 s.2.1 s.2.2;refine⟨by simp,_,.lp (B,A) h,Xg (λg=>?_) (λg=>?_)⟩
    ·have g':(B,A)∉h:=λz=>by rw[W5 rfl,W1 z]at g;cases g
     refine⟨by omega,h++[(B,A)],?_,Zdt y (HC ⟨Q,N⟩ ⟨M,L⟩ (by rw[e1,e2];exact b3) g'<|by omega),?_⟩
     ·rw[WC];rfl
     ·rw[WA,Vm];omega
    ·exact⟨h,rfl,y,by omega⟩
  ·rintro f ⟨h,rfl,y,hl⟩;exact hR h y
def Zns(x:Def K mg "check_no_ring" Az ["strips","wishes"])
  : Ms ζ:=by
 refine x.fy Zcy (λb n=>(bc (sS 2 n<|xf Y3 b<|a2 (xf Yj b<|a1<|xv 0)<|xv 1)<|b1<|sI (tt<|xv 2) (b1<|sF 2<|se (ExcR.Zn7 Y8 (hq<|b ()) G.Zn ExcR.Zak rfl rfl<|az<|pv 2)<|Zn3<|sz<|UW 2) b0)) (.a ?_)
 ·rintro z R X ⟨f,l,rfl,v,o,p,q,s⟩;refine⟨rfl,f,rfl,v,o,_,l,rfl,(Pn f).imp (λh=>Vi h),W9 (Tc f) (by decide),λr b y=>?_⟩;by_cases e:r=[]
  ·have u:=(b.none_iff p).mp e;subst e;exact X5 (A:=False) (s u)
  ·have hx:=q r b e;refine Xg (λ_=>⟨r,rfl,hx⟩) (λg=>absurd g ?_);cases r with
   |nil=>exact absurd rfl e
   |cons a t=>simp
def Zb0(s:Xt K (Xv K (Xo ζ) "ring") "ring" "Village.ring" Dh ["self"])
  : I0 ζ:=by
 refine s.fz Zdy (λb n=>(b1<|sr<|xf Y3 b<|a2 (xf Yj b<|a1<|xe (X9 Yi G.Za (hq<|b ()) XZ<|pv 0)<|Kp PR (UW 0) Xr)<|xe (X9 Yk G.Za (hq<|b ()) XZ<|pv 0)<|Kp TX (UW 0) Xr)) (.a ?_)
 ·rintro u R X ⟨bk,fs,g,f,w,rfl,q,l,p⟩;refine⟨rfl,rfl,rfl,bk,fs,g++[w],f,rfl,f,rfl,q,l,rfl,rfl,bk,fs++[f],g,w,rfl,?_⟩;exact⟨_,w,rfl,(Pn f).imp (λh=>Vi h),W9 (Tc f) (by decide),λr b o=>p r b o⟩
def Zjl(E:Def K mg "cost_table" CM ["strips","wishes"])
  : G3 ζ:=by
 refine E.fy Zja (λo n=>(bc (sE<|xg Yq o ExcR.Xu<|a2 (xv 0)<|xv 1)<|bc (sS 2 n<|xf Y4 o<|a3 (xv 0) (xv 1)<|xf Y0 o<|a1<|xv 0)<|b1<|sR<|xe (KO (Zjp rfl) (by rfl) G.Zg boot_list<|XB (Zhm (K:=K)<|pv 2) XA)<|Znd<|UW 2)) (.a ?_)
 ·rintro H R X ⟨b,s,rfl,r,g,hw,l,A,q⟩;refine⟨rfl,b,s,rfl,r,g,l,A,λu=>?_⟩;have q:=q u;refine⟨b,rfl,r,g,λx p=>⟨b,s,x,pcc b,rfl,r,g,hw,l,p,Gz l u,λf T=>?_⟩⟩;have y:(Xc b).Nodup:=(Pn b).imp (λh=>Vi h);obtain⟨v,e,z⟩:=T.vals (Gp y);obtain⟨C,B⟩:=G1 e;refine⟨f,rfl,C,?_⟩;rw[B];exact q v z
def Zkc(DD:Def K mg "best_order" FN ["strips","wishes"])
  : Eg ζ:=by
 refine DD.fy Hd (λz n=>(bc (sE<|xg Yq z ExcR.Xu<|a2 (xv 0)<|xv 1)<|bc (sS 2 n<|xf Y0 z<|a1<|xv 0)<|bc (se (Pu.pz 3 Hd.nd<|fz Y4 (z ())<|dz (pv 0) (pv 1)<|pv 2)<|Tr (Ko<|uz (UW 0) (UW 1)<|UW 2)<|XT 3)<|bc (sS 4 n<|xe (KO (On (K:=K)) (by rfl) G.Zo boot_tuple<|az<|fz Yj (z ())<|az<|pv 0)<|HX<|sz<|Ko<|sz<|UW 0)<|bc (sS 5 n<|xL a0)<|bc (sW [6,7] ExcR.BQ (tt<|xv 4)<|bc (sC 6 ["holder","members","wishes"] [none,some 4,some 1] n (je (Nu (K:=K)<|pv 4)<|SndI.c<|NA<|UW 4) (gN 0) (f1<|tt<|xf YH z<|a3 (xv 1) (xv 0)<|xv 2)<|xv 0)<|bc (sC 7 ["first","members","least","pairs"] [none,some 4,some 3,some 2] n (jL<|xv 6) (gN 0) (f1<|tq z (xf Wa z<|ac (xv 1)<|ac (xv 0)<|ac (xv 2)<|ac (xv 3) a0)<|xe (TQ (XX<|z ()) (pv 2) (pv 1) (λ_ _=>rfl))<|Nf (UW 2)<|UW 1)<|xv 0)<|bc (sA 5<|xx (xv 7) xi)<|b1<|sS 4 n<|xf Yo z<|a2 (xv 4)<|xx (xv 7) xi)<|b1<|sV 5)) (.a ?_)
 ·rintro ds R X ⟨v,u,rfl,hF,hz,hw,hu,hX,hR⟩;refine⟨rfl,v,u,rfl,hF,hz,hu,hX,λhN=>?_⟩;have hR:=hR hN;refine⟨v,rfl,hF,hz,λpa hpa=>⟨v,u,pa,pcc v,rfl,hF,hz,hw,hu,hpa,Gz hu hN,λkvs T=>⟨v,rfl,hF,hz,?_⟩⟩⟩;have hh:=Tc v;have hri:=Pn v;have nd:(Xc v).Nodup:=hri.imp (λh=>Vi h);have hpa':∀x∈Xc v,∀y∈Xc v,Xi pa [.inl x,.inl y]=some (.int<|pcc v x y):=hpa;generalize pcc v=c at *;generalize Xc v=U at *
  refine⟨rfl,by simp,BA (λY=>∃(b o:ZV),Y=[some (.bor<|.lst<|v.map prD),some (.bor<|.lst<|u.map prD),some (.own<|.dT pa),some (.own<|.dT kvs),some (.sh<|tD b),some (.own<|o.map D.int),none,none]/\b∈Xs U/\o.length+b.length<=10/\
   ∀p,P8 u c b p->P8 u c U (o++p)) Zca ⟨U,[],rfl,List.mem_of_getLast? (GO U),by simpa using hh,λp hp=>hp⟩ ?_⟩
  rintro Y ⟨b,o,rfl,L,hol,hB⟩;show if (!(b.map D.int).isEmpty)=true then _ else _;refine Xg (λg=>?_) (λg=>?_)
  ·have C:=Si U b L;have hne:b≠[]:=λe=>by subst e;simp at g
   have B:b.Nodup:=nd.sublist C;have hrm:=hri.sublist C
   have A:∀l∈b,Xj b l∈Xs U:=λl M=>by
    obtain⟨k,hk,e⟩:=WJ.mp L;obtain⟨j,_,ej⟩:=Mt nd k b (by rw[Ww hk,e]) l M;exact Qa ej
   obtain⟨H,hvs⟩:=La λl M=>T.val _ (A l M);obtain⟨V,hV1,Q⟩:=T.val b L;have hv2:∀l∈b,Kx u c (Xj b l) (H l):=λl M=>(hvs l M).2
   have J:∃f rest,(b.filter (λh=>firstM u b h)).filter (λf=>decide (H f+((Xj b f).map (c f)).sum=V))=f::rest:=by
    obtain⟨q,q1,q2,q3⟩:=Q.is;cases q with
    |nil=>exact absurd q1.nil_eq.symm hne
    |cons g p=>
     obtain⟨r1,r2,r3,_⟩:=HQ B hu hv2 Q q1 q2 q3;exact List.exists_cons_of_ne_nil (List.ne_nil_of_mem<|WM.mpr ⟨WM.mpr ⟨r1,r2⟩,W1 r3⟩)
   obtain⟨f,rest,ef⟩:=J;have N:f∈(b.filter (λh=>firstM u b h)).filter (λf=>decide (H f+((Xj b f).map (c f)).sum=V)):=by rw[ef];exact WU ..
   obtain⟨N,hf3⟩:=WM.mp N;obtain⟨E,hf2⟩:=WM.mp N
   have hmin:∀g∈b,firstM u b g=true->H g+((Xj b g).map (c g)).sum=V->f<=g:=λg h1 h2 h3=>by
    have hg:g∈(b.filter (λh=>firstM u b h)).filter (λf=>decide (H f+((Xj b f).map (c f)).sum=V)):=WM.mpr ⟨WM.mpr ⟨h1,h2⟩,W1 h3⟩
    have z:(f::rest).Pairwise (· < ·):=by
     rw[←ef];exact(hrm.filter _).filter _
    rw[ef]at hg;rcases WB.mp hg with e|hg
    ·lia
    ·have:=(QJ.mp z).1 g hg
     lia
   refine⟨_,rfl,XH (s:=.sh .non) (xs:=b) (emb:=D.int) (λh=>if firstM u b h=true then some (.int h)else none) (by lia) (λh hm=>?_) ?_⟩
   ·refine⟨b,h,u,rfl,hw,?_⟩;refine Xg (λg=>⟨_,rfl,W5 g⟩) (λg=>W2 g)
   ·rw[Kz (λh=>firstM u b h)];refine XH (xs:=b.filter (λh=>firstM u b h)) (emb:=D.int) (λf=>if decide (H f+((Xj b f).map (c f)).sum=V)=true then some (.int f)else none) (W9 (Qk _ _)<|by lia) (λl M=>?_) ?_
    ·obtain⟨hl1,hl2⟩:=WM.mp M;refine⟨b,l,kvs,pa,c l,H l,rfl,by lia,(hvs l hl1).1,λm hm=>hpa' l (C.subset hl1) m (C.subset<|less_sub.subset hm),_,_,B9 b,hV1,rfl,?_⟩;refine Xg (λg=>⟨_,rfl,W5 g⟩) (λg=>W2 g)
    ·rw[Kz (λf=>decide (H f+((Xj b f).map (c f)).sum=V)),ef];refine⟨_,N2 _ _,by rw[Wv];lia,_,N2 _ _,b,f,rfl,by lia,⟨Xj b f,o++[f],?_,A f E,?_,λp hp=>?_⟩,?_⟩
     ·rw[WC];rfl
     ·have:=(PK B E).length_eq
      rw[WA];rw[WW]at this;show o.length+1+_<=10;lia
     ·rw[QD];exact hB _ (Zag B hu hv2 Q E hf2 (W6 hf3) hmin hp)
     ·have:=(PK B E).length_eq
      rw[WW]at this;show((Xj b f).map D.int).length<(b.map D.int).length;rw[Wv,Wv];lia
  ·have e:b=[]:=by
    cases b with
    |nil=>rfl
    |cons a r=>exact absurd rfl g
   subst e
   have:=hB [] (Zat u c)
   rw[Qn]at this;exact hR o this
def Zkx(T:Def K mg "least_by_stands" FH ["strips","wishes"])
  : HP ζ:=by
 refine T.fy Rk (λo n=>(bc (sE<|xg Yw o ExcR.Xu<|a1<|xv 0)<|bc (sE<|xg Yq o ExcR.Xu<|a2 (xv 0)<|xv 1)<|bc (sS 2 n<|xg Wh o ExcR.Xu<|a1<|xv 0)<|b1<|sR<|xe (XF (Mh (K:=K) rfl) (by rfl) G.ZH boot_min<|az<|cz ["stand","cost","wishes","strips"] [none,none,some 1,some 0] (T1 (K:=K)<|pv 2) ⟨(SJ (K:=K) (n:=2) rfl<|PH (gk 0)<|PH (gk 1) Su),(SC<|LQ (K:=K)<|fz Wi (o ())<|bz (fz YM (o ())<|bz (pv 3)<|pv 0)<|pv 2),(pv 1)⟩)<|LN<|sz<|Pf (Nl<|UW 2) (Fb<|Nm (XT 0)<|Nm (XT 1) Fw) (EJ<|Ko<|tz (Ko<|tz (UW 3)<|UW 0)<|UW 2)<|UW 1)) (.a ?_)
 ·rintro U R X ⟨b,l,rfl,A,f⟩;refine⟨rfl,?_⟩;by_cases v:b.length<=7
  ·have h:P9 b=none:=W2 (by lia);rw[h]at f;obtain⟨hw,E,L,f⟩:=f;refine⟨b,rfl,?_⟩;rw[h];refine⟨b,l,rfl,A,by lia,E,L,λM=>?_⟩;obtain⟨⟨B,x,y⟩,f⟩:=f M;refine⟨b,rfl,A,?_⟩;rw[h];have C:=Zc3 v;refine XH (xs:=Ku b b.length) (emb:=stD) (λq=>if Fu (Ky b q.1) l=true then some (D.int q.2)else none) (by lia) (λq hq=>?_) ?_
   ·obtain⟨g,u⟩:=stands_mem.mp hq;have s:∀z∈q.1,1<=z/\z<=b.length:=λz v=>run_mem.mp (g.mem_iff.mp v);have H:q.1.length=b.length:=by rw[g.length_eq,Tp]
    refine⟨rfl,b,q.1,rfl,by lia,s,Ky b q.1,l,rfl,R6 A s,?_,hw,λc=>?_,λc=>?_⟩
    ·show(q.1.map λz=>XU b z).length<=50;rw[Wv];lia
    ·exact Kr ⟨_,rfl,W5 (keepB_iff.mpr c)⟩
    ·exact X5 (W2 λz=>c (keepB_iff.mp z))
   rw[Kz (λq:ZV×Int=>Fu (Ky b q.1) l) (λq:ZV×Int=>D.int q.2)];refine⟨((Ku b b.length).filter λq:ZV×Int=>Fu (Ky b q.1) l).map (·.2),by rw[Qe];rfl,?_,λm J p=>f m ⟨?_,λr g u=>?_⟩⟩
   ·rw[Wv];refine List.length_pos_of_mem (a:=(B,Tt b B)) ?_;exact WM.mpr ⟨stands_mem.mpr ⟨x,rfl⟩,keepB_iff.mpr y⟩
   ·obtain⟨q,hq,rfl⟩:=WK.mp J;obtain⟨g,u⟩:=WM.mp hq;obtain⟨Q,N⟩:=stands_mem.mp g;exact⟨q.1,Q,keepB_iff.mp u,N.symm⟩
   ·exact p _ (WK.mpr ⟨(r,Tt b r),WM.mpr ⟨stands_mem.mpr ⟨g,rfl⟩,keepB_iff.mpr u⟩,rfl⟩)
  ·have h:P9 b=some "TooManyStands":=W5 (by lia);rw[h]at f;refine⟨b,rfl,?_⟩;rw[h];exact f
def Zim(B:Def K mg "least_cost" AJ ["strips","wishes"])
  : Gx ζ:=by
 refine B.fy Zjj (λu n=>(b1<|sR<|xx (xg Yr u ExcR.Xu<|a2 (xv 0)<|xv 1)<|xe (PJ PD X1)<|Tz Xp)) (.a ?_)
 ·rintro E R X ⟨b,p,rfl,A,r,hw,s,y,g⟩;refine⟨rfl,b,p,rfl,A,r,hw,s,y,λz q o=>?_⟩;have g:=g z;have l:=GO (Xc b);rw[List.getLast?_eq_getElem?]at l;have C:=(WI.mp l).1;have x:=o.1;obtain⟨v,h⟩:∃v,q[(Xs<|Xc b).length-1]?=some v:=⟨_,Ww (by lia)⟩;have L:=o.2 _ _ _ l h;rw[←x]at h;exact⟨_,P3 (f:=D.int) (BB h),g _ L⟩
def Zgw(r:Xt K (Xv K (Xo ζ) "order") "order" "Village.order" AC ["self"])
  : Mf ζ:=by
 refine r.fy Znf (λb n=>(b1<|sR<|xg Y5 b ExcR.Xu<|a2 (xe (X9 Yi G.Za (hq<|b ()) XZ<|pv 0)<|Kp PR (UW 0) Xr)<|xe (X9 Yk G.Za (hq<|b ()) XZ<|pv 0)<|Kp TX (UW 0) Xr)) (.a ?_)
 ·rintro s R X ⟨bk,fs,g,f,w,rfl,q,h,hw,l,p,o⟩;refine⟨rfl,?_⟩;exact⟨rfl,rfl,bk,fs,g++[w],f,rfl,rfl,rfl,bk,fs++[f],g,w,rfl,f,w,rfl,q,h,hw,l,p,o⟩
def Zfl(r:Xt K (Xv K (Xo ζ) "table") "table" "Village.table" Ck ["self"])
  : DO ζ:=by
 refine r.fy Zbs (λb n=>(b1<|sR<|xg Yr b ExcR.Xu<|a2 (xe (X9 Yi G.Za (hq<|b ()) XZ<|pv 0)<|Kp PR (UW 0) Xr)<|xe (X9 Yk G.Za (hq<|b ()) XZ<|pv 0)<|Kp TX (UW 0) Xr)) (.a ?_)
 ·rintro s R X ⟨bk,fs,g,f,w,rfl,q,h,hw,l,p,o⟩;refine⟨rfl,?_⟩;exact⟨rfl,rfl,bk,fs,g++[w],f,rfl,rfl,rfl,bk,fs++[f],g,w,rfl,f,w,rfl,q,h,hw,l,p,o⟩
def Zac(r:Xt K (Xv K (Xo ζ) "cost") "cost" "Village.cost" D6 ["self"])
  : IG ζ:=by
 refine r.fy Zdf (λb n=>(b1<|sR<|xg Ys b ExcR.Xu<|a2 (xe (X9 Yi G.Za (hq<|b ()) XZ<|pv 0)<|Kp PR (UW 0) Xr)<|xe (X9 Yk G.Za (hq<|b ()) XZ<|pv 0)<|Kp TX (UW 0) Xr)) (.a ?_)
 ·rintro s R X ⟨bk,fs,g,f,w,rfl,q,h,hw,l,p,o⟩;refine⟨rfl,?_⟩;exact⟨rfl,rfl,bk,fs,g++[w],f,rfl,rfl,rfl,bk,fs++[f],g,w,rfl,f,w,rfl,q,h,hw,l,p,o⟩
def Zct(y:Xt K (Xv K (Xo ζ) "moves") "moves" "Village.moves" AB ["self"])
  : M7 ζ:=by
 refine y.fy Ze9 (λb n=>(b1<|sR<|xf Wg b<|a2 (xe (X9 Yi G.Za (hq<|b ()) XZ<|pv 0)<|Kp PR (UW 0) Xr)<|xe (X9 Yt G.Za (hq<|b ()) ExcR.Xu<|pv 0)<|Py Ac (UW 0) Xr)) (.a ?_)
 ·rintro z R X ⟨bk,fs,g,f,w,rfl,h,q,hw,r,u,v⟩;refine⟨rfl,?_⟩;exact⟨rfl,rfl,bk,fs,g++[w],f,rfl,rfl,rfl,bk,fs,g,f,w,rfl,h,by lia,hw,r,u,λx o l=>⟨f,o,rfl,h,q,l.perm,λp s=>v x o p l s⟩⟩
def Zmk(u:Xt K (Xv K (Xo ζ) "melded") "melded" "Village.melded" Ae ["self"])
  : E1 ζ:=by
 refine u.fy Zd5 (λb n=>(b1<|sR<|xg Wf b ExcR.Xu<|a2 (xe (X9 Yi G.Za (hq<|b ()) XZ<|pv 0)<|Kp PR (UW 0) Xr)<|xe (X9 Yt G.Za (hq<|b ()) ExcR.Xu<|pv 0)<|Py Ac (UW 0) Xr)) (.a ?_)
 ·rintro x R X ⟨bk,fs,h,f,w,rfl,l,v,hw,p,q,r⟩;refine⟨rfl,rfl,rfl,bk,fs,h++[w],f,rfl,rfl,rfl,bk,fs,h,f,w,rfl,l,by omega,hw,p,q,λs o g=>⟨f,o,rfl,l,by omega,?_,?_⟩⟩
  ·have:=g.perm.length_eq
   have:=Tc f
   omega
  ·rw[HL g.perm];exact r s o g
def Zi0(z:Xt K (Xv K (Xo ζ) "offer") "offer" "Village.offer" AY ["self","place","holder"])
  : GE ζ:=by
 refine z.fy Zbz (λg n=>(bc (sS 3 n<|xg Wc g ExcR.Xu<|a3 (xe (X9 Yi G.Za (hq<|g ()) XZ<|pv 0)<|Kp PR (UW 0) Xr) (xv 1)<|xv 2)<|bc (sS 4 n<|xe (X9 Y6 G.Za (hq<|g ()) ExcR.Xu<|pv 0)<|Py HG (UW 0) Xr)<|b1<|sR<|xo Kc Kb (xg Ys g ExcR.Xu<|a2 (xv 3)<|xe (X9 Yk G.Za (hq<|g ()) XZ<|pv 0)<|Kp TX (UW 0) Xr)<|xv 4)) (.a ?_)
 ·rintro C R X ⟨bk,fs,l,f,w,p,h,rfl,s,A,hw,r,b⟩;refine⟨rfl,rfl,rfl,bk,fs,l++[w],f,rfl,?_⟩;refine⟨f,p,h,rfl,by omega,?_⟩;cases q:Tv f p h with
  |some c=>rw[q]at b;exact b
  |none=>
   rw[q]at b;obtain⟨v,b⟩:=(show KF _ _ _ _ from b)
   have B:=OX f p h;have o:=ON s q;refine⟨rfl,rfl,bk,fs,l,f,w,rfl,s,by omega,hw,r,v,λx u y=>?_⟩;exact⟨rfl,rfl,bk,fs++[f],l,w,rfl,TK f p h,w,rfl,o,by omega,hw,r,b x u y⟩
def Zlx(DD:Def K mg "_law_named" Ay ["_law_which","_law_strips_here","_law_wishes_here","_law_village"])
  : IH ζ:=by
 refine DD.fy Zbi (λo n=>(bc (sI (tq o (xv 0) xi) (b1<|sR<|xg Yr o ExcR.Xu<|a2 (xv 1)<|xv 2) b0)<|bc (sI (tq o (xv 0) xi) (b1<|sR<|xg Y5 o ExcR.Xu<|a2 (xv 1)<|xv 2) b0)<|bc (sI (tq o (xv 0) xi) (b1<|sR<|xg Ys o ExcR.Xu<|a2 (xv 1)<|xv 2) b0)<|bc (sI (tq o (xv 0) xi) (b1<|sR<|xg Wo o ExcR.Xu<|a2 (xv 1)<|xv 2) b0)<|bc (sI (tq o (xv 0) xi) (b1<|sR<|xe (X9 Yt G.Za (hq<|o ()) ExcR.Xu<|pv 3)<|Py Ac (UW 3) Xr) b0)<|bc (sI (tq o (xv 0) xi) (b1<|sR<|xe (X9 Y6 G.Za (hq<|o ()) ExcR.Xu<|pv 3)<|Py HG (UW 3) Xr) b0)<|bc (sI (tq o (xv 0) xi) (b1<|sR<|xe (X9 Wp G.Za (hq<|o ()) ExcR.Xu<|pv 3)<|Py Zff (UW 3) Xr) b0)<|bc (sI (tq o (xv 0) xi) (b1<|sR<|xe (X9 Wq G.Za (hq<|o ()) ExcR.Xu<|pv 3)<|Py Zob (UW 3) Xr) b0)<|bc (sI (tq o (xv 0) xi) (b1<|sR<|xe (X9 Wr G.Za (hq<|o ()) ExcR.Xu<|pv 3)<|Py Zc0 (UW 3) Xr) b0)<|b1<|sR<|xe (Ax Ws G.Za (hq<|o ()) ExcR.Xu (pv 3)<|bz X1<|KU XD X1<|KU Xz (jx K (jx K (pv 1) X1) X1) X1)<|Py Zas (UW 3)<|tz Xp<|XC Xp<|X2 (KS (KS (UW 1) Xp) Xp) Xp)) (.a ?_)
 ·rintro ds R X ⟨w,bk,fs,z,f,v,rfl,hw,u,C,H,E,l,s,x,y⟩;refine⟨rfl,?_⟩;have t:∀n:Int,decide (w=n)=true->w=n:=λn g=>W6 g;have p:f.length<=50:=by lia
  refine Xg (λ_=>⟨f,v,rfl,u,p,l,s,x,λb _ _=>y b _⟩) (λg0=>?_);refine Xg (λ_=>⟨f,v,rfl,u,p,l,s,x,λb _ _=>y b _⟩) (λg1=>?_);refine Xg (λ_=>⟨f,v,rfl,u,p,l,s,x,λb _ _=>y b _⟩) (λY=>?_);refine Xg (λg=>?_) (λU=>?_)
  ·have h7:=H (t _ g);refine⟨f,v,rfl,u,?_⟩;rw[show P9 f=none from W2 (by lia)]
   exact⟨l,s,x,λb=>⟨Zcu u s b,λ_ _=>y b _⟩⟩
  refine Xg (λ_=>⟨rfl,rfl,bk,fs,z,f,v,rfl,u,p,l,s,x,λb _ _=>y b _⟩) (λT=>?_);refine Xg (λ_=>⟨rfl,rfl,bk,fs,z,f,v,rfl,u,p,l,s,x,λb _ _=>y b _⟩) (λQ=>?_);refine Xg (λ_=>⟨rfl,rfl,bk,fs,z,f,v,rfl,u,p,l,s,x,λb _ _=>y b _⟩) (λN=>?_);refine Xg (λ_=>⟨rfl,rfl,bk,fs,z,f,v,rfl,u,C,l,s,x,λb _ _ _ _=>y b _⟩) (λM=>?_);refine Xg (λ_=>⟨rfl,rfl,bk,fs,z,f,v,rfl,u,p,l,s,x,λb _ _=>y b _⟩) (λL=>?_);have n:∀n:Int,¬decide (w=n)=true->w≠n:=λn g e=>g (W1 e);have e9:w=9:=by have:=n _ g0;have:=n _ g1;have:=n _ Y;have:=n _ U;have:=n _ T;have:=n _ Q;have:=n _ N;have:=n _ M;have:=n _ L;lia
  obtain⟨r,o,B⟩:=E e9;have A:¬ ¬ ∃r,Ring (Xc f) v r:=λb=>B ((o.none_iff s).mpr b);cases f with
  |nil=>
   refine absurd (?_) A;rintro⟨r,h⟩;have J:=h.two;cases r with
   |nil=>simp at J
   |cons a _=>
    have:=h.sub a WU
    rw[show Xc []=[]from by decide]at this
    cases this
  |cons q f=>
   have hq:=u q WU;refine⟨rfl,rfl,_,N2 _ _,_,rfl,(by show(0:Int)<10;decide),bk,fs,z,q::f,v,1,1+q.1 % 10,rfl,u,C,l,s,?_⟩
   have es:Tv (q::f) 1 (1+q.1 % 10)=none:=by
    unfold Tv;rw[W2 (by simp only[WW];lia),W2 (by lia),W2 (by show ¬q.1=_;lia)]
   rw[es];exact⟨x,λb=>absurd b A⟩
def OW(U:Def K mg "_law_ringed" CZ ["_law_which","_law_strips_here","_law_wishes_here","_law_village","_law_due"])
  : HW ζ:=by
 refine U.fz B5 (λp n=>(bc (sS 5 n<|xL a0)<|bc (sS 6 n<|xL a0)<|bj (se (ExcR.Zna (λpins D=>(TB<|Pm<|ExcR.Zny Wt (hq<|p ()) (ExcR.Zcs (pins:=pins) (D:=D) (i:=7) rfl rfl B5.nd rfl rfl rfl G.Zn (by decide) (λa=>(Tu (Pu.pz 5 B5.nd<|KM<|bz (XF (ExcR.LR (K:=K)) (by rfl) G.Zb Vn<|bz (pv 7)<|ExcR.Zis G.Z2)<|XF (ExcR.LR (K:=K)) (by rfl) G.Zb Vn<|bz (pv 7)<|NY (v:=.ty "ValueError") rfl G.Z5 (by decide +kernel) rfl)<|TB<|Pu.pz 6 B5.nd<|ExcR.Zgf (pv 7)<|by rfl)))<|XB (pv 0)<|XB (pv 1)<|XB (pv 2)<|XB (pv 3) XA)))<|Zh5 (E':=λ_=>E0) G.ZM (λD=>(FJ<|Za0<|KW (UW 0)<|KW (UW 1)<|KW (UW 2)<|KW (UW 3) Xr))<|ID (Tr (Pg<|tz (E7<|tz (UW 7) Zj4)<|E7<|tz (UW 7) NV)<|XT 5)<|Zan 7 6 G.Zi)<|bc (sS 8 n<|xe (DM (KI (Zg7 (K:=K)<|show _<cLine from(p ()).units0) (pv 4) (KM XA)<|Ke _)<|PZ<|KI (Zky (K:=K)<|show _<cLine from(p ()).units0) (pv 5) (KM<|bz Fl Fl)<|Ke _)<|F6 (BV (UW 4)<|Pg Xr)<|Zlt (UW 5)<|Pg<|tz B6 B6)<|bc (sS 8 n<|xe (TL (pv 8)<|TL (fz Y1 (p ())<|bz (pv 6)<|pv 4)<|PZ<|KI (NN (K:=K)<|show _<cLine from(p ()).units0) (ln K G.len<|pv 5) (KU PP X1<|KO Zap (by rfl) G.ZO boot_int<|az<|KI (Cg (K:=K)<|show _<cLine from(p ()).units0) (pv 4) (KM XA)<|Ke _)<|Ke _)<|Nr (UW 8)<|Nr (Ko<|tz (UW 6)<|UW 4)<|TR (T9<|sz<|UW 5)<|PU Xp<|Zj5<|sz<|BV (UW 4)<|Pg Xr)<|bj (sI (tt<|xv 8) (b1<|sA 6 xi) b0)<|b1<|sV 8)) (.a ?_)
 ·rintro ds R X ⟨w,bk,fs,C,f,q,o,rfl,hw,N,J,T,Q,u,E,p,Y,H⟩;refine⟨rfl,by simp,by simp,?_⟩;refine TU (λh=>h=[some (.sh<|.int w),some (.bor<|plD f),some (.bor<|plD q),some (.bor<|KE (ExcR.Xe mg "Village") bk (fs++[f]) (C++[q])),some (.bor<|.lst<|o.map D.int),some (.own<|Cn o),some (.own<|o.map D.int),none,none]) ?_ ?_
  ·refine⟨w,bk,fs,C,f,q,rfl,hw,N,J,T,λe=>⟨o,p,Q e⟩,u,E,λr x y=>?_,λM s=>?_⟩
   ·obtain rfl:=p.one x;have B:Cn o=[.bl true,.bl true]:=W2 y;refine⟨o,rfl,λl=>?_⟩;rw[B];exact⟨_,G.Zi.elim λg c=>c.any,G.Zm,_,G.Zi.elim λg c=>c.any,G.Zl,by simp,rfl,(by show 6<9;decide),rfl⟩
   ·have e:o=[]:=(p.none_iff E).mpr M;subst e;exact rfl
  ·rintro h rfl;have L:(o.map D.int).length=o.length:=Wv ..;cases o with
   |nil=>
    refine⟨by simp,[],.inl rfl,by decide,by simp,.inl ⟨by decide,by decide⟩,TU (λh=>∃b:Bool,h[8]?=some (some<|Pu.S.sh<|Pu.D.bl b)/\b=true) ?_ ?_⟩
    ·exact⟨by decide,_,rfl,rfl⟩
    rintro h ⟨b,A,rfl⟩;unfold Sa;rw[A];exact H
   |cons a r=>
    have B:Cn (a::r)=[.bl true,.bl true]:=W2 (λz=>by cases z);rw[B];refine⟨by simp,by simp,_,_,rfl,rfl,rfl,rfl,a::r,.inl rfl,by lia,by simp,.inl ⟨by decide,by decide⟩,TU (λh=>∃b:Bool,h[8]?=some (some<|Pu.S.sh<|Pu.D.bl b)/\b=true) ?_ ?_⟩
    ·exact⟨by lia,_,rfl,rfl⟩
    rintro h ⟨b,A,rfl⟩;unfold Sa;rw[A];exact H
def Zha(DD:Def K mg "law" Pp ["_law_script"])
  : Zmf ζ:=by
 refine DD.fz Rb (λp n=>(bc (sS 1 n<|xf YR p<|a1<|xf Ym p<|a2 (xv 0) xi)<|bc (sS 2 n<|xo Kd Kk (xf Yl p<|a2 (xv 0) xi) xi)<|bc (sS 3 n<|xf Wl p<|a3 (xv 0) (xv 1)<|xx (xL<|a2 (xo Xz X2 (xo Kd Kk (xv 2) xi) xi)<|xo Xz X2 (xo Kd Kk (xv 2) xi) xi)<|xo Xz X2 (xv 2) xi)<|bc (sS 4 n<|xf YV p<|a2 (xf YS p<|a1<|xv 3)<|xo Kd Kk (xf Ym p<|a2 (xv 0) xi) xi)<|bc (sS 5 n<|xe (fz YU (p ())<|dz (fz Wm (p ())<|bz (pv 0)<|pv 1) (pv 4)<|fz We (p ())<|az<|pv 0)<|Zfz<|uz (Ko<|tz (UW 0)<|UW 1) (UW 4)<|Ko<|sz<|UW 0)<|bc (sS 6 n<|xf YT p<|a2 (xv 4)<|xv 5)<|bc (sS 7 n<|xe (Zm0 Wj G.ZL (hq<|p ()) Af<|az<|KO (N4 (K:=K)) (by rfl) G.Zg boot_list<|az<|pv 3)<|Zfs<|sz<|N6<|sz<|UW 3)<|bc (sF 5<|sO [8,9] WO (iL<|xv 5) (gT 2<|gc (gN 8)<|gc (gN 9) g0)<|b1<|sF 9<|sF 8<|se (Pm<|Ax Wk G.Za (hq<|p ()) Af (pv 7)<|bz (pv 8)<|pv 9)<|BJ<|IQ 7 Zdd<|tz (UW 8)<|UW 9)<|bc (sO [10,11,12] WO (ir G.Zc<|a1 xi) (gN 10)<|bc (sS 11 n<|xe (KO (N4 (K:=K)) (by rfl) G.Zg boot_list<|az<|pv 3)<|N6<|sz<|UW 3)<|bj (sS 12 n<|xe (DM (KI (DK (K:=K)<|show _<cLine from(p ()).units0) (pv 10) X1<|Ke _)<|PZ<|KI T6 (ln K G.len<|pv 11) X1<|Ke _)<|F6 (Fc (UW 10) Xp)<|Ts (T9<|sz<|UW 11) Xp)<|bj (sI (tp<|wa (tt<|xv 12)<|wA<|tN<|tt<|xf Y7 p<|ac (xv 10)<|ac (xv 11)<|ac (xe (KO (N4 (K:=K)) (by rfl) G.Zg boot_list<|az<|pv 5)<|N6<|sz<|UW 5)<|ac (xv 7)<|ac (xv 6) a0) (b1<|sR xb) b0)<|b1<|sI (tN<|tt<|xf Y1 p<|a2 (xe (X9 Wn G.Za (hq<|p ()) XZ<|pv 7)<|Kp Zl4 (UW 7) Xr)<|xv 6) (b1<|sR xb) b0)<|bj (sI (tp<|wa (te (PY (Cg (K:=K)<|show _<cLine from(p ()).units0) (pv 6) (KM XA)<|Ke _)<|Ph<|BV (UW 6)<|Pg Xr)<|wA<|tN<|tt<|xf Y7 p<|ac xi<|ac (xv 3)<|ac (xv 5)<|ac (xv 7)<|ac (xv 6) a0) (b1<|sR xb) b0)<|b1<|sR<|xe (TL (fz Y2 (p ())<|bz (X9 Yi G.Za (hq<|p ()) XZ<|pv 7)<|pv 3)<|PZ<|fz Y2 (p ())<|bz (X9 Yk G.Za (hq<|p ()) XZ<|pv 7)<|pv 5)<|Nr (Ko<|tz (Kp PR (UW 7) Xr)<|UW 3)<|Ko<|tz (Kp TX (UW 7) Xr)<|UW 5)) (.a ?_)
 ·rintro ds R X ⟨A,rfl,hR⟩;refine⟨rfl,A,0,rfl,by decide,λc0=>⟨c0,rfl,λm hM=>?_⟩⟩;refine⟨A,0,rfl,by decide,λa0=>⟨⟨by decide,by decide⟩,?_⟩⟩;refine⟨⟨by decide,by decide⟩,(by show(0:Int)<8;decide),⟨by decide,by decide⟩,(by show(0:Int)<41;decide),by simp,(by show(0:Int)<2;decide),_,Zko _ _ (by lia),A,m,_,rfl,hM,by split<;>lia,by split<;>lia,λl B M=>?_⟩
  have Y:l.length<=40:=by
   rw[M];split<;>lia
  have hh:=Tc l;refine⟨l,rfl,by lia,?_⟩;refine⟨A,1,rfl,by decide,λd=>⟨⟨by decide,by decide⟩,Xc l,_,rfl,by lia,λo Q=>?_⟩⟩;have hol:=Q.length_eq;have L:o.Nodup:=Q.nodup_iff.mpr ((Pn l).imp λh=>Vi h);refine⟨A,m,rfl,hM,λU hW0=>⟨A,rfl,λc a=>⟨⟨a,_,rfl,_,rfl⟩,a,U,o,c,rfl,hW0,L,by lia,λh hh=>?_,λu hW s hs'=>Zfy hs' ?_⟩⟩⟩
  ·obtain⟨q,hq,rfl⟩:=WK.mp ((Se B).mp (Q.mem_iff.mp hh))
   have:=B q hq
   lia
  have hW1:=hW.1;have N:∀q∈u,q.1≠q.2:=λq hq=>(hW.2.2 q hq).2;obtain⟨y,H⟩:=FR.ex o u;have p:FR (Xc l) u y:=H.congr λx=>Q.mem_iff
  have J:y.length<=60:=by
   by_cases e:y=[]
   ·rw[e];decide
   ·have g:=(p.ring N e).1
    have:=g.nodup.length_le_of_subset (λx hx=>g.sub x hx)
    lia
  refine⟨o,u,y,rfl,L,by lia,N,by lia,H,?_⟩;refine⟨rfl,λx=>⟨x,l,rfl,rfl,by lia,?_⟩⟩;rw[OG B Y];refine λb1 E C=>⟨rfl,?_⟩;refine⟨rfl,Kl (xs:=u) (emb:=prD) (λi f=>∃(bk:List (Str×ZV)) (fs v:List (ZU)),f=[some (.bor<|.scr A),some (.own<|m.map D.int),some (.sh<|.int (a0 / 2)),some (.own<|l.map prD),some (.own<|o.map D.int),some (.sh<|.lst<|u.map prD),some (.sh<|.lst<|y.map D.int),some (.own<|vO (ExcR.Xe mg "Village") x b1 E C bk (fs++[l]) (v++[u.take i])),none,none,none,none,none]/\bk.length=i/\fs.length=i/\v.length=i) ⟨[],[],[],rfl,rfl,rfl,rfl⟩ ?_ ?_⟩
  ·rintro i T f ⟨bk,fs,v,rfl,h1,h2,h3⟩;refine⟨rfl,rfl,rfl,x,b1,E,C,bk,fs,v,l,u.take i,u[i].1,u[i].2,rfl,rfl,by lia,by lia,by lia,by rw[WG];lia,?_⟩;unfold FV;rw[W2 (by lia),Zfc hW T];refine⟨bk++[(("wish" : Str),[u[i].1,u[i].2])],fs++[l],v++[u.take i],?_,by simp[h1],by simp[h2],by simp[h3]⟩;rw[W4 T];rfl
  rintro f ⟨bk,fs,v,rfl,h1,h2,h3⟩;rw[WX];clear h1 h2 h3;refine⟨⟨by decide,by decide⟩,P2 (λi f=>f=[some (.bor<|.scr A),some (.own<|m.map D.int),some (.sh<|.int (a0 / 2)),some (.own<|l.map prD),some (.own<|o.map D.int),some (.sh<|.lst<|u.map prD),some (.sh<|.lst<|y.map D.int),some (.own<|vO (ExcR.Xe mg "Village") x b1 E C bk (fs++[l]) (v++[u])),none,none,none,none,none]) rfl ?_ ?_⟩
  ·rintro i f T rfl;have hi':i<9:=T;generalize ew:(0:Int)+(i:Int)=w;have hw:0<=w/\w<9:=by lia
   have hlp:(l.map prD).length=l.length:=Wv ..;refine⟨rfl,TU (λf=>∃b:Bool,(b=true->w=3->l.length<=7)/\f=[some (.bor<|.scr A),some (.own<|m.map D.int),some (.sh<|.int (a0 / 2)),some (.own<|l.map prD),some (.own<|o.map D.int),some (.sh<|.lst<|u.map prD),some (.sh<|.lst<|y.map D.int),some (.own<|vO (ExcR.Xe mg "Village") x b1 E C bk (fs++[l]) (v++[u])),none,none,some (.sh<|.int w),some (.own<|l.map prD),some (.sh<|.bl b)]) ?_ ?_⟩
   ·refine Xg (λg=>?_) (λ_=>?_)
    ·have g':w≠3:=by
      have g:(!decide (w=3))=true:=g;simpa using g
     exact⟨true,λ_ e=>absurd e g',rfl⟩
    ·exact⟨_,λe _=>by have:=W6 e;lia,rfl⟩
   rintro f ⟨b,hb,rfl⟩;refine TU (λf=>f=[some (.bor<|.scr A),some (.own<|m.map D.int),some (.sh<|.int (a0 / 2)),some (.own<|l.map prD),some (.own<|o.map D.int),some (.sh<|.lst<|u.map prD),some (.sh<|.lst<|y.map D.int),some (.own<|vO (ExcR.Xe mg "Village") x b1 E C bk (fs++[l]) (v++[u])),none,none,some (.sh<|.int w),some (.own<|l.map prD),some (.sh<|.bl b)]) ?_ ?_
   ·refine Xg (λg=>?_) (λ_=>X5 rfl);exact⟨rfl,w,bk,fs,v,l,u,y,rfl,by lia,B,Y,hb g,λe=>absurd e (by lia),by lia,N,p,J,X5 rfl⟩
   rintro f rfl;refine⟨rfl,rfl,bk,fs,v,l,u,rfl,B,by lia,λr hr2 _=>?_⟩;obtain rfl:=p.one hr2;exact⟨y,.inl rfl,by lia,X5 rfl⟩
  rintro f rfl;refine TU (λf=>f=[some (.bor<|.scr A),some (.own<|m.map D.int),some (.sh<|.int (a0 / 2)),some (.own<|l.map prD),some (.own<|o.map D.int),some (.sh<|.lst<|u.map prD),some (.sh<|.lst<|y.map D.int),some (.own<|vO (ExcR.Xe mg "Village") x b1 E C bk (fs++[l]) (v++[u])),none,none,none,none,none]) ?_ ?_
  ·refine⟨by simp,?_⟩;cases y with
   |nil=>exact rfl
   |cons h t=>exact⟨9,bk,fs,v,l,u,h::t,rfl,by decide,B,Y,λe=>absurd e (by decide),λ_ z=>(by cases z),by lia,N,p,J,X5 rfl⟩
  rintro f rfl;refine⟨rfl,rfl,bk,fs,v++[u],l,rfl,l,rfl,by lia,?_⟩;exact⟨rfl,rfl,bk,fs++[l],v,u,rfl,u,rfl,by lia,hR⟩
end
end T
namespace T
open L2 Own M
def Zie{l:PySem.W.OpenLaw}{w:World}{K:ZT}{h:Heap}{f:ZX}{fa:Addr}(X:K.In h)(b:h.Ns mainGlobals f)(hfa:f "law"=some (.ref fa)){g:Addr}(JT:PySem.W.nsIn K mainGlobals "Village"=some (some<|.ref g))(Uh:PySem.W.plainGet K g Str.empty=true)(Ui:PySem.W.hasDictIn K g=true)(Uj:PySem.W.plainOver K g=true)(Uk:PySem.W.findIn K (.ref g) "__setattr__"=some (some<|.builtin "object.__setattr__"))(Ul:PySem.W.makesIn K g=true)(Um:PySem.W.keepIn K (.ref g)=true)(Uo:PySem.W.findIn K (.ref g) "book"=some none)(Up:PySem.W.findIn K (.ref g) "fields"=some none)(Uq:PySem.W.findIn K (.ref g) "wished"=some none)(a1:Pu.DI K "check_holder" Dp)(a2:Pu.DI K "check_width" Aw)(a3:Pu.DI K "check_strips" Av)(a4:Pu.DI K "holders_of" Dy)(a5:Pu.DI K "begins_run" AW)(a6:Pu.DI K "lies_together" Dj)(a7:Pu.DI K "check_order" AF)(a8:Pu.DI K "gathered" FD)(a9:Pu.DI K "pair_cost" DA)(a10:Pu.DI K "broken_wishes" CQ)(a11:Pu.DI K "longer_paths" F9)(a12:Pu.DI K "ring_from" Ds)(a13:Pu.DI K "find_ring" AL)(a14:Pu.DI K "check_no_ring" Az)(a15:Pu.DI K "pair_costs" Cr)(a16:Pu.DI K "sets_of" CC)(a17:Pu.DI K "without" A2)(a18:Pu.DI K "may_lie_last" DL)(a19:Pu.DI K "may_lie_first" Ah)(a20:Pu.DI K "cost_with_last" FC)(a21:Pu.DI K "cost_with_first" Ar)(a22:Pu.DI K "least_costs" CU)(a23:Pu.DI K "cost_table" CM)(a24:Pu.DI K "best_order" FN)(a25:Pu.DI K "least_cost" AJ)(a26:Pu.DI K "own_numbers" Ap)(a27:Pu.DI K "exchange_cost" A1)(a28:Pu.DI K "exchanged" Ag)(a29:Pu.DI K "first_wrong_place" Dx)(a30:Pu.DI K "told_moves" Do)(a31:Pu.DI K "check_small" FZ)(a32:Pu.DI K "cost_to_come_next" FX)(a33:Pu.DI K "longer_stands" Aa)(a34:Pu.DI K "all_stands" Dq)(a35:Pu.DI K "holders_from_left" AG)(a36:Pu.DI K "is_melded" Ai)(a37:Pu.DI K "field_of_stand" DJ)(a38:Pu.DI K "least_by_stands" FH)(a39:Pu.DI K "check_place" FM)(a40:Pu.DI K "sold" F5)(a41:Pu.DI K "with_wish" FS)(a42:Pu.MI K g "__init__" "Village.__init__" D9)(a43:Pu.MI K g "strips" "Village.strips" FY)(a44:Pu.MI K g "wishes" "Village.wishes" FG)(a45:Pu.MI K g "check_room" "Village.check_room" DE)(a46:Pu.MI K g "enter" "Village.enter" A5)(a47:Pu.MI K g "wish" "Village.wish" Cs)(a48:Pu.MI K g "ring" "Village.ring" Dh)(a49:Pu.MI K g "order" "Village.order" AC)(a50:Pu.MI K g "cost" "Village.cost" D6)(a51:Pu.MI K g "table" "Village.table" Ck)(a52:Pu.MI K g "moves" "Village.moves" AB)(a53:Pu.MI K g "melded" "Village.melded" Ae)(a54:Pu.MI K g "offer" "Village.offer" AY)(a55:Pu.DI K "_law_at" Dl)(a56:Pu.DI K "_law_whole" AA)(a57:Pu.DI K "_law_mix" FP)(a58:Pu.DI K "_law_draw" CK)(a59:Pu.DI K "_law_spare" A7)(a60:Pu.DI K "_law_menu" Df)(a61:Pu.DI K "_law_holder" D3)(a62:Pu.DI K "_law_strips" FL)(a63:Pu.DI K "_law_wishes" CP)(a64:Pu.DI K "_law_row" Ct)(a65:Pu.DI K "_law_tuples" Cu)(a66:Pu.DI K "_law_present" AN)(a67:Pu.DI K "_law_ring" Cz)(a68:Pu.DI K "_law_with_round" CD)(a69:Pu.DI K "_law_shuffled" Ak)(a70:Pu.DI K "_law_named" Ay)(a71:Pu.DI K "_law_ringed" CZ){B:Addr}{Y A:Yg}{U:Array (Yf)}{oc72 u x r q y:Value}(a72:PySem.W.nsIn K mainGlobals "law"=some (some<|.ref B))(l72:K.lookup B=some ⟨oc72,Y,.func (PySem.W.fnOf "law" "law" (K8 Pp) (Xw Pp) (UY Pp) .none u x r A q y),U⟩)(c72:PySem.W.codeIn K q "law"=true)(k72:PySem.W.keepIn K (.ref B)=true)(Ur:PySem.W.nsIn K mainGlobals "ValueError"=some none)(Us:PySem.W.nsIn K mainGlobals "any"=some none)(Ut:PySem.W.nsIn K mainGlobals "bool"=some none)(Uu:PySem.W.nsIn K mainGlobals "enumerate"=some none)(Uv:PySem.W.nsIn K mainGlobals "int"=some none)(Uw:PySem.W.nsIn K mainGlobals "isinstance"=some none)(Ux:PySem.W.nsIn K mainGlobals "len"=some none)(Uy:PySem.W.nsIn K mainGlobals "list"=some none)(U0:PySem.W.nsIn K mainGlobals "max"=some none)(U1:PySem.W.nsIn K mainGlobals "min"=some none)(U2:PySem.W.nsIn K mainGlobals "range"=some none)(U3:PySem.W.nsIn K mainGlobals "set"=some none)(U4:PySem.W.nsIn K mainGlobals "sorted"=some none)(U5:PySem.W.nsIn K mainGlobals "sum"=some none)(U6:PySem.W.nsIn K mainGlobals "tuple"=some none){UE:Tok}(U7:PySem.W.nsIn K mainGlobals "HOLDERS"=some (some<|.int 10 UE)){UF:Tok}(U8:PySem.W.nsIn K mainGlobals "STRIPS"=some (some<|.int 40 UF)){UG:Tok}(U9:PySem.W.nsIn K mainGlobals "WIDEST"=some (some<|.int 1000 UG)){UH:Tok}(UA:PySem.W.nsIn K mainGlobals "MOST_WISHES"=some (some<|.int 20 UH)){UI:Tok}(UB:PySem.W.nsIn K mainGlobals "SMALL"=some (some<|.int 7 UI)){UJ:Tok}(UC:PySem.W.nsIn K mainGlobals "MOST_DEEDS"=some (some<|.int 100 UJ)){UD:Addr}(JR:Pu.EI K "MeldError" UD){UK:Addr}(JU:Pu.EI K "TooManyStrips" UK){UL:Addr}(JV:Pu.EI K "BadHolder" UL){UM:Addr}(JW:Pu.EI K "BadWidth" UM){UN:Addr}(JX:Pu.EI K "NoStrip" UN){UO:Addr}(JY:Pu.EI K "BadOrder" UO){UP:Addr}(JZ:Pu.EI K "TooManyStands" UP){UQ:Addr}(Ua:Pu.EI K "OwnStrip" UQ){UR:Addr}(Ub:Pu.EI K "LikeHolders" UR){US:Addr}(Uc:Pu.EI K "WishStands" US){UT:Addr}(Ud:Pu.EI K "TooManyWishes" UT){UU:Addr}(Ue:Pu.EI K "BookFull" UU){JS:Addr}(JQ:Pu.RI K "Ringed" JS "Ringed.__init__" DF)(x_Ringed:PySem.W.exmOne K (.ref JS) (.ref JS)=some true)(k_Ringed_MeldError:PySem.W.kitOne K (.ref JS) (.ref UD)=some true)(k_Ringed_ValueError:PySem.W.kitOne K (.ref JS) (.type "ValueError")=some true)
  : ∃fd:FuncData,(∀(s:Shared) (v:Value),BindsTo s fd ⟨[v],[]⟩ [("_law_script",v)])/\∀base:Heap,K.In base->base.Ns mainGlobals f->Ki l.prog w K f base CX0 11 fa fd ["_law_script"] (Pu.CY K):=by
 have e:=hfa.symm.trans (Qr X b a72);cases e
 have UV:=JR.c X b;have Ug:=JQ.c X b;have o:=ExcR.AH (Qr X b JT);have G:Glob K f:=⟨Qi X b Ur,Qi X b Us,Qi X b Ut,Qi X b Uu,Qi X b Uv,Qi X b Uw,Qi X b Ux,Qi X b Uy,Qi X b U0,Qi X b U1,Qi X b U2,Qi X b U3,Qi X b U4,Qi X b U5,Qi X b U6,⟨_,Qr X b U7,⟨_,rfl⟩⟩,⟨_,Qr X b U8,⟨_,rfl⟩⟩,⟨_,Qr X b U9,⟨_,rfl⟩⟩,⟨_,Qr X b UA,⟨_,rfl⟩⟩,⟨_,Qr X b UB,⟨_,rfl⟩⟩,⟨_,Qr X b UC,⟨_,rfl⟩⟩,(JR.m X b),(JR.k X b),(JU.m X b),(JU.k X b),(JV.m X b),(JV.k X b),(JW.m X b),(JW.k X b),(JX.m X b),(JX.k X b),(JY.m X b),(JY.k X b),(JZ.m X b),(JZ.k X b),(Ua.m X b),(Ua.k X b),(Ub.m X b),(Ub.k X b),(Uc.m X b),(Uc.k X b),(Ud.m X b),(Ud.k X b),(Ue.m X b),(Ue.k X b),(JQ.m X b),(JQ.i X b),(by rw[Ug];exact x_Ringed),(by rw[Ug,UV];exact k_Ringed_MeldError),(by rw[Ug];exact k_Ringed_ValueError),(by rw[o];exact Qr X b JT),(by rw[o];exact⟨Uh,Ui,Uj,Uk⟩),(by rw[o];exact Uo),(by rw[o];exact Up),(by rw[o];exact Uq)⟩;have C:=B3 (st:=Pp) l72 c72 k72;have b72:=C.binds (ps:=["_law_script"]) λ_ _ _ _ _ _ us hl=>by obtain⟨_,rfl⟩:=Pu.Sw hl;rfl
 have D72:Def K f "law" Pp ["_law_script"]:=⟨_,_,C,Qr X b a72,b72⟩;refine⟨PySem.W.fnOf "law" "law" (K8 Pp) (Xw Pp) (UY Pp) .none u x r A q y,λs v=>.of_eq rfl,λbase _ _=>?_⟩;have C0:=@Zof l.prog w K f base G (JQ.j Ug);have C1:=@Zee l.prog w K f base ⟨⟩ G (a1.e X b);have C2:=@Rh l.prog w K f base ⟨⟩ G (a2.e X b);have L:=@Zgs l.prog w K f base G (a4.e X b);have C5:=@Zm5 l.prog w K f base ⟨⟩ (a5.e X b);have C9:=@Zlk l.prog w K f base ⟨⟩ (a9.e X b);have C10:=@Zed l.prog w K f base ⟨⟩ G (a10.e X b);have C11:=@Zht l.prog w K f base ⟨⟩ (a11.e X b);have C16:=@Zk3 l.prog w K f base ⟨⟩ (a16.e X b);have Q:=@Zcc l.prog w K f base ⟨⟩ G (a17.e X b);have C18:=@Zi2 l.prog w K f base ⟨⟩ G (a18.e X b);have C19:=@OC l.prog w K f base ⟨⟩ G (a19.e X b);have C26:=@Zod l.prog w K f base ⟨⟩ G (a26.e X b);have C27:=@Zid l.prog w K f base ⟨⟩ (a27.e X b);have C28:=@Zgi l.prog w K f base ⟨⟩ (a28.e X b);have C29:=@Znc l.prog w K f base ⟨⟩ G (a29.e X b);have C31:=@Ze4 l.prog w K f base ⟨⟩ G (a31.e X b);have C32:=@Zib l.prog w K f base ⟨⟩ G (a32.e X b);have C35:=@Zgh l.prog w K f base ⟨⟩ (a35.e X b);have C37:=@Zk4 l.prog w K f base ⟨⟩ (a37.e X b);have C39:=@Zla l.prog w K f base ⟨⟩ G (a39.e X b);have n:=@Rc l.prog w K f base ⟨⟩ G (a43.e o);have p:=@Zfx l.prog w K f base ⟨⟩ G (a44.e o);have C45:=@Zoe l.prog w K f base ⟨⟩ G (a45.e o);have C46:=@Zg3 l.prog w K f base ⟨⟩ G (a46.e o);have H:=@Zgl l.prog w K f base ⟨⟩ G (a55.e X b);have C56:=@Zlu l.prog w K f base ⟨⟩ G (a56.e X b);have C57:=@Zka l.prog w K f base ⟨⟩ (a57.e X b);have C60:=@Zdx l.prog w K f base ⟨⟩ (a60.e X b);have C61:=@Zeo l.prog w K f base ⟨⟩ (a61.e X b);have C66:=@Zhh l.prog w K f base ⟨⟩ G (a66.e X b);have C67:=@Zgp l.prog w K f base ⟨⟩ G (a67.e X b);have C68:=@Zfb l.prog w K f base ⟨⟩ G (a68.e X b);have C69:=@Zdg l.prog w K f base G (a69.e X b);have C3:=Zdo ⟨⟩ G C1 C2 (a3.e X b);have C6:=Znn ⟨⟩ G (Nh L) C5 (a6.e X b);have C7:=Znv ⟨⟩ G (Nh L) (a7.e X b);have C12:=Ro ⟨⟩ G C11 (a12.e X b);have C15:=Zje ⟨⟩ (Nh L) C9 (a15.e X b);have C20:=Zd2 ⟨⟩ G Q (a20.e X b);have C21:=Zds ⟨⟩ G Q (a21.e X b);have C33:=Zeg ⟨⟩ C26 C32 (a33.e X b);have C40:=Zke ⟨⟩ G C1 C39 (a40.e X b);have C41:=Zlr ⟨⟩ G C1 (a41.e X b);have E:=Zb9 ⟨⟩ H C57 (a58.e X b);have C59:=O6 ⟨⟩ H C57 (a59.e X b);have C64:=Zd8 ⟨⟩ G C56 (a64.e X b);have C65:=O5 ⟨⟩ G C56 (a65.e X b);have C8:=OH ⟨⟩ C7 (a8.e X b);have C13:=Re ⟨⟩ G C12 (a13.e X b);have C22:=Zkq ⟨⟩ G (Nh L) C16 C18 C20 (a22.e X b);have C30:=Zkb ⟨⟩ C26 C27 C28 C29 C7 (a30.e X b);have C34:=Zdi ⟨⟩ G C31 C33 (a34.e X b);have C36:=R4 ⟨⟩ C10 C35 C6 (a36.e X b);have C42:=Zaa ⟨⟩ G C3 (a42.j o Ul Um);have C47:=Zby ⟨⟩ G n p C45 C46 C41 (a47.e o);have C62:=Rg ⟨⟩ G C61 E (a62.e X b);have C63:=Ziz ⟨⟩ G C61 E (a63.e X b);have T:=Zns ⟨⟩ G C0 (Nh L) C13 (a14.e X b);have C48:=Zb0 ⟨⟩ G (Nh L) n p C13 (a48.e o);have N:=Zjl ⟨⟩ G C15 C22 T (a23.e X b);have C24:=Zkc ⟨⟩ G (Nh L) Q C19 C15 C21 C22 T (a24.e X b);have C38:=Zkx ⟨⟩ G C31 C37 C34 C36 T (a38.e X b);have M:=Zim ⟨⟩ N (a25.e X b);have J:=Zgw ⟨⟩ G n p C24 (a49.e o);have C51:=Zfl ⟨⟩ G n p N (a51.e o);have C50:=Zac ⟨⟩ G n p M (a50.e o);have C52:=Zct ⟨⟩ G n C30 J (a52.e o);have C53:=Zmk ⟨⟩ G n C8 J (a53.e o);have C54:=Zi0 ⟨⟩ G n p C40 M C50 (a54.e o);have C70:=Zlx ⟨⟩ G N C24 C38 M J C51 C50 C52 C53 C54 (a70.e X b);have C71:=OW ⟨⟩ G C64 C70 (a71.e X b);have C72:=Zha ⟨⟩ G n p H C60 C66 C67 C68 (Zjc C69) E C59 C64 C65 C42 C47 C62 C63 C48 C71 D72;exact(C72.at (Qr X b a72) C D72).imp λ_ _ _ _ z=>Pu.R0 z
end T
namespace PySem.W.Fast
def I:True:=⟨⟩
def tw1249718622558246806:=I
def tw17567212389879871520:=I
def tw11426720226635398208:=I
def tw16091778559304921184:=I
def tw17774497382178563200:=I
def tw6914226806822216864:=I
def tw13310238950913754272:=I
def tw7623484869977968832:=I
def tw17702696672519527616:=I
def tw11062510377594124480:=I
def tw14218760965136317632:=I
def tw2356370197468767456:=I
def tw12883987833114538240:=I
def tw5949119385847036160:=I
def tw12314911472352001280:=I
def tw14004667804568485152:=I
def tw11212264326765020512:=I
def tw9269798545952961888:=I
def tw15262605740639093120:=I
def tw4299483459357624704:=I
def tw2123557698238632352:=I
def tw590270997222615456:=I
def tw1289663557310998976:=I
def tw4666552750986404320:=I
def tw1422427614944540128:=I
def tw10660194888194412000:=I
def tw11064799186544840160:=I
def tw7297436353937456640:=I
def tw4441764598099756544:=I
def tw2235575231767267840:=I
def tw745697178205813248:=I
def tw8579741215895795296:=I
def tw10441513660682595936:=I
def tw6119483167962402432:=I
def tw4377554809078291072:=I
def tw3597506059286059648:=I
def tw11690949488518672000:=I
def tw2624683619873294048:=I
def tw14319180356238151424:=I
def tw9203634332378192640:=I
def tw3091653982966557472:=I
def tw12421240429448017696:=I
def tw2577551541505314592:=I
def tw5380958796365764416:=I
def tw989682788221804352:=I
def tw17895844810921394048:=I
def tw11566275436191280000:=I
def tw972510785070884832:=I
def tw4878527265831973856:=I
def tw10923422363870688449:=I
def tw9374399561358602465:=I
def tw8482032748295499009:=I
def tw13519309288768255233:=I
def tw3841193864313515361:=I
def tw7901311108514479457:=I
def tw12499532440128979329:=I
def tw6874098050876700161:=I
def tw14841871524071770657:=I
def tw7590164662777013793:=I
def tw11120792189408773729:=I
def tw18254469878406771297:=I
def tw11874510054536467073:=I
def tw10160196931316826785:=I
def tw3379062092911293185:=I
def tw14101166307495299841:=I
def tw12194296475008166657:=I
def tw12617950735563847425:=I
def tw509969353892357953:=I
def tw2047910359269357409:=I
def tw10214893967241839489:=I
def tw2556368333266455425:=I
def tw4679743644346973057:=I
def tw15666599605508221857:=I
def tw12716167280804237249:=I
def tw15413482720407570401:=I
def tw2279052660326279170:=I
def tw18396140458743362594:=I
def tw4269566197377878114:=I
def tw10720174609571956834:=I
def tw11315690431798037634:=I
def tw2796702594200068226:=I
def tw11090046316921178274:=I
def tw6921140318133130466:=I
def tw12589265630750636258:=I
def tw303088585675271426:=I
def tw17464976823431657730:=I
def tw18165837598207643938:=I
def tw7445742024774331714:=I
def tw13542365106583579042:=I
def tw12889435879924227522:=I
def tw12863901375310005762:=I
def tw9215298936584864290:=I
def tw11754468025595304514:=I
def tw13295418252189706818:=I
def tw9074498513113513538:=I
def tw2439513644095551106:=I
def tw2411222214093827714:=I
def tw16995360426606438082:=I
def tw12440853530449438434:=I
def tw9019360522425051906:=I
def tw11538491092044484450:=I
def tw3359902887118061410:=I
def tw13153332020281602946:=I
def tw16519159424129781698:=I
def tw6641382872166124514:=I
def tw5234722489185716227:=I
def tw7837877496299289667:=I
def tw11291603706748931203:=I
def tw13289235834607733891:=I
def tw8720592037127684259:=I
def tw4503006377427636387:=I
def tw2680842895650152643:=I
def tw13655327367936659683:=I
def tw2864413928657005827:=I
def tw13157025920825676067:=I
def tw8526197293327638819:=I
def tw6980055696649960803:=I
def tw4173135413068497315:=I
def tw3901763301029950883:=I
def tw1985369202201408963:=I
def tw919112492193859011:=I
def tw8852297697632571843:=I
def tw4449580738809679331:=I
def tw5163390472891052547:=I
def tw15488386270625928739:=I
def tw14263688540166732323:=I
def tw17547737904105151107:=I
def tw6869782013811152547:=I
def tw14041869010677551811:=I
def tw9320579122806410019:=I
def tw17891921979553030019:=I
def tw15536256752044871587:=I
def tw372181841047261123:=I
def tw3290362829181841347:=I
def tw9383495287611377635:=I
def tw5763497778129566756:=I
def tw9091947024218976324:=I
def tw6734252464513485924:=I
def tw16314840372997795940:=I
def tw8816060148335393156:=I
def tw2369622509554621828:=I
def tw2417273286362897828:=I
def tw11851523552884979108:=I
def tw4577370081030901252:=I
def tw15099052975841144324:=I
def tw7536935136194309668:=I
def tw15549731591506250276:=I
def tw17985283417320524452:=I
def tw15745481838312950532:=I
def tw6718438551745536836:=I
def tw2857341624603021156:=I
def tw12200910862954308452:=I
def tw8343758704307738532:=I
def tw17446797946971190180:=I
def tw3865767697218142116:=I
def tw1486077124398473156:=I
def tw9418333584620839908:=I
def tw14419367957673035781:=I
def tw3563895023076396037:=I
def tw10843554731138142213:=I
def tw15975988810291477509:=I
def tw7303359469721239781:=I
def tw11934317845054607621:=I
def tw849293183405806853:=I
def tw13105647035521786117:=I
def tw7801375338262275365:=I
def tw5169634841512642917:=I
def tw16065547020974929253:=I
def tw3853874897049477509:=I
def tw10702652559347425701:=I
def tw13268323199891945925:=I
def tw7229075147625481701:=I
def tw11346790668656538085:=I
def tw13423648898862746117:=I
def tw5234294634264822309:=I
def tw207454467652249125:=I
def tw9686619713720575557:=I
def tw10212336649822274149:=I
def tw16360608964999224933:=I
def tw1626401442978445925:=I
def tw2352075668931047013:=I
def tw12921991949345391237:=I
def tw13391036751415831173:=I
def tw3635670570664791845:=I
def tw10943247148941172549:=I
def tw10826765145027514245:=I
def tw7630776397742128037:=I
def tw4096124827232055237:=I
def tw9447165668974047173:=I
def tw698310357365586885:=I
def tw4423321258249556965:=I
def tw7541319919396519974:=I
def tw10027138743741624358:=I
def tw12451247416716628038:=I
def tw5453297738003371078:=I
def tw10109235534564456582:=I
def tw5578771737043822758:=I
def tw5759319922505134310:=I
def tw15801406491348989158:=I
def tw16467291604189736262:=I
def tw13224939558085557574:=I
def tw16630212534154891622:=I
def tw9309757640361205094:=I
def tw7447369469666426214:=I
def tw17520739825755877862:=I
def tw16742466771157763622:=I
def tw650265965401435686:=I
def tw12986961863979101734:=I
def tw1697706562293414470:=I
def tw7132910542204416614:=I
def tw3400576358043352710:=I
def tw16806377905510939302:=I
def tw5135417345268221702:=I
def tw3752333779411911526:=I
def tw17161934678900354950:=I
def tw9367314369919696007:=I
def tw14647069647106048167:=I
def tw1288411251298241735:=I
def tw10631330514423486663:=I
def tw3262080898465054919:=I
def tw12846868970637206855:=I
def tw9891648507044047175:=I
def tw13090711108342606151:=I
def tw1096766644924088679:=I
def tw1978411490952917351:=I
def tw17281960818150603111:=I
def tw9428987438619985287:=I
def tw17367801949740889511:=I
def tw17183835130103986599:=I
def tw6020490576181255655:=I
def tw3672021667707361831:=I
def tw14374831403833570855:=I
def tw3320451949523414599:=I
def tw10692268636825956935:=I
def tw4744642214348513863:=I
def tw10441729669732354695:=I
def tw14206654670609588935:=I
def tw6766077136516627143:=I
def tw11200223118073467655:=I
def tw3854088523124709191:=I
def tw12119463533198228327:=I
def tw1222542463022728103:=I
def tw6799271771713225639:=I
def tw7924534721013540775:=I
def tw14011319496839065511:=I
def tw17290313836480347079:=I
def tw11444771774166557704:=I
def tw10925353609379431464:=I
def tw14171995484355485736:=I
def tw7214525993944066120:=I
def tw1033943554212466792:=I
def tw14788798955310758024:=I
def tw15794591458459387080:=I
def tw7988991018847617256:=I
def tw3188041712156457224:=I
def tw908083519977270568:=I
def tw2831901894326416744:=I
def tw8071486471920004488:=I
def tw17472407619735794056:=I
def tw2668538562822463912:=I
def tw11969182164350301704:=I
def tw7643387702278748776:=I
def tw12965444129553957576:=I
def tw16246474554201320168:=I
def tw7506499136714486504:=I
def tw15839625170397007624:=I
def tw10364837148007475976:=I
def tw5356767167657436968:=I
def tw4280533053640868680:=I
def tw3826191352149856072:=I
def tw2353849884276215656:=I
def tw17826493804049039208:=I
def tw16399361481374252936:=I
def tw448930401324501001:=I
def tw3481188306749426729:=I
def tw631907650394983497:=I
def tw5307648133748089929:=I
def tw5233136769861961865:=I
def tw9425868220003975433:=I
def tw18051240649551498505:=I
def tw13355586116200533321:=I
def tw3935731605830188393:=I
def tw14503668069430877609:=I
def tw2368426985063018953:=I
def tw1588214173179636201:=I
def tw3317825299221769705:=I
def tw1360442567597828649:=I
def tw10742478860931971657:=I
def tw2494047293050993225:=I
def tw6698414936806021705:=I
def tw16507951115695283785:=I
def tw1075153491898984009:=I
def tw2038384111242684009:=I
def tw7929240734863313513:=I
def tw3746498085882647241:=I
def tw4461778058597037833:=I
def tw17069788001620004681:=I
def tw633099348827864905:=I
def tw11075102632647933801:=I
def tw4209784039658507113:=I
def tw1301112149595121513:=I
def tw4515299658870905737:=I
def tw8029706455990056873:=I
def tw12779301663354813417:=I
def tw10291337864942748682:=I
def tw6606891737173574666:=I
def tw14991270221089335306:=I
def tw14562779684641184810:=I
def tw14005036262192165930:=I
def tw4490580763731700842:=I
def tw5031361676630785130:=I
def tw16687760384023244938:=I
def tw6416788098135648458:=I
def tw6687142935095737578:=I
def tw3718693888368374154:=I
def tw8588064432028329418:=I
def tw11435353513333043658:=I
def tw7727835547893245418:=I
def tw18344883385762552362:=I
def tw5076599164405285450:=I
def tw12936189167065081418:=I
def tw10203244400872272458:=I
def tw6640624605397428842:=I
def tw4782422793994371754:=I
def tw8047961911787663018:=I
def tw2261121254340726538:=I
def tw5108171676845237002:=I
def tw13201274717929136938:=I
def tw10298641354507526986:=I
def tw143189093874775914:=I
def tw10927278818119052234:=I
def tw9632266863643882442:=I
def tw16768598374893737003:=I
def tw10328714683823962187:=I
def tw7878639359452047499:=I
def tw3885512718731399339:=I
def tw3596679544239433963:=I
def tw14919084786356987147:=I
def tw5900361833297500427:=I
def tw16618313460237501771:=I
def tw17392515412095238507:=I
def tw5945059599977444715:=I
def tw7915472758818515339:=I
def tw14610898073254836651:=I
def tw15744263157620141483:=I
def tw7041324285668958731:=I
def tw8800492728605996555:=I
def tw7547001467539849771:=I
def tw132474046082172523:=I
def tw14062733589253149291:=I
def tw2093630335548108427:=I
def tw9722014178791802539:=I
def tw14577930537005825739:=I
def tw13640866565844674347:=I
def tw10739822008340297547:=I
def tw6530440789494218571:=I
def tw12383016846499893067:=I
def tw8313478243238928299:=I
def tw15854889428833047499:=I
def tw16092583273135865803:=I
def tw9975055009225106411:=I
def tw8758170282713268236:=I
def tw7038938210680983564:=I
def tw2541429032147937292:=I
def tw17386605786365639724:=I
def tw5398246830064119884:=I
def tw17680787853069603916:=I
def tw1412520548574650444:=I
def tw3344827888505520236:=I
def tw7383747075978524812:=I
def tw10555688565868857516:=I
def tw15114201174558051500:=I
def tw3226692900910058860:=I
def tw7781673397281657292:=I
def tw16815564368587849228:=I
def tw2472862331734419052:=I
def tw16532336307853180556:=I
def tw8526673909337098956:=I
def tw10377479122314486476:=I
def tw18056839931704863436:=I
def tw18433845645522252524:=I
def tw7629315971277598508:=I
def tw15132497630875687756:=I
def tw16698395878459213708:=I
def tw16485143152212770700:=I
def tw13165513691525834668:=I
def tw12138541162924861356:=I
def tw4454684887633904588:=I
def tw15612389069433318380:=I
def tw15010713650556489741:=I
def tw8372078903974026253:=I
def tw2386029130918177869:=I
def tw11890276436375871597:=I
def tw14609016987171632397:=I
def tw192303589112842573:=I
def tw4237435049966038349:=I
def tw920627887663181133:=I
def tw14507249671157883245:=I
def tw1931116898262983085:=I
def tw6899479860180445613:=I
def tw14204298970334892557:=I
def tw6164554988218636877:=I
def tw5462539551178338989:=I
def tw12665651935520681645:=I
def tw6863306305556861645:=I
def tw18155986901345920781:=I
def tw1935643315061977869:=I
def tw1831273924217912109:=I
def tw7249529999868861261:=I
def tw12839145520597814125:=I
def tw16941016930200861710:=I
def tw8197238113970697262:=I
def tw17508780596755617838:=I
def tw4059653058252726350:=I
def tw8911780599412418702:=I
def tw14370041257703451822:=I
def tw15071620283366067438:=I
def tw17252813230962695406:=I
def tw15400373400103368974:=I
def tw6428726945193101646:=I
def tw13382793720618295694:=I
def tw3012813195301370254:=I
def tw7138802372744404366:=I
def tw3054902641333607854:=I
def tw10211685326447331790:=I
def tw10986574486204246478:=I
def tw14971203408758878734:=I
def tw6344023610974454286:=I
def tw6927643965429890702:=I
def tw5360385726370110126:=I
def tw265531663131847374:=I
def tw1844945404279836366:=I
def tw6121528874951341806:=I
def tw11666829766711890734:=I
def tw5843968950759319342:=I
def tw10609602165417684814:=I
def tw16743253611388323726:=I
def tw3521313354246241230:=I
def tw7533236945078175694:=I
def tw1718176283658719214:=I
def tw7411941415184583695:=I
def tw4899992740238383119:=I
def tw16557606803944827951:=I
def tw1519044623376951407:=I
def tw4477334569460715631:=I
def tw8086068021152865519:=I
def tw18331126546431509775:=I
def tw17678625861569834287:=I
def tw5616492328782111055:=I
def tw16984590530130027855:=I
def tw17447738922682048847:=I
def tw11761365077386799471:=I
def tw9369158802795636111:=I
def tw8091054494554443151:=I
def tw12233937850213357967:=I
def tw3219542789912287759:=I
def tw2348211109936263695:=I
def tw8818227211412350511:=I
def tw13554454367329276463:=I
def tw11811061537554554415:=I
def tw16714821102587407919:=I
def tw14342200850657184335:=I
def tw961959950073837135:=I
def tw13269402989494662735:=I
def tw15921952073524646511:=I
def tw8697324971308864143:=I
def tw211636345581947567:=I
def tw2478668131316463279:=I
def tw7492618279318125263:=I
def tw17863497283634688847:=I
def tw73526820488747983:=I
def tw6089976332337537040:=I
def tw10968000292889718800:=I
def tw679118073901401168:=I
def tw6149544773646373008:=I
def tw14961655919831633072:=I
def tw13984219662580741296:=I
def tw14056035974241690864:=I
def tw2812895777009063184:=I
def tw16041972455684597008:=I
def tw11675625020245748048:=I
def tw11501774043956179280:=I
def tw10758917039244642672:=I
def tw3146322562670332272:=I
def tw9669703305979112816:=I
def tw9758891790032790992:=I
def tw2763684511628569072:=I
def tw15747613539679754736:=I
def tw15628909345178140176:=I
def tw741125960521433840:=I
def tw5521562737575379696:=I
def tw9932468199760611056:=I
def tw2349564980045073168:=I
def tw17546967917037387600:=I
def tw5948617169086745520:=I
def tw11768702714537315280:=I
def tw18145556355049609168:=I
def tw16066188998959482961:=I
def tw9065261858071201969:=I
def tw4616662174087318801:=I
def tw11543845383327968529:=I
def tw11121403553750912305:=I
def tw7055773615715153233:=I
def tw4103783086855949681:=I
def tw8378235436347006353:=I
def tw15438666388170480049:=I
def tw12085176481971839409:=I
def tw11240807902022668753:=I
def tw13901268777618883089:=I
def tw11680027561214124593:=I
def tw6090138677886031441:=I
def tw12831411074093947537:=I
def tw7635378286486191761:=I
def tw8010748356849167025:=I
def tw12757634858831330001:=I
def tw8464740015784453873:=I
def tw17434403593487320849:=I
def tw16945697084780749585:=I
def tw3351667234317123377:=I
def tw12884627139285187377:=I
def tw8591683387929039697:=I
def tw10244072524879152017:=I
def tw210319453052983281:=I
def tw17160295857678684178:=I
def tw13045972455390234642:=I
def tw8209521277477463090:=I
def tw896449746027132978:=I
def tw10204090790312721458:=I
def tw10254021961815277650:=I
def tw16124397839206225074:=I
def tw12483939291099490482:=I
def tw8935493102416595154:=I
def tw13517796854786201810:=I
def tw2527905838113608914:=I
def tw5609478431057679730:=I
def tw3172241934573865554:=I
def tw5842577566765287090:=I
def tw1582469177897684722:=I
def tw878444336718769938:=I
def tw12883313318501286706:=I
def tw15400966775786232626:=I
def tw10629925943233832786:=I
def tw11244005175940620146:=I
def tw974818837678354386:=I
def tw8541756338353927122:=I
def tw5239318318203638770:=I
def tw8546904181098227795:=I
def tw760676720856741971:=I
def tw17535085276113267795:=I
def tw611856027185065075:=I
def tw15829663464448920755:=I
def tw6852105281922760915:=I
def tw6423053874589731027:=I
def tw1167075678744231155:=I
def tw571973082258935059:=I
def tw8697403963948591379:=I
def tw13192282759271988531:=I
def tw10873565568652378451:=I
def tw13226808638902753651:=I
def tw4756271351920517491:=I
def tw16364301231221064083:=I
def tw16281960221564324275:=I
def tw5467718358605350387:=I
def tw6898537351143234099:=I
def tw10642133741263235667:=I
def tw1334853005473323635:=I
def tw13016236398827542163:=I
def tw12435109596469809811:=I
def tw16465679264866337491:=I
def tw7708677709577584403:=I
def tw2917583037455890419:=I
def tw9220572041013209108:=I
def tw2494027135692481588:=I
def tw18296320018531853396:=I
def tw13470429203597699188:=I
def tw16260568694900988052:=I
def tw10693638051897391252:=I
def tw9335439347332747476:=I
def tw4272896827256872148:=I
def tw6397848423721732372:=I
def tw863666495276092692:=I
def tw16993975445266095380:=I
def tw10301678288815074740:=I
def tw5004300940710515188:=I
def tw18186983236159425076:=I
def tw13231530274191511188:=I
def tw12965643699745889940:=I
def tw2739428635805638292:=I
def tw444967681254353556:=I
def tw9771133104240883348:=I
def tw4429748533058453172:=I
def tw4347807355574051508:=I
def tw5646684108636386996:=I
def tw1421941341279947476:=I
def tw15588754684154330868:=I
def tw13612413604967955252:=I
def tw11095394455771098964:=I
def tw8426258870091659092:=I
def tw5949081012380562324:=I
def tw2900250642390234036:=I
def tw15543953017395878900:=I
def tw6897471851415556084:=I
def tw14311312282558727189:=I
def tw8964757330145497109:=I
def tw9030240764923630613:=I
def tw1175945372680414229:=I
def tw2242113270945286197:=I
def tw15179382095760958645:=I
def tw2732177286466615477:=I
def tw11294169307122356437:=I
def tw4742867910846377173:=I
def tw6225638247885790453:=I
def tw9665236273324782837:=I
def tw3250918613684917525:=I
def tw17469685712809828693:=I
def tw14696692632968356213:=I
def tw18128554169732459893:=I
def tw12917365288209568149:=I
def tw13439139653176881557:=I
def tw17756757420594998741:=I
def tw6208975254890118645:=I
def tw6938268362806572565:=I
def tw12122810960206071349:=I
def tw12880486393965304373:=I
def tw9150396898974833237:=I
def tw12237199859459694165:=I
def tw13257347453493548725:=I
def tw17631489023927527093:=I
def tw2402634140274993845:=I
def tw8211591467480139445:=I
def tw250741415666779893:=I
def tw5543645461923244821:=I
def tw7265717283130850101:=I
def tw11075484883619136341:=I
def tw9081439536722773877:=I
def tw14363269188294924149:=I
def tw8810960522359378837:=I
def tw4263801257568348053:=I
def tw6191751486177617813:=I
def tw4382826457354162165:=I
def tw3391376585787765814:=I
def tw12094530512241604758:=I
def tw13187036722721330358:=I
def tw2113380425978912950:=I
def tw4182812956031320374:=I
def tw10557210138614823222:=I
def tw16445532675450611030:=I
def tw16262215188768039286:=I
def tw7736766831185327478:=I
def tw1999838872023456150:=I
def tw11714679620696936950:=I
def tw7787237724572115446:=I
def tw10836190991384799734:=I
def tw15650790488278938166:=I
def tw11965685292363808310:=I
def tw12730650367472863830:=I
def tw3954610646623017622:=I
def tw15532698991891221174:=I
def tw8216076412091734710:=I
def tw576887025911219894:=I
def tw4953527605584275222:=I
def tw3483285669991395094:=I
def tw17122390993614191446:=I
def tw5432179947937305462:=I
def tw10430286362121323382:=I
def tw12997358860382206870:=I
def tw4221028943369707478:=I
def tw2140075534826810358:=I
def tw17916926856252085238:=I
def tw2281640784265540631:=I
def tw14510250484874450999:=I
def tw14322599505197681719:=I
def tw3236678279565444183:=I
def tw16669206531219730519:=I
def tw6665432295566842999:=I
def tw18364853145926637719:=I
def tw2086682846324166839:=I
def tw10722254331195893975:=I
def tw15140639478000982263:=I
def tw687137011885425911:=I
def tw4254478016622151927:=I
def tw4248022338132718871:=I
def tw1107370098074118423:=I
def tw3717459400481787383:=I
def tw16109459272972831255:=I
def tw3579967173258418775:=I
def tw2364810136981122647:=I
def tw3278219939825676887:=I
def tw14286431605115060855:=I
def tw4886266290333183703:=I
def tw9011270759965358839:=I
def tw6843428027229024023:=I
def tw18302900387495506711:=I
def tw4917659027196650295:=I
def tw15919444180433703767:=I
def tw10653358505784918871:=I
def tw9237784138490810231:=I
def tw16793245492181227447:=I
def tw4511658066135492567:=I
def tw73251689821585432:=I
def tw878023186790495288:=I
def tw8446163850043208760:=I
def tw627833131370719352:=I
def tw6462195784135731320:=I
def tw4607982476894214296:=I
def tw5442358689099007192:=I
def tw6318470790536440056:=I
def tw13114438166079910136:=I
def tw3573737770015960376:=I
def tw3024555247834187064:=I
def tw8294066068737322296:=I
def tw6650796874453287256:=I
def tw3925096493827899736:=I
def tw1005146332689852760:=I
def tw18322003909449253272:=I
def tw18355254679761487288:=I
def tw14990708399747688952:=I
def tw14493422338192646680:=I
def tw13538080554230983192:=I
def tw11358601170940034680:=I
def tw17072675554025057944:=I
def tw8898837033328190168:=I
def tw5928218348449419992:=I
def tw7024333396043328248:=I
def tw16430243877754538840:=I
def tw17575841740841852792:=I
def tw2511574450533965688:=I
def tw12364740189065154552:=I
def tw18085195724424470520:=I
def tw16771545448429798425:=I
def tw3360698079497344057:=I
def tw18247368404700294201:=I
def tw17027735428003428441:=I
def tw8876653625827303545:=I
def tw1600319657195626649:=I
def tw10763978711448745145:=I
def tw8935329673898328313:=I
def tw14887565500606713:=I
def tw5453238996910100761:=I
def tw12875139399237905753:=I
def tw3005935363362855289:=I
def tw5826712498052928921:=I
def tw3887893847537229209:=I
def tw1370560469532715449:=I
def tw9807282035451491769:=I
def tw18329448670141139417:=I
def tw1710396985710700025:=I
def tw9362041320080757305:=I
def tw2765879312305364569:=I
def tw2421521342987297401:=I
def tw913634797783081625:=I
def tw18070551847655862969:=I
def tw7204498345917918009:=I
def tw3599928928203453241:=I
def tw11805739089443121017:=I
def tw18023774992484899737:=I
def tw9319644741166800793:=I
def tw8149750045146449849:=I
def tw6570907632043710554:=I
def tw4774003892213960826:=I
def tw17980355436370662586:=I
def tw7960515033543287002:=I
def tw2810499276380293338:=I
def tw5880361104110803226:=I
def tw1569193500328715578:=I
def tw17953826693321520442:=I
def tw12537524395500637530:=I
def tw16639918495815938426:=I
def tw12685179623607589274:=I
def tw399394015814347162:=I
def tw17842989942387062234:=I
def tw18427731746530542074:=I
def tw9716565516059904666:=I
def tw15797098964588095130:=I
def tw16750855560458051258:=I
def tw13849952932378349274:=I
def tw13095883453463411482:=I
def tw17899357930473073466:=I
def tw8017515672588358522:=I
def tw3047076386804373370:=I
def tw16718425316896534555:=I
def tw11643932870130538683:=I
def tw13994903437399425243:=I
def tw16466904620290966747:=I
def tw8753831233326041435:=I
def tw13466314298251502939:=I
def tw9007152711546475963:=I
def tw11805277341159721467:=I
def tw751968064440130043:=I
def tw4240987359947390523:=I
def tw9796128801507564155:=I
def tw4117839212867502747:=I
def tw13749323870043484859:=I
def tw721589119527768763:=I
def tw858232198105290491:=I
def tw6543798921427830555:=I
def tw6743500065401301915:=I
def tw13424945610862134203:=I
def tw3431416432575530939:=I
def tw18283702765440596955:=I
def tw13275824709227530268:=I
def tw9347548024708068444:=I
def tw13520018814301298876:=I
def tw4077504148570385660:=I
def tw13756306806762761468:=I
def tw13225666895992047932:=I
def tw3760075344011399548:=I
def tw13717718811652107644:=I
def tw14768476752950419836:=I
def tw4725848290519477660:=I
def tw7358384248502015452:=I
def tw18261233980515926524:=I
def tw17746328489476828700:=I
def tw11391939908642128412:=I
def tw7405527517901023804:=I
def tw4647174066869549692:=I
def tw17732708297172113020:=I
def tw16908632151394222780:=I
def tw16683202944382852892:=I
def tw10233322204053839676:=I
def tw7370044631890271132:=I
def tw2906463157611067388:=I
def tw4065149168992269373:=I
def tw8983467740443617373:=I
def tw10127370395806121053:=I
def tw12807134152886546557:=I
def tw10653984978076456157:=I
def tw16495593376850967773:=I
def tw15859774151087186205:=I
def tw6787846413848247613:=I
def tw12968594687317756253:=I
def tw7934095867858603421:=I
def tw16156788474591430237:=I
def tw4387884764044130909:=I
def tw14840590876251689597:=I
def tw12667832419493120733:=I
def tw18047668236473547485:=I
def tw3057236784922258141:=I
def tw13210897038472378109:=I
def tw17244936004992203517:=I
def tw3552330722553364253:=I
def tw9135615829969176413:=I
def tw12420814254685115325:=I
def tw16161031698487415773:=I
def tw3600237229977225181:=I
def tw10211900726353233917:=I
def tw50818264143181821:=I
def tw12708411235275937886:=I
def tw4581025512702366814:=I
def tw13175455065331506430:=I
def tw7162486696898076926:=I
def tw986339059684886782:=I
def tw9037186826072750334:=I
def tw15196949870671283486:=I
def tw13184154891110587742:=I
def tw7867469123465225598:=I
def tw3436898537631513022:=I
def tw7082768211651874270:=I
def tw9236850552518228510:=I
def tw18154708126343068190:=I
def tw2790333845561539134:=I
def tw1256087313594396286:=I
def tw4854897946147929726:=I
def tw12376656277748095646:=I
def tw13512197251906994942:=I
def tw11331585432539145982:=I
def tw3034608349322223390:=I
def tw10731801461649390366:=I
def tw16662549755332102974:=I
def tw12840533067875153726:=I
def tw1395690869634299710:=I
def tw17370280685388949342:=I
def tw11614389731420308382:=I
def tw16708685316945287102:=I
def tw8729198523571234750:=I
def tw4876890516153789406:=I
def tw14053558527307462654:=I
def tw6370502213782747134:=I
def tw16559398665841379519:=I
def tw6421479441383960767:=I
def tw6511513509609433471:=I
def tw9592431838762328543:=I
def tw359678805527162335:=I
def tw7650006083731065471:=I
def tw3894015273018797791:=I
def tw1816418929283355359:=I
def tw7263965813890828031:=I
def tw8985377549270596383:=I
def tw2569902742695010079:=I
def tw14872380299705019167:=I
def tw213896495115742079:=I
def tw11875939090536344447:=I
def tw979138320598477791:=I
def tw7491666334002989023:=I
def tw17120035600231723007:=I
def tw16884383443958824959:=I
end PySem.W.Fast
open PySem PySem.W PyProof.Rows
set_option maxRecDepth 100000 in
set_option maxHeartbeats 0 in
theorem PySem.Challenge.cw_stripmeld_k19_ring_at_every_door_holds : PySem.Challenge.rw_stripmeld_k19_ring_at_every_door.Holds := by
 w_on;o_law;k_head;(case hw=>w_witness2)
 k_fill
 refine L2.RY (l:=PySem.Challenge.rw_stripmeld_k19_ring_at_every_door) (n:=63) (k:=11) (x:="_law_script") (CX:=L2.CX0) (sp:=Pu.CY) rfl (by decide) rfl ⟨rfl,by decide,by decide,rfl⟩ (fun w h Y=>PySem.W.kIn_of Y) ?F ?S ?C
 case F=>
  intro w mg fa h KX G hmg
  refine' T.Zie KX G hmg ?JT ?Uh ?Ui ?Uj ?Uk ?Ul ?Um ?Uo ?Up ?Uq ?a1 ?a2 ?a3 ?a4 ?a5 ?a6 ?a7 ?a8 ?a9 ?a10 ?a11 ?a12 ?a13 ?a14 ?a15 ?a16 ?a17 ?a18 ?a19 ?a20 ?a21 ?a22 ?a23 ?a24 ?a25 ?a26 ?a27 ?a28 ?a29 ?a30 ?a31 ?a32 ?a33 ?a34 ?a35 ?a36 ?a37 ?a38 ?a39 ?a40 ?a41 ?a42 ?a43 ?a44 ?a45 ?a46 ?a47 ?a48 ?a49 ?a50 ?a51 ?a52 ?a53 ?a54 ?a55 ?a56 ?a57 ?a58 ?a59 ?a60 ?a61 ?a62 ?a63 ?a64 ?a65 ?a66 ?a67 ?a68 ?a69 ?a70 ?a71 ?a72 ?l72 ?c72 ?k72 ?Ur ?Us ?Ut ?Uu ?Uv ?Uw ?Ux ?Uy ?U0 ?U1 ?U2 ?U3 ?U4 ?U5 ?U6 ?U7 ?U8 ?U9 ?UA ?UB ?UC ?JR ?JU ?JV ?JW ?JX ?JY ?JZ ?Ua ?Ub ?Uc ?Ud ?Ue ?JQ ?x_Ringed ?k_Ringed_MeldError ?k_Ringed_ValueError
  (case JT|Uh|Ui|Uj|Uk|Ul|Um|Uo|Up|Uq=>k_is)
  (case a1|a2|a3|a4|a5|a6|a7|a8|a9|a10|a11|a12|a13|a14|a15|a16|a17|a18|a19|a20|a21|a22|a23|a24|a25|a26|a27|a28|a29|a30|a31|a32|a33|a34|a35|a36|a37|a38|a39|a40|a41=>apply Pu.di<;>k_is)
  (case a42|a43|a44|a45|a46|a47|a48|a49|a50|a51|a52|a53|a54=>apply Pu.mi<;>k_is)
  (case a55|a56|a57|a58|a59|a60|a61|a62|a63|a64|a65|a66|a67|a68|a69|a70|a71=>apply Pu.di<;>k_is)
  (case a72|l72|c72|k72|Ur|Us|Ut|Uu|Uv|Uw|Ux|Uy|U0|U1|U2|U3|U4|U5|U6|U7|U8|U9|UA|UB|UC=>k_is)
  (case JR|JU|JV|JW|JX|JY|JZ|Ua|Ub|Uc|Ud|Ue=>apply Pu.ei<;>first|(k_is;done)|k_exc)
  (case JQ=>apply Pu.ri<;>first|(k_is;done)|k_exc|rfl)
  (case x_Ringed=>kts_exm)
  (case k_Ringed_MeldError|k_Ringed_ValueError=>kit_is)
 case S=>exact fun K H a ns hl hO hS=>⟨a,ns,rfl,hS,fun _=>rfl⟩
 case C=>exact fun _ _ _ _ z=>z
