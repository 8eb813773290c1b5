import PyProof.Rows.All
import Wide.All
import OpenK.AllK
import Wide.FinOn
import Lean
import PyProof.EqAt
import PyProof.EqKinds
import PyProof.TupleCall
import PySem.Challenge.RW_stripmeld_k32_lists_are_its_own
set_option Elab.async false
set_option linter.all false
set_option compiler.extract_closed false
set_option genSizeOf false
set_option maxRecDepth 100000
def bu_0(h:True:=by rfl):True:=h
def au_0:Lean.Syntax:=bu_0._auto_1
def bu_1(h:True:=by decide):True:=h
def au_1:Lean.Syntax:=bu_1._auto_1
def bu_2(h:True:=by first | exact .inl rfl | exact .inr rfl | assumption):True:=h
def au_2:Lean.Syntax:=bu_2._auto_1
def bu_3(h:True:=by intro _; rfl):True:=h
def au_3:Lean.Syntax:=bu_3._auto_1
def bu_4(h:True:=by first | exact Or.inl rfl | exact Or.inr (Or.inl rfl) | exact Or.inr (Or.inr rfl)):True:=h
def au_4:Lean.Syntax:=bu_4._auto_1
def bu_5(h:True:=by decide +kernel):True:=h
def au_5:Lean.Syntax:=bu_5._auto_1
def bu_6(h:True:=by first | exact Or.inl rfl | exact Or.inr rfl):True:=h
def au_6:Lean.Syntax:=bu_6._auto_1
def bu_7(h:True:=by intro _ _; rfl):True:=h
def au_7:Lean.Syntax:=bu_7._auto_1
def bu_8(h:True:=by kernel_rfl):True:=h
def au_8:Lean.Syntax:=bu_8._auto_1
def bu_9(h:True:=by intro _; first | exact Or.inl rfl | exact Or.inr (Or.inl rfl) | exact Or.inr (Or.inr rfl)):True:=h
def au_9:Lean.Syntax:=bu_9._auto_1
def bu_10(h:True:=by intro _; exact ⟨rfl, rfl, rfl⟩):True:=h
def au_10:Lean.Syntax:=bu_10._auto_1
def bu_11(h:True:=by with_unfolding_all rfl):True:=h
def au_11:Lean.Syntax:=bu_11._auto_1
def bu_12(h:True:=by intro _; first | exact Or.inl rfl | exact Or.inr rfl):True:=h
def au_12:Lean.Syntax:=bu_12._auto_1
def bu_13(h:True:=by intro _; first | exact .inl rfl | exact .inr rfl | assumption):True:=h
def au_13:Lean.Syntax:=bu_13._auto_1
def bu_14(h:True:=by intro _; kernel_rfl):True:=h
def au_14:Lean.Syntax:=bu_14._auto_1
def bu_15(h:True:=by lia):True:=h
def au_15:Lean.Syntax:=bu_15._auto_1
noncomputable section
def WI:=@List.length_map
def WJ:=@List.getElem?_eq_getElem
def WK:=@PySem.wpAny_bind
def WL:=@decide_eq_true
def WM:=@of_decide_eq_true
def WN:=@List.mem_singleton
def WO:=@if_neg
def WQ:=@if_pos
def WR:=@PySem.wpAny_pure
def WS:=@PySem.Heap.get?_push_of_some
def WT:=@Nat.le_refl
def WU:=@List.getD_eq_getElem?_getD
def WV:=@Nat.le_trans
def WW:=@List.length_append
def WX:=@List.mem_cons
def WY:=@List.getElem?_map
def WZ:=@PySem.Heap.lt_size
def Qa:=@PySem.Heap.get?_push_size
def Qb:=@List.map_append
def Qc:=@Option.some.inj
def Qd:=@List.getElem_mem
def Qe:=@List.mem_of_getElem?
def Qf:=@List.length_cons
def Qg:=@PySem.PassesOwn.never
def Qh:=@List.map_cons
def Qi:=@List.mem_append
def Qj:=@List.mem_map
def Qk:=@Bool.false_ne_true
def Ql:=@PySem.F.plainAttrs_list
def Qm:=@Nat.ne_of_lt
def Qn:=@List.mem_filter
def Qo:=@List.mem_cons_of_mem
def Qp:=@List.take_succ_eq_append_getElem
def Qq:=@List.getElem?_eq_some_iff
def Qr:=@Bool.and_eq_true
def Qs:=@List.getElem?_append_left
def Qt:=@Classical.byContradiction
def Qu:=@Nat.add_le_add
def Qv:=@List.nodup_cons
def Qw:=@List.length_filter_le
def Qx:=@List.getElem?_append_right
def Qy:=@List.map_map
def Qz:=@List.size_toArray
def Q0:=@List.mem_append_right
def Q1:=@Nat.lt_of_lt_of_le
def Q2:=@PySem.W.mg_none_of
def Q3:=@decide_eq_false
def Q4:=@congrArg
def Q5:=@List.length_take
def Q6:=@Int.toNat_natCast
def Q7:=@List.mem_cons_self
def Q8:=@List.append_nil
def Q9:=@List.mem_iff_getElem
def QA:=@PySem.Heap.get?_update_self
def QB:=@List.eq_nil_or_concat
def QC:=@PySem.wpAny_newObj_type
def QD:=@Nat.zero_le
def QE:=@PySem.Heap.get?_update_other
def QF:=@Array.length_toList
def QG:=@List.nodup_append
def QH:=@List.getElem?_cons_succ
def QI:=@PySem.wpAny_mono
def QJ:=@List.length_set
def QK:=@PySem.Obj.data_mapFields
def QL:=@List.take_length
def QM:=@List.drop_eq_getElem_cons
def QN:=@PySem.Heap.SameBut.update
def QO:=@PySem.W.mg_of
def QP:=@List.length_singleton
def QR:=@List.concat_eq_append
def QS:=@PySem.W.kia_one
def QT:=@List.mem_append_left
def QU:=@Int.le_refl
def QV:=@List.filterMap_cons
def QW:=@Array.getElem?_eq_getElem
def QX:=@Array.getElem?_toList
def QY:=@Nat.lt_irrefl
def QZ:=@Classical.not_not
def Va:=@PyProof.Rows.boot_isinstance
def Vb:=@List.lookup_cons
def Vc:=@PySem.wpAny_call_entry
def Vd:=@List.pairwise_cons
def Ve:=@PySem.wpAny_setField
def Vf:=@PySem.Obj.isFreed_of_fields
def Vg:=@List.getElem?_eq_none
def Vh:=@List.pairwise_iff_getElem
def Vi:=@Nat.le_of_eq
def Vj:=@List.getElem?_take_of_lt
def Vk:=@List.mem_of_mem_take
def Vl:=@PySem.F.slot_dict_valueiterator_next
def Vm:=@List.dropLast_concat
def Vn:=@PySem.F.slot_list_append
def Vo:=@PySem.F.type_list_append
def Vp:=@Bool.eq_false_iff
def Vq:=@decide_eq_true_eq
def Vr:=@PySem.wpAny_holding
def Vs:=@PySem.wpAny_typeNameOfWhole_valiter
def Vt:=@List.length_eq_zero_iff
def Vu:=@PySem.F.slot_list_index
def Vv:=@PySem.mem_of_lookup
def Vw:=@List.map_congr_left
def Vx:=@List.nodup_nil
def Vy:=@List.not_mem_nil
def Vz:=@PyProof.Rows.callWith_type1
def V0:=@Nat.lt_trans
def V1:=@Nat.add_sub_cancel
def V2:=@PySem.wpAny_passesOwn
def V3:=@PySem.wpAny_truthy_bool
def V4:=@PySem.wpAny_setState_of
def V5:=@PySem.Heap.size_push
def V6:=@Nat.lt_succ_self
def V7:=@List.all_eq_true
def V8:=@PySem.wpAny_typeNameOf_valiter
def V9:=@beq_eq_false_iff_ne
def VA:=@List.length_pos_iff
def VB:=@List.mem_map_of_mem
def VC:=@List.getElem?_replicate
def VD:=@PySem.F.type_list_index
def VE:=@List.find?_cons
def VF:=@PySem.codeAny_builtin
def VG:=@Nat.le_succ
def VH:=@List.filterMap_eq_map'
def VI:=@PySem.codeAny_mono
def VJ:=@List.filterMap_append
def VL:=@PySem.F.slot_list_pop
def VM:=@PySem.F.type_list_pop
def VN:=@List.cons_append
def VO:=@PySem.Around.under_plainId
def VP:=@List.getLast?_concat
def VQ:=@List.any_cons
def VR:=@Array.getElem?_eq_some_iff
def VS:=@List.length_reverse
def VT:=@Nat.le_of_lt
def VU:=@PySem.wpAny_Call_Name_kw
def VW:=@PySem.F.args_tuple_add_2
def VX:=@PySem.tupleKind_room_in1
def VY:=@PyProof.Rows.F.entry_set_update_loop
def VZ:=@PyProof.Rows.F.plain_set_update_loop
def Ja:=@Bool.false_eq_true
def Jb:=@List.idxOf_lt_length_iff
def Jc:=@Int.add_zero
def Jd:=@Bool.false_and
def Je:=@PySem.F.entry_tuple_add
def Jf:=@PySem.wpAny_callSpecial?_slot
def Jg:=@List.take_sublist
def Jh:=@List.reverse_cons
def Ji:=@PySem.fits_of_scanBound
def Jj:=@Nat.lt_succ_of_lt
def Jk:=@PySem.Obj.cls_mapFields
def Jl:=@PySem.wpAny_pyIter_slot
def Jm:=@List.append_assoc
def Jn:=@List.ext_getElem?
def Jo:=@List.length_range
def Jp:=@List.flatMap_cons
def Jq:=@List.getElem_take
def Jr:=@PySem.F.slot_tuple_add
def Js:=@Array.getElem?_eq_none
def Jt:=@List.all_cons
def Ju:=@Bool.true_and
def Jv:=@if_false
def Jw:=@List.ext_getElem
def Jx:=@PySem.W.methodCall_KW
def Jy:=@PySem.wpAny_isOneOf_valiter
def Jz:=@List.getElem?_reverse
def J0:=@PySem.Heap.get?_none_of_le
def J1:=@PySem.wpAny_execs_nil
def J2:=@Nat.ne_of_gt
def J3:=@Bool.eq_iff_iff
def J4:=@PySem.call_meets
def J5:=@Option.map_some
def J6:=@List.pairwise_append
def J7:=@List.cons.injEq
def J8:=@Nat.sub_self
def J9:=@Nat.mul_le_mul_right
def JA:=@Nat.pow_le_pow_right
def JB:=@Int.ne_of_lt
def JC:=@PySem.W.plainGet_of
def JD:=@List.filter_sublist
def JE:=@List.getElem_of_mem
def JF:=@List.mem_range
def JG:=@Int.mul_le_mul
def JH:=@PySem.wpAny_field
def JI:=@Nat.add_mul
def JJ:=@List.mem_filterMap
def JK:=@PySem.W.callWith_K
def JL:=@Nat.lt_of_le_of_lt
def JM:=@List.getElem_idxOf
def JN:=@List.map_singleton
def JO:=@Int.emod_lt_of_pos
def JP:=@Option.isSome_map
def JQ:=@List.getElem?_set
def JR:=@Nat.not_lt
def JS:=@List.drop_length
abbrev ZX:=List (Int×Int)
abbrev ZY:=List Int
abbrev ZZ:=List (PySem.Addr×PySem.Obj)
abbrev Ya:=PySem.Str->Option PySem.Value
abbrev Yb:=PySem.Value->PySem.Shared->Prop
abbrev Yc:=List (Option Nat)
abbrev Yd:=List Nat
abbrev Ye:=List PySem.Value
abbrev Yf:=List PySem.Str
abbrev Yg:=List PySem.Expr
abbrev Yh:=List PySem.Stmt
abbrev Yi:=Option PySem.Value
abbrev Yj:=Option PySem.Addr
abbrev Yk:=Array (Int×PySem.Value)
abbrev ZW:=PySem.W.Frag
namespace L2
open PySem PySem.Spec PyProof.Rows
abbrev Key:=Sum Int Str
noncomputable def Sq:Key->Value->Bool
 | .inl k,v=>Value.isInt k v
 | .inr x,v=>Value.isStrOf x v
noncomputable def Zea(w:World):Key->Int
 | .inl k=>hashInt k
 | .inr x=>hashStr w x
def T5:∀{k}{v:Value},Sq k v=true->(∃i t,k=Sum.inl i/\v=Value.int i t)\/(∃x t,k=Sum.inr x/\v=Value.str x t)
 | .inl i,v,h=>by
  obtain⟨t,e⟩:=Value.isInt_shape h
  grind
 | .inr x,v,h=>by
  obtain⟨t,e⟩:=Value.isStrOf_shape h
  grind
def Znr(i:Int)(t:Tok):Sq (.inl i) (.int i t)=true:=by simp[Sq,Value.isInt]
def Zj9(x:Str)(t:Tok):Sq (.inr x) (.str x t)=true:=by simp[Sq,Value.isStrOf]
def Zpt(a b:Int):decide ((Sum.inl a:Key)=Sum.inl b)=(a==b):=by grind
def Zf1(a b:Str):decide ((Sum.inr a:Key)=Sum.inr b)=decide (a=b):=by simp
def Zn0(a:Int)(b:Str):decide ((Sum.inl a:Key)=Sum.inr b)=false:=Q3 (λq=>nomatch q)
def Zc7(a:Str)(b:Int):decide ((Sum.inr a:Key)=Sum.inl b)=false:=Q3 (λq=>nomatch q)
noncomputable def Pz(prog:Program)(w:World):PySem.KeyKind prog w Key where
 is:=Sq
 hash:=Zea w
 inj:=λv a b ha hb=>by
  rcases T5 ha with⟨i,t,rfl,rfl⟩|⟨x,t,rfl,rfl⟩
  ·rcases T5 hb with⟨j,u,rfl,e⟩|⟨y,u,rfl,e⟩
   ·injection e with e1 _;rw[e1]
   ·exact nomatch e
  ·rcases T5 hb with⟨j,u,rfl,e⟩|⟨y,u,rfl,e⟩
   ·exact nomatch e
   ·injection e with e1 _;rw[e1]
 byValue:=λk v h=>by
  rcases T5 h with⟨i,t,rfl,rfl⟩|⟨x,t,rfl,rfl⟩<;>rfl
 pyHash:=λhv h=>by
  rcases T5 hv with⟨i,t,rfl,rfl⟩|⟨x,t,rfl,rfl⟩
  ·exact wpAny_pyHash_int h
  ·exact wpAny_pyHash_str h
 eqBool:=λhu hv h=>by
  rcases T5 hu with⟨i,t,rfl,rfl⟩|⟨x,t,rfl,rfl⟩
  ·rcases T5 hv with⟨j,u,rfl,rfl⟩|⟨y,u,rfl,rfl⟩
   ·rw[Zpt]at h;exact wpAny_eqBool_int h
   ·rw[Zn0]at h;exact SeqAt.EqAt.int_str i t y u _ _ _ _ h
  ·rcases T5 hv with⟨j,u,rfl,rfl⟩|⟨y,u,rfl,rfl⟩
   ·rw[Zc7]at h;exact SeqAt.EqAt.str_int x t j u _ _ _ _ h
   ·rw[Zf1]at h;exact wpAny_eqBool_str h
 «strs»:=λk x t v h=>by
  rcases T5 h with⟨i,u,rfl,e⟩|⟨y,u,rfl,e⟩
  ·exact nomatch e
  ·injection e with e1 _;subst e1;cases v<;>rfl
def Ziw(prog:Program)(w:World)(i:Int)(t:Tok):(Pz prog w).is (.inl i) (.int i t)=true:=Znr i t
def Zic(prog:Program)(w:World)(x:Str)(t:Tok):(Pz prog w).is (.inr x) (.str x t)=true:=Zj9 x t
inductive V where
 |non|bl (b:Bool)|int (i:Int)|str (x:Str)|byt (b:Array UInt8)|flt (b:UInt64)|ref (a:Addr)|ty (n:String)
 deriving DecidableEq
def RelV:V->Value->Prop
 | .non,u=>u=Value.none
 | .bl b,u=>u=Value.bool b
 | .int i,u=>∃t,u=Value.int i t
 | .str x,u=>∃t,u=Value.str x t
 | .byt b,u=>∃t,u=Value.bytes b t
 | .flt b,u=>∃t,u=Value.float b t
 | .ref a,u=>u=Value.ref a
 | .ty n,u=>u=Value.type n
abbrev Vals:List V->Ye->Prop:=Paired RelV
def Vals.length (r:Vals xs us):xs.length=us.length:=Paired.length r
def Vals.get:∀{xs us}{i:Nat}{x:V},Vals xs us->xs[i]?=some x->∃u,us[i]?=some u/\RelV x u:=by
 intro n
 induction n with
 |nil=>
  intro _ i _ h e;simp at e
 |cons _ _ f=>
  intro _ i d h e;cases h with
  |cons h r=>
   cases i with
   |zero=>
    simp at e;subst e;exact⟨_,rfl,h⟩
   |succ i=>
    obtain⟨v,l,g⟩:=f r (by simpa using e);exact⟨v,by simpa using l,g⟩
theorem Vals.set (r:RelV x u):∀{xs us} i,Vals xs us->Vals (xs.set i x) (us.set i u)
 |_,_,_,.nil=>.nil
 |_,_,0,.cons _ t=>.cons r t
 |_,_,i+1,.cons q t=>.cons q (Vals.set r i t)
def Vals.append:∀{xs ys}{us f:Ye},Vals xs us->Vals ys f->Vals (xs++ys) (us++f):=by
 intro l
 induction l with
 |nil=>
  intro _ _ _ h s;cases h
  exact s
 |cons _ _ g=>
  intro _ _ _ h s;cases h with
  |cons h r=>
   exact .cons h (g r s)
theorem Vals.take:∀{xs us} n,Vals xs us->Vals (xs.take n) (us.take n)
 |_,_,0,_|_,_,_+1,.nil=>.nil
 |_,_,n+1,.cons r t=>.cons r (Vals.take n t)
theorem Vals.drop:∀{xs us} n,Vals xs us->Vals (xs.drop n) (us.drop n)
 |_,_,0,r=>r
 |_,_,_+1,.nil=>.nil
 |_,_,n+1,.cons _ t=>Vals.drop n t
def RelO:Option V->Yi->Prop
 |some v,some u=>RelV v u
 |none,none=>True
 |_,_=>False
def KV{f:Type}:List (f×V)->List (f×Value)->Prop:=Paired λ(p:f×V) (q:f×Value)=>p.1=q.1/\RelV p.2 q.2
noncomputable def kV:Key->V
 | .inl i=>.int i
 | .inr x=>.str x
inductive HO where
 |lst (xs:List V)
 |tup (xs:List V)
 |dK (kvs:List (Key×V))|dT (kvs:List (List Key×V))
 |set (S:Int->Bool) (n:Nat)
 |ins (C dx:Addr) (fs:List (Str×V))
 |own (x:Addr)
 |xd (fs:List (Str×V))
 |met (f x:Addr)
 |rng (lo hi:Int)
 |frz (o:Obj) (u:HO)
 |tbl (ps:Array Value)
 |ext (φ:Heap->Prop)
abbrev Hp:=Addr->Option HO
noncomputable def upd(H:Hp)(a:Addr)(o:HO):Hp:=λb=>if b=a then some o else H b
def X9:upd H a o a=some o:=by unfold upd;rw[WQ rfl]
def Xx{a b o}(h:b≠a):upd H a o b=H b:=by unfold upd;rw[WO h]
def Zcj:upd (upd H a o) a u=upd H a u:=by
 funext b;unfold upd;split<;>rfl
def M6{H:Hp}{a b}{o u}(h:H a=some o)(f:H b=some u)(d:o≠u):a≠b:=by grind
def Kz{H:Hp}{a b}{o}(h:H a=some o)(f:H b=none):a≠b:=by grind
section
variable (P:Program) (w:World)
def ObjOk(H:Hp)(h:Heap)(a:Addr):HO->Prop
 | .lst xs=>xs.length<=sizeLine/\∃(l:Ye) (n:Nat),Vals xs l/\h.get? a=some {cls:=.type "list",data:=.seq l.toArray n}
 | .tup xs=>xs.length<=sizeLine/\∃l:Ye,Vals xs l/\IsTup h a l.toArray
 | .dK g=>g.length<=sizeLine/\(a==sysModules)=false/\∃z,KV g z/\h.DictOf (Pz P w) a z
 | .dT g=>g.length<=sizeLine/\(a==sysModules)=false/\∃xs:List (List Key×Addr×Value),
   Paired (λ(p:List Key×V) (q:List Key×Addr×Value)=>p.1=q.1/\H q.2.1=some (.tup<|p.1.map kV)/\RelV p.2 q.2.2) g xs/\
   ∃o E L,h.get? a=some o/\o.ExactDict/\o.data=.dict E L/\E.toList=xs.map (entryOfKey<|tupleKind<|Pz P w)/\(xs.map (·.1)).Nodup
 | .set S n=>h.SetOf (intKind P w) a S n
 | .ins C s fs=>H s=some (.own a)/\fs.length<=1000/\s≠a/\h.get? a=some (PySem.W.instObj C s)/\
   ∃r,h.Ns1 s r/\(∀f,RelO (fs.lookup f) (r f))/\PySem.Within r (fs.map (·.1))
 | .own _=>∃o,h.get? a=some o
 | .xd fs=>∃r,h.Ns1 a r/\∀f,RelO (fs.lookup f) (r f)
 | .rng lo J=>∃t u v,h.get? a=some {cls:=.type "range",data:=.fields #[.int lo t,.int J u,.int 1 v]}
 | .frz o u=>h.get? a=some o/\ObjOk H h a u
 | .tbl G=>h.get? a=some {cls:=.none,data:=.fields G}
 | .met f x=>h.get? a=some (PySem.W.methodObj (.ref f)<|.ref x)
 | .ext y=>y h/\(∃o,h.get? a=some o)/\∀B A:Heap,y B->(∀o,B.get? a=some o->A.get? a=some o)->y A
def HOk(H:Hp)(h:Heap):Prop:=∀a o,H a=some o->ObjOk P w H h a o
end
section
variable {P:Program}{w:World}{H H':Hp}{h h':Heap}{a:Addr}{o:HO}
def ObjOk.lt (x:ObjOk P w H h a o):a<h.objs.size:=by
 cases o with
 |lst xs=>obtain⟨_,_,_,_,e⟩:=x;exact WZ e
 |tup xs=>obtain⟨_,_,_,p⟩:=x;exact p.lt
 |set S n=>obtain⟨o,_,_,_,e,_⟩:=x;exact WZ e
 |ins C v fs=>obtain⟨_,_,_,e,_⟩:=x;exact WZ e
 |own y=>obtain⟨_,e⟩:=x;exact WZ e
 |xd fs=>obtain⟨_,⟨_,_,_,e,_⟩,_⟩:=x;exact WZ e
 |rng lo s=>obtain⟨_,_,_,e⟩:=x;exact WZ e
 |frz r u=>obtain⟨e,_⟩:=x;exact WZ e
 |tbl l|met f y=>exact WZ x
 |ext g=>obtain⟨_,⟨_,e⟩,_⟩:=x;exact WZ e
 |_=>obtain⟨_,_,_,_,o,_,_,e,_⟩:=x;exact WZ e
def Paired.mapP:∀{l:List u}{g:List s},Paired F l g->(∀a b,F a b->G a b)->Paired G l g:=by
 intro p
 induction p with
 |nil=>
  intro _ h _;cases h
  exact .nil
 |cons _ _ n=>
  intro _ h f;cases h with
  |cons h r=>
   exact .cons (f _ _ h) (n r f)
def ObjOk.stay (x:ObjOk P w H h a o) (k:∀b u,(b=a\/H b=some (.own a))->h.get? b=some u->h'.get? b=some u)
  (Q:∀b,H b=some (.own a)->H' b=some (.own a)) (N:∀b xs,H b=some (.tup xs)->H' b=some (.tup xs)):ObjOk P w H' h' a o:=by
 induction o with
 |lst xs=>obtain⟨z,A,n,r,e⟩:=x;exact⟨z,A,n,r,k _ _ (.inl rfl) e⟩
 |tup xs=>obtain⟨z,A,r,g,e,c⟩:=x;exact⟨z,A,r,g,k _ _ (.inl rfl) e,c⟩
 |dK G=>obtain⟨z,y,J,r,g,l,s,e,c⟩:=x;exact⟨z,y,J,r,g,l,s,k _ _ (.inl rfl) e,c⟩
 |dT G=>
  obtain⟨z,y,xs,r,g,l,s,e,c⟩:=x;exact⟨z,y,xs,Paired.mapP r λp q z=>⟨z.1,N _ _ z.2.1,z.2.2⟩,g,l,s,k _ _ (.inl rfl) e,c⟩
 |set S n=>obtain⟨g,l,s,t,e,c⟩:=x;exact⟨g,l,s,t,k _ _ (.inl rfl) e,c⟩
 |ins C dx fs=>
  obtain⟨d,z,L,e,E,⟨B,l,s,T,c⟩,r⟩:=x;exact⟨Q _ d,z,L,k _ _ (.inl rfl) e,E,⟨B,l,s,k _ _ (.inr d) T,c⟩,r⟩
 |own y=>obtain⟨g,e⟩:=x;exact⟨g,k _ _ (.inl rfl) e⟩
 |xd fs=>obtain⟨E,⟨B,l,s,e,c⟩,r⟩:=x;exact⟨E,⟨B,l,s,k _ _ (.inl rfl) e,c⟩,r⟩
 |rng lo hi=>obtain⟨t,u,v,e⟩:=x;exact⟨t,u,v,k _ _ (.inl rfl) e⟩
 |frz g u M=>obtain⟨e,q⟩:=x;exact⟨k _ _ (.inl rfl) e,M q⟩
 |tbl Y=>
  have e:=x;exact k a _ (.inl rfl) e
 |met f y=>
  have e:=x;exact k a _ (.inl rfl) e
 |ext U=>obtain⟨p,⟨o,e⟩,st⟩:=x;exact⟨st _ _ p λo q=>k _ _ (.inl rfl) q,⟨o,k _ _ (.inl rfl) e⟩,st⟩
def HOk.lt (x:HOk P w H h) (e:H a=some o):a<h.objs.size:=(x a o e).lt
def HOk.fresh (x:HOk P w H h) (e:h.objs.size<=a):H a=none:=by
 cases q:H a with
 |none=>rfl
 |some u=>exact absurd (Q1 (x.lt q) e) (QY _)
def HOk.kept (x:HOk P w H h) (k:∀b u,h.get? b=some u->h'.get? b=some u):HOk P w H h':=λa o e=>
 (x a o e).stay (λb u _ q=>k b u q) (λ_ q=>q) λ_ _ q=>q
def HOk.laid (x:HOk P w H h) (k:∀b u,h.get? b=some u->h'.get? b=some u) (l:h.objs.size<=a) (new:ObjOk P w (upd H a o) h' a o):HOk P w (upd H a o) h':=λb u e=>by
 have f:=x.fresh l;by_cases g:b=a
 ·subst g;rw[X9]at e;cases e;exact new
 ·rw[Xx g]at e;exact(x b u e).stay (λc v _ q=>k c v q) (λc q=>by rw[Xx (Kz q f)];exact q) λc xs q=>by rw[Xx (Kz q f)];exact q
end
def Rd(H:Hp)(a:Addr)(u:HO):Prop:=H a=some u\/∃o,H a=some (.frz o u)
def Rd.ok {H h a u} (r:Rd H a u) (x:HOk P w H h):ObjOk P w H h a u:=by
 rcases r with r|⟨o,r⟩
 ·exact x a u r
 ·obtain⟨_,q⟩:=x a _ r;lia
def Mut:Option HO->Prop
 |some (.lst _)=>True
 |some (.dK _)=>True
 |some (.dT _)=>True
 |some (.set _ _)=>True
 |some (.ins _ _ _)=>True
 |some (.ext _)=>True
 |_=>False
section
variable {P:Program}{w:World}{H:Hp}{h h':Heap}{x e:Addr}{o':HO}
def HOk.write (ok:HOk P w H h) (g:Mut (H x)) (A:e=x\/H e=some (.own x)) (k:∀b u,b≠e->h.get? b=some u->h'.get? b=some u) (l:∃u,h'.get? e=some u)
  (new:ObjOk P w (upd H x o') h' x o'):HOk P w (upd H x o') h':=λb u q=>by
 have nown:∀c y,H c=some (.own y)->c≠x:=λc y r z=>by subst z;rw[r]at g;exact g
 have ntup:∀c xs,H c=some (.tup xs)->c≠x:=λc xs r z=>by subst z;rw[r]at g;exact g
 by_cases p:b=x
 ·subst p;rw[X9]at q;cases q;exact new
 ·rw[Xx p]at q;by_cases f:b=e
  ·have n:H b=some (.own x):=by
    rcases A with z|z
    ·grind
    ·rw[f];exact z
   rw[q]at n;cases n;obtain⟨v,s⟩:=l;exact⟨v,by rw[f];exact s⟩
  ·refine(ok b u q).stay (λc v o r=>k c v ?_ r) (λc r=>by rw[Xx (nown c b r)];exact r) λc xs r=>by rw[Xx (ntup c xs r)];exact r
   rcases o with rfl|o
   ·exact f
   ·grind
end
structure Un (fs ex:List Addr) (H H':Hp) (h h':Heap):Prop where
 keep:∀b o,h.get? b=some o->H b=none->b∉fs->b∉ex->h'.get? b=some o
 slot:∀b o,h.get? b=some o->H b=none->b∈fs->b∉ex->∃sl,h'.get? b=some {o with slots:=sl}
 free:∀b o,h.get? b=some o->H b=none->b∉ex->H' b=none
 there:∀b o,h.get? b=some o->b∉ex->∃o',h'.get? b=some o'
 tups:∀b xs,H b=some (.tup xs)->H' b=some (.tup xs)
 frzs:∀b o u,H b=some (.frz o u)->H' b=some (.frz o u)
 tbls:∀b ps,H b=some (.tbl ps)->∃more,H' b=some (.tbl (ps++more))
section
variable {fs fs' ex ex':List Addr}{H H1 H2:Hp}{h h1 h2 h':Heap}{a x e:Addr}{o:HO}
def Un.any (u:Un fs ex H H1 h h1) {b ob} (q:h.get? b=some ob) (n:H b=none) (hx:b∉ex):∃sl,h1.get? b=some {ob with slots:=sl}:=by
 by_cases f:b∈fs
 ·exact u.slot b ob q n f hx
 ·exact⟨ob.slots,u.keep b ob q n f hx⟩
def Un.kept (k:∀b u,h.get? b=some u->h'.get? b=some u):Un fs ex H H h h':=
 ⟨λb f q _ _ _=>k b f q,λb f q _ _ _=>⟨f.slots,k b f q⟩,λ_ _ _ n _=>n,λb f q _=>⟨f,k b f q⟩,λ_ _ q=>q,λ_ _ _ q=>q,λ_ g q=>⟨#[],by rw[q];simp⟩⟩
def Un.refl:Un fs ex H H h h:=Un.kept λ_ _ q=>q
def Un.laid (k:∀b u,h.get? b=some u->h'.get? b=some u) (hp:h.objs.size<=a) (hn:H a=none):Un fs ex H (upd H a o) h h' where
 keep:=λb u q _ _ _=>k b u q
 slot:=λb u q _ _ _=>⟨u.slots,k b u q⟩
 free:=λb u q n _=>by rw[Xx (Qm<|Q1 (WZ q) hp)];exact n
 there:=λb u q _=>⟨u,k b u q⟩
 tups:=λb xs q=>by rw[Xx (Kz q hn)];exact q
 frzs:=λb u xs q=>by rw[Xx (Kz q hn)];exact q
 tbls:=λb ps q=>⟨#[],by rw[Xx (Kz q hn),q];simp⟩
def Un.write (f:Mut (H x)) (v:e=x\/H e=some (.own x)) (k:∀b u,b≠e->h.get? b=some u->h'.get? b=some u) (s:∃u,h'.get? e=some u):Un fs ex H (upd H x o) h h':=by
 have hx:∀b,H b=none->b≠x:=λb n z=>by subst z;rw[n]at f;exact f
 have l:∀b,H b=none->b≠e:=λb n z=>by
  rcases v with r|r
  ·grind
  ·grind
 have g:∀b u,H b=some u->¬Mut (some u)->b≠x:=λb u q p z=>by subst z;rw[q]at f;exact p f
 refine⟨λb u q n _ _=>k b u (l b n) q,λb u q n _ _=>⟨u.slots,k b u (l b n) q⟩,λb u q n _=>by rw[Xx (hx b n)];exact n,λb u q _=>?_,
  λb xs q=>by rw[Xx (g b _ q λz=>z)];exact q,λb u xs q=>by rw[Xx (g b _ q λz=>z)];exact q,λb y q=>⟨#[],by rw[Xx (g b _ q λz=>z),q];simp⟩⟩
 by_cases w:b=e
 ·grind
 ·grind
end
noncomputable def trk(h:Heap)(H:Hp):List Addr:=(List.range h.objs.size).filter λa=>(H a).isSome
noncomputable def Nx(h:Heap)(H:Hp):Heap:=PySem.W.hideAll h (trk h H)
def Zro(h:Heap)(H:Hp):(Nx h H).objs.size=h.objs.size:=PySem.W.hideAll_size _ _
def Zl0{H b o}(e:h.get? b=some o)(n:H b=none):(Nx h H).get? b=some o:=
 PySem.W.hideAll_get _ e λf=>by
  have q:=(Qn.mp f).2
  grind
def Zre(e:(Nx h H).get? b=some o):h.get? b=some o/\H b=none:=by
 have f:=PySem.W.of_hideAll (trk h H) e;refine⟨f,?_⟩;cases q:H b with
 |none=>rfl
 |some x=>
  have g:b∈trk h H:=Qn.mpr ⟨JF.mpr (WZ f),by simp[q]⟩;have z:(Nx h H).get? b=none:=PySem.W.hideAll_none (trk h H) g
  grind
noncomputable def Ze8(g h:Heap)(L:Addr):ZZ:=(List.range h.objs.size).filterMap λa=>if a=L\/(g.get? a).isSome=true then none else(h.get? a).map λo=>(a,o)
noncomputable def rest(g h:Heap)(L d:Addr):ZZ:=(Ze8 g h L).filter λp=>decide (p.1≠d)
structure Mod (K:ZW) (mg:Ya) (base:Heap):Prop where
 kin:K.In base
 glob:base.Ns mainGlobals mg
 blt:∃mb,base.Ns builtinsNs mb/\∀x:Str,x≠"__name__"->mb x=bootBuiltins x
 nolimit:base.NoLimit
structure Cx where
 prog:Program
 w:World
 K:ZW
 mg:Ya
 base:Heap
 A:Around
 N:Yf
 s₀:Shared
 H₀:Hp
 env:Env
 outer:List Env
 stack:List Env
 ex:List Addr
 fn:Str->Bool
 calm:Bool
 pn:ZZ
 xe:Yb
noncomputable def frs(l:List Env):List Addr:=l.filterMap (·.frame)
noncomputable abbrev Cx.fs (X:Cx):List Addr:=frs X.outer
def Vis(f:Scope)(x:Str):Prop:=f.names.lookup x=some .local\/f.names.lookup x=some .cell\/f.names.lookup x=some .free
def Loc(f:Scope)(x:Str):Prop:=f.names.lookup x=some .local\/f.names.lookup x=some .cell
def Look(env:Env)(h:Heap)(m:Ya)(x:Str)(u:Value):Prop:=
 (env.kindOf x=some .local/\m x=some u)\/((env.kindOf x=some .cell\/env.kindOf x=some .free)/\∃c,env.cells.lookup x=some c/\h.IsCell c (some u))
structure Cx.Ok (X:Cx):Prop where
 mod:Mod X.K X.mg X.base
 kind:X.env.scope.kind=.function
 glob:X.env.globals=mainGlobals
 blt:X.env.builtins=builtinsNs
 above:X.s₀.heap.objs.size<=X.env.locals
 inj:∀x y c,X.env.cells.lookup x=some c->X.env.cells.lookup y=some c->x=y
 has:∀x,(X.env.kindOf x=some .cell\/X.env.kindOf x=some .free)->∃c,X.env.cells.lookup x=some c
 cab:∀x c,X.fn x=true->X.env.cells.lookup x=some c->X.s₀.heap.objs.size<=c
 hd:X.calm=true->X.A.handled=none
 frames:X.A.frames=some X.stack
 stk:X.stack=X.outer\/(X.stack=X.env::X.outer/\X.env.frame=some X.env.locals)
 exf:∀b∈X.ex,b≠X.env.locals/\∀x c,X.env.cells.lookup x=some c->c≠b
 bs:∀b o,X.base.get? b=some o->X.s₀.heap.get? b=some o/\X.H₀ b=none
 bsz:X.base.objs.size<=X.s₀.heap.objs.size
 noex:∀b o,X.base.get? b=some o->b∉X.ex
 exfs:∀b∈X.ex,b∉X.fs
 funs:X.s₀.heap.FunFrames X.base X.outer
 frf:∀b∈X.fs,X.H₀ b=none
structure Inv (X:Cx) (pins:ZZ) (σ:List (Option V)) (H:Hp) (s:Shared):Prop where
 ok:X.Ok
 os:s.os=X.s₀.os
 bare:AllBare s.gens
 base:Un X.fs X.ex X.H₀ H X.s₀.heap s.heap
 loc:∃m,s.heap.Ns X.env.locals m/\∀(i:Nat) (x:Str) (v:V),X.N[i]?=some x->σ[i]?=some (some v)->Vis X.env.scope x->∃u,RelV v u/\Look X.env s.heap m x u
 cell:∀x c,X.env.cells.lookup x=some c->∃v,s.heap.IsCell c v
 free:H X.env.locals=none
 freeC:∀x c,X.env.cells.lookup x=some c->H c=none
 pin:∀p∈X.pn++pins,s.heap.get? p.1=some p.2/\H p.1=none/\p.1≠X.env.locals/\p.1∉X.fs/\∀v,p.2.data≠.cell v
 hok:HOk X.prog X.w H s.heap
 len:σ.length=X.N.length
section
variable {X:Cx}{pins:ZZ}{σ:List (Option V)}{H H':Hp}{s:Shared}{h':Heap}
def Cx.Ok.nofr (ok:X.Ok) {b o} (e:X.base.get? b=some o):b∉X.fs:=λf=>by
 have:=(ok.funs.mem f).1
 grind
def Inv.bs (I:Inv X pins σ H s):∀b o,X.base.get? b=some o->s.heap.get? b=some o/\H b=none:=λb o e=>
 ⟨I.base.keep b o (I.ok.bs b o e).1 (I.ok.bs b o e).2 (I.ok.nofr e) (I.ok.noex b o e),I.base.free b o (I.ok.bs b o e).1 (I.ok.bs b o e).2 (I.ok.noex b o e)⟩
def Inv.bk (I:Inv X pins σ H s):∀b o,X.base.get? b=some o->s.heap.get? b=some o:=λb o e=>(I.bs b o e).1
def Inv.mod (I:Inv X pins σ H s):Mod X.K X.mg X.base:=I.ok.mod
def Inv.kIn (I:Inv X pins σ H s):X.K.In s.heap:=I.ok.mod.kin.keeps I.bk
def Inv.lt (I:Inv X pins σ H s):X.env.locals<s.heap.objs.size:=let ⟨_,f,_⟩:=I.loc;f.lt
def Inv.sz (I:Inv X pins σ H s):X.s₀.heap.objs.size<=s.heap.objs.size:=WV I.ok.above (VT I.lt)
def Inv.nofs (I:Inv X pins σ H s) {a:Addr} (h:s.heap.objs.size<=a):a∉X.fs:=λg=>by
 obtain⟨_,o,f,_⟩:=I.ok.funs.mem g;exact absurd (Q1 (WZ f)<|WV I.sz h) (QY _)
def Inv.cne (I:Inv X pins σ H s):∀x c,X.env.cells.lookup x=some c->c≠X.env.locals:=λx c e z=>by
 obtain⟨v,o,l,n⟩:=I.cell x c e;obtain⟨m,⟨h,p,r,f,g,_⟩,_⟩:=I.loc
 grind
def Inv.funs (I:Inv X pins σ H s):s.heap.FunFrames X.base X.outer:=by
 have all:∀l,(∀b∈frs l,b∈X.fs)->X.s₀.heap.FunFrames X.base l->s.heap.FunFrames X.base l:=by
  intro l
  induction l with
  |nil=>intro _ _;trivial
  |cons B r p=>
   intro n x;obtain⟨y,⟨L,o,f,w,v,A⟩,u⟩:=x;have h:=n L (by unfold frs;rw[QV,f];exact Q7);obtain⟨sl,e⟩:=I.base.slot L o v (I.ok.frf L h) h λz=>I.ok.exfs L z h;exact⟨y,⟨L,_,f,w,e,A⟩,p (λb g=>n b (by unfold frs;rw[QV,f];exact Qo _ g)) u⟩
 exact all X.outer (λ_ g=>g) I.ok.funs
def Inv.stack (I:Inv X pins σ H s):s.heap.FunFrames X.base X.stack:=by
 rcases I.ok.stk with e|⟨e,g⟩
 ·rw[e];exact I.funs
 ·rw[e];obtain⟨m,f,_⟩:=I.loc;refine .cons (by rw[I.ok.kind];decide) g f ?_ I.funs;exact J0 (WV I.ok.bsz I.ok.above)
def Inv.stkSub (I:Inv X pins σ H s):∀b∈frs X.stack,b∈X.env.locals::X.fs:=λb f=>by
 rcases I.ok.stk with e|⟨e,g⟩
 ·grind
 ·rw[e]at f;unfold frs at f;rw[QV,g]at f;trivial
def Inv.stkFree (I:Inv X pins σ H s):∀b∈frs X.stack,H b=none:=λb f=>by
 rcases WX.mp (I.stkSub b f)with e|f
 ·rw[e];exact I.free
 ·obtain⟨_,o,g,_⟩:=I.ok.funs.mem f;exact I.base.free b o g (I.ok.frf b f) λz=>I.ok.exfs b z f
def Inv.step {d'}{ch:List Addr} (I:Inv X pins σ H s)
  (g:∀b∈ch,(b∈X.ex\/X.s₀.heap.objs.size<=b)/\b≠X.env.locals/\(∀x c,X.env.cells.lookup x=some c->c≠b)/\∀p∈X.pn++pins,p.1≠b)
  (keep:∀b o,b≠X.env.locals->b∉X.fs->b∉ch->s.heap.get? b=some o->H b=none->h'.get? b=some o)
  (slot:∀b o,b≠X.env.locals->b∈X.fs->b∉ch->s.heap.get? b=some o->H b=none->∃sl,h'.get? b=some {o with slots:=sl}) (free:∀b o,b∉ch->s.heap.get? b=some o->H b=none->H' b=none)
  (there:∀b o,b∉ch->s.heap.get? b=some o->∃o',h'.get? b=some o')
  (tups:∀b xs,H b=some (.tup xs)->H' b=some (.tup xs)) (frzs:∀b o u,H b=some (.frz o u)->H' b=some (.frz o u)) (tbls:∀b ps,H b=some (.tbl ps)->∃more,H' b=some (.tbl (ps++more)))
  (ns:∀m,s.heap.Ns X.env.locals m->h'.Ns X.env.locals m) (J:HOk X.prog X.w H' h') (hg:AllBare g') :
  Inv X pins σ H' {s with heap:=h',gens:=g',drawn:=d',toks:=t'}:=by
 have B:∀b o,X.s₀.heap.get? b=some o->b≠X.env.locals:=λb o e=>Qm (Q1 (WZ e) I.ok.above)
 have f:∀b o,X.s₀.heap.get? b=some o->b∉X.ex->b∉ch:=λb o e hx y=>by
  rcases(g b y).1 with z|z
  ·exact hx z
  ·exact absurd (Q1 (WZ e) z) (QY _)
 have cellK:∀x c,X.env.cells.lookup x=some c->∀v,s.heap.IsCell c v->h'.IsCell c v:=λx c e v ⟨o,A,L⟩=>by
  have C:=λz=>(g c z).2.2.1 x c e rfl;by_cases M:c∈X.fs
  ·obtain⟨sl,q⟩:=slot c o (I.cne x c e) M C A (I.freeC x c e);exact⟨_,q,L⟩
  ·exact⟨o,keep c o (I.cne x c e) M C A (I.freeC x c e),L⟩
 refine⟨I.ok,I.os,hg,⟨λb o e n y hx=>?_,λb o e n y hx=>?_,λb o e n hx=>?_,λb o e hx=>?_,λb xs e=>tups b xs (I.base.tups b xs e),λb o xs e=>frzs b o xs (I.base.frzs b o xs e),λb ps e=>?_⟩,?_,λx c e=>?_,?_,λx c e=>?_,λp T=>?_,J,I.len⟩
 ·exact keep b o (B b o e) y (f b o e hx) (I.base.keep b o e n y hx) (I.base.free b o e n hx)
 ·obtain⟨sl,h⟩:=I.base.slot b o e n y hx;obtain⟨G,E⟩:=slot b _ (B b o e) y (f b o e hx) h (I.base.free b o e n hx);exact⟨G,E⟩
 ·obtain⟨o',h⟩:=I.base.there b o e hx;exact free b o' (f b o e hx) h (I.base.free b o e n hx)
 ·obtain⟨o',h⟩:=I.base.there b o e hx;exact there b o' (f b o e hx) h
 ·obtain⟨Q,h⟩:=I.base.tbls b ps e;obtain⟨N,E⟩:=tbls b _ h;exact⟨Q++N,by rw[E,Array.append_assoc]⟩
 ·obtain⟨m,U,Y⟩:=I.loc;refine⟨m,ns m U,λi x v h E e3=>?_⟩;obtain⟨u,r,l⟩:=Y i x v h E e3;refine⟨u,r,?_⟩;rcases l with l|⟨k,c,e,z⟩
  ·exact .inl l
  ·exact .inr ⟨k,c,e,cellK x c e _ z⟩
 ·obtain⟨v,z⟩:=I.cell x c e;exact⟨v,cellK x c e v z⟩
 ·obtain⟨m,⟨o,_,_,A,_⟩,_⟩:=I.loc;exact free _ o (λz=>(g _ z).2.1 rfl) A I.free
 ·obtain⟨v,o,A,L⟩:=I.cell x c e;exact free c o (λz=>(g c z).2.2.1 x c e rfl) A (I.freeC x c e)
 ·obtain⟨e,n,ne,nf,d⟩:=I.pin p T
  grind
def Inv.un (I:Inv X pins σ H s) (u:Un X.fs [] H H' s.heap h') (g:HOk X.prog X.w H' h'):Inv X pins σ H' {s with heap:=h',toks:=t'}:=by
 obtain⟨m,⟨o,E,G,v,r⟩,_⟩:=id I.loc;obtain⟨sl,A⟩:=u.any v I.free (by simp)
 exact I.step (ch:=[]) (λ_ z=>nomatch z) (λb o _ h _ e n=>u.keep b o e n h (by simp)) (λb o _ h _ e n=>u.slot b o e n h (by simp)) (λb o _ e n=>u.free b o e n (by simp)) (λb o _ e=>u.there b o e (by simp)) u.tups u.frzs u.tbls (λC y=>by
  obtain⟨B,l,p,f,x⟩:=y;rw[v]at f;cases f;exact⟨_,l,p,A,x⟩) g I.bare
def Inv.call {d'}{ch} (I:Inv X pins σ H s) (u:Un (frs X.stack) ch H H' s.heap h') (l:HOk X.prog X.w H' h') (G:AllBare L)
  (h:∀b∈ch,(b∈X.ex\/X.s₀.heap.objs.size<=b)/\b≠X.env.locals/\(∀x c,X.env.cells.lookup x=some c->c≠b)/\∀p∈X.pn++pins,p.1≠b) :
  Inv X pins σ H' {s with heap:=h',gens:=L,drawn:=d',toks:=t'}:=by
 obtain⟨m,⟨o,Q,T,B,r⟩,_⟩:=id I.loc;obtain⟨sl,v⟩:=u.any B I.free λz=>(h _ z).2.1 rfl
 exact I.step h (λb o v J f e n=>u.keep b o e n (λz=>(WX.mp<|I.stkSub b z).elim v J) f) (λb o _ _ f e n=>u.any e n f) (λb o f e n=>u.free b o e n f) (λb o f e=>u.there b o e f) u.tups u.frzs u.tbls (λN E=>by
  obtain⟨M,y,A,g,C⟩:=E;rw[B]at g;cases g;exact⟨_,y,A,v,C⟩) l G
def Inv.turned {it} (I:Inv X pins σ H s) (k:∀b o,b≠it->s.heap.get? b=some o->h'.get? b=some o) (B:H it=none) (l:it≠X.env.locals)
  (J:it∈X.ex\/X.s₀.heap.objs.size<=it) (G:∀x c,X.env.cells.lookup x=some c->c≠it) (E:∀p∈X.pn++pins,p.1≠it):Inv X pins σ H {s with heap:=h',toks:=t'}:=by
 refine I.step (ch:=[it]) (λb C=>?_) (λb o _ _ f e _=>k b o (λz=>f (by simp[z])) e) (λb o _ _ f e _=>⟨o.slots,k b o (λz=>f (by simp[z])) e⟩) (λ_ _ _ _ n=>n)
  (λb o f e=>⟨o,k b o (λz=>f (by simp[z])) e⟩) (λ_ _ e=>e) (λ_ _ _ e=>e) (λb A e=>⟨#[],by rw[e];simp⟩) (λm h=>?_) (λb u e=>?_) I.bare
 ·grind
 ·obtain⟨o,w,y,g,r⟩:=h;exact⟨o,w,y,k _ o (Ne.symm l) g,r⟩
 ·refine(I.hok b u e).stay (λc v f q=>k c v ?_ q) (λ_ q=>q) λ_ _ q=>q;rcases f with z|z
  ·grind
  ·grind
def Inv.tok (I:Inv X pins σ H s) (t:Nat):Inv X pins σ H {s with toks:=t}:=I.un Un.refl I.hok
def Inv.kept (I:Inv X pins σ H s) (k:∀b u,s.heap.get? b=some u->h'.get? b=some u):Inv X pins σ H {s with heap:=h',toks:=t'}:=I.un (Un.kept k) (I.hok.kept k)
def Inv.laid {a:Addr}{o}{t'} (I:Inv X pins σ H s) (k:∀b u,s.heap.get? b=some u->h'.get? b=some u) (f:s.heap.objs.size<=a) (new:ObjOk X.prog X.w (upd H a o) h' a o) :
  Inv X pins σ (upd H a o) {s with heap:=h',toks:=t'}:=I.un (Un.laid k f<|I.hok.fresh f) (I.hok.laid k f new)
def Inv.write (I:Inv X pins σ H s) (g:Mut (H x)) (h:e=x\/H e=some (.own x)) (k:∀b u,b≠e->s.heap.get? b=some u->h'.get? b=some u) (f:∃u,h'.get? e=some u)
  (new:ObjOk X.prog X.w (upd H x o) h' x o):Inv X pins σ (upd H x o) {s with heap:=h',toks:=t'}:=I.un (Un.write g h k f) (I.hok.write g h k f new)
def Inv.weak (I:Inv X pins σ H s) (l:f.length=σ.length) (w:∀(i:Nat) v,f[i]?=some (some v)->σ[i]?=some (some v)):Inv X pins f H s:=
 ⟨I.ok,I.os,I.bare,I.base,let ⟨m,h,g⟩:=I.loc;⟨m,h,λi x v p o n=>g i x v p (w i v o) n⟩,I.cell,I.free,I.freeC,I.pin,I.hok,l.trans I.len⟩
def Inv.pins_of (I:Inv X pins σ H s) (h:∀p∈pins',s.heap.get? p.1=some p.2/\H p.1=none/\p.1≠X.env.locals/\p.1∉X.fs/\∀v,p.2.data≠.cell v):Inv X pins' σ H s:=
 ⟨I.ok,I.os,I.bare,I.base,I.loc,I.cell,I.free,I.freeC,λp f=>(Qi.mp f).elim (λz=>I.pin p (QT _ z)) (h p),I.hok,I.len⟩
def ON{N:Yf}(f:N.Nodup){i j:Nat}{x}(a:N[i]?=some x)(b:N[j]?=some x):i=j:=by
 obtain⟨n,h⟩:=Qq.mp a;obtain⟨l,g⟩:=Qq.mp b;exact(List.getElem_inj f).mp (h.trans g.symm)
def Zlv{i x v u Q}(I:Inv X pins σ H s)(hN:X.N.Nodup)(hi:X.N[i]?=some x)(hx:Loc X.env.scope x)(r:RelV v u)(h:∀s',Inv X pins (σ.set i<|some v) H s'->(∃a,Heap.SameBut a s.heap s'.heap/\(a=X.env.locals\/X.env.cells.lookup x=some a))->Q () s')(hf:autoParam (X.fn x=true\/X.env.scope.names.lookup x=some .local) au_2):wpAny M A (storeName X.env x u) Q E s:=by
 obtain⟨m,hn,hl⟩:=id I.loc;have hcls:(X.env.scope.kind == .class || (X.env.scope.kind == .module&&X.env.locals != X.env.globals))=false:=by rw[I.ok.kind];rfl
 have J:i<σ.length:=by rw[I.len];exact(Qq.mp hi).1
 have cne:=I.cne
 have tracked:∀{a:Addr} {h':Heap},(∃o,s.heap.get? a=some o/\H a=none)->Heap.SameBut a s.heap h'->HOk X.prog X.w H h':=λ{a h'} ha f b ob e=>by
  obtain⟨_,_,B⟩:=ha;refine(I.hok b ob e).stay (λc w' l q=>(f.2 c ?_).trans q) (λ_ q=>q) λ_ _ q=>q;rintro rfl;rcases l with rfl|l
  ·rw[B]at e;cases e
  ·rw[B]at l;cases l
 rcases hx with G|G
 ·refine wpAny_storeName_local G hn (λh' hn' f=>?_) hcls;obtain⟨oL,_,_,hoL,_⟩:=id hn;refine h _ ⟨I.ok,I.os,I.bare,⟨λb o e n U hx=>?_,λb o e n U hx=>?_,I.base.free,λb o e hx=>?_,I.base.tups,I.base.frzs,I.base.tbls⟩,⟨_,hn',λj y v' g C e3=>?_⟩,λy c e=>?_,I.free,I.freeC,λp hp=>?_,tracked ⟨oL,hoL,I.free⟩ f,by simpa using I.len⟩ ⟨_,f,.inl rfl⟩
  ·exact(f.2 b<|Qm<|Q1 (WZ e) I.ok.above).trans (I.base.keep b o e n U hx)
  ·obtain⟨sl,g⟩:=I.base.slot b o e n U hx;exact⟨sl,(f.2 b<|Qm<|Q1 (WZ e) I.ok.above).trans g⟩
  ·obtain⟨o',g⟩:=I.base.there b o e hx;exact⟨o',(f.2 b<|Qm<|Q1 (WZ e) I.ok.above).trans g⟩
  ·by_cases L:j=i
   ·subst L;rw[hi]at g;cases g;rw[List.getElem?_set_self J]at C;cases C
    exact⟨u,r,.inl ⟨G,by simp⟩⟩
   ·rw[List.getElem?_set_ne (Ne.symm L)]at C;obtain⟨u',r',q⟩:=hl j y v' g C e3;refine⟨u',r',?_⟩;rcases q with⟨k,e⟩|⟨k,c,e,z⟩
    ·refine .inl ⟨k,?_⟩
     have:y≠x:=λe=>L (ON hN g (e▸hi))
     simp[this,e]
    ·exact .inr ⟨k,c,e,z.sameBut f (cne y c e)⟩
  ·obtain⟨w',z⟩:=I.cell y c e;exact⟨w',z.sameBut f (cne y c e)⟩
  ·obtain⟨e,n,ne,nf,d⟩:=I.pin p hp;exact⟨(f.2 p.1 ne).trans e,n,ne,nf,d⟩
 ·have T:X.fn x=true:=by
   rcases hf with z|z
   ·exact z
   ·rw[z]at G;cases G
  obtain⟨c,l⟩:=I.ok.has x (.inl G);obtain⟨w',z⟩:=I.cell x c l;refine wpAny_storeName_cell I.ok.kind G l z (λh' hc' f=>?_);obtain⟨oc,hoc,Y⟩:=id z;refine h {s with heap:=h'} ⟨I.ok,I.os,I.bare,⟨λb o e n U hx=>?_,λb o e n U hx=>?_,I.base.free,λb o e hx=>?_,I.base.tups,I.base.frzs,I.base.tbls⟩,⟨m,hn.sameBut f (Ne.symm<|cne x c l),λj y v' g C e3=>?_⟩,λy c' e=>?_,I.free,I.freeC,λp hp=>?_,tracked ⟨oc,hoc,I.freeC x c l⟩ f,by simpa using I.len⟩ ⟨c,f,.inr l⟩
  ·exact(f.2 b<|Qm<|Q1 (WZ e)<|I.ok.cab x c T l).trans (I.base.keep b o e n U hx)
  ·obtain⟨sl,g⟩:=I.base.slot b o e n U hx;exact⟨sl,(f.2 b<|Qm<|Q1 (WZ e)<|I.ok.cab x c T l).trans g⟩
  ·obtain⟨o',g⟩:=I.base.there b o e hx;exact⟨o',(f.2 b<|Qm<|Q1 (WZ e)<|I.ok.cab x c T l).trans g⟩
  ·by_cases L:j=i
   ·subst L;rw[hi]at g;cases g;rw[List.getElem?_set_self J]at C;cases C
    exact⟨u,r,.inr ⟨.inl G,c,l,hc'⟩⟩
   ·rw[List.getElem?_set_ne (Ne.symm L)]at C;obtain⟨u',r',q⟩:=hl j y v' g C e3;refine⟨u',r',?_⟩;rcases q with q|⟨k,c',e,z'⟩
    ·exact .inl q
    ·refine .inr ⟨k,c',e,z'.sameBut f ?_⟩;rintro rfl;exact L (ON hN g (I.ok.inj _ _ _ e l▸hi))
  ·by_cases hcc:c'=c
   ·subst hcc;exact⟨_,hc'⟩
   ·obtain⟨w2,z2⟩:=I.cell y c' e;exact⟨w2,z2.sameBut f hcc⟩
  ·obtain⟨e,n,ne,nf,d⟩:=I.pin p hp;refine⟨(f.2 p.1 ?_).trans e,n,ne,nf,d⟩;intro q;rw[q,hoc]at e;exact d w' (by rw[←(Qc e)];exact Y)
def FF{i x v u Q}(I:Inv X pins σ H s)(n:X.N.Nodup)(g:X.N[i]?=some x)(hx:Loc X.env.scope x)(r:RelV v u)(h:∀f,Inv X pins (σ.set i<|some v) H f->Q () f)(l:autoParam (X.fn x=true\/X.env.scope.names.lookup x=some .local) au_2):wpAny M A (storeName X.env x u) Q E s:=
 Zlv I n g hx r (λf o _=>h f o) l
def Inv.call' {ch} (I:Inv X pins σ H s) (l:f.os=s.os) (u:Un (frs X.stack) ch H H' s.heap f.heap) (g:HOk X.prog X.w H' f.heap) (n:AllBare f.gens)
  (h:∀b∈ch,(b∈X.ex\/X.s₀.heap.objs.size<=b)/\b≠X.env.locals/\(∀x c,X.env.cells.lookup x=some c->c≠b)/\∀p∈X.pn++pins,p.1≠b):Inv X pins σ H' f:=by
 obtain⟨h',v,y,o,r⟩:=f;subst l;exact I.call u g n h
end
abbrev XK:=Value->Yj->Hp->Prop
abbrev St:=List (Option V)
abbrev VK:=V->Hp->Prop
abbrev TE:=St->Hp->VK->Prop
abbrev TT:=St->Hp->(Bool->Hp->Prop)->Prop
abbrev TA:=St->Hp->(List V->Hp->Prop)->Prop
structure Ends where
 nx:St->Hp->Prop
 rt:VK
 bk:St->Hp->Prop:=λ_ _=>False
 ct:St->Hp->Prop:=λ_ _=>False
abbrev TS:=Ends->St->Hp->Prop
def EP(X:Cx)(pins:ZZ)(g:St)(Q:VK)(u:Value)(h:Shared):Prop:=∃v f,Inv X pins g f h/\RelV v u/\Q v f
def TP(X:Cx)(pins:ZZ)(g:St)(Q:Bool->Hp->Prop)(b:Bool)(h:Shared):Prop:=∃f,Inv X pins g f h/\Q b f
def AP(X:Cx)(pins:ZZ)(h:St)(Q:List V->Hp->Prop)(us:Ye)(l:Shared):Prop:=∃f g,Inv X pins h g l/\Vals f us/\Q f g
def SP(X:Cx)(pins:ZZ)(D:Ends)(f:Flow)(l:Shared):Prop:=
 match f with
 | .next=>∃g h,Inv X pins g h l/\D.nx g h
 | .brk=>∃g h,Inv X pins g h l/\D.bk g h
 | .cont=>∃g h,Inv X pins g h l/\D.ct g h
 | .ret u=>∃v g h,Inv X pins g h l/\RelV v u/\D.rt v h
def PE(X:Cx)(e:Expr)(t:TE):Prop:=
 ∀(pins:ZZ) (s:Shared) (f:St) (H:Hp) (Q:VK),Inv X pins f H s->t f H Q->wpAny (model X.prog X.w) X.A (eval e X.env) (EP X pins f Q) X.xe s
def PT(X:Cx)(e:Expr)(t:TT):Prop:=
 ∀(pins:ZZ) (s:Shared) (f:St) (H:Hp) (Q:Bool->Hp->Prop),Inv X pins f H s->t f H Q->wpAny (model X.prog X.w) X.A (isTrue e X.env<|eval e X.env) (TP X pins f Q) X.xe s
def PW(X:Cx)(e:Expr)(t:TT):Prop:=
 ∀(whole:Sem Value) (pins:ZZ) (s:Shared) (f:St) (H:Hp) (Q:Bool->Hp->Prop),Inv X pins f H s->t f H Q->wpAny (model X.prog X.w) X.A (isTrue e X.env whole) (TP X pins f Q) X.xe s
def PW.pt (h:PW X e t):PT X e t:=h _
def PA(X:Cx)(es:Yg)(t:TA):Prop:=
 ∀(pos:Pos) (pins:ZZ) (s:Shared) (f:St) (H:Hp) (Q:List V->Hp->Prop),Inv X pins f H s->t f H Q->wpAny (model X.prog X.w) X.A (spliced<|backTo pos<|starEach es X.env) (AP X pins f Q) X.xe s
def PS(X:Cx)(st:Stmt)(t:TS):Prop:=
 ∀(pins:ZZ) (s:Shared) (f:St) (H:Hp) (D:Ends),Inv X pins f H s->t D f H->wpAny (model X.prog X.w) X.A (exec st X.env) (SP X pins D) X.xe s
def PSs(X:Cx)(st:Yh)(t:TS):Prop:=
 ∀(pins:ZZ) (s:Shared) (f:St) (H:Hp) (D:Ends),Inv X pins f H s->t D f H->wpAny (model X.prog X.w) X.A (execs st X.env) (SP X pins D) X.xe s
def thn{M A E s}(h:wpAny M A t Q E s)(f:∀a s,Q a s->g a s):wpAny M A t g E s:=QI h f λ_ _ x=>x
section
variable {X:Cx}
def bin{B z}(J:PE X a B)(G:PE X b z){pins}{s}{g:St}{H}{R:V->V->Hp->Prop}(I:Inv X pins g H s)(h:B g H λx r=>z g r λy o=>R x y o){α}{Q}{f:Value->Value->Sem α}(U:∀v u p x y o,Inv X pins g o p->RelV x v->RelV y u->R x y o->wpAny (model X.prog X.w) X.A (f v u) Q X.xe p) :
  wpAny (model X.prog X.w) X.A (eval a X.env) (λv n=>wpAny (model X.prog X.w) X.A (eval b X.env) (λu l=>wpAny (model X.prog X.w) X.A (f v u) Q X.xe l) X.xe n) X.xe s:=by
 refine thn (J pins s g H _ I h) λv C ⟨x,r,L,N,E⟩=>?_;refine thn (G pins C g r _ L E) λu p ⟨y,o,Y,M,T⟩=>?_
 grind
noncomputable def Kk(i:Nat):TE:=λf H Q=>∃v,f[i]?=some (some v)/\Q v H
noncomputable def tC(v:V):TE:=λ_ H Q=>Q v H
def Zr7{pos}(E:X.N[i]?=some x)(z:Vis X.env.scope x)(o:autoParam ((x==("__debug__" : Str))=false) au_1)(p:autoParam ((x==("__classdict__" : Str))=false) au_1):PE X (.Name x pos) (Kk i):=by
 intro pins s y H Q I h;obtain⟨v,e,h⟩:=h;obtain⟨m,A,C⟩:=I.loc;obtain⟨u,r,l⟩:=C i x v E e z;have n:EP X pins y Q u s:=⟨v,H,I,r,h⟩;rcases l with⟨g,B⟩|⟨g,c,w,f⟩
 ·exact wpAny_Name (wpAny_loadName_local I.ok.kind g A B n) o
 ·rcases g with g|g
  ·exact wpAny_Name (wpAny_loadName_cell I.ok.kind g w f n) o
  ·exact wpAny_Name (wpAny_loadName_free I.ok.kind g w f n p) o
def Xp:PE X (.Constant (.int i) j pos) (tC<|.int i):=λ_ _ _ H _ I h=>wpAny_Constant_int ⟨.int i,H,I.tok _,⟨_,rfl⟩,h⟩
def Tx:PE X (.Constant (.bool b) j pos) (tC<|.bl b):=λ_ _ _ H _ I h=>Constant_bool ⟨.bl b,H,I,rfl,h⟩
def Zmf:PE X (.Constant .none j pos) (tC .non):=λ_ _ _ H _ I h=>Constant_none ⟨.non,H,I,rfl,h⟩
def Nq:PE X (.Constant (.str x) j pos) (tC<|.str x):=λ_ _ _ H _ I h=>Calls.Constant_str ⟨.str x,H,I.tok _,⟨_,rfl⟩,h⟩
def Gl(X:Cx)(x:Str):Prop:=X.env.kindOf x=some .globalImplicit
def BU{pins}{s}{f:St}{H}{x}{u}{pos}{Q}(I:Inv X pins f H s)(l:Gl X x)(g:X.mg x=some u)(h:Q u s)(n:autoParam ((x==("__debug__" : Str))=false) au_1):wpAny (model X.prog X.w) X.A (eval (.Name x pos) X.env) Q E s:=
 Calls.Name_function_global I.ok.kind l (Calls.loadGlobal_global (by rw[I.ok.glob];exact I.mod.glob.keeps I.bk) g h) n
def Sr{E}{pins}{s}{f:St}{H}{x}{u}{pos}{Q}(I:Inv X pins f H s)(o:Gl X x)(n:X.mg x=none)(g:bootBuiltins x=some u)(h:Q u s)(l:autoParam (x≠"__name__") au_1)(p:autoParam ((x==("__debug__" : Str))=false) au_1):wpAny (model X.prog X.w) X.A (eval (.Name x pos) X.env) Q E s:=by
 obtain⟨y,v,r⟩:=I.mod.blt;exact Calls.Name_function_global I.ok.kind o (Calls.loadGlobal_builtin (by rw[I.ok.glob];exact I.mod.glob.keeps I.bk) n (by rw[I.ok.blt];exact v.keeps I.bk) ((r x l).trans g) h) p
def Zhg{u pos}(g:Gl X x)(f:X.mg x=some u)(r:RelV v u)(l:autoParam ((x==("__debug__" : Str))=false) au_1):PE X (.Name x pos) (tC v):=
 λ_ _ _ H _ I h=>BU I g f ⟨v,H,I,r,h⟩ l
def T8{u pos}(n:Gl X x)(l:X.mg x=none)(f:bootBuiltins x=some u)(r:RelV v u)(g:autoParam (x≠"__name__") au_1)(o:autoParam ((x==("__debug__" : Str))=false) au_1):PE X (.Name x pos) (tC v):=
 λ_ _ _ H _ I h=>Sr I n l f ⟨v,H,I,r,h⟩ g o
variable {a b:Expr}{ta tb:TE}{pos:Pos}
def PC(X:Cx)(l:CmpOp)(a b:Expr)(t:TE):Prop:=
 ∀(pins:ZZ) (s:Shared) (h:St) (H:Hp) (Q:VK),Inv X pins h H s->t h H Q->
  wpAny (model X.prog X.w) X.A (eval a X.env) (λv g=>wpAny (model X.prog X.w) X.A (eval b X.env) (λu f=>wpAny (model X.prog X.w) X.A (compareOp l v u) (EP X pins h Q) X.xe f) X.xe g) X.xe s
def Zgx(b:Expr){op}(h:op≠.In)(l:op≠.NotIn):behindInMarks op b=false:=by
 have g:(op==CmpOp.In)=false:=by grind
 have f:(op==CmpOp.NotIn)=false:=by grind
 cases b<;>simp[behindInMarks,g,f]
noncomputable def tB(t:TE):TT:=λf H Q=>t f H λx g=>∃c,x=.bl c/\Q c g
def EC(h:PC X g a b t)(f:behindInMarks g b=false:=by first|exact Zgx _ (by decide) (by decide)|rfl):PT X (.Compare a [g] [b] pos) (tB t):=by
 intro pins s l H Q I hw;refine wpAny_isTrue_Compare1 (thn (h pins s l H _ I hw) λv A f=>thn f λu z p=>thn p ?_) f;rintro c y ⟨x,w,r,n,o⟩;obtain⟨d,rfl,q⟩:=o;cases n
 exact V3 ⟨w,r,q⟩
variable {tA tB':TT}{rest:Yg}
noncomputable def OF(t u:TT):TT:=λf H Q=>t f H λc g=>if c=true then u f g Q else Q false g
noncomputable def tOr(t u:TT):TT:=λf H Q=>t f H λc g=>if c=true then Q true g else u f g Q
noncomputable def AX(t:TT):TT:=λf H Q=>t f H λc g=>Q (!c) g
def Zr9(g:PT X a tA):PW X (.BoolOp .And [a] pos) tA:=by
 intro l pins s f H Q I h;refine isTrue_and (thn (g pins s f H Q I h) λc n e=>?_);cases c with
 |true=>exact isTrue_and_nil e
 |false=>exact e
def Zny(g:PT X a tA):PW X (.BoolOp .Or [a] pos) tA:=by
 intro l pins s f H Q I h;refine isTrue_or (thn (g pins s f H Q I h) λc n e=>?_);cases c with
 |false=>exact isTrue_or_nil e
 |true=>exact e
def Zet(p:PT X a tA)(o:PW X (.BoolOp .And (b::rest) pos) tB'):PW X (.BoolOp .And (a::b::rest) pos) (OF tA tB'):=by
 intro g pins s f H Q I h;refine isTrue_and (thn (p pins s f H _ I h) λc l ⟨u,r,n⟩=>?_);cases c with
 |true=>exact o g pins l f u Q r n
 |false=>trivial
def Zje(p:PT X a tA)(o:PW X (.BoolOp .Or (b::rest) pos) tB'):PW X (.BoolOp .Or (a::b::rest) pos) (tOr tA tB'):=by
 intro g pins s f H Q I h;refine isTrue_or (thn (p pins s f H _ I h) λc l ⟨u,r,n⟩=>?_);cases c with
 |true=>trivial
 |false=>exact o g pins l f u Q r n
def BE(g:PT X a tA):PT X (.UnaryOp .Not a pos) (AX tA):=by
 intro pins s f H Q I h;exact isTrue_not (g pins s f H (λc l=>Q (!c) l) I h)
noncomputable def Rx(ta tb:TE):TE:=λf H Q=>ta f H λx g=>∃c,x=.bl c/\if c=true then tb f g Q else Q (.bl false) g
noncomputable def Lg(ta:TE):TE:=λf H Q=>ta f H λx g=>∃c,x=.bl c/\Q (.bl (!c)) g
def FA{t}(h:PE X a t):PE X (.BoolOp f [a] pos) t:=by trivial
def Fm(u:PE X a ta)(r:PE X (.BoolOp .And (b::rest) pos) tb):PE X (.BoolOp .And (a::b::rest) pos) (Rx ta tb):=by
 intro pins s g H Q I h;refine BoolOp_and (thn (u pins s g H _ I h) ?_);rintro v o ⟨x,n,l,p,f⟩;obtain⟨c,rfl,f⟩:=f;cases p
 refine V3 ?_;cases c with
 |true=>exact r pins o g n Q l f
 |false=>exact⟨.bl false,n,l,rfl,f⟩
def Lb(n:PE X a ta):PE X (.UnaryOp .Not a pos) (Lg ta):=by
 intro pins s g H Q I h;refine UnaryOp_ (thn (n pins s g H _ I h) ?_);rintro v r ⟨x,p,o,l,f⟩;obtain⟨c,rfl,f⟩:=f;cases l
 exact not_of (V3 ⟨.bl (!c),p,o,rfl,f⟩)
end
def SqL(K:ZW)(H:Hp)(a:Addr)(xs:List V):Prop:=
 Rd H a (.lst xs)\/
  ∃(o:Obj) (f:Array Value) (n:Nat),K.lookup a=some o/\o.cls=.type "list"/\o.dict=none/\o.data=.seq f n/\f.size<=sizeLine/\Vals xs f.toList
def SqT(K:ZW)(H:Hp)(a:Addr)(xs:List V):Prop:=
 Rd H a (.tup xs)\/
  ∃(o:Obj) (f:Array Value) (n:Nat),K.lookup a=some o/\o.cls=.type "tuple"/\o.data=.seq f n/\f.size<=sizeLine/\Vals xs f.toList
noncomputable def Zfe:Value->Option V
 | .none=>some .non
 | .bool b=>some (.bl b)
 | .int i _=>some (.int i)
 | .str x _=>some (.str x)
 | .bytes b _=>some (.byt b)
 | .float b _=>some (.flt b)
 | .ref a=>some (.ref a)
 | .type n=>some (.ty n)
 |_=>none
def RelV.abs (r:RelV x u):Zfe u=some x:=by
 cases x with
 |non|bl _|ref _|ty _=>cases r;rfl
 |_=>obtain⟨t,rfl⟩:=r;rfl
def RelV.inj {u} (r:RelV x u) (q:RelV y u):x=y:=Qc (r.abs.symm.trans q.abs)
def Vals.inj:∀{xs ys}{us:Ye},Vals xs us->Vals ys us->xs=ys:=by
 intro o
 induction o with
 |nil=>
  intro _ _ h g;cases h
  cases g
  rfl
 |cons _ _ n=>
  intro _ _ h g;cases h with
  |cons h r=>
   cases g with
   |cons l f=>rw[h.inj l,n r f]
section
variable {X:Cx}{pins:ZZ}{σ:St}{H:Hp}{s:Shared}{a:Addr}{xs ys:List V}
def SqL.of {K} (h:H a=some (.lst xs)):SqL K H a xs:=.inl (.inl h)
def SqT.of {K} (h:H a=some (.tup xs)):SqT K H a xs:=.inl (.inl h)
def Inv.list (I:Inv X pins σ H s) (h:SqL X.K H a xs):∃f,Vals xs f/\PlainL s.heap a f.toArray/\xs.length<=sizeLine:=by
 rcases h with h|⟨o,f,n,l,u,p,g,v,r⟩
 ·obtain⟨z,f,n,r,e⟩:=h.ok I.hok;exact⟨f,r,⟨_,n,e,rfl,rfl,rfl⟩,z⟩
 ·refine⟨f.toList,r,⟨o,n,I.kIn a o l,u,p,by simpa using g⟩,?_⟩;have e:=r.length
  grind
def Inv.tuple (I:Inv X pins σ H s) (h:SqT X.K H a xs):∃f,Vals xs f/\IsTup s.heap a f.toArray/\xs.length<=sizeLine:=by
 rcases h with h|⟨o,f,n,l,u,g,v,r⟩
 ·obtain⟨z,f,r,p⟩:=h.ok I.hok
  grind
 ·refine⟨f.toList,r,⟨o,I.kIn a o l,u,n,by simpa using g⟩,?_⟩;have e:=r.length
  grind
def Inv.list_inj (I:Inv X pins σ H s) (h:SqL X.K H a xs) (p:SqL X.K H a ys):xs=ys:=by
 obtain⟨g,r,⟨o,n,e,_,_,d⟩,_⟩:=I.list h;obtain⟨f,l,⟨u,v,w,_,_,x⟩,_⟩:=I.list p
 have:g=f:=by grind
 subst this;exact r.inj l
def Inv.tuple_inj (I:Inv X pins σ H s) (h:SqT X.K H a xs) (p:SqT X.K H a ys):xs=ys:=by
 obtain⟨g,r,⟨o,e,_,n,d⟩,_⟩:=I.tuple h;obtain⟨f,l,⟨u,w,_,v,x⟩,_⟩:=I.tuple p
 have:g=f:=by grind
 subst this;exact r.inj l
end
noncomputable abbrev Cx.wish (X:Cx) (E:Yb):Cx:={X with xe:=E}
noncomputable abbrev Cx.nox (X:Cx):Cx:=X.wish λ_ _=>False
def Cx.Ok.wish {X:Cx} (ok:X.Ok) (E:Yb):(X.wish E).Ok:=
 ⟨ok.mod,ok.kind,ok.glob,ok.blt,ok.above,ok.inj,ok.has,ok.cab,ok.hd,ok.frames,ok.stk,ok.exf,ok.bs,ok.bsz,ok.noex,ok.exfs,ok.funs,ok.frf⟩
def Cx.Ok.unwish {X:Cx}{E} (ok:(X.wish E).Ok):X.Ok:=
 ⟨ok.mod,ok.kind,ok.glob,ok.blt,ok.above,ok.inj,ok.has,ok.cab,ok.hd,ok.frames,ok.stk,ok.exf,ok.bs,ok.bsz,ok.noex,ok.exfs,ok.funs,ok.frf⟩
section
variable {X:Cx}{pins:ZZ}{σ:St}{H:Hp}{s:Shared}{E:Yb}
def Inv.wish (I:Inv X pins σ H s) (E:Yb):Inv (X.wish E) pins σ H s:=⟨I.ok.wish E,I.os,I.bare,I.base,I.loc,I.cell,I.free,I.freeC,I.pin,I.hok,I.len⟩
def Inv.unwish (I:Inv (X.wish E) pins σ H s):Inv X pins σ H s:=⟨I.ok.unwish,I.os,I.bare,I.base,I.loc,I.cell,I.free,I.freeC,I.pin,I.hok,I.len⟩
def SP.unwish (h:SP (X.wish E) pins D f n):SP X pins D f n:=by
 cases f with
 |ret u=>obtain⟨v,g,l,I,r,q⟩:=h;exact⟨v,g,l,I.unwish,r,q⟩
 |_=>obtain⟨g,l,I,q⟩:=h;exact⟨g,l,I.unwish,q⟩
def PSs.nox {st t} (h:PSs X.nox st t):PSs X st t:=λpins s σ H D I hw=>
 QI (h pins s σ H D (I.wish _) hw) (λ_ _ q=>q.unwish) λ_ _ z=>False.elim z
end
section
variable {X:Cx}{st:Stmt}{rest:Yh}{t u:TS}{e:Expr}{te:TE}{pos:Pos}
noncomputable def IZ:TS:=λD f H=>D.nx f H
noncomputable def GE(t u:TS):TS:=λD f H=>t {D with nx:=u D} f H
def Bm:PSs X [] IZ:=λ_ _ f H _ I h=>J1 ⟨f,H,I,h⟩
def Zqd(p:PS X st t)(o:PSs X rest u):PSs X (st::rest) (GE t u):=by
 intro pins s l H D I h;refine wpAny_execs_cons (thn (p pins s l H {D with nx:=u D} I h) λf n q=>?_)
 cases f with
 |next=>
  obtain⟨g,v,r,q⟩:=q;exact o pins n g v D r q
 |_=>exact q
def NY(l:PS X st t):PSs X [st] t:=by
 intro pins s g H D I h;refine wpAny_execs_cons (thn (l pins s g H D I h) λf n q=>?_);cases f with
 |next=>exact J1 q
 |_=>lia
def Inv.quiet {f:St}{H}{s} (I:Inv X pins f H s):interactive X.env=false:=by simp[interactive,I.ok.kind]
noncomputable def TK(te:TE):TS:=λD f H=>te f H λ_ g=>D.nx f g
def Kt(l:PE X e te)(hs:autoParam (swapsWith e none pos.line X.env=pure false) au_0):PS X (.Expr e pos) (TK te):=by
 intro pins s f H D I h;exact wpAny_Expr_any (thn (l pins s f H _ I h) λv p ⟨x,o,n,r,g⟩=>⟨f,o,n,g⟩) I.quiet hs
noncomputable def NH(te:TE):TS:=λD f H=>te f H D.rt
def Kj(n:PE X e te):PS X (.Return (some e) pos) (NH te):=by
 intro pins s f H D I h;exact wpAny_Return_some (thn (n pins s f H _ I h) λv r ⟨x,p,o,g,l⟩=>⟨x,f,p,o,g,l⟩)
noncomputable def DS(c:TT)(t u:TS):TS:=λD f H=>c f H λb g=>if b=true then t D f g else u D f g
def BH{tc}(p:PT X c tc)(v:PSs X a t)(r:PSs X b u):PS X (.If c a b pos) (DS tc t u):=by
 intro pins s f H D I h;refine wpAny_If (thn (p pins s f H _ I h) ?_);rintro d g ⟨o,n,l⟩;cases d with
 |true=>exact v pins g f o D n l
 |false=>exact r pins g f o D n l
noncomputable def M9:TS:=λ_ _ _=>False
def Zkp:PS X st M9:=λ_ _ _ _ _ _ h=>h.elim
end
abbrev TG:=V->St->Hp->(St->Hp->Prop)->Prop
abbrev TGs:=List V->St->Hp->(St->Hp->Prop)->Prop
def PG(X:Cx)(target:Expr)(t:TG):Prop:=
 ∀(pins:ZZ) (s:Shared) (g:St) (H:Hp) (v:V) (u:Value) (Q:St->Hp->Prop),Inv X pins g H s->RelV v u->t v g H Q->
  wpAny (model X.prog X.w) X.A (assign target X.env u) (λ_ l=>∃f h,Inv X pins f h l/\Q f h) X.xe s
def PGs(X:Cx)(o:Yg)(t:TGs):Prop:=
 ∀(pins:ZZ) (s:Shared) (g:St) (H:Hp) (h:List V) (l:Ye) (Q:St->Hp->Prop),Inv X pins g H s->Vals h l->t h g H Q->
  wpAny (model X.prog X.w) X.A (assignInOrder ((assignEach o X.env).map (·.2)) l) (λ_ p=>∃f n,Inv X pins f n p/\Q f n) X.xe s
abbrev HR:=V->V->V->Hp->(Hp->Prop)->Prop
def Zaa(X:Cx)(t:HR):Prop:=
 ∀(pins:ZZ) (s:Shared) (f:St) (H:Hp) (o i v:V) (g h u:Value) (Q:Hp->Prop),Inv X pins f H s->RelV o g->RelV i h->RelV v u->t o i v H Q->
  wpAny (model X.prog X.w) X.A (setItem g h u) (λ_ n=>∃l,Inv X pins f l n/\Q l) X.xe s
abbrev TIp:=V->V->Hp->VK->Prop
def PIp(X:Cx)(g:Operator)(t:TIp):Prop:=
 ∀(pins:ZZ) (s:Shared) (f:St) (H:Hp) (x y:V) (v u:Value) (Q:VK),Inv X pins f H s->RelV x v->RelV y u->t x y H Q->
  wpAny (model X.prog X.w) X.A (inplaceOp g v u) (EP X pins f Q) X.xe s
section
variable {X:Cx}{pos:Pos}
noncomputable def Sb(i:Nat):TG:=λv f H Q=>Q (f.set i<|some v) H
def AF(l:X.N.Nodup)(f:X.N[i]?=some x)(hx:Loc X.env.scope x)(g:autoParam (X.fn x=true\/X.env.scope.names.lookup x=some .local) au_2):PG X (.Name x pos) (Sb i):=by
 intro pins s o H v u Q I r h;exact wpAny_assign_Name (FF I l f hx r (λp n=>⟨_,H,n,h⟩) g)
noncomputable def OE:TGs:=λg f H Q=>g=[]/\Q f H
noncomputable def IR(t:TG)(u:TGs):TGs:=λh g H Q=>∃v r,h=v::r/\t v g H λf l=>u r f l Q
def Fl:PGs X [] OE:=by
 intro pins s f H g l Q I r h;obtain⟨e,h⟩:=h;exact assignInOrder_nil ⟨f,H,I,h⟩
def NB{t u}(w:PG X e t)(p:PGs X es u)(hs:autoParam ((assignEach (e::es) X.env).map (·.2)=assign e X.env::(assignEach es X.env).map (·.2)) au_0):PGs X (e::es) (IR t u):=by
 intro pins s g H A C Q I r h;obtain⟨v,B,x,h⟩:=h;subst x;cases r with
 |cons r n=>
  rw[hs];refine assignInOrder_cons (thn (w pins s g H _ _ _ I r h) ?_);rintro _ l ⟨f,z,y,o⟩;exact p pins l f z _ _ Q y n o
noncomputable def Cd(K:ZW)(n:Nat)(t:TGs):TG:=λv f H Q=>∃a xs,v=.ref a/\SqT K H a xs/\xs.length=n/\t xs f H Q
def Zmo{k t n}(z:X.calm=true)(h:PGs X es t)(x:autoParam ((assignEach es X.env).length=n) au_0)(f:autoParam ((assignEach es X.env).findIdx? (·.1)=none) au_0):PG X (.Tuple es k pos) (Cd X.K n t):=by
 intro pins s g H v u Q I r hw;obtain⟨a,xs,B,hq,y,hw⟩:=hw;subst B;cases r
 obtain⟨p,l,w,E⟩:=I.tuple hq;refine assign_Tuple_tuple (I.ok.hd z) w (by simp[x,←y,l.length]) f λA hx=>?_;have C:Inv X pins g H {s with heap:=A}:=I.kept λb o e=>hx b o (Qm<|WZ e) e
 exact h pins _ g H xs _ Q C (by lia) hw
noncomputable def G8(g ti:TE)(t:HR):TG:=λv f H Q=>g f H λo n=>ti f n λi l=>t o i v l λh=>Q f h
def Zho{n ti t}(G:PE X o n)(J:PE X i ti)(hs:Zaa X t)
  (L:autoParam (∀v,assign (.Subscript o i pos) X.env v=(do
   let f ←holding [v] (eval o X.env)
   let g ←holding [v,f] (eval i X.env)
   standAt pos
   holding [v,f,g] (setItem f g v)
   release [v,f,g] [])) au_3):PG X (.Subscript o i pos) (G8 n ti t):=by
 intro pins s l H v u Q I r h;rw[L];refine WK (Vr<|thn (G pins s l H _ I h) ?_);rintro f w ⟨x,H1,T,A,E⟩;refine WK (Vr<|thn (J pins w l H1 _ T E) ?_);rintro g p ⟨y,Y,N,z,C⟩;refine WK (wpAny_standAt<|WK<|Vr<|thn (hs pins p l Y x y v f g u _ N A z r C) ?_);rintro _ s3 ⟨U,M,B⟩;exact wpAny_release ⟨l,U,M,B⟩
noncomputable def N5(te:TE)(g:TG):TS:=λD f H=>te f H λx h=>g x f h D.nx
def Zby{f e te g}(u:PE X e te)(r:PG X f g)(hs:autoParam (swapsWithSole [f] e pos.line X.env=pure false) au_0)(hw:autoParam (swappedStores [f] e X.env=pure none) au_0)(w:autoParam ((assignEach [f] X.env).map (·.2)=[assign f X.env]) au_0):PS X (.Assign [f] e pos) (N5 te g):=by
 intro pins s l H D I h;refine wpAny_Assign_stores (thn (u pins s l H _ I h) ?_) hs hw;rintro v n ⟨x,z,y,o,p⟩;rw[w];exact thn (r pins n l z x v _ y o p) λ_ A q=>q
def Zcn(u:X.N.Nodup)(o:X.N[i]?=some x)(hx:Loc X.env.scope x)(r:PE X e te)(hs:autoParam (swapsWith e (some<|.Name x f) pos.line X.env=pure false) au_0)(p:autoParam (X.fn x=true\/X.env.scope.names.lookup x=some .local) au_2) :
  PS X (.Assign [.Name x f] e pos) (N5 te<|Sb i):=by
 intro pins s g H D I h;refine wpAny_Assign_Name (thn (r pins s g H _ I h) λv C ⟨y,A,z,l,n⟩=>?_) hs;exact FF z u o hx l (λB w=>⟨_,A,w,n⟩) p
noncomputable def Rc(i:Nat)(te:TE)(ti:TIp):TS:=λD f H=>∃x,f[i]?=some (some x)/\te f H λy h=>ti x y h λz g=>D.nx (f.set i<|some z) g
def Zpo(hN:X.N.Nodup)(G:X.N[i]?=some x)(hx:Loc X.env.scope x)(he:PE X e te)(Y:PIp X E ti)(hf:autoParam (X.fn x=true\/X.env.scope.names.lookup x=some .local) au_2) :
  PS X (.AugAssign (.Name x C) E e pos) (Rc i te ti):=by
 intro pins s B H D I h;obtain⟨v,e1,h⟩:=h;obtain⟨m,hn,hl⟩:=I.loc;have p:Vis X.env.scope x:=by rcases hx with k|k;exact .inl k;exact .inr (.inl k)
 obtain⟨u,r,l⟩:=hl i x v G e1 p;refine wpAny_AugAssign_Name ?_
 have J:wpAny (model X.prog X.w) X.A (eval e X.env) (λw o=>wpAny (model X.prog X.w) X.A (inplaceOp E u w) (λr n=>wpAny (model X.prog X.w) X.A (storeName X.env x r) (λ_=>SP X pins D .next) X.xe n) X.xe o) X.xe s:=by
  refine thn (he pins s B H _ I h) λw L ⟨y,H1,I1,Q,U⟩=>?_;refine thn (Y pins L B H1 v y u w _ I1 r Q U) λz s2 ⟨zv,H2,I2,M,T⟩=>?_;exact FF I2 hN G hx M (λs3 I3=>⟨_,H2,I3,T⟩) hf
 rcases l with⟨f,hm⟩|⟨f,c,hc,g⟩
 ·exact wpAny_loadName_local I.ok.kind f hn hm J
 ·rcases f with f|f
  ·exact wpAny_loadName_cell I.ok.kind f hc g J
  ·rcases hx with k|k
   ·have:X.env.scope.names.lookup x=some .free:=f
    grind
   ·have:X.env.scope.names.lookup x=some .free:=f
    rw[k]at this;cases this
noncomputable def ipI(f:Int->Int->Int):TIp:=λx y H Q=>∃i j,x=.int i/\y=.int j/\Q (.int<|f i j) H
def Do:PIp X .Add (ipI λi j=>i+j):=by
 intro pins s o H x y v u Q I g f h;obtain⟨i,j,n,l,q⟩:=h;subst n;subst l;obtain⟨t,rfl⟩:=g;obtain⟨p,rfl⟩:=f;exact iadd_int ⟨.int _,H,I.tok _,⟨_,rfl⟩,q⟩
noncomputable def L8(c:TT)(o:TS):TS:=λD f H=>∃W:Nat->St->Hp->Prop,(∃m,W m f H)/\∀m f H,W m f H->
 c f H λb l=>if b=true then ∃N:St->Hp->Prop,(∀g n,N g n->∃h,h<m/\W h g n)/\o {D with nx:=N,ct:=N,bk:=D.nx} f l else D.nx f l
def Zhx{tc p}(u:PassesOwn (model X.prog X.w) X.A X.env X.xe)(U:PT X c tc)(Y:PSs X body p):PS X (.While c body [] pos) (L8 tc p):=by
 intro pins s E H D I h;obtain⟨W,⟨T,J⟩,turn⟩:=h;refine wpAny_While (codeAny_whileLoop (λn Q=>∃l B,Inv X pins l B Q/\W n l B) ?_ T ⟨E,H,I,J⟩);rintro n M ⟨g,z,I1,G⟩;refine V2 u (thn (U pins M g z _ I1<|turn n g z G) λb L ⟨y,x,o⟩=>?_);cases b with
 |true=>
  obtain⟨N,hN,o⟩:=o;refine V2 u (thn (Y pins L g y _ x o) λf s3 r=>?_);cases f with
  |brk|ret v=>exact r
  |_=>
   obtain⟨C,H3,I3,n3⟩:=r
   grind
 |false=>
  exact J1 ⟨g,y,x,o⟩
end
structure It where
 go:Nat->Hp->Prop
 yld:Nat->Hp->V->Hp->Prop
 stop:Nat->Hp->Prop
def Nz(X:Cx)(pins:ZZ)(H:Hp)(b:Addr):Prop:=
 H b=none/\b≠X.env.locals/\b∉X.fs/\(b∈X.ex\/X.s₀.heap.objs.size<=b)/\(∀x c,X.env.cells.lookup x=some c->c≠b)/\∀p∈X.pn++pins,p.1≠b
def Inv.fpOk {g:St}{H H'}{s}{b:Addr} (I:Inv X pins g H s) (f:s.heap.objs.size<=b) (l:H' b=none):Nz X pins H' b:=by
 refine⟨l,J2 (Q1 I.lt f),I.nofs f,.inr (WV I.sz f),λx c e z=>?_,λp h z=>?_⟩
 ·obtain⟨v,q⟩:=I.cell x c e;exact absurd (Q1 q.lt<|by grind) (QY _)
 ·exact absurd (Q1 (WZ (I.pin p h).1)<|by grind) (QY _)
structure Turn (P:Program) (w:World) (K:ZW) (tg:Expr) (J:It) (fp:List Addr) (it:Addr) (tn:Nat->Heap->Prop):Prop where
 mem:it∈fp
 obj:∀i h,tn i h->∀b∈fp,∃o,h.get? b=some o/\∀v,o.data≠.cell v
 keep:∀i h h',tn i h->(∀b∈fp,∀o,h.get? b=some o->h'.get? b=some o)->tn i h'
 item:∀(X:Cx),X.prog=P->X.w=w->X.K=K->X.calm=true->∀(i:Nat) (pins:ZZ) (s:Shared) (σ:St) (H:Hp) (E:Yb),Inv X pins σ H s->(∀b∈fp,Nz X pins H b)->tn i s.heap->J.go i H->
  wpAny (model P w) X.A (pyNext<|.ref it) (λr s1=>∃u,r=some u/\
   wpAny (model P w) X.A (letOwnedTupleGo tg (.ref it) u) (λ_ s2=>∃x H',Inv X pins σ H' s2/\RelV x u/\J.yld i H x H'/\tn (i+1) s2.heap/\∀b∈fp,H' b=none) E s1) E s
 done:∀(X:Cx),X.prog=P->X.w=w->X.K=K->X.calm=true->∀(i:Nat) (pins:ZZ) (s:Shared) (σ:St) (H:Hp) (E:Yb),Inv X pins σ H s->(∀b∈fp,Nz X pins H b)->tn i s.heap->J.stop i H->
  wpAny (model P w) X.A (pyNext<|.ref it) (λr s1=>r=none/\Inv X pins σ H s1) E s
 self:∀(A:Around) (i:Nat) (s:Shared) (Q:Yb) (E:Yb),tn i s.heap->Q (.ref it) s->wpAny (model P w) A (pyIter<|.ref it) Q E s
abbrev TI:=St->Hp->(It->Hp->Prop)->Prop
def PIE(X:Cx)(pins:ZZ)(o:St)(p:Expr)(R:It->Hp->Prop)(f:Value)(h:Shared):Prop:=
 ∃(l:Addr) (n:List Addr) (tn:Nat->Heap->Prop) (J:It) (g:Hp),f=.ref l/\Inv X pins o g h/\Turn X.prog X.w X.K p J n l tn/\tn 0 h.heap/\(∀b∈n,Nz X pins g b)/\R J g
def PI(X:Cx)(h iter:Expr)(g:TI):Prop:=
 ∀(pins:ZZ) (s:Shared) (f:St) (H:Hp) (R:It->Hp->Prop),Inv X pins f H s->g f H R->
  wpAny (model X.prog X.w) X.A (eval iter X.env) (λv l=>wpAny (model X.prog X.w) X.A (pyIter v) (PIE X pins f h R) X.xe l) X.xe s
def CK {s g h u o n vs Q} (l : s.heap.get? h = some o) (r : o.cls = .type n) (p : o.data = .fields vs)
    (v : ["enumerate", "zip", "dict_itemiterator", "dict_reverseitemiterator", "odict_iterator", "itertools.zip_longest", "itertools.pairwise"].contains n = false) (f : Q () s) : wpAny M A (letOwnedTupleGo g (.ref h) u) Q E s := by
  cases g <;> first
    | exact WR f
    | (cases u <;> first
        | exact WR f
        | (refine WK (wpAny_load l ?_)
           rw [r, p]
           show wpAny M A (if (["enumerate", "zip", "dict_itemiterator", "dict_reverseitemiterator", "odict_iterator", "itertools.zip_longest", "itertools.pairwise"].contains n && vs[0]? == some (rawInt _)) = true then _ else _) Q E s
           rw [WO (by grind)]
           exact WR f))
noncomputable def Itl(K:ZW)(a:Addr):It:=
 ⟨λi H=>∃xs x,SqL K H a xs/\xs[i]?=some x,λi H x f=>f=H/\∀xs,SqL K H a xs->xs[i]?=some x,λi H=>∃xs,SqL K H a xs/\xs.length<=i⟩
noncomputable def Itt(K:ZW)(a:Addr):It:=
 ⟨λi H=>∃xs x,SqT K H a xs/\xs[i]?=some x,λi H x f=>f=H/\∀xs,SqT K H a xs->xs[i]?=some x,λi H=>∃xs,SqT K H a xs/\xs.length<=i⟩
noncomputable def Itr(lo:Int)(n:Nat):It:=⟨λi _=>i<n,λi H x f=>f=H/\x=.int (lo+i),λi _=>n<=i⟩
def Zdp{K tg}(a it:Addr):Turn P w K tg (Itl K a) [it] it (λi h=>h.IsListIter it a i) where
 mem:=by simp
 obj:=λi h st b hb=>by
  have e:b=it:=by simpa using hb
  subst e;obtain⟨o,e,c,d⟩:=st;exact⟨o,e,λv z=>by rw[d]at z;cases z⟩
 keep:=λi h h' st k=>st.at λo e=>k it (by simp) o e
 item:=by
  intro X hP hw hK hc i pins s σ H E I hf st hg;subst hP hw hK;obtain⟨xs,x,hq,hx⟩:=hg;obtain⟨its,rv,p,hz⟩:=I.list hq;obtain⟨u,hu,ru⟩:=rv.get hx;obtain⟨f0,f1,f2,f3,f4,f5⟩:=hf it (by simp);refine wpAny_pyNext_list_item st p.isList (by simpa using hu) λh' st' sb=>?_;have I1:Inv X pins σ H {s with heap:=h'}:=I.turned (λb o hb e=>(sb.2 b hb).trans e) f0 f1 f3 f4 f5
  obtain⟨o,e,c,d⟩:=id st';exact⟨u,rfl,CK e c d (by decide) ⟨x,H,I1,ru,⟨rfl,λys hy=>by rw[I.list_inj hy hq];exact hx⟩,st',λb hb=>(hf b hb).1⟩⟩
 done:=by
  intro X hP hw hK hc i pins s σ H E I hf st hg;subst hP hw hK;obtain⟨xs,hq,hx⟩:=hg;obtain⟨its,rv,p,hz⟩:=I.list hq;obtain⟨f0,f1,f2,f3,f4,f5⟩:=hf it (by simp);have hl:=rv.length;exact wpAny_pyNext_list_end (I.ok.hd hc) st p.isList (by simp;lia) λh' eb=>⟨rfl,I.turned (λb o hb e=>eb b o hb e) f0 f1 f3 f4 f5⟩
 self:=λ_ _ _ _ _ st h=>wpAny_pyIter_listiter st h
def Zbw{K tg}(a it:Addr):Turn P w K tg (Itt K a) [it] it (λi h=>h.IsTupleIter it a i) where
 mem:=by simp
 obj:=λi h st b hb=>by
  have e:b=it:=by simpa using hb
  subst e;obtain⟨o,e,c,d⟩:=st;exact⟨o,e,λv z=>by rw[d]at z;cases z⟩
 keep:=λi h h' st k=>st.at λo e=>k it (by simp) o e
 item:=by
  intro X hP hw hK hc i pins s σ H E I hf st hg;subst hP hw hK;obtain⟨xs,x,hq,hx⟩:=hg;obtain⟨its,rv,p,hz⟩:=I.tuple hq;obtain⟨u,hu,ru⟩:=rv.get hx;obtain⟨f0,f1,f2,f3,f4,f5⟩:=hf it (by simp);refine wpAny_pyNext_tuple_item st p (by simpa using hu) λh' st' sb=>?_;have I1:Inv X pins σ H {s with heap:=h'}:=I.turned (λb o hb e=>(sb.2 b hb).trans e) f0 f1 f3 f4 f5
  obtain⟨o,e,c,d⟩:=id st';exact⟨u,rfl,CK e c d (by decide) ⟨x,H,I1,ru,⟨rfl,λys hy=>by rw[I.tuple_inj hy hq];exact hx⟩,st',λb hb=>(hf b hb).1⟩⟩
 done:=by
  intro X hP hw hK hc i pins s σ H E I hf st hg;subst hP hw hK;obtain⟨xs,hq,hx⟩:=hg;obtain⟨its,rv,p,hz⟩:=I.tuple hq;obtain⟨f0,f1,f2,f3,f4,f5⟩:=hf it (by simp);have hl:=rv.length;exact wpAny_pyNext_tuple_end (I.ok.hd hc) st p (by simp;lia) λh' eb=>⟨rfl,I.turned (λb o hb e=>eb b o hb e) f0 f1 f3 f4 f5⟩
 self:=λ_ _ _ _ _ st h=>wpAny_pyIter_tupleiter st h
def Zgn{K tg}(it:Addr)(lo:Int)(n:Nat):Turn P w K tg (Itr lo n) [it] it (λi h=>IsRangeIter h it (lo+(i:Nat)*1) ((n:Int)-(i:Nat)) 1) where
 mem:=by simp
 obj:=λi h st b hb=>by
  have e:b=it:=by simpa using hb
  subst e
  exact⟨_,st,λv z=>by
   cases z⟩
 keep:=λi h h' st k=>k it (by simp) _ st
 item:=by
  intro X hP hw hK hc i pins s σ H E I hf st hg;subst hP hw hK;obtain⟨f0,f1,f2,f3,f4,f5⟩:=hf it (by simp);refine(Walks.range (prog:=X.prog) (w:=X.w) (I.ok.hd hc) it lo 1 n).item i s _ _ hg st λv h' tk hv st' kk=>?_;obtain⟨t,rfl⟩:=hv;have I1:Inv X pins σ H {s with heap:=h',toks:=tk}:=I.turned (λb o hb e=>kk b o (by simpa using hb) e) f0 f1 f3 f4 f5
  refine⟨_,rfl,CK st' rfl rfl (by decide) ⟨.int (lo+i),H,I1,⟨t,?_⟩,⟨rfl,rfl⟩,st',λb hb=>(hf b hb).1⟩⟩;rw[Int.mul_one]
 done:=by
  intro X hP hw hK hc i pins s σ H E I hf st hg;obtain⟨f0,f1,f2,f3,f4,f5⟩:=hf it (by simp);exact wpAny_pyNext_range_end (I.ok.hd hc) st (by have:n<=i:=hg;lia) λh' eb=>⟨rfl,I.turned (λb o hb e=>eb b o hb e) f0 f1 f3 f4 f5⟩
 self:=λ_ _ _ _ _ st h=>wpAny_pyIter_rangeiter st h
section
variable {X:Cx}{tg:Expr}
noncomputable def B7(K:ZW)(h:TE):TI:=λg H R=>h g H λx f=>∃a,x=.ref a/\(∃xs,SqL K f a xs)/\R (Itl K a) f
noncomputable def En(K:ZW)(h:TE):TI:=λg H R=>h g H λx f=>∃a,x=.ref a/\(∃xs,SqT K f a xs)/\R (Itt K a) f
def RM(z:PE X l r):PI X tg l (B7 X.K r):=by
 intro pins s n H R I h;refine thn (z pins s n H _ I h) λv g ⟨x,A,f,u,w⟩=>?_;obtain⟨a,e,⟨xs,hq⟩,q⟩:=w;subst e;cases u
 obtain⟨y,B,p,C⟩:=f.list hq;refine wpAny_pyIter_list p.isList ?_;refine⟨g.heap.objs.size,[g.heap.objs.size],_,_,A,rfl,f.kept λb o e=>WS _ e,Zdp a _,⟨_,Qa _ rfl,rfl,rfl⟩,λb E=>?_,q⟩;have e:b=g.heap.objs.size:=by grind
 subst e;exact f.fpOk (WT _) (f.hok.fresh<|WT _)
def Zlg(z:PE X l r):PI X tg l (En X.K r):=by
 intro pins s n H R I h;refine thn (z pins s n H _ I h) λv g ⟨x,A,f,u,w⟩=>?_;obtain⟨a,e,⟨xs,hq⟩,q⟩:=w;subst e;cases u
 obtain⟨y,B,p,C⟩:=f.tuple hq;refine wpAny_pyIter_tuple p ?_;refine⟨g.heap.objs.size,[g.heap.objs.size],_,_,A,rfl,f.kept λb o e=>WS _ e,Zbw a _,⟨_,Qa _ rfl,rfl,rfl⟩,λb E=>?_,q⟩;have e:b=g.heap.objs.size:=by grind
 subst e;exact f.fpOk (WT _) (f.hok.fresh<|WT _)
def HL{g:St}{H}{s}{R}{E}{lo f}{t u v}{tk}(I:Inv X pins g H s)(x:-(2 ^ 62)<=lo)(r:lo<2 ^ 62)(p:-(2 ^ 62)<=f)(n:f<2 ^ 62)(q:R (Itr lo (f-lo).toNat) H):wpAny (model X.prog X.w) X.A (pyIter<|.ref s.heap.objs.size) (PIE X pins g tg R) E {s with heap:=s.heap.push {cls:=.type "range",data:=.fields #[.int lo t,.int f u,.int 1 v]},toks:=tk}:=by
 refine wpAny_pyIter_range (IsRange.new ..) (small_one x r p n) ?_;have h:Inv X pins g H {s with heap:=s.heap.push {cls:=.type "range",data:=.fields #[.int lo t,.int f u,.int 1 v]},toks:=tk}:=I.kept λb o e=>WS _ e
 refine⟨(s.heap.push {cls:=.type "range",data:=.fields #[.int lo t,.int f u,.int 1 v]}).objs.size,[(s.heap.push {cls:=.type "range",data:=.fields #[.int lo t,.int f u,.int 1 v]}).objs.size],_,_,H,rfl,
  h.kept λb o e=>WS _ e,Zgn _ lo (f-lo).toNat,?_,λb l=>?_,q⟩
 ·have z:lo+((0:Nat):Int)*1=lo:=by simp
  have y:(((f-lo).toNat:Nat):Int)-((0:Nat):Int)=Builtin.Range.rangeSize lo f 1:=by rw[rangeSize_one];split<;>lia
  rw[z,y];exact Qa _ rfl
 ·have e:b=(s.heap.push {cls:=.type "range",data:=.fields #[.int lo t,.int f u,.int 1 v]}).objs.size:=by simpa using l
  subst e;exact h.fpOk (WT _) (h.hok.fresh<|WT _)
noncomputable def Ow(h:TA):TI:=λf H R=>h f H λg l=>∃j:Int,g=[.int j]/\-(2 ^ 62)<=j/\j<2 ^ 62/\R (Itr 0 j.toNat) l
noncomputable def Gv(h:TA):TI:=λf H R=>h f H λg l=>∃i j:Int,g=[.int i,.int j]/\(-(2 ^ 62)<=i/\i<2 ^ 62/\-(2 ^ 62)<=j/\j<2 ^ 62)/\R (Itr i (j-i).toNat) l
def Zq5(w:Gl X "range")(v:X.mg "range"=none)(x:PA X [a] l)(hs:autoParam (starEach [a] X.env=[(false,eval a X.env)]) au_0):PI X tg (.Call (.Name "range" p) [a] [] pos) (Ow l):=by
 intro pins s g H R I h;refine Call_ (Sr I w v boot_range<|Vz (thn (x pos pins s g H _ I h) λA B ⟨z,C,y,o,f⟩=>?_) hs rfl);obtain⟨j,e,f,u,q⟩:=f;subst e;cases o with
 |cons r n=>
  cases n
  obtain⟨t,rfl⟩:=r;exact call_range_1 (HL y (by lia) (by lia) f u<|by grind)
def Zkx{p pos}(A:Gl X "range")(z:X.mg "range"=none)(B:PA X [a,b] o)(hs:autoParam (starEach [a,b] X.env=[(false,eval a X.env),(false,eval b X.env)]) au_0)(l:autoParam (starEach [b] X.env=[(false,eval b X.env)]) au_0) :
  PI X tg (.Call (.Name "range" p) [a,b] [] pos) (Gv o):=by
 intro pins s n H R I h;refine Call_ (Sr I A z boot_range<|Vz (thn (B pos pins s n H _ I h) λG L ⟨E,M,C,u,g⟩=>?_) (by grind)<|by rw[l];rfl);obtain⟨i,j,e,⟨g,y,x,w⟩,q⟩:=g;subst e;cases u with
 |cons r f=>
  cases f with
  |cons v f=>
   cases f
   obtain⟨t,rfl⟩:=r;obtain⟨J,rfl⟩:=v;exact call_range_2 (HL C g y x w q)
noncomputable def M5(p:TI)(g:TG)(r:TS):TS:=λD f H=>p f H λJ u=>∃W:Nat->Nat->St->Hp->Prop,(∃m,W 0 m f u)/\∀i m f H,W i m f H->
 (J.stop i H/\D.nx f H)\/(J.go i H/\∃N:St->Hp->Prop,(∀h l,N h l->∃o,o<m/\W (i+1) o h l)/\∀x l,J.yld i H x l->g x f l λn s=>r {D with nx:=N,ct:=N,bk:=D.nx} n s)
noncomputable def Bs(f:List Addr)(h:Heap):ZZ:=f.filterMap λb=>(h.get? b).map λo=>(b,o)
def FM{b o}(f:b∈g)(e:h.get? b=some o):(b,o)∈Bs g h:=JJ.mpr ⟨b,f,by rw[e];rfl⟩
def Zl6(f:p∈Bs g h):p.1∈g/\h.get? p.1=some p.2:=by
 obtain⟨b,l,e⟩:=JJ.mp f;cases q:h.get? b with
 |_=>grind
def Inv.pinned {f:St}{H}{s}{fp} (I:Inv X pins f H s) (h:∀b∈fp,Nz X pins H b) (n:∀b∈fp,∃o,s.heap.get? b=some o/\∀v,o.data≠.cell v):Inv X (pins++Bs fp s.heap) f H s:=
 I.pins_of λp g=>(Qi.mp g).elim (λz=>I.pin p (Q0 _ z)) λz=>by
  obtain⟨l,e⟩:=Zl6 z;obtain⟨f0,f1,r,_⟩:=h p.1 l
  grind
def Inv.unpinned {f:St}{H}{s} (I:Inv X (pins++h) f H s):Inv X pins f H s:=I.pins_of λp g=>I.pin p (Q0 _<|QT _ g)
def Zfq{wi g tb pos}(Q:PassesOwn (model X.prog X.w) X.A X.env X.xe)(hc:X.calm=true)(hi:PI X tg iter wi)(hg:PG X tg g)(z:PSs X body tb)(hs:autoParam (∀x,foldedSetIterable iter X.env x=pure x) au_3):PS X (.For tg iter body [] pos) (M5 wi g tb):=by
 intro pins s σ H D I h;refine wpAny_For (thn (hi pins s σ H _ I h) λv s1 h1=>thn h1 λitv s2 h2=>?_) hs;obtain⟨it,Y,tn,J,H2,e,I2,T,st2,f2,W,⟨m0,w0⟩,turn⟩:=h2;subst e;have stat:∀{C:Hp},(∀b∈Y,C b=none)->∀b∈Y,Nz X pins C b:=λhn b z=>⟨hn b z,(f2 b z).2⟩;refine codeAny_forLoop_any (λn s'=>∃i y C,Inv X pins y C s'/\tn i s'.heap/\(∀b∈Y,C b=none)/\W i n y C) ?_ m0 ⟨0,σ,H2,I2,st2,λb z=>(f2 b z).1,w0⟩;rintro n s3 ⟨i,p,H3,I3,M,U,w3⟩;rcases turn i n p H3 w3 with⟨stop,qn⟩|⟨go,N,hN,step⟩
 ·refine V2 Q (thn (T.done X rfl rfl rfl hc i pins s3 p H3 X.xe I3 (stat U) M stop) ?_);rintro r s4 ⟨hr,I4⟩;subst hr;exact J1 ⟨p,H3,I4,qn⟩
 ·refine V2 Q (thn (T.item X rfl rfl rfl hc i pins s3 p H3 X.xe I3 (stat U) M go) ?_);rintro r s4 ⟨u,hr,h4⟩;subst hr;refine V2 Q (thn h4 ?_);rintro _ s5 ⟨x,H5,I5,r5,y5,G,fr5⟩;refine V2 Q (thn (hg _ s5 p H5 x u _ (I5.pinned (stat fr5)<|T.obj _ _ G) r5<|step x H5 y5) ?_);rintro _ s6 ⟨σ6,H6,I6,q6⟩;refine V2 Q (thn (z _ s6 σ6 H6 _ I6 q6) λf s7 L=>?_)
  have again:∀{l:St} {B:Hp},Inv X (pins++Bs Y s5.heap) l B s7->N l B->∃m,m<n/\∃i y C,Inv X pins y C s7/\tn i s7.heap/\(∀b∈Y,C b=none)/\W i m y C:=λ{l B} E n7=>by
   obtain⟨m',hm,w7⟩:=hN l B n7;refine⟨m',hm,i+1,l,B,E.unpinned,T.keep _ _ _ G λb z o e=>(E.pin (b,o)<|Q0 _<|Q0 _<|FM z e).1,λb z=>?_,w7⟩;obtain⟨o,e,d⟩:=T.obj _ _ G b z;exact(E.pin (b,o)<|Q0 _<|Q0 _<|FM z e).2.1
  cases f with
  |brk=>obtain⟨l,B,E,L⟩:=L;exact⟨l,B,E.unpinned,L⟩
  |ret v=>obtain⟨x7,l,B,E,r7,L⟩:=L;exact⟨x7,l,B,E.unpinned,r7,L⟩
  |_=>obtain⟨l,B,E,n7⟩:=L;exact again E n7
end
abbrev R2:=V->V->Hp->VK->Prop
def OpR(X:Cx)(f:Value->Value->Sem Value)(r:R2):Prop:=
 ∀(pins:ZZ) (s:Shared) (g:St) (H:Hp) (x y:V) (v u:Value) (Q:VK),Inv X pins g H s->RelV x v->RelV y u->r x y H Q->
  wpAny (model X.prog X.w) X.A (f v u) (EP X pins g Q) X.xe s
def UnR(X:Cx)(f:Value->Sem Value)(r:V->Hp->VK->Prop):Prop:=
 ∀(pins:ZZ) (s:Shared) (g:St) (H:Hp) (x:V) (v:Value) (Q:VK),Inv X pins g H s->RelV x v->r x H Q->
  wpAny (model X.prog X.w) X.A (f v) (EP X pins g Q) X.xe s
def Kr(X:Cx)(f:Value)(r:List V->Hp->VK->Prop):Prop:=
 ∀(pins:ZZ) (s:Shared) (g:St) (H:Hp) (xs:List V) (h:Ye) (Q:VK),Inv X pins g H s->Vals xs h->r xs H Q->
  wpAny (model X.prog X.w) X.A (call f h) (EP X pins g Q) X.xe s
def Zke(X:Cx)(r:V->Hp->(Bool->Hp->Prop)->Prop):Prop:=
 ∀(pins:ZZ) (s:Shared) (f:St) (H:Hp) (x:V) (v:Value) (Q:Bool->Hp->Prop),Inv X pins f H s->RelV x v->r x H Q->
  wpAny (model X.prog X.w) X.A (truthy v) (TP X pins f Q) X.xe s
noncomputable def tOp(r:R2)(h g:TE):TE:=λf H Q=>h f H λx n=>g f n λy l=>r x y l Q
noncomputable def tUn(r:V->Hp->VK->Prop)(g:TE):TE:=λf H Q=>g f H λx h=>r x h Q
noncomputable def rI(C:Int->Int->Prop)(g:Int->Int->V):R2:=λx y H Q=>∃i j,x=.int i/\y=.int j/\C i j/\Q (g i j) H
noncomputable def rI0(g:Int->Int->V):R2:=λx y H Q=>∃i j,x=.int i/\y=.int j/\Q (g i j) H
def rU(g:Int->V):V->Hp->VK->Prop:=λx H Q=>∃i,x=.int i/\Q (g i) H
section
variable {X:Cx}{a b c:Expr}{ta tb tc:TE}{pos:Pos}
def A3(E:PE X a ta)(C:PE X b tb){pins}{s}{g:St}{H}{R:V->V->Hp->Prop}(I:Inv X pins g H s)(h:ta g H λx r=>tb g r λy o=>R x y o){Q}{f:Value->Value->Sem Value}(N:∀v u p x y o,Inv X pins g o p->RelV x v->RelV y u->R x y o->wpAny (model X.prog X.w) X.A (f v u) Q X.xe p) :
  wpAny (model X.prog X.w) X.A (eval a X.env) (λv n=>wpAny (model X.prog X.w) X.A (eval b X.env) (λu l=>wpAny (model X.prog X.w) X.A (f v u) Q X.xe l) X.xe n) X.xe s:=by
 refine thn (E pins s g H _ I h) λv z ⟨x,r,G,L,B⟩=>?_;refine thn (C pins z g r _ G B) λu p ⟨y,o,T,J,M⟩=>?_
 grind
def Nr(p:OpR X (binaryOp o) r)(z:PE X a ta)(w:PE X b tb):PE X (.BinOp a o b pos) (tOp r ta tb):=by
 intro pins s f H Q I h;exact wpAny_BinOp (A3 z w I h λv u g x y B A n l q=>p pins g f B x y v u Q A n l q)
def Kw(p:UnR X (unaryOp o) r)(u:PE X a ta):PE X (.UnaryOp o a pos) (tUn r ta):=by
 intro pins s f H Q I h;exact UnaryOp_ (thn (u pins s f H _ I h) λv g ⟨x,y,w,l,n⟩=>p pins g f y x v Q w l n)
def opI{C}{g:Int->Int->Int}(rule:∀i j t u s Q E,C i j->Q (.int (g i j) s.toks) {s with toks:=s.toks+1}->wpAny (model X.prog X.w) X.A (f (.int i t)<|.int j u) Q E s) :
  OpR X f (rI C λi j=>.int (g i j)):=by
 intro pins s r H x y v u Q I o n h;obtain⟨i,j,rfl,rfl,p,q⟩:=h;obtain⟨t,rfl⟩:=o;obtain⟨l,rfl⟩:=n;exact rule i j t l s _ _ p ⟨.int (g i j),H,I.tok _,⟨_,rfl⟩,q⟩
def Hm{g:Int->Int->Int}(rule:∀i j t u s Q E,Q (.int (g i j) s.toks) {s with toks:=s.toks+1}->wpAny (model X.prog X.w) X.A (f (.int i t)<|.int j u) Q E s) :
  OpR X f (rI0 λi j=>.int (g i j)):=by
 intro pins s p H x y v u Q I o n h;obtain⟨i,j,rfl,rfl,q⟩:=h;obtain⟨t,rfl⟩:=o;obtain⟨l,rfl⟩:=n;exact rule i j t l s _ _ ⟨.int (g i j),H,I.tok _,⟨_,rfl⟩,q⟩
def Dm{g:Int->Int->Bool}(rule:∀i j t u s Q E,Q (.bool<|g i j) s->wpAny (model X.prog X.w) X.A (f (.int i t)<|.int j u) Q E s) :
  OpR X f (rI0 λi j=>.bl (g i j)):=by
 intro pins s p H x y v u Q I o n h;obtain⟨i,j,rfl,rfl,q⟩:=h;obtain⟨t,rfl⟩:=o;obtain⟨l,rfl⟩:=n;exact rule i j t l s _ _ ⟨.bl (g i j),H,I,rfl,q⟩
def DH(i j:Int):Prop:=0<j/\j<1073741824
def Su(i j:Int):Prop:=0<=j/\j<=1000000/\i.natAbs<2 ^ 64
def CMul(i j:Int):Prop:=(-(2 ^ 64)<i/\i<2 ^ 64)\/(-(2 ^ 64)<j/\j<2 ^ 64)
def CMul.ok (h:CMul i j):IntMulOk i j:=by
 rcases h with⟨g,f⟩|⟨g,f⟩
 ·exact .of_left (intBits_le_64 g f)
 ·exact .of_right (intBits_le_64 g f)
def X6:OpR X (binaryOp .Add) (rI0 λi j=>.int (i+j)):=Hm λ_ _ _ _ _ _ _ q=>add_int q
def Kg:OpR X (binaryOp .Sub) (rI0 λi j=>.int (i-j)):=Hm λ_ _ _ _ _ _ _ q=>sub_int q
def Nd:OpR X (binaryOp .Mult) (rI CMul λi j=>.int (i*j)):=opI λ_ _ _ _ _ _ _ f q=>mul_int q f.ok
def Kl:OpR X (binaryOp .FloorDiv) (rI DH λi j=>.int (i / j)):=opI λi j _ _ _ _ _ f q=>by
 have h:=f.1;have g:=f.2;exact floordiv_int (by lia) (by rw[Int.fdiv_eq_ediv_of_nonneg i (by lia)];exact q) (.inl<|PyProof.noPylong_small<|by lia)
def XB:OpR X (binaryOp .Mod) (rI (λ_ j=>0<j) λi j=>.int (i % j)):=opI λi j _ _ _ _ _ f q=>by
 exact mod_int' (by lia) (by grind)
def AC:OpR X (binaryOp .Pow) (rI Su λi j=>.int (i ^ j.toNat)):=opI λ_ _ _ _ _ _ _ f q=>pow_int_small f.1 f.2.1 f.2.2 q
def Zfm:OpR X (binaryOp .LShift) (rI Su λi j=>.int (i*2 ^ j.toNat)):=opI λ_ _ _ _ _ _ _ f q=>lshift_int_small f.1 f.2.1 f.2.2 q
def unI{g:Int->Int}(rule:∀i t s Q E,Q (.int (g i) s.toks) {s with toks:=s.toks+1}->wpAny (model X.prog X.w) X.A (f<|.int i t) Q E s) :
  UnR X f (rU λi=>.int (g i)):=by
 intro pins s n H x v Q I l h;obtain⟨i,rfl,q⟩:=h;obtain⟨t,rfl⟩:=l;exact rule i t s _ _ ⟨.int (g i),H,I.tok _,⟨_,rfl⟩,q⟩
def Kx:UnR X (unaryOp .USub) (rU λi=>.int (-i)):=unI λ_ _ _ _ _ q=>neg_int q
end
noncomputable def LB:V->V->Bool
 | .non,.non=>true | .non,.int _=>true | .int _,.non=>true | .non,.bl _=>true | .bl _,.non=>true | .non,.str _=>true | .str _,.non=>true
 | .int _,.int _=>true | .bl _,.bl _=>true | .str _,.str _=>true | .byt _,.byt _=>true
 | .int _,.str _=>true | .str _,.int _=>true | .bl _,.str _=>true | .str _,.bl _=>true
 |_,_=>false
noncomputable def rEq:R2:=λx y H Q=>LB x y=true/\Q (.bl<|decide (x=y)) H
noncomputable def rNe:R2:=λx y H Q=>LB x y=true/\Q (.bl (!decide (x=y))) H
def Hh{i j:Int}:decide (V.int i=V.int j)=(i==j):=by
 rw[J3];simp
def GT{i j:Bool}:decide (V.bl i=V.bl j)=(i==j):=by
 rw[J3];simp
def Mq{i j:Str}:decide (V.str i=V.str j)=(i==j):=by
 rw[J3];simp
def Rg{i j:Array UInt8}:decide (V.byt i=V.byt j)=(i.toList==j.toList):=by
 rw[J3];cases i
 cases j
 simp
section
variable {X:Cx}{a b c:Expr}{ta tb tc:TE}{pos:Pos}
def XT{f:St}{H}{s}{Q}{k g}(I:Inv X pins f H s)(q:Q (.bl k) H)(e:k=g):EP X pins f Q (.bool g) s:=by
 subst e;exact⟨.bl k,H,I,rfl,q⟩
def op_eq:OpR X (compareOp .Eq) rEq:=by
 intro pins s o H x y v u Q I n f h;obtain⟨l,q⟩:=h;cases x with
 |non=>
  cases n
  cases y with
  |non=>cases f;exact PySem.EqNone.eq_none_none (XT I q<|by simp)
  |bl j=>cases f;exact PySem.EqNone.eq_none_bool (XT I q<|by simp)
  |int j=>obtain⟨g,rfl⟩:=f;exact PySem.EqNone.eq_none_int (XT I q<|by simp)
  |str j=>obtain⟨g,rfl⟩:=f;exact PySem.EqNone.eq_none_str (XT I q<|by simp)
  |_=>exact absurd l Qk
 |bl i=>
  cases n
  cases y with
  |non=>cases f;exact PySem.EqNone.eq_bool_none (XT I q<|by simp)
  |bl j=>cases f;exact eq_bool (XT I q GT)
  |str j=>obtain⟨g,rfl⟩:=f;exact PySem.EqMixed.eq_bool_str (XT I q<|by simp)
  |_=>exact absurd l Qk
 |int i=>
  obtain⟨t,rfl⟩:=n;cases y with
  |non=>cases f;exact PySem.EqNone.eq_int_none (XT I q<|by simp)
  |int j=>obtain⟨g,rfl⟩:=f;exact eq_int (XT I q Hh)
  |str j=>obtain⟨g,rfl⟩:=f;exact PySem.EqMixed.eq_int_str (XT I q<|by simp)
  |_=>exact absurd l Qk
 |str i=>
  obtain⟨t,rfl⟩:=n;cases y with
  |non=>cases f;exact PySem.EqNone.eq_str_none (XT I q<|by simp)
  |bl j=>cases f;exact PySem.EqMixed.eq_str_bool (XT I q<|by simp)
  |int j=>obtain⟨g,rfl⟩:=f;exact PySem.EqMixed.eq_str_int (XT I q<|by simp)
  |str j=>obtain⟨g,rfl⟩:=f;exact eq_str (XT I q Mq)
  |_=>exact absurd l Qk
 |byt i=>
  obtain⟨t,rfl⟩:=n;cases y with
  |byt j=>obtain⟨g,rfl⟩:=f;exact PySem.W.eq_bytes (XT I q Rg)
  |_=>exact absurd l Qk
 |_=>cases y<;>exact absurd (show false=true from l) Qk
def op_ne:OpR X (compareOp .NotEq) rNe:=by
 intro pins s o H x y v u Q I n f h;obtain⟨l,q⟩:=h;cases x with
 |non=>
  cases n
  cases y with
  |non=>cases f;exact PySem.EqNone.ne_none_none (XT I q<|by simp)
  |bl j=>cases f;exact PySem.EqNone.ne_none_bool (XT I q<|by simp)
  |int j=>obtain⟨g,rfl⟩:=f;exact PySem.EqNone.ne_none_int (XT I q<|by simp)
  |str j=>obtain⟨g,rfl⟩:=f;exact PySem.EqNone.ne_none_str (XT I q<|by simp)
  |_=>exact absurd l Qk
 |bl i=>
  cases n
  cases y with
  |non=>cases f;exact PySem.EqNone.ne_bool_none (XT I q<|by simp)
  |bl j=>cases f;exact ne_bool (XT I q<|Q4 not GT)
  |str j=>obtain⟨g,rfl⟩:=f;exact PySem.EqMixed.ne_bool_str (XT I q<|by simp)
  |_=>exact absurd l Qk
 |int i=>
  obtain⟨t,rfl⟩:=n;cases y with
  |non=>cases f;exact PySem.EqNone.ne_int_none (XT I q<|by simp)
  |int j=>obtain⟨g,rfl⟩:=f;exact ne_int (XT I q<|Q4 not Hh)
  |str j=>obtain⟨g,rfl⟩:=f;exact PySem.EqMixed.ne_int_str (XT I q<|by simp)
  |_=>exact absurd l Qk
 |str i=>
  obtain⟨t,rfl⟩:=n;cases y with
  |non=>cases f;exact PySem.EqNone.ne_str_none (XT I q<|by simp)
  |bl j=>cases f;exact PySem.EqMixed.ne_str_bool (XT I q<|by simp)
  |int j=>obtain⟨g,rfl⟩:=f;exact PySem.EqMixed.ne_str_int (XT I q<|by simp)
  |str j=>obtain⟨g,rfl⟩:=f;exact ne_str (XT I q<|Q4 not Mq)
  |_=>exact absurd l Qk
 |byt i=>
  obtain⟨t,rfl⟩:=n;cases y with
  |byt j=>obtain⟨g,rfl⟩:=f;exact PySem.W.ne_bytes (XT I q<|Q4 not Rg)
  |_=>exact absurd l Qk
 |_=>cases y<;>exact absurd (show false=true from l) Qk
def KJ:OpR X (compareOp .Lt) (rI0 λi j=>.bl (decide (i<j))):=Dm λ_ _ _ _ _ _ _ q=>lt_int q
def KC:OpR X (compareOp .Gt) (rI0 λi j=>.bl (decide (j<i))):=Dm λ_ _ _ _ _ _ _ q=>gt_int q
def Si:OpR X (compareOp .GtE) (rI0 λi j=>.bl (decide (j<=i))):=Dm λ_ _ _ _ _ _ _ q=>ge_int q
def OpR.or (h:OpR X f r) (p:OpR X f o):OpR X f (λx y H Q=>r x y H Q\/o x y H Q):=by
 intro pins s g H x y v u Q I n l q;rcases q with q|q
 ·exact h pins s g H x y v u Q I n l q
 ·exact p pins s g H x y v u Q I n l q
def KZ(b:Expr){op}(h:autoParam (op≠.In) au_1)(l:autoParam (op≠.NotIn) au_1):behindInMarks op b=false:=by
 have g:(op==CmpOp.In)=false:=by grind
 have f:(op==CmpOp.NotIn)=false:=by grind
 cases b<;>simp[behindInMarks,g,f]
def Nc(p:OpR X (compareOp f) r)(A:PE X a ta)(z:PE X b tb)(w:behindInMarks f b=false):PE X (.Compare a [f] [b] pos) (tOp r ta tb):=by
 intro pins s g H Q I h;exact wpAny_Compare1 (A3 A z I h λv u l x y C B o n q=>p pins l g C x y v u Q B o n q) w
noncomputable def Ac(t:TE):TT:=λf H Q=>t f H λx g=>∃k,x=.bl k/\Q k g
def P5(E:OpR X (compareOp g) r)(L:PE X a ta)(J:PE X b tb)(G:behindInMarks g b=false):PT X (.Compare a [g] [b] pos) (Ac<|tOp r ta tb):=by
 intro pins s f H Q I h
 refine wpAny_isTrue_Compare1 (thn (L pins s f H _ I h) λv n ⟨x,H1,T,w,C⟩=>thn (J pins n f H1 _ T C) λu l ⟨y,Y,N,p,B⟩=>
  thn (E pins l f Y x y v u _ N w p B) λc s3 ⟨z,U,M,o,k,e,A⟩=>?_) G
 subst e;cases o
 exact V3 ⟨U,M,A⟩
def AD(K:ZW)(x:V)(H:Hp)(k:Bool):Prop:=
 match x with
 | .non=>k=false
 | .bl b=>k=b
 | .int i=>k=(i != 0)
 | .str y=>y.length<=sizeLine/\k=((y.length:Int) != 0)
 | .byt y=>y.size<=sizeLine/\k=((y.size:Int) != 0)
 | .ref p=>(∃xs,SqL K H p xs/\k=!xs.isEmpty)\/(∃xs,SqT K H p xs/\k=!xs.isEmpty)\/∃f,H p=some (.dK f)/\k=!f.isEmpty
 |_=>False
def Zr2(r:KV f vs):(!vs.isEmpty)=!f.isEmpty:=by
 cases r<;>rfl
def OV(r:Vals xs f):(!f.toArray.isEmpty)=!xs.isEmpty:=by
 cases r<;>simp
def F6:(sizeLine:Nat)<2 ^ 63:=by trivial
def Zid:Zke X (λx H Q=>∃k,AD X.K x H k/\Q k H):=by
 intro pins s B H x v Q I l h;obtain⟨k,e,q⟩:=h;have G:=F6;have E:=sizeLine_eq;cases x with
 |non=>
  cases l
  have f:=e;subst f;exact truthy_none ⟨H,I,q⟩
 |bl b=>
  cases l
  have f:=e;subst f;exact V3 ⟨H,I,q⟩
 |int i=>
  obtain⟨t,rfl⟩:=l;have f:=e;subst f;exact PySem.P.truthy_int ⟨H,I,q⟩
 |str y=>
  obtain⟨t,rfl⟩:=l;obtain⟨z,f⟩:=e;subst f;exact PySem.P.truthy_str (by lia) ⟨H,I.tok _,q⟩
 |byt y=>
  obtain⟨t,rfl⟩:=l;obtain⟨z,f⟩:=e;subst f;exact PySem.W.truthy_bytes (by lia) ⟨H,I.tok _,q⟩
 |ref p=>
  cases l
  have f:=e;rcases f with⟨xs,hx,f⟩|⟨xs,hx,f⟩|⟨w,hx,f⟩
  ·subst f;obtain⟨o,r,n,u⟩:=I.list hx;have g:=r.length;exact wpAny_truthy_list n.isList (by simp only[Qz];lia) ⟨H,I.tok _,by rw[OV r];exact q⟩
  ·subst f;obtain⟨o,r,n,u⟩:=I.tuple hx;have g:=r.length;exact truthy_tuple n (by simp only[Qz];lia) ⟨H,I.tok _,by rw[OV r];exact q⟩
  ·subst f;obtain⟨u,A,C,r,m⟩:=I.hok p _ hx;have g:=Paired.length r;exact wpAny_truthy_dict A m (by lia) ⟨H,I.tok _,by rw[Zr2 r];exact q⟩
 |_=>exact e.elim
def Zqt(p:PE X a ta)(o:∀whole,isTrue a X.env whole=(do let v ←whole;standAt a.pos;holding [v] (truthy v))) :
  PT X a (λf H Q=>ta f H λx H'=>∃k,AD X.K x H' k/\Q k H'):=by
 intro pins s f H Q I h;exact isTrue_plain (thn (p pins s f H _ I h) λv g ⟨x,u,r,l,n⟩=>Zid pins g f u x v Q r l n) (o _)
def vals1(r:Vals [x] us):∃u,us=[u]/\RelV x u:=by
 cases r with
 |cons g f=>cases f;exact⟨_,rfl,g⟩
def vals2(r:Vals [x,y] us):∃u f,us=[u,f]/\RelV x u/\RelV y f:=by
 cases r with
 |cons n l=>
  cases l with
  |cons h g=>cases g;exact⟨_,_,rfl,n,h⟩
def M0(g:X.calm=true):Kr X (.builtin "max") (λxs H Q=>∃i j,xs=[.int i,.int j]/\Q (.int (if j>i then j else i)) H):=by
 intro pins s l H xs o Q I r h;obtain⟨i,j,rfl,q⟩:=h;obtain⟨u,n,rfl,⟨t,rfl⟩,⟨v,rfl⟩⟩:=vals2 r;refine max_two_ints (I.ok.hd g) λw p k=>⟨_,H,I.kept k,?_,q⟩;by_cases f:j>i
 ·rw[WQ f,WQ f];exact⟨_,rfl⟩
 ·rw[WO f,WO f];exact⟨_,rfl⟩
def Zn6:Kr X (.type "int") (λxs H Q=>(∃i,xs=[.int i]/\Q (.int i) H)\/∃k,xs=[.bl k]/\Q (.int (if k then 1 else 0)) H):=by
 intro pins s g H xs l Q I r h;rcases h with⟨i,rfl,q⟩|⟨k,rfl,q⟩
 ·obtain⟨u,rfl,t,rfl⟩:=vals1 r;exact call_int_int ⟨.int i,H,I,⟨_,rfl⟩,q⟩
 ·obtain⟨u,rfl,f⟩:=vals1 r;cases f
  exact call_int_bool ⟨.int (if k then 1 else 0),H,I.tok _,⟨_,rfl⟩,q⟩
def F5(K:ZW)(x:V)(H:Hp)(n:Nat):Prop:=
 match x with
 | .str y=>y.length<=sizeLine/\n=y.length
 | .byt y=>y.size<=sizeLine/\n=y.size
 | .ref p=>(∃xs,SqL K H p xs/\n=xs.length)\/∃xs,SqT K H p xs/\n=xs.length
 |_=>False
def Zrh:Kr X (.builtin "len") (λxs H Q=>∃x n,xs=[x]/\F5 X.K x H n/\Q (.int n) H):=by
 intro pins s B H xs C Q I r h;obtain⟨x,n,rfl,e,q⟩:=h;obtain⟨u,rfl,l⟩:=vals1 r;have E:=sizeLine_eq;cases x with
 |str y=>
  obtain⟨t,rfl⟩:=l;obtain⟨A,g⟩:=e;subst g;exact len_str (by lia) ⟨.int _,H,I.tok _,⟨_,rfl⟩,q⟩
 |byt y=>
  obtain⟨t,rfl⟩:=l;obtain⟨A,g⟩:=e;subst g;exact PySem.W.len_bytes (by lia) ⟨.int _,H,I.tok _,⟨_,rfl⟩,q⟩
 |ref p=>
  cases l
  have g:=e;rcases g with⟨xs,hx,g⟩|⟨xs,hx,g⟩
  ·subst g;obtain⟨w,o,v,z⟩:=I.list hx;have f:=o.length;exact Calls.call_len_list v.isList (by simp only[Qz];lia) ⟨.int xs.length,H,I.tok _,⟨_,by simp only[Qz];rw[f]⟩,q⟩
  ·subst g;obtain⟨w,o,v,z⟩:=I.tuple hx;have f:=o.length;exact len_tuple v (by simp only[Qz];lia) ⟨.int xs.length,H,I.tok _,⟨_,by simp only[Qz];rw[f]⟩,q⟩
 |_=>exact e.elim
end
structure N0 (h:Heap) (x dx C:Addr) (mA:Ya):Prop where
 obj:h.get? x=some (PySem.W.instObj C dx)
 ns:h.Ns1 dx mA
 ne:dx≠x
def Zlb{h:Heap}{dx}{mA}(n:h.Ns1 dx mA):∃g,h.get? dx=some g/\∀name,PySem.W.lookIn name g=some (mA name):=by
 obtain⟨o,v,w,p,u,s,_,r⟩:=n;refine⟨o,p,λname=>?_⟩;have e:=r name;unfold nsFind findBy at e;unfold PySem.W.lookIn;rw[u]
 dsimp only
 split
 ·grind
 ·rename_i q
  have a:v.toList.any (·.refKey)=false:=by
   rw[List.any_eq_false];intro y l;obtain⟨z,t,f⟩:=s y (Array.mem_toList_iff.mp l);simp[DictEntry.refKey,f]
  grind
def N0.look (I:N0 h x o C g):∃f,PySem.W.InstAt h x (PySem.W.instObj C o) C (some f)/\∀name,PySem.W.lookIn name f=some (g name):=
 let ⟨f,l,n⟩:=Zlb I.ns
 ⟨f,⟨I.obj,rfl,rfl,l⟩,n⟩
section
variable {prog:Program}{w:World}{A:Around}{E:Yb}{s:Shared}{K:ZW}{x dx C f:Addr}{mA:Ya}{name:Str}{v:Value}
def Zfz{Q}(X:K.In s.heap)(I:N0 s.heap x dx C mA)(n:PySem.W.plainGet K C name=true)(l:PySem.W.hasDictIn K C=true)(o:PySem.W.findIn K (.ref C) name=some none)(r:mA name=some v)(g:PySem.W.handedIn v=true)(h:Q v {s with toks:=s.toks+1}) :
  wpAny (model prog w) A (getAttr (.ref x) name expr) Q E s:=by
 obtain⟨p,J,u⟩:=I.look;exact PySem.W.get_value X J (JC n).1 (PySem.W.findObj_own l o rfl<|by grind) g h
def Zla{Q}(X:K.In s.heap)(I:N0 s.heap x dx C mA)(g:PySem.W.plainGet K C name=true)(r:PySem.W.findIn K (.ref C) name=some (some<|.ref f))(o:PySem.W.isFn K (.ref f)=true)(n:mA name=none)(h:Q (.ref f,[.ref x]) s) :
  wpAny (model prog w) A (getMethod (.ref x) name u) Q E s:=by
 obtain⟨l,J,p⟩:=I.look;exact PySem.W.method_fn X J (JC g).1 (JC g).2 r (beq_iff_eq.mp o) (by show(PySem.W.lookIn name l).map (·.isSome)=some false;rw[p,n];rfl) h
def Zk6(X:K.In s.heap)(I:N0 s.heap x dx C mA)(hs:PySem.W.findIn K (.ref C) "__setattr__"=some (some<|.builtin "object.__setattr__"))(B:PySem.W.plainOver K C=true)(z:PySem.W.takerIn K C name=some none)(G:PySem.W.hasDictIn K C=true)(hw:PySem.Within mA ns)(hsz:ns.length<=sizeLine)(h:∀n,N0 n x dx C (λy=>if y=name then some v else mA y)->Heap.SameBut dx s.heap n->Q () {s with heap:=n,toks:=s.toks+2}) :
  wpAny (model prog w) A (setAttr (.ref x) name v) Q E s:=by
 obtain⟨N,J,U⟩:=I.look;refine PySem.W.set_plain X J hs (PySem.W.osa_open X J B z λb=>?_);obtain⟨Y,H,r⟩:=PySem.W.any_some G;refine WK (WR<|WK<|WK<|wpAny_loadPart I.obj<|WK<|PySem.W.Looks.here (PySem.W.looks_clsIn X H) ?_);rw[r];refine WR (WK<|WR<|WK ?_);refine wpAny_nsSet1 I.ns λn l g=>?_;obtain⟨T,L,M,o,p,u⟩:=l.count (PySem.Within.cons name v hw);refine WK (wpAny_lookBehind o (by rw[p];exact pastItsLine_dict (WV u<|by grind)) ?_);exact WR (h _ ⟨(g.2 _<|Ne.symm I.ne).trans I.obj,l,I.ne⟩ g)
def Zms{vs g}(X:K.In s.heap)(l:PySem.W.makesIn K C=true)(n:PySem.W.findIn K (.ref C) "__init__"=some (some<|.ref f))(o:PySem.W.typeIn K (.ref f)=some (.type "function"))
  (h:codeAny (model prog w) (A.under<|.builtin "type.__call__" ⟨.ref C::vs,g⟩) (.call (.ref f) ⟨.ref (s.heap.objs.size+1)::vs,g⟩) (PySem.W.InitBack (s.heap.objs.size+1) R)
   {s with heap:=(s.heap.push PySem.W.emptyDict).push (PySem.W.instObj C s.heap.objs.size)}) :
  codeAny (model prog w) A (.call (.ref C) ⟨vs,g⟩) R s:=PySem.W.make_core (PySem.W.makes_of X l) (PySem.W.looks_findIn X n) (λself=>PySem.W.bind_fn X self o) (.inl rfl) h
end
noncomputable def KO(f:Str)(v:V):List (Str×V)->List (Str×V)
 |[]=>[(f,v)]
 |(g,x)::r=>if g=f then(g,v)::r else(g,x)::KO f v r
theorem R6(f g:Str)(v:V):∀fs,(KO f v fs).lookup g=if g=f then some v else fs.lookup g
 |[]=>by
  show List.lookup g [(f,v)]=_;by_cases h:g=f
  ·have l:=beq_iff_eq.mpr h;simp only[List.lookup,l,WQ h]
  ·have l:=V9.mpr h;simp only[List.lookup,l,WO h]
 |(k,x)::r=>by
  rw[show KO f v ((k,x)::r)=(if k=f then(k,v)::r else(k,x)::KO f v r)from rfl]
  by_cases n:k=f
  ·rw[WQ n];by_cases h:g=k
   ·simp_all
   ·have l:=V9.mpr h;simp only[List.lookup,l,WO (λe:g=f=>h (e.trans n.symm))]
  ·rw[WO n];by_cases h:g=k
   ·simp_all
   ·have l:=V9.mpr h;simp only[List.lookup,l];exact(R6 f g v r)
theorem A0(f:Str)(v:V):∀fs,f∈(KO f v fs).map (·.1)/\∀g,g∈fs.map (·.1)->g∈(KO f v fs).map (·.1)
 |[]=>⟨by simp[KO],λg h=>by simp at h⟩
 |(k,x)::r=>by
  obtain⟨n,l⟩:=A0 f v r;rw[show KO f v ((k,x)::r)=(if k=f then(k,v)::r else(k,x)::KO f v r)from rfl]
  by_cases o:k=f
  ·grind
  ·grind
theorem LK(f:Str)(v:V):∀fs,(KO f v fs).length<=fs.length+1
 |[]=>by simp[KO]
 |(k,x)::r=>by
  have g:=LK f v r;rw[show KO f v ((k,x)::r)=(if k=f then(k,v)::r else(k,x)::KO f v r)from rfl]
  by_cases h:k=f
  ·grind
  ·grind
def RelO.some_of (r:RelO (some v) o):∃u,o=some u/\RelV v u:=by
 cases o with
 |none=>trivial
 |some u=>exact⟨u,rfl,r⟩
def RelO.none_of (r:RelO none o):o=none:=by
 cases o with
 |none=>rfl
 |some u=>trivial
def Zli(r:RelV v u):PySem.W.handedIn u=true:=by
 cases v with
 |non|bl b|ref a|ty n=>cases r;rfl
 |_=>obtain⟨t,e⟩:=r;cases e;rfl
section
variable {P:Program}{w:World}{H H':Hp}{h h':Heap}{a C dx:Addr}{fs fs':List (Str×V)}
def F2(l:HOk P w H h)(e:H a=some (.ins C dx fs)):∃g,N0 h a dx C g/\(∀f,RelO (fs.lookup f) (g f))/\PySem.Within g (fs.map (·.1))/\fs.length<=1000/\H dx=some (.own a):=by
 obtain⟨d,z,p,o,g,n,r,q⟩:=(l a _ e);exact⟨g,⟨o,n,p⟩,r,q,z,d⟩
end
structure Cls (K:ZW) (C:Addr):Prop where
 pg:PySem.W.plainGet K C Str.empty=true
 hd:PySem.W.hasDictIn K C=true
 po:PySem.W.plainOver K C=true
 sa:PySem.W.findIn K (.ref C) "__setattr__"=some (some<|.builtin "object.__setattr__")
def Cls.get {K C} (c:Cls K C) (f:Str):PySem.W.plainGet K C f=true:=c.pg
def NoAttr(K:ZW)(C:Addr)(f:Str):Prop:=PySem.W.findIn K (.ref C) f=some none
def NoAttr.taker {K C f} (n:NoAttr K C f):PySem.W.takerIn K C f=some none:=by
 unfold PySem.W.takerIn;rw[show PySem.W.findIn K (.ref C) f=some none from n]
 rfl
structure X0 (K:ZW) (C:Addr) (m:Str) (f:Addr):Prop where
 at_:PySem.W.findIn K (.ref C) m=some (some<|.ref f)
 fn:PySem.W.isFn K (.ref f)=true
 kp:PySem.W.keepIn K (.ref f)=true
section
variable {X:Cx}{pins:ZZ}{σ:St}{H:Hp}{s:Shared}{a C dx:Addr}{fs:List (Str×V)}{f:Str}{v:V}{A:Around}{E:Yb}
def Zlw{Q}(I:Inv X pins σ H s)(e:H a=some (.ins C dx fs))(c:Cls X.K C)(n:NoAttr X.K C f)(l:fs.lookup f=some v)(h:∀u g,Inv X pins σ H g->RelV v u->Q u g):wpAny (model X.prog X.w) A (getAttr (.ref a) f b) Q E s:=by
 obtain⟨x,O,r,_,_,_⟩:=F2 I.hok e;obtain⟨u,p,o⟩:=RelO.some_of (by rw[←l];exact r f);exact Zfz I.kIn O (c.get f) c.hd n p (Zli o) (h u _ (I.tok _) o)
def Ct{Q}(I:Inv X pins σ H s)(e:H a=some (.ins C dx fs))(c:Cls X.K C)(k:X0 X.K C m g)(l:fs.lookup m=none)(h:Q (.ref g,[.ref a]) s):wpAny (model X.prog X.w) A (getMethod (.ref a) m n) Q E s:=by
 obtain⟨o,O,r,_,_,_⟩:=F2 I.hok e;exact Zla I.kIn O (c.get m) k.at_ k.fn (RelO.none_of<|by rw[←l];exact r m) h
def Zi3(I:Inv X pins σ H s)(e:H a=some (.ins C dx fs))(c:Cls X.K C)(n:NoAttr X.K C f)(hl:fs.length<1000)(J:RelV y u)(h:∀x,Inv X pins σ (upd H a<|.ins C dx<|KO f y fs) x->Q () x):wpAny (model X.prog X.w) A (setAttr (.ref a) f u) Q E s:=by
 obtain⟨L,O,r,p,_,B⟩:=F2 I.hok e;have M:(fs.map (·.1)).length<=sizeLine:=by rw[WI,sizeLine_eq];lia
 refine Zk6 I.kIn O c.sa c.po n.taker c.hd p M λY l G=>h _ ?_;have T:∃o,Y.get? dx=some o:=let ⟨o,_,_,e',_⟩:=l.ns;⟨o,e'⟩;refine I.write (by rw[e];exact True.intro) (.inr B) (λb q U z=>(G.2 b U).trans z) T ?_;refine⟨by rw[Xx O.ne];exact B,?_,O.ne,l.obj,_,l.ns,λg=>?_,λg N=>?_⟩
 ·have:=LK f y fs;lia
 ·show RelO ((KO f y fs).lookup g) (if g=f then some u else L g);rw[R6];by_cases q:g=f
  ·rw[WQ q,WQ q];exact J
  ·grind
 ·by_cases q:g=f
  ·rw[q];exact(A0 f y fs).1
  ·refine(A0 f y fs).2 g (p g λz=>N ?_)
   grind
def Inv.made (I:Inv X pins σ H s):Inv X pins σ (upd (upd H s.heap.objs.size<|.own (s.heap.objs.size+1)) (s.heap.objs.size+1)<|.ins C s.heap.objs.size [])
  {s with heap:=(s.heap.push PySem.W.emptyDict).push (PySem.W.instObj C s.heap.objs.size)}:=by
 have h:(s.heap.push PySem.W.emptyDict).get? s.heap.objs.size=some PySem.W.emptyDict:=Qa s.heap rfl
 have r:((s.heap.push PySem.W.emptyDict).push (PySem.W.instObj C s.heap.objs.size)).get? (s.heap.objs.size+1)=some (PySem.W.instObj C s.heap.objs.size):=by
  have:=Qa (s.heap.push PySem.W.emptyDict) (o:=PySem.W.instObj C s.heap.objs.size) rfl
  rwa[V5]at this
 have p:(s.heap.push PySem.W.emptyDict).Ns s.heap.objs.size (λ_=>none):=⟨PySem.W.emptyDict,#[],_,h,rfl,(λe n=>absurd n (by simp)),λ_=>rfl⟩;refine(I.laid (o:=.own (s.heap.objs.size+1)) (t':=s.toks) (λb u q=>WS _ q) (WT _) ⟨_,h⟩).laid (λb u q=>WS _ q) (Vi<|V5 _ _) ?_;have g:s.heap.objs.size≠s.heap.objs.size+1:=Qm (V6 _);refine⟨by rw[Xx g,X9],QD _,g,r,λ_=>none,(Heap.Ns1.of_empty p).at λo q=>WS _ q,λ_=>True.intro,λy l=>absurd rfl l⟩
def Zay{env e f pos s Q}(l:attributeBase e f env (eval e env)=eval e env)(h:wpAny (model prog w) A (eval e env) (λo g=>wpAny (model prog w) A (getAttr o f true) Q E g) E s):wpAny (model prog w) A (eval (.Attribute e f pos) env) Q E s:=
 Attribute_any_ h (by rw[arm_eval_Attribute,l])
end
noncomputable def BO(K:ZW)(l:TE)(f:Str):TE:=λh H Q=>l h H λx g=>∃a C n fs v,x=.ref a/\g a=some (.ins C n fs)/\Cls K C/\NoAttr K C f/\fs.lookup f=some v/\Q v g
noncomputable def Gc(K:ZW)(o n:TE)(f:Str):TS:=λD g H=>n g H λy p=>o g p λx l=>∃a C h fs,x=.ref a/\l a=some (.ins C h fs)/\Cls K C/\NoAttr K C f/\fs.length<1000/\
 D.nx g (upd l a<|.ins C h<|KO f y fs)
section
variable {X:Cx}{o e value:Expr}{f:Str}{pos pos' tpos:Pos}{ta tv:TE}
def Ph(w:PE X e ta)(y:attributeBase e f X.env (eval e X.env)=eval e X.env):PE X (.Attribute e f pos) (BO X.K ta f):=by
 intro pins s g H Q I h;refine Zay y (thn (w pins s g H _ I h) ?_);rintro u M ⟨x,G,E,p,a,C,N,fs,v,z,A,c,n,l,q⟩;subst z;obtain rfl:=p;exact Zlw E A c n l λJ L B r=>⟨v,G,B,r,q⟩
def EX(A:PE X o ta)(z:PE X value tv)(hs:swapsWith value (some<|.Attribute o f pos') pos.line X.env=pure false):PS X (.Assign [.Attribute o f pos'] value pos) (Gc X.K ta tv f):=by
 intro pins s g H D I h;refine plainObj_wpAny_Assign_Attribute (thn (z pins s g H _ I h) ?_) hs;rintro u p ⟨y,M,L,r,q⟩;refine thn (A pins p g M _ L q) ?_;rintro T Q ⟨x,Y,J,v,a,C,U,fs,B,E,c,n,l,w⟩;subst B;obtain rfl:=v;exact Zi3 J E c n l r λN G=>⟨g,_,G,w⟩
def Zsq{m}{apos}{args}{pins}{s}{n:St}{H}{Q}{te}(G:PE X e te)(I:Inv X pins n H s)
  (h:te n H λx r=>∃a C y fs g,x=.ref a/\r a=some (.ins C y fs)/\Cls X.K C/\X0 X.K C m g/\fs.lookup m=none/\
   ∀p,Inv X pins n r p->wpAny (model X.prog X.w) X.A (callWith pos (.ref g) [.ref a] (backTo pos<|starEach args X.env)<|backToKw pos<|keywordEach [] X.env) Q X.xe p)
  (E:eval (.Call (.Attribute e m apos) args [] pos) X.env=(do
   let v ←eval e X.env
   standAt apos.atName
   let (f,first) ←holding [v] (getMethod v m M)
   callWith pos f first (backTo pos<|starEach args X.env) (backToKw pos<|keywordEach [] X.env))) :
  wpAny (model X.prog X.w) X.A (eval (.Call (.Attribute e m apos) args [] pos) X.env) Q X.xe s:=by
 refine Jx (thn (G pins s n H _ I h) ?_) E;rintro u p ⟨x,r,z,B,a,C,y,fs,g,J,L,c,k,l,q⟩;subst J;obtain rfl:=B;exact Ct z L c k l (q p z)
end
section
variable {X:Cx}{pins:ZZ}{σ:St}{H:Hp}{s:Shared}{A:Around}{E:Yb}{Q:Yb}{c:Value}{b:Bool}
inductive Pb (K:ZW) (H:Hp):V->Value->Prop where
 |non:Pb K H .non (.type "NoneType")
 |bl (x:Bool):Pb K H (.bl x) (.type "bool")
 |int (i:Int):Pb K H (.int i) (.type "int")
 |str (x:Str):Pb K H (.str x) (.type "str")
 |flt (x:UInt64):Pb K H (.flt x) (.type "float")
 |lst {a:Addr} {xs:List V} (e:H a=some (.lst xs)):Pb K H (.ref a) (.type "list")
 |frz {a:Addr} {o:Obj} {xs:List V} (e:H a=some (.frz o<|.lst xs)):Pb K H (.ref a) (.type "list")
 |tup {a:Addr} {xs:List V} (e:H a=some (.tup xs)):Pb K H (.ref a) (.type "tuple")
 |dK {a:Addr} {kvs:List (Key×V)} (e:H a=some (.dK kvs)):Pb K H (.ref a) (.type "dict")
 |dT {a:Addr} {kvs:List (List Key×V)} (e:H a=some (.dT kvs)):Pb K H (.ref a) (.type "dict")
 |ins {a C dx:Addr} {fs:List (Str×V)} (e:H a=some (.ins C dx fs)) (cl:Cls K C) (ha:PySem.W.findIn K (.ref C) "__class__"=some (some<|.builtin "object.__class__"))
   (hn:PySem.W.specialIn K (.builtin "object.__class__") "__get__"=some (some<|.builtin "getset_descriptor.__get__")) (htk:PySem.W.takesIn K (.builtin "object.__class__")=some true)
   (hm:PySem.W.mroIn K C (.type "object")=some true):Pb K H (.ref a) (.ref C)
def Zmb(I:Inv X pins σ H s)(f:RelV x u)(L:Pb X.K H x t)(e:PySem.W.kitOne X.K t c=some b)(h:∀M,Q (.bool b) {s with toks:=M}) :
  wpAny (model X.prog X.w) A (call (.builtin "isinstance") [u,c]) Q E s:=by
 cases L with
 |non=>cases f;exact QS PySem.W.kitx_none I.kIn True.intro e (λz=>nomatch z) h
 |bl y=>cases f;exact QS PySem.W.kitx_bool I.kIn True.intro e (λz=>nomatch z) h
 |int i=>obtain⟨t,q⟩:=f;cases q;exact QS PySem.W.kitx_int I.kIn True.intro e (λz=>nomatch z) h
 |str y=>obtain⟨t,q⟩:=f;cases q;exact QS PySem.W.kitx_str I.kIn True.intro e (λz=>nomatch z) h
 |flt y=>obtain⟨t,q⟩:=f;cases q;exact QS PySem.W.kitx_float I.kIn True.intro e (λz=>nomatch z) h
 | @lst a xs g=>
  cases f
  obtain⟨_,_,n,_,l⟩:=(I.hok a _ g);exact QS PySem.W.kitx_list I.kIn ⟨_,l,rfl⟩ e (λz=>nomatch z) h
 | @frz a ob xs g=>
  cases f
  obtain⟨_,_,_,n,_,l⟩:=(I.hok a _ g);exact QS PySem.W.kitx_list I.kIn ⟨_,l,rfl⟩ e (λz=>nomatch z) h
 | @tup a xs g=>
  cases f
  obtain⟨_,_,_,p⟩:=(I.hok a _ g);obtain⟨o,l,r,_⟩:=p;exact QS PySem.W.kitx_tuple I.kIn ⟨o,l,r⟩ e (λz=>nomatch z) h
 | @dK a v g=>
  cases f
  obtain⟨_,_,vs,_,p⟩:=(I.hok a _ g);obtain⟨o,Y,ep,l,r,_⟩:=p;exact QS PySem.W.kitx_dict I.kIn ⟨o,l,r.1⟩ e (λz=>nomatch z) h
 | @dT a v g=>
  cases f
  obtain⟨_,_,xs,_,o,Y,ep,l,r,_⟩:=(I.hok a _ g);exact QS PySem.W.kitx_dict I.kIn ⟨o,l,r.1⟩ e (λz=>nomatch z) h
 | @ins a C dx fs g G U N B T=>
  cases f
  obtain⟨mA,O,_⟩:=F2 I.hok g;obtain⟨od,J,_⟩:=O.look;exact QS (PySem.W.kitx_own (G.get _) G.hd U N B T) I.kIn J e (λz=>nomatch z) h
end
structure Xv (k:Nat) (A:Around):Prop where
 hd:A.handled=none
 dp:A.depth+3*k+5<recursionLimit
 un:A.units+16*k+200<cLine
 gd:A.guards=some []
def Xv.mono {j k A} (r:Xv k A) (h:j<=k):Xv j A:=⟨r.hd,by have:=r.dp;lia,by have:=r.un;lia,r.gd⟩
def Xv.deeper (r:Xv (k+1) A) (env:Env):Xv k (A.deeper env):=
 ⟨r.hd,by have:=r.dp;show A.depth+1+3*k+5<_;lia,by have:=r.un;show A.units+3+16*k+200<_;lia,r.gd⟩
def Zna{A:Around}{C}{us}{kw}:(A.under<|.builtin "type.__call__" ⟨.ref C::us,kw⟩).depth=A.depth+1:=by
 rfl
def Zfr{A:Around}{C}{us}{kw}:(A.under<|.builtin "type.__call__" ⟨.ref C::us,kw⟩).units=A.units+1:=rfl
def Zb5{A:Around}{C:Addr}{us:Ye}{f:List (Str×Value)}(h:A.guards=some []):(A.under<|.builtin "type.__call__" ⟨.ref C::us,f⟩).guards=some []:=by
 simpa [Around.under,Code.guards,Code.isGuard,guardIds,pushGuards]using h
def Xv.make (r:Xv (k+1) A) (C:Addr) (us:Ye) (f:List (Str×Value)):Xv k (A.under<|.builtin "type.__call__" ⟨.ref C::us,f⟩):=
 ⟨r.hd,by have:=r.dp;rw[Zna];lia,by have:=r.un;rw[Zfr];lia,Zb5 r.gd⟩
def Xv.depth (r:Xv k A):A.depth<recursionLimit:=by have:=r.dp;lia
def Xv.units (r:Xv k A):A.units+64<cLine:=by have:=r.un;lia
def Xv.units0 (r:Xv k A):A.units<cLine:=by have:=r.un;lia
noncomputable def KH:TA:=λ_ H Q=>Q [] H
noncomputable def XW(h:TE)(g:TA):TA:=λf H Q=>h f H λx n=>g f n λxs l=>Q (x::xs) l
section
variable {X:Cx}{e:Expr}{es:Yg}{te:TE}{t:TA}{pos:Pos}
def Ky:PA X [] KH:=λ_ _ _ _ H Q I h=>Calls.spliced_nil ⟨[],H,I,.nil,h⟩
def XC(v:PE X e te)(r:PA X es t)(hs:autoParam (starEach (e::es) X.env=(false,eval e X.env)::starEach es X.env) au_0):PA X (e::es) (XW te t):=by
 intro pos pins s f H Q I h;rw[hs];refine Calls.spliced_cons (thn (v pins s f H _ I h) ?_);rintro u g ⟨x,A,y,n,p⟩;exact thn (r pos pins g f A _ y p) λB C ⟨xs,z,w,l,o⟩=>⟨x::xs,z,w,.cons n l,o⟩
noncomputable def E4(t:TA):TE:=λg H Q=>t g H λxs f=>xs.length<=sizeLine/\∀p,f p=none->Q (.ref p) (upd f p<|.tup xs)
noncomputable def Ey(t:TA):TE:=λg H Q=>t g H λxs f=>xs.length<=sizeLine/\∀p,f p=none->Q (.ref p) (upd f p<|.lst xs)
def Po(h:PA X es t):PE X (.Tuple es p pos) (E4 t):=by
 intro pins s l H Q I hq;refine wpAny_Tuple_spliced (thn (h pos pins s l H _ I hq) ?_);rintro n f ⟨xs,o,g,r,z,q⟩;refine⟨by rw[←r.length];exact z,?_⟩;refine⟨.ref f.heap.objs.size,upd o f.heap.objs.size (.tup xs),g.laid (λb u e=>WS _ e) (WT _) ?_,rfl,q _ (g.hok.fresh<|WT _)⟩;exact⟨z,n,r,⟨_,Qa _ rfl,rfl,_,rfl⟩⟩
def P8(h:PA X es t):PE X (.List es pos) (Ey t):=by
 intro pins s l H Q I hq;refine wpAny_List_spliced (thn (h pos pins s l H _ I hq) ?_);rintro n f ⟨xs,o,g,r,z,q⟩;refine⟨by rw[←r.length];exact z,?_⟩;refine⟨.ref f.heap.objs.size,upd o f.heap.objs.size (.lst xs),g.laid (λb u e=>WS _ e) (WT _) ?_,rfl,q _ (g.hok.fresh<|WT _)⟩;exact⟨z,n,0,r,Qa _ rfl⟩
end
abbrev Sp:=List V->Hp->VK->XK->Prop
abbrev CXT:=List Env->Hp->Shared->XK->Yb
structure NT (P:Program) (w:World) (K:ZW) (mg:Ya) (base:Heap) (A:Around) (outer:List Env) (s:Shared) (H:Hp):Prop where
 frames:A.frames=some outer
 mod:Mod K mg base
 bs:∀b o,base.get? b=some o->s.heap.get? b=some o/\H b=none
 bsz:base.objs.size<=s.heap.objs.size
 funs:s.heap.FunFrames base outer
 frf:∀b∈frs outer,H b=none
 hok:HOk P w H s.heap
 bare:AllBare s.gens
def CE(outer:List Env)(P:Program)(w:World)(H:Hp)(s:Shared)(Q:VK)(u:Value)(f:Shared):Prop:=
 ∃v g,f.os=s.os/\AllBare f.gens/\Un (frs outer) [] H g s.heap f.heap/\HOk P w g f.heap/\RelV v u/\Q v g
def CR(CX:CXT)(outer:List Env)(P:Program)(w:World)(H:Hp)(s:Shared)(Q:VK)(E:XK)(r:Result)(f:Shared):Prop:=
 match r with
 | .ok (.ret u)=>CE outer P w H s Q u f
 | .ok _=>False
 | .error e=>CX outer H s E e f
structure KL (P:Program) (w:World) (K:ZW) (mg:Ya) (base:Heap) (CX:CXT) (k:Nat) (f:Addr) (fd:FuncData) (ps:Yf) (sp:Sp):Prop where
 len:∀vs H Q E,sp vs H Q E->vs.length=ps.length
 run:∀(A:Around) (outer:List Env) (s:Shared) (H:Hp) (args:Args) (us:Ye) (vs:List V) (Q:VK) (E:XK),Xv k A->NT P w K mg base A outer s H->BindsTo s fd args (ps.zip us)->Vals vs us->sp vs H Q E->
  codeAny (model P w) A (.call (.ref f) args) (CR CX outer P w H s Q E) s
def KL.imp {K l base CX k f n ps sp g} (F:KL P w K l base CX k f n ps sp)
  (h:∀vs H Q E,g vs H Q E->sp vs H Q E):KL P w K l base CX k f n ps g:=
 ⟨λvs H Q E q=>F.len vs H Q E (h _ _ _ _ q),λA outer s H args o vs Q E u v x p r=>F.run A outer s H args o vs Q E u v x p (h _ _ _ _ r)⟩
def NT.make {K f base A outer s H} (e:NT P w K f base A outer s H) (C:Addr) (us:Ye) (g:List (Str×Value)) :
  NT P w K f base (A.under<|.builtin "type.__call__" ⟨.ref C::us,g⟩) outer s H:=⟨by first|exact e.frames|(simpa [Around.under,Code.envs,Code.isFrame,pushEnvs]using e.frames),e.mod,e.bs,e.bsz,e.funs,e.frf,e.hok,e.bare⟩
section
variable {X:Cx}{pins:ZZ}{σ:St}{H:Hp}{s s':Shared}
def Inv.env0 (I:Inv X pins σ H s):NT X.prog X.w X.K X.mg X.base X.A X.stack s H:=
 ⟨I.ok.frames,I.ok.mod,I.bs,WV I.ok.bsz I.sz,I.stack,I.stkFree,I.hok,I.bare⟩
def Inv.after (I:Inv X pins σ H s) (h:CE X.stack X.prog X.w H s Q u s'):EP X pins σ Q u s':=by
 obtain⟨v,n,os,bare,un,f,r,q⟩:=h;obtain⟨o,g,d,t,l⟩:=s';obtain rfl:=os;exact⟨v,n,I.call un f bare (λb z=>absurd z (by simp)),r,q⟩
end
noncomputable def Nf(sp:Sp)(f:List V)(E:XK)(t:TA):TE:=λg H Q=>t g H λh l=>sp (h++f) l Q E
noncomputable def Np(C:Addr)(m:Str)(sp:Sp)(f:List V)(E:XK)(n:TE)(t:TA):TE:=λg H Q=>n g H λx h=>∃a o fs,x=.ref a/\h a=some (.ins C o fs)/\fs.lookup m=none/\
 t g h λl p=>sp (x::(l++f)) p Q E
noncomputable def CP(C:Addr)(sp:Sp)(g:List V)(E:XK)(t:TA):TE:=λl H Q=>t l H λn h=>∀x f,h x=none->h f=none->f≠x->
 sp (.ref x::(n++g)) (upd (upd h f<|.own x) x<|.ins C f []) (λv o=>v=.non/\Q (.ref x) o) E
def Binds(K:ZW)(g:FuncData)(ps:Yf)(ds:Ye):Prop:=
 ∀(s:Shared) (f:Ye),K.In s.heap->(f++ds).length=ps.length->BindsTo s g ⟨f,[]⟩ (ps.zip (f++ds))
def Binds.all {K g ps} (h:∀us,us.length=ps.length->bindArgs g ⟨us,[]⟩=pure (ps.zip us)):Binds K g ps []:=λs us _ f=>by
 rw[Q8]at f ⊢;exact .of_eq (h us f)
def Pm(CX:CXT)(X:Cx)(E:XK):Prop:=∀(pins:ZZ) (g:St) (H:Hp) (s:Shared) (e:Value) (f:Shared),Inv X pins g H s->CX X.stack H s E e f->X.xe e f
section
variable {X:Cx}{CX:CXT}{k:Nat}{f C:Addr}{fd:FuncData}{ps:Yf}{sp:Sp}{dvs:List V}{ds:Ye}{E:XK}{x m:Str}{p pos apos:Pos}{e o:Expr}{es:Yg}{ta:TE}{t:TA}
def CH{g:St}{H}{s}{Q}{us}{vs}(F:KL X.prog X.w X.K X.mg X.base CX k f fd ps sp)(v:Xv k X.A)(B:Binds X.K fd ps ds)(z:Vals dvs ds)(hx:Pm CX X E)(I:Inv X pins g H s)(r:Vals vs us)(h:sp (vs++dvs) H Q E):wpAny (model X.prog X.w) X.A (call (.ref f) us) (EP X pins g Q) X.xe s:=by
 have l:=r.append z;have y:(us++ds).length=ps.length:=by rw[←l.length];exact F.len _ _ _ _ h
 refine wpAny_call (VI (F.run X.A X.stack s H ⟨us,[]⟩ (us++ds) (vs++dvs) Q E v I.env0 (B s us I.kIn y) l h) λr n hq=>?_);cases r with
 |error e=>exact hx pins g H s e n I hq
 |ok G=>
  cases G with
  |ret u=>exact I.after hq
  |cont=>exact False.elim hq
  |_=>trivial
def Zpp(F:KL X.prog X.w X.K X.mg X.base CX k f fd ps sp)(v:Xv k X.A)(B:Gl X x)(y:X.mg x=some (.ref f))(z:PySem.W.keepIn X.K (.ref f)=true)(L:Binds X.K fd ps ds)(J:Vals dvs ds)(hx:Pm CX X E)(M:PA X (e::es) t)(l:autoParam ((x==("__debug__" : Str))=false) au_1)(G:autoParam (starEach (e::es) X.env=(false,eval e X.env)::starEach es X.env) au_0)(g:autoParam ((backTo pos<|starEach es X.env).any (·.1)=false) au_0) :
  PE X (.Call (.Name x p) (e::es) [] pos) (Nf sp dvs E t):=by
 intro pins s u H Q I h;refine VU (BU I B y ?_ l);refine JK I.ok.mod.kin z (thn (M pos pins s u H _ I h) ?_) G g;rintro T U ⟨N,Y,n,r,q⟩;refine⟨n.kIn,?_⟩;exact CH F v L J hx n r q
def Zbg{pl}(U:PE X o ta)(c:Cls X.K C)(z:X0 X.K C m f)(F:KL X.prog X.w X.K X.mg X.base CX k f fd ps sp)(T:Xv k X.A)(hb:Binds X.K fd ps ds)(Y:Vals dvs ds)(hx:Pm CX X E)(ha:PA X (e::es) t)(g:autoParam (starEach (e::es) X.env=(false,eval e X.env)::starEach es X.env) au_0)(n:autoParam ((backTo pos<|starEach es X.env).any (·.1)=false) au_0)
  (N:autoParam (eval (.Call (.Attribute o m apos) (e::es) [] pos) X.env=(do
   let y ←eval o X.env
   standAt apos.atName
   let (f,first) ←holding [y] (getMethod y m pl)
   callWith pos f first (backTo pos<|starEach (e::es) X.env) (backToKw pos<|keywordEach [] X.env))) au_0) :
  PE X (.Call (.Attribute o m apos) (e::es) [] pos) (Np C m sp dvs E ta t):=by
 intro pins s v H Q I h;refine Jx (thn (U pins s v H _ I h) ?_) N;rintro u J ⟨x,H1,G,L,a,dx,fs,ex,ea,l,q⟩;subst ex;obtain rfl:=L;refine Ct G ea c z l ?_;refine JK I.ok.mod.kin z.kp (thn (ha pos pins J v H1 _ G q) ?_) g n;rintro us s2 ⟨vs,H2,B,r,M⟩;refine⟨B.kIn,?_⟩;exact CH (vs:=.ref a::vs) F T hb Y hx B (.cons rfl r) M
def Ze5(G:PE X o ta)(c:Cls X.K C)(r:X0 X.K C m f)(F:KL X.prog X.w X.K X.mg X.base CX k f fd ps sp)(B:Xv k X.A)(L:Binds X.K fd ps ds)(J:Vals dvs ds)(hx:Pm CX X E)
  (z:autoParam (eval (.Call (.Attribute o m apos) [] [] pos) X.env=(do
   let n ←eval o X.env
   standAt apos.atName
   let (f,first) ←holding [n] (getMethod n m U)
   callWith pos f first (backTo pos<|starEach [] X.env) (backToKw pos<|keywordEach [] X.env))) au_0) :
  PE X (.Call (.Attribute o m apos) [] [] pos) (Np C m sp dvs E ta KH):=by
 intro pins s v H Q I h;refine Jx (thn (G pins s v H _ I h) ?_) z;rintro u T ⟨x,H1,g,y,a,Y,fs,M,N,l,q⟩;subst M;obtain rfl:=y;refine Ct g N c r l ?_;exact PySem.W.callWith_K0 g.kIn r.kp (CH (vs:=[.ref a]) F B L J hx g (.cons rfl .nil) q)
structure Mk (K:ZW) (C f:Addr):Prop where
 makes:PySem.W.makesIn K C=true
 init:PySem.W.findIn K (.ref C) "__init__"=some (some<|.ref f)
 fn:PySem.W.isFn K (.ref f)=true
 kp:PySem.W.keepIn K (.ref C)=true
def Zn7{y:St}{H}{s}{Q}{us}{vs}(M:Mk X.K C f)(F:KL X.prog X.w X.K X.mg X.base CX k f fd ps sp)(L:Xv (k+1) X.A)(U:Binds X.K fd ps ds)(T:Vals dvs ds)(hx:Pm CX X E)(I:Inv X pins y H s)(r:Vals vs us)(h:∀x l,H x=none->H l=none->l≠x->sp (.ref x::(vs++dvs)) (upd (upd H l<|.own x) x<|.ins C l []) (λv H2=>v=.non/\Q (.ref x) H2) E) :
  wpAny (model X.prog X.w) X.A (call (.ref C) us) (EP X pins y Q) X.xe s:=by
 have hq:=h (s.heap.objs.size+1) s.heap.objs.size (I.hok.fresh<|VG _) (I.hok.fresh<|WT _) (Qm<|V6 _);have n:=Inv.made (C:=C) I;have z:Vals (V.ref (s.heap.objs.size+1)::(vs++dvs)) (Value.ref (s.heap.objs.size+1)::(us++ds)):=.cons rfl (r.append T)
 have N:(Value.ref (s.heap.objs.size+1)::us++ds).length=ps.length:=by
  have e:=z.length;rw[F.len _ _ _ _ hq]at e
  grind
 refine wpAny_call (Zms I.kIn M.makes M.init (beq_iff_eq.mp M.fn) (VI (F.run _ X.stack _ _ ⟨Value.ref (s.heap.objs.size+1)::us,[]⟩ (Value.ref (s.heap.objs.size+1)::(us++ds)) _ _ E (L.make C us [])
  (n.env0.make C us []) (U _ (Value.ref (s.heap.objs.size+1)::us) n.kIn N) z hq) λr B g=>?_))
 cases r with
 |error e=>exact hx pins y _ _ e B n g
 |ok Y=>
  cases Y with
  |ret u=>
   obtain⟨v,H',I3,G,ev,J⟩:=n.after g;subst ev;exact⟨G,⟨V.ref (s.heap.objs.size+1),H',I3,rfl,J⟩⟩
  |_=>exact False.elim g
def Zjw(M:Mk X.K C f)(F:KL X.prog X.w X.K X.mg X.base CX k f fd ps sp)(v:Xv (k+1) X.A)(z:Gl X x)(y:X.mg x=some (.ref C))(J:Binds X.K fd ps ds)(G:Vals dvs ds)(hx:Pm CX X E)(L:PA X (e::es) t)(l:autoParam ((x==("__debug__" : Str))=false) au_1)(B:autoParam (starEach (e::es) X.env=(false,eval e X.env)::starEach es X.env) au_0)(g:autoParam ((backTo pos<|starEach es X.env).any (·.1)=false) au_0) :
  PE X (.Call (.Name x p) (e::es) [] pos) (CP C sp dvs E t):=by
 intro pins s u H Q I h;refine VU (BU I z y ?_ l);refine JK I.ok.mod.kin M.kp (thn (L pos pins s u H _ I h) ?_) B g;rintro T U ⟨N,Y,n,r,q⟩;refine⟨n.kIn,?_⟩;exact Zn7 M F v J G hx n r q
end
structure Xh (N P:Yf) (sc:Scope):Prop where
 kind:sc.kind=.function
 co:sc.isCoroutine=false
 gen:sc.isGenerator=false
 nd:N.Nodup
 pre:N.take P.length=P
 par:∀x∈P,sc.names.lookup x=some .local\/sc.names.lookup x=some .cell
 nofree:∀y∈sc.names,y.2≠.free
theorem O3{kindOf x}:∀{binds}{m:Ya},(∀v,(x,v)∉binds)->bindL kindOf binds m x=m x
 |[],_,_=>rfl
 |(n,v)::r,m,h=>by
  unfold bindL;rw[O3 λw hw=>h w (Qo _ hw)];split
  ·grind
  ·rfl
theorem MG{kindOf x}:∀{binds}{m:Ya},(∀v,(x,v)∉binds)->bindC kindOf binds m x=m x
 |[],_,_=>rfl
 |(n,v)::r,m,h=>by
  unfold bindC;rw[MG λw hw=>h w (Qo _ hw)];split
  ·rfl
  ·grind
theorem Md{kindOf}{x}{v}:∀{P:Yf}{vs}{i:Nat}{m:Ya},P.Nodup->P[i]?=some x->vs[i]?=some v->kindOf x=some .local->
  bindL kindOf (P.zip vs) m x=some v
 |[],_,_,_,_,h,_,_|_::_,[],_,_,_,_,h,_=>by simp at h
 |p::P,w::vs,0,m,f,n,l,g=>by
  simp at n l;subst n;subst l;show bindL kindOf ((p,w)::P.zip vs) m p=_;unfold bindL;rw[O3 λv o=>(Qv.mp f).1 (List.of_mem_zip o).1,WQ g];simp
 |p::P,w::vs,i+1,m,f,n,l,g=>by
  unfold bindL;exact Md (Qv.mp f).2 (by trivial) (by grind) g
theorem LN{kindOf}{x}{v}:∀{P:Yf}{vs}{i:Nat}{m:Ya},P.Nodup->P[i]?=some x->vs[i]?=some v->kindOf x≠some .local->
  bindC kindOf (P.zip vs) m x=some v
 |[],_,_,_,_,h,_,_|_::_,[],_,_,_,_,h,_=>by simp at h
 |p::P,w::vs,0,m,f,n,l,g=>by
  simp at n l;subst n;subst l;show bindC kindOf ((p,w)::P.zip vs) m p=_;unfold bindC;rw[MG λv o=>(Qv.mp f).1 (List.of_mem_zip o).1,WO g];simp
 |p::P,w::vs,i+1,m,f,n,l,g=>by
  unfold bindC;exact LN (Qv.mp f).2 (by trivial) (by grind) g
noncomputable def start(N:Yf)(vs:List V):St:=vs.map some++List.replicate (N.length-vs.length) none
noncomputable def XY(CX:CXT)(P:Program)(w:World)(K:ZW)(mg:Ya)(base:Heap)(N:Yf)(qual:Str)(scope:Scope)(f:Addr)(cd:Value)(A:Around)(outer:List Env)(s:Shared)(H:Hp)(E:XK):Cx where
 prog:=P
 w:=w
 K:=K
 mg:=mg
 base:=base
 A:=A.deeper (envOfC qual scope s.heap.objs.size f cd)
 N:=N
 s₀:=s
 H₀:=H
 env:=envOfC qual scope s.heap.objs.size f cd
 outer:=outer
 stack:=envOfC qual scope s.heap.objs.size f cd::outer
 ex:=[]
 calm:=true
 fn:=λ_=>true
 pn:=[]
 xe:=λe s'=>wpAny (model P w) (A.deeper<|envOfC qual scope s.heap.objs.size f cd) (leaving (envOfC qual scope s.heap.objs.size f cd) e) (λ_ s''=>CX outer H s E e s'') (λe' s''=>CX outer H s E e' s'') s'
def Hw{f:Scope}{n}{x}(h:f.names.lookup x=some .cell):∃c,(cellsFrom n f.names []).lookup x=some c:=by
 exact Option.isSome_iff_exists.mp (PySem.W.cellsFrom_some f.names n []<|.inl h)
def Zgu{P}{w}{K}{mg}{base}{N ps}{qual}{scope}{f}{cd}{A}{outer}{s L}{H}{E}{us}{vs}(S:Xh N ps scope)(Y:A.handled=none)(l:NT P w K mg base A outer s H)(hl:vs.length=ps.length)(r:Vals vs us)(x:InCallC s s.heap.objs.size (bindL (envOfC qual scope s.heap.objs.size f cd).kindOf (ps.zip us) λ_=>none) (cellsFrom (s.heap.objs.size+1) scope.names []) (bindC (envOfC qual scope s.heap.objs.size f cd).kindOf (ps.zip us) λ_=>none) L) :
  Inv (XY CX P w K mg base N qual scope f cd A outer s H E) [] (start N vs) H L:=by
 have U:ps.length<=N.length:=by have:=Q4 List.length S.pre;rw[Q5]at this;lia
 obtain⟨J,tk,rfl,Q⟩:=x.done;have n:∀b,b∉(XY CX P w K mg base N qual scope f cd A outer s H E).ex:=λb z=>absurd (show b∈([]:List Addr)from z) (by simp)
 refine⟨⟨l.mod,S.kind,rfl,rfl,WT _,λy z c J g=>?_,λy o=>?_,λy c _ h=>?_,λ_=>Y,Around.frames_deeper l.frames,.inr ⟨rfl,rfl⟩,λb z=>absurd z (n b),l.bs,l.bsz,λb _ _=>n b,λb z=>absurd z (n b),l.funs,l.frf⟩,
  rfl,l.bare,Un.kept Q,⟨_,x.toInCall.ns,λi y v J g h3=>?_⟩,λy c h=>⟨_,x.cell y c h⟩,l.hok.fresh (WT _),λy c h=>?_,λp C=>absurd (show p∈([]:ZZ)from C) (by simp),l.hok.kept Q,?_⟩
 ·exact name_of_addr x.apart (Vv J) (Vv g)
 ·have o:=o;rcases o with o|o
  ·exact Hw o
  ·exact absurd rfl (S.nofree _<|Vv o)
 ·exact VT (x.above y c<|Vv h)
 ·have G:i<vs.length:=by
   unfold start at g;by_cases G:i<vs.length
   ·exact G
   ·rw[Qx (by simpa using G)]at g;rw[VC]at g;split at g<;>cases g
  have ha:vs[i]?=some v:=by
   unfold start at g;rw[Qs (by simpa using G),WY]at g;cases e:vs[i]? with
   |none=>rw[e]at g;cases g
   |some a=>rw[e]at g;cases g;rfl
  obtain⟨u,M,T⟩:=r.get ha
  have C:ps[i]?=some y:=by
   rw[←S.pre,Vj (by lia)];exact J
  have B:ps.Nodup:=by rw[←S.pre];exact S.nd.sublist (Jg _ _)
  refine⟨u,T,?_⟩;rcases S.par y (Qe C)with k|k
  ·exact .inl ⟨k,Md B C M k⟩
  ·obtain⟨c,e⟩:=Hw k;refine .inr ⟨.inl k,c,e,?_⟩;have q:=x.cell y c e;rw[LN B C M (by show scope.names.lookup y≠_;rw[k];decide)]at q;exact q
 ·exact l.hok.fresh (VT<|x.above y c<|Vv h)
 ·unfold start;show _=N.length;rw[WW,WI,List.length_replicate];lia
def Cm{K M base k f name qual params body scope dV kV L pm g ct oc an od Y N ps sp}(lk:K.lookup f=some ⟨oc,od,.func (PySem.W.fnOf name qual params body scope dV kV L pm an g ct),Y⟩)(hcd:PySem.W.codeIn K g qual=true)(S:Xh N ps scope)(len:∀vs H Q E,sp vs H Q E->vs.length=ps.length)
  (p:∀A outer s H vs Q E,Xv k (A.deeper<|envOfC qual scope s.heap.objs.size f g)->sp vs H Q E->
   ∃t,PSs (XY CX P w K M base N qual scope f g A outer s H E) body t/\t {nx:=λ_ H'=>Q .non H',rt:=Q} (start N vs) H) :
  KL P w K M base CX (k+1) f (PySem.W.fnOf name qual params body scope dV kV L pm an g ct) ps sp:=by
 refine⟨len,λA outer s H args us vs Q E hr G hb r z=>?_⟩;have KX:=G.mod.kin.keeps λb o e=>(G.bs b o e).1
 have l:∀y∈ps.zip us,scope.names.lookup y.1=some .local\/(scope.names.lookup y.1=some .cell/\((cellsFrom (s.heap.objs.size+1) scope.names []).lookup y.1).isSome=true):=λ⟨n,v⟩ hy=>by
  rcases S.par n (List.of_mem_zip hy).1 with q|q
  ·exact .inl q
  ·exact .inr ⟨q,PySem.W.cellsFrom_some _ _ _ (.inl q)⟩
 refine codeAny_call_function hr.depth (KX _ _ lk) rfl S.co S.gen rfl (PySem.W.codeRec_of KX hcd) (hb _ _ _ _ ?_);refine wpAny_newFunctionEnv_cells S.kind l λenv he s1 x=>?_;subst he;refine⟨(G.mod.nolimit.keeps λb o e=>(G.bs b o e).1).keeps x.toInCall.keep,codeAny_func ?_⟩;obtain⟨t,ht,hq⟩:=p A outer s H vs Q E (hr.deeper _) z;have I:Inv (XY CX P w K M base N qual scope f g A outer s H E) [] (start N vs) H s1:=Zgu S hr.hd G (len _ _ _ _ z) r x;refine QI (ht [] s1 (start N vs) H _ I hq) (λfl T B=>?_) λe T B=>B
 have C:∀{h:St} {H':Hp} {v:V} {u:Value},Inv (XY CX P w K M base N qual scope f g A outer s H E) [] h H' T->RelV v u->Q v H'->CE outer P w H s Q u T:=
  λ{h H' v u} J U q=>⟨v,H',J.os,J.bare,J.base,J.hok,U,q⟩
 cases fl with
 |ret u=>
  obtain⟨v,h,H',J,U,q⟩:=B;exact C J U q
 |next=>
  obtain⟨h,H',J,q⟩:=B;exact C (v:=V.non) J rfl q
 |_=>
  obtain⟨_,_,_,q⟩:=B;exact False.elim q
section
variable {X:Cx}{x:Str}{p pos:Pos}{e:Expr}{es:Yg}{t:TA}{id T:String}{r:List V->Hp->VK->Prop}
noncomputable def tCB(r:List V->Hp->VK->Prop)(t:TA):TE:=λf H Q=>t f H λg h=>r g h Q
def Ki(E:Kr X (.builtin id) r)(B:Gl X x)(A:X.mg x=none)(y:bootBuiltins x=some (.builtin id))(G:PA X (e::es) t)(z:autoParam (x≠"__name__") au_1)(g:autoParam ((x==("__debug__" : Str))=false) au_1)(C:autoParam (starEach (e::es) X.env=(false,eval e X.env)::starEach es X.env) au_0)(f:autoParam ((backTo pos<|starEach es X.env).any (·.1)=false) au_0):PE X (.Call (.Name x p) (e::es) [] pos) (tCB r t):=by
 intro pins s l H Q I h;refine VU (Sr I B A y ?_ z g);exact PyProof.Rows.callWith_builtin1 (thn (G pos pins s l H _ I h) λo u ⟨n,L,J,v,w⟩=>E pins u l L n o Q J v w) C f
def KU(E:Kr X (.type T) r)(B:Gl X x)(A:X.mg x=none)(y:bootBuiltins x=some (.type T))(G:PA X (e::es) t)(z:autoParam (x≠"__name__") au_1)(g:autoParam ((x==("__debug__" : Str))=false) au_1)(C:autoParam (starEach (e::es) X.env=(false,eval e X.env)::starEach es X.env) au_0)(f:autoParam ((backTo pos<|starEach es X.env).any (·.1)=false) au_0):PE X (.Call (.Name x p) (e::es) [] pos) (tCB r t):=by
 intro pins s l H Q I h;refine VU (Sr I B A y ?_ z g);exact Vz (thn (G pos pins s l H _ I h) λo u ⟨n,L,J,v,w⟩=>E pins u l L n o Q J v w) C f
end
end L2
namespace HT
open PySem PyProof.Rows
section
variable {prog:Program}{w:World}{A:Around}{E:Yb}{s:Shared}
def Zrg(C:IsTup s.heap t vs.toArray)(G:IsTup s.heap b g.toArray)(v:vs≠[])(H:g=[]->Q (.ref t) s)(J:g≠[]->Q (.ref s.heap.objs.size) {s with heap:=s.heap.push {cls:=.type "tuple",data:=.seq (vs++g).toArray}})(hsz:vs.length+g.length<=sizeLine):wpAny (model prog w) A (binaryOp .Add (.ref t)<|.ref b) Q E s:=by
 obtain⟨⟨cls,z,data,sl⟩,r,y,n,x⟩:=id C;obtain⟨⟨B,p,data2,h⟩,f,o,u,l⟩:=id G;simp only at y x o l;subst y x o l;by_cases hw:g=[]
 ·exact concat_meets ⟨_,r,rfl⟩ ⟨_,f,rfl⟩ noFill_tuple_add seq_tuple_add Jr Je (VW _ _)
   (tuple_addW1 t b vs.toArray g.toArray n u z p sl h (by simpa using v)<|by simp[hw]) ⟨r,f,H hw⟩
 ·refine concat_meets ⟨_,r,rfl⟩ ⟨_,f,rfl⟩ noFill_tuple_add seq_tuple_add Jr Je (VW _ _)
   (tuple_addW2 t b vs.toArray g.toArray n u z p sl h (by simpa using v) (by simpa using hw)<|by omega) ⟨r,f,?_⟩
  grind
noncomputable def sIx(n d:Nat):Option Int->Nat
 |none=>d
 |some v=>if v<0 then(v+(n:Int)).toNat else min v.toNat n
def Hk(n d:Nat):sIx n d none=d:=rfl
def Fc(n d k:Nat):sIx n d (some (k:Int))=min k n:=rfl
end
end HT
namespace L2
open PySem PySem.Spec PyProof.Rows
abbrev TO:=St->Hp->(Option Int->Hp->Prop)->Prop
def PO(X:Cx)(e:Option Expr)(t:TO):Prop:=
 ∀(pins:ZZ) (s:Shared) (f:St) (H:Hp) (Q:Option Int->Hp->Prop),Inv X pins f H s->t f H Q->
  wpAny (model X.prog X.w) X.A (evalPart e X.env) (λu h=>∃o g,Inv X pins f g h/\IsPart u o/\Q o g) X.xe s
noncomputable def G3:TO:=λ_ H Q=>Q none H
noncomputable def Mm(t:TE):TO:=λf H Q=>t f H λx g=>∃i,x=.int i/\Q (some i) g
def BQ:∀{us:Ye},Vals (ns.map V.int) us->IntsAre us ns:=by
 induction ns with
 |nil=>intro us r;rw[List.map_nil]at r;cases r;exact .nil
 |cons n ns h=>
  intro us r;cases r with
  |cons g f=>
   obtain⟨t,e⟩:=g;subst e;exact .cons n t (h f)
section
variable {X:Cx}{e:Expr}{te:TE}{lo hi:Option Expr}{tl th:TO}{pos p2:Pos}
def Lc:PO X none G3:=by
 intro pins s f H Q I h;exact WR ⟨none,H,I,.none,h⟩
def Fi(h:PE X e te):PO X (some e) (Mm te):=by
 intro pins s f H Q I hw;refine thn (h pins s f H _ I hw) ?_;rintro u p ⟨x,o,n,g,l⟩;obtain⟨i,rfl,q⟩:=l;obtain⟨t,rfl⟩:=g;exact⟨some i,o,n,.int i t,q⟩
def SlR(X:Cx)(r:V->Option Int->Option Int->Hp->VK->Prop):Prop:=
 ∀(pins:ZZ) (s:Shared) (f:St) (H:Hp) (x:V) (v h g:Value) (lo hi:Option Int) (sl:Addr) (Q:VK),Inv X pins f H s->RelV x v->s.heap.IsSliceOf sl h g .none->IsPart h lo->IsPart g hi->r x lo hi H Q->
  ∃T id,typeLookup (.type T) "__getitem__"=pure (some<|.builtin id)/\s.TypeIs v T/\wpAny (model X.prog X.w) X.A (getItem v<|.ref sl) (EP X pins f Q) X.xe s
noncomputable def tSl(r:V->Option Int->Option Int->Hp->VK->Prop)(te:TE)(tl th:TO):TE:=λf H Q=>te f H λx n=>tl f n λl h=>th f h λu g=>r x l u g Q
def Du(M:SlR X r)(Y:PE X e te)(N:PO X lo tl)(J:PO X hi th):PE X (.Subscript e (.Slice lo hi none p2) pos) (tSl r te tl th):=by
 intro pins s f H Q I h;refine Subscript_ (thn (Y pins s f H _ I h) ?_);rintro v y ⟨x,H1,I1,z,C⟩;refine wpAny_Slice (thn (N pins y f H1 _ I1 C) ?_);rintro o w ⟨l,H2,I2,G,B⟩;refine thn (J pins w f H2 _ I2 B) ?_;rintro n g ⟨u,p,I3,E,A⟩;refine WR ?_;have I4:Inv X pins f p {g with heap:=g.heap.push {cls:=.type "slice",data:=.fields #[o,n,.none]}}:=I3.kept λb ob q=>WS _ q
 obtain⟨T,id,hT,L,U⟩:=M pins {g with heap:=g.heap.push {cls:=.type "slice",data:=.fields #[o,n,.none]}} f p x v o n l u g.heap.objs.size Q I4 z (Heap.IsSliceOf.new ..) G E A
 exact tail_any L hT U rfl
noncomputable def TM(xs:List V)(lo hi:Option Int):List V:=(xs.drop<|HT.sIx xs.length 0 lo).take (HT.sIx xs.length xs.length hi-HT.sIx xs.length 0 lo)
def Zhj(xs:List V)(lo hi:Option Int):(TM xs lo hi).length<=xs.length:=by
 unfold TM
 grind
noncomputable def Zjt(K:ZW):R2:=λx y H Q=>∃a b xs f,x=.ref a/\y=.ref b/\SqT K H a xs/\SqT K H b f/\xs≠[]/\xs.length+f.length<=sizeLine/\
 (f=[]->Q (.ref a) H)/\(f≠[]->∀p,H p=none->Q (.ref p) (upd H p<|.tup (xs++f)))
def Vals.nil_iff (r:Vals xs us):us=[]↔xs=[]:=by
 cases r with
 |_=>simp
def Zmc:OpR X (binaryOp .Add) (Zjt X.K):=by
 intro pins s J H x y v u Q I p o h;obtain⟨a,b,xs,L,rfl,rfl,G,E,hx,n,A,r⟩:=h;cases p
 cases o
 obtain⟨C,g,B,_⟩:=I.tuple G;obtain⟨l,f,p2,_⟩:=I.tuple E;refine HT.Zrg B p2 (λz=>hx (g.nil_iff.mp z)) (λz=>⟨.ref a,H,I,rfl,A (f.nil_iff.mp z)⟩) (λz=>?_) (by rw[←g.length,←f.length];exact n);refine⟨.ref s.heap.objs.size,_,I.laid (λb M q=>WS _ q) (WT _) ?_,rfl,r (λw=>z (f.nil_iff.mpr w)) _ (I.hok.fresh<|WT _)⟩;exact⟨by rw[WW];exact n,_,g.append f,IsTup.new _ _⟩
end
noncomputable def ixN(n:Nat)(i:Int):Option Nat:=if 0<=i then(if i<n then some i.toNat else none)else if -(n:Int)<=i then some (i+n).toNat else none
noncomputable def atI{f:Type}(xs:List f)(i:Int):Option f:=(ixN xs.length i).bind λj=>xs[j]?
def HF(h:ixN n i=some j):seqIndex? i n=some j/\j<n/\-(n:Int)<=i/\i<n:=by
 unfold ixN at h;by_cases g:0<=i
 ·rw[WQ g]at h;by_cases f:i<n
  ·rw[WQ f]at h;have e:=Qc h;exact⟨by rw[seqIndex_of g f,e],by lia,by lia,f⟩
  ·grind
 ·rw[WO g]at h;by_cases f:-(n:Int)<=i
  ·rw[WQ f]at h;have e:=Qc h;exact⟨by rw[seqIndex_neg (by lia) f,e],by lia,f,by lia⟩
  ·grind
def Lu(h:atI xs i=some v):∃j,seqIndex? i xs.length=some j/\xs[j]?=some v/\j<xs.length/\-(xs.length:Int)<=i/\i<xs.length:=by
 unfold atI at h;cases e:ixN xs.length i with
 |none=>grind
 |some j=>
  obtain⟨n,l,g,f⟩:=HF e
  grind
def NG{j:Nat}{v}(h:xs[j]?=some v):atI xs (j:Int)=some v:=by
 have e:ixN xs.length (j:Int)=some j:=by
  unfold ixN
  grind
 unfold atI;rw[e];exact h
def Em(b:Expr):Prop:=∀o i,subscripted b false o i=operate [o,i] (getItem o i)
def IxR(X:Cx)(r:R2):Prop:=
 ∀(value slice:Expr) (pins:ZZ) (s:Shared) (f:St) (H:Hp) (x y:V) (v u:Value) (Q:VK),Inv X pins f H s->RelV x v->RelV y u->r x y H Q->
  subscripted slice false v u=operate [v,u] (getItem v u)->wpAny (model X.prog X.w) X.A (subscriptTail value slice v u) (EP X pins f Q) X.xe s
def MtR(X:Cx)(id:String)(r:V->List V->Hp->VK->Prop):Prop:=
 ∀(pins:ZZ) (s:Shared) (f:St) (H:Hp) (x:V) (xs:List V) (v:Value) (g:Ye) (Q:VK),Inv X pins f H s->RelV x v->Vals xs g->r x xs H Q->
  wpAny (model X.prog X.w) X.A (call (.builtin id) (v::g)) (EP X pins f Q) X.xe s
section
variable {X:Cx}{a b:Expr}{ta tb:TE}{pos:Pos}
def IxR.or (h:IxR X r) (p:IxR X o):IxR X (λx y H Q=>r x y H Q\/o x y H Q):=by
 intro value slice pins s f H x y v u Q I l g q n;rcases q with q|q
 ·exact h value slice pins s f H x y v u Q I l g q n
 ·exact p value slice pins s f H x y v u Q I l g q n
def HS(o:IxR X r)(w:PE X a ta)(p:PE X b tb)(hs:Em b):PE X (.Subscript a b pos) (tOp r ta tb):=by
 intro pins s f H Q I h;exact Subscript_ (A3 w p I h λv u g x y A z n l q=>o a b pins g f A x y v u Q z n l q (hs _ _))
noncomputable def PY(K:ZW):R2:=λx y H Q=>∃p xs i v,x=.ref p/\y=.int i/\SqL K H p xs/\atI xs i=some v/\Q v H
noncomputable def Tf(K:ZW):R2:=λx y H Q=>∃p xs i v,x=.ref p/\y=.int i/\SqT K H p xs/\atI xs i=some v/\Q v H
def ix_list:IxR X (PY X.K):=by
 intro value slice pins s G H x y v u Q I L J h B;obtain⟨p,xs,i,z,rfl,rfl,hq,N,q⟩:=h;cases L
 obtain⟨t,rfl⟩:=J;obtain⟨o,r,n,hz⟩:=I.list hq;obtain⟨j,g,Y,h3,U,T⟩:=Lu N;obtain⟨w,E,l⟩:=r.get Y;have M:=r.length;have hn:=F6;have f:EP X pins G Q w s:=⟨z,H,I,l,q⟩;by_cases C:0<=i
 ·have A:i.toNat=j:=by
   rw[seqIndex_of C T]at g;exact Qc g
  exact item_listR n.isList C (by lia) (by rw[A];simpa using E) f B
 ·have A:(i+(o.toArray.size:Int)).toNat=j:=by
   rw[seqIndex_neg (by lia) U]at g;rw[Qz,←M];exact Qc g
  exact subscriptTail_builtinR n.isList.typeIs slot_list_getitem.lookup
   (wpAny_getItem_list_neg n.isList (by lia) (by rw[Qz]<;>lia) (by lia) (by rw[A];simpa using E) ⟨rfl,f⟩) B
def Zj5:IxR X (Tf X.K):=by
 intro value slice pins s n H x y v u Q I A o h C;obtain⟨p,xs,i,z,rfl,rfl,hq,E,q⟩:=h;cases A
 obtain⟨t,rfl⟩:=o;obtain⟨B,r,l,L⟩:=I.tuple hq;obtain⟨j,J,G,U,T,N⟩:=Lu E;obtain⟨w,Y,f⟩:=r.get G;have M:=F6;have g:EP X pins n Q w s:=⟨z,H,I,f,q⟩
 exact subscriptTail_builtinR l.typeIs slot_tuple_getitem.lookup
  (getItem_tuple l (by lia) (by lia) (by rw[Qz,←r.length];exact J) (by grind) ⟨rfl,g⟩) C
def Zmi(f:Ye)(n j:Nat)(u:Value):Obj.mapSeq (·.setIfInBounds j u) {cls:=.type "list",data:=.seq f.toArray n}={cls:=.type "list",data:=.seq (f.set j u).toArray n}:=by
 simp[Obj.mapSeq]
def Inv.lst {g:St}{H}{s}{p}{xs} (I:Inv X pins g H s) (h:H p=some (.lst xs)) :
  ∃f n,Vals xs f/\s.heap.get? p=some {cls:=.type "list",data:=.seq f.toArray n}/\xs.length<=sizeLine:=by
 obtain⟨z,f,n,r,e⟩:=I.hok p _ h
 grind
def Inv.lstUpd {v:St}{H}{s}{p}{xs ys}{l g:Ye}{n o}{f} (I:Inv X pins v H s) (h:H p=some (.lst xs))
  (y:s.heap.get? p=some {cls:=.type "list",data:=.seq l.toArray n}) (w:f {cls:=.type "list",data:=.seq l.toArray n}={cls:=.type "list",data:=.seq g.toArray o}) (r:Vals ys g) (x:ys.length<=sizeLine) (t:Nat) :
  Inv X pins v (upd H p<|.lst ys) {s with heap:=s.heap.update p f,toks:=t}:=by
 have e:(s.heap.update p f).get? p=some {cls:=.type "list",data:=.seq g.toArray o}:=by
  rw[QA f y (by rw[w]<;>rfl),w]
 refine I.write (by rw[h];trivial) (.inl rfl) (λb u z q=>(QE _ _<|Ne.symm z).trans q) ⟨_,e⟩ ?_;exact⟨x,g,o,r,e⟩
def IS:V->V->V->Hp->(Hp->Prop)->Prop:=λo i v H Q=>∃p xs k j,o=.ref p/\i=.int k/\H p=some (.lst xs)/\ixN xs.length k=some j/\Q (upd H p<|.lst<|xs.set j v)
def Zih:Zaa X IS:=by
 intro pins s M H o i v N T u Q I G ri E h;obtain⟨p,xs,k,j,rfl,rfl,y,L,q⟩:=h;cases G
 obtain⟨t,rfl⟩:=ri;obtain⟨f,n,r,l,J⟩:=I.lst y;obtain⟨g,Y,A,z⟩:=HF L;have w:=r.length;have U:=F6
 have C:=
  I.lstUpd y l (Zmi f n j u) (r.set E j) (by rw[QJ];exact J) s.toks
 by_cases B:0<=k
 ·have x:k.toNat=j:=by
   rw[seqIndex_of B z]at g;exact Qc g
  exact PySem.W.ki_setAt l B (by lia) (by rw[Qz,←w];exact z) (by rw[x];exact⟨_,C,q⟩)
 ·have x:(k+(f.toArray.size:Int)).toNat=j:=by
   rw[seqIndex_neg (by lia) A]at g;rw[Qz,←w];exact Qc g
  exact PySem.W.ki_setBack l (by lia) (by rw[Qz,←w];exact A) (by lia) (by rw[x];exact⟨_,C,q⟩)
def Zqf(lo f:Option Int)(n:Nat):(sliceBounds lo f none n).1=((HT.sIx n 0 lo:Nat):Int)/\(sliceBounds lo f none n).2.1=((HT.sIx n n f:Nat):Int)/\(sliceBounds lo f none n).2.2=1:=by
 refine⟨?_,?_,rfl⟩
 ·cases lo with
  |none=>simp[sliceBounds,HT.sIx]
  |some i=>
   simp only[sliceBounds,HT.sIx,Option.getD_none,show(1:Int)>0 by decide,if_true];by_cases h:i<0
   ·grind
   ·simp only[h,Jv]<;>lia
 ·cases f with
  |none=>simp[sliceBounds,HT.sIx]
  |some i=>
   simp only[sliceBounds,HT.sIx,Option.getD_none,show(1:Int)>0 by decide,if_true];by_cases h:i<0
   ·simp only[h,if_true]<;>lia
   ·simp only[h,Jv]<;>lia
def Zlr(f:Ye)(lo g:Option Int):slicePick f.toArray lo g none=((f.drop<|HT.sIx f.length 0 lo).take (HT.sIx f.length f.length g-HT.sIx f.length 0 lo)).toArray:=by
 obtain⟨n,l,h⟩:=Zqf lo g f.toArray.size;unfold slicePick;rw[n,l,h];simp only[sliceRange_one,pick_run,Qz]<;>rfl
def SU(K:ZW):V->Option Int->Option Int->Hp->VK->Prop:=λx lo f H Q=>∃a xs,x=.ref a/\SqL K H a xs/\∀p,H p=none->Q (.ref p) (upd H p<|.lst<|TM xs lo f)
def Zqn:SlR X (SU X.K):=by
 intro pins s z H x v B A lo l sl Q I n y p o h;obtain⟨a,xs,rfl,hx,q⟩:=h;cases n
 obtain⟨u,r,g,w⟩:=I.list hx;have f:=r.length;refine⟨"list",_,slot_list_getitem.lookup,g.isList.typeIs,?_⟩;refine wpAny_getItem_list_slice g.isList y p o .none (by simp) ?_ (by grind);rw[Zlr,←f];refine⟨.ref s.heap.objs.size,_,I.laid (λb C q=>WS _ q) (WT _) ?_,rfl,q _ (I.hok.fresh<|WT _)⟩;exact⟨WV (Zhj xs lo l) w,_,0,(r.drop<|HT.sIx xs.length 0 lo).take (HT.sIx xs.length xs.length l-HT.sIx xs.length 0 lo),Qa _ rfl⟩
noncomputable def Pj:V->Bool
 | .non=>true
 | .bl _=>true
 | .int _=>true
 | .str _=>true
 |_=>false
noncomputable def eqV:V->V->Bool
 | .non,.non=>true
 | .bl a,.bl b=>a==b
 | .bl a,.int b=>(if a then 1 else 0)==b
 | .int a,.bl b=>a==(if b then 1 else 0)
 | .int a,.int b=>a==b
 | .str a,.str b=>a==b
 |_,_=>false
def Oc{y x u v}(h:RelV y u)(f:RelV x v)(fy:Pj y=true)(l:Pj x=true):SeqAt.EqAt A s u v (eqV y x):=by
 cases y with
 |non=>
  cases h
  cases x with
  |non=>cases f;exact SeqAt.EqAt.same _
  |bl b=>cases f;exact SeqAt.EqAt.none_bool b
  |int b=>obtain⟨t,rfl⟩:=f;exact SeqAt.EqAt.none_int b t
  |str b=>obtain⟨t,rfl⟩:=f;exact SeqAt.EqAt.none_str b t
  |_=>exact absurd l Qk
 |bl a=>
  cases h
  cases x with
  |non=>cases f;exact SeqAt.EqAt.bool_none a
  |bl b=>cases f;exact SeqAt.EqAt.bool_bool a b
  |int b=>obtain⟨t,rfl⟩:=f;exact SeqAt.EqAt.bool_int a b t
  |str b=>obtain⟨t,rfl⟩:=f;exact SeqAt.EqAt.bool_str a b t
  |_=>exact absurd l Qk
 |int a=>
  obtain⟨g,rfl⟩:=h;cases x with
  |non=>cases f;exact SeqAt.EqAt.int_none a g
  |bl b=>cases f;exact SeqAt.EqAt.int_bool a g b
  |int b=>obtain⟨t,rfl⟩:=f;exact SeqAt.EqAt.int_int a g b t
  |str b=>obtain⟨t,rfl⟩:=f;exact SeqAt.EqAt.int_str a g b t
  |_=>exact absurd l Qk
 |str a=>
  obtain⟨g,rfl⟩:=h;cases x with
  |non=>cases f;exact SeqAt.EqAt.str_none a g
  |bl b=>cases f;exact SeqAt.EqAt.str_bool a g b
  |int b=>obtain⟨t,rfl⟩:=f;exact SeqAt.EqAt.str_int a g b t
  |str b=>obtain⟨t,rfl⟩:=f;exact SeqAt.EqAt.str_str a g b t
  |_=>exact absurd l Qk
 |_=>exact absurd fy Qk
noncomputable def eqU(x:V)(u:Value):Bool:=match u with
 | .none=>eqV .non x
 | .bool b=>eqV (.bl b) x
 | .int i _=>eqV (.int i) x
 | .str z _=>eqV (.str z) x
 |_=>false
def O4{x y u}(r:RelV y u)(f:Pj y=true):eqU x u=eqV y x:=by
 cases y with
 |non|bl b=>cases r;rfl
 |int i|str z=>obtain⟨t,rfl⟩:=r;rfl
 |_=>trivial
theorem B6:∀{xs}{us:Ye},Vals xs us->xs.all Pj=true->us.any (eqU x)=xs.any λy=>eqV y x
 |_,_,.nil,_=>rfl
 |y::xs,u::us,.cons r t,f=>by
  rw[Jt,Qr]at f;rw[VQ,VQ,O4 r f.1,B6 t f.2]
theorem Bw{x v}(h:RelV x v)(l:Pj x=true):∀{xs}{us:Ye},Vals xs us->xs.all Pj=true->∀u∈us,SeqAt.EqAt A s u v (eqU x u)
 |_,_,.nil,_=>λu g=>by cases g
 |y::xs,u::us,.cons r t,f=>λn g=>by
  rw[Jt,Qr]at f;rcases WX.mp g with rfl|g
  ·rw[O4 r f.1];exact Oc r h f.1 l
  ·exact Bw h l t f.2 n g
noncomputable def inV(x:V)(xs:List V):Bool:=xs.any λy=>eqV y x
noncomputable def rIn(K:ZW)(neg:Bool):R2:=λx y H Q=>∃p xs,y=.ref p/\(SqL K H p xs\/SqT K H p xs)/\Pj x=true/\xs.all Pj=true/\Q (.bl (if neg then !inV x xs else inV x xs)) H
def Zp0:OpR X (compareOp .In) (rIn X.K false):=by
 intro pins s A H x y v u Q I l o h;obtain⟨p,xs,rfl,hq,n,fs,q⟩:=h;cases o
 rcases hq with hq|hq
 ·obtain⟨f,r,g,z⟩:=I.list hq;refine SeqAt.in_listAt (eqU x) g.isList (λw hw=>Bw l n r fs w (by grind)) ⟨.bl _,H,I,rfl,?_⟩;rwa[show f.toArray.any (eqU x)=f.any (eqU x) by simp,B6 r fs]
 ·obtain⟨f,r,g,z⟩:=I.tuple hq;refine SeqAt.in_tupleAt (eqU x) g (λw hw=>Bw l n r fs w (by simpa using hw)) ⟨.bl _,H,I,rfl,?_⟩;rwa[show f.toArray.any (eqU x)=f.any (eqU x) by simp,B6 r fs]
def Zp1:OpR X (compareOp .NotIn) (rIn X.K true):=by
 intro pins s A H x y v u Q I l o h;obtain⟨p,xs,rfl,hq,n,fs,q⟩:=h;cases o
 rcases hq with hq|hq
 ·obtain⟨f,r,g,z⟩:=I.list hq;refine SeqAt.notIn_listAt (eqU x) g.isList (λw hw=>Bw l n r fs w (by grind)) ⟨.bl _,H,I,rfl,?_⟩;rwa[show f.toArray.any (eqU x)=f.any (eqU x) by simp,B6 r fs]
 ·obtain⟨f,r,g,z⟩:=I.tuple hq;refine SeqAt.notIn_tupleAt (eqU x) g (λw hw=>Bw l n r fs w (by grind)) ⟨.bl _,H,I,rfl,?_⟩;rwa[show f.toArray.any (eqU x)=f.any (eqU x) by simp,B6 r fs]
def Zjg:Kr X (.type "list") (λxs H Q=>∃p ys,xs=[.ref p]/\(SqL X.K H p ys\/SqT X.K H p ys)/\∀l,H l=none->Q (.ref l) (upd H l<|.lst ys)):=by
 intro pins s M H xs T Q I r h;obtain⟨p,ys,rfl,hq,q⟩:=h;obtain⟨u,rfl,N⟩:=vals1 r;cases N
 have B:∀f,Vals ys f->ys.length<=sizeLine->∀g x,(∀b L,s.heap.get? b=some L->g.get? b=some L)->
   g.get? s.heap.objs.size=some {cls:=.type "list",dict:=none,data:=.seq f.toArray x,slots:=#[]}->EP X pins M Q (.ref s.heap.objs.size) {s with heap:=g}:=λf v z g x y e=>
  ⟨.ref s.heap.objs.size,_,I.laid y (WT _) (show ObjOk X.prog X.w _ g _ (.lst ys)from⟨z,f,x,v,e⟩),rfl,q _ (I.hok.fresh<|WT _)⟩
 rcases hq with hq|hq
 ·obtain⟨f,v,C,z⟩:=I.list hq;have A:=v.length;obtain⟨o,E,J,n,G⟩:=C.isList;exact call_list_seq p (.inl rfl) E J G (λg x y e=>B f v z g x y e) (by grind)
 ·obtain⟨f,v,C,z⟩:=I.tuple hq;have A:=v.length;obtain⟨o,E,J,n,G⟩:=C;exact call_list_seq p (.inr rfl) E J G (λg x y e=>B f v z g x y e) (by simp only[Qz]<;>lia)
def Zii:Kr X (.type "tuple") (λxs H Q=>∃p ys,xs=[.ref p]/\((SqL X.K H p ys/\∀l,H l=none->Q (.ref l) (upd H l<|.tup ys))\/(SqT X.K H p ys/\Q (.ref p) H))):=by
 intro pins s w H xs E Q I r h;obtain⟨p,ys,rfl,h⟩:=h;obtain⟨u,rfl,A⟩:=vals1 r;cases A
 rcases h with⟨hq,q⟩|⟨hq,q⟩
 ·obtain⟨f,n,v,x⟩:=I.list hq;have y:=n.length;refine call_tuple_list v.isList (λg B=>?_) (by grind);have z:Inv X pins w H {s with heap:=g}:=I.kept B
  have C:Inv X pins w (upd H g.objs.size<|.tup ys) {s with heap:=g.push {cls:=.type "tuple",data:=.seq f.toArray}}:=
   z.laid (λb o e=>WS _ e) (WT _) (⟨x,f,n,IsTup.new _ _⟩)
  exact⟨.ref g.objs.size,_,C,rfl,q _ (z.hok.fresh<|WT _)⟩
 ·obtain⟨f,n,v,x⟩:=I.tuple hq;exact call_tuple_same v ⟨.ref p,H,I,rfl,q⟩
def tyV(K:ZW)(T:String)(x:V)(H:Hp):Prop:=match x with
 | .str _=>T = "str"
 | .int _=>T = "int"
 | .ref p=>(T = "list"/\∃xs,SqL K H p xs)\/(T = "tuple"/\∃o,K.lookup p=some o/\o.cls=.type "tuple"/\o.dict=none)\/
   (T = "dict"/\((∃f,H p=some (.dK f))\/∃f,H p=some (.dT f)))\/(T = "set"/\∃S n,H p=some (.set S n))
 |_=>False
def Lv{A:St}{H}{s}{T}{x}{v}(I:Inv X pins A H s)(r:RelV x v)(h:tyV X.K T x H) :
  s.TypeIs v T/\∀a,v=.ref a->∃ob,s.heap.get? a=some ob/\ob.dict=none:=by
 cases x with
 |str z=>
  obtain⟨t,rfl⟩:=r;cases h
  exact⟨typeIs_str s z t,λ_ e=>nomatch e⟩
 |int i=>
  obtain⟨t,rfl⟩:=r;cases h
  exact⟨typeIs_int s i t,λ_ e=>nomatch e⟩
 |ref p=>
  cases r
  rcases h with⟨rfl,xs,hq⟩|⟨rfl,o,f,C,u⟩|⟨rfl,f⟩|⟨rfl,S,n,f⟩
  ·obtain⟨B,_,y,_⟩:=I.list hq;refine⟨y.isList.typeIs,λa e=>?_⟩;cases e
   obtain⟨o,n,e,c,u,_⟩:=y;exact⟨o,e,u⟩
  ·refine⟨⟨o,I.kIn p o f,C⟩,λa e=>?_⟩;cases e
   exact⟨o,I.kIn _ o f,u⟩
  ·have z:∃o,s.heap.get? p=some o/\o.ExactDict:=by
    rcases f with⟨l,f⟩|⟨l,f⟩
    ·obtain⟨_,_,_,_,o,_,_,e,g,_⟩:=I.hok p _ f;exact⟨o,e,g⟩
    ·obtain⟨_,_,_,_,o,_,_,e,g,_⟩:=I.hok p _ f;exact⟨o,e,g⟩
   obtain⟨o,e,g⟩:=z;refine⟨⟨o,e,g.1⟩,λa w=>?_⟩;cases w
   exact⟨o,e,g.2.1⟩
  ·obtain⟨o,_,_,_,e,g,_⟩:=I.hok p _ f;refine⟨⟨o,e,g.1⟩,λa w=>?_⟩;cases w
   exact⟨o,e,g.2.1⟩
 |_=>exact False.elim h
noncomputable def Ng(K:ZW)(T:String)(r:V->List V->Hp->VK->Prop)(h:TE):TE:=λg H Q=>h g H λx f=>tyV K T x f/\r x [] f Q
noncomputable def tBM(K:ZW)(T:String)(r:V->List V->Hp->VK->Prop)(h:TE)(t:TA):TE:=λf H Q=>h f H λx g=>tyV K T x g/\t f g λxs l=>r x xs l Q
variable {o e:Expr}{es:Yg}{to:TE}{t:TA}{name:Str}{apos cpos:Pos}{T id:String}{r:V->List V->Hp->VK->Prop}
def N7(A:PlainAttrs T)(slot:Slot T name id)(l:typeOf (.builtin id)=pure (.type "method_descriptor"))(C:MtR X id r)(B:PE X o to)(g:autoParam (attributeBase o name X.env (eval o X.env)=eval o X.env) au_0)(f:autoParam ((apos.endLine==cpos.line)=true) au_0):PE X (.Call (.Attribute o name apos) [] [] cpos) (Ng X.K T r to):=by
 intro pins s n H Q I h;refine wpAny_Call_method0_late g f (thn (B pins s n H _ I h) ?_);rintro v y ⟨x,J,u,p,w,z⟩;obtain⟨G,E⟩:=Lv u p w;exact⟨T,id,A,slot,l,G,E,Calls.callWith_builtin rfl (PySem.evalArgs_none<|C pins y n J x [] v [] Q u p .nil z)⟩
def NN(N:PlainAttrs T)(slot:Slot T name id)(u:typeOf (.builtin id)=pure (.type "method_descriptor"))(Y:MtR X id r)(U:PE X o to)(ha:PA X (e::es) t)(g:autoParam (attributeBase o name X.env (eval o X.env)=eval o X.env) au_0)
  (l:autoParam (((backTo cpos<|starEach (e::es) X.env).all (λx=>!x.1)&&(backToKw cpos<|keywordEach [] X.env).all (λx=>x.1.isSome)
   && decide ((e::es).length+([]:List Keyword).length+(if ([]:List Keyword).isEmpty then 0 else 1)<30))=true) au_0)
  (f:autoParam ((apos.endLine==cpos.line)=true) au_0) (hs:autoParam (starEach (e::es) X.env=(false,eval e X.env)::starEach es X.env) au_0) (n:autoParam ((backTo cpos<|starEach es X.env).any (·.1)=false) au_0) :
  PE X (.Call (.Attribute o name apos) (e::es) [] cpos) (tBM X.K T r to t):=by
 intro pins s p H Q I h;refine wpAny_Call_method_late g l f rfl (thn (U pins s p H _ I h) λv G ⟨x,H1,z,w,C,M⟩=>?_);obtain⟨h1,h2⟩:=Lv z w C;refine⟨T,id,N,slot,u,h1,h2,?_⟩;have y:=ha cpos pins G p H1 _ z M;rw[hs]at y ⊢;refine Calls.callWith_builtin (by grind) (Calls.evalArgs_plain ?_);exact thn y λB E ⟨A,H2,I2,J,L⟩=>Y pins E p H2 x A v B Q I2 w J L
end
def MtM(X:Cx)(id:String)(r:V->List V->Hp->VK->Prop):Prop:=
 ∀(pins:ZZ) (s:Shared) (f:St) (H:Hp) (x:V) (xs:List V) (v:Value) (g:Ye) (Q:VK),Inv X pins f H s->RelV x v->Vals xs g->r x xs H Q->
  wpAny (model X.prog X.w) X.A (call (.builtin id) (v::g)) (EP X pins f Q) X.xe s
def Vals.one:∀{x}{us:Ye},Vals [x] us->∃u,us=[u]/\RelV x u:=by
 intro _ _ h;cases h with
 |cons r t=>
  cases t
  exact⟨_,rfl,r⟩
def Vals.zero:∀{us:Ye},Vals [] us->us=[]
 |_,.nil=>rfl
def Vals.dropLast (h:Vals xs us):Vals xs.dropLast us.dropLast:=by
 induction h with
 |nil=>exact .nil
 |cons r t f=>
  cases t with
  |nil=>grind
  |cons q g=>exact .cons r f
def Vals.reverse (h:Vals xs us):Vals xs.reverse us.reverse:=by
 induction h with
 |nil=>exact .nil
 |cons r t f=>rw[Jh,Jh];exact Vals.append f (.cons r .nil)
def Zst{f:Type}(l:List f):l.eraseIdx (l.length-1)=l.dropLast:=by simp
section
variable {X:Cx}{pins:ZZ}{σ:St}{H:Hp}{s:Shared}{l b:Addr}{xs ys zs:List V}
def Inv.lset {h g:Ye}{n}{f}{t'} (I:Inv X pins σ H s) (x:H l=some (.lst xs))
  (e:s.heap.get? l=some {cls:=.type "list",data:=.seq h.toArray n}) (v:f h.toArray=g.toArray) (p:Vals ys g) (o:ys.length<=sizeLine) :
  Inv X pins σ (upd H l<|.lst ys) {s with heap:=s.heap.update l (Obj.mapSeq f),toks:=t'}:=by
 have q:=PySem.IsL.update e f;rw[v]at q;refine I.write (by rw[x];exact trivial) (.inl rfl) (λy u w r=>(QE s.heap (Obj.mapSeq f)<|Ne.symm w).trans r) ⟨_,q⟩ ?_;exact⟨o,g,_,p,q⟩
def Inv.lnew (I:Inv X pins σ H s) (h:Vals ys f) (g:ys.length<=sizeLine) :
  Inv X pins σ (upd H s.heap.objs.size<|.lst ys) {s with heap:=s.heap.push {cls:=.type "list",data:=.seq f.toArray},toks:=t'}:=
 I.laid (λ_ _ q=>WS _ q) (WT _) ⟨g,f,0,h,Qa _ rfl⟩
def Inv.fresh (I:Inv X pins σ H s):H s.heap.objs.size=none:=I.hok.fresh (WT _)
def Inv.lstM (I:Inv X pins σ H s) (g:H l=some (.lst xs)):xs.length<=sizeLine/\∃f n,Vals xs f/\xs.length=f.length/\s.heap.get? l=some {cls:=.type "list",data:=.seq f.toArray n}:=by
 obtain⟨z,f,n,r,e⟩:=I.hok l _ g;exact⟨z,f,n,r,r.length,e⟩
def Zf2(h:n<=sizeLine):Builtin.List.listTooLong n=false:=by
 unfold Builtin.List.listTooLong
 grind
end
section
variable {X:Cx}
def Al:V->List V->Hp->VK->Prop:=λx f H Q=>∃l xs y,x=.ref l/\f=[y]/\H l=some (.lst xs)/\xs.length<sizeLine/\Q .non (upd H l<|.lst (xs++[y]))
def Sy:MtM X "list.append" Al:=by
 intro pins s A H x B v C Q I o p h;obtain⟨l,xs,y,rfl,rfl,g,E,q⟩:=h;cases o
 obtain⟨u,rfl,w⟩:=p.one;obtain⟨z,f,n,r,G,e⟩:=I.lstM g;refine J4 F.slot_list_append ⟨_,e,rfl⟩ F.entry_list_append (F.args_list_append_2 _ _) (PySem.list_append l f.toArray n u<|by grind) ⟨e,?_⟩;refine⟨.non,_,I.lset g e (by simp) (r.append<|.cons w .nil) ?_,rfl,q⟩
 grind
def Iq:V->List V->Hp->VK->Prop:=λx g H Q=>∃l b xs f,x=.ref l/\g=[.ref b]/\H l=some (.lst xs)/\H b=some (.lst f)/\xs.length+f.length<=sizeLine/\Q .non (upd H l<|.lst (xs++f))
def OL:MtM X "list.extend" Iq:=by
 intro pins s M H x U v Y Q I y A h;obtain⟨l,b,xs,N,rfl,rfl,w,J,hz,q⟩:=h;cases y
 obtain⟨u,rfl,B⟩:=A.one;cases B
 obtain⟨z,g,n,r,hl,e⟩:=I.lstM w;obtain⟨T,f,E,C,G,L⟩:=I.lstM J;have p:g.toArray.size+f.toArray.size<=sizeLine:=by grind
 have o:¬(!g.toArray.isEmpty&&Builtin.List.listTooLong (g.toArray.size+f.toArray.size))=true:=by
  rw[Zf2 p,Bool.and_false];exact Qk
 refine J4 F.slot_list_extend ⟨_,e,rfl⟩ F.entry_list_extend (F.args_list_extend_2 _ _)
  (AutoSeq1.list_extend_list_list_0 l g.toArray n b f.toArray E o (by lia)<|by lia) ⟨e,L,?_⟩
 refine⟨.non,_,I.lset w e (by simp) (r.append C) ?_,rfl,q⟩
 grind
def AO:V->List V->Hp->VK->Prop:=λx f H Q=>∃l xs y,x=.ref l/\f=[]/\H l=some (.lst xs)/\xs[xs.length-1]?=some y/\Q y (upd H l<|.lst xs.dropLast)
def FK:MtM X "list.pop" AO:=by
 intro pins s E H x G v J Q I w A h;obtain⟨l,xs,y,rfl,rfl,p,C,q⟩:=h;cases w
 have o:=A.zero;subst o;obtain⟨z,f,n,r,M,e⟩:=I.lstM p;obtain⟨u,L,B⟩:=r.get C;have g:f.toArray[f.toArray.size-1]?=some u:=by grind
 refine J4 F.slot_list_pop ⟨_,e,rfl⟩ F.entry_list_pop (F.args_list_pop_1 _) (MeetsSeq.list_pop_last l f.toArray n u g<|by rw[Qz];lia) ⟨e,?_⟩;refine⟨y,_,I.lset p e ?_ r.dropLast ?_,B,q⟩
 ·simp
 ·grind
def IH:V->List V->Hp->VK->Prop:=λx f H Q=>∃l xs,x=.ref l/\f=[]/\H l=some (.lst xs)/\Q .non (upd H l<|.lst xs.reverse)
def Zd1:MtM X "list.reverse" IH:=by
 intro pins s w H x y v A Q I p u h;obtain⟨l,xs,rfl,rfl,o,q⟩:=h;cases p
 have g:=u.zero;subst g;obtain⟨z,f,n,r,B,e⟩:=I.lstM o;refine J4 F.slot_list_reverse ⟨_,e,rfl⟩ F.entry_list_reverse (F.args_list_reverse_1 _) (AutoSeq1.list_reverse_list_0 l f.toArray n<|by grind) ⟨e,?_⟩;refine⟨.non,_,I.lset o e (by simp) r.reverse ?_,rfl,q⟩
 grind
def Iz:V->List V->Hp->VK->Prop:=λx f H Q=>∃l xs,x=.ref l/\f=[]/\H l=some (.lst xs)/\Q .non (upd H l<|.lst [])
def Zfg:MtM X "list.clear" Iz:=by
 intro pins s w H x y v A Q I p u h;obtain⟨l,xs,rfl,rfl,o,q⟩:=h;cases p
 have g:=u.zero;subst g;obtain⟨z,f,n,r,B,e⟩:=I.lstM o;refine J4 F.slot_list_clear ⟨_,e,rfl⟩ F.entry_list_clear (F.args_list_clear_1 _) (AutoSeq1.list_clear_list_0 l f.toArray n<|by grind) ⟨e,?_⟩;exact⟨.non,_,I.lset o e rfl .nil (QD _),rfl,q⟩
noncomputable def RS:R2:=λx y H Q=>∃l b xs f,x=.ref l/\y=.ref b/\H l=some (.lst xs)/\H b=some (.lst f)/\xs.length+f.length<=sizeLine/\∀p,H p=none->Q (.ref p) (upd H p<|.lst (xs++f))
def KF:OpR X (binaryOp .Add) RS:=by
 intro pins s J H x y v u Q I p o h;obtain⟨l,b,xs,L,rfl,rfl,B,C,T,q⟩:=h;cases p
 cases o
 obtain⟨z,g,n,r,U,e⟩:=I.lstM B;obtain⟨M,f,N,w,A,G⟩:=I.lstM C;refine PySem.P.add_list e G ?_ (by grind);have E:g.toArray++f.toArray=(g++f).toArray:=by simp
 rw[E];exact⟨.ref _,_,I.lnew (r.append w) (by grind),rfl,q _ I.fresh⟩
end
end L2
namespace Att
open PySem PySem.W PySem.Calls PyProof.Rows
def Zpr:∀ns vs,WellAll P h vs (ns.map WData.int)->IntsAre vs ns:=by
 intro ns
 induction ns with
 |nil=>
  intro vs w;cases w
  exact .nil
 |cons n ns f=>
  intro vs w;cases w with
  |cons a b=>
   cases a
   exact .cons _ _ (f _ b)
def Zoc{l:OpenLaw}{n}(y:l.most=some n){P}{h}{args}{vals}(f:l.row.toRowW.claim.pre args=true)(p:WellAll P h vals args) :
  ∃a vs ns,vals=[Value.ref a]/\args=[WData.list (ns.map WData.int)]/\h.get? a=some {cls:=.type "list",data:=.seq vs.toArray}/\IntsAre vs ns/\ns.length<=n:=by
 have s:WShape.hasAll [] args [.list .int]=true:=(pre_splitW f).1;have z:l.pre.holds [] {args:=args}=true:=(pre_splitW f).2;obtain⟨d,r,rfl,C,B⟩:=hasAllW_cons s;obtain rfl:=hasAllW_nil B;obtain⟨xs,rfl,A⟩:=hasW_list C;obtain⟨ns,rfl⟩:=items_int A
 have g:ns.length<=n:=by
  have u:(WTm.not<|.lt (.lit<|.int (n:Int))<|.len<|.arg 0).holds [] {args:=[.list (ns.map .int)]}=true:=by
   have u:=(holds_andW z).1;rw[y]at u;lia
  have E:=condW_of u (w_not<|w_lt w_lit<|w_len_list<|w_arg rfl);simp_all
 cases p with
 |cons w v=>
  cases v
  cases w with
  |list x o=>exact⟨_,_,ns,rfl,rfl,x,Zpr ns _ o,g⟩
def Zgw(l:OpenLaw)(args:List WData):l.row.toRowW.claim.post args (.bool true) args=true:=
 postW_of
  rfl
  (w_eq_bool (w_res rfl) w_lit) rfl
def Zep{l:OpenLaw}{n}{q}{loose}{XP}{YP}{d}(T:l.most=some n)(H:d.params.defaults=[])
  (call:∀w s₀ g z B x o A cd p a vs ns,
   Ground q loose [] XP w s₀ z B g.heap->YP w g.heap->
   g.heap.get? x=some o->o.data=.func (docDef d.name d.params d.body d.scope A cd p)->g.heap.CodeRec cd d.name->z d.name=some (.ref x)->
   g.heap.get? a=some {cls:=.type "list",data:=.seq vs.toArray}->IntsAre vs ns->ns.length<=n->g.gens=#[]->
   codeAny (model l.prog w) callerA (.call (.ref x) ⟨[.ref a],[]⟩) (λr y=>r=.ok (.ret<|.bool true)/\OldK g.heap y.heap/\y.os=g.os/\AllBare y.gens) g) :
  WalkO q loose XP YP l.row.toRowW d [] (λf vs=>PySem.call f vs):=by
 intro w s₀ g z B G Y x o A cd p dV kV Q hd J M E hg args vals as s L N C hlo;obtain rfl:=Dflts.none M H;obtain rfl:=Dflts.noKw M;obtain⟨a,vs,ns,rfl,rfl,u,h,v⟩:=Zoc T s C;refine enter_call (VI (call w s₀ g z B x o A cd p a vs ns G Y Q (fd_plain hd) J E u h v hg) λr y hq=>?_);obtain⟨rfl,h2,h3,h4⟩:=hq;exact⟨.inl ⟨.bool true,.bool true,[],rfl,λ_=>rfl,.bool true,Zgw l _,λ_=>⟨List.Pairwise.nil,λ_ U=>(nomatch U)⟩⟩,h2,h3,h4⟩
end Att
namespace L2
open PySem PySem.Spec PyProof.Rows
theorem FB:∀{vs}{ns:ZY},IntsAre vs ns->Vals (ns.map V.int) vs
 |_,_,.nil=>.nil
 |_,_,.cons n t h=>.cons ⟨t,rfl⟩ (FB h)
def FO(H:Hp):Prop:=∀b,H b=none\/∃o xs,H b=some (.frz o<|.lst xs)
def Zat{K B U CX k fa a fd x sp f vs ns}(KX:K.In f.heap)(G:f.heap.Ns mainGlobals B)(g:f.heap.Ns builtinsNs U)(hbb:∀x:Str,x≠"__name__"->U x=bootBuiltins x)(J:f.heap.NoLimit)(hg:f.gens=#[])(M:f.heap.get? a=some {cls:=.type "list",data:=.seq vs.toArray})(hi:IntsAre vs ns)(hl:ns.length<=sizeLine)(hr:Xv k callerA)(F:∀base,K.In base->base.Ns mainGlobals B->KL P w K B base CX k fa fd [x] sp)(y:∀s u,BindsTo s fd ⟨[u],[]⟩ [(x,u)])(Y:∀H,FO H->SqL K H a (ns.map V.int)->sp [.ref a] H (λv _=>v=.bl true) λ_ _ _=>False)(hCX:∀H e l,CX [] H f (λ_ _ _=>False) e l->False) :
  codeAny (model P w) callerA (.call (.ref fa) ⟨[.ref a],[]⟩) (λr l=>r=.ok (.ret<|.bool true)/\OldK f.heap l.heap/\l.os=f.os/\AllBare l.gens) f:=by
 have rv:=FB hi
 have core:∀H,FO H->SqL K H a (ns.map V.int)->HOk P w H f.heap->(∀b,H b≠none->b=a)->(H a≠none->K.lookup a=none)->
   codeAny (model P w) callerA (.call (.ref fa) ⟨[.ref a],[]⟩) (λr l=>r=.ok (.ret<|.bool true)/\OldK f.heap l.heap/\l.os=f.os/\AllBare l.gens) f:=by
  intro H hO hS E hA hK;have base_of:∀{b:Addr} {o:Obj},f.heap.get? b=some o->H b=none->(Nx f.heap H).get? b=some o:=λe n=>Zl0 e n
  have T:∀{b:Addr} {o:Obj} {N:Array DictEntry} {Q:Nat},f.heap.get? b=some o->o.data=.dict N Q->H b=none:=λ{b o N Q} e d=>by
   cases q:H b with
   |none=>rfl
   |some u=>
    have e':=hA b (by rw[q];simp);subst e';rw[M]at e;cases e;cases d
  have p:∀{b:Addr} {m:Ya},f.heap.Ns b m->(Nx f.heap H).Ns b m:=λ{b m} ⟨o,N,Q,e,d,r⟩=>⟨o,N,Q,base_of e (T e d),d,r⟩
  have L:=λb o e=>base_of (KX b o e) (by
   cases q:H b with
   |none=>rfl
   |some u=>
    have e':=hA b (by rw[q];simp);subst e';rw[hK (by rw[q];simp)]at e;cases e)
  have hM:Mod K B (Nx f.heap H):=⟨L,p G,⟨U,p g,hbb⟩,let ⟨mc,h1,h2⟩:=J;⟨mc,p h1,h2⟩⟩;have e0:NT P w K B (Nx f.heap H) callerA [] f H:=⟨rfl,hM,λb o e=>Zre e,Vi (Zro _ _),trivial,λb g=>absurd (show b∈([]:List Addr)from g) (by simp),E,.of_eq hg⟩
  refine VI ((F _ L<|p G).run callerA [] f H ⟨[.ref a],[]⟩ [.ref a] [.ref a] _ _ hr e0 (y f<|.ref a) (.cons rfl .nil) (Y H hO hS)) λr l h=>?_;cases r with
  |error e=>exact(hCX H e l h).elim
  |ok fl=>
   cases fl with
   |ret u=>
    obtain⟨v,H',os,bare,un,C,r',q⟩:=h;subst q;obtain rfl:=r';refine⟨rfl,OldK.of_keep λb o e=>?_,os,bare⟩;cases q:H b with
    |none=>exact un.keep b o e q (by intro z;exact absurd (show b∈([]:List Addr)from z) (by simp)) (by simp)
    |some u=>
     rcases hO b with z|⟨ob,xs,z⟩
     ·rw[q]at z;cases z
     ·have z2:=un.frzs b ob _ z;obtain⟨e1,_⟩:=E b _ z;obtain⟨e2,_⟩:=C b _ z2;rw[e]at e1;cases e1;exact e2
   |_=>exact False.elim h
 cases hk:K.lookup a with
 |some o=>
  have e:=KX a o hk;rw[M]at e;cases e
  refine core (λ_=>none) (λ_=>.inl rfl) (.inr ⟨_,vs.toArray,_,hk,rfl,rfl,rfl,by rw[Qz,hi.length];exact hl,by simpa using rv⟩) (λb u z=>by have A:=z;cases A) (λb z=>absurd rfl z) λz=>absurd rfl z
 |none=>
  refine core (λb=>if b=a then some (.frz {cls:=.type "list",data:=.seq vs.toArray} (.lst<|ns.map V.int))else none) (λb=>?_) (.inl<|.inr ⟨{cls:=.type "list",data:=.seq vs.toArray},WQ rfl⟩) (λb u z=>?_) (λb z=>?_) λ_=>hk
  ·by_cases g:b=a
   ·exact .inr ⟨_,_,WQ g⟩
   ·exact .inl (WO g)
  ·by_cases g:b=a
   ·have A:=(WQ g).symm.trans z;cases A
    subst g;exact⟨M,by rw[WI];exact hl,vs,_,rv,M⟩
   ·have A:=(WO g).symm.trans z;cases A
  ·by_cases g:b=a
   ·exact g
   ·exact absurd (WO g) z
def Zbm{l:PySem.W.OpenLaw}{n k}{q}{loose}{XP}{YP}{d}{K:Params->ZW}{CX:World->CXT}{sp:World->Sp}{x}(hn:l.most=some n)(J:n<=sizeLine)(M:d.params.defaults=[])(hr:Xv k callerA)(hY:∀w h,YP w h->(K w.params).In h)
  (F:∀w y B h,(K w.params).In h->h.Ns mainGlobals y->y d.name=some (.ref B)->
   ∃Q,(∀s u,BindsTo s Q ⟨[u],[]⟩ [(x,u)])/\
    ∀base,(K w.params).In base->base.Ns mainGlobals y->KL l.prog w (K w.params) y base (CX w) k B Q [x] (sp w))
  (E:∀w H a (ns:ZY),ns.length<=n->FO H->SqL (K w.params) H a (ns.map V.int)->sp w [.ref a] H (λv _=>v=.bl true) λ_ _ _=>False)
  (N:∀w H s e C,CX w [] H s (λ_ _ _=>False) e C->False) :
  PySem.W.WalkO q loose XP YP l.row.toRowW d [] (λf vs=>PySem.call f vs):=by
 refine Att.Zep hn M λw U z y mb B o pm cd doc a vs ns G Y ho hd hcd L A r p hg=>?_;have KX:=hY w _ Y;obtain⟨Q,hb,hF⟩:=F w y B _ KX G.T.g L;exact Zat KX G.T.g G.T.b G.T.builtins G.T.nolimit hg A r (WV p J) hr hF hb (λH hO hS=>E w H a ns p hO hS) λH e C=>N w H z e C
def Zlu{l:PySem.W.OpenLaw}{n k}{q}{loose}{XP}{YP}{d}{K:Params->ZW}{CX}{sp:ZW->Sp}{x}(E:l.most=some n)(r:n<=sizeLine)(y:d.params.defaults=[])(C:Xv k callerA)(G:∀w h,YP w h->(K w.params).In h)
  (F:∀w g B h,(K w.params).In h->h.Ns mainGlobals g->g d.name=some (.ref B)->
   ∃A,(∀s u,BindsTo s A ⟨[u],[]⟩ [(x,u)])/\
    ∀base,(K w.params).In base->base.Ns mainGlobals g->KL l.prog w (K w.params) g base CX k B A [x] (sp<|K w.params))
  (p:∀K H a (ns:ZY),ns.length<=n->FO H->SqL K H a (ns.map V.int)->sp K [.ref a] H (λv _=>v=.bl true) λ_ _ _=>False)
  (z:∀H s e o,CX [] H s (λ_ _ _=>False) e o->False) :
  PySem.W.WalkO q loose XP YP l.row.toRowW d [] (λf vs=>PySem.call f vs):=
 Zbm E r y C G F (λw H a ns M L J=>p (K w.params) H a ns M L J) λ_ H s e o=>z H s e o
noncomputable def inClass(s:Stmt)(j:Nat):Stmt:=match s with
 | .ClassDef _ _ _ body _ _ _ _ _ _ _=>body.getD j (.Pass ⟨0,0,0,0⟩)
 |_=>.Pass ⟨0,0,0,0⟩
noncomputable def Py(s:Stmt):Arguments:=match s with
 | .FunctionDef _ a _ _ _ _ _ _ _ _=>a
 |_=>{posonlyargs:=[],args:=[],vararg:=none,kwonlyargs:=[],kw_defaults:=[],kwarg:=none,defaults:=[]}
noncomputable def XS(s:Stmt):Yh:=match s with
 | .FunctionDef _ _ b _ _ _ _ _ _ _=>b
 |_=>[]
noncomputable def Xg(s:Stmt):Scope:=match s with
 | .FunctionDef _ _ _ _ _ _ f _ _ _=>f
 |_=>{kind:=.function,names:=[],isGenerator:=false,isCoroutine:=false}
noncomputable abbrev CX0:CXT:=λ_ _ _ _ _ _=>False
noncomputable abbrev E0:XK:=λ_ _ _=>False
def X2:Pm CX0 X E0:=λ_ _ _ _ _ _ _ h=>h.elim
structure Fun (K:ZW) (x qual:Str) (st:Stmt) (f:Addr) (fd:FuncData):Prop where
 ex:∃(oc:Value) (od:Yj) (kV doc pm:Value) (an:Yj) (cdv ct:Value) (osl:Array (Yi)),
  fd=PySem.W.fnOf x qual (Py st) (XS st) (Xg st) .none kV doc pm an cdv ct/\K.lookup f=some ⟨oc,od,.func fd,osl⟩/\PySem.W.codeIn K cdv qual=true
 kp:PySem.W.keepIn K (.ref f)=true
section
variable {P:Program}{w:World}{K:ZW}{mg:Ya}{base:Heap}
def Fun.ok {st f p N ps k sp} (F:Fun K x qual st f p) (S:Xh N ps (Xg st)) (len:∀vs H Q E,sp vs H Q E->vs.length=ps.length)
  (l:∀g A outer s H vs Q E,Xv k (A.deeper<|envOfC qual (Xg st) s.heap.objs.size f g)->sp vs H Q E->
   ∃t,PSs (XY CX0 P w K mg base N qual (Xg st) f g A outer s H E).nox (XS st) t/\t {nx:=λ_ H'=>Q .non H',rt:=Q} (start N vs) H):KL P w K mg base CX0 (k+1) f p ps sp:=by
 obtain⟨oc,B,kV,y,z,G,g,C,r,rfl,u,o⟩:=F.ex;refine Cm u o S len λA outer s H vs Q E v n=>?_;obtain⟨t,h,q⟩:=l g A outer s H vs Q E v n;exact⟨t,h.nox,q⟩
def Fun.binds {st f p ps} (F:Fun K x qual st f p)
  (h:∀kV g n o l ct us,us.length=ps.length->bindArgs (PySem.W.fnOf x qual (Py st) (XS st) (Xg st) .none kV g n o l ct) ⟨us,[]⟩=pure (ps.zip us)):Binds K p ps []:=by
 obtain⟨oc,u,kV,g,n,o,l,ct,r,rfl,v,s⟩:=F.ex;exact .all (h kV g n o l ct)
def Fu{st f oc r p n kV h o g ct}(l:K.lookup f=some ⟨oc,r,.func (PySem.W.fnOf x qual (Py st) (XS st) (Xg st) .none kV h o p g ct),n⟩)(c:PySem.W.codeIn K g qual=true)(k:PySem.W.keepIn K (.ref f)=true):Fun K x qual st f (PySem.W.fnOf x qual (Py st) (XS st) (Xg st) .none kV h o p g ct):=⟨⟨oc,r,kV,h,o,p,g,ct,n,rfl,l,c⟩,k⟩
end
def Kv{k}(f:Xv k A):A.units+1<cLine:=JL (Nat.add_le_add_left (by simp) _) f.units
def Zh3(h:n<=1000):n<sizeLine:=JL h (by decide)
section
variable {X:Cx}
def pv(i:Nat){x pos}(l:autoParam (X.N[i]?=some x) au_0)(g:autoParam (Vis X.env.scope x) au_4)(h:autoParam ((x==("__debug__" : Str))=false) au_1)(f:autoParam ((x==("__classdict__" : Str))=false) au_1):PE X (.Name x pos) (Kk i):=Zr7 l g h f
end
def XI{A B:Prop}(h:B):if false=true then A else B:=by grind
def Kp{A B:Prop}(h:A):if true=true then A else B:=by grind
def Xi{c A B:Prop}[Decidable c](g:c->A)(f:¬c->B):if c then A else B:=by grind
def TL{c A B:Prop}[Decidable c](f:c)(h:B):if (!decide c)=true then A else B:=by grind
def Same(H H':Hp):Prop:=∀b o,H b=some o->H' b=some o
def Same.refl (H:Hp):Same H H:=λ_ _ h=>h
def Same.trans (a:Same H g) (b:Same g f):Same H f:=λc o h=>b c o (a c o h)
def Same.free (e:Same H H') {l} (h:H' l=Option.none):H l=Option.none:=by
 cases q:H l with
 |none=>rfl
 |some o=>
  rw[e l o q]at h;lia
def Same.seq {K H H'}{a xs} (e:Same H H') (h:SqL K H a xs):SqL K H' a xs:=by
 rcases h with(h|⟨o,h⟩)|h
 ·exact .inl (.inl<|e _ _ h)
 ·exact .inl (.inr ⟨o,e _ _ h⟩)
 ·exact .inr h
end L2
set_option maxHeartbeats 4000000
namespace L2
open PySem PySem.Spec PyProof.Rows
section
variable {κ:Type} [DecidableEq κ]
noncomputable def Xy(f:List (κ×V))(k:κ):Option V:=(f.find? λg=>decide (g.1=k)).map (·.2)
noncomputable def putK(f:List (κ×V))(k:κ)(v:V):List (κ×V):=
 if (f.any λg=>decide (g.1=k))=true then f.map (λg=>if g.1=k then(g.1,v)else g)else f++[(k,v)]
def PL{p:κ×V}{r:List (κ×V)}{k:κ}(e:p.1=k):Xy (p::r) k=some p.2:=by simp[Xy,VE,e]
def PH{p:κ×V}{r:List (κ×V)}{k:κ}(e:¬p.1=k):Xy (p::r) k=Xy r k:=by simp[Xy,VE,e]
theorem Bl(k:κ):∀f:List (κ×V),(f.any λg=>decide (g.1=k))=(Xy f k).isSome
 |[]=>rfl
 |p::r=>by
  rw[VQ];by_cases e:p.1=k
  ·simp only[PL e,WL e,Bool.true_or,Option.isSome_some]
  ·rw[PH e,Q3 e,Bool.false_or];exact Bl k r
theorem ME(k j:κ)(y:V):∀f:List (κ×V),Xy (f.map λg=>if g.1=k then(g.1,y)else g) j=(Xy f j).map λx=>if j=k then y else x
 |[]=>rfl
 |p::r=>by
  have l:=ME k j y r;rw[Qh];by_cases h:p.1=k
  ·rw[WQ h];by_cases e:p.1=j
   ·rw[PL (p:=(p.1,y)) e,PL e,J5,WQ (e.symm.trans h)]
   ·rw[PH (p:=(p.1,y)) e,PH e,l]
  ·rw[WO h];by_cases e:p.1=j
   ·rw[PL (p:=p) e,PL e,J5,WO (λz=>h (e.trans z))]
   ·rw[PH (p:=p) e,PH e,l]
theorem L9(k j:κ)(y:V):∀f:List (κ×V),Xy f k=none->Xy (f++[(k,y)]) j=if j=k then some y else Xy f j
 |[],_=>by
  by_cases e:k=j
  ·rw[WQ e.symm];exact PL (p:=(k,y)) e
  ·rw[WO (λz=>e z.symm)];exact PH (p:=(k,y)) e
 |p::r,g=>by
  rw[VN];have h:¬p.1=k:=λz=>by rw[PL z]at g;cases g
  rw[PH h]at g;have l:=L9 k j y r g;by_cases e:p.1=j
  ·rw[PL e,PL e,WO (λz=>h (e.trans z))]
  ·rw[PH e,PH e,l]
def SR(f:List (κ×V))(k j:κ)(y:V):Xy (putK f k y) j=if j=k then some y else Xy f j:=by
 unfold putK;by_cases a:(f.any λg=>decide (g.1=k))=true
 ·rw[WQ a,ME];rw[Bl]at a;by_cases e:j=k
  ·obtain⟨x,hx⟩:=Option.isSome_iff_exists.mp a;rw[WQ e,e,hx,J5,WQ rfl]
  ·rw[WO e];cases Xy f j with
   |none=>rfl
   |some x=>rw[J5,WO e]
 ·rw[WO a];refine L9 k j y f ?_;rw[Bl]at a;cases q:Xy f k with
  |none=>rfl
  |some x=>rw[q]at a;exact(a rfl).elim
def BF(f:List (κ×V))(k:κ)(v:V):(putK f k v).length<=f.length+1:=by
 unfold putK;split
 ·rw[WI];omega
 ·rw[WW,Qf,List.length_nil];omega
def Zcl{f:List (κ×V)}{k:κ}(v:V)(h:Xy f k=none):putK f k v=f++[(k,v)]:=by
 unfold putK;rw[Bl,h];exact WO (by decide)
def RelO.isSome_eq {o:Option V}{u:Yi} (r:RelO o u):o.isSome=u.isSome:=by
 cases o with
 |none=>cases u with
  |none=>rfl
  |some _=>exact(show False from r).elim
 |some _=>cases u with
  |none=>exact(show False from r).elim
  |some _=>rfl
def KV.val {f:List (κ×V)}{vs:List (κ×Value)} (r:KV f vs) (k:κ):RelO (Xy f k) (valueAt vs k):=by
 unfold KV at r
 induction r with
 |nil=>exact True.intro
 | @cons p q u g h t o=>
  obtain⟨n,s⟩:=h;by_cases e:p.1=k
  ·have l:q.1=k:=n.symm.trans e;have b:valueAt (q::g) k=some q.2:=by simp[valueAt,VE,l]
   rw[PL e,b];exact s
  ·have l:¬q.1=k:=λz=>e (n.trans z);have b:valueAt (q::g) k=valueAt g k:=by simp[valueAt,VE,l]
   rw[PH e,b];exact o
def KV.any {f:List (κ×V)}{vs:List (κ×Value)} (r:KV f vs) (k:κ):(f.any λg=>decide (g.1=k))=vs.any λg=>decide (g.1=k):=by
 unfold KV at r
 induction r with
 |nil=>rfl
 |cons h t l=>rw[VQ,VQ,l,h.1]
def KV.repl {g:List (κ×V)}{vs:List (κ×Value)} (r:KV g vs) (k:κ) {y:V}{u:Value} (n:RelV y u) :
  KV (g.map λf=>if f.1=k then(f.1,y)else f) (vs.map λf=>if f.1=k then(f.1,u)else f):=by
 unfold KV at r ⊢
 induction r with
 |nil=>exact .nil
 | @cons p q w v h t o=>
  rw[Qh,Qh];refine .cons ?_ o;obtain⟨l,s⟩:=h;by_cases e:p.1=k
  ·rw[WQ e,WQ (l.symm.trans e)];exact⟨l,n⟩
  ·rw[WO e,WO (λz=>e (l.trans z))];exact⟨l,s⟩
def KV.put {f:List (κ×V)}{vs:List (κ×Value)} (r:KV f vs) (k:κ) {y:V}{u:Value} (g:RelV y u):KV (putK f k y) (stored vs k u):=by
 unfold putK stored;rw[r.any k];by_cases e:(vs.any λh=>decide (h.1=k))=true
 ·rw[WQ e,WQ e];exact r.repl k g
 ·rw[WO e,WO e];exact Paired.snoc r ⟨rfl,g⟩
def KV.length {f:List (κ×V)}{vs:List (κ×Value)} (r:KV f vs):f.length=vs.length:=Paired.length r
end
def Bj{P:Program}{w:World}{k:Key}{u:Value}(r:RelV (kV k) u):(Pz P w).is k u=true:=by
 cases k with
 |inl i=>obtain⟨t,e⟩:=(show ∃t,u=Value.int i t from r);subst e;exact Ziw P w i t
 |inr x=>obtain⟨t,e⟩:=(show ∃t,u=Value.str x t from r);subst e;exact Zic P w x t
theorem G6{P:Program}{w:World}:∀{f:List Key}{us:Ye},Vals (f.map kV) us->ItemsAre (Pz P w) f us
 |[],_,r=>by rw[List.map_nil]at r;cases r;exact .nil
 |k::f,_,r=>by
  rw[Qh]at r;cases r with
  |cons h t=>exact .cons (Bj h) (G6 t)
abbrev KT(H:Hp):List (List Key×V)->List (List Key×Addr×Value)->Prop:=Paired λp q=>p.1=q.1/\H q.2.1=some (.tup<|p.1.map kV)/\RelV p.2 q.2.2
def KT.val {H:Hp}{f:List (List Key×V)}{xs:List (List Key×Addr×Value)} (r:KT H f xs) (k:List Key):RelO (Xy f k) ((atKey xs k).map (·.2)):=by
 induction r with
 |nil=>exact True.intro
 | @cons p q u g h t o=>
  obtain⟨n,_,s⟩:=h;by_cases e:p.1=k
  ·have l:q.1=k:=n.symm.trans e;have b:atKey (q::g) k=some q.2:=by simp[atKey,VE,l]
   rw[PL e,b];exact s
  ·have l:¬q.1=k:=λz=>e (n.trans z);have b:atKey (q::g) k=atKey g k:=by simp[atKey,VE,l]
   rw[PH e,b];exact o
def KT.repl {H:Hp}{f:List (List Key×V)}{xs:List (List Key×Addr×Value)} (r:KT H f xs) (k:List Key) {y:V}{u:Value} (o:RelV y u) :
  KT H (f.map λl=>if l.1=k then(l.1,y)else l) (xs.map<|putAt k u):=by
 induction r with
 |nil=>exact .nil
 | @cons p q x w h t s=>
  rw[Qh,Qh];refine .cons ?_ s;obtain⟨g,n,v⟩:=h;unfold putAt;by_cases e:p.1=k
  ·rw[WQ e,WQ (g.symm.trans e)];exact⟨g,n,o⟩
  ·rw[WO e,WO (λz=>e (g.trans z))];exact⟨g,n,v⟩
def KT.put {H:Hp}{f:List (List Key×V)}{xs:List (List Key×Addr×Value)} (r:KT H f xs) (k:List Key) {b:Addr}{y:V}{u:Value} (l:H b=some (.tup<|k.map kV)) (g:RelV y u) :
  KT H (putK f k y) (storedH xs k b u):=by
 have e:(f.any λh=>decide (h.1=k))=(atKey xs k).isSome:=by
  rw[Bl,(r.val k).isSome_eq,JP]
 unfold putK storedH;rw[e];by_cases q:(atKey xs k).isSome=true
 ·rw[WQ q,WQ q];exact r.repl k g
 ·rw[WO q,WO q];exact Paired.snoc r ⟨rfl,l,g⟩
def KT.keeps {H H':Hp}{f:List (List Key×V)}{xs:List (List Key×Addr×Value)} (r:KT H f xs) (g:∀b ys,H b=some (.tup ys)->H' b=some (.tup ys)):KT H' f xs:=
 Paired.mapP r λ_ _ z=>⟨z.1,g _ _ z.2.1,z.2.2⟩
section
variable {P:Program}{w:World}{H:Hp}{h:Heap}{a:Addr}
def Rl{u:HO}(ok:HOk P w H h)(e:Rd H a u):ObjOk P w H h a u:=e.ok ok
def SX{f:List (Key×V)}(ok:HOk P w H h)(e:Rd H a (.dK f)):f.length<=sizeLine/\(a==sysModules)=false/\∃vs,KV f vs/\h.DictOf (Pz P w) a vs:=
 show ObjOk P w H h a (.dK f)from Rl ok e
def Zgk{f:List (Key×V)}(ok:HOk P w H h)(e:H a=some (.dK f)):f.length<=sizeLine/\(a==sysModules)=false/\∃vs,KV f vs/\h.DictOf (Pz P w) a vs:=SX ok (.inl e)
def S8{f:List Key}(ok:HOk P w H h)(e:H a=some (.tup<|f.map kV)):(tupleKind<|Pz P w).is h f a:=by
 obtain⟨_,g,r,o,s,p,n,l⟩:=(show ObjOk P w H h a (.tup<|f.map kV)from ok a _ e)
 exact⟨o,g.toArray,n,s,p,l,by simpa using G6 r⟩
def Bh{f:List (List Key×V)}(ok:HOk P w H h)(e:Rd H a (.dT f)):f.length<=sizeLine/\(a==sysModules)=false/\
  ∃xs,KT H f xs/\h.DictOfH (tupleKind<|Pz P w) a xs:=by
 obtain⟨z,y,xs,r,o,B,C,A,v,u,s,n⟩:=(show ObjOk P w H h a (.dT f)from Rl ok e)
 refine⟨z,y,xs,r,o,B,C,A,v,u,s,λx hx=>?_,n⟩
 have all:∀{l:List (List Key×V)} {m:List (List Key×Addr×Value)},KT H l m->∀x∈m,(tupleKind<|Pz P w).is h x.1 x.2.1:=by
  intro l m q
  induction q with
  |nil=>intro x hx;exact nomatch hx
  | @cons p q G E hq t g=>
   intro x hx;rcases WX.mp hx with e|hx
   ·subst e;exact S8 ok (by rw[←hq.1];exact hq.2.1)
   ·exact g x hx
 exact all r x hx
def FE{f:List (List Key×V)}(ok:HOk P w H h)(e:H a=some (.dT f)):f.length<=sizeLine/\(a==sysModules)=false/\
  ∃xs,KT H f xs/\h.DictOfH (tupleKind<|Pz P w) a xs:=Bh ok (.inl e)
end
def DGet(H:Hp)(a:Addr)(y:V)(r:Option V):Prop:=
 (∃f k,Rd H a (.dK f)/\y=kV k/\r=Xy f k)\/∃f k b,Rd H a (.dT f)/\y=.ref b/\H b=some (.tup<|k.map kV)/\r=Xy f k
def DPut(H:Hp)(a:Addr)(y v:V)(H':Hp):Prop:=
 (∃f k,H a=some (.dK f)/\y=kV k/\f.length<sizeLine/\H'=upd H a (.dK<|putK f k v))\/
 ∃f k b,H a=some (.dT f)/\y=.ref b/\H b=some (.tup<|k.map kV)/\f.length<sizeLine/\H'=upd H a (.dT<|putK f k v)
def DGet.k {H:Hp}{a:Addr}{f:List (Key×V)}{k:Key} (e:H a=some (.dK f)):DGet H a (kV k) (Xy f k):=.inl ⟨f,k,.inl e,rfl,rfl⟩
def DGet.t {H:Hp}{a b:Addr}{f:List (List Key×V)}{k:List Key} (e:H a=some (.dT f)) (g:H b=some (.tup<|k.map kV)):DGet H a (.ref b) (Xy f k):=.inr ⟨f,k,b,.inl e,rfl,g,rfl⟩
def DPut.k {H:Hp}{a:Addr}{f:List (Key×V)}{k:Key}{v:V} (e:H a=some (.dK f)) (g:f.length<sizeLine):DPut H a (kV k) v (upd H a<|.dK<|putK f k v):=.inl ⟨f,k,e,rfl,g,rfl⟩
def DPut.t {H:Hp}{a b:Addr}{f:List (List Key×V)}{k:List Key}{v:V} (e:H a=some (.dT f)) (h:H b=some (.tup<|k.map kV)) (g:f.length<sizeLine) :
  DPut H a (.ref b) v (upd H a<|.dT<|putK f k v):=.inr ⟨f,k,b,e,rfl,h,g,rfl⟩
section
variable {X:Cx}{pins:ZZ}{σ:St}{H:Hp}{s:Shared}{a:Addr}{y v:V}{u r:Value}{o:Option V}{A:Around}{E:Yb}
def Inv.big (I:Inv X pins σ H s):sysModules<s.heap.objs.size:=by
 have h:mainGlobals<s.heap.objs.size:=(I.mod.glob.keeps I.bk).lt;exact V0 (by decide) h
def Zbk{Q:Yb}(M:A.units+1<cLine)(I:Inv X pins σ H s)(g:DGet H a y (some v))(J:RelV y u)(h:∀n G,Inv X pins σ H G->RelV v n->Q n G) :
  wpAny (model X.prog X.w) A (getItem (.ref a) u) Q E s:=by
 rcases g with⟨x,k,e,ey,l⟩|⟨x,k,b,e,ey,U,l⟩
 ·subst ey;obtain⟨z,T,L,rel,C⟩:=SX I.hok e;obtain⟨n,hw,f⟩:=RelO.some_of (v:=v) (o:=valueAt L k) (by rw[l];exact rel.val k);exact wpAny_getItem_of (Bj J) C.mapOf hw (h n _ (I.tok _) f)
 ·subst ey;cases (show u=Value.ref b from J)
  obtain⟨z,T,xs,rel,C⟩:=Bh I.hok e;obtain⟨n,hw,f⟩:=RelO.some_of (v:=v) (o:=(atKey xs k).map (·.2)) (by rw[l];exact rel.val k);obtain⟨p,N,B⟩:=Option.map_eq_some_iff.mp hw;refine wpAny_getItem_heap (VX M) (S8 I.hok U) C N ?_;rw[B];exact h n _ (I.tok _) f
def Zqz{Q:Yb}(C:A.units+1<cLine)(I:Inv X pins σ H s)(g:DGet H a y o)(B:RelV y u)(h:∀x,Inv X pins σ H x->Q (.bool o.isSome) x) :
  wpAny (model X.prog X.w) A (compareOp .In u<|.ref a) Q E s:=by
 rcases g with⟨f,k,e,ey,l⟩|⟨f,k,b,e,ey,G,l⟩
 ·subst ey;obtain⟨z,n,J,rel,p⟩:=SX I.hok e;refine wpAny_in_of (Bj B) n p.mapOf ?_;rw[←(rel.val k).isSome_eq,←l];exact h _ (I.tok _)
 ·subst ey;cases (show u=Value.ref b from B)
  obtain⟨z,n,xs,rel,p⟩:=Bh I.hok e;refine wpAny_in_heap (VX C) (S8 I.hok G) n p ?_;have q:=(rel.val k).isSome_eq;rw[JP]at q;rw[←q,←l];exact h _ (I.tok _)
def Zls{Q:Yb}(C:A.units+1<cLine)(I:Inv X pins σ H s)(g:DGet H a y o)(B:RelV y u)(h:∀x,Inv X pins σ H x->Q (.bool (!o.isSome)) x) :
  wpAny (model X.prog X.w) A (compareOp .NotIn u<|.ref a) Q E s:=by
 rcases g with⟨f,k,e,ey,l⟩|⟨f,k,b,e,ey,G,l⟩
 ·subst ey;obtain⟨z,n,J,rel,p⟩:=SX I.hok e;refine wpAny_notIn_of (Bj B) n p.mapOf ?_;rw[←(rel.val k).isSome_eq,←l];exact h _ (I.tok _)
 ·subst ey;cases (show u=Value.ref b from B)
  obtain⟨z,n,xs,rel,p⟩:=Bh I.hok e;refine wpAny_notIn_heap (VX C) (S8 I.hok G) n p ?_;have q:=(rel.val k).isSome_eq;rw[JP]at q;rw[←q,←l];exact h _ (I.tok _)
def De{f:Heap}{t':Nat}{ob:HO}(I:Inv X pins σ H s)(g:Mut (H a))(hs:Heap.SameBut a s.heap f)(h:∃q,f.get? a=some q)(new:ObjOk X.prog X.w (upd H a ob) f a ob) :
  Inv X pins σ (upd H a ob) {s with heap:=f,toks:=t'}:=
 I.write (x:=a) (e:=a) g (.inl rfl) (λb q l z=>(hs.2 b l).trans z) h new
def Zj3{P:Program}{w:World}{H':Hp}{g:Heap}{f:List (Key×V)}{vs:List (Key×Value)}(z:f.length<=sizeLine)(h:(a==sysModules)=false)(rel:KV f vs)(dd:g.DictOf (Pz P w) a vs) :
  ObjOk P w H' g a (.dK f):=⟨z,h,vs,rel,dd⟩
def Zo5{H':Hp}{Q:Unit->Shared->Prop}(hu:A.units+1<cLine)(I:Inv X pins σ H s)(g:DPut H a y v H')(M:RelV y u)(rv:RelV v r)(h:∀L,Inv X pins σ H' L->Q () L) :
  wpAny (model X.prog X.w) A (setItem (.ref a) u r) Q E s:=by
 rcases g with⟨f,k,e,ey,l,G⟩|⟨f,k,b,e,ey,U,l,G⟩
 ·subst ey G;obtain⟨z,C,Y,rel,J⟩:=Zgk I.hok e;have p:Y.length<=sizeLine:=by rw[←rel.length];exact z
  have B:(putK f k v).length<=sizeLine:=by have:=BF f k v;omega
  refine wpAny_setItem_pairs (hsz:=p) (Bj M) J λN n x=>h _ ?_;have he:∃q,N.get? a=some q:=let ⟨q,_,_,hq,_⟩:=n;⟨q,hq⟩;exact De I (by rw[e];exact True.intro) x he (Zj3 B C (rel.put k rv) n)
 ·subst ey G;cases (show u=Value.ref b from M)
  obtain⟨z,C,xs,rel,J⟩:=FE I.hok e;have p:xs.length<=sizeLine:=by rw[←Paired.length rel];exact z
  have B:(putK f k v).length<=sizeLine:=by have:=BF f k v;omega
  refine wpAny_setItem_heap (hsz:=p) (VX hu) (S8 I.hok U) J λN n x=>h _ ?_;obtain⟨q,es,ep,hq,h2,h3,h4,_,h5⟩:=n;refine De I (by rw[e];exact True.intro) x ⟨q,hq⟩ ⟨B,C,_,(rel.put k U rv).keeps λc ys T=>?_,q,es,ep,hq,h2,h3,h4,h5⟩;rw[Xx (M6 T e (λz=>nomatch z))];exact T
end
def Ov(i:Expr):Prop:=∀f g,subscripted i false f g=operate [f,g] (getItem f g)
def Zle{prog:Program}{w:World}{A:Around}{E:Yb}{s:Shared}{env:Env}{value slice:Expr}{pos:Pos}{T id:String}{Q:Yb}(z:typeLookup (.type T) "__getitem__"=pure (some<|.builtin id))(hs:Ov slice)(h:wpAny (model prog w) A (eval value env) (λo n=>wpAny (model prog w) A (eval slice env) (λi f=>f.TypeIs o T/\wpAny (model prog w) A (getItem o i) Q E f) E n) E s) :
  wpAny (model prog w) A (eval (.Subscript value slice pos) env) Q E s:=by
 refine Subscript_ (QI h (λo n v=>QI v (λi f g=>?_) λ_ _ x=>x) λ_ _ x=>x);obtain⟨y,g⟩:=g;unfold subscriptTail;refine WK ?_;rw[getitemInPython_of_ne y.not_modules];refine WK (wpAny_specialOf y z ?_)
 have p:wpAny (model prog w) A (subscripted slice false o i) (λr l=>wpAny (model prog w) A (letTemporaryGo value o r >>= λ_=>pure r) Q E l) E f:=by
  rw[hs o i];exact wpAny_operating (QI g (λr l u=>WK (wpAny_letTemporaryGo<|WR u)) λ_ _ x=>x)
 first
  |exact WR (WK p)
  |exact WK (WR<|WK p)
  |exact WK p
def Zmg{X:Cx}{pins:ZZ}{l:St}{H:Hp}{s:Shared}{a:Addr}{y:V}{o:Option V}(I:Inv X pins l H s)(g:DGet H a y o):s.TypeIs (.ref a) "dict":=by
 rcases g with⟨f,k,e,_,_⟩|⟨f,k,b,e,_,_,_⟩
 ·obtain⟨_,_,n,_,h⟩:=SX I.hok e;exact h.typeIs
 ·obtain⟨_,_,xs,_,h⟩:=Bh I.hok e;exact h.typeIs
noncomputable def MF(l h:TE):TE:=λf H Q=>l f H λx n=>h f n λy g=>∃a v,x=.ref a/\DGet g a y (some v)/\Q v g
noncomputable def M7(h l:TE):TE:=λf H Q=>h f H λy n=>l f n λx g=>∃a o,x=.ref a/\DGet g a y o/\Q (.bl o.isSome) g
noncomputable def Lk(h l:TE):TE:=λf H Q=>h f H λy n=>l f n λx g=>∃a o,x=.ref a/\DGet g a y o/\Q (.bl (!o.isSome)) g
noncomputable def Gy(n h l:TE):TS:=λD f H=>l f H λv r=>n f r λx p=>h f p λy o=>∃a g,x=.ref a/\DPut o a y v g/\D.nx f g
section
variable {X:Cx}{o i e value:Expr}{pos pos' tpos:Pos}{td ty tv:TE}
def NX(C:X.A.units+1<cLine)(E:PE X o td)(G:PE X i ty)(hs:Ov i):PE X (.Subscript o i pos) (MF td ty):=by
 intro pins s l H Q I h;refine Zle PySem.F.slot_dict_getitem.lookup hs (thn (E pins s l H _ I h) ?_);rintro u p ⟨x,T,M,w,B⟩;refine thn (G pins p l T _ M B) ?_;rintro iv s2 ⟨y,N,n,r,a,v,J,g,z⟩;subst J;obtain rfl:u=Value.ref a:=w;exact⟨Zmg n g,Zbk C n g r λU Y L f=>⟨v,N,L,f,z⟩⟩
def MV(z:X.A.units+1<cLine)(C:PE X i ty)(B:PE X o td):PC X .In i o (M7 ty td):=by
 intro pins s f H Q I h;refine thn (C pins s f H _ I h) ?_;rintro Y l ⟨y,N,L,n,v⟩;refine thn (B pins l f N _ L v) ?_;rintro u U ⟨x,M,J,p,a,w,E,g,r⟩;subst E;obtain rfl:u=Value.ref a:=p;exact Zqz z J g n λT G=>⟨.bl w.isSome,M,G,rfl,r⟩
def Zn3(z:X.A.units+1<cLine)(C:PE X i ty)(B:PE X o td):PC X .NotIn i o (Lk ty td):=by
 intro pins s f H Q I h;refine thn (C pins s f H _ I h) ?_;rintro Y l ⟨y,N,L,n,v⟩;refine thn (B pins l f N _ L v) ?_;rintro u U ⟨x,M,J,p,a,w,E,g,r⟩;subst E;obtain rfl:u=Value.ref a:=p;exact Zls z J g n λT G=>⟨.bl (!w.isSome),M,G,rfl,r⟩
def BS(J:X.A.units+1<cLine)(L:PE X o td)(M:PE X i ty)(G:PE X value tv)(hs:swapsWith value (some<|.Subscript o i pos') pos.line X.env=pure false) :
  PS X (.Assign [.Subscript o i pos'] value pos) (Gy td ty tv):=by
 intro pins s f H D I h;refine wpAny_Assign_Subscript (thn (G pins s f H _ I h) ?_) hs;rintro r n ⟨v,H1,Y,z,E⟩;refine thn (L pins n f H1 _ Y E) ?_;rintro u l ⟨x,H2,U,w,C⟩;refine thn (M pins l f H2 _ U C) ?_;rintro iv s3 ⟨y,H3,T,p,a,H4,N,g,B⟩;subst N;obtain rfl:u=Value.ref a:=w;exact Zo5 J T g p z λs4 Q=>⟨f,H4,Q,B⟩
end
def Zg4{P:Program}{w:World}{H:Hp}(h:Heap)(f:sysModules<h.objs.size):ObjOk P w H (h.push {cls:=.type "dict",data:=.dict #[]}) h.objs.size (.dK []):=
 ⟨QD _,V9.mpr (Ne.symm<|Qm f),[],.nil,Heap.DictOf.new h⟩
def Ib{P:Program}{w:World}{H:Hp}(h:Heap)(f:sysModules<h.objs.size):ObjOk P w H (h.push {cls:=.type "dict",data:=.dict #[]}) h.objs.size (.dT []):=
 ⟨QD _,V9.mpr (Ne.symm<|Qm f),[],.nil,_,#[],0,Qa _ rfl,⟨rfl,rfl,rfl⟩,rfl,rfl,Vx⟩
noncomputable def IP:TE:=λ_ H Q=>∀p,H p=none->Q (.ref p) (upd H p<|.dK [])
noncomputable def Hd:TE:=λ_ H Q=>∀p,H p=none->Q (.ref p) (upd H p<|.dT [])
section
variable {X:Cx}{pos:Pos}
def Hs:PE X (.Dict [] [] pos) IP:=λpins s f H Q I h=>
 wpAny_Dict_empty ⟨.ref s.heap.objs.size,_,I.laid (a:=s.heap.objs.size) (o:=.dK []) (t':=s.toks) (λ_ _ q=>WS _ q) (WT _) (Zg4 s.heap I.big),rfl,h _ (I.hok.fresh<|WT _)⟩
def Zqg:PE X (.Dict [] [] pos) Hd:=λpins s f H Q I h=>
 wpAny_Dict_empty ⟨.ref s.heap.objs.size,_,I.laid (a:=s.heap.objs.size) (o:=.dT []) (t':=s.toks) (λ_ _ q=>WS _ q) (WT _) (Ib s.heap I.big),rfl,h _ (I.hok.fresh<|WT _)⟩
end
def He:List (TE×TE)->St->Hp->(List (V×V)->Hp->Prop)->Prop
 |[],_,H,Q=>Q [] H
 |(h,g)::r,f,H,Q=>h f H λx p=>g f p λy o=>He r f o λl n=>Q ((x,y)::l) n
abbrev VV:List (V×V)->List (Value×Value)->Prop:=Paired λp q=>RelV p.1 q.1/\RelV p.2 q.2
def PPs(X:Cx)(pos:Pos)(keys:List (Option Expr))(values:Yg)(g:List (TE×TE)):Prop:=
 ∀(pins:ZZ) (s:Shared) (f:St) (H:Hp) (Q:List (V×V)->Hp->Prop),Inv X pins f H s->He g f H Q->
  wpAny (model X.prog X.w) X.A (evalPairs<|pairTrees keys values X.env pos) (λn o=>∃h l,Inv X pins f l o/\VV h n/\Q h l) X.xe s
def Zai{X:Cx}{pos:Pos}:PPs X pos [] [] []:=λpins s f H Q I h=>pairTrees_nil_walk ⟨[],H,I,.nil,h⟩
def Zqo{X:Cx}{pos:Pos}{k v:Expr}{o:List (Option Expr)}{vs:Yg}{n l:TE}{f:List (TE×TE)}(L:PE X k n)(G:PE X v l)(J:PPs X pos o vs f) :
  PPs X pos (some k::o) (v::vs) ((n,l)::f):=λpins s g H Q I h=>
 pairTrees_cons_walk (thn (L pins s g H _ I h) λu r ⟨x,H1,T,z,C⟩=>thn (G pins r g H1 _ T C) λw2 p ⟨y,Y,N,w,B⟩=>
  thn (J pins p g Y _ N B) λws s3 ⟨E,U,M,rel,A⟩=>⟨(x,y)::E,U,M,.cons ⟨z,w⟩ rel,A⟩)
end L2
set_option genInjectivity false
set_option genSizeOfSpec false
namespace Own
open PySem PySem.Spec PyProof.Rows L2
structure Def (K:ZW) (mg:Ya) (x:Str) (st:Stmt) (ps:Yf):Prop where
 ex:∃f fd,Fun K x x st f fd/\mg x=some (.ref f)/\Binds K fd ps []
structure Callee (P:Program) (w:World) (K:ZW) (mg:Ya) (base:Heap) (CX:CXT) (k:Nat) (x:Str) (ps:Yf) (sp:Sp):Prop where
 ex:∃f fd,KL P w K mg base CX k f fd ps sp/\mg x=some (.ref f)/\PySem.W.keepIn K (.ref f)=true/\(∃o:Obj,K.lookup f=some o/\o.data=.func fd)/\Binds K fd ps []
section
variable {P:Program}{w:World}{K:ZW}{mg:Ya}{base:Heap}
def Callee.at {st f g k ps sp} (C:Callee P w K mg base CX k x ps sp) (v:mg x=some (.ref f)) (F:Fun K x x st f g) (_:Def K mg x st ps):KL P w K mg base CX k f g ps sp:=by
 obtain⟨z,n,E,l,_,y,_⟩:=C.ex;obtain⟨oc,s,kV,o,r,B,p,A,h,_,u,_⟩:=F.ex
 grind
def Def.ok {st N ps k sp} (D:Def K mg x st ps) (S:Xh N ps (Xg st)) (len:∀vs H Q E,sp vs H Q E->vs.length=ps.length)
  (l:∀f g A outer s H vs Q E,Xv k (A.deeper<|envOfC x (Xg st) s.heap.objs.size f g)->sp vs H Q E->
   ∃t,PSs (XY CX0 P w K mg base N x (Xg st) f g A outer s H E).nox (XS st) t/\t {nx:=λ_ H'=>Q .non H',rt:=Q} (start N vs) H):Callee P w K mg base CX0 (k+1) x ps sp:=by
 obtain⟨f,u,F,p,r⟩:=D.ex;refine⟨f,u,F.ok S len λg A outer s H vs Q E o h=>l f g A outer s H vs Q E o h,p,F.kp,?_,r⟩;obtain⟨oc,z,kV,v,y,G,g,C,n,_,B,_⟩:=F.ex
 grind
end
section
variable {X:Cx}{CX:CXT}{k:Nat}{ps:Yf}{sp:Sp}{E:XK}{x:Str}{p pos:Pos}{e:Expr}{es:Yg}{t:TA}
def Bt(C:Callee X.prog X.w X.K X.mg X.base CX k x ps sp)(l:Xv k X.A)(hx:Pm CX X E)(v:PA X (e::es) t)(r:autoParam (Gl X x) au_0)(h:autoParam ((x==("__debug__" : Str))=false) au_1)(s:autoParam (starEach (e::es) X.env=(false,eval e X.env)::starEach es X.env) au_0)(g:autoParam ((backTo pos<|starEach es X.env).any (·.1)=false) au_0) :
  PE X (.Call (.Name x p) (e::es) [] pos) (Nf sp [] E t):=by
 obtain⟨f,y,F,n,o,_,u⟩:=C.ex;exact Zpp F l r n o u .nil hx v h s g
def Zqm:Kr X (.builtin "isinstance") (λxs H Q=>∃x n t b,xs=[x,.ty n]/\Pb X.K H x t/\PySem.W.kitOne X.K t (.type n)=some b/\Q (.bl b) H):=by
 intro pins s w H xs y Q I o h;obtain⟨x,n,t,b,rfl,g,e,q⟩:=h;cases o with
 |cons r u=>
  cases u with
  |cons v f=>
   cases f
   obtain rfl:=v;exact Zmb I r g e λl=>⟨.bl b,H,I.tok l,rfl,q⟩
def Zhl:IxR X (λx y H Q=>PY X.K x y H Q\/Tf X.K x y H Q):=ix_list.or Zj5
end
noncomputable def MQ(t u:TS):TS:=λD h H=>∃J:L2.St->Hp->Prop,t {D with nx:=J} h H/\∀f g,J f g->u D f g
def Zqj{st rest t u}(r:PS X st t)(p:PSs X rest u):PSs X (st::rest) (MQ t u):=by
 intro pins s n H D I h;obtain⟨J,h,k⟩:=h;refine wpAny_execs_cons (thn (r pins s n H {D with nx:=J} I h) λf o q=>?_)
 cases f with
 |next=>
  obtain⟨g,l,v,q⟩:=q;exact p pins o g l D v (k g l q)
 |_=>exact q
def Zrz(K:ZW)(n:String):PySem.W.kitOne K (.type n) (.type n)=some true:=by
 unfold PySem.W.kitOne;simp
def PX{xs i v}(h:atI xs i=some v):atI (xs.map f) i=some (f v):=by
 unfold atI at h ⊢;cases e:ixN xs.length i with
 |_=>grind
def Br{i v}(f:0<=i)(h:xs[i.toNat]?=some v):atI xs i=some v:=by
 have:=NG h
 grind
def XX(h:H a=none):Same H (upd H a o):=λb u e=>by rw[Xx (Kz e h)];exact e
def Same.upd (S:Same H H') (h:H a=none):Same H (upd H' a o):=λb u e=>by rw[Xx (Kz e h)];exact S b u e
def Same.new (S:Same H H') (h:H' a=none):Same H (L2.upd H' a o):=Own.Same.upd S (S.free h)
def Zga(names:List (Str×NameKind))(g:∀x∈names,x.2=.free->∃c,env.cells.lookup x.1=some c):∀f,(∀x c,f.lookup x=some c->env.cells.lookup x=some c)->
  ∃l,(forIn names f (λx A=>if (x.2 == .free)=true then(do let c ←cellOf env x.1;pure (ForInStep.yield ((x.1,c)::A)))else pure (ForInStep.yield A)):Sem (List (Str×Addr)))=pure l/\
   (∀x c,l.lookup x=some c->env.cells.lookup x=some c)/\(∀x,(∃c,f.lookup x=some c)->∃c,l.lookup x=some c)/\∀x∈names,x.2=.free->∃c,l.lookup x.1=some c:=by
 induction names with
 |nil=>
  intro f s;exact⟨f,rfl,s,λ_ h=>h,λx hx=>by cases hx⟩
 |cons y r B=>
  intro f s;have o:=B λx hx=>g x (Qo _ hx);obtain⟨n,k⟩:=y;by_cases w:k=.free
  ·subst w;obtain⟨c,z⟩:=g (n,.free) Q7 rfl
   have C:∀x d,List.lookup x ((n,c)::f)=some d->env.cells.lookup x=some d:=λx d e=>by
    rw[Vb]at e;by_cases hx:x=n
    ·subst hx;simp at e;subst e;exact z
    ·have:(x==n)=false:=by simpa using hx
     rw[this]at e;exact s x d e
   obtain⟨l,e,v,p2,u⟩:=o ((n,c)::f) C;refine⟨l,?_,v,λx hx=>p2 x ?_,λx hx p=>?_⟩
   ·rw[List.forIn_cons];have E:cellOf env n=pure c:=by unfold cellOf;rw[z]
    rwa[E]
   ·rw[Vb];cases (x==n)
    ·exact hx
    ·exact⟨c,rfl⟩
   ·rcases WX.mp hx with rfl|hx
    ·exact p2 n ⟨c,by simp[Vb]⟩
    ·exact u x hx p
  ·obtain⟨l,e,v,p2,u⟩:=o f s;refine⟨l,?_,v,p2,λx hx p=>?_⟩
   ·grind
   ·rcases WX.mp hx with rfl|hx
    ·exact absurd p w
    ·exact u x hx p
def Znn{sc}(f:∀x∈sc.names,x.2=.free->∃c,env.cells.lookup x.1=some c) :
  ∃g,closureFor sc env=pure g/\(∀x c,g.lookup x=some c->env.cells.lookup x=some c)/\∀x∈sc.names,x.2=.free->∃c,g.lookup x.1=some c:=by
 obtain⟨g,e,n,_,l⟩:=Zga sc.names f [] (λx c h=>by cases h);unfold closureFor
 grind
noncomputable def Ko(X:Cx)(N':Yf)(h:Scope)(l:List (Str×Addr))(C:Addr)(f:Shared)(g:Hp)(ex:List Addr):Cx:=
 {X with N:=N',s₀:=f,H₀:=g,env:=compEnvC h l C X.env,outer:=X.stack,ex:=ex,fn:=λ_=>false,pn:=[],xe:=λ_ _=>False}
structure S7 (X:Cx) (N':Yf) (φ:Yc) (sc:Scope):Prop where
 kind:sc.kind=.function
 okind:X.env.scope.kind=.function
 nocell:∀y∈sc.names,y.2≠.cell
 names:∀y∈sc.names,y.2=.local->sc.names.lookup y.1=some .local
 frees:∀y∈sc.names,y.2=.free->X.env.scope.names.lookup y.1=some .cell
 len:φ.length=N'.length
 pick:∀(i:Nat) (x:Str) (j:Nat),N'[i]?=some x->φ[i]?=some (some j)->X.N[j]?=some x/\sc.names.lookup x=some .free
noncomputable def atStart(φ:Yc)(f:L2.St):L2.St:=φ.map λo=>o.bind λj=>(f[j]?).join
def Sub(g f:L2.St):Prop:=f.length=g.length/\∀(i:Nat) (v:V),g[i]?=some (some v)->f[i]?=some (some v)
def Sub.refl:Sub f f:=⟨rfl,λ_ _ h=>h⟩
def Sub.skip (h:Sub g f):Sub (none::g) (x::f):=by
 refine⟨by simp[h.1],λi v e=>?_⟩;cases i with
 |zero=>grind
 |succ i=>simp at e ⊢;exact h.2 i v e
theorem GX{env:Env}(p:env.scope.kind=.function):∀{names:List (Str×NameKind)}{x:Str},names.lookup x=some .free->env.scope.names.lookup x=some .cell->
  (names.map λ(n,k)=>if (k==NameKind.free&&env.scope.kind == .function&&env.kindOf n==some .cell)then(n,NameKind.cell)else(n,k)).lookup x=some .cell
 |[],_,h,_=>by simp at h
 |(n,k)::r,x,h,g=>by
  have l:=@GX env p r x;show List.lookup x ((if (k==NameKind.free&&env.scope.kind == .function&&env.kindOf n==some .cell)=true then(n,NameKind.cell)else(n,k))::_)=_;cases hx:x==n with
  |true=>
   have o:env.kindOf x=some .cell:=g;simp_all
  |false=>
   simp only[Vb,hx]at h;by_cases f:(k==NameKind.free&&env.scope.kind == .function&&env.kindOf n==some .cell)=true
   ·rw[WQ f];simp only[Vb,hx];exact l h g
   ·rw[WO f];simp only[Vb,hx];exact l h g
theorem DQ{env:Env}:∀{names:List (Str×NameKind)}{x}{q:NameKind},
  (names.map λ(n,k)=>if (k==NameKind.free&&env.scope.kind == .function&&env.kindOf n==some .cell)then(n,NameKind.cell)else(n,k)).lookup x=some q->∃k,(x,k)∈names/\(q=k\/k=.free)
 |[],_,_,h=>by simp at h
 |(n,k)::r,x,q,h=>by
  have g:List.lookup x ((if (k==NameKind.free&&env.scope.kind == .function&&env.kindOf n==some .cell)=true then(n,NameKind.cell)else(n,k))::(r.map λ(n,k)=>if (k==NameKind.free&&env.scope.kind == .function&&env.kindOf n==some .cell)then(n,NameKind.cell)else(n,k)))=some q:=h;cases hx:x==n with
  |true=>
   have e:x=n:=by simpa using hx
   subst e;by_cases f:(k==NameKind.free&&env.scope.kind == .function&&env.kindOf x==some .cell)=true
   ·simp_all
   ·simp_all
  |false=>
   have p:List.lookup x (r.map λ(n,k)=>if (k==NameKind.free&&env.scope.kind == .function&&env.kindOf n==some .cell)then(n,NameKind.cell)else(n,k))=some q:=by
    by_cases f:(k==NameKind.free&&env.scope.kind == .function&&env.kindOf n==some .cell)=true
    ·rw[WQ f]at g;simp only[Vb,hx]at g;exact g
    ·rw[WO f]at g;simp only[Vb,hx]at g;exact g
   obtain⟨l,o,hq⟩:=(@DQ env r x q) p;exact⟨l,Qo _ o,hq⟩
def Znj{L target iter E scope pos N M env}(I:Nat->Shared->Prop)
  (turn:∀n s,I n s->wpAny (model prog w) A (pyNext N) (λr l=>match r with
   |none=>R (.ok .next) l
   |some v=>wpAny (model prog w) A (letOwnedTupleGo target N v) (λ_ g=>wpAny (model prog w) A (assign target env v) (λ_ y=>
     wpAny (model prog w) A (forIn E true λc r=>if r=true then do let ok ←isTrue c env (eval c env);pure (ForInStep.yield ok)else pure (ForInStep.yield r)) (λok f=>
      if ok=true then wpAny (model prog w) A (eval L env) (λx u=>
       wpAny (model prog w) A (call (.builtin "list.append") [M,x]) (λ_ p=>∃m,m<n/\I m p) (λ_ _=>False) u) (λ_ _=>False) f
      else ∃m,m<n/\I m f) (λ_ _=>False) y) (λ_ _=>False) g) (λ_ _=>False) l) (λ_ _=>False) s)
  (n:Nat) (h:I n s) :
  codeAny (model prog w) A (.compLoop (.ListComp L [⟨target,iter,E,0⟩] scope pos) 0 N M env) R s:=by
 refine codeAny_loop rfl I (λn s Q=>?_) n h;refine wpAny_noted ?_;rw[compTurn_list];refine WK (wpAny_standAt<|WK (QI (turn n s Q) (λr l B=>?_) λ_ _ o=>o.elim));cases r with
 |none=>exact WR B
 |some v=>
  refine WK (QI B (λ_ g C=>?_) λ_ _ o=>o.elim);refine WK (QI C (λ_ y J=>WK (QI J (λok f z=>?_) λ_ _ o=>o.elim)) λ_ _ o=>o.elim);cases ok with
  |false=>exact WR ⟨rfl,z⟩
  |true=>
   exact WK (WK (QI z (λx u H=>WK (QI H (λ_ p G=>WR (WR ⟨rfl,G⟩)) λ_ _ o=>o.elim)) λ_ _ o=>o.elim))
def NQ(X:Cx)(g:Yg)(t:TT):Prop:=
 ∀(pins:ZZ) (s:Shared) (f:L2.St) (H:Hp) (Q:Bool->Hp->Prop),Inv X pins f H s->t f H Q->
  wpAny (model X.prog X.w) X.A (forIn g true λc r=>if r=true then do let ok ←isTrue c X.env (eval c X.env);pure (ForInStep.yield ok)else pure (ForInStep.yield r)) (TP X pins f Q) X.xe s
noncomputable def LS:TT:=λ_ H Q=>Q true H
def T9:NQ X [] LS:=λ_ _ _ H _ I h=>WR ⟨H,I,h⟩
def By(g:PT X c t):NQ X [c] t:=by
 intro pins s f H Q I h;rw[List.forIn_cons];refine WK ?_;exact WK (thn (g pins s f H Q I h) λb l q=>WR (WR q))
noncomputable def SE(φ:Yc)(v:TI)(g:TG)(tc:TT)(te:TE):TE:=λo H Q=>v o H λJ u=>∀D,u D=none->∃W:Nat->Nat->List V->Hp->Prop,(∃m,W 0 m [] (upd u D<|.lst []))/\
 ∀i m h n,W i m h n->(J.stop i n/\Q (.ref D) n)\/(J.go i n/\∀x s,J.yld i n x s->g x (atStart φ o) s λf w=>Sub (atStart φ o) f/\tc f w λb r=>
  if b=true then te f r λy p=>p D=some (.lst h)/\h.length<sizeLine/\∃l,l<m/\W (i+1) l (h++[y]) (upd p D<|.lst (h++[y]))else ∃l,l<m/\W (i+1) l h r)
def Inv.weak {g f:L2.St}{H}{s} (I:Inv X pins f H s) (S:Sub g f):Inv X pins g H s:=
 ⟨I.ok,I.os,I.bare,I.base,let ⟨m,h,l⟩:=I.loc;⟨m,h,λi x v p o n=>l i x v p (S.2 i v o) n⟩,I.cell,I.free,I.freeC,I.pin,I.hok,by rw[←S.1];exact I.len⟩
def D5{i:Nat}{v}(h:(atStart φ f)[i]?=some (some v)):∃j,φ[i]?=some (some j)/\f[j]?=some (some v):=by
 unfold atStart at h;cases e:φ[i]? with
 |none=>grind
 |some o=>
  cases o with
  |_=>grind
def CompEnd(X:Cx)(pins:ZZ)(h:L2.St)(Q:VK)(use:Option (Value->Sem Unit))(l:Yb):Prop:=
 ∀(D C:Addr) (g:Hp) (f:Shared),Q (.ref D) g->Inv X pins h g f->(∃m,f.heap.Ns C m)->g C=none->C≠X.env.locals->X.s₀.heap.objs.size<=C->(∀x c,X.env.cells.lookup x=some c->c≠C)->(∀p∈X.pn++pins,p.1≠C)->C∉X.fs->
  compPost (model X.prog X.w) X.A X.xe use l (.ref D) C (.ok .next) f
def M2{elt iter tg}{ifs}{pos pos'}{wi}{g}{tc}{te}{use}{QQ}(hcalm:X.calm=true)(S:S7 X N' φ G)(hi:PI X tg iter wi)(hin:∀U C s₃ H₃ ex,PG (Ko X N' G U C s₃ H₃ ex) tg g/\NQ (Ko X N' G U C s₃ H₃ ex) ifs tc/\PE (Ko X N' G U C s₃ H₃ ex) elt te)(hs:∀x,foldedSetIterable iter X.env x=pure x){pins}{s}{σ:L2.St}{H}{Q}(I:Inv X pins σ H s)(h:SE φ wi g tc te σ H Q)(fin:CompEnd X pins σ Q use QQ) :
  wpAny (model X.prog X.w) X.A (comprehension (.ListComp elt [⟨tg,iter,ifs,0⟩] G pos) G X.env pos' (newList []) false (eval iter X.env) use) QQ X.xe s:=by
 obtain⟨U,hcl,p1,p3⟩:=Znn λx hx hf=>I.ok.has x.1 (.inl<|S.frees x hx hf);refine wpAny_comprehension_free rfl hs hcl S.kind S.names ?_;refine thn (hi pins s σ H _ I h) λv s1 h1=>thn h1 λitv s2 h2=>?_;obtain⟨it,L,tn,J,H2,e,I2,T,st2,f2,hR⟩:=h2;subst e;refine QC ?_;have hf:=I2.hok.fresh (WT _);obtain⟨W,⟨m0,w0⟩,turn⟩:=hR s2.heap.objs.size hf;generalize eD:s2.heap.objs.size=D at *
 have I3:Inv X pins σ (upd H2 D<|.lst []) {s2 with heap:=s2.heap.push {cls:=.type "list",dict:=none,data:=.seq ([]:Ye).toArray}}:=
  I2.laid (λb u e=>WS _ e) (Vi eD) ⟨QD _,[],0,.nil,by rw[←eD];exact Qa _ rfl⟩
 have st3:tn 0 (s2.heap.push {cls:=.type "list",dict:=none,data:=.seq ([]:Ye).toArray}):=T.keep _ _ _ st2 λb _ o e=>WS _ e
 have hfpD:∀b∈L,b≠D:=λb f z=>by
  obtain⟨o,ho,_⟩:=T.obj _ _ st2 b f
  have:=WZ ho
  rw[z,←eD]at this;exact QY _ this
 have f3:∀b∈L,Nz X pins (upd H2 D<|.lst []) b:=λb f=>⟨by rw[Xx (hfpD b f)];exact(f2 b f).1,(f2 b f).2⟩;generalize es3:({s2 with heap:=s2.heap.push {cls:=.type "list",dict:=none,data:=.seq ([]:Ye).toArray}}:Shared)=l at *
 have st3':tn 0 l.heap:=by rw[←es3];exact st3
 generalize eH3:upd H2 D (.lst [])=H3 at *;refine wpAny_newFunctionEnv S.nocell (by intro y hy;simp at hy) (λh₁ E B=>?_) S.kind;have hh3:l.heap=s2.heap.push {cls:=.type "list",dict:=none,data:=.seq ([]:Ye).toArray}:=by rw[←es3]
 rw[hh3]at E B;rw[←hh3]at E B;have old:=λb o e=>B.extBut b o (Qm<|WZ e) (WS _ e)
 have hC0:l.heap.get? l.heap.objs.size=none:=by
  cases e:l.heap.get? l.heap.objs.size with
  |none=>rfl
  |some o=>exact absurd (WZ e) (QY _)
 generalize eC:l.heap.objs.size=C at *;have hH3C:=I3.hok.fresh (Vi eC)
 have OK:(Ko X N' G U C l H3 L).Ok:=by
  refine⟨I.ok.mod,?_,I.ok.glob,I.ok.blt,Vi eC,λx y c h1 h2=>I.ok.inj x y c (p1 x c h1) (p1 y c h2),?_,(λx c hx=>by cases hx),I.ok.hd,I.ok.frames,.inl rfl,?_,I3.bs,WV I.ok.bsz I3.sz,?_,?_,I3.stack,I3.stkFree⟩
  ·exact S.kind
  ·intro x hx;have hx':=hx.imp DQ DQ
   have hfr:(x,NameKind.free)∈G.names:=by
    rcases hx' with⟨k,hm,rfl|rfl⟩|⟨k,hm,rfl|rfl⟩
    ·exact absurd rfl (S.nocell _ hm)
    ·exact hm
    ·exact hm
    ·exact hm
   exact p3 _ hfr rfl
  ·intro b f;refine⟨λz=>?_,λx c hx=>(f3 b f).2.2.2.2.1 x c (p1 x c hx)⟩;obtain⟨o,ho,_⟩:=T.obj _ _ st3' b f;have z':b=C:=z;rw[z',hC0]at ho;cases ho
  ·intro b o f hx;obtain⟨_,_,_,q,_,_⟩:=f3 b hx;rcases q with q|q
   ·exact I.ok.noex b o f q
   ·have:=Q1 (WZ f) (WV I.ok.bsz q)
    exact QY _ this
  ·intro b f hz;rcases WX.mp (I.stkSub b hz)with q|q
   ·exact(f3 b f).2.1 q
   ·exact(f3 b f).2.2.1 q
 have hlen0:(atStart φ σ).length=N'.length:=by unfold atStart;rw[WI];exact S.len
 have I4:Inv (Ko X N' G U C l H3 L) [] (atStart φ σ) H3 {l with heap:=h₁,toks:=l.toks+([]:List (Str×Value)).length}:=by
  refine⟨OK,rfl,I3.bare,Un.kept old,⟨_,E,λi x v h1 h2 h3=>?_⟩,λx c hx=>?_,hH3C,λx c hx=>I3.freeC x c (p1 x c hx),λp hp=>?_,I3.hok.kept old,hlen0⟩
  ·obtain⟨j,hj,hv⟩:=D5 h2;obtain⟨hN,hfr⟩:=S.pick i x j h1 hj;obtain⟨m,_,hl⟩:=I3.loc;have hm:=Vv hfr;have M:=S.frees _ hm rfl;obtain⟨u,ru,lk⟩:=hl j x v hN hv (.inr<|.inl M);refine⟨u,ru,.inr ⟨.inl (GX S.okind hfr M),?_⟩⟩;obtain⟨c,hc⟩:=p3 _ hm rfl;rcases lk with⟨hk,_⟩|⟨_,c',hc',hcl'⟩
   ·have hk':X.env.scope.names.lookup x=some .local:=hk;rw[M]at hk';cases hk'
   ·have e:=p1 _ _ hc;rw[hc']at e;cases e
    obtain⟨o,ho,hd⟩:=hcl';exact⟨_,hc,o,old _ o ho,hd⟩
  ·obtain⟨v,hv⟩:=I3.cell x c (p1 x c hx);obtain⟨o,ho,hd⟩:=hv;exact⟨v,o,old _ o ho,hd⟩
  ·exact absurd hp (by simp[Ko])
 have st4:=T.keep _ _ _ st3' λb _ o e=>old b o e
 have stat:∀{H':Hp},(∀b∈L,H' b=none)->∀b∈L,Nz (Ko X N' G U C l H3 L) [] H' b:=λhn b f=>
  ⟨hn b f,(OK.exf b f).1,OK.exfs b f,.inl f,(OK.exf b f).2,λp hp=>absurd hp (by simp[Ko])⟩
 obtain⟨hPG,hPI,hPE⟩:=hin U C l H3 L
 have loop:codeAny (model X.prog X.w) X.A (.compLoop (.ListComp elt [⟨tg,iter,ifs,0⟩] G pos) 0 (.ref it) (.ref D)<|compEnvC G U C X.env) (compPost (model X.prog X.w) X.A X.xe use QQ (.ref D) C) {l with heap:=h₁,toks:=l.toks+([]:List (Str×Value)).length}:=by
  refine Znj (λn s'=>∃i ys σ' H',Inv (Ko X N' G U C l H3 L) [] σ' H' s'/\Sub (atStart φ σ) σ'/\tn i s'.heap/\(∀b∈L,H' b=none)/\W i n ys H') ?_ m0 ⟨0,[],_,_,I4,Sub.refl,st4,λb f=>(f3 b f).1,w0⟩;rintro n s5 ⟨i,ys,σ5,H5,I5,sub5,st5,fr5,w5⟩;have I5':=Own.Inv.weak I5 sub5;rcases turn i n ys H5 w5 with⟨stop,qn⟩|⟨go,step⟩
  ·refine thn (T.done (Ko X N' G U C l H3 L) rfl rfl rfl hcalm i [] s5 _ H5 _ I5' (stat fr5) st5 stop) ?_;rintro r s6 ⟨hr,I6⟩;subst hr;obtain⟨m,hn,_⟩:=I6.loc;obtain⟨hh,gg,dd,tt,oo⟩:=s6;obtain rfl:=I6.os;have R:Inv X pins σ H5 {l with heap:=hh,gens:=gg,drawn:=dd,toks:=tt}:=I3.call I6.base I6.hok I6.bare λb f=>⟨(f3 b f).2.2.2.1,(f3 b f).2.1,(f3 b f).2.2.2.2.1,(f3 b f).2.2.2.2.2⟩
   have hC3:=Vi eC;obtain⟨q0,q1,q2,q3,q4,q5⟩:=I3.fpOk hC3 hH3C;refine fin D C H5 _ qn R ⟨m,hn⟩ I6.free q1 (WV I3.sz hC3) q4 q5 q2
  ·refine thn (T.item (Ko X N' G U C l H3 L) rfl rfl rfl hcalm i [] s5 _ H5 _ I5' (stat fr5) st5 go) ?_;rintro r s6 ⟨u,hr,h6⟩;subst hr;refine thn h6 ?_;rintro _ s7 ⟨x,H7,I7,r7,y7,st7,fr7⟩;have I7':=I7.pinned (stat fr7) (T.obj _ _ st7);refine thn (hPG _ s7 _ H7 x u _ I7' r7<|step x H7 y7) ?_;rintro _ s8 ⟨σ8,H8,I8,sub8,q8⟩;refine thn (hPI _ s8 σ8 H8 _ I8 q8) ?_;rintro ok s9 ⟨H9,I9,q9⟩
   have again:∀{Y:Shared} {N:Hp} {ys':List V} {m':Nat},Inv (Ko X N' G U C l H3 L) ([]++Bs L s7.heap) σ8 N Y->W (i+1) m' ys' N->∃i ys σ' H',Inv (Ko X N' G U C l H3 L) [] σ' H' Y/\Sub (atStart φ σ) σ'/\tn i Y.heap/\(∀b∈L,H' b=none)/\W i m' ys H':=λ{Y N ys' m'} J10 w10=>by
    refine⟨i+1,ys',σ8,N,J10.unpinned,sub8,T.keep _ _ _ st7 λb f o e=>(J10.pin (b,o)<|Q0 _<|Q0 _<|FM f e).1,λb f=>?_,w10⟩;obtain⟨o,e,d⟩:=T.obj _ _ st7 b f;exact(J10.pin (b,o)<|Q0 _<|Q0 _<|FM f e).2.1
   cases ok with
   |false=>
    obtain⟨m',hm,w'⟩:=q9;exact⟨m',hm,again I9 w'⟩
   |true=>
    refine thn (hPE _ s9 σ8 H9 _ I9 q9) ?_;rintro xv Y ⟨y,N,I10,r10,hD,hl,m',hm,w'⟩;refine thn (Sy _ Y σ8 N (.ref D) [y] (.ref D) [xv] (λ_ H11=>H11=upd N D (.lst (ys++[y]))) I10 rfl (.cons r10 .nil) ⟨D,ys,y,rfl,rfl,hD,hl,rfl⟩) ?_;rintro _ s11 ⟨_,H11,I11,_,e11⟩;subst e11;exact⟨m',hm,again I11 w'⟩
 refine codeAny_compStart_list loop (T.self _ 0 _ _ _ st4 loop)
def EW{r iter v p pos z g tc te}(n:X.calm=true)(S:S7 X N' φ u)(G:PI X v iter z)(w:∀y C f l ex,PG (Ko X N' u y C f l ex) v g/\NQ (Ko X N' u y C f l ex) p tc/\PE (Ko X N' u y C f l ex) r te)(hs:autoParam (∀x,foldedSetIterable iter X.env x=pure x) au_3):PE X (.ListComp r [⟨v,iter,p,0⟩] u pos) (SE φ z g tc te):=by
 intro pins s σ H Q I h;refine M2 n S G w hs I h λD C Y s6 q R E U T N M L c5=>?_;obtain⟨m,B⟩:=E;exact⟨m,B,λh' A=>⟨.ref D,Y,R.turned (λb o J e=>A.extBut b o J e) U T (.inr N) M L,rfl,q⟩⟩
def Zdy{u iter A n pos spos py M g tc te i y}(hN:X.N.Nodup)(hy:X.N[i]?=some y)(Q:X.env.scope.names.lookup y=some .local)(r:X.calm=true)(S:S7 X N' φ w)(hi:PI X A iter M)(G:∀L C f l ex,PG (Ko X N' w L C f l ex) A g/\NQ (Ko X N' w L C f l ex) n tc/\PE (Ko X N' w L C f l ex) u te)(hs:autoParam (∀x,foldedSetIterable iter X.env x=pure x) au_3)(E:autoParam (swapsWith (.ListComp u [⟨A,iter,n,0⟩] w pos) (some<|.Name y py) spos.line X.env=pure true) au_0) :
  PS X (.Assign [.Name y py] (.ListComp u [⟨A,iter,n,0⟩] w pos) spos) (N5 (SE φ M g tc te)<|Sb i):=by
 intro pins s Y H D0 I h;rw[exec_Assign_Name_used _ _ _ _ E];refine WK (wpAny_standAt<|WK ?_);refine WK (QI (M2 r S hi G hs I h λD C U s6 q R hm c0 c1 c2 c3 c4 c5=>?_) (λ_ s' z=>WR (WR z)) λ_ _ e=>e);obtain⟨m,B,es,ep,hoC,J,rC⟩:=hm
 have R2:Inv X (pins++[(C,B)]) Y U s6:=R.pins_of λp hp=>(Qi.mp hp).elim (λz=>R.pin p (Q0 _ z)) λz=>by
  grind
 refine wpAny_assign_Name (FF R2 hN hy (.inl Q) (v:=.ref D) rfl (λs7 T=>?_)<|.inr Q);refine⟨m,⟨B,es,ep,((T.pin (C,B)<|Q0 _<|Q0 _<|WN.mpr rfl).1),J,rC⟩,λh' sb=>?_⟩;exact⟨_,U,T.unpinned.turned (λb o hb e=>sb.extBut b o hb e) c0 c1 (.inr c2) c3 c4,q⟩
noncomputable def B0(sc f:Scope)(N N':Yf)(φ:Yc):Bool:=
 sc.kind == .function&&f.kind == .function&&(sc.names.all λy=>y.2 != .cell&&(y.2 != .local || sc.names.lookup y.1==some .local)&&(y.2 != .free || f.names.lookup y.1==some .cell)) &&
  φ.length==N'.length&&((N'.zip φ).all λp=>match p.2 with|none=>true|some j=>N[j]? == some p.1&&sc.names.lookup p.1==some .free)
def S7.of {N'}{φ g} (h:B0 g X.env.scope X.N N' φ=true):S7 X N' φ g:=by
 unfold B0 at h;simp only[Qr,beq_iff_eq,V7,Bool.or_eq_true,bne_iff_ne,ne_eq]at h;obtain⟨⟨⟨⟨v,u⟩,s⟩,r⟩,p⟩:=h;refine⟨v,u,λy f=>(s y f).1.1,λy f w=>?_,λy f z=>?_,r,λi x j o n=>?_⟩
 ·grind
 ·grind
 ·have l:(N'.zip φ)[i]?=some (x,some j):=by rw[List.getElem?_zip_eq_some];exact⟨o,n⟩
  have:=p _ (Qe l)
  grind
end Own
namespace SetR
open PySem PySem.Spec PyProof.Rows L2
def Ris(xs:Array Nat):Prop:=∀i j,i<j->j<xs.size->xs.getD i 0<xs.getD j 0
def Ge{xs:Array Nat}{i a b}(h:i<xs.size):xs.getD i a=xs.getD i b:=by grind
def Zca(R:Ris xs)(j:Nat):∀fuel lo f,f-lo<=fuel->lo<=f->f<=xs.size->(∀k,k<lo->xs.getD k 0<j)->(∀k,f<=k->k<xs.size->j<=xs.getD k 0)->
  let r:=SetTable.below.go xs j fuel lo f
  r<=xs.size/\(∀k,k<r->xs.getD k 0<j)/\∀k,r<=k->k<xs.size->j<=xs.getD k 0:=by
 intro fuel
 induction fuel with
 |zero=>
  intro lo f x w n l h;have e:lo=f:=by lia
  subst e;exact⟨n,l,h⟩
 |succ fuel s=>
  intro lo f x w n l h;show(let r:=(if lo<f then(if xs.getD ((lo+f) / 2) j<j then SetTable.below.go xs j fuel ((lo+f) / 2+1) f else SetTable.below.go xs j fuel lo ((lo+f) / 2))else lo);r<=xs.size/\(∀k,k<r->xs.getD k 0<j)/\∀k,r<=k->k<xs.size->j<=xs.getD k 0);by_cases u:lo<f
  ·rw[WQ u];have o:(lo+f) / 2<xs.size:=by lia
   by_cases g:xs.getD ((lo+f) / 2) j<j
   ·rw[WQ g];refine s _ _ (by lia) (by lia) n (λk v=>?_) h;rw[Ge o]at g;by_cases e:k=(lo+f) / 2
    ·rw[e];exact g
    ·exact V0 (R k _ (by lia) o) g
   ·rw[WO g];refine s _ _ (by lia) (by lia) (by lia) l (λk v p=>?_);rw[Ge (b:=0) o]at g;by_cases e:k=(lo+f) / 2
    ·rw[e];lia
    ·have:=R _ k (show(lo+f) / 2<k by lia) p
     lia
  ·rw[WO u];have e:lo=f:=by lia
   subst e;exact⟨n,l,h⟩
def Ot(R:Ris xs)(j:Nat):SetTable.below xs j<=xs.size/\(∀k,k<SetTable.below xs j->xs.getD k 0<j)/\∀k,SetTable.below xs j<=k->k<xs.size->j<=xs.getD k 0:=
 Zca R j xs.size 0 xs.size (by simp) (by simp) (by simp) (λk f=>by lia) (λk h g=>by lia)
def Zon(R:Ris xs){i}(f:i<=xs.size){slot}(l:∀k,k<i->xs.getD k 0<slot)(g:∀k,i<=k->k<xs.size->slot<=xs.getD k 0):SetTable.below xs slot=i:=by
 obtain⟨a,b,c⟩:=Ot R slot;rcases Nat.lt_trichotomy (SetTable.below xs slot) i with h|h|h
 ·grind
 ·lia
 ·grind
def Rise(xs:Array Nat):Prop:=xs.toList.Pairwise (· < ·)
def Rise.ris (h:Rise xs):Ris xs:=by
 intro i j f g;have l:i<xs.size:=by lia
 have:=(Vh.mp h) i j (by omega) (by omega) f
 simp_all
def Zj8(h:Rise xs)(v:xs[SetTable.below xs j]?≠some j):Rise (SetTable.insertAt xs (SetTable.below xs j) j):=by
 obtain⟨a,b,c⟩:=Ot h.ris j;generalize SetTable.below xs j=p at *;unfold Rise;rw[SetTable.toList_insertAt];refine J6.mpr ⟨h.sublist (Jg _ _),Vd.mpr ⟨λy g=>?_,h.sublist (List.drop_sublist _ _)⟩,λx hx y g=>?_⟩
 ·obtain⟨k,l,e⟩:=List.mem_drop_iff_getElem.mp g
  have f:p+k<xs.size:=by
   simp only[QF]at l;lia
  have z:=c (p+k) (by lia) f;have u:xs.getD (p+k) 0=y:=by simpa [Array.getD,f]using e
  rcases Nat.lt_or_ge j y with s|s
  ·exact s
  ·have ey:y=j:=by lia
   exfalso;rcases Nat.eq_zero_or_pos k with rfl|w
   ·apply v;rw[QW (by lia)]
    have:xs[p]=y:=by simpa using e
    rw[this,ey]
   ·have B:=h.ris p (p+k) (by lia) f;have A:=c p (WT _) (by lia);lia
 ·have n:x<j:=by
   obtain⟨k,l,e⟩:=List.mem_take_iff_getElem.mp hx;have r:k<p:=by lia
   have o:k<xs.size:=by lia
   have:=b k r
   have u:xs.getD k 0=x:=by simpa [Array.getD,o]using e
   lia
  rcases WX.mp g with rfl|g
  ·exact n
  ·obtain⟨k,l,e⟩:=List.mem_drop_iff_getElem.mp g
   have f:p+k<xs.size:=by
    simp only[QF]at l;lia
   have z:=c (p+k) (by lia) f;have u:xs.getD (p+k) 0=y:=by simpa [Array.getD,f]using e
   lia
structure Tb (b:Bool) (t:SetTable):Prop where
 led:t.led=b
 dum:t.dummies=#[]
 ris:Rise t.place
def O9(j:Nat):SetTable.has #[] j=false:=rfl
def Tb.fresh (b:Bool):Tb b (.fresh 0 0 b):=⟨rfl,rfl,List.Pairwise.nil⟩
def Zn8(n:Nat):Rise (Array.range n):=by
 unfold Rise;rw[Array.toList_range];exact List.pairwise_lt_range
def Tb.stand (h:Tb b t) (n:Nat):Tb b (t.standIn n):=⟨h.led,rfl,Zn8 n⟩
def Tb.orStand (h:Tb b t) (n:Nat):Tb b (t.orStandIn n):=by
 unfold SetTable.orStandIn;split
 ·lia
 ·exact h.stand n
def Tb.plainOff (h:Tb b t):Tb b {t with plain:=false}:=⟨h.led,h.dum,h.ris⟩
def Tb.put (h:Tb b t) {j} (f:t.place[SetTable.below t.place j]?≠some j):Tb b (t.put j).1:=by
 refine⟨h.led,?_,Zj8 h.ris f⟩;show(if SetTable.has t.dummies j=true then _ else t.dummies)=#[];rw[h.dum,O9];rfl
def Ziy(h:Tb b t)(f:Nat->Int)(z:Int):∀fuel p j d,p.dummy=none->SetTable.probe.go t f z fuel p=some (.empty j d)->d=none/\t.place[SetTable.below t.place j]?≠some j:=by
 intro fuel
 induction fuel with
 |zero=>intro p j d _ e;cases e
 |succ fuel n=>
  intro p j d o e;unfold SetTable.probe.go at e
  have l:∀q,q.dummy=none->(t.advance q).dummy=none:=λq hq=>by
   unfold SetTable.advance;split
   ·exact hq
   ·exact hq
  cases g:t.slot p.j with
  |empty=>
   rw[g]at e;unfold SetTable.slot at g
   grind
  |dummy=>
   unfold SetTable.slot at g
   dsimp only at g
   split at g
   ·cases g
   ·rw[h.dum,O9]at g;simp at g
  |live i=>
   rw[g]at e
   dsimp only at e
   split at e
   ·cases e
   ·exact n _ j d (l p o) e
def Tb.layNew (h:Tb b t) (es:Yk) (z:Int) (x:Value):Tb b (PySem.layNew t es z x).2.1:=by
 unfold PySem.layNew;split
 ·rename_i slot wasDummy e
  have f:t.place[SetTable.below t.place slot]?≠some slot:=by
   unfold SetTable.freeSlot SetTable.probe at e;split at e
   ·rename_i j dummy g;obtain⟨n,l⟩:=Ziy h _ _ _ _ _ _ rfl g
    grind
   ·grind
  exact(h.put f).orStand _
 ·exact h.stand _
def Zgm(n:Nat)(f:Nat->Option Nat):((List.range n).filterMap λj=>(f j).map (j,·)).Pairwise (λa b=>a.1<b.1):=by
 refine List.Pairwise.filterMap _ ?_ List.pairwise_lt_range;intro a l h b o r g;cases e:f a with
 |none=>grind
 |some v=>
  cases p:f l with
  |_=>grind
def Tb.relayAll (h:Tb b t) (es:Yk) (n:Nat):Tb b (PySem.relayAll t es n).2.1:=by
 unfold PySem.relayAll;split
 ·rename_i l order e
  dsimp only
  split
  ·unfold SetTable.relaid SetTable.laid at e;cases f:SetTable.layClean (SetTable.sizeAbove n-1) (es.map (·.1))with
   |none=>grind
   |some owner=>
    rw[f]at e;have g:=Q4 Prod.fst (Qc e);subst g;refine⟨h.led,rfl,?_⟩;show(List.map (λx=>x.fst) ((List.range (SetTable.sizeAbove n-1+1)).filterMap λj=>(owner.getD j none).map (j,·))).toArray.toList.Pairwise (· < ·);rw[List.toList_toArray,List.pairwise_map];exact Zgm _ _
  ·exact h.stand _
 ·exact h.stand _
noncomputable def keyOf(e:Int×Value):Int:=match e.2 with
 | .int k _=>k
 |_=>0
def Ent(e:Int×Value):Prop:=∃(k:Int) (t:Tok),e=(hashInt k,.int k t)
section
variable (prog:Program) (w:World)
noncomputable def P7(w:World):Bool:=w.params.followText "set-order"
structure Ku (h:Heap) (a:Addr) (js:ZY) (es:Yk) (ep:Nat) (t:SetTable):Prop where
 obj:∃o,h.get? a=some o/\o.ExactSet/\o.data=.set es ep t
 ent:∀e∈es.toList,Ent e
 per:(es.toList.map keyOf).Perm js
 nod:js.Nodup
 few:es.size<scanBound
 fit:t.fits es.size=true
 tab:Tb (!P7 w) t
def SetB(h:Heap)(a:Addr)(f:ZY):Prop:=∃g l t,Ku w h a f g l t
end
section
variable {prog:Program}{w:World}{A:Around}{E:Yb}{s:Shared}
def Ent.elems (h:∀e∈l,Ent e):ElemsOf (intKind prog w) l:=λe f=>by
 obtain⟨k,t,rfl⟩:=h e f;exact⟨⟨k,intKind_is _ _ _ _,rfl⟩,rfl⟩
def GW(h:Ent e)(k:Int):(intKind prog w).is k e.2=decide (k=keyOf e):=by
 obtain⟨f,t,rfl⟩:=h;show Value.isInt k (.int f t)=decide (k=f);by_cases e:k=f
 ·subst e;simp[Value.isInt]
 ·rw[Q3 e];simp[Value.isInt];lia
def SetB.len (S:Ku w h a f es g t):es.size=f.length:=by
 have:=S.per.length_eq
 grind
def SetB.at {a l} (S:SetB w h a l) (k:∀o,h.get? a=some o->p.get? a=some o):SetB w p a l:=by
 obtain⟨u,v,t,⟨o,n,r⟩,b,c,d,e,f,g⟩:=S;exact⟨u,v,t,⟨o,k o n,r⟩,b,c,d,e,f,g⟩
def Ku.store {es f}{l t t'} (S:Ku w h a B es l t) (z:∀e∈f.toList,Ent e) (y:(f.toList.map keyOf).Perm g) (x:g.Nodup) (v:f.size<scanBound)
  (u:t'.fits f.size=true) (r:Tb (!P7 w) t'):Ku w (h.update a<|Obj.putSet f t') a g f (l+1) t':=by
 obtain⟨o,p,hx,n⟩:=S.obj;refine⟨⟨{o with data:=.set f (l+1) t'},?_,hx,rfl⟩,z,y,x,v,u,r⟩
 have q:=QA (Obj.putSet f t') p (by rw[putSet_of f t' n];rfl);rwa[putSet_of f t' n]at q
def IF{g:Bool->Sem Unit}(hg:∀b G N,N () G->wpAny (model prog w) A (g b) N E G){a T h}{es f}{ep t t'}(S:Ku w s.heap a T es ep t)(M:∀e∈f.toList,Ent e)(L:(f.toList.map keyOf).Perm h)(J:h.Nodup)(u:f.size<scanBound)(h5:t'.fits f.size=true)(H:Tb (!P7 w) t'){d R}(n:∀v,Heap.SameBut a s.heap v->SetB w v a h->R (some true) {s with heap:=v}) :
  wpAny (model prog w) A (do
    storeSet a f t'
    if (!d&&t'.tooFull)=true then do
      g (relayAll t' f<|SetTable.grown f.size).2.2
      storeSet a (relayAll t' f<|SetTable.grown f.size).1 (relayAll t' f<|SetTable.grown f.size).2.1
      pure (some true)
     else pure (some true)) R E s:=by
 obtain⟨o,Y,hx,hd⟩:=S.obj;have C:=S.store M L J u h5 H;obtain⟨o1,p,U,r⟩:=C.obj;have Q:=QN s.heap a (Obj.putSet f t');refine WK (wpAny_storeSet_of Y hd ?_<|Ji u);split
 ·have l:=relayAll_perm t' f (SetTable.grown f.size);have x:=relayAll_fits t' f (SetTable.grown f.size);have tt:=H.relayAll f (SetTable.grown f.size);generalize relayAll t' f (SetTable.grown f.size)=y at l x tt ⊢;obtain⟨B,t2,g2⟩:=y
  dsimp only at l x tt ⊢
  have z:B.size=f.size:=by rw[←QF,l.length_eq,QF]
  refine WK (hg _ _ _<|WK<|wpAny_storeSet_of p r ?_<|Ji<|by lia);exact WR (n _ (Q.trans<|QN _ a _) ⟨_,_,_,C.store (λe he=>M e (l.mem_iff.mp he)) ((l.map keyOf).trans L) J (by rw[z];exact u) x tt⟩)
 ·exact WR (n _ Q ⟨_,_,_,C⟩)
noncomputable def Ks(f:ZY)(k:Int):ZY:=if k∈f then f else f++[k]
def Znk{R}(S:SetB w s.heap a n)(room:n.length+1<scanBound)(J:∀r g,Heap.SameBut a s.heap g->SetB w g a (Ks n k)->R r {s with heap:=g}) :
  wpAny (model prog w) A (setAddHashed a (.int k u)<|hashInt k) R E s:=by
 obtain⟨l,ep,t,S⟩:=S;obtain⟨o,ho,hx,hd⟩:=S.obj;have el:=Ent.elems (prog:=prog) (w:=w) S.ent;have N:=SetB.len S;refine Vr (WK<|V4 ho hd S.fit ?_)
 dsimp only
 rw[byScan_of rfl S.few el];simp only[↓reduceIte];unfold setAddByScan;refine WK (WK<|wpAny_rule<|WK<|wpAny_setScan_of (intKind_is _ _ _ _) ho hd S.fit el ?_);have H:∀z,z∈n↔∃e∈l.toList,keyOf e=z:=λz=>by rw[←S.per.mem_iff,Qj]
 cases q:List.findIdx? (λe=>(intKind prog w).is k e.2) l.toList with
 |some j=>
  dsimp only
  obtain⟨hj,Y,_⟩:=List.findIdx?_eq_some_iff_getElem.mp q
  have M:k∈n:=by
   rw[GW (S.ent _<|Qd hj)]at Y;exact(H k).mpr ⟨_,Qd hj,(WM Y).symm⟩
  refine WR (WR ?_);have f:=J false s.heap (Heap.SameBut.refl a s.heap);unfold Ks at f;rw[WQ M]at f;exact f ⟨_,_,_,S⟩
 |none=>
  dsimp only
  have M:¬k∈n:=λN=>by
   obtain⟨e,he,Q⟩:=(H k).mp N
   have:=List.findIdx?_eq_none_iff.mp q e he
   rw[GW (S.ent e he),WL Q.symm]at this;cases this
  have P:=layNew_perm t l (hashInt k) (.int k u);have F:=layNew_fits t l (hashInt k) (.int k u);have T:=S.tab.layNew l (hashInt k) (.int k u);change wpAny (model prog w) A (match layNew t l (hashInt k) (.int k u)with|(l,t,wasDummy,gave)=>_) _ _ _
  generalize layNew t l (hashInt k) (.int k u)=y at P F T ⊢;obtain⟨p,t1,d1,g1⟩:=y
  dsimp only at P F T ⊢
  rw[Array.toList_push]at P
  have e1:∀e∈p.toList,Ent e:=λe he=>by
   rcases Qi.mp (P.mem_iff.mp he)with he|he
   ·exact S.ent e he
   ·rw[WN.mp he];exact⟨k,u,rfl⟩
  have e2:(p.toList.map keyOf).Perm (n++[k]):=by
   refine(P.map keyOf).trans ?_;rw[Qb];exact S.per.append_right _
  have e3:(n++[k]).Nodup:=QG.mpr ⟨S.nod,by simp,λx hx y hy=>by rw[WN.mp hy];rintro rfl;exact M hx⟩
  have e4:p.size<scanBound:=by
   rwa[←QF,P.length_eq,WW,QF,N]
  have h:=λg B G=>by
   have f:=J true g B;unfold Ks at f;rw[WO M]at f;exact f G
  have U:∀b {C:Shared} {L:Unit->Shared->Prop},L () C->wpAny (model prog w) A (match b with|true=>rule "set.scan.the-table-gave-way" |false=>pure ()) L E C:=λb C L v=>by cases b<;>first|exact WR v|exact wpAny_rule v
  refine WK (U _ ?_);split
  ·refine WK ?_;rw[hashByValue_scannable 8 rfl];refine WR (IF (λb C L v=>U b v) S e1 e2 e3 e4 ?_ ?_ λg B G=>WR (h g B G))
   ·split
    ·exact F
    ·exact SetTable.fits_plain_off F
   ·split
    ·exact T
    ·exact T.plainOff
  ·refine WK (WR ?_);simp only[↓reduceIte];exact IF (λb C L v=>U b v) S e1 e2 e3 e4 F T λg B G=>WR (h g B G)
def Zjk{I H y P St}{ns:ZY}(W:Walks prog w A.in1 I H y ns.length P St)(S:Addr)(G:S∉H)(M:∀i v,P i v->∃t,v=.int (ns.getD i 0) t)(room:ns.length+1<scanBound):∀k i s n,ns.length-i=k->i<=ns.length->St i s.heap->SetB w s.heap S n->n.length<=i->
   (∀h p,(∀b o,b∉S::y->s.heap.get? b=some o->h.get? b=some o)->SetB w h S ((ns.drop i).foldl Ks n)->R (.ok<|.ret .none) {s with heap:=h,toks:=p})->
   codeAny (model prog w) A (.builtin "set.update.loop" ⟨[.ref S,.ref I],[]⟩) R s:=by
 have u:=λz=>G (W.sub _ z);intro k
 induction k with
 |zero=>
  intro i s n N T st B Q l;have ei:i=ns.length:=by lia
  refine VF VY ?_;show wpAny _ A.in1 (pyNext (.ref I) >>= _) _ _ s;refine WK (W.done s _ _ (ei▸st) λh p keep=>?_);show wpAny _ A.in1 (ret Value.none) _ _ _;refine WR (l h p (λb o g e=>keep b o (λz=>g (Qo _ z)) e) ?_);rw[ei,JS];exact B.at λo e=>keep S o u e
 |succ k L=>
  intro i s n N T st B Q l;have f:i<ns.length:=by lia
  refine VF VY ?_;rw[VO VZ _];show wpAny _ A.in1 (pyNext (.ref I) >>= _) _ _ s;refine WK (W.item i s _ _ f st λv U J pv x keep1=>?_);obtain⟨t,rfl⟩:=M i v pv;have B1:=B.at λo e=>keep1 S o u e;unfold setAdd;refine WK (Vr<|Vr<|WK ((intKind prog w).pyHash (intKind_is _ _ _ _) ?_));refine Znk B1 (by lia) λr h2 C B2=>?_
  have Y:(Ks n<|ns.getD i 0).length<=i+1:=by
   unfold Ks;split
   ·lia
   ·simp;lia
  refine WR ⟨plainId_quiet VZ _,L (i+1) _ _ (by lia) f (W.frame _ U _ x λb g o e=>?_) B2 Y λh p keep B'=>?_⟩
  ·rw[C.2 b (λz=>G (by rw[←z];exact g))];exact e
  ·refine l h p (λb o g e=>keep b o g ?_) ?_
   ·rw[C.2 b (λz=>g (by rw[z];exact Q7))];exact keep1 b o (λz=>g (Qo _ z)) e
   ·have e1:ns.drop i=ns.getD i 0::ns.drop (i+1):=by
     rw[QM f,WU,WJ f];rfl
    rwa[e1]
def Zeo(a:Value){Q}(f:Q (.ref s.heap.objs.size) {s with heap:=s.heap.push {cls:=.type "set",dict:=none,data:=.set #[] 0 (.fresh 0 0 (!P7 w))}}) :
  codeAny (model prog w) A (.call (.builtin "set.__new__") ⟨[.type "set",a],[]⟩) (wants Q E) s:=by
 refine codeAny_of_tree (?_);refine WK (wpAny_of_eq (F.newCall_set_1 a)<|WR ⟨plainId_quiet F.plain_set_new _,VF F.entry_set_new ?_⟩);rw[(VO (A:=A) F.plain_set_new ⟨[.type "set",a],[]⟩)];unfold Builtin.«set.__new__» Builtin.Frozenset.newClass;have g:=sub_set_self
 dsimp only
 wp_walk
 refine wpAny_askSetting (WR<|?_)
 dsimp only
 simp only[newObj];exact WK (wpAny_alloc<|WR<|WR f)
set_option maxHeartbeats 4000000 in
def Zm7{l:Addr}{f:Array Value}{ns:ZY}{Q:Yb}(hh:A.handled=none)(hl:s.heap.IsList l f)(hi:IntsAre f.toList ns)(room:ns.length+1<scanBound)(U:∀(h:Heap) (u:Nat),SetB w h s.heap.objs.size (ns.foldl Ks [])->(∀b o,b<s.heap.objs.size->s.heap.get? b=some o->h.get? b=some o)->Q (.ref s.heap.objs.size) {s with heap:=h,toks:=u}) :
  wpAny (model prog w) A (call (.type "set") [.ref l]) Q E s:=by
 have hn:f.size=ns.length:=by have:=IntsAre.length hi;simpa using this
 obtain⟨mroC,mroT,mro⟩:=F.called_set.mro;have made:=F.called_set.made;have subs:=F.called_set.sub;refine wpAny_call (codeAny_of_tree<|show wpAny _ _ (callAny (.type "set") _) _ _ _ from ?_)
 refine WR ⟨Code.quiet_builtin _ (by decide +kernel),VF F.entry_type_call ?_⟩;have wt:=Around.under_plain (A:=A) (weight_type_call_type "set" [.ref l] []) rfl;rw[wt];have nt:=F.called_set.notType;have cc:=F.called_set.canCreate;have tc:=F.typeCall_set_1 (.ref l)
 repeat (any_goals (first|assumption|wp_step))
 refine VI (Zeo (.ref l) (E:=E) (Q:=λobj s1=>obj=.ref s.heap.objs.size/\s1={s with heap:=s.heap.push {cls:=.type "set",dict:=none,data:=.set #[] 0 (.fresh 0 0 (!P7 w))}}) ⟨rfl,rfl⟩) λr s1 y=>?_
 cases r with
 |error e=>exact y
 |ok fl=>
  cases fl with
  |next=>exact y.elim
  |brk=>exact y.elim
  |cont=>exact y.elim
  |ret obj=>
   obtain⟨rfl,rfl⟩:=y;generalize J:s.heap.push {cls:=.type "set",dict:=none,data:=.set #[] 0 (.fresh 0 0 (!P7 w))}=n;have g1:n.get? s.heap.objs.size=some {cls:=.type "set",dict:=none,data:=.set #[] 0 (.fresh 0 0 (!P7 w))}:=by rw[←J];exact Qa _ rfl
   have hT:Shared.TypeIs {s with heap:=n} (.ref s.heap.objs.size) "set":=⟨_,g1,rfl⟩
   have ini:=F.called_set.init.lookup;have inb:=F.called_set.init.bind (.ref s.heap.objs.size)
   repeat (any_goals (first|assumption|wp_step))
   refine VI (codeAny_call_builtin (R:=wants (λr Y=>r=.none/\∃h u,Y={s with heap:=h,toks:=u}/\SetB w h s.heap.objs.size (ns.foldl Ks [])/\(∀b o,b<s.heap.objs.size->s.heap.get? b=some o->h.get? b=some o)) E)
    F.called_set.init.plain F.entry_set_init (check_set_init_1 hT ?_)) λr2 Y g=>?_
   ·obtain⟨ob,C,H,nl,G⟩:=hl;obtain⟨c1,d1,dt1,L⟩:=ob;simp only at H G;subst H;subst G;have z:n.get? l=some {cls:=.type "list",dict:=d1,data:=.seq f nl,slots:=L}:=by rw[←J];exact WS _ C
    have p:n.objs.size=s.heap.objs.size+1:=by rw[←J,V5]
    have no1:=F.sub_list_set;have no2:=F.sub_list_frozenset;have no3:(Value.type "list" == Value.type "dict")=false:=by decide
    have L1:n.IsList l f:=⟨_,z,rfl,nl,rfl⟩;unfold Builtin.«set.__init__» noKeywords Builtin.Frozenset.updateFrom;generalize eP:pyIter=PI
    wp_walk
    subst eP;refine wpAny_pyIter_list L1 (WK<|wpAny_runValue ?_);have x:l<s.heap.objs.size:=WZ C;have T:A.in1.in1.in1.handled=none:=by simp[hh]
    have N:l≠n.objs.size:=by rw[p];exact Qm (Jj x)
    have M:s.heap.objs.size∉[n.objs.size,l]:=by
     rw[p];simp only[WX,Vy,or_false,not_or];exact⟨Qm (V6 _),J2 x⟩
    have W0:=Walks.list (prog:=prog) (w:=w) T n.objs.size l N f;rw[hn]at W0;refine Zjk (ns:=ns) W0 s.heap.objs.size M (λi v hv=>IntsAre.int_at hi i v (by rw[QX];exact hv)) room (ns.length-0) 0 _ [] rfl (QD _) ⟨⟨_,Qa _ rfl,rfl,rfl⟩,L1.push _⟩ ?_ (QD _) λh u keep B=>?_
    ·exact⟨#[],0,_,⟨_,WS _ g1,⟨rfl,rfl,rfl⟩,rfl⟩,λe he=>by simp at he,by simp,Vx,by show(0:Nat)<4096;decide,rfl,Tb.fresh _⟩
    ·show wpAny _ _ _ _ _ _;refine WR (show wpAny _ _ (ret Value.none) _ _ _ from WR ⟨rfl,h,u,rfl,B,λb o hb e=>?_⟩)
     refine keep b o ?_ (WS _<|by rw[←J];exact WS _ e);rw[p];simp only[WX,Vy,or_false,not_or];exact⟨Qm hb,Qm (Jj hb)⟩
   ·cases r2 with
    |error e=>exact g
    |ok f2=>
     cases f2 with
     |next=>exact g.elim
     |brk=>exact g.elim
     |cont=>exact g.elim
     |ret r=>
      obtain⟨rfl,h,u,rfl,B,keep⟩:=g
      repeat (any_goals (first|assumption|wp_step))
      exact U _ _ B keep
end
def si_slot:Slot "set_iterator" "__next__" "set_iterator.__next__":=
 Slot.of (owner:="set_iterator") (n:="__next__") (by rw[typeLookup_type,builtinLookup_eq_fast];kernel_rfl) (by decide +kernel) (by decide +kernel) (by decide +kernel)
  (by first|exact Or.inl (by decide +kernel)|exact Or.inr (by decide +kernel)) (by rw[isSubtype_type];kernel_rfl)
def Ziu:entryFor table "set_iterator.__next__"=some Builtin.«set_iterator.__next__»:=entryFor_of_tree rfl
def Za3(a:Value):argsOk "set_iterator.__next__" ⟨[a],[]⟩:=by trivial
def Zdu:entryFor table "set.__iter__"=some Builtin.«frozenset.__iter__»:=entryFor_alias (id':="frozenset.__iter__") (by kernel_rfl) rfl (by decide +kernel) (by kernel_rfl)
def MT:Slot "set_iterator" "__iter__" "set_iterator.__iter__":=
 Slot.of (owner:="set_iterator") (n:="__iter__") (by rw[typeLookup_type,builtinLookup_eq_fast];kernel_rfl) (by decide +kernel) (by decide +kernel) (by decide +kernel)
  (by first|exact Or.inl (by decide +kernel)|exact Or.inr (by decide +kernel)) (by rw[isSubtype_type];kernel_rfl)
def Zfn:entryFor table "set_iterator.__iter__"=some Builtin.«dict_keyiterator.__iter__»:=entryFor_alias (id':="dict_keyiterator.__iter__") (by kernel_rfl) rfl (by decide +kernel) (by kernel_rfl)
def Zmx(a:Value):argsOk "set_iterator.__iter__" ⟨[a],[]⟩:=by unfold argsOk;kernel_rfl
def SI(h:Heap)(I a:Addr)(first:Value)(i n f:Nat):Prop:=∃o,h.get? I=some o/\o.cls=.type "set_iterator"/\o.data=.fields #[first,.int i 0,.ref a,.int n 0,.int f 0]
section
variable {prog:Program}{w:World}{A:Around}{E:Yb}{s:Shared}{I a:Addr}{first:Value}{i n ep:Nat}{js:ZY}{es:Yk}{t:SetTable}
def SI.typ (h:SI s.heap I a first i n ep):s.TypeIs (.ref I) "set_iterator":=let ⟨o,f,g,_⟩:=h;⟨o,f,g⟩
def SI.at (x:SI h I a first i n ep) (k:∀o,h.get? I=some o->g.get? I=some o):SI g I a first i n ep:=let ⟨o,f,r⟩:=x;⟨o,k o f,r⟩
noncomputable def Bq(first:Value)(a I:Addr)(i ep:Int):Sem PySem.Fin:=
 match first with
 |Value.int slot _=>do
  match ←setNext a slot.toNat i.toNat ep.toNat with
  |some (x,next)=>
   setField (.ref I) 0 (rawInt next)
   setField (.ref I) 1 (rawInt (i+1))
   ret x
  |none=>
   setField (.ref I) 2 .none
   raiseNew (←newExc (.type "StopIteration") [])
 |_=>do
  let some places ←seqItems? first|unsupported "internal:set_iterator"
  match places[i.toNat]? with
  |some (.int place _)=>
   let x ←setNextDrawn a place.toNat ep.toNat
   setField (.ref I) 1 (rawInt (i+1))
   ret x
  |some _=>unsupported "internal:set_iterator"
  |none=>
   setField (.ref I) 0 (rawInt 0)
   setField (.ref I) 2 .none
   raiseNew (←newExc (.type "StopIteration") [])
def Ah(f:SI s.heap I a first i es.size ep)(S:Ku w s.heap a js es ep t)
  (body:wpAny (model prog w) A.in1 (Bq first a I i ep) (λp l=>∃v,p=.done (.ret v)/\Q (some v) l)
   (λe l=>wpAny (model prog w) A (isInstance e<|.type "StopIteration") (λb g=>b=true/\Q none g) E l) s) :
  wpAny (model prog w) A (pyNext<|.ref I) Q E s:=by
 obtain⟨o,x,G,y⟩:=id f;obtain⟨C,r,hx,u⟩:=S.obj;refine WK (wpAny_attempt<|Jf f.typ si_slot<|Vc si_slot f.typ Ziu ?_<|Za3 _);refine WK (WR<|WK<|wpAny_fieldsOf x y ?_);refine WK (wpAny_setEntries_of r u S.fit ?_);rw[WO (by simp)];refine QI body (λp l h=>?_) λe l h=>?_
 ·obtain⟨v,e,q⟩:=h;exact⟨v,e,WR q⟩
 ·refine WK (QI h (λb g B=>?_) λ_ _ z=>z);obtain⟨rfl,q⟩:=B;exact WR q
def Lw{Q:Yi->Shared->Prop}{o}{vs}(r:A.handled=none)(p:s.heap.get? I=some o)(u:o.data=.fields vs)(v:2<vs.size)(g:∀h,Heap.ExtBut I s.heap h->Q none {s with heap:=h}){R:PySem.Fin->Shared->Prop} :
  wpAny (model prog w) A.in1 (do setField (.ref I) 2 .none;raiseNew (←newExc (.type "StopIteration") [])) R (λe l=>wpAny (model prog w) A (isInstance e<|.type "StopIteration") (λb f=>b=true/\Q none f) E l) s:=by
 refine WK (Ve p u v<|WK ?_);refine WK (QC ?_<|by size_fits);refine WK (wpAny_of_eq (by first|rfl|(simp only[firstArgMember];rfl))<|QC ?_<|by size_fits)
 simp only[raiseNew];refine WK (wpAny_handled ?_);rw[r];refine WK (WR<|wpAny_throw ?_);refine wpAny_isInstance ⟨_,Qa _ rfl,rfl⟩ isSubtype_stop ?_;exact⟨rfl,g _ (((QN ..).extBut.push _).push _)⟩
def SI.step1 {x:Value} (g:s.heap.get? I=some o) (h:o.cls=.type "set_iterator") (f:o.data=.fields #[first,.int i 0,.ref a,.int n 0,.int ep 0]) :
  SI (s.heap.update I<|Obj.mapFields (·.setIfInBounds 1 (rawInt ((i:Int)+1)))) I a first (i+1) n ep:=
 ⟨_,QA _ g (Vf<|QK f _),(Jk ..).trans h,by rw[QK f];simp[rawInt]⟩
def FI(h:Q (P7 w) s):wpAny (model prog w) A setsByText Q E s:=WK (wpAny_askSetting<|WR h)
def Zgj(S:Ku w s.heap a js es ep t)(l:P7 w=true)(h:Q (((pickOrder (w.params.setOrder a ep) es)[i]?).map λe=>(e.2,slot)) s) :
  wpAny (model prog w) A (setNext a slot i ep) Q E s:=by
 obtain⟨o,f,hx,g⟩:=S.obj;refine WK (V4 f g S.fit<|WK<|FI ?_);rw[l,WQ rfl,WO (by simp)];refine WK ?_;refine WK (V4 f g S.fit<|WK<|FI ?_);rw[l,WQ rfl];exact WK (wpAny_askSetting<|WR<|WR h)
def Zkh(S:Ku w s.heap a js es ep t)(l:P7 w=false)(o:(!t.plain&&decide (es.size>1))=false)(h:Q (match es[SetTable.below t.place slot]?,t.place[SetTable.below t.place slot]? with|some (_,x),some j=>some (x,j+1)|_,_=>none) s):wpAny (model prog w) A (setNext a slot i ep) Q E s:=by
 obtain⟨r,f,hx,g⟩:=S.obj;refine WK (V4 f g S.fit<|WK<|FI ?_);rw[l,WO (by decide)];show wpAny _ _ (if (!t.plain&&decide (es.size>1))=true then _ else _) _ _ _;rw[o,WO (by decide)];refine WK (?_:wpAny _ _ (if (!t.led && !es.isEmpty)=true then unsupported "set:maker-not-led" else pure ()) _ _ _);have p:t.led=true:=by rw[S.tab.led,l];rfl
 rw[p,WO (by simp)];exact WR (WR h)
def Zcf{p e}(S:Ku w s.heap a js es ep t)(l:es[p]?=some e)(h:Q e.2 s):wpAny (model prog w) A (setNextDrawn a p ep) Q E s:=by
 obtain⟨o,f,hx,g⟩:=S.obj;refine WK (V4 f g S.fit ?_)
 dsimp only
 rw[WO (by simp),l];exact WR h
def Za8{m}(f:m≠0)(h:∀k d,k<m->Q k {s with drawn:=d}):wpAny (model prog w) A (choose g m) Q E s:=by
 intro Γ p l;exact⟨f,h _ _ (Nat.mod_lt _<|Nat.pos_of_ne_zero f)⟩
theorem EZ{f:Type}:∀(xs:List f) k h,(xs[k]::xs.eraseIdx k).Perm xs
 |x::r,0,_=>List.Perm.refl _
 |x::r,k+1,h=>by
  have g:k<r.length:=by grind
  exact(List.Perm.swap _ _ _).trans (List.Perm.cons _<|EZ r k g)
def Zr5:∀m xs s {Q:List u->Shared->Prop},xs.length=m->(∀ys d,ys.Perm xs->Q ys {s with drawn:=d})->wpAny (model prog w) A (drawOrder m xs) Q E s:=by
 intro m
 induction m with
 |zero=>
  intro xs s Q f h;have e:=Vt.mp f;subst e;exact WR (h [] s.drawn<|List.Perm.refl _)
 |succ m l=>
  intro xs s Q f h;cases xs with
  |nil=>grind
  |cons x r=>
   unfold drawOrder;refine WK (Za8 (by simp) λk d g=>?_);rw[WJ g];refine WK (l _ _ (by grind) λys p o=>WR ?_);exact h _ p ((List.Perm.cons _ o).trans (EZ _ _ g))
def Ku.keep (S:Ku w h a js es ep t) (k:∀o,h.get? a=some o->p.get? a=some o):Ku w p a js es ep t:=by
 obtain⟨⟨o,l,r⟩,b,c,d,e,f,g⟩:=S;exact⟨⟨o,k o l,r⟩,b,c,d,e,f,g⟩
def Oj(f:SI s.heap I a first i n ep)(h:Q (.ref I) s):wpAny (model prog w) A (pyIter<|.ref I) Q E s:=by
 refine Jl f.typ MT (Vc MT f.typ Zfn ?_<|Zmx _);exact WR ⟨_,rfl, "set_iterator",_,f.typ,si_slot.lookup,h⟩
def II(hh:A.handled=none)(I a:Addr)(hne:a≠I)(vs:Ye)(hl:vs.length=es.size)(sl:Nat->Nat)(nx:∀A E s i Q,i<=es.size->Ku w s.heap a js es ep t->Q ((vs[i]?).map λv=>(v,sl (i+1))) s->wpAny (model prog w) A (setNext a (sl i) i ep) Q E s) :
  Walks prog w A I [I,a] [I] es.size (λi v=>vs[i]?=some v) (λi h=>SI h I a (.int (sl i) 0) i es.size ep/\Ku w h a js es ep t) where
 sub:=λb hb=>by simp at hb;simp[hb]
 frame:=λ_ _ _ st k=>⟨st.1.at λo e=>k I (by simp) o e,st.2.keep λo e=>k a (by simp) o e⟩
 item:=λi s Q E hi st fin=>by
  obtain⟨o,ho,hc,hd⟩:=id st.1;refine Ah st.1 st.2 ?_;unfold Bq
  dsimp only
  rw[Q6,Q6,Q6];refine WK (nx _ _ s i _ (VT hi) st.2 ?_);have hi2:i<vs.length:=by lia
  rw[WJ hi2];refine WK (Ve ho hd (by simp) ?_);have g1:=QA (Obj.mapFields (·.setIfInBounds 0 (rawInt (sl (i+1):Int)))) ho (Vf<|QK hd _);have d1:(Obj.mapFields (·.setIfInBounds 0 (rawInt (sl (i+1):Int))) o).data=.fields #[.int (sl (i+1)) 0,.int i 0,.ref a,.int es.size 0,.int ep 0]:=by rw[QK hd];simp[rawInt]
  refine WK (Ve g1 d1 (by simp) ?_);have sb:=(QN s.heap I<|Obj.mapFields (·.setIfInBounds 0 (rawInt (sl (i+1):Int)))).trans (QN _ I<|Obj.mapFields (·.setIfInBounds 1 (rawInt ((i:Int)+1))));refine WR ⟨_,rfl,fin vs[i] _ s.toks (WJ hi2) ⟨?_,st.2.keep λo e=>sb.extBut a o hne e⟩ λb o hb e=>sb.extBut b o (λz=>hb (by simp[z])) e⟩;exact SI.step1 (x:=.none) g1 ((Jk ..).trans hc) d1
 done:=λs Q E st fin=>by
  obtain⟨o,ho,hc,hd⟩:=id st.1;refine Ah st.1 st.2 ?_;unfold Bq
  dsimp only
  rw[Q6,Q6,Q6];refine WK (nx _ _ s es.size _ (WT _) st.2 ?_);rw[Vg (by lia)];exact Lw hh ho hd (by simp) λh' eb=>fin h' s.toks λb o hb e=>eb b o (λz=>hb (by simp[z])) e
 self:=λ_ _ _ _ st fin=>Oj st.1 fin
def Ze4(hh:A.handled=none)(I a T:Addr)(hne:a≠I)(hT:T≠I)(ps:Yd)(hl:ps.length=es.size)(hps:∀p∈ps,p<es.size)(vs:Ye)(hvs:vs=ps.map λp=>((es[p]?).map (·.2)).getD .none) :
  Walks prog w A I [I,a,T] [I] es.size (λi v=>vs[i]?=some v) (λi h=>SI h I a (.ref T) i es.size ep/\Ku w h a js es ep t/\∃o,h.get? T=some o/\∃c,o.data=.seq (ps.map λ(p:Nat)=>rawInt p).toArray c) where
 sub:=λb hb=>by simp at hb;simp[hb]
 frame:=λ_ _ _ st k=>⟨st.1.at λo e=>k I (by simp) o e,st.2.1.keep λo e=>k a (by simp) o e,let ⟨o,ho,c⟩:=st.2.2;⟨o,k T (by simp) o ho,c⟩⟩
 item:=λi s Q E hi st fin=>by
  obtain⟨o,ho,hc,hd⟩:=id st.1;obtain⟨oT,hoT,c,hdT⟩:=st.2.2;refine Ah st.1 st.2.1 ?_;unfold Bq
  dsimp only
  refine WK (wpAny_seqItems hoT hdT ?_);have hi2:i<ps.length:=by lia
  have e1:(ps.map λ(p:Nat)=>rawInt p).toArray[(i:Int).toNat]?=some (.int ps[i] 0):=by
   rw[Q6,List.getElem?_toArray,WY,WJ hi2];rfl
  have hp:=hps _ (Qd hi2)
  dsimp only
  rw[e1]
  dsimp only
  have e3:vs[i]?=some (es[ps[i]]).2:=by rw[hvs,WY,WJ hi2];simp[hp]
  refine WK (Zcf st.2.1 (QW hp)<|WK<|Ve ho hd (by simp) ?_);have sb:=QN s.heap I (Obj.mapFields (·.setIfInBounds 1 (rawInt ((i:Int)+1))));exact WR ⟨_,rfl,fin _ _ s.toks e3 ⟨SI.step1 (x:=.none) ho hc hd,st.2.1.keep λo e=>sb.extBut a o hne e,oT,sb.extBut T oT hT hoT,c,hdT⟩ λb o hb e=>sb.extBut b o (λz=>hb (by simp[z])) e⟩
 done:=λs Q E st fin=>by
  obtain⟨o,ho,hc,hd⟩:=id st.1;obtain⟨oT,hoT,c,hdT⟩:=st.2.2;refine Ah st.1 st.2.1 ?_;unfold Bq
  dsimp only
  refine WK (wpAny_seqItems hoT hdT ?_)
  have e1:(ps.map λ(p:Nat)=>rawInt p).toArray[(es.size:Int).toNat]?=none:=by
   rw[Q6,List.getElem?_toArray,WY,Vg (by lia)];rfl
  dsimp only
  rw[e1]
  dsimp only
  refine WK (Ve ho hd (by simp) ?_);refine Lw (s:={s with heap:=_}) hh (QA (Obj.mapFields (·.setIfInBounds 0 (rawInt 0))) ho<|Vf<|QK hd _) (QK hd _) (by simp) λh' eb=>fin h' s.toks λb o hb e=>eb b o (λz=>hb (by simp[z])) ((QN s.heap I<|Obj.mapFields (·.setIfInBounds 0 (rawInt 0))).extBut b o (λz=>hb (by simp[z])) e)
 self:=λ_ _ _ _ st fin=>Oj st.1 fin
def Zsj(nx:Nat->Nat):∀m k left (f:Array o),left.length=m->(pickOrder.go nx m k left f).toList.Perm (f.toList++left):=by
 intro m
 induction m with
 |zero=>
  intro k left f h;have e:=Vt.mp h;subst e;show f.toList.Perm (f.toList++[]);simp
 |succ m l=>
  intro k left f h;have g:nx k % left.length<left.length:=Nat.mod_lt _ (by lia);unfold pickOrder.go;rw[WJ g];refine(l _ _ _<|by grind).trans ?_;rw[Array.toList_push,Jm];exact(EZ left _ g).append_left _
def Hg(nx:Nat->Nat)(xs:Array f):(pickOrder nx xs).toList.Perm xs.toList:=by
 have:=Zsj nx xs.size 0 xs.toList #[] rfl
 simpa [pickOrder]using this
noncomputable def slotAt(t:SetTable)(i:Nat):Nat:=if i=0 then 0 else t.place.getD (i-1) 0+1
def Ii(h:t.fits m=true):t.place.size=m:=by
 simp only[SetTable.fits,Qr,beq_iff_eq]at h
 grind
def Zgd(S:Ku w s.heap a js es ep t){i}(o:i<=es.size):SetTable.below t.place (slotAt t i)=i:=by
 have h:=Ii S.fit;have R:=S.tab.ris.ris;refine Zon R (by lia) (λk l=>?_) λk p f=>?_
 ·unfold slotAt;rw[WO (by lia)];by_cases e:k=i-1
  ·rw[e];lia
  ·have:=R k (i-1) (by lia) (by lia)
   lia
 ·unfold slotAt;by_cases g:i=0
  ·grind
  ·rw[WO g]
   have:=R (i-1) k (by lia) f
   lia
def Zf3{A'}(M:A'.handled=none)(S:Ku w s.heap a js es ep t)
  (l:∀I fp (vs:Ye) St N d1,Walks prog w A' I fp [I] es.size (λi v=>vs[i]?=some v) St->St 0 N->(∀b∈fp,b=a\/s.heap.get? b=none)->vs.length=es.size->vs.Perm (es.toList.map (·.2))->
   s.heap.get? I=none->(∀b o,s.heap.get? b=some o->N.get? b=some o)->Q (.ref I) {s with heap:=N,drawn:=d1}) :
  wpAny (model prog w) A (pyIter<|.ref a) Q E s:=by
 obtain⟨ob,g,hx,h⟩:=S.obj;have hT:s.TypeIs (.ref a) "set":=⟨ob,g,hx.1⟩;have ha:=WZ g
 have new:∀b,s.heap.objs.size<=b->s.heap.get? b=none:=λb f=>by
  cases e:s.heap.get? b with
  |none=>rfl
  |some o=>exact absurd (WZ e) (JR.mpr f)
 refine Jl hT F.slot_set_iter (Vc F.slot_set_iter hT Zdu ?_<|F.args_set_iter_1 _);unfold Builtin.«frozenset.__iter__»;show wpAny _ _ (Builtin.Frozenset.sizeOf a >>= _) _ _ s;unfold Builtin.Frozenset.sizeOf;refine WK (WK<|wpAny_setEntries_of g h S.fit<|WR ?_);refine WK ?_;unfold setDrawn;refine WK (V4 g h S.fit<|WK<|FI<|WR ?_)
 dsimp only
 change wpAny _ _ (if (!P7 w&&(!t.plain&&decide (es.size>1)))=true then _ else _) _ _ _;cases hd:(!P7 w&&(!t.plain&&decide (es.size>1)))with
 |false=>
  rw[WO (by decide)];refine WK (WR<|WK<|wpAny_setEpoch_of g h S.fit<|WK<|QC<|WR ⟨_,rfl, "set_iterator",_,⟨_,Qa _ rfl,rfl⟩,si_slot.lookup,?_⟩);have B:=Qm ha;have S1:Ku w (s.heap.push {cls:=.type "set_iterator",data:=.fields [rawInt 0,rawInt 0,.ref a,rawInt es.size,rawInt ep].toArray}) a js es ep t:=S.keep λo e=>WS _ e
  have lt:∀b∈[s.heap.objs.size,a],b=a\/s.heap.get? b=none:=λb f=>by
   rcases WX.mp f with rfl|f
   ·exact .inr (new _<|WT _)
   ·exact .inl (WN.mp f)
  cases f:P7 w with
  |true=>
   have u:((pickOrder (w.params.setOrder a ep) es).toList.map (·.2)).length=es.size:=by
    rw[WI,(Hg _ _).length_eq];simp
   refine l _ _ _ _ _ s.drawn (II M s.heap.objs.size a B ((pickOrder (w.params.setOrder a ep) es).toList.map (·.2)) u (λ_=>0) λA E s i Q hi G q=>Zgj G f ?_) ⟨⟨_,Qa _ rfl,rfl,rfl⟩,S1⟩ lt u ((Hg _ _).map _) (new _<|WT _) λb o e=>WS _ e;rw[WY]at q;rw[←QX];cases e:(pickOrder (w.params.setOrder a ep) es).toList[i]? with
   |none=>rw[e]at q;exact q
   |some x=>rw[e]at q;exact q
  |false=>
   have y:(!t.plain&&decide (es.size>1))=false:=by rw[f]at hd;simpa using hd
   refine l _ _ _ _ _ s.drawn (II M s.heap.objs.size a B (es.toList.map (·.2)) (by simp) (slotAt t) λA E s i Q hi G q=>Zkh G f y ?_) ⟨⟨_,Qa _ rfl,rfl,rfl⟩,S1⟩ lt (by simp) (List.Perm.refl _) (new _<|WT _) λb o e=>WS _ e;rw[Zgd G hi];have hz:=Ii G.fit;rw[WY]at q;by_cases L:i<es.size
   ·have C:=QW L;have e2:t.place[i]?=some t.place[i]:=QW (by lia);have U:es.toList[i]?=some es[i]:=by rw[QX];exact C
    rw[U]at q;rw[C,e2]
    have e4:slotAt t (i+1)=t.place[i]+1:=by
     unfold slotAt;rw[WO (by lia)]
     have:i<t.place.size:=by lia
     simp[Array.getD,this]
    have Y:=q;rw[e4]at Y;exact Y
   ·have C:es[i]?=none:=Js (by lia);have U:es.toList[i]?=none:=by rw[QX];exact C
    rw[U]at q;rwa[C]
 |true=>
  rw[WQ rfl];refine WK (Zr5 _ _ s (by simp) λr d y=>?_);have u:r.length=es.size:=by rw[y.length_eq];simp
  have J:∀p∈r,p<es.size:=λp hm=>JF.mp (y.mem_iff.mp hm);refine WK (QC ?_<|by show(r.map λ(i:Nat)=>rawInt i).toArray.size<=sizeLine;rw[Qz,WI,u];exact Ji S.few);have z:=WS {cls:=.type "tuple",data:=.seq (r.map λ(i:Nat)=>rawInt i).toArray} g;refine WK (wpAny_setEpoch_of z h S.fit<|WK<|QC<|WR ⟨_,rfl, "set_iterator",_,⟨_,Qa _ rfl,rfl⟩,si_slot.lookup,?_⟩);have H:(s.heap.push {cls:=.type "tuple",data:=.seq (r.map λ(i:Nat)=>rawInt i).toArray}).objs.size=s.heap.objs.size+1:=V5 ..
  have T:(List.range es.size).map (λp=>((es[p]?).map (·.2)).getD Value.none)=es.toList.map (·.2):=by
   apply Jn;intro k;by_cases hk:k<es.size
   ·simp[hk]
   ·have:es.size<=k:=by lia
    simp[this]
  refine l _ _ _ _ _ d (Ze4 M _ a s.heap.objs.size ?_ ?_ r u J _ rfl) ⟨⟨_,Qa _ rfl,rfl,rfl⟩,S.keep λo e=>WS _ (WS _ e),_,WS _ (Qa _ rfl),0,rfl⟩ (λb f=>?_) (by rw[WI];exact u) ?_ (new _ ?_) λb o e=>WS _ (WS _ e)
  ·show a≠_;rw[H];exact Qm (Jj ha)
  ·show s.heap.objs.size≠_;rw[H];exact Qm (V6 _)
  ·rcases WX.mp f with rfl|f
   ·refine .inr (new _ ?_);show s.heap.objs.size<=_;rw[H];exact VG _
   ·rcases WX.mp f with rfl|f
    ·exact .inl rfl
    ·rw[WN.mp f];exact .inr (new _<|WT _)
  ·rw[←T];exact y.map _
  ·show s.heap.objs.size<=_;rw[H];exact VG _
def Zg1(g:s.TypeIs (.ref a) "set")(h:Q false s):wpAny (model prog w) A (Builtin.List.listLengthHint<|.ref a) Q E s:=by
 refine WK (wpAny_specialOf g F.slot_set_len.lookup ?_);generalize f:("set.__len__" : String)=z
 wp_delta
 have l:splitId z=some ("set","__len__"):=by subst f;decide +kernel
 rw[l];subst f;refine WK (wpAny_isInstance (b:=true) g (by rw[isSubtype_type];kernel_rfl) (wpAny_ite_split (λz=>absurd z (by decide)) λ_=>?_));exact wpAny_ite_split (λ_=>WK (wpAny_typeOf g<|WR h)) λz=>absurd (by decide +kernel) z
def Zj4(hh:A.handled=none)(S:Ku w s.heap a js es ep t)(D:Addr)(c:Nat)(g:Value)(hD:s.heap.get? D=some {cls:=.type "list",data:=.seq #[] c})(G:D≠a)(fin:∀h' M d (vs:Ye) y,vs.Perm (es.toList.map (·.2))->h'.get? D=some {cls:=.type "list",dict:=none,data:=.seq vs.toArray y,slots:=#[]}->(∀b o,b≠D->s.heap.get? b=some o->h'.get? b=some o)->R (.ok<|.ret g) {s with heap:=h',toks:=M,drawn:=d}) :
  wpAny (model prog w) A.in1 (Builtin.List.listExtendWith (.ref D) (.ref a) g) (λf v=>match f with | .done f=>R (.ok f) v | .again y=>y.quiet=true/\codeAny (model prog w) A y R v) (λe v=>R (.error e) v) s:=by
 obtain⟨ob,C,hx,hdd⟩:=S.obj;have hT:s.TypeIs (.ref a) "set":=⟨ob,C,hx.1⟩;unfold Builtin.List.listExtendWith;refine WK (wpAny_typeOf hT ?_);have n1:Builtin.List.listSameRef (.ref D) (.ref a)=false:=by simp[Builtin.List.listSameRef,G]
 have n2:(Value.type "set" == Value.type "list")=false:=by decide
 have n3:(Value.type "set" == Value.type "tuple")=false:=by decide
 simp only[n1,n2,n3,Bool.or_false,Ja,Jv];refine WK (Zf3 (A':=A.in1) hh S λI fp vs St h1 d1 W Q flt hl hp Y keep=>?_);have hDI:D≠I:=λz=>by rw[←z,hD]at Y;cases Y
 have loop:∀h M c1,St 0 h->(∀b o,b≠D->s.heap.get? b=some o->h.get? b=some o)->h.get? D=some {cls:=.type "list",data:=.seq #[] c1}->D∉fp->
   codeAny (model prog w) A (.builtin "list.extend.loop" ⟨[.ref D,.ref I,g],[]⟩) R {s with heap:=h,toks:=M,drawn:=d1}:=λh M c1 st hk r p=>by
  refine codeAny_extend_loopS W.toS (Ji S.few) D p g es.size 0 _ #[] c1 rfl (QD _) st r (ItemsOf.nil _) λv x y N L u=>?_
  have ev:x.toList=vs:=by
   apply Jn;intro k;by_cases T:k<x.size
   ·have e1:=QW T;rw[QX,e1];exact(u.2 k _ e1).symm
   ·rw[QX,Js (by lia),Vg (by have:=u.1;lia)]
  have e2:x=vs.toArray:=by rw[←ev]
  rw[e2]at L;rw[Moved.eq_with N];refine fin v.heap v.toks d1 vs y hp L λb o l e=>N.heap b o (λH=>?_) (hk b o l e);rcases WX.mp H with z|z
  ·exact l z
  ·rw[WN.mp z,Y]at e;cases e
 have p:D∉fp:=λN=>by
  rcases flt D N with z|z
  ·exact G z
  ·rw[hD]at z;cases z
 have U:Shared.TypeIs {s with heap:=h1,drawn:=d1} (.ref a) "set":=⟨ob,keep _ _ C,hx.1⟩
 refine WK (Vr<|Zg1 U ?_);have r:=keep _ _ hD;refine WK (wpAny_rule<|WK (?_:wpAny _ _ (updateSeq D (·.push .none) >>= λ_=>updateSeq D (·.pop)) _ _ _));refine WK (wpAny_updateSeq r rfl ?_);have J:=QA (Obj.mapSeq (·.push Value.none)) r rfl;refine wpAny_updateSeq J rfl ?_
 have B:∀b o,b≠D->h1.get? b=some o->((h1.update D<|Obj.mapSeq (·.push Value.none)).update D (Obj.mapSeq (·.pop))).get? b=some o:=λb o l e=>
  (QE _ _<|Ne.symm l).trans ((QE _ _<|Ne.symm l).trans e)
 exact WR ⟨plainId_quiet F.plain_extend_loop _,loop _ _ _ (W.frame 0 _ _ Q λb l o e=>B b o (λz=>p (z▸l)) e) (λb o l e=>B b o l (keep b o e)) (QA (Obj.mapSeq (·.pop)) J rfl) p⟩
def Zhz(G:A.handled=none)(S:Ku w s.heap a js es ep t)(u:∀g h d vs,vs.Perm (es.toList.map (·.2))->(∀b o,s.heap.get? b=some o->g.get? b=some o)->s.heap.objs.size<g.objs.size->R vs {s with heap:=g,toks:=h,drawn:=d}) :
  wpAny (model prog w) A (collect<|.ref a) R E s:=by
 obtain⟨Q,C,hx,H⟩:=S.obj;refine WK (wpAny_runValue<|VF entry_proto_collect' ?_);have M:=VO (A:=A) PySem.F.plain_proto_collect ⟨[.ref a],[]⟩;refine(WK<|QC<|WR ⟨plainId_quiet PySem.F.plain_list_iadd _,VF entry_list_iadd' ?_⟩);rw[(VO (A:=A) PySem.F.plain_list_iadd ⟨[.ref s.heap.objs.size,.ref a],[]⟩)];have J:(s.heap.push {cls:=.type "list",data:=.seq ([]:Ye).toArray}).get? s.heap.objs.size=some {cls:=.type "list",data:=.seq #[]}:=Qa _ rfl
 have B:=Zj4 (prog:=prog) (s:={s with heap:=s.heap.push {cls:=.type "list",data:=.seq ([]:Ye).toArray}})
  (R:=λq z=>∃g h d vs v,q=.ok (.ret<|.ref s.heap.objs.size)/\z={s with heap:=g,toks:=h,drawn:=d}/\vs.Perm (es.toList.map (·.2))/\(∀b o,s.heap.get? b=some o->g.get? b=some o)/\
   g.get? s.heap.objs.size=some {cls:=.type "list",dict:=none,data:=.seq vs.toArray v,slots:=#[]}) G (S.keep λo e=>WS _ e) s.heap.objs.size 0 (.ref s.heap.objs.size) J (J2<|WZ C)
  λg h d vs v p l r=>⟨g,h,d,vs,v,rfl,rfl,p,λb o e=>r b o (Qm<|WZ e) (WS _ e),l⟩
 refine QI B (λf z x=>?_) λe z x=>?_
 ·cases f with
  |done f=>
   obtain⟨g,h,d,vs,v,e,rfl,p,r,l⟩:=x;cases e
   refine(WK<|wpAny_load l<|WR ?_);exact u g h d vs p r (WZ l)
  |again T=>
   refine⟨x.1,VI x.2 λq N y=>?_⟩;obtain⟨g,h,d,vs,v,rfl,rfl,p,r,l⟩:=y;refine(WK<|wpAny_load l<|WR ?_);exact u g h d vs p r (WZ l)
 ·obtain⟨_,_,_,_,_,L,_⟩:=x;cases L
theorem RU:∀{l:List (Int×Value)},(∀e∈l,Ent e)->IntsAre (l.map (·.2)) (l.map keyOf)
 |[],_=>.nil
 |e::r,h=>by
  obtain⟨k,t,rfl⟩:=h e Q7;exact .cons k t (RU λx hx=>h x (Qo _ hx))
def Ze3{vs us}(p:vs.Perm us):∀{ns:ZY},IntsAre us ns->∃f,IntsAre vs f/\f.Perm ns:=by
 induction p with
 |cons x _ v=>
  intro ns h;cases h with
  |cons n t r=>
   obtain⟨f,B,z⟩:=v r;exact⟨n::f,.cons n t B,List.Perm.cons _ z⟩
 |swap x y l=>
  intro ns h;cases h with
  |cons n t r=>
   cases r with
   |cons g o u=>exact⟨g::n::_,.cons g o (.cons n t u),List.Perm.swap _ _ _⟩
 |_=>grind
def Zm1(L:A.handled=none)(B:SetB w s.heap a js)(x:js.length<64)
  (C:∀l y u d f ns e,IntsAre f ns->ns.Perm js->ns.Pairwise (·<=·)->s.heap.get? l=none->s.heap.objs.size<=l->y.get? l=some {cls:=.type "list",data:=.seq f.toArray e}->
   (∀b o,s.heap.get? b=some o->y.get? b=some o)->Q (.ref l) {s with heap:=y,toks:=u,drawn:=d}) :
  wpAny (model prog w) A (call (.builtin "sorted") [.ref a]) Q E s:=by
 obtain⟨es,ep,t,S⟩:=B;refine Calls.call_function_entry kind_sorted plain_sorted entry_sorted (args_sorted1 _) ?_;refine WK (WR<|WK (Zhz L S λp u d r H keep big=>?_));obtain⟨N,G,v⟩:=Ze3 H (RU S.ent);have g:=v.trans S.per;have J:r.length<64:=by rw[IntsAre.length G,g.length_eq];exact x
 refine WK (wpAny_newList ?_<|by have:(64:Nat)<=sizeLine:=(by decide);lia);have z:(p.push<|seqObj "list" r.toArray 0).get? p.objs.size=some (seqObj "list" r.toArray 0):=Qa _ rfl;refine WK (Vr<|Vc slot_list_sort ⟨_,z,rfl⟩ entry_list_sort (list_sort_tree z G J λf ns a1 a2 a3=>⟨_,rfl,?_⟩)<|args_list_sort _);obtain⟨e,M⟩:=sortedHeap_at z;refine WR ⟨_,rfl,C p.objs.size _ u d f.toList ns e a1 (a2.trans g) a3 ?_ (VT big) (by simpa [seqObj]using M) λb o q=>?_⟩
 ·cases q:s.heap.get? p.objs.size with
  |none=>rfl
  |some o=>exact absurd (WZ<|keep _ _ q) (QY _)
 ·have h:=WZ (keep b o q);rw[sortedHeap_old (Qm h) (by rw[size_push'];exact Jj h)];exact WS _ (keep b o q)
end
end SetR
namespace Own
open PySem PySem.Spec PyProof.Rows L2
noncomputable def NC(w:World)(l:Addr)(f:ZY):HO:=.ext λh=>SetR.SetB w h l f
section
variable {X:Cx}
def Zsb{w H h l f}(B:SetR.SetB w h l f):ObjOk P w H h l (NC w l f):=by
 refine⟨B,?_,λr p g k=>g.at k⟩;obtain⟨s,u,t,S⟩:=B;obtain⟨o,n,_⟩:=S.obj
 grind
def Zj6(y:X.calm=true):Kr X (.type "set") (λxs H Q=>∃(p:Addr) (ns:ZY),xs=[.ref p]/\SqL X.K H p (ns.map V.int)/\ns.length+1<4096/\∀l,H l=none->Q (.ref l) (upd H l<|NC X.w l<|ns.foldl SetR.Ks [])):=by
 intro pins s A H xs C Q I f h;obtain⟨p,ns,rfl,z,x,q⟩:=h;obtain⟨u,rfl,g⟩:=f.one;obtain rfl:=g;obtain⟨v,r,n,_⟩:=I.list z;refine SetR.Zm7 (I.ok.hd y) n.isList (by simpa using BQ r) x λG E B keep=>?_;exact⟨.ref s.heap.objs.size,upd H s.heap.objs.size (NC X.w s.heap.objs.size _),I.laid (λb o e=>keep b o (WZ e) e) (WT _) (Zsb B),rfl,q _ (I.hok.fresh<|WT _)⟩
def GS(N:X.calm=true):Kr X (.builtin "sorted") (λxs H Q=>∃p g,xs=[.ref p]/\g.length<64/\(SqL X.K H p (g.map V.int)\/H p=some (NC X.w p g))/\
  ∀l (ns:ZY),H l=none->ns.Perm g->ns.Pairwise (·<=·)->Q (.ref l) (upd H l<|.lst<|ns.map V.int)):=by
 intro pins s U H xs Y Q I G h;obtain⟨p,g,rfl,A,v,q⟩:=h;obtain⟨u,rfl,J⟩:=G.one;obtain rfl:=J
 have big:∀{ns:ZY},ns.Perm g->(ns.map V.int).length<=sizeLine:=λM=>by
  rw[WI,M.length_eq]
  have:(64:Nat)<=sizeLine:=by decide
  lia
 rcases v with v|v
 ·obtain⟨n,r,L,_⟩:=I.list v;have E:IntsAre n g:=by simpa using BQ r
  refine sorted_ints L.isList E (by rw[IntsAre.length E];exact A) λf ns a1 a2 a3=>?_;obtain⟨e,C⟩:=sortedAll_at s.heap n f;have x:=I.hok.fresh (VG _);refine⟨.ref (s.heap.objs.size+1),upd H (s.heap.objs.size+1) (.lst<|ns.map V.int),I.laid (λb o e=>sortedAll_old e) (VG _) ⟨big a2,f.toList,e,FB a1,?_⟩,rfl,q _ ns x a2 a3⟩;omega
 ·have B:=(I.hok p _ v).1;refine SetR.Zm1 (I.ok.hd N) B A λl T tk d f ns e a1 a2 a3 nl y C keep=>?_;have x:=I.hok.fresh y;refine⟨.ref l,upd H l (.lst<|ns.map V.int),?_,rfl,q l ns x a2 a3⟩;have ok:HOk X.prog X.w (upd H l<|.lst<|ns.map V.int) T:=I.hok.laid keep y ⟨big a2,f,e,FB a1,C⟩;exact I.call (ch:=[]) (Un.laid keep y x) ok I.bare (λb z=>absurd z (by simp))
end
section
variable {X:Cx}{K:ZW}
def Ia(f:autoParam (X.K=K) au_0):IxR X (λx y H Q=>PY K x y H Q\/Tf K x y H Q):=by subst f;exact Zhl
def Zry(f:autoParam (X.K=K) au_0):Kr X (.builtin "len") (λxs H Q=>∃x n,xs=[x]/\F5 K x H n/\Q (.int n) H):=by subst f;exact Zrh
def Zrf(f:autoParam (X.K=K) au_0):OpR X (compareOp .In) (rIn K false):=by subst f;exact Zp0
def Zop(f:autoParam (X.K=K) au_0):OpR X (compareOp .NotIn) (rIn K true):=by subst f;exact Zp1
def F0{pos es k t n}(l:X.calm=true)(h:PGs X es t)(o:autoParam (X.K=K) au_0)(g:autoParam ((assignEach es X.env).length=n) au_0)(f:autoParam ((assignEach es X.env).findIdx? (·.1)=none) au_0):PG X (.Tuple es k pos) (Cd K n t):=by subst o;exact Zmo l h g f
end
section
variable {α:Type}{R:Hp->V->α->Prop}{φ:Yc}{g:TG}{tc:TT}{te:TE}{σ:L2.St}{H1:Hp}{F:Hp->Prop}{D:Addr}
def Zps{K a xs}{ds:List α}(f:α->Option V)(v:SqL K H1 a xs)(E:xs.length=ds.length)(G:H1 D=none)(J:ds.length<=sizeLine)(turn:∀(i:Nat) x d l,xs[i]?=some x->ds[i]?=some d->Same H1 l->∀k:Option V->Hp->Prop,k (f d) l->g x (atStart φ σ) l λh w=>Sub (atStart φ σ) h/\tc h w λb r=>if b=true then te h r λy u=>k (some y) u else k none r)(done:F (upd H1 D<|.lst<|ds.filterMap f)) :
  ∃W:Nat->Nat->List V->Hp->Prop,(∃m,W 0 m [] (upd H1 D<|.lst []))/\
   ∀i m ys l,W i m ys l->((Itl K a).stop i l/\F l)\/((Itl K a).go i l/\∀x z,(Itl K a).yld i l x z->g x (atStart φ σ) z λh w=>Sub (atStart φ σ) h/\tc h w λb r=>
    if b=true then te h r λy u=>u D=some (.lst ys)/\ys.length<sizeLine/\∃n,n<m/\W (i+1) n (ys++[y]) (upd u D<|.lst (ys++[y]))else ∃n,n<m/\W (i+1) n ys r):=by
 refine⟨λi m ys l=>m=ds.length-i/\i<=ds.length/\ys=(ds.take i).filterMap f/\l=upd H1 D (.lst ys),⟨ds.length,by simp,QD _,by simp,rfl⟩,?_⟩;rintro i m ys l ⟨rfl,L,rfl,rfl⟩;have s:Same H1 (upd H1 D<|.lst ((ds.take i).filterMap f)):=XX G;by_cases p:i<ds.length
 ·refine .inr ⟨⟨xs,xs[i]'(by lia),s.seq v,by simp[E,p]⟩,λx z y=>?_⟩;obtain⟨e,y⟩:=y;subst e
  refine turn i x ds[i] _ (y xs<|s.seq v) (WJ p) s (λo A=>match o with
   |some y=>A D=some (.lst ((ds.take i).filterMap f))/\((ds.take i).filterMap f).length<sizeLine/\∃n,n<ds.length-i/\(n=ds.length-(i+1)/\i+1<=ds.length/\(ds.take i).filterMap f++[y]=(ds.take (i+1)).filterMap f/\upd A D (.lst ((ds.take i).filterMap f++[y]))=upd H1 D (.lst ((ds.take i).filterMap f++[y])))
   |none=>∃n,n<ds.length-i/\(n=ds.length-(i+1)/\i+1<=ds.length/\(ds.take i).filterMap f=(ds.take (i+1)).filterMap f/\A=upd H1 D (.lst ((ds.take i).filterMap f)))) ?_
  have B:=Qp p;cases C:f ds[i]with
  |some y=>
   refine⟨X9,?_,ds.length-(i+1),by lia,rfl,p,?_,Zcj⟩
   ·have H:=List.length_filterMap_le f (ds.take i);rw[Q5]at H;lia
   ·rw[B,VJ];simp[C]
  |none=>
   refine⟨ds.length-(i+1),by lia,rfl,p,?_,rfl⟩;rw[B,VJ];simp[C]
 ·have e:i=ds.length:=by lia
  subst e;refine .inl ⟨⟨xs,s.seq v,by lia⟩,?_⟩;rwa[QL]
end
noncomputable def eqL(xs ys:List V):Bool:=decide (xs.length=ys.length)&&(List.range xs.length).all λj=>eqV (xs.getD j .non) (ys.getD j .non)
noncomputable def Nj(K:ZW)(neg:Bool):R2:=λx y H Q=>∃(p q:Addr) (xs f:List V),x=.ref p/\y=.ref q/\SqL K H p xs/\SqL K H q f/\xs.all Pj=true/\f.all Pj=true/\Q (.bl (if neg then !eqL xs f else eqL xs f)) H
section
variable {X:Cx}
def AV{xs ys us f}(l:Vals xs us)(h:Vals ys f)(f1:xs.all Pj=true)(x:ys.all Pj=true)(j:Nat)(v:j<us.toArray.size)(r:j<f.toArray.size) :
  SeqAt.EqAt A s us.toArray[j] f.toArray[j] (eqV (xs.getD j .non)<|ys.getD j .non):=by
 have G:=l.length;have E:=h.length;have J:j<us.length:=by simpa using v
 have H:j<f.length:=by simpa using r
 have o:xs[j]?=some (xs[j]'(by lia)):=WJ _;have n:ys[j]?=some (ys[j]'(by lia)):=WJ _;obtain⟨u,M,p⟩:=l.get o;obtain⟨w,L,g⟩:=h.get n;have z:us.toArray[j]=u:=by grind
 have y:f.toArray[j]=w:=by grind
 have C:xs.getD j .non=xs[j]'(by lia):=by rw[WU,o];rfl
 have B:ys.getD j .non=ys[j]'(by lia):=by rw[WU,n];rfl
 rw[z,y,C,B];exact Oc p g (V7.mp f1 _<|Qd _) (V7.mp x _<|Qd _)
def Zkl(r:X.A.units<cLine):OpR X (compareOp .Eq) (Nj X.K false):=by
 intro pins s J H x y v u Q I z w h;obtain⟨p,q,xs,f,rfl,rfl,B,hq,f1,G,k⟩:=h;obtain rfl:=z;obtain rfl:=w;obtain⟨M,l,n,_⟩:=I.list B;obtain⟨L,g,p2,_⟩:=I.list hq;have T:=l.length;have N:=g.length;have o:=k;by_cases e:xs.length=f.length
 ·refine SeqAt.eq_listAt n.isList p2.isList (by simp;lia) r (λj E C=>AV l g f1 G j E C) ⟨.bl (eqL xs f),H,I,?_,o⟩;show _=Value.bool (eqL xs f);unfold eqL
  grind
 ·refine SeqAt.eq_list_lengthsAt n.isList p2.isList (by simp;lia) r ⟨.bl (eqL xs f),H,I,?_,o⟩;unfold eqL;rw[Q3 e];rfl
def Zjc(r:X.A.units<cLine):OpR X (compareOp .NotEq) (Nj X.K true):=by
 intro pins s J H x y v u Q I z w h;obtain⟨p,q,xs,f,rfl,rfl,B,hq,f1,G,k⟩:=h;obtain rfl:=z;obtain rfl:=w;obtain⟨M,l,n,_⟩:=I.list B;obtain⟨L,g,p2,_⟩:=I.list hq;have T:=l.length;have N:=g.length;have o:=k;by_cases e:xs.length=f.length
 ·refine SeqAt.RcNeAt.lists n.isList p2.isList (by simp;lia) r (λj E C=>AV l g f1 G j E C) _ _ _ _ ⟨.bl (!eqL xs f),H,I,?_,o⟩;show _=Value.bool (!eqL xs f);unfold eqL
  grind
 ·refine SeqAt.RcNeAt.lists_lengths n.isList p2.isList (by simp;lia) r _ _ _ _ ⟨.bl (!eqL xs f),H,I,?_,o⟩;unfold eqL;rw[Q3 e];rfl
def OO{xs:ZY}{us}(r:Vals (xs.map V.int) us)(z:Int):∀j g (f:j<xs.length),Value.isInt z us[j]=(xs[j]==z):=by
 intro j g f;obtain⟨u,h,t,rfl⟩:=r.get (by rw[WY,WJ f];rfl);rw[WJ g]at h;rw[Qc h];rfl
def Zlx{xs:ZY}{us}(r:Vals (xs.map V.int) us)(z:Int)(t:Tok):∀y,y∈us.toArray->MeetsSeq.EqGives y (.int z t) (Value.isInt z y):=by
 intro y h;obtain⟨j,l,rfl⟩:=Q9.mp (by simpa using h:y∈us);have g:=r.length;rw[WI]at g;obtain⟨u,f,n,rfl⟩:=r.get (by rw[WY,WJ (show j<xs.length by lia)];rfl);rw[WJ l]at f;rw[Qc f];exact MeetsSeq.EqGives.int _ _ _ _
def Cv(K:ZW):V->List V->Hp->VK->Prop:=λx f H Q=>∃(l:Addr) (xs:ZY) (z:Int),x=.ref l/\f=[.int z]/\SqL K H l (xs.map V.int)/\z∈xs/\Q (.int (xs.idxOf z:Nat)) H
def Zdg:MtM X "list.index" (Cv X.K):=by
 intro pins s σ H x vs v us Q I M N h;obtain⟨l,xs,z,rfl,rfl,hS,U,q⟩:=h;cases M
 obtain⟨u,rfl,t,rfl⟩:=N.one;obtain⟨f,r,T,g⟩:=I.list hS;obtain⟨o,n,G,L,p,J⟩:=T;obtain⟨c1,d1,dt1,w⟩:=o;simp only at L p J;subst L p J;have E:=r.length;rw[WI]at E;have C:=Jb.mpr U;have hb:xs.length<=2 ^ 24:=by rw[WI]at g;exact g
 refine J4 Vu ⟨_,G,rfl⟩ PySem.F.entry_list_index (PySem.F.args_list_index_2 _ _)
  (SeqAt.list_indexAt l f.toArray n none w (.int z t) (Value.isInt z) (xs.idxOf z) (by simpa [←E]using C) (by lia) ?_ ?_) ⟨G,λy Y=>(Zlx r z t y Y).at _ _,⟨.int (xs.idxOf z:Nat),H,I.tok _,⟨_,rfl⟩,q⟩⟩
 ·have e:=OO r z (xs.idxOf z) (by lia) C;show Value.isInt z f[xs.idxOf z]=true;rw[e];simpa using JM C
 ·intro m hm B;have A:m<f.length:=by simpa using hm
  show Value.isInt z f[m]=false;rw[(OO r z m A<|by lia)]
  have:=List.not_of_lt_findIdx B
  simpa using this
end
noncomputable def Ite(K:ZW)(a:Addr):It:=
 ⟨λi H=>∃xs x,SqL K H a xs/\xs[i]?=some x,λi H x f=>∃T v,H T=none/\(∀xs,SqL K H a xs->xs[i]?=some v)/\x=.ref T/\f=upd H T (.tup [.int i,v]),λi H=>∃xs,SqL K H a xs/\xs.length<=i⟩
def Zqr{K elts k1 tp}(a e it:Addr)(hne:e≠it) :
  Turn P w K (.Tuple elts k1 tp) (Ite K a) [e,it] e (λi h=>∃old,IsEnum h e it i old/\h.IsListIter it a i) where
 mem:=by simp
 obj:=λi h st b hb=>by
  obtain⟨old,h1,o,h2,_,h3⟩:=st;rcases WX.mp hb with rfl|hb
  ·exact⟨_,h1,λv z=>by cases z⟩
  ·rw[WN.mp hb];exact⟨o,h2,λv z=>by rw[h3]at z;cases z⟩
 keep:=λi h h' st k=>by
  obtain⟨old,h1,h2⟩:=st;exact⟨old,k e (by simp) _ h1,h2.at λo q=>k it (by simp) o q⟩
 item:=by
  intro X hP hw hK hc i pins s σ H E I hf st hg;subst hP hw hK;obtain⟨old,he,hit⟩:=st;obtain⟨xs,x,hq,hx⟩:=hg;obtain⟨its,rv,p,hz⟩:=I.list hq;obtain⟨u,hu,ru⟩:=rv.get hx;obtain⟨a0,a1,a2,a3,a4,a5⟩:=hf e (by simp);obtain⟨b0,b1,b2,b3,b4,b5⟩:=hf it (by simp);have hfr:=I.hok.fresh (WT _);have heL:=WZ he;have hiL:it<s.heap.objs.size:=by obtain⟨o,ho,_⟩:=hit;exact WZ ho
  refine wpAny_pyNext_enum_item he hit p.isList (by simpa using hu) hne λh1 eo it1 ht1 hz1 k1=>⟨_,rfl,?_⟩;refine wpAny_letOwnedTupleGo_enum eo λh2 e2 sb2=>?_;have keep2:∀b o,b∉[e,it]->s.heap.get? b=some o->h2.get? b=some o:=λb o hb q=>sb2.extBut b o (λz=>hb (by simp[z])) (k1 b o (λz=>hb (by simp[z])) (λz=>hb (by simp[z])) q)
  have n0:∀b,b∈[e,it]->H b=none:=λb hb=>by
   rcases WX.mp hb with rfl|hb
   ·exact a0
   ·rw[WN.mp hb];exact b0
  have un:Un (frs X.stack) [e,it] H (upd H s.heap.objs.size<|.tup [.int i,x]) s.heap h2:=by
   refine⟨λb o q _ _ hx'=>keep2 b o hx' q,λb o q _ _ hx'=>⟨o.slots,keep2 b o hx' q⟩,λb o q n _=>by rw[Xx (Qm<|WZ q)];exact n,λb o q hx'=>⟨o,keep2 b o hx' q⟩,
    λb ys q=>by rw[Xx (Kz q hfr)];exact q,λb o ys q=>by rw[Xx (Kz q hfr)];exact q,λb ps q=>⟨#[],by rw[Xx (Kz q hfr),q];simp⟩⟩
  have ok2:HOk X.prog X.w (upd H s.heap.objs.size<|.tup [.int i,x]) h2:=λb o q=>by
   by_cases hb:b=s.heap.objs.size
   ·subst hb;rw[X9]at q;cases q
    exact⟨by show 2<=sizeLine;decide,[.int i s.toks,u],.cons ⟨_,rfl⟩ (.cons ru .nil),_,(sb2.extBut _ _ (J2 heL) ht1),rfl,_,rfl⟩
   ·rw[Xx hb]at q;refine(I.hok b o q).stay (λc v hc' r=>keep2 c v (λz=>?_) r) (λc r=>by rw[Xx (Kz r hfr)];exact r) λc ys r=>by rw[Xx (Kz r hfr)];exact r
    have hcn:=n0 c z;rcases hc' with rfl|hc'
    ·rw[hcn]at q;cases q
    ·rw[hcn]at hc';cases hc'
  have I2:Inv X pins σ (upd H s.heap.objs.size<|.tup [.int i,x]) {s with heap:=h2,toks:=s.toks+1}:=I.call un ok2 I.bare λb hb=>by
   rcases WX.mp hb with rfl|hb
   ·exact⟨a3,a1,a4,a5⟩
   ·rw[WN.mp hb];exact⟨b3,b1,b4,b5⟩
  refine⟨.ref s.heap.objs.size,_,I2,rfl,⟨_,x,hfr,λys hy=>by rw[I.list_inj hy hq];exact hx,rfl,rfl⟩,⟨u,?_,it1.at λo q=>sb2.extBut it o (Ne.symm hne) q⟩,λb hb=>?_⟩
  ·have:((i+1:Nat):Int)=(i:Int)+1:=by lia
   rwa[this]
  ·rw[Xx]
   ·exact n0 b hb
   ·rcases WX.mp hb with rfl|hb
    ·exact Qm heL
    ·rw[WN.mp hb];exact Qm hiL
 done:=by
  intro X hP hw hK hc i pins s σ H E I hf st hg;subst hP hw hK;obtain⟨old,he,hit⟩:=st;obtain⟨xs,hq,hx⟩:=hg;obtain⟨its,rv,p,hz⟩:=I.list hq;obtain⟨b0,b1,b2,b3,b4,b5⟩:=hf it (by simp);have l1:=rv.length;refine wpAny_pyNext_enum_end (I.ok.hd hc) he hit p.isList (by simp;lia) λh' eb=>⟨rfl,?_⟩;exact I.turned (λb o hb q=>eb b o hb q) b0 b1 b3 b4 b5
 self:=by
  intro A i s Q E st q;obtain⟨old,he,hit⟩:=st;have hT:s.TypeIs (.ref e) "enumerate":=⟨_,he,rfl⟩;refine Jl hT F.slot_enumerate_iter (Vc F.slot_enumerate_iter hT F.entry_enumerate_iter ?_<|F.args_enumerate_iter_1 _);exact WR ⟨_,rfl, "enumerate",_,hT,F.slot_enumerate_next.lookup,q⟩
noncomputable def GJ(K:ZW)(l:TA):TI:=λg H R=>l g H λh f=>∃a,h=[.ref a]/\(∃xs,SqL K f a xs)/\R (Ite K a) f
def Ll{a z p pos}(Q:Gl X "enumerate")(N:X.mg "enumerate"=none)(Y:PA X [a] z)(hs:autoParam (starEach [a] X.env=[(false,eval a X.env)]) au_0) :
  PI X (.Tuple elts k1 tp) (.Call (.Name "enumerate" p) [a] [] pos) (GJ X.K z):=by
 intro pins s y H R I h;refine Call_ (Sr I Q N boot_enumerate<|Vz (thn (Y pos pins s y H _ I h) ?_) hs rfl);rintro us f ⟨vs,B,g,E,G⟩;obtain⟨l,e1,⟨xs,hq⟩,q⟩:=G;subst e1;obtain⟨u,rfl,C⟩:=E.one;obtain rfl:=C;obtain⟨L,rv,J,hz⟩:=g.list hq;refine call_enumerate_list J.isList λn U v M keep=>?_;have I2:Inv X pins y B {f with heap:=n}:=g.kept keep
 have r:f.heap.objs.size+1≠f.heap.objs.size:=Nat.succ_ne_self _;have tn:∃o,IsEnum n (f.heap.objs.size+1) f.heap.objs.size ((0:Nat):Int) o/\n.IsListIter f.heap.objs.size l 0:=⟨_,U,v⟩;have T:=Zqr (P:=X.prog) (w:=X.w) (K:=X.K) (elts:=elts) (k1:=k1) (tp:=tp) l (f.heap.objs.size+1) f.heap.objs.size r;refine T.self X.A 0 {f with heap:=n} _ _ tn ⟨_,_,_,_,B,rfl,I2,T,tn,λb x=>?_,q⟩
 rcases WX.mp x with rfl|x
 ·exact g.fpOk (VG _) (g.hok.fresh<|VG _)
 ·rw[WN.mp x];exact g.fpOk (WT _) (g.hok.fresh<|WT _)
section
variable {X:Cx}{K:ZW}
def FV(f:autoParam (X.K=K) au_0):MtM X "list.index" (Cv K):=by subst f;exact Zdg
def Bf{p t name apos cpos T id r}(s:PlainAttrs T)(slot:Slot T name id)(n:typeOf (.builtin id)=pure (.type "method_descriptor"))(v:MtM X id r)(u:PE X o p)(w:PA X (e::es) t)(y:autoParam (X.K=K) au_0)(h:autoParam (attributeBase o name X.env (eval o X.env)=eval o X.env) au_0)
  (l:autoParam (((backTo cpos<|starEach (e::es) X.env).all (λx=>!x.1)&&(backToKw cpos<|keywordEach [] X.env).all (λx=>x.1.isSome)
   && decide ((e::es).length+([]:List Keyword).length+(if ([]:List Keyword).isEmpty then 0 else 1)<30))=true) au_0)
  (g:autoParam ((apos.endLine==cpos.line)=true) au_0) (hs:autoParam (starEach (e::es) X.env=(false,eval e X.env)::starEach es X.env) au_0) (f:autoParam ((backTo cpos<|starEach es X.env).any (·.1)=false) au_0) :
  PE X (.Call (.Attribute o name apos) (e::es) [] cpos) (tBM K T r p t):=by
 subst y;exact NN s slot n v u w h l g hs f
end
def E8(xs ys:ZY):eqL (xs.map V.int) (ys.map V.int)=decide (xs=ys):=by
 unfold eqL;rw[WI,WI];by_cases e:xs=ys
 ·subst e;rw[WL rfl,WL rfl,Ju,V7];intro j n;have g:j<xs.length:=by simpa using n
  rw[WU,WY,WJ g];show(xs[j]==xs[j])=true;simp
 ·rw[Q3 e];by_cases h:xs.length=ys.length
  ·rw[WL h,Ju,Vp];intro f;apply e;apply Jw h;intro j l p
   have:=V7.mp f j (by simpa using l)
   rw[WU,WY,WJ l,WU,WY,WJ p]at this;have o:(xs[j]==ys[j])=true:=this;simpa using o
  ·grind
def Nk(xs:ZY):(xs.map V.int).all Pj=true:=by
 rw[List.all_map];exact V7.mpr λ_ _=>rfl
end Own
namespace M
open PySem PySem.Spec PyProof.Rows L2 Own
def LV{f:Type}(R:Hp->V->f->Prop)(H:Hp)(vs:List V)(xs:List f):Prop:=
 vs.length=xs.length/\∀(i:Nat) (x:f),xs[i]?=some x->∃v,vs[i]?=some v/\R H v x
def LAt{f:Type}(R:Hp->V->f->Prop)(H:Hp)(l:Addr)(xs:List f):Prop:=∃g,H l=some (.lst g)/\LV R H g xs
def Pv(H:Hp)(v:V)(q:Int×Int):Prop:=∃a,v=.ref a/\H a=some (.tup [.int q.1,.int q.2])
section
variable {α:Type}{R:Hp->V->α->Prop}{H H':Hp}{vs:List V}{xs:List α}{l:Addr}
def LV.get {i:Nat}{v} (h:LV R H vs xs) (e:vs[i]?=some v):∃x,xs[i]?=some x/\R H v x:=by
 have g:i<xs.length:=by rw[←h.1];exact(Qq.mp e).1
 obtain⟨f,n,r⟩:=h.2 i xs[i] (by simp)
 grind
end
def TR(m:ZY):Prop:=∃a b c d e:Int,m=[a,b,c,d,e]/\(1<=a/\a<=10)/\(1<=b/\b<=9/\(b=1\/b=3\/b=7\/b=9))/\(0<=c/\c<=9)/\(1<=d/\d<=1000)/\(1<=e/\e+d<=1001)
def Field(ps:ZX):Prop:=∀q∈ps,1<=q.1/\q.1<=10/\1<=q.2/\q.2<=1000
def Zlq(f:ZY)(k z:Int):z∈SetR.Ks f k↔z∈f\/z=k:=by
 unfold SetR.Ks;split
 ·grind
 ·simp
theorem LF:∀(ns f:ZY) z,z∈ns.foldl SetR.Ks f↔z∈f\/z∈ns
 |[],f,z=>by simp
 |n::r,f,z=>by
  rw[List.foldl_cons,LF r,Zlq,WX];constructor
  ·grind
  ·grind
def Zr0(k:Int)(h:f.Nodup):(SetR.Ks f k).Nodup:=by
 unfold SetR.Ks;split
 ·lia
 ·grind
theorem GV:∀(ns:ZY) {f:ZY},f.Nodup->(ns.foldl SetR.Ks f).Nodup
 |[],_,h=>h
 |n::r,f,h=>GV r (Zr0 n h)
theorem LM:∀(ns f:ZY),(ns.foldl SetR.Ks f).length<=f.length+ns.length
 |[],f=>by simp
 |n::r,f=>by
  have h:=LM r (SetR.Ks f n)
  have g:(SetR.Ks f n).length<=f.length+1:=by
   unfold SetR.Ks;split
   ·simp
   ·simp
  grind
def M4{l:ZY}(h:l.Pairwise (·<=·))(n:l.Nodup):l.Pairwise (· < ·):=by
 have:=h.and n
 exact this.imp λ{a b} h=>by have:=h.1;have:=h.2;lia
def Ic{g f:ZY}(n:g.Pairwise (· < ·))(l:f.Pairwise (· < ·))(h:∀z,z∈g↔z∈f):g=f:=by
 have p:g.Nodup:=n.imp λ{a b} h=>by lia
 have o:f.Nodup:=l.imp λ{a b} h=>by lia
 exact((List.perm_ext_iff_of_nodup p o).mpr h).eq_of_pairwise (λa b _ _ x y=>by lia) n l
noncomputable def tenL:ZY:=[1,2,3,4,5,6,7,8,9,10]
def Zm8:z∈tenL↔1<=z/\z<=10:=by
 unfold tenL;constructor
 ·intro h;simp only[WX,Vy,or_false]at h;omega
 ·rintro⟨g,f⟩;simp only[WX,Vy,or_false];lia
noncomputable def Xj(ps:ZX):ZY:=tenL.filter λh=>decide (h∈ps.map (·.1))
def T6(ps:ZX):(Xj ps).Pairwise (· < ·):=List.Pairwise.filter _ (by trivial)
def Fs(f:Field ps){z}:z∈Xj ps↔z∈ps.map (·.1):=by
 unfold Xj;rw[Qn,Vq,Zm8];constructor
 ·grind
 ·intro h;obtain⟨q,hq,rfl⟩:=Qj.mp h
  have:=f q hq
  grind
def KW(ps:ZX):(Xj ps).length<=10:=by
 have:=Qw (λh=>decide (h∈ps.map (·.1))) tenL
 trivial
def Zb2(f:Field ps)(p:ns.Perm ((ps.map (·.1)).foldl SetR.Ks []))(h:ns.Pairwise (·<=·)):ns=Xj ps:=by
 refine Ic (M4 h<|p.symm.nodup<|GV _ Vx) (T6 ps) λz=>?_;rw[p.mem_iff,LF,Fs f];simp
def OY(z:Int)(xs:ZY):inV (.int z) (xs.map V.int)=decide (z∈xs):=by
 unfold inV
 induction xs with
 |nil=>rfl
 |cons x r f=>
  show((x==z) || _)=_;by_cases e:x=z
  ·grind
  ·grind
def Zcu:tenL=(List.range 10).map λ(i:Nat)=>(1:Int)+(i:Int):=rfl
def Zec{os ns}(g:os.Perm (Xj ps))(n:ns.Perm os)(l:ns.Pairwise (·<=·)):ns=Xj ps:=by
 have f:(Xj ps).Nodup:=(T6 ps).imp λ{a b} h=>by lia
 have p:=n.trans g;exact Ic (M4 l<|p.symm.nodup f) (T6 ps) λz=>p.mem_iff
section
variable (ps:ZX)
noncomputable def tpM(y:Int):Nat->Int
 | 0=>0
 |j+1=>tpM y j+(if (ps.getD j (0,0)).1=y then(ps.getD j (0,0)).2 else 0)
noncomputable def pcM(x y:Int):Nat->Int
 | 0=>0
 |k+1=>pcM x y k+(if x≠y/\(ps.getD k (0,0)).1=x then tpM ps y k*(ps.getD k (0,0)).2 else 0)
noncomputable def KB(n:Nat):ZY->Int
 |[]=>0
 |a::r=>(r.map λb=>pcM ps a b n).sum+KB n r
noncomputable def PV(n:Nat)(h:Int):ZY->Int
 |[]=>0
 |a::r=>if a=h then(r.map λb=>tpM ps b n).sum else PV n h r
noncomputable def rsM(os:ZY)(h:Int):Nat->Int
 | 0=>0
 |j+1=>rsM os h j+(if os.idxOf h<os.idxOf (ps.getD j (0,0)).1 then(ps.getD j (0,0)).2 else 0)
noncomputable def Te(os:ZY):Nat->Int
 | 0=>0
 |k+1=>Te os k+rsM ps os (ps.getD k (0,0)).1 k*(ps.getD k (0,0)).2
end
def Iv{r:ZY}(h:a≠b):(a::r).idxOf b=r.idxOf b+1:=by grind
def LI(f g:Int->Int)(l:ZY):(l.map λb=>f b+g b).sum=(l.map f).sum+(l.map g).sum:=by
 induction l with
 |nil=>rfl
 |cons b r h=>grind
def SZ{f g:Int->Int}{l:ZY}(h:∀b∈l,f b=g b):(l.map f).sum=(l.map g).sum:=by
 rw[Vw h]
def Rj(l:ZY):(l.map λ_=>(0:Int)).sum=0:=by
 induction l with
 |nil=>rfl
 |cons b r f=>grind
def Zap(f:Int->Int)(w:Int)(l:ZY):(l.map λb=>f b*w).sum=(l.map f).sum*w:=by
 induction l with
 |nil=>simp
 |cons b r g=>grind
def Zis{l:ZY}(h:Int)(w:Int)(f:l.Nodup):(l.map λb=>if h=b then w else 0).sum=if h∈l then w else 0:=by
 induction l with
 |nil=>rfl
 |cons b r g=>grind
section
variable {ps:ZX}
theorem OS:∀{os:ZY},(ps.getD n (0,0)).1∉os->KB ps (n+1) os=KB ps n os
 |[],_=>rfl
 |a::r,h=>by
  have f:(ps.getD n (0,0)).1≠a:=λz=>h (by grind);simp only[KB];rw[OS (λz=>h (Qo _ z))];congr 1;apply SZ;simp only[pcM];lia
theorem IL:∀{os:ZY},os.Nodup->(ps.getD n (0,0)).1∈os->KB ps (n+1) os=KB ps n os+PV ps n (ps.getD n (0,0)).1 os*(ps.getD n (0,0)).2
 |[],_,h=>by cases h
 |a::r,p,h=>by
  obtain⟨g,o⟩:=Qv.mp p;simp only[KB,PV];by_cases e:a=(ps.getD n (0,0)).1
  ·rw[WQ e];have f:(ps.getD n (0,0)).1∉r:=by rw[←e];exact g
   rw[OS f,←Zap]
   have l:(r.map λb=>pcM ps a b (n+1)).sum=(r.map λb=>pcM ps a b n+tpM ps b n*(ps.getD n (0,0)).2).sum:=by
    apply SZ;intro b s;simp only[pcM];rw[WQ ⟨λz=>g (by rw[z];exact s),e.symm⟩]
   rw[l,LI];lia
  ·rw[WO e];have f:(ps.getD n (0,0)).1∈r:=by grind
   rw[IL o f]
   have l:(r.map λb=>pcM ps a b (n+1)).sum=(r.map λb=>pcM ps a b n).sum:=by
    apply SZ;simp only[pcM];lia
   lia
theorem RW:∀{os:ZY},(ps.getD n (0,0)).1∉os->PV ps (n+1) h os=PV ps n h os
 |[],_=>rfl
 |a::r,f=>by
  simp only[PV];rw[RW (λz=>f (Qo _ z))]
  have g:(r.map λb=>tpM ps b (n+1)).sum=(r.map λb=>tpM ps b n).sum:=by
   apply SZ;simp only[tpM]
   grind
  lia
theorem Hr{h}:∀{os:ZY},os.Nodup->h∈os->(ps.getD n (0,0)).1∈os->
  PV ps (n+1) h os=PV ps n h os+(if os.idxOf h<os.idxOf (ps.getD n (0,0)).1 then(ps.getD n (0,0)).2 else 0)
 |[],_,v,_=>by cases v
 |a::r,C,v,A=>by
  obtain⟨y,x⟩:=Qv.mp C;generalize o:(ps.getD n (0,0)).1=g at A ⊢;generalize B:(ps.getD n (0,0)).2=w at ⊢;simp only[PV];by_cases e:a=h
  ·subst e;rw[WQ rfl,WQ rfl]
   have H:(r.map λb=>tpM ps b (n+1)).sum=(r.map λb=>tpM ps b n+(if g=b then w else 0)).sum:=by
    apply SZ;intro b _;simp only[tpM];rw[o,B]
   rw[H,LI,Zis g w x];have u:(a::r).idxOf a=0:=by simp
   by_cases l:g=a
   ·subst l;rw[u,WO y,WO (by lia)]
   ·grind
  ·rw[WO e,WO e]
   have E:h∈r:=by
    rcases WX.mp v with z|z
    ·exact absurd z.symm e
    ·exact z
   have s:(a::r).idxOf h=r.idxOf h+1:=Iv e;by_cases l:g=a
   ·subst l;have u:(g::r).idxOf g=0:=by simp
    rw[RW (by rw[o];exact y),u,WO (by lia)];lia
   ·have G:g∈r:=by
     rcases WX.mp A with z|z
     ·exact absurd z l
     ·exact z
    have p:(a::r).idxOf g=r.idxOf g+1:=Iv (Ne.symm l);rw[Hr x E (by rw[o];exact G),o,B,s,p];by_cases f:r.idxOf h<r.idxOf g
    ·rw[WQ f,WQ (by lia)]
    ·rw[WO f,WO (by lia)]
theorem GA{os h}(f:os.Nodup)(o:h∈os):∀n,(∀j,j<n->(ps.getD j (0,0)).1∈os)->PV ps n h os=rsM ps os h n
 | 0,_=>by
  have:∀l,PV ps 0 h l=0:=by
   intro l
   induction l with
   |nil=>rfl
   |cons a r p=>
    simp only[PV,tpM];rw[Rj,p];simp
  rw[this];rfl
 |n+1,g=>by
  rw[Hr f o (g n<|by simp),GA f o n λj s=>g j (by lia)];rfl
theorem Lp{os}(g:os.Nodup):∀n,(∀j,j<n->(ps.getD j (0,0)).1∈os)->KB ps n os=Te ps os n
 | 0,_=>by
  have:∀l,KB ps 0 l=0:=by
   intro l
   induction l with
   |nil=>rfl
   |cons a r h=>
    simp only[KB,pcM];rw[Rj,h];rfl
  rw[this];rfl
 |n+1,f=>by
  rw[IL g (f n<|by simp),Lp g n (λj o=>f j (by lia)),GA g (f n<|by simp) n λj o=>f j (by lia)];rfl
end
end M
namespace ExcR
open PySem PySem.Spec PyProof.Rows L2
structure KS (fs ex:List Addr) (h h':Heap):Prop where
 keep:∀b o,h.get? b=some o->b∉fs->b∉ex->h'.get? b=some o
 slot:∀b o,h.get? b=some o->b∉ex->∃sl,h'.get? b=some {o with slots:=sl}
 size:h.objs.size<=h'.objs.size
def KS.trans (a:KS fs ex l h) (b:KS fs ex h g):KS fs ex l g:=
 ⟨λc o e n m=>b.keep c o (a.keep c o e n m) n m,λc o e m=>by
  obtain⟨s,r⟩:=a.slot c o e m;obtain⟨f,p⟩:=b.slot c _ r m;exact⟨f,p⟩,WV a.size b.size⟩
def KS.mono {fs f ex g}{l h} (a:KS fs ex l h) (p:∀b∈fs,b∈f) (hx:∀b∈ex,b∈g):KS f g l h:=
 ⟨λc o e n m=>a.keep c o e (λz=>n (p c z)) (λz=>m (hx c z)),λc o e m=>a.slot c o e λz=>m (hx c z),a.size⟩
def Zcv(o:Obj)(f):(o.mapFields f).dict=o.dict:=by
 obtain⟨c,d,g,sl⟩:=o;cases g<;>rfl
structure Trc (h:Heap) (e T:Addr) (cls:Value×Yj) (fl:Value):Prop where
 ne:T≠e
 exc:∃oe vs,h.get? e=some oe/\(oe.cls,oe.dict)=cls/\oe.data=.fields vs/\vs[1]?=some (.ref T)
 ent:∃oT ts,h.get? T=some oT/\oT.data=.fields ts/\ts[3]?=some fl
section
variable {M:Model}{A:Around}{E:Yb}{s:Shared}{base:Heap}{env:Env}{outer:List Env}{L e:Addr}
def RO{hadNext Q}(B:A.frames=some (env::outer))(U:s.heap.FunFrames base (env::outer))(hf:env.frame=some L)(Y:s.heap.get? e=some v)(C:v.data=.fields vs)(hsz:1<vs.size)(h:∀H T,s.heap.objs.size<=T->Trc H e T (v.cls,v.dict) (rawInt L)->KS (frs (env::outer)) [e] s.heap H->Q () {s with heap:=H}) :
  wpAny M A (do let a ←frameOf env;let u ←entryPlaceOf L hadNext;let b ←EntryCells.newEntry head a .none (rawInt L) .none u;setField (.ref e) 1 b) Q E s:=by
 have n:e∉frs (env::outer):=λhm=>by
  obtain⟨_,o,N,y⟩:=U.mem hm;rw[Y]at N;cases N
  exact y vs C
 refine WK (wpAny_frameOf_fun B U hf λG g=>WK (wpAny_entryPlaceOf λu x=>?_));refine WK (QC ?_<|x.sizeOk5 _ _ _ _ _);have r:=(g.2.1 e n).trans Y;generalize eo:({cls:=.type "traceback",dict:=none,data:=.fields ([head,.ref L,.none,rawInt L,.none]++(if u.isEmpty then List.replicate 6 Value.none else u)).toArray}:Obj)=J;have p:=WS J r;refine Ve p C hsz (h _ G.objs.size (Vi g.1.symm) ?_ ?_)
 ·have l:=J2 (WZ r);have d3:=QK C (·.setIfInBounds 1 (Value.ref G.objs.size));refine⟨l,⟨_,_,QA _ p (Vf d3),by rw[Jk,Zcv],d3,by simp[hsz]⟩,J,_,?_,by rw[←eo],?_⟩
  ·exact(QE _ _<|Ne.symm l).trans (Qa G<|by rw[←eo];rfl)
  ·rfl
 ·refine⟨λb o q nb w=>?_,λb o q w=>?_,?_⟩
  ·have f:b≠e:=λz=>w (by simp[z]);rw[QE _ _ (Ne.symm f)];exact WS _ ((g.2.1 b nb).trans q)
  ·have f:b≠e:=λz=>w (by simp[z]);obtain⟨sl,q1⟩:=g.2.2 b o q;exact⟨sl,by rw[QE _ _ (Ne.symm f)];exact WS _ q1⟩
  ·rw[Heap.size_update,V5,g.1];exact VG _
def Zh0(g:A.frames=some (env::outer))(u:s.heap.FunFrames base (env::outer))(n:env.frame=some L)(o:s.heap.get? e=some f)(p:f.data=.fields vs)(r:vs[1]?=some .none)(h:∀l T,s.heap.objs.size<=T->Trc l e T (f.cls,f.dict) (rawInt L)->KS (frs (env::outer)) [e] s.heap l->Q () {s with heap:=l}):wpAny M A (noteFrame (.ref e) env) Q E s:=by
 unfold noteFrame;simp only[n];refine WK (JH o p r ?_);exact RO g u n o p (VR.mp r).1 h
def Oe(x:Trc s.heap e T cls Y)(h:∀g,Trc g e T cls .none->KS [] [T] s.heap g->Q () {s with heap:=g}) :
  wpAny M A (setField (.ref T) 3 .none) Q E s:=by
 obtain⟨n,⟨w,v,J,H,G,C⟩,U,N,r,p,y⟩:=x;have u:=(VR.mp y).1;refine Ve r p u (h _ ?_ ?_)
 ·have d3:=QK p (·.setIfInBounds 3 Value.none);exact⟨n,⟨w,v,(QE _ _ n).trans J,H,G,C⟩,_,_,QA _ r (Vf d3),d3,by simp[u]⟩
 ·have l:∀b,b≠T->(s.heap.update T<|Obj.mapFields (·.setIfInBounds 3 Value.none)).get? b=s.heap.get? b:=λb B=>QE _ _ (Ne.symm B);exact⟨λb o q _ f=>(l b λz=>f (by grind)).trans q,λb o q f=>⟨o.slots,(l b λz=>f (by grind)).trans q⟩,Vi (Heap.size_update ..).symm⟩
def Zn5(n:A.frames=some (env::outer))(hl:s.heap.FunFrames base (env::outer))(y:env.frame=some L)(x:Trc s.heap e T cls .none)(h:∀r f,s.heap.objs.size<=f->Trc r e f cls (rawInt L)->KS (frs (env::outer)) [e,T] s.heap r->Q () {s with heap:=r}):wpAny M A (noteFrame (.ref e) env) Q E s:=by
 obtain⟨ne,⟨oe,vs,g1,g2,g3,g4⟩,oT,G,w,v,Y⟩:=id x;unfold noteFrame;simp only[y];refine WK (JH g1 g3 g4 ?_);refine WK (JH w v Y ?_);refine WK (Oe x λh1 B u=>?_)
 have l:=hl.of_keeps λb o q g=>⟨o,u.keep b o q (by simp) (λz=>by
  rw[WN.mp z,w]at q;cases q
  exact g G v),rfl⟩
 obtain⟨_,⟨U,C,N,p2,J,H⟩,_⟩:=id B;refine RO n l y N J (VR.mp H).1 λh2 f p x2 K2=>h h2 f (WV u.size p) (by grind) ?_;exact(u.mono (by simp)<|by simp).trans (K2.mono (λ_ z=>z)<|by simp)
def Lq(x:Trc s.heap e T cls v)(h:∀f,Trc f e T cls .none->KS [] [T] s.heap f->Q () {s with heap:=f}) :
  wpAny M A (setFlight (.ref e) none) Q E s:=by
 obtain⟨r,⟨p,o,n,u,l,g⟩,_⟩:=id x;refine WK (JH n l g ?_);exact Oe x h
def Zh1(l:A.frames=some (env::outer))(y:s.heap.FunFrames base (env::outer))(B:env.frame=some L)(C:s.heap.get? e=some f)(G:f.data=.fields vs)(J:vs[1]?=some .none)(h:∀p T,s.heap.objs.size<=T->Trc p e T (f.cls,f.dict) .none->KS (frs (env::outer)) [e] s.heap p->Q () {s with heap:=p}):wpAny M A (leaving env<|.ref e) Q E s:=by
 unfold leaving;refine WK (Zh0 l y B C G J λN T n x K=>Lq x λH u r=>h H T n u ?_);refine⟨λb o q w g=>r.keep b o (K.keep b o q w g) (by simp) (λz=>?_),λb o q g=>?_,WV K.size r.size⟩
 ·rw[WN.mp z]at q;exact absurd (WZ q) (JR.mpr n)
 ·obtain⟨sl,v⟩:=K.slot b o q g;exact⟨sl,r.keep b _ v (by simp) (λz=>by rw[WN.mp z]at q;exact absurd (WZ q) (JR.mpr n))⟩
def Zk3(l:A.frames=some (env::outer))(B:s.heap.FunFrames base (env::outer))(C:env.frame=some L)(x:Trc s.heap e T cls .none)(h:∀p f,s.heap.objs.size<=f->Trc p e f cls .none->KS (frs (env::outer)) [e,T] s.heap p->Q () {s with heap:=p}):wpAny M A (leaving env<|.ref e) Q E s:=by
 refine WK (Zn5 l B C x λH f n v K=>Lq v λG u r=>h G f n u ?_);refine⟨λb o q y g=>r.keep b o (K.keep b o q y g) (by simp) (λz=>?_),λb o q g=>?_,WV K.size r.size⟩
 ·rw[WN.mp z]at q;exact absurd (WZ q) (JR.mpr n)
 ·obtain⟨sl,w⟩:=K.slot b o q g;exact⟨sl,r.keep b _ w (by simp) (λz=>by rw[WN.mp z]at q;exact absurd (WZ q) (JR.mpr n))⟩
end
section
variable {P:Program}{w:World}{H H':Hp}{h h':Heap}{a:Addr}{o:HO}{fs ex:List Addr}
def has(x:ObjOk P w H h a o):∃u,h.get? a=some u:=by
 cases o with
 |lst xs=>exact let ⟨_,_,_,_,e⟩:=x;⟨_,e⟩
 |tup xs=>exact let ⟨_,_,_,u,e,_⟩:=x;⟨u,e⟩
 |dK f|dT f=>exact let ⟨_,_,_,_,u,_,_,e,_⟩:=x;⟨u,e⟩
 |set S n=>exact let ⟨u,_,_,_,e,_⟩:=x;⟨u,e⟩
 |ins C r fs=>exact let ⟨_,_,_,e,_⟩:=x;⟨_,e⟩
 |own y=>exact x
 |xd fs=>exact let ⟨_,⟨u,_,_,e,_⟩,_⟩:=x;⟨u,e⟩
 |rng lo p=>exact let ⟨_,_,_,e⟩:=x;⟨_,e⟩
 |frz l u=>exact⟨_,x.1⟩
 |ext g=>exact x.2.1
 |_=>exact⟨_,x⟩
def Zj2(ok:HOk P w H h)(e:h.get? a=none):H a=none:=by
 cases q:H a with
 |none=>rfl
 |some o=>
  obtain⟨u,z⟩:=has (ok a o q)
  grind
def G4(ok:HOk P w H h)(k:KS fs ex h h')(g:∀b∈fs,H b=none)(hx:∀b∈ex,H b=none):HOk P w H h':=λa o e=>by
 refine(ok a o e).stay (λb u l q=>?_) (λ_ q=>q) (λ_ _ q=>q);have f:H b≠none:=by grind
 exact k.keep b u q (λz=>f (g b z)) λz=>f (hx b z)
end
structure XAt (P:Program) (w:World) (outer:List Env) (H H':Hp) (s s':Shared) (a T C:Addr) (dx:Yj):Prop where
 os:s'.os=s.os
 bare:AllBare s'.gens
 un:Un (frs outer) [] H H' s.heap s'.heap
 hok:HOk P w H' s'.heap
 na:s.heap.get? a=none
 nT:s.heap.get? T=none
 fa:H' a=none
 fT:H' T=none
 tr:Trc s'.heap a T (.ref C,dx) .none
noncomputable def CXe(P:Program)(w:World):CXT:=λouter H s E e h=>∃a T C f g,e=.ref a/\XAt P w outer H g s h a T C f/\E (.ref C) f g
section
variable {X:Cx}{pins:ZZ}{σ:L2.St}{H H':Hp}{s s':Shared}{a T C:Addr}{dx:Yj}
def HY(I:Inv X pins σ H s)(hex:X.ex=[])(k:KS (frs X.stack) ex s.heap v)(hx:∀b∈ex,X.s₀.heap.get? b=none):Un X.fs [] X.H₀ H X.s₀.heap v:=by
 have B:=I.base;rw[hex]at B;have f:∀b o,X.s₀.heap.get? b=some o->b∉ex:=λb o q z=>by rw[hx b z]at q;cases q
 have r:∀b o,X.s₀.heap.get? b=some o->b∉X.fs->b∉frs X.stack:=λb o q nf z=>by
  rcases WX.mp (I.stkSub b z)with e|e
  ·have x:=WZ q;have w:=I.ok.above
   grind
  ·exact nf e
 refine⟨λb o q n nf g=>k.keep b o (B.keep b o q n nf g) (r b o q nf) (f b o q),λb o q n u g=>?_,λb o q n g=>B.free b o q n g,λb o q g=>?_,B.tups,B.frzs,B.tbls⟩
 ·obtain⟨sl,l⟩:=B.slot b o q n u g;obtain⟨h,p⟩:=k.slot b _ l (f b o q)
  grind
 ·obtain⟨o1,l⟩:=B.there b o q g;obtain⟨h,p⟩:=k.slot b _ l (f b o q);exact⟨_,p⟩
def F8(I:Inv X pins σ H s)(hex:X.ex=[])(e:s.heap.get? b=none):X.s₀.heap.get? b=none:=by
 cases q:X.s₀.heap.get? b with
 |none=>rfl
 |some o=>
  obtain⟨u,z⟩:=I.base.there b o q (by grind)
  grind
variable {E:Yb}
def Zbh(I:Inv X pins σ H s)(hex:X.ex=[])(g:X.stack=X.env::X.outer)(l:X.env.frame=some X.env.locals)(x:XAt X.prog X.w X.stack H H' s s' a T C dx) :
  wpAny (model X.prog X.w) X.A (leaving X.env<|.ref a) (λ_ u=>∃n,XAt X.prog X.w X.outer X.H₀ H' X.s₀ u a n C dx) E s':=by
 have J:=I.call' x.os x.un x.hok x.bare λb z=>absurd z (by simp);have o:=J.stack;have p:=J.ok.frames;rw[g]at o p;refine Zk3 p o l x.tr λv n h r k=>⟨n,J.os,J.bare,?_,?_,F8 I hex x.na,?_,x.fa,x.hok.fresh h,r⟩
 ·exact HY J hex (by rw[g];exact k) λb f=>by
   rcases WX.mp f with rfl|f
   ·exact F8 I hex x.na
   ·rw[WN.mp f];exact F8 I hex x.nT
 ·refine G4 x.hok k (λb f=>J.stkFree b (by grind)) λb f=>?_;rcases WX.mp f with rfl|f
  ·exact x.fa
  ·rw[WN.mp f];exact x.fT
 ·exact J0 (WV J.sz h)
def Za9(J:Inv X pins σ H s)(hex:X.ex=[])(f:X.stack=X.env::X.outer)(n:X.env.frame=some X.env.locals)(r:X.s₀.heap.get? a=none)(x:H a=none)(B:s.heap.get? a=some l)(L:l.cls=.ref C)(o:l.dict=dx)(G:l.data=.fields vs)(M:vs[1]?=some .none) :
  wpAny (model X.prog X.w) X.A (leaving X.env<|.ref a) (λ_ z=>∃p,XAt X.prog X.w X.outer X.H₀ H X.s₀ z a p C dx) E s:=by
 have u:=J.stack;have v:=J.ok.frames;rw[f]at u v;refine Zh1 v u n B G M λN p g y k=>⟨p,J.os,J.bare,?_,?_,r,?_,x,J.hok.fresh g,by rw[←L,←o];exact y⟩
 ·exact HY J hex (by rw[f];exact k) λb h=>by rw[WN.mp h];exact r
 ·exact G4 J.hok k (λb h=>J.stkFree b (by grind)) λb h=>by rw[WN.mp h];exact x
 ·exact J0 (WV J.sz g)
def Zc6{f vs}(I:Inv X pins σ H s)(hex:X.ex=[])(g:X.stack=X.env::X.outer)(h:X.env.frame=some X.env.locals)(keeps:∀b o,s.heap.get? b=some o->n.get? b=some o)(new:s.heap.get? a=none)(r:n.get? a=some f)(v:f.cls=.ref C)(l:f.dict=dx)(u:f.data=.fields vs)(x:vs[1]?=some .none) :
  wpAny (model X.prog X.w) X.A (leaving X.env<|.ref a) (λ_ p=>∃y,XAt X.prog X.w X.outer X.H₀ H X.s₀ p a y C dx) E {s with heap:=n}:=
 Za9 (s:={s with heap:=n}) (I.call' (ch:=[]) rfl (Un.kept keeps) (I.hok.kept keeps) I.bare λb z=>absurd z (by simp)) hex g h (F8 I hex new) (Zj2 I.hok new) r v l u x
end
structure FC (K:ZW) (C:Addr):Prop where
 q:PySem.W.excIn K C [.type "ValueError",.type "Exception",.type "BaseException",.type "object"] "ValueError.__new__"=true
def FC.obj {K C h} (c:FC K C) (k:K.In h):∃f N nm q bs hdct sn sub ab col dd k0 k1 k2 k3 k5 p,h.get? C=some (excClassObj nm q C N bs f hdct sn sub ab col dd k0 k1 k2 k3 k5 "ValueError.__new__")/\h.Ns N p/\p "__init__"=none/\
  OwnTail h [.type "ValueError",.type "Exception",.type "BaseException",.type "object"] f:=by
 have e:=c.q;unfold PySem.W.excIn at e;split at e
 next dd L sl A=>
  split at e
  next M f k0 k1 k2 k3 n k5 s r=>
   simp only[Qr,beq_iff_eq,Bool.not_eq_true']at e;obtain⟨⟨⟨⟨⟨H,G⟩,w⟩,E⟩,o⟩,v⟩:=e;subst H G;have u:=k _ _ A;cases L with
   |mk nm bs z y x B sn sub ab col J=>
    simp only at s w o v
    have g:sl=#[k0,k1,k2,k3,some (.builtin "ValueError.__new__"),k5]:=by
     cases sl with
     |mk l=>simp only at r;rw[r]
    rw[s,w,g]at u;exact⟨f,y,nm,x,bs,B,sn,sub,ab,col,dd,k0,k1,k2,k3,k5,_,u,.of_isNs (PySem.W.isNs_of_in k o),PySem.W.nsMap_none_of_in k o v,PySem.W.tail_of_in k E⟩
  next=>cases e
 next=>cases e
abbrev TF:=L2.St->Hp->Str->(Str->Hp->Prop)->Prop
def PF(X:Cx)(es:Yg)(t:TF):Prop:=
 ∀(pins:ZZ) (s:Shared) (g:L2.St) (H:Hp) (f:Str) (Q:Str->Hp->Prop),Inv X pins g H s->t g H f Q->
  wpAny (model X.prog X.w) X.A (joinParts f<|evalEach es X.env) (λu l=>∃x h,Inv X pins g h l/\RelV (.str x) u/\Q x h) X.xe s
section
variable {X:Cx}{e e1 e2:Expr}{es:Yg}{t:TF}{tv:TE}{pos:Pos}
noncomputable def RX:TF:=λ_ H f Q=>f.length<=sizeLine/\Q f H
noncomputable def My(x:Str)(t:TF):TF:=λg H f Q=>(f++x).length<=sizeLine/\t g H (f++x) Q
noncomputable def Lj(tv:TE)(t:TF):TF:=λg H f Q=>tv g H λv h=>(∃i:Int,v=.int i/\i.natAbs.log2<1920/\(f++(Str.ofString<|toString i)).length<=sizeLine/\t g h (f++Str.ofString (toString i)) Q)\/
 ∃x:Str,v=.str x/\x.length<=sizeLine/\(f++x).length<=sizeLine/\t g h (f++x) Q
def NU:PF X [] RX:=λpins s g H f Q I h=>joinParts_nilE (joinParts_nil ⟨f,H,I.tok _,⟨_,rfl⟩,h.2⟩ h.1)
def PQ(h:PF X es t):PF X (.Constant (.str x) j pos::es) (My x t):=λpins s f H g Q I q=>
 joinParts_consE (joinParts_cons<|Calls.Constant_str ⟨q.1,h pins _ f H _ Q (I.tok _) q.2⟩)
def NA(A:PE X e tv)(h:PF X es t):PF X (.FormattedValue e (-1) none pos::es) (Lj tv t):=λpins s f H z Q I q=>by
 refine joinParts_consE (joinParts_cons<|FormattedValue_plain<|thn (A pins s f H _ I q) ?_);rintro u E ⟨v,o,n,r,y⟩;rcases y with⟨i,rfl,B,l,g⟩|⟨x,rfl,hx,l,g⟩
 ·obtain⟨w,rfl⟩:=r;exact formatField_int_small B ⟨l,h pins _ f o _ Q (n.tok _) g⟩
 ·obtain⟨w,rfl⟩:=r;exact formatField_str (λC p=>⟨l,h pins _ f o _ Q (n.tok _) g⟩) hx
noncomputable def tF(t:TF):TE:=λf H Q=>t f H Str.empty λx g=>Q (.str x) g
def NK(h:PF X (e1::e2::es) t):PE X (.JoinedStr (e1::e2::es) pos) (tF t):=λpins s f H Q I q=>
 JoinedStr_many (thn (h pins s f H _ _ I q) λu o ⟨x,n,l,r,g⟩=>⟨.str x,n,l,r,g⟩)
end
def Dy(X:Cx)(E:XK):Prop:=∀(pins:ZZ) (g:L2.St) (H:Hp) (s:Shared) (C a:Addr) (f:Heap) (args:Ye),Inv X pins g H s->Heap.MadeExcOf s.heap f a (.ref C) args->E (.ref C) none H->X.xe (.ref a) {s with heap:=f}
noncomputable def RF(C:Addr)(E:XK)(t:TA):TS:=λ_ f H=>t f H λg h=>g.length<=sizeLine/\E (.ref C) none h
section
variable {X:Cx}{x:Str}{C:Addr}{E:XK}{e:Expr}{es:Yg}{t:TA}{p cpos pos:Pos}
def Zd0(c:FC X.K C)(L:X.mg x=some (.ref C))(U:Dy X E)(Q:X.calm=true)(T:PA X (e::es) t)(M:autoParam (Gl X x) au_0)(r:autoParam ((x==("__debug__" : Str))=false) au_1)(v:autoParam (starEach (e::es) X.env=(false,eval e X.env)::starEach es X.env) au_0)(l:autoParam ((backTo cpos<|starEach es X.env).any (·.1)=false) au_0):PS X (.Raise (some<|.Call (.Name x p) (e::es) [] cpos) none pos) (RF C E t):=by
 intro pins s u H D I h;obtain⟨bm,N,nm,q,bs,hdct,sn,sub,ab,col,dd,k0,k1,k2,k3,k5,mN,hC,Y,n,w⟩:=c.obj I.ok.mod.kin
 have f:(backTo cpos<|starEach (e::es) X.env).any (·.1)=false:=by
  rw[v];show(false || (backTo cpos<|starEach es X.env).any (·.1))=false;rw[l];rfl
 refine wpAny_Raise_call_subU (nm:=nm) (q:=q) (N:=N) (bs:=bs) (hdct:=hdct) (sn:=sn) (sub:=sub) (ab:=ab) (col:=col) (dd:=dd) (k0:=k0) (k1:=k1) (k2:=k2) (k3:=k3) (k5:=k5)
  PySem.F.excBase_ValueError (by decide +kernel) PySem.F.excBase_ValueError (w.hasType<|by decide +kernel) (I.ok.hd Q) f n (BU I M L ⟨rfl,?_⟩ r)
 have y:=T cpos pins s u H _ I h;rw[v]at y ⊢;refine Calls.evalArgs_plain (thn y ?_);rintro z A ⟨vs,H2,g,B,J,G⟩;refine⟨rfl,by rw[←B.length];exact J,g.bk _ _ hC,Y.keeps g.bk,w.keeps g.bk,λh' a o=>?_⟩;exact U pins u H2 A C a h' z g o G
end
section
variable {P:Program}{w:World}{K:ZW}{mg:Ya}{base:Heap}{N ps:Yf}{qual x:Str}{scope:Scope}{f:Addr}{cd:Value}{A:Around}{outer:List Env}{s:Shared}{H:Hp}{E:XK}
def KM:Dy (XY (CXe P w) P w K mg base N qual scope f cd A outer s H E) E:=by
 intro pins n l p C a r args I m q;obtain⟨t,g,_,_⟩:=m.there;exact QI (Zc6 I rfl rfl rfl m.keeps m.new g rfl rfl rfl rfl) (λ_ o ⟨h,y⟩=>⟨a,h,C,none,l,rfl,y,q⟩) λ_ _ z=>z
def XU:Pm (CXe P w) (XY (CXe P w) P w K mg base N qual scope f cd A outer s H E) E:=by
 rintro pins n u r e p I ⟨a,T,C,g,l,rfl,y,q⟩;exact QI (Zbh I rfl rfl rfl y) (λ_ o ⟨h,z⟩=>⟨a,h,C,g,l,rfl,z,q⟩) λ_ _ z=>z
def Ak:PassesOwn (model P w) (XY (CXe P w) P w K mg base N qual scope f cd A outer s H E).A (XY (CXe P w) P w K mg base N qual scope f cd A outer s H E).env (XY (CXe P w) P w K mg base N qual scope f cd A outer s H E).xe:=PassesOwn.leaving
def Def.okX {st k sp} (D:Own.Def K mg x st ps) (S:Xh N ps (Xg st)) (len:∀vs H Q E,sp vs H Q E->vs.length=ps.length)
  (h:∀f g A outer s H vs Q E,Xv k (A.deeper<|envOfC x (Xg st) s.heap.objs.size f g)->sp vs H Q E->
   ∃t,PSs (XY (CXe P w) P w K mg base N x (Xg st) f g A outer s H E) (XS st) t/\t {nx:=λ_ H'=>Q .non H',rt:=Q} (start N vs) H):Own.Callee P w K mg base (CXe P w) (k+1) x ps sp:=by
 obtain⟨f,C,F,u,v⟩:=D.ex;obtain⟨oc,B,kV,y,z,J,g,G,p,rfl,o,n⟩:=F.ex;exact⟨f,_,Cm o n S len λA outer s H vs Q E r l=>h f g A outer s H vs Q E r l,u,F.kp,⟨_,o,rfl⟩,v⟩
end
end ExcR
namespace ExcR
open PySem PySem.Spec PyProof.Rows L2
open Sem (wp)
structure K8 (K:ZW) (C:Addr):Prop where
 c:FC K C
 ga:PySem.W.findIn K (.ref C) "__getattribute__"=some (some<|.builtin "BaseException.__getattribute__")
 gt:PySem.W.findIn K (.ref C) "__getattr__"=some none
 cl:PySem.W.findIn K (.ref C) "__class__"=some (some<|.builtin "object.__class__")
 is:(PySem.W.clsIn K C).isSome=true
end ExcR
namespace ExcR
open PySem PySem.Spec PyProof.Rows L2
noncomputable def Ej(a C:Addr)(g:Yj):HO:=.ext λh=>∃o,h.get? a=some o/\(o.cls,o.dict)=(.ref C,g)/\∃f,o.data=.fields f
noncomputable abbrev Zdt(a C:Addr):HO:=Ej a C none
noncomputable def Zrm(i:Nat)(D:Ends):Ends:={nx:=λf H=>D.nx (f.set i none) H,rt:=D.rt,bk:=λf H=>D.bk (f.set i none) H,ct:=λf H=>D.ct (f.set i none) H}
noncomputable def hx(K:ZW)(l:Addr)(i:Nat)(g:TS)(D:Ends):L2.St->XK:=λf c h H=>∃C,c=.ref C/\PySem.W.exmOne K (.ref C) (.ref l)=some true/\
 ∀a,H a=none->g (Zrm i D) (f.set i<|some<|.ref a) (upd H a<|Ej a C h)
noncomputable def Xq(f:Ya)(x:Str):Addr:=match f x with
 |some (.ref C)=>C
 |_=>0
def Mi(h:f x=some (.ref C)):Xq f x=C:=by unfold Xq;rw[h]
def Pr{v pos}(h:∃u,X.mg x=some u/\RelV v u)(f:autoParam (Gl X x) au_0)(g:autoParam ((x==("__debug__" : Str))=false) au_1):PE X (.Name x pos) (tC v):=by
 obtain⟨u,n,l⟩:=h;exact Zhg f n l g
end ExcR
namespace Own
open PySem PySem.Spec PyProof.Rows L2 M
section
variable {X:Cx}{pins:ZZ}{σ:L2.St}{H:Hp}{s:Shared}
def Oq{p:Int×Int}{its}(r:Vals [V.int p.1,V.int p.2] its):∃g f,its=[.int p.1 g,.int p.2 f]:=by
 cases r with
 |cons o h=>
  cases h with
  |cons n l=>
   cases l
   obtain⟨g,rfl⟩:=o;obtain⟨f,rfl⟩:=n
   grind
def Zjz{x y p q u v}(I:Inv X pins σ H s)(U:A.units<cLine)(L:RelV x u)(J:RelV y v)(Y:Pv H x p)(hq:Pv H y q):SeqAt.EqAt A s u v (decide (p=q)):=by
 obtain⟨a,rfl,C⟩:=Y;obtain⟨b,rfl,l⟩:=hq;obtain rfl:=L;obtain rfl:=J;by_cases n:a=b
 ·subst n;rw[C]at l
  have e:p=q:=by
   injection l with l;injection l with l;injection l with g f;injection f with f _;exact Prod.ext (V.int.inj g) (V.int.inj f)
  rw[WL e];exact SeqAt.EqAt.same _
 ·obtain⟨_,T,N,G⟩:=(I.hok a _ C);obtain⟨_,Q,M,E⟩:=(I.hok b _ l);obtain⟨B,w,rfl⟩:=Oq N;obtain⟨r,o,rfl⟩:=Oq M
  have h:=SeqAt.RcAt.tuples (e:=λj=>if j=0 then p.1==q.1 else p.2==q.2) G E U (λj g f=>by
   have hj:j=0\/j=1:=by
    have h1':j<2:=g;lia
   rcases hj with rfl|rfl
   ·exact SeqAt.EqAt.int_int _ _ _ _
   ·exact SeqAt.EqAt.int_int _ _ _ _)
  have e:((List.range (min ([Value.int p.1 B,Value.int p.2 w].toArray).size ([Value.int q.1 r,Value.int q.2 o].toArray).size)).all (λj=>if j=0 then p.1==q.1 else p.2==q.2)&&([Value.int p.1 B,Value.int p.2 w].toArray).size==([Value.int q.1 r,Value.int q.2 o].toArray).size)=decide (p=q):=by
   show((List.range 2).all (λj=>if j=0 then p.1==q.1 else p.2==q.2)&&true)=decide (p=q);rw[Bool.and_true];have e2:(List.range 2).all (λj=>if j=0 then p.1==q.1 else p.2==q.2)=((p.1==q.1)&&(p.2==q.2)):=by simp[List.range,List.range.loop]
   rw[e2];by_cases g:p.1=q.1
   ·by_cases f:p.2=q.2
    ·rw[WL (Prod.ext g f)];simp[g,f]
    ·rw[Q3 (λz=>f (by rw[z]))];simp[f]
   ·rw[Q3 (λz=>g (by rw[z]))];simp[g]
  rw[e]at h;exact SeqAt.EqAt.of_refs n h
noncomputable def eP(H:Hp)(q:Int×Int)(u:Value):Bool:=match u with
 | .ref a=>(match H a with
  |some (.tup [.int i,.int j])=>decide ((i,j)=q)
  |_=>false)
 |_=>false
def Ld{p q}(h:Pv H v p)(r:RelV v u):eP H q u=decide (p=q):=by
 obtain⟨a,rfl,f⟩:=h;obtain rfl:=r;unfold eP;simp_all
theorem CU:∀{vs us}{ps:ZX},Vals vs us->LV Pv H vs ps->us.any (eP H q)=decide (q∈ps)
 |_,_,[],.nil,_=>rfl
 |_,_,_::_,.nil,h|v::vs,u::us,[],.cons _ _,h=>absurd h.1 (by simp)
 |v::vs,u::us,p::ps,.cons r t,h=>by
  obtain⟨l,e,f⟩:=h.2 0 p rfl;cases e
  have g:LV Pv H vs ps:=⟨by simpa using h.1,λi x e=>h.2 (i+1) x e⟩;rw[VQ,Ld f r,CU t g];by_cases n:p=q
  ·grind
  ·grind
noncomputable def SM(neg:Bool):R2:=λx y H Q=>∃(l:Addr) (f:ZX) (q:Int×Int),y=.ref l/\Pv H x q/\LAt Pv H l f/\Q (.bl (if neg then !decide (q∈f)else decide (q∈f))) H
theorem Dv{x v q}(I:Inv X pins σ H s)(l:A.units<cLine)(g:RelV x v)(hx:Pv H x q):∀{vs us}{ps:ZX},Vals vs us->LV Pv H vs ps->∀u∈us,SeqAt.EqAt A s u v (eP H q u)
 |_,_,_,.nil,_,u,f=>by cases f
 |w::vs,u::us,[],.cons _ _,h,_,_=>absurd h.1 (by simp)
 |w::vs,u::us,p::ps,.cons r t,h,n,f=>by
  obtain⟨y,e,hw⟩:=h.2 0 p rfl;cases e
  have o:LV Pv H vs ps:=⟨by simpa using h.1,λi x e=>h.2 (i+1) x e⟩;rcases WX.mp f with rfl|f
  ·rw[Ld hw r];exact Zjz I l r g hw hx
  ·exact Dv I l g hx t o n f
def Zl4(z:X.A.in1.units<cLine):OpR X (compareOp .In) (SM false):=by
 intro pins s σ H x y v u Q I o n h;obtain⟨l,E,q,rfl,hx,⟨C,B,g⟩,k⟩:=h;cases n
 obtain⟨f,r,p,G⟩:=I.list (SqL.of B);refine SeqAt.in_listAt (eP H q) p.isList (λw hw=>Dv I z o hx r g w (by grind)) ⟨.bl _,H,I,rfl,?_⟩;rwa[show f.toArray.any (eP H q)=f.any (eP H q) by simp,CU r g]
def Zbb(z:X.A.in1.units<cLine):OpR X (compareOp .NotIn) (SM true):=by
 intro pins s σ H x y v u Q I o n h;obtain⟨l,E,q,rfl,hx,⟨C,B,g⟩,k⟩:=h;cases n
 obtain⟨f,r,p,G⟩:=I.list (SqL.of B);refine SeqAt.notIn_listAt (eP H q) p.isList (λw hw=>Dv I z o hx r g w (by grind)) ⟨.bl _,H,I,rfl,?_⟩;rwa[show f.toArray.any (eP H q)=f.any (eP H q) by simp,CU r g]
end
end Own
namespace M
open PySem PySem.Spec PyProof.Rows L2 Own
section
variable {α:Type}{R:Hp->V->α->Prop}{H:Hp}
noncomputable def pick(c:α->Bool)(d:V×α):Option V:=if c d.2=true then some d.1 else none
end
end M
namespace Own
open PySem PySem.Spec PyProof.Rows L2 M
section
variable {X:Cx}
noncomputable def Kf(i:Int)(n:Nat):ZY:=(List.range n).map λ(k:Nat)=>i+(k:Int)
end
end Own
namespace Own
open PySem PySem.Spec PyProof.Rows L2
section
variable {X:Cx}{K:ZW}
def Mu(y:X.calm=true)(A:autoParam (X.K=K) au_0):Kr X (.builtin "sum") (λxs H Q=>∃(p:Addr) (ns:ZY),xs=[.ref p]/\SqL K H p (ns.map V.int)/\Q (.int ns.sum) H):=by
 subst A;intro pins s E H xs G Q I o h;obtain⟨p,ns,rfl,z,q⟩:=h;obtain⟨u,rfl,v⟩:=o.one;obtain rfl:=v;obtain⟨g,r,w,_⟩:=I.list z;have n:IntsAre g ns:=by simpa using BQ r
 obtain⟨f,hx⟩:=n.allInts.items;have l:=w.isList;rw[hx]at l;refine sum_intListG (I.ok.hd y) l λM J L x=>?_
 have C:ns=f.toList.map (·.1):=by
  rw[←nums_intItems,←hx];exact n.numsOf.symm
 have B:preSum (numAt f) f.size=ns.sum:=by
  rw[preSum_eq,List.take_of_length_le (by simp),C]
 rw[B];exact⟨.int ns.sum,H,I.kept x,⟨_,rfl⟩,q⟩
def Zed(L:X.calm=true)(T:autoParam (X.K=K) au_0):Kr X (.builtin "min") (λxs H Q=>∃(p:Addr) (ns:ZY),xs=[.ref p]/\SqL K H p (ns.map V.int)/\0<ns.length/\∀M,M∈ns->(∀a∈ns,M<=a)->Q (.int M) H):=by
 subst T;intro pins s Y H xs us Q I A h;obtain⟨p,ns,rfl,N,o,q⟩:=h;obtain⟨u,rfl,B⟩:=A.one;obtain rfl:=B;obtain⟨l,r,C,_⟩:=I.list N;have x:IntsAre l ns:=by simpa using BQ r
 obtain⟨g,e⟩:=x.allInts.items;have w:=C.isList;rw[e]at w;have f:ns=g.toList.map (·.1):=by rw[←x.numsOf,←nums_intItems,←e]
 have n:0<g.size:=by
  have z:=o;rw[f,WI,QF]at z;exact z
 refine min_intList (I.ok.hd L) w n λv h' tk E G=>?_;obtain⟨t,rfl⟩:=intItems_at E;obtain⟨h1,U⟩:=argBest_lt (numAt g) (g.size-1);refine⟨.int _,H,I.kept G,⟨_,rfl⟩,q _ ?_ λa y=>?_⟩
 ·rw[f,numAt_eq];exact getD_mem (by rw[WI,QF];lia)
 ·rw[f]at y;obtain⟨j,J,rfl⟩:=Q9.mp y;rw[WI,QF]at J
  have:=U j (by lia)
  rw[numAt_eq g j]at this
  grind
theorem RZ:∀{bs}{us:Ye},Vals (bs.map V.bl) us->LSm.BoolsAre us bs
 |[],_,.nil=>.nil
 |b::r,_,.cons h t=>by
  cases h
  exact .cons b (RZ t)
def MB(B:X.calm=true)(E:autoParam (X.K=K) au_0):Kr X (.builtin "any") (λxs H Q=>∃(p:Addr) (bs:List Bool),xs=[.ref p]/\SqL K H p (bs.map V.bl)/\Q (.bl<|bs.any id) H):=by
 subst E;intro pins s G H xs J Q I w h;obtain⟨p,bs,rfl,C,q⟩:=h;obtain⟨u,rfl,x⟩:=w.one;obtain rfl:=x;obtain⟨f,r,y,_⟩:=I.list C;have n:=RZ r;have l:=y.isList;have g:p<s.heap.objs.size:=by obtain⟨_,e,_⟩:=l;exact WZ e
 refine call_any_walk (wpAny_pyIter_list l ?_)
 refine⟨s.heap.objs.size,[s.heap.objs.size,p],[s.heap.objs.size],f.toArray.size,_,_,λi=>(bs[i]?).getD false,rfl,Walks.list (A:=X.A.in1) (I.ok.hd B) _ p (Qm g) f.toArray,
  ⟨⟨_,Qa _ rfl,rfl,rfl⟩,l.push _⟩,λi v M U Y N o=>?_,λT L z=>?_⟩
 ·obtain⟨b,e,rfl⟩:=n.get i v (by grind);simp only[e,Option.getD_some]at o;exact V3 o
 ·have e:((List.range f.toArray.size).any λi=>(bs[i]?).getD false)=bs.any id:=by
   rw[Qz,n.length];exact LSm.range_any bs
  rw[e];exact⟨.bl (bs.any id),H,I.kept (LSm.kept_iter z),rfl,q⟩
noncomputable def Gb(K:ZW)(neg:Bool):R2:=λx y H Q=>∃(p q:Addr) (xs:List V),x=.ref p/\y=.ref q/\SqL K H p xs/\SqL K H q []/\Q (.bl (if neg then !xs.isEmpty else xs.isEmpty)) H
def Fh(l:X.A.units<cLine)(E:autoParam (X.K=K) au_0):OpR X (compareOp .Eq) (Gb K false):=by
 subst E;intro pins s J H x y v u Q I w o h;obtain⟨p,q,xs,rfl,rfl,C,hq,k⟩:=h;obtain rfl:=w;obtain rfl:=o;obtain⟨L,B,f,_⟩:=I.list C;obtain⟨n,z,p2,_⟩:=I.list hq;have N:=B.length;have M:0=n.length:=z.length;have g:=k;by_cases e:xs.length=0
 ·refine SeqAt.eq_listAt (e:=λ_=>true) f.isList p2.isList (by simp;lia) l (λj T G=>by simp at G;lia) ⟨.bl xs.isEmpty,H,I,?_,g⟩;show _=Value.bool xs.isEmpty
  grind
 ·refine SeqAt.eq_list_lengthsAt f.isList p2.isList (by simp;lia) l ⟨.bl xs.isEmpty,H,I,?_,g⟩;cases xs with
  |nil=>exact absurd rfl e
  |cons a r=>rfl
def Zir(l:X.A.units<cLine)(E:autoParam (X.K=K) au_0):OpR X (compareOp .NotEq) (Gb K true):=by
 subst E;intro pins s J H x y v u Q I w o h;obtain⟨p,q,xs,rfl,rfl,C,hq,k⟩:=h;obtain rfl:=w;obtain rfl:=o;obtain⟨L,B,f,_⟩:=I.list C;obtain⟨n,z,p2,_⟩:=I.list hq;have N:=B.length;have M:0=n.length:=z.length;have g:=k;by_cases e:xs.length=0
 ·refine SeqAt.RcNeAt.lists (e:=λ_=>true) f.isList p2.isList (by simp;lia) l (λj T G=>by simp at G;lia) _ _ _ _ ⟨.bl (!xs.isEmpty),H,I,?_,g⟩;show _=Value.bool (!xs.isEmpty)
  grind
 ·refine SeqAt.RcNeAt.lists_lengths f.isList p2.isList (by simp;lia) l _ _ _ _ ⟨.bl (!xs.isEmpty),H,I,?_,g⟩;cases xs with
  |nil=>exact absurd rfl e
  |cons a r=>rfl
end
end Own
namespace M
open PySem PySem.Spec PyProof.Rows L2 Own
noncomputable def Nm(g:ZX)(f:ZY):ZX:=g.filter λq=>decide (q.1∈f)&&decide (q.2∈f)
noncomputable def P4(g:ZX)(f:ZY):ZY:=f.filter λh=>decide (h∈(Nm g f).map (·.2))
noncomputable def XJ(f:ZX)(g:ZY):Nat->ZY
 | 0=>g
 |n+1=>P4 f (XJ f g n)
def Aw(f:ZX)(r:ZY):Prop:=∀(i:Nat) (x y:Int),r[i]?=some x->r[i+1]?=some y->(x,y)∈f
structure Ring (hs:ZY) (ws:ZX) (r:ZY):Prop where
 two:2<=r.length
 nodup:r.Nodup
 sub:∀x∈r,x∈hs
 chain:Aw ws r
 last:∀x y,r[0]?=some x->r[r.length-1]?=some y->(y,x)∈ws
def Ring.ahead (R:Ring hs g r) {x} (hx:x∈r):∃y∈r,(y,x)∈g:=by
 obtain⟨i,h,e⟩:=Q9.mp hx;cases i with
 |zero=>
  have f:r.length-1<r.length:=by lia
  exact⟨r[r.length-1],Qd f,R.last x _ (by grind) (WJ f)⟩
 |succ i=>
  have f:i<r.length:=by lia
  exact⟨r[i],Qd f,R.chain i _ x (WJ f) (by grind)⟩
def mem_peel:x∈P4 g f↔x∈f/\∃y∈f,(y,x)∈g:=by
 unfold P4 Nm;rw[Qn];constructor
 ·grind
 ·rintro⟨l,y,n,h⟩;refine⟨l,WL (Qj.mpr ⟨(y,x),Qn.mpr ⟨h,?_⟩,rfl⟩)⟩
  grind
theorem AB(R:Ring hs f r):∀n x,x∈r->x∈XJ f hs n
 | 0,x,hx=>R.sub x hx
 |n+1,x,hx=>by
  obtain⟨y,g,h⟩:=R.ahead hx;exact mem_peel.mpr ⟨AB R n x hx,y,AB R n y g,h⟩
def EB(g:ZX)(f:ZY):(P4 g f).Sublist f:=JD
theorem M1(f:ZX)(hs:ZY):∀n,(XJ f hs n).Sublist hs
 | 0=>List.Sublist.refl _
 |n+1=>(EB f _).trans (M1 f hs n)
theorem L0(f:ZX)(hs:ZY):∀n,(∃k,k<n/\P4 f (XJ f hs k)=XJ f hs k)\/(XJ f hs n).length+n<=hs.length
 | 0=>.inr (WT _)
 |n+1=>by
  rcases L0 f hs n with⟨k,o,e⟩|h
  ·grind
  ·by_cases e:P4 f (XJ f hs n)=XJ f hs n
   ·grind
   ·have l:(P4 f<|XJ f hs n).length<(XJ f hs n).length:=by
     have p:=(EB f<|XJ f hs n).length_le;rcases Nat.lt_or_ge (P4 f<|XJ f hs n).length (XJ f hs n).length with g|g
     ·exact g
     ·exact absurd ((EB f<|XJ f hs n).eq_of_length (by lia)) e
    refine .inr ?_;show(P4 f<|XJ f hs n).length+(n+1)<=hs.length;lia
theorem GF(f:ZX)(hs:ZY){k}(e:P4 f (XJ f hs k)=XJ f hs k):∀n,XJ f hs (k+n)=XJ f hs k
 | 0=>rfl
 |n+1=>by
  show P4 f (XJ f hs (k+n))=_;rw[GF f hs e n,e]
theorem F9:∀{xs ys:ZY},xs.Nodup->(∀x∈xs,x∈ys)->xs.length<=ys.length
 |[],_,_,_=>QD _
 |x::xs,ys,g,h=>by
  obtain⟨n,l⟩:=Qv.mp g;have o:=F9 l λz f=>(List.mem_erase_of_ne (λe:z=x=>n (e▸f))).mpr (h z<|Qo _ f)
  grind
def Cu(G:∀q∈s,q.1≠q.2)(w:g≠[])(h:∀x∈g,∃y∈g,(y,x)∈s):∃r,Ring g s r:=by
 have grow:∀n r,r≠[]->r.Nodup->(∀x∈r,x∈g)->Aw s r->g.length<r.length+n->∃r,Ring g s r:=by
  intro n
  induction n with
  |zero=>
   intro r B u sub A H
   have:=F9 u sub
   lia
  |succ n E=>
   intro r B u sub A H;cases r with
   |nil=>exact absurd rfl B
   |cons x t=>
    obtain⟨y,v,hw⟩:=h x (sub x (Q7 ..));by_cases C:y∈x::t
    ·obtain⟨i,M,e⟩:=Q9.mp C
     have L:i≠0:=λz=>by
      subst z;exact G _ hw e.symm
     have p:((x::t).take (i+1)).length=i+1:=by
      rw[Q5];lia
     refine⟨(x::t).take (i+1),by lia,u.sublist (Jg _ _),λz o=>sub z (Vk o),λk a b l f=>?_,λa b l f=>?_⟩
     ·have J:k+1<i+1:=by
       have:=(Qq.mp f).1
       lia
      rw[Vj (by lia)]at l;rw[Vj J]at f;exact A k a b l f
     ·rw[p,V1,Vj (by lia),WJ M,e]at f;cases l
      cases f
      exact hw
    ·refine E (y::x::t) (by simp) (Qv.mpr ⟨C,u⟩) (λz o=>?_) (λk a b l f=>?_) (by rw[Qf];lia)
     ·rcases WX.mp o with rfl|o
      ·exact v
      ·exact sub z o
     ·cases k with
      |zero=>
       cases l
       cases f
       exact hw
      |succ k=>exact A k a b l f
 obtain⟨x,hx⟩:=List.exists_mem_of_ne_nil g w;exact grow (g.length+1) [x] (by simp) (by simp) (λy v=>by rw[WN.mp v];exact hx) (λi a b l f=>by simp at f) (by show g.length<1+(g.length+1);lia)
def R1(n:∀q∈f,q.1≠q.2):XJ f hs hs.length=[]↔¬ ∃r,Ring hs f r:=by
 constructor
 ·rintro h ⟨r,R⟩;have two:=R.two;have o:0<r.length:=by lia
  have:=AB R hs.length r[0] (Qd o)
  grind
 ·intro h;rcases L0 f hs hs.length with⟨k,s,e⟩|p
  ·have l:=GF f hs e (hs.length-k);rw[show k+(hs.length-k)=hs.length by lia]at l;rw[l];by_cases g:XJ f hs k=[]
   ·exact g
   ·obtain⟨r,R⟩:=Cu n g (λx hx=>by
     rw[←e]at hx;exact(mem_peel.mp hx).2)
    exact absurd ⟨r,R.two,R.nodup,λx hx=>(M1 f hs k).subset (R.sub x hx),R.chain,R.last⟩ h
  ·exact Vt.mp (by lia)
end M
namespace M
def sl:ZY->ZY->Prop
 |x::xs,y::f=>x<y\/(x=y/\sl xs f)
 |_,_=>False
def sl_cons:sl (l::a) (l::b)↔sl a b:=by
 show(l<l\/(l=l/\sl a b))↔sl a b;constructor
 ·simp
 ·simp
noncomputable def XM(g:Int):ZY->Int
 |[]=>g
 |x::t=>XM x t
theorem N6(g:Int):∀a b,XM g (a++b)=XM (XM g a) b
 |[],b=>rfl
 |x::a,b=>N6 x a b
theorem CM(g:Int):∀t,(g::t)[t.length]?=some (XM g t)
 |[]=>rfl
 |x::t=>by
  exact CM x t
def Path(C:Int->Prop)(f:ZX):Int->ZY->Prop
 |_,[]=>True
 |g,x::t=>C x/\(g,x)∈f/\Path C f x t
section
variable {C:Int->Prop}{ws:ZX}
theorem path_app:∀{g}{a b:ZY},Path C ws g (a++b)↔Path C ws g a/\Path C ws (XM g a) b
 |g,[],b=>⟨λh=>⟨trivial,h⟩,λh=>h.2⟩
 |g,x::a,b=>by
  constructor
  ·rintro⟨n,l,f⟩
   have:=path_app.mp f
   exact⟨⟨n,l,this.1⟩,this.2⟩
  ·rintro⟨⟨n,l,f⟩,o⟩;exact⟨n,l,path_app.mpr ⟨f,o⟩⟩
theorem RR:∀{g}{t:ZY},Path C ws g t->∀x∈t,C x
 |g,[],_,x,h=>by cases h
 |g,y::t,⟨l,_,f⟩,x,h=>by
  rcases WX.mp h with rfl|h
  ·lia
  ·exact RR f x h
theorem Mp:∀{g}{t:ZY},Path C ws g t->Aw ws (g::t)
 |g,[],_=>λi x y o f=>by simp at f
 |g,z::t,⟨o,f,n⟩=>λi x y l h=>by
  cases i with
  |zero=>grind
  |succ i=>exact Mp n i x y l h
end
def Gr(hs:ZY)(l:Int):Int->Prop:=λx=>x∈hs/\l<x
def SC(hs:ZY)(f:ZX)(l:Int)(t:ZY):Prop:=Path (Gr hs l) f l t/\(XM l t,l)∈f
theorem MJ:∀{t:ZY},¬t.Nodup->∃a x b c,t=a++x::(b++x::c)
 |[],h=>absurd Vx h
 |y::t,h=>by
  by_cases f:y∈t
  ·obtain⟨b,c,e⟩:=List.append_of_mem f;exact⟨[],y,b,c,by rw[e];rfl⟩
  ·obtain⟨a,x,b,c,e⟩:=MJ λz=>h (Qv.mpr ⟨f,z⟩)
   grind
def LC{h l t}(v:∀q∈h,q.1≠q.2)(w:l∈hs)(f:SC hs h l t)(p:∀u,SC hs h l u->t.length<=u.length):Ring hs h (l::t):=by
 have o:t≠[]:=λz=>by
  have g:=f.2;rw[z]at g;exact v _ g rfl
 have r:=RR f.1;refine⟨by have:=VA.mpr o;simp;lia,Qv.mpr ⟨λz=>absurd (r l z).2 (by lia),?_⟩,λx hx=>?_,Mp f.1,λx y n g=>?_⟩
 ·refine Qt λz=>?_;obtain⟨a,x,b,c,e⟩:=MJ z;have n:=f.1;rw[e]at n;obtain⟨s,p2⟩:=path_app.mp n
  have B:SC hs h l (a++x::c):=by
   refine⟨path_app.mpr ⟨s,p2.1,p2.2.1,((path_app (a:=x::b)).mp p2).2.2.2⟩,?_⟩
   have A:XM l (a++x::c)=XM l t:=by
    rw[e,N6,N6];show XM x c=XM x (b++x::c);rw[N6];rfl
   rw[A];exact f.2
  grind
 ·rcases WX.mp hx with rfl|hx
  ·exact w
  ·exact(r x hx).1
 ·cases n
  simp only[Qf,V1]at g;rw[(CM l t)]at g;cases g
  exact f.2
def Tg(f:ZX):Prop:=f.length<=20/\f.Nodup/\∀q∈f,(1<=q.1/\q.1<=10/\1<=q.2/\q.2<=10)/\q.1≠q.2
open Own
noncomputable def exM(ps:ZX)(ns:ZY)(p:Nat):Int:=(ps.getD (ns.getD (p-1) 0-1).toNat (0,0)).2*(ps.getD (ns.getD p 0-1).toNat (0,0)).2
noncomputable def Pe(ns:ZY)(p:Nat):ZY:=ns.take (p-1)++[ns.getD p 0,ns.getD (p-1) 0]++ns.drop (p+1)
def AI{p}(o:1<=p)(h:p<ns.length):(Pe ns p).Perm ns:=by
 unfold Pe;have n:ns.getD p 0=ns[p]:=by grind
 have l:ns.getD (p-1) 0=ns[p-1]'(by lia):=by grind
 rw[n,l]
 have e:ns=ns.take (p-1)++[ns[p-1]'(by lia),ns[p]]++ns.drop (p+1):=by
  have f:ns.drop (p-1)=ns[p-1]'(by lia)::ns.drop (p-1+1):=QM (by lia);have g:p-1+1=p:=by lia
  rw[g,(QM h)]at f
  calc ns=ns.take (p-1)++ns.drop (p-1):=(List.take_append_drop _ _).symm
   _=_:=by rw[f];simp
 refine List.Perm.trans ?_ (List.Perm.of_eq e.symm);exact List.Perm.append_right _ (List.Perm.append_left _<|List.Perm.swap _ _ _)
def runI_mem:x∈Kf 1 n↔1<=x/\x<=n:=by
 unfold Kf;rw[Qj];constructor
 ·grind
 ·intro h;exact⟨(x-1).toNat,JF.mpr (by lia),by lia⟩
def B3(n:Nat):(Kf 1 n).length=n:=by unfold Kf;rw[WI,Jo]
end M
namespace Pu
open PySem PySem.Spec PyProof.Rows L2 Own
inductive D where
 |int (i:Int)|bl (b:Bool)|non|str (x:Str)|ty (n:String)|tup (ds:List D)|lst (ds:List D)|scr (ns:ZY)|dK (kvs:List (Key×V))|dT (kvs:List (List Key×V))|loc (a:Addr) (d:D)|err (C:Addr)|ref (a:Addr)|ins (C:Addr) (xs:Yf) (ds:List D)|dF (kvs:List (List Key×V))|erM (C:Addr) (r:ZY)|fL (ns:ZY)
mutual
inductive Rp (K:ZW) (H:Hp):D->V->Prop
 |int (i:Int):Rp K H (.int i) (.int i)
 |bl (b:Bool):Rp K H (.bl b) (.bl b)
 |non:Rp K H .non .non
 |str (x:Str):Rp K H (.str x) (.str x)
 |ty (n:String):Rp K H (.ty n) (.ty n)
 |tup {ds:List D} {vs:List V} {a:Addr}:H a=some (.tup vs)->Rps K H ds vs->Rp K H (.tup ds) (.ref a)
 |lst {ds:List D} {vs:List V} {a:Addr}:H a=some (.lst vs)->Rps K H ds vs->Rp K H (.lst ds) (.ref a)
 |scr {ns:ZY} {a:Addr}:SqL K H a (ns.map V.int)->Rp K H (.scr ns) (.ref a)
 |dK {kvs:List (Key×V)} {a:Addr}:H a=some (.dK kvs)->Rp K H (.dK kvs) (.ref a)
 |dT {kvs:List (List Key×V)} {a:Addr}:H a=some (.dT kvs)->Rp K H (.dT kvs) (.ref a)
 |dF {kvs:List (List Key×V)} {o:Obj} {a:Addr}:H a=some (.frz o<|.dT kvs)->Rp K H (.dF kvs) (.ref a)
 |loc {d:D} {a:Addr}:Rp K H d (.ref a)->Rp K H (.loc a d) (.ref a)
 |err {C a:Addr}:H a=some (ExcR.Zdt a C)->Rp K H (.err C) (.ref a)
 |ref (a:Addr):Rp K H (.ref a) (.ref a)
 |erM {C a dx l:Addr} {o:Obj} {r:ZY}:H a=some (ExcR.Ej a C<|some dx)->H dx=some (.xd [("members",.ref l)])->H l=some (.frz o<|.lst<|r.map V.int)->Rp K H (.erM C r) (.ref a)
 |fL {a:Addr} {o:Obj} {ns:ZY}:H a=some (.frz o<|.lst<|ns.map V.int)->Rp K H (.fL ns) (.ref a)
 |ins {C a dx:Addr} {xs:Yf} {ds:List D} {vs:List V}:H a=some (.ins C dx<|xs.zip vs)->xs.length=vs.length->Rps K H ds vs->Rp K H (.ins C xs ds) (.ref a)
inductive Rps (K:ZW) (H:Hp):List D->List V->Prop
 |nil:Rps K H [] []
 |cons {d:D} {v:V} {ds:List D} {vs:List V}:Rp K H d v->Rps K H ds vs->Rps K H (d::ds) (v::vs)
end
section
variable {K:ZW}{H H':Hp}
def Rp.mono (S:Same H H') {d:D}{v:V}:Rp K H d v->Rp K H' d v:=
 Rp.rec (motive_1:=λd v _=>Rp K H' d v) (motive_2:=λg f _=>Rps K H' g f) .int .bl .non .str .ty (λh _ r=>.tup (S _ _ h) r) (λh _ r=>.lst (S _ _ h) r) (λh=>.scr (S.seq h)) (λh=>.dK (S _ _ h)) (λh=>.dT (S _ _ h)) (λh=>.dF (S _ _ h)) (λ_ h=>.loc h) (λh=>.err (S _ _ h)) .ref (λa b c=>.erM (S _ _ a) (S _ _ b) (S _ _ c)) (λh=>.fL (S _ _ h)) (λh e _ r=>.ins (S _ _ h) e r) .nil λ_ _=>.cons
def Rps.mono (S:Same H H') {ds:List D}:∀{vs:List V},Rps K H ds vs->Rps K H' ds vs:=by
 induction ds with
 |nil=>intro _ h;cases h;exact .nil
 |cons _ _ f=>intro _ h;cases h with|cons a b=>exact .cons (Rp.mono S a) (f b)
def Rps.len:∀{ds}{vs:List V},Rps K H ds vs->vs.length=ds.length:=by
 intro ds
 induction ds with
 |nil=>
  intro _ h;cases h
  rfl
 |cons _ _ f=>
  intro _ h;cases h with
  |cons h r=>
   exact Q4 (· + 1) (f r)
def Rps.get:∀{ds vs}{i:Nat}{d:D},Rps K H ds vs->ds[i]?=some d->∃v,vs[i]?=some v/\Rp K H d v:=by
 intro ds
 induction ds with
 |nil=>
  intro _ i _ h e;simp at e
 |cons _ _ f=>
  intro _ i d h e;cases h with
  |cons h r=>
   cases i with
   |zero=>
    simp at e;subst e;exact⟨_,rfl,h⟩
   |succ i=>
    obtain⟨v,l,g⟩:=f r (by simpa using e);exact⟨v,by simpa using l,g⟩
def Rps.append:∀{ds es}{vs us:List V},Rps K H ds vs->Rps K H es us->Rps K H (ds++es) (vs++us):=by
 intro ds
 induction ds with
 |nil=>
  intro _ _ _ h s;cases h
  exact s
 |cons _ _ f=>
  intro _ _ _ h s;cases h with
  |cons h r=>
   exact .cons h (f r s)
theorem Rps.drop:∀{ds vs} n,Rps K H ds vs->Rps K H (ds.drop n) (vs.drop n)
 |_,_,0,r=>r
 |_,_,_+1,.nil=>.nil
 |_,_,n+1,.cons _ r=>Rps.drop n r
theorem Rps.take:∀{ds vs} n,Rps K H ds vs->Rps K H (ds.take n) (vs.take n)
 |_,_,0,_|_,_,_+1,.nil=>.nil
 |_,_,n+1,.cons h r=>.cons h (Rps.take n r)
end
mutual
noncomputable def imm:D->Bool
 | .tup f=>XF f
 | .lst _=>false
 | .scr _=>false
 | .dK _=>false
 | .dT _=>false
 | .loc _ _=>false
 | .err _=>false
 | .erM _ _=>false
 | .ins _ _ _=>false
 |_=>true
noncomputable def XF:List D->Bool
 |[]=>true
 |d::r=>imm d&&XF r
end
open Classical in
noncomputable def off(Z:Addr->Prop)(H:Hp):Hp:=λb=>if Z b then none else H b
section
variable {K:ZW}{H H':Hp}{Z Z':Addr->Prop}
def Pn(h:off Z H b=some o):H b=some o/\¬Z b:=by
 unfold off at h;by_cases z:Z b
 ·grind
 ·grind
def XQ(h:H b=some o)(z:¬Z b):off Z H b=some o:=by
 unfold off
 grind
def Xs(S:Same H H')(g:∀b o,H b=some o->¬Z b->¬Z' b):Same (off Z H) (off Z' H'):=λb o h=>by
 obtain⟨f,l⟩:=Pn h;exact XQ (S b o f) (g b o f l)
def off_sub:Same (off Z H) H:=λ_ _ h=>(Pn h).1
def Rp.off (s:∀b,Z b->Mut (H b)) {d:D}{v:V}:Rp K H d v->imm d=true->Rp K (off Z H) d v:=by
 have g:∀{a o},H a=some o->¬Mut (some o)->Pu.off Z H a=some o:=λh n=>XQ h λz=>n (h▸s _ z);have f:∀{d} {P:Prop},imm d=false->imm d=true->P:=λh e=>by rw[h]at e;cases e
 exact Rp.rec (motive_1:=λd v _=>imm d=true->Rp K (Pu.off Z H) d v) (motive_2:=λl p _=>XF l=true->Rps K (Pu.off Z H) l p) (λi _=>.int i) (λb _=>.bl b) (λ_=>.non) (λx _=>.str x) (λn _=>.ty n) (λh _ r e=>.tup (g h id) (r<|by unfold imm at e;exact e)) (λ_ _ _=>f (by unfold imm;rfl)) (λ_=>f (by unfold imm;rfl)) (λ_=>f (by unfold imm;rfl)) (λ_=>f (by unfold imm;rfl)) (λh _=>.dF (g h id)) (λ_ _=>f (by unfold imm;rfl)) (λ_=>f (by unfold imm;rfl)) (λa _=>.ref a) (λ_ _ _=>f (by unfold imm;rfl)) (λh _=>.fL (g h id)) (λ_ _ _ _=>f (by unfold imm;rfl)) (λ_=>.nil) (λ_ _ a b e=>by
  unfold XF at e;rw[Qr]at e;exact .cons (a e.1) (b e.2))
def Rps.off (g:∀b,Z b->Mut (H b)) {ds:List D}:∀{vs:List V},Rps K H ds vs->XF ds=true->Rps K (off Z H) ds vs:=by
 induction ds with
 |nil=>intro _ h _;cases h;exact .nil
 |cons _ _ f=>
  intro _ h e;unfold XF at e;rw[Qr]at e;cases h with|cons a b=>exact .cons (Rp.off g a e.1) (f b e.2)
end
inductive O where
 |lst (ds:List D)|dK (kvs:List (Key×V))|dT (kvs:List (List Key×V))|ins (a C:Addr) (xs:Yf) (cs:List (Addr×List D))|lsA (a:Addr) (ds:List D)|nst (cs:List (Addr×List D))|nsl (a:Addr) (cs:List (Addr×List D))
instance:Coe (List D) O:=⟨O.lst⟩
noncomputable def O.d:O->D
 | .lst h=>.lst h | .dK f=>.dK f | .dT f=>.dT f | .ins _ C xs g=>.ins C xs (g.map λc=>.lst c.2) | .lsA _ h=>.lst h | .nst g=>.tup (g.map λc=>.lst c.2) | .nsl _ g=>.lst (g.map λc=>.lst c.2)
def O.adr (a:Addr):O->Addr->Prop
 | .lst _=>λb=>b=a
 | .dK _=>λb=>b=a
 | .dT _=>λb=>b=a
 | .ins x _ _ f=>λb=>b=x\/∃c∈f,b=c.1
 | .lsA x _=>λb=>b=x
 | .nst f=>λb=>∃c∈f,b=c.1
 | .nsl x f=>λb=>b=x\/∃c∈f,b=c.1
def OR(K:ZW)(F H:Hp)(a:Addr):O->Prop
 | .lst l=>∃f,H a=some (.lst f)/\Rps K F l f
 | .dK h=>H a=some (.dK h)
 | .dT h=>H a=some (.dT h)
 | .lsA x l=>a=x/\∃f,H a=some (.lst f)/\Rps K F l f
 | .ins x C xs g=>a=x/\xs.length=g.length/\(∃n,H a=some (.ins C n<|xs.zip (g.map λc=>V.ref c.1)))/\(∀c∈g,∃f,H c.1=some (.lst f)/\Rps K F c.2 f)/\(g.map (·.1)).Nodup
 | .nsl x g=>a=x/\H a=some (.lst (g.map λc=>V.ref c.1))/\(∀c∈g,∃f,H c.1=some (.lst f)/\Rps K F c.2 f)/\(x::g.map (·.1)).Nodup
 | .nst g=>F a=some (.tup (g.map λc=>V.ref c.1))/\(∀c∈g,∃f,H c.1=some (.lst f)/\Rps K F c.2 f)/\(g.map (·.1)).Nodup
def OR.mono {K F z H H'}{a o} (s:Same F z) (r:∀b,o.adr a b->∀x,H b=some x->H' b=some x) (h:OR K F H a o):OR K z H' a o:=by
 cases o with
 |lst B=>obtain⟨f,n,g⟩:=h;exact⟨f,r _ rfl _ n,Rps.mono s g⟩
 |lsA x B=>obtain⟨rfl,f,n,g⟩:=h;exact⟨rfl,f,r _ rfl _ n,Rps.mono s g⟩
 |nsl x y=>
  obtain⟨e,n,g,w⟩:=h;exact⟨e,r _ (.inl e) _ n,λc p=>let ⟨f,v,u⟩:=g c p;⟨f,r _ (.inr ⟨c,p,rfl⟩) _ v,Rps.mono s u⟩,w⟩
 |nst y=>
  obtain⟨n,g,w⟩:=h;exact⟨s _ _ n,λc p=>let ⟨f,v,u⟩:=g c p;⟨f,r _ ⟨c,p,rfl⟩ _ v,Rps.mono s u⟩,w⟩
 |ins x C xs y=>
  obtain⟨e,l,⟨A,n⟩,g,w⟩:=h;exact⟨e,l,⟨A,r _ (.inl e) _ n⟩,λc p=>let ⟨f,v,u⟩:=g c p;⟨f,r _ (.inr ⟨c,p,rfl⟩) _ v,Rps.mono s u⟩,w⟩
 |_=>exact r _ rfl _ h
theorem TX{K F}:∀{f:List (Addr×List D)},(∀c∈f,∃vs,F c.1=some (.lst vs)/\Rps K F c.2 vs)->Rps K F (f.map λc=>.lst c.2) (f.map λc=>V.ref c.1)
 |[],_=>.nil
 |c::f,h=>let ⟨_,l,g⟩:=h c Q7;.cons (.lst l g) (TX λo n=>h o (Qo _ n))
def OR.rpIn {K F y H a o} (s:Same F y) (n:∀b,o.adr a b->∀x,H b=some x->y b=some x) (h:OR K F H a o):Rp K y o.d (.ref a):=by
 cases o with
 |lst B=>obtain⟨r,g,f⟩:=h;exact .lst (n _ rfl _ g) (Rps.mono s f)
 |dK w=>exact .dK (n _ rfl _ h)
 |dT w=>exact .dT (n _ rfl _ h)
 |lsA x B=>obtain⟨rfl,r,g,f⟩:=h;exact .lst (n _ rfl _ g) (Rps.mono s f)
 |nsl x A=>
  obtain⟨e,g,f,z⟩:=h;exact .lst (n _ (.inl e) _ g) (TX λc p=>let ⟨r,v,u⟩:=f c p;⟨r,n _ (.inr ⟨c,p,rfl⟩) _ v,Rps.mono s u⟩)
 |nst A=>
  obtain⟨g,f,z⟩:=h;exact .tup (s _ _ g) (TX λc p=>let ⟨r,v,u⟩:=f c p;⟨r,n _ ⟨c,p,rfl⟩ _ v,Rps.mono s u⟩)
 |ins x C xs A=>
  obtain⟨e,l,⟨E,g⟩,f,z⟩:=h;exact .ins (n _ (.inl e) _ g) (by grind) (TX λc p=>let ⟨r,v,u⟩:=f c p;⟨r,n _ (.inr ⟨c,p,rfl⟩) _ v,Rps.mono s u⟩)
def OR.rp {K F H a o} (f:Same F H) (h:OR K F H a o):Rp K H o.d (.ref a):=h.rpIn f λ_ _ _ e=>e
def OR.mut {K F H a o} (h:OR K F H a o):∀b,o.adr a b->Mut (H b):=by
 cases o with
 |lst y=>obtain⟨u,g,p⟩:=h;intro b e;rw[show b=a from e,g];trivial
 |dK n=>intro b e;rw[show b=a from e,show H a=some (.dK n)from h];trivial
 |dT n=>intro b e;rw[show b=a from e,show H a=some (.dT n)from h];trivial
 |lsA x y=>obtain⟨rfl,u,g,p⟩:=h;intro b e;rw[show b=a from e,g];trivial
 |nsl x w=>
  obtain⟨e,g,p,v⟩:=h;intro b f;rcases f with f|⟨c,s,f⟩
  ·rw[show b=a from f.trans e.symm,g];trivial
  ·obtain⟨u,r,_⟩:=p c s;rw[f,r];trivial
 |nst w=>
  obtain⟨g,p,v⟩:=h;rintro b ⟨c,s,f⟩;obtain⟨u,r,_⟩:=p c s;rw[f,r];trivial
 |ins x C xs w=>
  obtain⟨e,l,⟨z,g⟩,p,v⟩:=h;intro b f;rcases f with f|⟨c,s,f⟩
  ·rw[show b=a from f.trans e.symm,g];trivial
  ·obtain⟨u,r,_⟩:=p c s;rw[f,r];trivial
inductive S where
 |bor (d:D)|sh (d:D)|own (o:O)|view (o:O)|tmp (d:D)
abbrev Γ:=List (Option S)
noncomputable def D.strip:D->D
 | .loc _ d=>d|d=>d
def Rp.strip {K H d v} (h:Rp K H d v):Rp K H d.strip v:=by
 cases h with
 |loc h=>exact h
 |int i=>exact .int i
 |bl b=>exact .bl b
 |non=>exact .non
 |str x=>exact .str x
 |ty n=>exact .ty n
 |tup h r=>exact .tup h r
 |lst h r=>exact .lst h r
 |scr h=>exact .scr h
 |dK h=>exact .dK h
 |dT h=>exact .dT h
 |dF h=>exact .dF h
 |err h=>exact .err h
 |ref a=>exact .ref a
 |erM l g f=>exact .erM l g f
 |fL h=>exact .fL h
 |ins h e r=>exact .ins h e r
noncomputable def S.d:S->D
 | .bor d=>d.strip | .sh d=>d | .own o=>o.d | .view o=>o.d | .tmp d=>d
noncomputable def arg(d:D):S:=match imm d with|true=>.sh d|false=>.bor d
noncomputable def K9(d:D):S:=match imm d with|true=>.sh d|false=>.tmp d
noncomputable def S.sub:S->D->S
 | .bor _,e=>arg e | .tmp _,e=>K9 e | .own (.nst _),e=>K9 e | .view (.nst _),e=>K9 e | .own (.nsl _ _),e=>K9 e | .view (.nsl _ _),e=>K9 e|_,e=>.sh e
noncomputable def S.shd:S->Option D
 | .sh d=>some d | .own o=>some o.d
 | .bor d=>match imm d with|true=>some d|false=>none
 | .tmp d=>match imm d with|true=>some d|false=>none
 | .view _=>none
noncomputable def S.slot:S->Option S
 | .view _=>none | .bor d=>some (.bor d) | .sh d=>some (.sh d) | .own f=>some (.own f)
 | .tmp d=>match imm d with|true=>some (.sh d)|false=>none
def La(h:Γ)(g:L2.St)(b:Addr):Prop:=∃(i:Nat) (f:O) (a:Addr),h[i]?=some (some<|.own f)/\g[i]?=some (some<|.ref a)/\f.adr a b
def zof(B:Addr->Prop)(g:Γ)(f:L2.St):Addr->Prop:=λb=>B b\/La g f b
def SV(K:ZW)(Z:Addr->Prop)(f H:Hp):S->V->Prop
 | .bor d,v=>Rp K f d v
 | .sh d,v=>Rp K (off Z H) d v
 | .own o,v=>∃a,v=.ref a/\(∀b,o.adr a b->f b=none)/\OR K (off Z H) H a o
 |_,_=>False
def TV(K:ZW)(Z:Addr->Prop)(f H H':Hp):S->V->Prop
 | .bor d,v=>Rp K f d v
 | .sh d,v=>Rp K (off Z H') d v
 | .own o,v=>∃a,v=.ref a/\(∀b,o.adr a b->H b=none)/\OR K (off (λb=>Z b\/o.adr a b) H') H' a o
 | .view o,v=>∃a,v=.ref a/\OR K (off Z H') H' a o
 | .tmp d,v=>Rp K H' d v
structure Xk (K:ZW) (H0:Hp) (B:Addr->Prop) (H:Hp) (σ:L2.St) (γ:Γ):Prop where
 same:Same H0 H
 len:σ.length=γ.length
 bm:∀b,B b->Mut (H b)
 own:∀(i j:Nat) (a a':Addr) (ds es:O) (b:Addr),γ[i]?=some (some<|.own ds)->γ[j]?=some (some<|.own es)->σ[i]?=some (some<|.ref a)->σ[j]?=some (some<|.ref a')->ds.adr a b->es.adr a' b->i=j
 slot:∀(i:Nat) (s:S),γ[i]?=some (some s)->∃v,σ[i]?=some (some v)/\SV K (zof B γ σ) H0 H s v
section
variable {K:ZW}{H0 H H1 H':Hp}{B Z Z':Addr->Prop}{σ:L2.St}{γ:Γ}
def Px(S:Same H H'){b}(h:Mut (H b)):Mut (H' b):=by
 cases e:H b with
 |none=>rw[e]at h;exact h.elim
 |some o=>rw[S b o e,←e];exact h
def Tw(h:Mut (H b)):∃o,H b=some o:=by
 cases e:H b with
 |none=>rw[e]at h;exact h.elim
 |some o=>grind
def Xk.grow (E:Xk K H0 B H σ γ) (S:Same H H'):Xk K H0 B H' σ γ where
 same:=E.same.trans S
 len:=E.len
 bm b h:=Px S (E.bm b h)
 own:=E.own
 slot i s h:=by
  obtain⟨v,h1,h2⟩:=E.slot i s h;refine⟨v,h1,?_⟩;cases s with
  |bor d=>trivial
  |sh d=>exact Rp.mono (Xs S λ_ _ _ z=>z) h2
  |own ds=>
   obtain⟨a,e1,e3,e4⟩:=h2;exact⟨a,e1,e3,e4.mono (Xs S λ_ _ _ z=>z) λb _ x=>S b x⟩
  |_=>exact h2
def Xk.zm (E:Xk K H0 B H σ γ):∀b,zof B γ σ b->Mut (H b):=λb h=>by
 rcases h with h|⟨i,s,x,n,l,g⟩
 ·exact E.bm b h
 ·obtain⟨v,f,a,p,r,o⟩:=E.slot i _ n;rw[l]at f;cases f
  cases p
  exact o.mut b g
def TV.rp (f:Same H0 H') (h:TV K Z H0 H H' s v):Rp K H' s.d v:=by
 cases s with
 |bor d=>exact(Rp.mono f h).strip
 |sh d=>exact Rp.mono off_sub h
 |own g=>
  obtain⟨a,rfl,_,r⟩:=h;exact r.rp off_sub
 |view g=>
  obtain⟨a,rfl,r⟩:=h;exact r.rp off_sub
 |tmp d=>exact h
def TV.grow (f:Same H' H1) (h:TV K Z H0 H H' s v):TV K Z H0 H H1 s v:=by
 cases s with
 |bor d=>exact h
 |sh d=>exact Rp.mono (Xs f λ_ _ _ z=>z) h
 |own l=>
  obtain⟨a,rfl,g,r⟩:=h;exact⟨a,rfl,g,r.mono (Xs f λ_ _ _ z=>z) λb _ x=>f b x⟩
 |view l=>
  obtain⟨a,rfl,r⟩:=h;exact⟨a,rfl,r.mono (Xs f λ_ _ _ z=>z) λb _ x=>f b x⟩
 |tmp d=>exact Rp.mono f h
def TV.weak (o:Same H H1) (f:∀b,Z b->Z' b) (h:TV K Z' H0 H1 H' s v):TV K Z H0 H H' s v:=by
 cases s with
 |sh d=>exact Rp.mono (Xs (Same.refl _) λb _ _ z y=>z (f b y)) h
 |own n=>
  obtain⟨a,rfl,l,r⟩:=h;exact⟨a,rfl,λb g=>o.free (l b g),r.mono (Xs (Same.refl _) λb _ _ z y=>z (y.imp (f b) id)) λ_ _ _ q=>q⟩
 |view n=>
  obtain⟨a,rfl,r⟩:=h;exact⟨a,rfl,r.mono (Xs (Same.refl _) λb _ _ z y=>z (f b y)) λ_ _ _ q=>q⟩
 |_=>exact h
def TV.shd (o:Same H0 H') (l:∀b,Z b->Mut (H b)) (w:Same H H') (h:TV K Z H0 H H' s v) (e:s.shd=some d):Rp K (off Z H') d v:=by
 have f:=λb z=>Px w (l b z);cases s with
 |bor g=>
  unfold S.shd at e;cases q:imm g with
  |false=>simp_all
  |true=>
   simp[q]at e;subst e;exact Rp.off f (Rp.mono o h) q
 |sh g=>cases e;exact h
 |own u=>
  cases e
  obtain⟨a,rfl,p,r⟩:=h;exact r.rpIn (Xs (Same.refl _) λb _ _ z y=>z (.inl y)) λb n x e=>XQ e λz=>by have:=l _ z;rw[p b n]at this;exact this
 |view u=>cases e
 |tmp g=>
  unfold S.shd at e;cases q:imm g with
  |false=>simp[q]at e
  |true=>
   simp[q]at e;subst e;exact Rp.off f h q
def N3(f:∀b,Z b->Mut (H' b))(g:Same H0 H')(h:Rp K H0 d v):TV K Z H0 H H' (arg d) v:=by
 unfold arg;cases q:imm d with
 |true=>exact Rp.off f (Rp.mono g h) q
 |false=>exact h
def Tj(f:∀b,Z b->Mut (H' b))(h:Rp K H' d v):TV K Z H0 H H' (K9 d) v:=by
 unfold K9;cases q:imm d with
 |true=>exact Rp.off f h q
 |false=>exact h
def Rp.lst_inv (h:Rp K H (.lst ds) v):∃a vs,v=.ref a/\H a=some (.lst vs)/\Rps K H ds vs:=by
 cases h with
 |lst h r=>grind
def Rp.tup_inv (h:Rp K H (.tup ds) v):∃a vs,v=.ref a/\H a=some (.tup vs)/\Rps K H ds vs:=by
 cases h with
 |tup h r=>grind
def TV.part (E:Same H0 H') (N:∀b,Z b->Mut (H b)) (Q:Same H H') (h:TV K Z H0 H H' s v) :
  (∀ds,s.d=.lst ds->∃a vs,v=.ref a/\H' a=some (.lst vs)/\vs.length=ds.length/\∀(i:Nat) d,ds[i]?=some d->∃u,vs[i]?=some u/\TV K Z H0 H H' (s.sub d) u)/\
  (∀ds,s.d=.tup ds->∃a vs,v=.ref a/\H' a=some (.tup vs)/\vs.length=ds.length/\∀(i:Nat) d,ds[i]?=some d->∃u,vs[i]?=some u/\TV K Z H0 H H' (s.sub d) u):=by
 have l:=λb z=>Px Q (N b z);cases s with
 |bor d=>
  have h:=Rp.strip h;refine⟨λds e=>?_,λds e=>?_⟩<;>rw[show d.strip=_ from e]at h
  ·obtain⟨a,vs,rfl,h,r⟩:=Rp.lst_inv h;exact⟨_,_,rfl,E _ _ h,r.len,λi d e=>let ⟨u,g,f⟩:=r.get e;⟨u,g,N3 l E f⟩⟩
  ·obtain⟨a,vs,rfl,h,r⟩:=Rp.tup_inv h;exact⟨_,_,rfl,E _ _ h,r.len,λi d e=>let ⟨u,g,f⟩:=r.get e;⟨u,g,N3 l E f⟩⟩
 |sh d=>
  refine⟨λds e=>?_,λds e=>?_⟩<;>(have L:=e;subst L)
  ·obtain⟨a,vs,rfl,h,r⟩:=Rp.lst_inv h;exact⟨_,_,rfl,off_sub _ _ h,r.len,λi d e=>r.get e⟩
  ·obtain⟨a,vs,rfl,h,r⟩:=Rp.tup_inv h;exact⟨_,_,rfl,off_sub _ _ h,r.len,λi d e=>r.get e⟩
 |own w=>
  cases w with
  |lst w=>
   refine⟨λds e=>?_,λds e=>by cases e⟩;cases e
   obtain⟨a,rfl,J,vs,e,r⟩:=h;exact⟨a,vs,rfl,e,r.len,λi d e=>let ⟨u,g,f⟩:=r.get e;⟨u,g,Rp.mono (Xs (Same.refl _) λb _ _ z y=>z (.inl y)) f⟩⟩
  |lsA x w=>
   refine⟨λds e=>?_,λds e=>by cases e⟩;cases e
   obtain⟨a,rfl,J,_,vs,e,r⟩:=h;exact⟨a,vs,rfl,e,r.len,λi d e=>let ⟨u,g,f⟩:=r.get e;⟨u,g,Rp.mono (Xs (Same.refl _) λb _ _ z y=>z (.inl y)) f⟩⟩
  |nsl x M=>
   refine⟨λds e=>?_,λds e=>by cases e⟩;cases e
   obtain⟨a,rfl,J,_,C,A,G⟩:=h;have r:=TX λc p=>let ⟨vs,o,n⟩:=A c p;⟨vs,o,Rps.mono off_sub n⟩;exact⟨a,_,rfl,C,r.len,λi d e=>let ⟨u,g,f⟩:=r.get e;⟨u,g,Tj l f⟩⟩
  |nst M=>
   refine⟨(λds e=>by cases e),λds e=>?_⟩;cases e
   obtain⟨a,rfl,J,C,A,G⟩:=h;have r:=TX λc p=>let ⟨vs,o,n⟩:=A c p;⟨vs,o,Rps.mono off_sub n⟩;exact⟨a,_,rfl,off_sub _ _ C,r.len,λi d e=>let ⟨u,g,f⟩:=r.get e;⟨u,g,Tj l f⟩⟩
  |_=>exact⟨(λds e=>by cases e),(λds e=>by cases e)⟩
 |view w=>
  cases w with
  |lst w=>
   refine⟨λds e=>?_,λds e=>by cases e⟩;cases e
   obtain⟨a,rfl,vs,e,r⟩:=h;exact⟨a,vs,rfl,e,r.len,λi d e=>r.get e⟩
  |lsA x w=>
   refine⟨λds e=>?_,λds e=>by cases e⟩;cases e
   obtain⟨a,rfl,_,vs,e,r⟩:=h;exact⟨a,vs,rfl,e,r.len,λi d e=>r.get e⟩
  |nsl x M=>
   refine⟨λds e=>?_,λds e=>by cases e⟩;cases e
   obtain⟨a,rfl,_,C,A,G⟩:=h;have r:=TX λc p=>let ⟨vs,o,n⟩:=A c p;⟨vs,o,Rps.mono off_sub n⟩;exact⟨a,_,rfl,C,r.len,λi d e=>let ⟨u,g,f⟩:=r.get e;⟨u,g,Tj l f⟩⟩
  |nst M=>
   refine⟨(λds e=>by cases e),λds e=>?_⟩;cases e
   obtain⟨a,rfl,C,A,G⟩:=h;have r:=TX λc p=>let ⟨vs,o,n⟩:=A c p;⟨vs,o,Rps.mono off_sub n⟩;exact⟨a,_,rfl,off_sub _ _ C,r.len,λi d e=>let ⟨u,g,f⟩:=r.get e;⟨u,g,Tj l f⟩⟩
  |_=>exact⟨(λds e=>by cases e),(λds e=>by cases e)⟩
 |tmp d=>
  refine⟨λds e=>?_,λds e=>?_⟩<;>(have L:=e;subst L)
  ·obtain⟨a,vs,rfl,h,r⟩:=Rp.lst_inv h;exact⟨_,_,rfl,h,r.len,λi d e=>let ⟨u,g,f⟩:=r.get e;⟨u,g,Tj l f⟩⟩
  ·obtain⟨a,vs,rfl,h,r⟩:=Rp.tup_inv h;exact⟨_,_,rfl,h,r.len,λi d e=>let ⟨u,g,f⟩:=r.get e;⟨u,g,Tj l f⟩⟩
def Fr(B:Addr->Prop)(H:Hp)(σ:L2.St)(γ:Γ)(H':Hp)(f:L2.St)(g:Γ):Prop:=∀b o,H b=some o->¬zof B γ σ b->H' b=some o/\¬zof B g f b
def Fr.refl:Fr B H σ γ H σ γ:=λ_ _ h z=>⟨h,z⟩
def Fr.trans {H1 p g f n l} (a:Fr B H σ γ H1 g n) (b:Fr B H1 g n p f l):Fr B H σ γ p f l:=λx o h z=>let ⟨s,r⟩:=a x o h z;b x o s r
def Fr.grow (f:Same H H'):Fr B H σ γ H' σ γ:=λ_ _ h z=>⟨f _ _ h,z⟩
def Fr.off {H'}{σ'}{γ'} (f:Fr B H σ γ H' σ' γ'):Same (off (zof B γ σ) H) (Pu.off (zof B γ' σ') H'):=λb o h=>by
 obtain⟨p,n⟩:=Pn h;obtain⟨l,g⟩:=f b o p n;exact XQ l g
def XN{f:Type}{l:List f}{i j}{x y}(h:(l.set i x)[j]?=some y):(j=i/\x=y/\i<l.length)\/(j≠i/\l[j]?=some y):=by grind
def FG{f:Type}{l:List f}{i}{x}(h:i<l.length):(l.set i x)[i]?=some x:=by grind
def N2{f:Type}{l:List f}{i j}{x}(h:j≠i):(l.set i x)[j]?=l[j]?:=by grind
def Xk.drop (E:Xk K H0 B H σ γ) (i:Nat):Xk K H0 B H σ (γ.set i none)/\Fr B H σ γ H σ (γ.set i none):=by
 have p:∀b,zof B (γ.set i none) σ b->zof B γ σ b:=λb z=>z.imp id λ⟨j,l,a,g,f,u⟩=>by
  rcases XN g with⟨_,e,_⟩|⟨_,e⟩
  ·grind
  ·exact⟨j,l,a,e,f,u⟩
 refine⟨⟨E.same,by rw[QJ];exact E.len,E.bm,λk j a G l w b g f=>?_,λk s h=>?_⟩,λb o h z=>⟨h,λy=>z (p b y)⟩⟩
 ·rcases XN g with⟨_,e,_⟩|⟨_,n⟩
  ·cases e
  ·rcases XN f with⟨_,e,_⟩|⟨_,C⟩
   ·cases e
   ·exact E.own k j a G l w b n C
 ·rcases XN h with⟨_,e,_⟩|⟨_,e⟩
  ·cases e
  ·obtain⟨v,g,f⟩:=E.slot k s e;refine⟨v,g,?_⟩;have r:Same (Pu.off (zof B γ σ) H) (Pu.off (zof B (γ.set i none) σ) H):=Xs (Same.refl _) λb _ _ z y=>z (p b y);cases s with
   |sh d=>exact Rp.mono r f
   |own l=>
    obtain⟨a,n,A,x⟩:=f;exact⟨a,n,A,x.mono r λ_ _ _ q=>q⟩
   |_=>exact f
def Xk.put {s L}{v} (E:Xk K H0 B H σ γ) (S1:Same H H') (h:TV K (zof B γ σ) H0 H H' s v) (e:s.slot=some L) (hi:i<γ.length) :
  Xk K H0 B H' (σ.set i<|some v) (γ.set i<|some L)/\Fr B H σ γ H' (σ.set i<|some v) (γ.set i<|some L):=by
 have n:i<σ.length:=by rw[E.len];exact hi
 have E':=E.grow S1
 have isown:∀f,L=.own f->s=.own f:=λf q=>by
  subst q;cases s with
  |own J=>cases e;rfl
  |tmp d=>unfold S.slot at e;cases q:imm d<;>simp[q]at e
  |_=>cases e
 have l:∀b,zof B (γ.set i<|some L) (σ.set i<|some v) b->zof B γ σ b\/∃f a,s=.own f/\v=.ref a/\f.adr a b:=λb z=>by
  rcases z with z|⟨j,f,a,h1,G,A⟩
  ·exact .inl (.inl z)
  ·rcases XN h1 with⟨Y,g,_⟩|⟨T,g⟩
   ·subst Y;rw[FG n]at G
    have:=Qc g
    exact .inr ⟨f,a,isown f this,Qc (Qc G),A⟩
   ·rw[N2 T]at G;exact .inl (.inr ⟨j,f,a,g,G,A⟩)
 have fresh:∀f a b,s=.own f->v=.ref a->f.adr a b->H b=none:=λf a b J ev p=>by
  subst J;obtain⟨a',g,e0,_⟩:=h;rw[ev]at g;cases g
  exact e0 b p
 have hz:∀b o,H b=some o->¬zof B γ σ b->¬zof B (γ.set i<|some L) (σ.set i<|some v) b:=λb o p z y=>by
  rcases l b y with y|⟨f,a,y1,y2,y3⟩
  ·exact z y
  ·rw[fresh f a b y1 y2 y3]at p;cases p
 have So:=Xs S1 hz;refine⟨⟨E'.same,by rw[QJ,QJ];exact E.len,E'.bm,λk j a a' f J b h1 G A M h5 h6=>?_,λk u hk=>?_⟩,λb o p z=>⟨S1 b o p,hz b o p z⟩⟩
 ·have Q:∀(k:Nat) f a b,γ[k]?=some (some<|.own f)->σ[k]?=some (some<|.ref a)->f.adr a b->∃o,H b=some o:=λk f a b g C e3=>by
   obtain⟨u,q1,a',N,_,q3⟩:=E.slot k _ g;rw[C]at q1;cases q1
   cases N
   exact Tw (q3.mut b e3)
  rcases XN h1 with⟨ek,g,_⟩|⟨nk,g⟩
  ·rcases XN G with⟨Y,C,_⟩|⟨T,C⟩
   ·rw[ek,Y]
   ·subst ek;rw[FG n]at A;rw[N2 T]at M;obtain⟨o,U⟩:=Q j J a' b C M h6;rw[fresh f a b (isown f<|Qc g) (Qc<|Qc A) h5]at U;cases U
  ·rcases XN G with⟨Y,C,_⟩|⟨T,C⟩
   ·subst Y;rw[FG n]at M;rw[N2 nk]at A;obtain⟨o,U⟩:=Q k f a b g A h5;rw[fresh J a' b (isown J<|Qc C) (Qc<|Qc M) h6]at U;cases U
   ·rw[N2 nk]at A;rw[N2 T]at M;exact E.own k j a a' f J b g C A M h5 h6
 ·rcases XN hk with⟨ek,g,_⟩|⟨nk,g⟩
  ·subst ek
   have:=(Qc g).symm
   subst this;refine⟨v,FG n,?_⟩;cases s with
   |own f=>
    cases e
    obtain⟨a,rfl,e0,r⟩:=h;refine⟨a,rfl,λb p=>E.same.free (e0 b p),r.mono (Xs (Same.refl _) λb o _ z y=>?_) λ_ _ _ q=>q⟩;rcases l b y with y|⟨_,_,y1,y,y2⟩
    ·exact z (.inl y)
    ·cases y;cases y1;exact z (.inr y2)
   |sh d=>
    cases e
    refine Rp.mono (Xs (Same.refl _) λb o _ z y=>?_) h;rcases l b y with y|⟨_,_,y,_⟩
    ·exact z y
    ·cases y
   |bor d=>cases e;exact h
   |view d=>cases e
   |tmp d=>
    unfold S.slot at e;cases q:imm d with
    |false=>simp[q]at e
    |true=>
     simp[q]at e;subst e;refine Rp.off (λb y=>?_) h q;rcases l b y with y|⟨_,_,y,_⟩
     ·exact Px S1 (E.zm b y)
     ·cases y
  ·obtain⟨w,q1,N⟩:=E.slot k u g;refine⟨w,by rw[N2 nk];exact q1,?_⟩;cases u with
   |sh d=>exact Rp.mono So N
   |own f=>
    obtain⟨a,g,e3,e4⟩:=N;exact⟨a,g,e3,e4.mono So λb _ x=>S1 b x⟩
   |_=>exact N
noncomputable def frz(i:Nat)(γ:Γ):Γ:=match γ[i]? with
 |some (some<|.own o)=>γ.set i (some<|.sh o.d)
 |_=>γ
def Xk.frz (E:Xk K H0 B H σ γ) (hB:∀b,B b->∃o,H0 b=some o) (i:Nat):Xk K H0 B H σ (frz i γ)/\Fr B H σ γ H σ (Pu.frz i γ):=by
 unfold Pu.frz;split
 ·rename_i p J
  have G:∀b,zof B (γ.set i<|some<|.sh p.d) σ b->zof B γ σ b:=λb z=>z.imp id λ⟨j,l,a,g,f,L⟩=>by
   rcases XN g with⟨_,e,_⟩|⟨_,e⟩
   ·cases e
   ·exact⟨j,l,a,e,f,L⟩
  have C:Same (Pu.off (zof B γ σ) H) (Pu.off (zof B (γ.set i<|some<|.sh p.d) σ) H):=Xs (Same.refl _) λb _ _ z y=>z (G b y);refine⟨⟨E.same,by rw[QJ];exact E.len,E.bm,λk j a A l r b g f=>?_,λk s h=>?_⟩,λb o h z=>⟨h,λy=>z (G b y)⟩⟩
  ·rcases XN g with⟨_,e,_⟩|⟨_,n⟩
   ·cases e
   ·rcases XN f with⟨_,e,_⟩|⟨_,w⟩
    ·cases e
    ·exact E.own k j a A l r b n w
  ·rcases XN h with⟨T,e,_⟩|⟨Y,e⟩
   ·subst T
    have:=Qc e
    subst this;obtain⟨v,g,a,rfl,L,Q⟩:=E.slot k _ J;refine⟨_,g,Q.rpIn C λb N x f=>XQ f λz=>?_⟩;rcases z with z|⟨j,l,A,n,w,u⟩
    ·grind
    ·rcases XN n with⟨_,q,_⟩|⟨M,q⟩
     ·cases q
     ·exact M (E.own j k A a l p b q J w g u N)
   ·obtain⟨v,g,f⟩:=E.slot k s e;refine⟨v,g,?_⟩;cases s with
    |sh d=>exact Rp.mono C f
    |own p=>
     obtain⟨a,n,u,U⟩:=f;exact⟨a,n,u,U.mono C λ_ _ _ q=>q⟩
    |_=>exact f
 ·exact⟨E,Fr.refl⟩
def Xk.change {o o'} (E:Xk K H0 B H σ γ) (M:γ[i]?=some (some<|.own o)) (A:σ[i]?=some (some<|.ref a))
  (N:∀b x,H b=some x->¬o.adr a b->H' b=some x) (hm:∀b,o.adr a b->Mut (H' b)) (l:∀b,o'.adr a b->o.adr a b\/H b=none) (r:OR K (Pu.off (zof B (γ.set i<|some<|.own o') σ) H') H' a o') :
  Xk K H0 B H' σ (γ.set i<|some<|.own o')/\Fr B H σ γ H' σ (γ.set i<|some<|.own o'):=by
 obtain⟨v,h1,a',rfl,h3,h4⟩:=E.slot i _ M;rw[A]at h1;cases h1
 have za:∀b,o.adr a b->zof B γ σ b:=λb C=>.inr ⟨i,o,a,M,A,C⟩
 have hz:∀b x,H b=some x->zof B (γ.set i<|some<|.own o') σ b->zof B γ σ b:=λb x hx z=>by
  rcases z with z|⟨j,fs,a',U,p,n⟩
  ·exact .inl z
  ·rcases XN U with⟨T,q,_⟩|⟨_,e⟩
   ·subst T;cases q
    rw[A]at p;cases p
    rcases l b n with k|k
    ·exact za b k
    ·rw[k]at hx;cases hx
   ·exact .inr ⟨j,fs,a',e,p,n⟩
 have S1:=λb x h=>by
  obtain⟨g,f⟩:=Pn h;exact XQ (N b x g λk=>f (za b k)) λz=>f (hz b x g z)
 have J:∀(k:Nat) ds a b,γ[k]?=some (some<|.own ds)->σ[k]?=some (some<|.ref a)->ds.adr a b->∃o,H b=some o:=λk ds a b U p n=>by
  obtain⟨u,g,a',f,_,q3⟩:=E.slot k _ U;rw[p]at g;cases g
  cases f
  exact Tw (q3.mut b n)
 refine⟨⟨λb x h=>?_,by rw[QJ];exact E.len,λb C=>?_,λk j x x' fs Q b U p n G e5 e6=>?_,λk s h=>?_⟩,λb x h z=>⟨?_,λy=>z (hz b x h y)⟩⟩
 ·exact N b x (E.same b x h) λk=>by rw[h3 b k]at h;cases h
 ·by_cases k:o.adr a b
  ·exact hm b k
  ·have:=E.bm b C
   obtain⟨x,hx⟩:=Tw this;rwa[N b x hx k,←hx]
 ·rcases XN U with⟨Y,g,_⟩|⟨nk,g⟩
  ·rcases XN p with⟨T,_,_⟩|⟨nj,f⟩
   ·rw[Y,T]
   ·subst Y;cases g
    rw[A]at n;cases n
    rcases l b e5 with w|w
    ·exact E.own k j _ _ _ _ b M f A G w e6
    ·obtain⟨u,L⟩:=J j Q x' b f G e6;rw[w]at L;cases L
  ·rcases XN p with⟨T,f,_⟩|⟨nj,f⟩
   ·subst T;cases f
    rw[A]at G;cases G
    rcases l b e6 with w|w
    ·exact E.own k j _ _ _ _ b g M n A e5 w
    ·obtain⟨u,L⟩:=J k fs x b g n e5;rw[w]at L;cases L
   ·exact E.own k j x x' fs Q b g f n G e5 e6
 ·rcases XN h with⟨Y,e,_⟩|⟨nk,e⟩
  ·subst Y
   have:=Qc e
   subst this;exact⟨_,A,a,rfl,λb C=>(l b C).elim (h3 b) λw=>E.same.free w,r⟩
  ·obtain⟨v,g,f⟩:=E.slot k s e;refine⟨v,g,?_⟩;cases s with
   |sh d=>exact Rp.mono S1 f
   |own fs=>
    obtain⟨x,rfl,n,G⟩:=f;exact⟨x,rfl,n,G.mono S1 λb C y p=>N b y p λw=>nk (E.own k i x a fs o b e M g A C w)⟩
   |_=>exact f
 ·exact N b x h λk=>z (za b k)
def Xk.mutate {i:Nat}{a:Addr}{ds es:O}{us:HO} (E:Xk K H0 B H σ γ) (u:γ[i]?=some (some<|.own ds)) (f:σ[i]?=some (some<|.ref a)) (w:Mut (some us)) (r:∀F H':Hp,Same (Pu.off (zof B γ σ) H) F->H' a=some us->OR K F H' a es)
  (k1:autoParam (ds.adr a=λb=>b=a) au_0) (k2:autoParam (es.adr a=λb=>b=a) au_0) :
  Xk K H0 B (upd H a us) σ (γ.set i<|some<|.own es)/\Fr B H σ γ (upd H a us) σ (γ.set i<|some<|.own es):=by
 refine E.change (o:=ds) (o':=es) u f (λb x h n=>by rw[Xx (λz=>n (by rw[k1];exact z))];exact h) (λb h=>by rw[k1]at h;rw[show b=a from h,X9];exact w) (λb h=>.inl (by rw[k1];rw[k2]at h;exact h)) (r _ _ ?_ X9)
 intro b x h;obtain⟨v,p⟩:=Pn h;have s:b≠a:=λz=>p (.inr ⟨i,ds,a,u,f,by rw[k1];exact z⟩);refine XQ (by rw[Xx s];exact v) λz=>p ?_;rcases z with z|⟨j,fs,C,A,l,g⟩
 ·exact .inl z
 ·rcases XN A with⟨y,q,_⟩|⟨_,e⟩
  ·subst y;cases q
   rw[f]at l;cases l
   rw[k2]at g;exact absurd g s
  ·exact .inr ⟨j,fs,C,e,l,g⟩
end
end Pu
namespace Pu
open PySem PySem.Spec PyProof.Rows L2 Own
abbrev XR:=Str->Prop
noncomputable def dI(n:Nat):Int:=if n % 2=0 then .ofNat (n / 2)else .negSucc (n / 2)
noncomputable def Znp:Yd->Option (ZY)
 | 0::t=>some (t.map dI)
 |_=>none
noncomputable def FJ(x:Str):Option (ZY):=Znp x.cps.toList
def XE(f:Ya)(E:XK)(c:Str)(H':Hp):Prop:=match FJ c with
 |none=>E (.ref<|ExcR.Xq f c) none H'
 |some r=>∀(g l:Addr) (o:Obj),H' g=some (.xd [("members",.ref l)])->H' l=some (.frz o<|.lst<|r.map V.int)->E (.ref<|ExcR.Xq f "Ringed") (some g) H'
def XE.plain {c H'} (g:FJ c=none) (h:XE f E c H'):E (.ref<|ExcR.Xq f c) none H':=by
 unfold XE at h;simp_all
abbrev PTE:=Γ->(S->Prop)->XR->Prop
abbrev PTT:=Γ->(Bool->Prop)->XR->Prop
abbrev PTA:=Γ->(List S->Prop)->XR->Prop
abbrev PTO:=Γ->(Option Int->Prop)->XR->Prop
structure TY where
 nx:Γ->Prop
 rt:S->Prop
 ex:Γ->Str->Prop
 bk:Γ->Prop:=λ_=>False
 ct:Γ->Prop:=λ_=>False
 rv:Γ->D->Prop:=λ_ _=>False
abbrev PTS:=TY->Γ->Prop
abbrev PTG:=S->Γ->(Γ->Prop)->Prop
abbrev SJ:=List S->Γ->(Γ->Prop)->Prop
inductive TVs (K:ZW) (Z:Addr->Prop) (H0 H H':Hp):List S->List V->Prop
 |nil:TVs K Z H0 H H' [] []
 |cons {s:S} {v:V} {ss:List S} {vs:List V}:TV K Z H0 H H' s v->TVs K Z H0 H H' ss vs->TVs K Z H0 H H' (s::ss) (v::vs)
section
variable (K:ZW) (mg:Ya) (E:L2.St->XK)
def Xf(t:TE)(p:PTE):Prop:=∀(l:Hp) (B:Addr->Prop) (H:Hp) (g:L2.St) (h:Γ) (R:S->Prop) (X:XR) (Q:VK),Xk K l B H g h->p h R X->
 (∀s v f,R s->Same H f->TV K (zof B h g) l H f s v->Q v f)->(∀c f,X c->Same H f->XE mg (E g) c f)->t g H Q
def K4(t:TT)(p:PTT):Prop:=∀(l:Hp) (B:Addr->Prop) (H:Hp) (g:L2.St) (h:Γ) (R:Bool->Prop) (X:XR) (Q:Bool->Hp->Prop),Xk K l B H g h->p h R X->
 (∀b f,R b->Same H f->Q b f)->(∀c f,X c->Same H f->XE mg (E g) c f)->t g H Q
def X4(t:TA)(p:PTA):Prop:=∀(o:Hp) (B:Addr->Prop) (H:Hp) (g:L2.St) (h:Γ) (R:List S->Prop) (X:XR) (Q:List V->Hp->Prop),Xk K o B H g h->p h R X->
 (∀n l f,R n->Same H f->TVs K (zof B h g) o H f n l->Q l f)->(∀c f,X c->Same H f->XE mg (E g) c f)->t g H Q
def Tv(t:TO)(p:PTO):Prop:=∀(l:Hp) (B:Addr->Prop) (H:Hp) (g:L2.St) (h:Γ) (R:Option Int->Prop) (X:XR) (Q:Option Int->Hp->Prop),Xk K l B H g h->p h R X->
 (∀o f,R o->Same H f->Q o f)->(∀c f,X c->Same H f->XE mg (E g) c f)->t g H Q
structure Fx (H0:Hp) (B:Addr->Prop) (H:Hp) (σ:L2.St) (γ:Γ) (R:TY) (D:Ends):Prop where
 nx:∀σ' γ' H',R.nx γ'->Xk K H0 B H' σ' γ'->Fr B H σ γ H' σ' γ'->D.nx σ' H'
 rt:∀s v H',R.rt s->Same H0 H'->TV K B H0 H0 H' s v->D.rt v H'
 ex:∀σ' γ' c H',R.ex γ' c->Xk K H0 B H' σ' γ'->Fr B H σ γ H' σ' γ'->XE mg (E σ') c H'
 bk:∀σ' γ' H',R.bk γ'->Xk K H0 B H' σ' γ'->Fr B H σ γ H' σ' γ'->D.bk σ' H'
 ct:∀σ' γ' H',R.ct γ'->Xk K H0 B H' σ' γ'->Fr B H σ γ H' σ' γ'->D.ct σ' H'
 rv:∀σ' γ' d v H',R.rv γ' d->Xk K H0 B H' σ' γ'->Fr B H σ γ H' σ' γ'->Rp K (off (zof B γ' σ') H') d v->D.rt v H'
def Xu(t:TS)(p:PTS):Prop:=∀(h:Hp) (B:Addr->Prop) (H:Hp) (f:L2.St) (g:Γ) (R:TY) (D:Ends),(∀b,B b->∃o,h b=some o)->Xk K h B H f g->p R g->Fx K mg E h B H f g R D->t D f H
end
section
variable {K:ZW}{mg:Ya}{E:L2.St->XK}{H0 H H1 H':Hp}{B Z Z':Addr->Prop}{σ:L2.St}{γ:Γ}
def TVs.weakG {H1 g}:∀{ss}{vs:List V},Same H H1->TVs K Z H0 H1 g ss vs->TVs K Z H0 H g ss vs:=by
 intro ss
 induction ss with
 |nil=>
  intro _ _ h;cases h
  exact .nil
 |cons _ _ l=>
  intro _ f h;cases h with
  |cons h r=>
   exact .cons (TV.weak f (λ_ z=>z) h) (l f r)
def TVs.rps (g:Same H0 H'):∀{ss}{vs:List V},TVs K Z H0 H H' ss vs->Rps K H' (ss.map S.d) vs:=by
 intro ss
 induction ss with
 |nil=>
  intro _ h;cases h
  exact .nil
 |cons _ _ f=>
  intro _ h;cases h with
  |cons h r=>
   exact .cons (h.rp g) (f r)
theorem TVs.shd {ds:List D} (l:Same H0 H') (g:∀b,Z b->Mut (H b)) (n:Same H H'):∀{f vs}{ds:List D},TVs K Z H0 H H' f vs->f.map S.shd=ds.map some->Rps K (off Z H') ds vs
 |_,_,[],.nil,_=>.nil
 |_,_,_::_,.nil,e|_,_,[],.cons _ _,e=>by cases e
 |_,_,d::ds,.cons h r,e=>by
  rw[Qh,Qh,J7]at e;exact .cons (h.shd l g n e.1) (TVs.shd (ds:=ds) l g n r e.2)
def Rp.int_inv (h:Rp K H (.int i) v):v=.int i:=by cases h;rfl
def Rp.bl_inv (h:Rp K H (.bl b) v):v=.bl b:=by cases h;rfl
def Rp.str_inv (h:Rp K H (.str x) v):v=.str x:=by cases h;rfl
def Rp.non_inv (h:Rp K H .non v):v=.non:=by cases h;rfl
def Rp.ty_inv (h:Rp K H (.ty n) v):v=.ty n:=by cases h;rfl
noncomputable def EK(i:Nat):PTE:=λγ R _=>match γ[i]? with
 |some (some<|.own f)=>R (.view f)
 |some (some s)=>R s
 |_=>False
def Xe(i:Nat):Xf K mg E (Kk i) (EK i):=by
 intro H0 B H σ γ R X Q f h q _;unfold EK at h;split at h
 ·rename_i o e;obtain⟨v,g,a,rfl,r,n⟩:=f.slot i _ e;exact⟨_,g,q _ _ H h (Same.refl _) ⟨a,rfl,n⟩⟩
 ·rename_i s p e;obtain⟨v,g,l⟩:=f.slot i _ e;refine⟨v,g,q _ _ H h (Same.refl _) ?_⟩;cases s with
  |bor d|sh d=>exact l
  |own o=>grind
  |_=>exact l.elim
 ·grind
noncomputable def pC(d:D):PTE:=λ_ R _=>R (.sh d)
def Bz(h:∀H,Rp K H d v):Xf K mg E (tC v) (pC d):=by
 intro H0 B H σ γ R X Q f p q _;exact q _ _ H p (Same.refl _) (h _)
def Xm:Xf K mg E (tC<|.int i) (pC<|.int i):=Bz λ_=>.int i
def T3:Xf K mg E (tC<|.bl b) (pC<|.bl b):=Bz λ_=>.bl b
def Zjm:Xf K mg E (tC .non) (pC .non):=Bz λ_=>.non
def Nb:Xf K mg E (tC<|.str x) (pC<|.str x):=Bz λ_=>.str x
def Tu:Xf K mg E (tC<|.ty n) (pC<|.ty n):=Bz λ_=>.ty n
noncomputable def p2(a b:PTE)(f:S->S->(S->Prop)->Prop):PTE:=λγ R X=>a γ (λx=>b γ (λy=>f x y R) X) X
def P6{A w a b f}(Y:Xf K mg E A a)(U:Xf K mg E w b)(N:∀H0 H h Z x y v u R Q,Same H0 h->Same H h->(∀b,Z b->Mut (H b))->TV K Z H0 H h x v->TV K Z H0 H h y u->f x y R->(∀s z H',R s->Same h H'->TV K Z H0 H H' s z->Q z H')->r v u h Q) :
  Xf K mg E (tOp r A w) (p2 a b f):=by
 intro H0 B H σ γ R X Q l p q C;refine Y H0 B H σ γ _ X _ l p (λx v H1 h1 n L=>?_) C;have g:=l.grow n;refine U H0 B H1 σ γ _ X _ g h1 (λy u h h2 o J=>?_) λc H' T S'=>C c H' T (n.trans S');exact N H0 H h _ x y v u R Q (g.same.trans o) (n.trans o) l.zm (L.grow o) (TV.weak n (λ_ z=>z) J) h2 λs z H' M S3 G=>q s z H' M ((n.trans o).trans S3) G
def fI0(g:Int->Int->D):S->S->(S->Prop)->Prop:=λx y R=>match x.d,y.d with
 | .int i,.int j=>R (.sh<|g i j)
 |_,_=>False
def fI(C:Int->Int->Prop)(g:Int->Int->D):S->S->(S->Prop)->Prop:=λx y R=>match x.d,y.d with
 | .int i,.int j=>C i j/\R (.sh<|g i j)
 |_,_=>False
def SL{g'}{l f a b}(w:∀H i j,Rp K H (g' i j) (g i j))(A:Xf K mg E l a)(z:Xf K mg E f b):Xf K mg E (tOp (rI0 g) l f) (p2 a b<|fI0 g'):=by
 refine P6 A z λH0 H J Z x y v u R Q n L M s r h q=>?_;unfold fI0 at h;have p:=s.rp n;have o:=r.rp n;split at h
 ·rename_i i j G C;rw[G]at p;rw[C]at o;exact⟨i,j,p.int_inv,o.int_inv,q _ _ J h (Same.refl _) (w _ i j)⟩
 ·grind
def Ba{g r}{l f a b}(z:∀H i j,Rp K H (r i j) (g i j))(G:Xf K mg E l a)(A:Xf K mg E f b):Xf K mg E (tOp (rI C g) l f) (p2 a b<|fI C r):=by
 refine P6 G A λH0 H M Z x y v u R Q n N T w s h q=>?_;unfold fI at h;have p:=w.rp n;have o:=s.rp n;split at h
 ·rename_i i j L J;rw[L]at p;rw[J]at o;exact⟨i,j,p.int_inv,o.int_inv,h.1,q _ _ M h.2 (Same.refl _) (z _ i j)⟩
 ·grind
section
variable {ta tb tc:TE}{a b c:PTE}
def X8(g:Xf K mg E ta a)(f:Xf K mg E tb b):Xf K mg E (tOp (rI0 λi j=>.int (i+j)) ta tb) (p2 a b (fI0 λi j=>.int (i+j))):=SL (λ_ _ _=>.int _) g f
def Kb(g:Xf K mg E ta a)(f:Xf K mg E tb b):Xf K mg E (tOp (rI0 λi j=>.int (i-j)) ta tb) (p2 a b (fI0 λi j=>.int (i-j))):=SL (λ_ _ _=>.int _) g f
def TZ(g:Xf K mg E ta a)(f:Xf K mg E tb b):Xf K mg E (tOp (rI CMul λi j=>.int (i*j)) ta tb) (p2 a b (fI CMul λi j=>.int (i*j))):=Ba (λ_ _ _=>.int _) g f
def Km(g:Xf K mg E ta a)(f:Xf K mg E tb b):Xf K mg E (tOp (rI DH λi j=>.int (i / j)) ta tb) (p2 a b (fI DH λi j=>.int (i / j))):=Ba (λ_ _ _=>.int _) g f
def XA(g:Xf K mg E ta a)(f:Xf K mg E tb b):Xf K mg E (tOp (rI (λ_ j=>0<j) λi j=>.int (i % j)) ta tb) (p2 a b (fI (λ_ j=>0<j) λi j=>.int (i % j))):=Ba (λ_ _ _=>.int _) g f
def Av(g:Xf K mg E ta a)(f:Xf K mg E tb b):Xf K mg E (tOp (rI Su λi j=>.int (i ^ j.toNat)) ta tb) (p2 a b (fI Su λi j=>.int (i ^ j.toNat))):=Ba (λ_ _ _=>.int _) g f
def KI(g:Xf K mg E ta a)(f:Xf K mg E tb b):Xf K mg E (tOp (rI0 λi j=>.bl (decide (i<j))) ta tb) (p2 a b (fI0 λi j=>.bl (decide (i<j)))):=SL (λ_ _ _=>.bl _) g f
def KE(g:Xf K mg E ta a)(f:Xf K mg E tb b):Xf K mg E (tOp (rI0 λi j=>.bl (decide (j<i))) ta tb) (p2 a b (fI0 λi j=>.bl (decide (j<i)))):=SL (λ_ _ _=>.bl _) g f
def Sl(g:Xf K mg E ta a)(f:Xf K mg E tb b):Xf K mg E (tOp (rI0 λi j=>.bl (decide (j<=i))) ta tb) (p2 a b (fI0 λi j=>.bl (decide (j<=i)))):=SL (λ_ _ _=>.bl _) g f
def fEq(neg:Bool):S->S->(S->Prop)->Prop:=λx y R=>match x.d,y.d with
 | .int i,.int j=>R (.sh<|.bl (if neg then !decide (i=j)else decide (i=j)))
 | .str i,.str j=>R (.sh<|.bl (if neg then !decide (i=j)else decide (i=j)))
 | .bl i,.bl j=>R (.sh<|.bl (if neg then !decide (i=j)else decide (i=j)))
 |_,_=>False
def Se{g h:Type}[DecidableEq g][DecidableEq h]{f:g->h}(l:∀a b,f a=f b->a=b)(a b:g):decide (f a=f b)=decide (a=b):=by grind
def fIx:S->S->(S->Prop)->Prop:=λx y R=>match x.d,y.d with
 | .lst g,.int k=>∃d,atI g k=some d/\R (x.sub d)
 | .tup g,.int k=>∃d,atI g k=some d/\R (x.sub d)
 | .scr f,.int k=>∃i,atI f k=some i/\R (.sh<|.int i)
 | .fL f,.int k=>∃i,atI f k=some i/\R (.sh<|.int i)
 |_,_=>False
def Ma{P:D->V->Prop}(f:vs.length=ds.length)(h:∀(i:Nat) d,ds[i]?=some d->∃u,vs[i]?=some u/\P d u)(e:atI ds k=some d):∃u,atI vs k=some u/\P d u:=by
 unfold atI at e ⊢;cases q:ixN ds.length k with
 |_=>grind
def XG(ha:Xf K mg E ta a)(hb:Xf K mg E tb b):Xf K mg E (tOp (λx y H Q=>PY K x y H Q\/Tf K x y H Q) ta tb) (p2 a b fIx):=by
 refine P6 ha hb λH0 H s Z x y v u R Q r s1 hm A Y h q=>?_;unfold fIx at h;have f:=Y.rp r;obtain⟨pl,pt⟩:=A.part r hm s1;split at h
 ·rename_i U k o n;rw[n]at f;obtain⟨d,T,g⟩:=h;obtain⟨l,w,rfl,M,L,J⟩:=pl U o;obtain⟨z,C,tz⟩:=Ma L J T;exact .inl ⟨l,w,k,z,rfl,f.int_inv,SqL.of M,C,q _ _ s g (Same.refl _) tz⟩
 ·rename_i U k o n;rw[n]at f;obtain⟨d,T,g⟩:=h;obtain⟨l,w,rfl,M,L,J⟩:=pt U o;obtain⟨z,C,tz⟩:=Ma L J T;exact .inr ⟨l,w,k,z,rfl,f.int_inv,SqT.of M,C,q _ _ s g (Same.refl _) tz⟩
 ·rename_i ns k o n;rw[n]at f;obtain⟨i,N,g⟩:=h;have p:=A.rp r;rw[o]at p;cases p with
  |scr G=>exact .inl ⟨_,_,k,.int i,rfl,f.int_inv,G,PX N,q _ _ s g (Same.refl _) (.int i)⟩
 ·rename_i ns k o n;rw[n]at f;obtain⟨i,N,g⟩:=h;have p:=A.rp r;rw[o]at p;cases p with
  |fL G=>exact .inl ⟨_,_,k,.int i,rfl,f.int_inv,.inl (.inr ⟨_,G⟩),PX N,q _ _ s g (Same.refl _) (.int i)⟩
 ·exact h.elim
noncomputable def Zfo(a b:PTE):PTE:=λγ R X=>a γ (λx=>match x.d with | .bl c=>if c=true then b γ R X else R (.sh<|.bl false)|_=>False) X
noncomputable def RD(a:PTE):PTE:=λγ R X=>a γ (λx=>match x.d with | .bl c=>R (.sh<|.bl (!c))|_=>False) X
def Am(C:Xf K mg E ta a)(A:Xf K mg E tb b):Xf K mg E (Rx ta tb) (Zfo a b):=by
 intro H0 B H σ γ R X Q h p q r;refine C H0 B H σ γ _ X _ h p (λx v H1 n l w=>?_) r;have f:=h.grow l;have o:=w.rp f.same;split at n
 ·rename_i c J;rw[J]at o;refine⟨c,o.bl_inv,?_⟩;split at n
  ·rename_i g;rw[WQ g];exact A H0 B H1 σ γ _ X _ f n (λy u N G L s=>q y u N G (l.trans L) (TV.weak l (λ_ z=>z) s)) λc H' g M=>r c H' g (l.trans M)
  ·rename_i g;rw[WO g];exact q _ _ H1 n l (.bl _)
 ·grind
def Hx(r:Xf K mg E ta a):Xf K mg E (Lg ta) (RD a):=by
 intro H0 B H σ γ R X Q f p q o;refine r H0 B H σ γ _ X _ f p (λx v H1 h l n=>?_) o;have g:=n.rp (f.grow l).same;split at h
 ·rename_i c s;rw[s]at g;exact⟨c,g.bl_inv,q _ _ H1 h l (.bl _)⟩
 ·grind
noncomputable def Zl5(a:PTE):PTE:=λγ R X=>a γ (λx=>match x.d with | .int i=>R (.sh<|.int (-i))|_=>False) X
def K0(r:Xf K mg E ta a):Xf K mg E (tUn (rU λi=>.int (-i)) ta) (Zl5 a):=by
 intro H0 B H σ γ R X Q f p q o;refine r H0 B H σ γ _ X _ f p (λx v H1 h l n=>?_) o;have g:=n.rp (f.grow l).same;split at h
 ·rename_i c s;rw[s]at g;exact⟨c,g.int_inv,q _ _ H1 h l (.int _)⟩
 ·grind
noncomputable def NO(a:PTE):PTT:=λγ R X=>a γ (λx=>match x.d with | .bl c=>R c|_=>False) X
def Pa(r:Xf K mg E ta a):K4 K mg E (Ac ta) (NO a):=by
 intro H0 B H σ γ R X Q f p q o;refine r H0 B H σ γ _ X _ f p (λx v H1 h l n=>?_) o;have g:=n.rp (f.grow l).same;split at h
 ·rename_i c s;rw[s]at g;exact⟨c,g.bl_inv,q _ H1 h l⟩
 ·grind
def ED(f:Xf K mg E ta a):K4 K mg E (tB ta) (NO a):=Pa f
variable {sa sb:TT}{pa pb:PTT}
noncomputable def M8(a b:PTT):PTT:=λγ R X=>a γ (λc=>if c=true then b γ R X else R false) X
noncomputable def pOr(a b:PTT):PTT:=λγ R X=>a γ (λc=>if c=true then R true else b γ R X) X
noncomputable def Hc(a:PTT):PTT:=λγ R X=>a γ (λc=>R (!c)) X
def Zf5(r:K4 K mg E sa pa)(o:K4 K mg E sb pb):K4 K mg E (OF sa sb) (M8 pa pb):=by
 intro H0 B H σ γ R X Q f p q l;refine r H0 B H σ γ _ X _ f p (λc H1 n h=>?_) l;split at n
 ·rename_i g;rw[WQ g];exact o H0 B H1 σ γ _ X _ (f.grow h) n (λy w s u=>q y w s (h.trans u)) λc H' g v=>l c H' g (h.trans v)
 ·grind
def Zrw(r:K4 K mg E sa pa)(o:K4 K mg E sb pb):K4 K mg E (tOr sa sb) (pOr pa pb):=by
 intro H0 B H σ γ R X Q f p q l;refine r H0 B H σ γ _ X _ f p (λc H1 n h=>?_) l;split at n
 ·grind
 ·rename_i g;rw[WO g];exact o H0 B H1 σ γ _ X _ (f.grow h) n (λy w s u=>q y w s (h.trans u)) λc H' g v=>l c H' g (h.trans v)
def Zpq(h:K4 K mg E sa pa):K4 K mg E (AX sa) (Hc pa):=by
 intro H0 B H σ γ R X Q f p q g;exact h H0 B H σ γ _ X _ f p (λc H1 l n=>q _ H1 l n) g
end
noncomputable def Tz:PTA:=λ_ R _=>R []
noncomputable def Pf(a:PTE)(r:PTA):PTA:=λγ R X=>a γ (λs=>r γ (λf=>R (s::f)) X) X
def Xw:X4 K mg E KH Tz:=by
 intro H0 B H σ γ R X Q f p q _;exact q _ _ H p (Same.refl _) .nil
def KQ{a r}(y:Xf K mg E te a)(w:X4 K mg E n r):X4 K mg E (XW te n) (Pf a r):=by
 intro H0 B H σ γ R X Q f p q h;refine y H0 B H σ γ _ X _ f p (λs v H1 A g u=>?_) h;refine w H0 B H1 σ γ _ X _ (f.grow g) A (λL J G z l o=>?_) λc H' x C=>h c H' x (g.trans C);exact q _ _ G z (g.trans l) (.cons (u.grow l)<|TVs.weakG g o)
noncomputable def Bk:List S->Option (List D)
 |[]=>some []
 |s::r=>match s.shd,Bk r with
  |some d,some f=>some (d::f)
  |_,_=>none
theorem Ar:∀{ss}{ds:List D},Bk ss=some ds->ss.map S.shd=ds.map some
 |[],ds,h=>by cases h;rfl
 |s::r,ds,h=>by
  unfold Bk at h;split at h
  ·rename_i d l g f;cases h
   rw[Qh,Qh,g,Ar f]
  ·grind
noncomputable def RE(r:PTA):PTE:=λγ R X=>r γ (λg=>match Bk g with|some f=>f.length<=1000/\R (.sh<|.tup f)|none=>False) X
noncomputable def Hq(r:PTA):PTE:=λγ R X=>r γ (λg=>match Bk g with|some f=>f.length<=1000/\R (.own f)|none=>False) X
def F7(h:n<=1000):n<=sizeLine:=VT (Zh3 h)
def P0(A:X4 K mg E w r):Xf K mg E (E4 w) (RE r):=by
 intro H0 B H σ γ R X Q g p q y;refine A H0 B H σ γ _ X _ g p (λC v H1 h n x=>?_) y;split at h
 ·rename_i ds e;have f:=g.grow n;have rp:=x.shd (ds:=ds) f.same g.zm n (Ar e);refine⟨by rw[rp.len];exact F7 h.1,λl s=>?_⟩;have u:=XX (o:=.tup v) s;refine q _ _ _ h.2 (n.trans u) (.tup (XQ X9 λz=>?_)<|Rps.mono (Xs u λ_ _ _ z=>z) rp)
  have:=f.zm l z
  rw[s]at this;exact this
 ·grind
def NR{H H1 l vs ds}(h:Same H H1)(f:H1 l=none)(rp:Rps K (off Z H1) ds vs):TV K Z H0 H (upd H1 l<|.lst vs) (.own ds) (.ref l):=
 ⟨l,rfl,(λ_ e=>e▸h.free f),vs,X9,Rps.mono (Xs (XX f) λb o g z y=>y.elim z λe=>by rw[e,f]at g;cases g) rp⟩
def PJ(v:X4 K mg E o r):Xf K mg E (Ey o) (Hq r):=by
 intro H0 B H σ γ R X Q f p q u;refine v H0 B H σ γ _ X _ f p (λx w H1 h g s=>?_) u;split at h
 ·rename_i ds e;have rp:=s.shd (ds:=ds) (f.grow g).same f.zm g (Ar e);refine⟨by rw[rp.len];exact F7 h.1,λl n=>?_⟩;exact q _ _ _ h.2 (g.trans<|XX n) (NR g n rp)
 ·grind
abbrev Pc:=List D->(S->Prop)->XR->Prop
noncomputable def Xl(mg:Ya)(c:Pc)(K:ZW):Sp:=λg H Q E=>∃f R X,Rps K H f g/\c f R X/\(∀s v H',R s->Same H H'->TV K (λb=>Mut (H b)) H H H' s v->Q v H')/\∀e H',X e->Same H H'->XE mg E e H'
noncomputable def S.back:S->S
 | .bor d=>K9 d | .view o=>.tmp o.d|s=>s
def TV.back (env:Xk K H0 B H1 σ γ) (o:Same H H1) (f:Same H1 H') (h:TV K (λb=>Mut (H1 b)) H1 H1 H' s v):TV K (zof B γ σ) H0 H H' s.back v:=by
 cases s with
 |bor d=>exact Tj (λb z=>Px f (env.zm b z)) (Rp.mono f h)
 |sh d=>exact Rp.mono (Xs (Same.refl _) λb _ _ z y=>z (env.zm b y)) h
 |own n=>
  obtain⟨a,rfl,l,r⟩:=h;exact⟨a,rfl,(λb g=>o.free (l b g)),r.mono (Xs (Same.refl _) λb _ _ z y=>z (y.imp (env.zm b) id)) λ_ _ _ q=>q⟩
 |view n=>
  obtain⟨a,rfl,r⟩:=h;exact r.rp off_sub
 |tmp d=>exact h
noncomputable def Ip(c:Pc)(r:PTA):PTE:=λγ R X=>r γ (λf=>c (f.map S.d) (λs=>R s.back) λ_=>False) X
noncomputable def HP(c:Pc)(r:PTA):PTE:=λγ R X=>r γ (λf=>c (f.map S.d) (λs=>R s.back) X) X
def Tn{l r}(y:X4 K mg E l r):Xf K mg E (Nf (Xl mg c K) [] E0 l) (Ip c r):=by
 intro H0 B H σ γ R X Q g p q w;refine y H0 B H σ γ _ X _ g p (λG C H1 A h u=>?_) w;rw[Q8];have f:=g.grow h;exact⟨_,_,_,u.rps f.same,A,λs v H' x n o=>q _ _ H' x (h.trans n) (o.back f h n),λ_ _ z=>z.elim⟩
def Zf0{o r n}(z:X4 K mg (λ_=>n) o r):Xf K mg (λ_=>n) (Nf (Xl mg c K) [] n o) (HP c r):=by
 intro H0 B H σ γ R X Q g p q u;refine z H0 B H σ γ _ X _ g p (λJ G H1 C l x=>?_) u;rw[Q8];have f:=g.grow l;exact⟨_,_,X,x.rps f.same,C,λs v H' y h w=>q _ _ H' y (l.trans h) (w.back f l h),λe H' A h=>u e H' A (l.trans h)⟩
def Xk.set {s f}{v} (l:Xk K H0 B H σ γ) (g:Same H H') (h:TV K (zof B γ σ) H0 H H' s v) (e:s.slot=some f) :
  Xk K H0 B H' (σ.set i<|some v) (γ.set i<|some f)/\Fr B H σ γ H' (σ.set i<|some v) (γ.set i<|some f):=by
 by_cases n:i<γ.length
 ·exact l.put g h e n
 ·rw[List.set_eq_of_length_le (by rw[l.len];lia),List.set_eq_of_length_le (by lia)];exact⟨l.grow g,Fr.grow g⟩
def Upd(g:Yd)(σ f:L2.St):Prop:=(∀j,j∉g->f[j]?=σ[j]?)/\f.length=σ.length
def TN(K:ZW)(h:Yd)(t:TG)(p:PTG):Prop:=∀(H0:Hp) (B:Addr->Prop) (H H':Hp) (σ:L2.St) (γ:Γ) (s:S) (v:V) (R:Γ->Prop) (Q:L2.St->Hp->Prop),Xk K H0 B H σ γ->Same H H'->TV K (zof B γ σ) H0 H H' s v->p s γ R->
 (∀f g,R g->Xk K H0 B H' f g->Fr B H σ γ H' f g->Upd h σ f->Q f H')->t v σ H' Q
noncomputable def Bg(i:Nat):PTG:=λs γ R=>match s.slot with|some f=>R (γ.set i<|some f)|none=>False
def Kq(i:Nat):TN K [i] (Sb i) (Bg i):=by
 intro H0 B H H' σ γ s v R Q f n g p q;unfold Bg at p;split at p
 ·rename_i o e;obtain⟨l,f1⟩:=f.set n g e;exact q _ _ p l f1 ⟨λj h=>N2 λz=>h (by grind),QJ⟩
 ·grind
noncomputable def Mj:SJ:=λf γ R=>match f with|[]=>R γ|_=>False
noncomputable def Gz(g:PTG)(r:SJ):SJ:=λh γ R=>match h with|s::t=>g s γ λf=>r t f R|[]=>False
def TV.notown {σ'}{γ'}{Hb} (f:Fr B H σ γ H' σ' γ') (g:Same H H') (n:∀ds,s≠.own ds) (l:∀ds,s≠.view ds) (h:TV K (zof B γ σ) H0 Hb H s v):TV K (zof B γ' σ') H0 H' H' s v:=by
 cases s with
 |bor d=>exact h
 |sh d=>exact Rp.mono f.off h
 |tmp d=>exact Rp.mono g h
 |_=>grind
def TVs.notown (f:Fr B H σ γ H g l):∀{ss}{vs:List V},(∀s∈ss,∀ds,s≠.own ds/\s≠.view ds)->TVs K (zof B γ σ) H0 u H ss vs->TVs K (zof B l g) H0 H H ss vs:=by
 intro ss
 induction ss with
 |nil=>
  intro _ _ h;cases h
  exact .nil
 |cons _ _ o=>
  intro _ n h;cases h with
  |cons h r=>
   exact .cons (h.notown f (Same.refl _) (λds=>(n _ Q7 ds).1) λds=>(n _ Q7 ds).2) (o (λs p=>n s (Qo _ p)) r)
def E9(d:D):arg d=.sh d\/arg d=.bor d:=by unfold arg;cases imm d<;>simp
def RK(d:D):K9 d=.sh d\/K9 d=.tmp d:=by unfold K9;cases imm d<;>simp
def HV(s:S)(d:D):∀ds,s.sub d≠.own ds/\s.sub d≠.view ds:=λds=>by
 cases s with
 |bor b=>rcases E9 d with e|e<;>(show arg d≠_/\arg d≠_;rw[e];exact⟨(λz=>by cases z),(λz=>by cases z)⟩)
 |tmp b=>rcases RK d with e|e<;>(show K9 d≠_/\K9 d≠_;rw[e];exact⟨(λz=>by cases z),(λz=>by cases z)⟩)
 |sh b=>exact⟨(λz=>by cases z),(λz=>by cases z)⟩
 |own b|view b=>
  cases b with
  |nst f|nsl a f=>rcases RK d with e|e<;>(show K9 d≠_/\K9 d≠_;rw[e];exact⟨(λz=>by cases z),(λz=>by cases z)⟩)
  |_=>exact⟨(λz=>by cases z),(λz=>by cases z)⟩
def Bu(K:ZW)(o:Yd)(t:TGs)(p:SJ):Prop:=∀(H0:Hp) (B:Addr->Prop) (H:Hp) (σ:L2.St) (γ:Γ) (h:List S) (l:List V) (R:Γ->Prop) (Q:L2.St->Hp->Prop),Xk K H0 B H σ γ->TVs K (zof B γ σ) H0 H H h l->(∀s∈h,∀n,s≠.own n/\s≠.view n)->p h γ R->
 (∀f g,R g->Xk K H0 B H f g->Fr B H σ γ H f g->Upd o σ f->Q f H)->t l σ H Q
def Ap:Bu K [] OE Mj:=by
 intro H0 B H σ γ l h R Q f g no p q;cases g with
 |nil=>exact⟨rfl,q _ _ p f Fr.refl ⟨λ_ _=>rfl,rfl⟩⟩
 |cons _ _=>exact p.elim
def B5{g r x w}(T:TN K M g x)(N:Bu K L r w):Bu K (M++L) (IR g r) (Gz x w):=by
 intro H0 B H σ γ ss vs R Q v G no p q;cases G with
 |nil=>exact p.elim
 |cons h t=>
  refine⟨_,_,rfl,T H0 B H H σ γ _ _ _ _ v (Same.refl _) h p λl o J e1 f1 A=>?_⟩;refine N H0 B H l o _ _ _ _ e1 (TVs.notown f1 (λs u=>no s (Qo _ u)) t) (λs u=>no s (Qo _ u)) J λf n p2 Y U y=>?_;exact q f n p2 Y (f1.trans U) ⟨λj C=>(y.1 j λz=>C (Q0 _ z)).trans (A.1 j λz=>C (QT _ z)),y.2.trans A.2⟩
noncomputable def A8(n:Nat)(r:SJ):PTG:=λs γ R=>match s.d with | .tup f=>f.length=n/\r (f.map s.sub) γ R|_=>False
theorem TVs.of_part {ds:List D}{s:S}:∀{vs}{ds:List D},vs.length=ds.length->(∀(i:Nat) d,ds[i]?=some d->∃u,vs[i]?=some u/\TV K Z H0 H H' (s.sub d) u)->TVs K Z H0 H H' (ds.map s.sub) vs
 |[],[],_,_=>.nil
 |[],_::_,e,_|_::_,[],e,_=>by cases e
 |v::vs,d::ds,e,h=>by
  obtain⟨u,g,f⟩:=h 0 d rfl;cases g
  exact .cons f (TVs.of_part (ds:=ds) (by grind) λi l n=>by simpa using h (i+1) l (by grind))
def DJ{y r x}(J:Bu K y r x):TN K y (Cd K n r) (A8 n x):=by
 intro H0 B H H' σ γ s v R Q g u A p q;unfold A8 at p;have f:=g.grow u;obtain⟨_,pt⟩:=A.part f.same g.zm u;split at p
 ·rename_i ds e;obtain⟨a,w,rfl,M,z,L⟩:=pt ds e;refine⟨a,w,rfl,SqT.of M,z.trans p.1,?_⟩;refine J H0 B H' σ γ _ w R Q f (TVs.notown (Fr.refl) (λC o ds=>?_)<|TVs.of_part (ds:=ds) z L) (λC o ds=>?_) p.2 λh l N T f1 G=>q h l N T (Fr.trans (Fr.grow u) f1) G
  ·obtain⟨d,_,rfl⟩:=Qj.mp o;exact HV s d ds
  ·obtain⟨d,_,rfl⟩:=Qj.mp o;exact HV s d ds
 ·grind
def Fx.from {D p r} (e:Fx K mg E H0 B H σ γ R D) (f:Fr B H σ γ H1 p r):Fx K mg E H0 B H1 p r R D:=
 ⟨λg h H' o n l=>e.nx g h H' o n (f.trans l),e.rt,λg h c H' o n l=>e.ex g h c H' o n (f.trans l),λg h H' o n l=>e.bk g h H' o n (f.trans l),λg h H' o n l=>e.ct g h H' o n (f.trans l),λg h d v H' o n l=>e.rv g h d v H' o n (f.trans l)⟩
variable {te:TE}{a:PTE}{tt:TT}{c:PTT}{t u:TS}{p q:PTS}
noncomputable def GY:PTS:=λR γ=>R.nx γ
def BM:Xu K mg E IZ GY:=λ_ _ _ _ _ _ _ _ f h e=>e.nx _ _ _ h f Fr.refl
noncomputable def LO(p q:PTS):PTS:=λR γ=>p {R with nx:=q R} γ
def Zqq(o:Xu K mg E t p)(hq:Xu K mg E u q):Xu K mg E (GE t u) (LO p q):=by
 intro H0 B H σ γ R D n l h e;refine o H0 B H σ γ _ _ n l h ⟨λf g H' r s f1=>?_,e.rt,e.ex,e.bk,e.ct,e.rv⟩;exact hq H0 B H' f g R D n s r (e.from f1)
structure HC (p q:PTS) (R:TY) (γ:Γ):Prop where
 w:∃J:Γ->Prop,p {R with nx:=J} γ/\∀γ',J γ'->q R γ'
noncomputable def Lz(p q:PTS):PTS:=λR γ=>HC p q R γ
def Ze2(s:Xu K mg E t p)(hq:Xu K mg E u q):Xu K mg E (MQ t u) (Lz p q):=by
 intro H0 B H σ γ R D r n h e;obtain⟨J,h,k⟩:=h.w;refine⟨λg H'=>∃f,J f/\Xk K H0 B H' g f/\Fr B H σ γ H' g f,s H0 B H σ γ _ _ r n h ⟨λg f H' l o f1=>⟨f,l,o,f1⟩,e.rt,e.ex,e.bk,e.ct,e.rv⟩,?_⟩;rintro g H' ⟨f,l,o,f1⟩;exact hq H0 B H' g f R D r o (k f l) (e.from f1)
noncomputable def Mg(i:Nat)(p:PTS):PTS:=λR γ=>p R (frz i γ)
def Zi7(i:Nat)(l:Xu K mg E t p):Xu K mg E t (Mg i p):=by
 intro H0 B H σ γ R D g f h e;obtain⟨n,f1⟩:=f.frz g i;exact l H0 B H σ _ R D g n h (e.from f1)
noncomputable def A7(a:PTE)(g:PTG):PTS:=λR γ=>a γ (λs=>g s γ R.nx) (R.ex γ)
def Na(z:Xf K mg E te a)(x:TN K M g w):Xu K mg E (N5 te g) (A7 a w):=by
 intro H0 B H σ γ R D N f h e;refine z H0 B H σ γ _ _ _ f h (λs v H1 C L r=>?_) λc H' y o=>e.ex σ γ c H' y (f.grow o) (Fr.grow o);exact x H0 B H H1 σ γ s v _ _ f L r C λl n A J G _=>e.nx l n H1 A J G
noncomputable def EN(i:Nat)(f:Int->Int->Int)(a:PTE):PTS:=λR γ=>match γ[i]? with
 |some (some<|.sh<|.int x)=>a γ (λy=>match y.d with | .int j=>R.nx (γ.set i<|some<|.sh<|.int<|f x j)|_=>False) (R.ex γ)
 |_=>False
def Zse(A:Xf K mg E te a):Xu K mg E (Rc i te<|ipI f) (EN i f a):=by
 intro H0 B H σ γ R D M g h e;unfold EN at h;split at h
 ·rename_i x hx;obtain⟨v,G,C⟩:=g.slot i _ hx;refine⟨v,G,A H0 B H σ γ _ _ _ g h (λy u H1 n o w=>?_) λc H' z r=>e.ex σ γ c H' z (g.grow r) (Fr.grow r)⟩;have l:=w.rp (g.grow o).same;split at n
  ·rename_i j J;rw[J]at l;refine⟨x,j,Rp.int_inv C,l.int_inv,?_⟩;obtain⟨L,f1⟩:=g.set (s:=.sh (.int<|f x j)) o (.int _) rfl;exact e.nx _ _ H1 n L f1
  ·grind
 ·grind
noncomputable def Lh(a:PTE):PTS:=λR γ=>a γ R.rt (R.ex γ)
def FD(o:Xf K mg E te a):Xu K mg E (NH te) (Lh a):=by
 intro H0 B H σ γ R D x f h e;refine o H0 B H σ γ _ _ _ f h (λs v H1 r w l=>?_) λc H' n g=>e.ex σ γ c H' n (f.grow g) (Fr.grow g);exact e.rt s v H1 r (f.same.trans w) (TV.weak f.same (λb z=>.inl z) l)
noncomputable def EM(i:Nat):PTS:=λR γ=>match γ[i]? with|some (some s)=>R.rt s|_=>False
def Zcc(i:Nat):Xu K mg E (NH<|Kk i) (EM i):=by
 intro H0 B H σ γ R D C f h e;unfold EM at h;split at h
 ·rename_i s n;obtain⟨v,o,g⟩:=f.slot i _ n;refine⟨v,o,e.rt s v H h f.same ?_⟩;cases s with
  |bor d=>exact g
  |sh d=>exact Rp.mono (Xs (Same.refl _) λb _ _ z y=>z (.inl y)) g
  |own r=>
   obtain⟨l,rfl,A,x⟩:=g;exact⟨l,rfl,A,x.mono (Xs (Same.refl _) λb _ _ z y=>z (y.elim .inl λw=>.inr ⟨i,r,l,n,o,w⟩)) λ_ _ _ q=>q⟩
  |view r=>exact g.elim
  |tmp d=>trivial
 ·grind
noncomputable def Gi(c:PTT)(p q:PTS):PTS:=λR γ=>c γ (λb=>if b=true then p R γ else q R γ) (R.ex γ)
def Zhf(l:K4 K mg E tt c)(v:Xu K mg E t p)(hq:Xu K mg E u q):Xu K mg E (DS tt t u) (Gi c p q):=by
 intro H0 B H σ γ R D r f h e;refine l H0 B H σ γ _ _ _ f h (λb H1 o g=>?_) λc H' l s=>e.ex σ γ c H' l (f.grow s) (Fr.grow s);split at o
 ·rename_i n;rw[WQ n];exact v H0 B H1 σ γ R D r (f.grow g) o (e.from<|Fr.grow g)
 ·rename_i n;rw[WO n];exact hq H0 B H1 σ γ R D r (f.grow g) o (e.from<|Fr.grow g)
noncomputable def IQ(a:PTE):PTS:=λR γ=>a γ (λ_=>R.nx γ) (R.ex γ)
def NM(o:Xf K mg E te a):Xu K mg E (TK te) (IQ a):=by
 intro H0 B H σ γ R D x f h e;exact o H0 B H σ γ _ _ _ f h (λs v H1 r g w=>e.nx σ γ H1 r (f.grow g) (Fr.grow g)) λc H' n l=>e.ex σ γ c H' n (f.grow l) (Fr.grow l)
noncomputable def Zhd:PTS:=λ_ _=>False
def Zsd:Xu K mg E M9 Zhd:=λ_ _ _ _ _ _ _ _ _ h _=>h
noncomputable def GB(x:Str)(r:PTA):PTS:=λR γ=>r γ (λf=>f.length<=1000/\R.ex γ x) (R.ex γ)
def TVs.len:∀{ss}{vs:List V},TVs K Z H0 H H' ss vs->vs.length=ss.length:=by
 intro ss
 induction ss with
 |nil=>
  intro _ h;cases h
  rfl
 |cons _ _ f=>
  intro _ h;cases h with
  |cons h r=>
   exact Q4 (· + 1) (f r)
def Zct{l r g}(w:X4 K mg (λ_=>g) l r)(hx:autoParam (FJ x=none) au_0):Xu K mg (λ_=>g) (ExcR.RF (ExcR.Xq mg x) g l) (GB x r):=by
 intro H0 B H σ γ R D C f h e;refine w H0 B H σ γ _ _ _ f h (λA z H1 n o v=>⟨?_,?_⟩) λc H' y s=>e.ex σ γ c H' y (f.grow s) (Fr.grow s)
 ·rw[v.len];exact F7 n.1
 ·exact(e.ex σ γ x H1 n.2 (f.grow o)<|Fr.grow o).plain hx
def Zss(i j:Nat)(γ:Γ)(R:Γ->Prop):List S->Prop
 |[.sh d,.sh e]=>R ((γ.set i<|some<|.sh d).set j (some<|.sh e))
 |_=>False
noncomputable def clr:Yd->Γ->Γ
 |[],γ=>γ
 |i::r,γ=>clr r (γ.set i none)
theorem Xk.clr:∀f {γ:Γ},Xk K H0 B H σ γ->Xk K H0 B H σ (clr f γ)/\Fr B H σ γ H σ (Pu.clr f γ)
 |[],_,e=>⟨e,Fr.refl⟩
 |i::r,γ,e=>by
  obtain⟨l,f1⟩:=e.drop i;obtain⟨h,g⟩:=Xk.clr r l;exact⟨h,f1.trans g⟩
def Later(H0:Hp)(Z:Addr->Prop)(H1:Hp)(Z':Addr->Prop)(H':Hp):Prop:=Same H0 H'/\(∀b,Z' b->Mut (H' b))/\∀b o,H1 b=some o->¬Z b->H' b=some o/\¬Z' b
def Later.of (e:Xk K H0 B H' g h) (f:Fr B H1 σ γ H' g h):Later H0 (zof B γ σ) H1 (zof B h g) H':=⟨e.same,e.zm,f⟩
def Later.off (l:Later H0 Z H1 Z' H'):Same (off Z H1) (Pu.off Z' H'):=λb o h=>by
 obtain⟨r,n⟩:=Pn h;obtain⟨g,f⟩:=l.2.2 b o r n;exact XQ g f
structure Ht (K:ZW) (H0:Hp) (B:Addr->Prop) (H1:Hp) (σ:L2.St) (γ:Γ) (J:It) (n:Nat) (item:Nat->S):Prop where
 go:∀(i:Nat) (H':Hp) (Z':Addr->Prop),i<n->Later H0 (zof B γ σ) H1 Z' H'->J.go i H'/\∀x H'',J.yld i H' x H''->Same H' H''/\TV K Z' H0 H' H'' (item i) x
 stop:∀(H':Hp) (Z':Addr->Prop),Later H0 (zof B γ σ) H1 Z' H'->J.stop n H'
abbrev PTI:=Γ->(Nat->(Nat->S)->Prop)->XR->Prop
def SndI(K:ZW)(mg:Ya)(E:L2.St->XK)(f:TI)(g:PTI):Prop:=∀(H0:Hp) (B:Addr->Prop) (H:Hp) (σ:L2.St) (γ:Γ) (R:Nat->(Nat->S)->Prop) (X:XR) (Q:It->Hp->Prop),Xk K H0 B H σ γ->g γ R X->
 (∀n item J H1,R n item->Same H H1->Ht K H0 B H1 σ γ J n item->Q J H1)->(∀c H',X c->Same H H'->XE mg (E σ) c H')->f σ H Q
structure Bc (js:Yd) (γ:Γ) (g:PTG) (body:PTS) (R:TY) (n:Nat) (item:Nat->S):Prop where
 w:∃inv:Nat->Γ->Prop,inv 0 (clr js γ)/\
 (∀i γ',i<n->inv i γ'->g (item i) γ' λγ2=>body {R with nx:=λγ3=>inv (i+1) (clr js γ3),ct:=λγ3=>inv (i+1) (clr js γ3),bk:=R.nx} γ2)/\∀γ',inv n γ'->R.nx γ'
noncomputable def Iu(f:Yd)(h:PTI)(g:PTG)(body:PTS):PTS:=λR γ=>h γ (λn item=>Bc f γ g body R n item) (R.ex γ)
def Zgf{wi g it pg}(M:Yd)(hi:SndI K mg E wi it)(hg:TN K is g pg)(hb:Xu K mg E t p):Xu K mg E (M5 wi g t) (Iu M it pg p):=by
 intro H0 B H σ γ R D hB Q h e;refine hi H0 B H σ γ _ _ _ Q h (λn item J H1 h1 S1 ok=>?_) λc H' hc S'=>e.ex σ γ c H' hc (Q.grow S') (Fr.grow S');obtain⟨Y,h0,hs,hd⟩:=h1.w;have L:=Q.grow S1;refine⟨λi m z H'=>m=n-i/\i<=n/\∃f,Y i f/\Xk K H0 B H' z f/\Fr B H1 σ γ H' z f,⟨n,by simp,QD _,_,h0,(L.clr M).1,(L.clr M).2⟩,?_⟩;rintro i m z H' ⟨rfl,hin,f,hi',e',f'⟩;by_cases N:i<n
 ·obtain⟨go,yl⟩:=ok.go i H' _ N (Later.of e' f');refine .inr ⟨go,λs H2=>∃r,Y (i+1) r/\Xk K H0 B H2 s r/\Fr B H1 σ γ H2 s r,λs H2 ⟨r,a1,a2,a3⟩=>⟨n-(i+1),by lia,rfl,N,r,a1,a2,a3⟩,λx U y=>?_⟩;obtain⟨S2,tv⟩:=yl x U y;refine hg H0 B H' U z f _ _ _ _ e' S2 tv (hs i f N hi') λs r q2 e2 f2 _=>?_;have fall:=f'.trans f2;refine hb H0 B U s r _ _ hB e2 q2 ⟨λl o T C A G=>?_,e.rt,λl o c T C A G=>e.ex l o c T C A ((Fr.grow S1).trans (fall.trans G)),λl o T C A G=>e.nx l o T C A ((Fr.grow S1).trans (fall.trans G)),λl o T C A G=>?_,λl o d v T C A G=>e.rv l o d v T C A ((Fr.grow S1).trans (fall.trans G))⟩
  ·exact⟨_,C,(A.clr M).1,(fall.trans G).trans (A.clr M).2⟩
  ·exact⟨_,C,(A.clr M).1,(fall.trans G).trans (A.clr M).2⟩
 ·have:i=n:=by lia
  subst this;exact .inl ⟨ok.stop H' _ (Later.of e' f'),e.nx z f H' (hd f hi') e' ((Fr.grow S1).trans f')⟩
noncomputable def S.fix:S->Bool
 | .bor _=>true | .sh _=>true | .own (.nsl _ _)=>false | .own _=>true|_=>false
noncomputable def pIL(a:PTE):PTI:=λγ R X=>a γ (λs=>match s.d with
 | .lst g=>s.fix=true/\R g.length λi=>s.sub (g.getD i .non)
 | .scr f=>s.fix=true/\R f.length λi=>.sh (.int<|f.getD i 0)
 |_=>False) X
def TV.last (env:Xk K H0 B H σ γ) (L:Same H H1) (f:TV K (zof B γ σ) H0 H H1 s v) (G:s.fix=true) (o:s.d=.lst ds):∃l vs,v=.ref l/\vs.length=ds.length/\
  ∀H' Z',Later H0 (zof B γ σ) H1 Z' H'->H' l=some (.lst vs)/\∀(i:Nat) d,ds[i]?=some d->∃u,vs[i]?=some u/\TV K Z' H0 H' H' (s.sub d) u:=by
 have g:∀{s:S},(∀d,s.sub d=.sh d)->Rp K (Pu.off (zof B γ σ) H1) (.lst ds) v->∃l vs,v=.ref l/\vs.length=ds.length/\
   ∀H' Z',Later H0 (zof B γ σ) H1 Z' H'->H' l=some (.lst vs)/\∀i d,ds[i]?=some d->∃u,vs[i]?=some u/\TV K Z' H0 H' H' (s.sub d) u:=λM h=>by
  obtain⟨l,vs,rfl,z,n⟩:=Rp.lst_inv h;refine⟨l,vs,rfl,n.len,λH' Z' lt=>⟨off_sub _ _ (lt.off _ _ z),λi d r=>?_⟩⟩;obtain⟨u,y,w⟩:=n.get r;refine⟨u,y,?_⟩;rw[M];exact Rp.mono lt.off w
 cases s with
 |bor d=>
  have f:=Rp.strip f;rw[show d.strip=.lst ds from o]at f
  obtain⟨l,vs,rfl,z,n⟩:=Rp.lst_inv f;refine⟨l,vs,rfl,n.len,λH' Z' lt=>⟨lt.1 _ _ z,λi d r=>?_⟩⟩;obtain⟨u,y,w⟩:=n.get r;exact⟨u,y,N3 lt.2.1 lt.1 w⟩
 |sh d=>
  have:=o
  subst this;exact g (λ_=>rfl) f
 |own A=>
  cases A with
  |dK A|dT A|ins x C xs J|nst J=>cases o
  |nsl a J=>cases G
  |_=>
   cases o
   exact g (λ_=>rfl) (f.shd (env.grow L).same env.zm L rfl)
 |_=>cases G
def Zd9(ha:Xf K mg E te a):SndI K mg E (B7 K te) (pIL a):=by
 intro H0 B H σ γ R X Q n h q qx;refine ha H0 B H σ γ _ X _ n h (λs v H1 r M o=>?_) qx;have f:=n.grow M;split at r
 ·rename_i Y C;obtain⟨l,G,rfl,hn,g⟩:=o.last n M r.1 C;obtain⟨N,_⟩:=g H1 _ (Later.of f Fr.refl);refine⟨l,rfl,⟨G,SqL.of N⟩,q _ _ _ H1 r.2 M ⟨λi H' Z' L lt=>?_,λH' Z' lt=>?_⟩⟩
  ·obtain⟨w,k2⟩:=g H' Z' lt;have hd:Y[i]?=some (Y.getD i .non):=by rw[WU,WJ L];rfl
   obtain⟨u,z,tu⟩:=k2 i _ hd;refine⟨⟨G,u,SqL.of w,z⟩,λx T y=>?_⟩;obtain⟨rfl,y⟩:=y
   have:=y G (SqL.of w)
   rw[z]at this;cases this
   exact⟨Same.refl _,tu⟩
  ·exact⟨G,SqL.of (g H' Z' lt).1,by lia⟩
 ·rename_i J C
  have A:∃l,v=.ref l/\∀H' Z',Later H0 (zof B γ σ) H1 Z' H'->SqL K H' l (J.map V.int):=by
   cases s with
   |bor d=>
    have o:=Rp.strip o;rw[show d.strip=.scr J from C]at o
    cases o with
    |scr A=>exact⟨_,rfl,λH' Z' lt=>lt.1.seq A⟩
   |sh d=>
    have:=C
    subst this;cases o with
    |scr A=>exact⟨_,rfl,λH' Z' lt=>off_sub.seq (lt.off.seq A)⟩
   |own U|view U=>cases U<;>cases C
   |tmp d=>cases r.1
  obtain⟨l,rfl,g⟩:=A;refine⟨l,rfl,⟨_,g H1 _ (Later.of f Fr.refl)⟩,q _ _ _ H1 r.2 M ⟨λi H' Z' L lt=>?_,λH' Z' lt=>?_⟩⟩
  ·have w:=g H' Z' lt
   have z:(J.map V.int)[i]?=some (.int<|J.getD i 0):=by
    rw[WY,WJ L,WU,WJ L];rfl
   refine⟨⟨_,_,w,z⟩,λx T y=>?_⟩;obtain⟨rfl,y⟩:=y
   have:=y _ w
   rw[z]at this;cases this
   exact⟨Same.refl _,.int _⟩
  ·exact⟨_,g H' Z' lt,by rw[WI];exact WT _⟩
 ·exact r.elim
def fR1(R:Nat->(Nat->S)->Prop):List D->Prop
 |[.int j]=>(-(2 ^ 62)<=j/\j<2 ^ 62)/\R j.toNat λi=>.sh (.int (0+(i:Int)))
 |_=>False
def fR2(R:Nat->(Nat->S)->Prop):List D->Prop
 |[.int i,.int j]=>(-(2 ^ 62)<=i/\i<2 ^ 62/\-(2 ^ 62)<=j/\j<2 ^ 62)/\R (j-i).toNat λk=>.sh (.int (i+(k:Int)))
 |_=>False
noncomputable def MK(r:PTA):PTI:=λγ R X=>r γ (λf=>fR1 R (f.map S.d)) X
noncomputable def GC(r:PTA):PTI:=λγ R X=>r γ (λf=>fR2 R (f.map S.d)) X
def Rps.one_inv (h:Rps K H [d] vs):∃v,vs=[v]/\Rp K H d v:=by
 cases h with
 |cons h r=>cases r;exact⟨_,rfl,h⟩
def Rps.two_inv (h:Rps K H [d,e] vs):∃v u,vs=[v,u]/\Rp K H d v/\Rp K H e u:=by
 cases h with
 |cons h r=>cases r with|cons f r=>cases r;exact⟨_,_,rfl,h,f⟩
def HG{lo n}:Ht K H0 B H1 σ γ (Itr lo n) n λi=>.sh (.int (lo+(i:Int))):=by
 refine⟨λi H' Z' f lt=>⟨f,λx g y=>?_⟩,λH' Z' lt=>WT _⟩;obtain⟨e,y⟩:=y;subst e y;exact⟨Same.refl _,.int _⟩
def Zcd(y:X4 K mg E o r):SndI K mg E (Ow o) (MK r):=by
 intro H0 B H σ γ R X Q g h q x;refine y H0 B H σ γ _ X _ g h (λC A H1 f n s=>?_) x;have l:=s.rps (g.grow n).same;unfold fR1 at f;split at f
 ·rename_i j z;rw[z]at l;obtain⟨v,rfl,w⟩:=l.one_inv;rw[w.int_inv];exact⟨j,rfl,f.1.1,f.1.2,q _ _ _ H1 f.2 n HG⟩
 ·grind
def Zjx(z:X4 K mg E o r):SndI K mg E (Gv o) (GC r):=by
 intro H0 B H σ γ R X Q f h q y;refine z H0 B H σ γ _ X _ f h (λG C H1 g n s=>?_) y;have l:=s.rps (f.grow n).same;unfold fR2 at g;split at g
 ·rename_i i j A;rw[A]at l;obtain⟨v,u,rfl,x,w⟩:=l.two_inv;rw[x.int_inv,w.int_inv];exact⟨i,j,rfl,g.1,q _ _ _ H1 g.2 n HG⟩
 ·grind
structure Lo (js:Yd) (γ:Γ) (c:PTT) (body:PTS) (R:TY):Prop where
 w:∃(inv:Γ->Prop) (μ:Γ->Nat),inv (clr js γ)/\∀γ',inv γ'->c γ' (λb=>if b=true then
  body {R with nx:=λγ3=>inv (clr js γ3)/\μ (clr js γ3)<μ γ',ct:=λγ3=>inv (clr js γ3)/\μ (clr js γ3)<μ γ',bk:=R.nx} γ' else R.nx γ') (R.ex γ')
noncomputable def GP(f:Yd)(c:PTT)(body:PTS):PTS:=λR γ=>Lo f γ c body R
def Zc3(z:Yd)(L:K4 K mg E tt c)(hb:Xu K mg E t p):Xu K mg E (L8 tt t) (GP z c p):=by
 intro H0 B H σ γ R D hB G h e;obtain⟨C,J,h0,hs⟩:=h.w;refine⟨λm l H'=>∃f,m=J f/\C f/\Xk K H0 B H' l f/\Fr B H σ γ H' l f,⟨_,_,rfl,h0,(G.clr z).1,(G.clr z).2⟩,?_⟩;rintro m l H' ⟨f,rfl,hi,M,U⟩;refine L H0 B H' l f _ _ _ M (hs f hi) (λb H1 T S1=>?_) λc Q L S'=>e.ex l f c Q L (M.grow S') (U.trans<|Fr.grow S');have Y:=M.grow S1;have f1:=U.trans (Fr.grow S1);cases b with
 |false=>
  exact e.nx l f H1 T Y f1
 |true=>
  refine⟨λy N=>∃o,J o<J f/\C o/\Xk K H0 B N y o/\Fr B H σ γ N y o,λy N ⟨o,k,a1,a2,a3⟩=>⟨_,k,o,rfl,a1,a2,a3⟩,?_⟩;refine hb H0 B H1 l f _ _ hB Y T ⟨λg n A r s x=>?_,e.rt,λg n c A r s x=>e.ex g n c A r s (f1.trans x),λg n A r s x=>e.nx g n A r s (f1.trans x),λg n A r s x=>?_,λg n d v A r s x=>e.rv g n d v A r s (f1.trans x)⟩
  ·exact⟨_,r.2,r.1,(s.clr z).1,(f1.trans x).trans (s.clr z).2⟩
  ·exact⟨_,r.2,r.1,(s.clr z).1,(f1.trans x).trans (s.clr z).2⟩
end
section
variable {K:ZW}{mg:Ya}{E:L2.St->XK}{H0 H H1 H':Hp}{B Z Z':Addr->Prop}{σ:L2.St}{γ:Γ}
noncomputable def PN(N:Yf)(ds:List D):Γ:=ds.map (λd=>some (arg d))++List.replicate (N.length-ds.length) none
def Znf{ds vs}(r:Rps K H ds vs)(x:ds.length<=N.length):Xk K H (λb=>Mut (H b)) H (start N vs) (PN N ds):=by
 have get:∀i s,(PN N ds)[i]?=some (some s)->∃d,ds[i]?=some d/\s=arg d:=λi s h=>by
  unfold PN at h;by_cases g:i<ds.length
  ·rw[Qs (by rw[WI];exact g),WY,WJ g]at h;exact⟨_,WJ g,(Qc<|Qc h).symm⟩
  ·rw[Qx (by rw[WI];lia),VC]at h;split at h<;>cases h
 have noown:∀(i:Nat) f,(PN N ds)[i]?≠some (some<|.own f):=λi f h=>by
  obtain⟨d,_,e⟩:=get i _ h;rcases E9 d with q|q<;>rw[q]at e<;>cases e
 refine⟨Same.refl _,?_,λb h=>h,λi j a y f w b h=>absurd h (noown i f),λi s h=>?_⟩
 ·unfold L2.start PN;simp[r.len]
 ·obtain⟨d,u,rfl⟩:=get i s h;obtain⟨v,n,o⟩:=r.get u;refine⟨v,?_,?_⟩
  ·unfold L2.start;rw[Qs (by rw[WI];exact(Qq.mp n).1),WY,n];rfl
  ·have l:=N3 (Z:=zof (λb=>Mut (H b)) (PN N ds) (start N vs)) (H:=H) (λb z=>z.elim id λ⟨k,f,_,p,_⟩=>absurd p (noown k f)) (Same.refl _) o;rcases E9 d with q|q<;>rw[q]at l ⊢<;>exact l
def Zij{t p vs Q y n}(h:Xl mg c K vs H Q y)(o:Xu K mg (λ_=>y) t p)(L:n<=N.length)(u:∀ds R X,c ds R X->ds.length=n/\p {nx:=λ_=>R (.sh .non),rt:=R,ex:=λ_ e=>X e} (PN N ds)):t {nx:=λ_ H'=>Q .non H',rt:=Q} (start N vs) H:=by
 obtain⟨ds,R,X,r,C,x,G⟩:=h;obtain⟨e,u⟩:=u ds R X C;refine o H (λb=>Mut (H b)) H _ _ _ _ (λb z=>Tw z) (Znf r<|by lia) u ⟨λg l H' f w f1=>x _ _ H' f w.same .non,λs v H' f J A=>x s v H' f J A,λg l c H' f w f1=>G c H' f w.same,λ_ _ _ z=>z.elim,λ_ _ _ z=>z.elim,λ_ _ _ _ _ z=>z.elim⟩
def Zsf(h:Xl mg c K vs H Q l)(f:∀ds R X,c ds R X->ds.length=n):vs.length=n:=by
 obtain⟨ds,R,X,r,g,_⟩:=h;rw[r.len]
 grind
noncomputable def atP(φ:Yc)(γ:Γ):Γ:=φ.map λo=>o.bind λj=>(γ[j]?).join
structure SN (φ:Yc) (γ:Γ) (g:PTG) (c:PTT) (e:PTE) (n:Nat) (item:Nat->S) (R:S->Prop):Prop where
 w:n<=100000/\∃f:Nat->Option D,(∀i,i<n->g (item i) (atP φ γ) λγ2=>c γ2 (λb=>if b=true then e γ2 (λs=>∃d,s.shd=some d/\f i=some d) (λ_=>False)else f i=none) (λ_=>False))/\R (.own ((List.range n).filterMap f))
noncomputable def CN(φ:Yc)(f:PTI)(g:PTG)(c:PTT)(e:PTE):PTE:=λγ R X=>f γ (λn item=>SN φ γ g c e n item R) X
def FN{i:Nat}{s}(h:(atP φ γ)[i]?=some (some s)):∃j,φ[i]?=some (some j)/\γ[j]?=some (some s):=by
 unfold atP at h;cases e:φ[i]? with
 |none=>grind
 |some o=>
  cases o with
  |_=>grind
theorem EE:∀{φ:Yc},(φ.filterMap id).Nodup->∀(i j k:Nat),φ[i]?=some (some k)->φ[j]?=some (some k)->i=j
 |[],_,i,_,_,h,_=>by simp at h
 |none::r,n,i,j,k,g,f=>by
  cases i with
  |zero=>simp at g
  |succ i=>
   cases j with
   |zero=>simp at f
   |succ j=>exact Q4 (· + 1) (EE (by simpa using n) i j k (by simpa using g)<|by simpa using f)
 |some m::r,n,i,j,k,g,f=>by
  have l:m∉r.filterMap id/\(r.filterMap id).Nodup:=by simpa using n
  have o:∀{j:Nat},r[j]?=some (some k)->k∈r.filterMap id:=λh=>JJ.mpr ⟨some k,Qe h,rfl⟩;cases i with
  |zero=>
   cases j with
   |zero=>rfl
   |succ j=>simp_all
  |succ i=>
   cases j with
   |zero=>simp_all
   |succ j=>exact Q4 (· + 1) (EE l.2 i j k (by simpa using g)<|by simpa using f)
def BV{i j:Nat}(g:φ[i]?=some (some j)){v}(f:σ[j]?=some (some v)):(atStart φ σ)[i]?=some (some v):=by
 unfold atStart
 grind
def DM{L}(env:Xk K H0 B H σ γ)(s:H L=none):∀b o,H b=some o->¬zof B γ σ b->¬zof (λb=>zof B γ σ b\/b=L) (atP φ γ) (atStart φ σ) b:=λb o v z y=>by
 rcases y with(y|y)|⟨u,r,x,n,f,l⟩
 ·grind
 ·grind
 ·obtain⟨m,p,h⟩:=FN n;obtain⟨w,g,_⟩:=env.slot m _ h;rw[BV p g]at f;exact z (.inr ⟨m,r,x,h,by rw[g];exact Q4 some (Qc f),l⟩)
def Ol{L}(env:Xk K H0 B H σ γ)(n:Same H H')(M:H L=none)(N:∃ys,H' L=some (.lst ys))(r:(φ.filterMap id).Nodup) :
  Xk K H0 (λb=>zof B γ σ b\/b=L) H' (atStart φ σ) (atP φ γ):=by
 refine⟨env.same.trans n,by unfold atStart atP;simp,λb z=>?_,λi j a a' G es b h1 Y U C T Q=>?_,λi s h=>?_⟩
 ·rcases z with z|rfl
  ·exact Px n (env.zm b z)
  ·obtain⟨ys,e⟩:=N;rw[e];trivial
 ·obtain⟨k,g,f⟩:=FN h1;obtain⟨l,A,y⟩:=FN Y;obtain⟨v,p,_⟩:=env.slot k _ f;obtain⟨u,w,_⟩:=env.slot l _ y;rw[BV g p]at U;rw[BV A w]at C
  have:=env.own k l a a' G es b f y (by grind) (by rw[w];exact Q4 some (Qc C)) T Q
  subst this;exact EE r i j k g A
 ·obtain⟨k,g,f⟩:=FN h;obtain⟨v,p,o⟩:=env.slot k _ f;have J:Same (off (zof B γ σ) H) (off (zof (λb=>zof B γ σ b\/b=L) (atP φ γ)<|atStart φ σ) H'):=Xs n (DM env M);refine⟨v,BV g p,?_⟩;cases s with
  |sh d=>exact Rp.mono J o
  |own G=>
   obtain⟨a,e1,e3,e4⟩:=o;exact⟨a,e1,e3,e4.mono J λb _ x=>n b x⟩
  |_=>exact o
def Sub.of {g:Yd} (h:f.length=σ.length) (n:∀j,j∉g->f[j]?=σ[j]?) (o:∀j∈g,∀v,σ[j]?≠some (some v)):Sub σ f:=⟨h,λi v e=>by
 by_cases l:i∈g
 ·grind
 ·rw[n i l];exact e⟩
structure Zbf (K:ZW) (H0:Hp) (B:Addr->Prop) (H1:Hp) (σ:L2.St) (γ:Γ) (J:It) (n:Nat) (item:Nat->S):Prop where
 go:∀(i:Nat) (H':Hp) (Z':Addr->Prop),i<n->Same H1 H'->Later H0 (zof B γ σ) H1 Z' H'->J.go i H'/\∀x H'',J.yld i H' x H''->Same H' H''/\TV K Z' H0 H' H'' (item i) x
 stop:∀(H':Hp) (Z':Addr->Prop),Same H1 H'->Later H0 (zof B γ σ) H1 Z' H'->J.stop n H'
def NW(K:ZW)(mg:Ya)(E:L2.St->XK)(f:TI)(g:PTI):Prop:=∀(H0:Hp) (B:Addr->Prop) (H:Hp) (σ:L2.St) (γ:Γ) (R:Nat->(Nat->S)->Prop) (X:XR) (Q:It->Hp->Prop),Xk K H0 B H σ γ->g γ R X->
 (∀n item J H1,R n item->Same H H1->Zbf K H0 B H1 σ γ J n item->Q J H1)->(∀c H',X c->Same H H'->XE mg (E σ) c H')->f σ H Q
def SndI.c (h:SndI K mg E g o):NW K mg E g o:=λH0 B H σ γ R X Q f p q l=>
 h H0 B H σ γ R X Q f p (λn item J H1 s u ok=>q n item J H1 s u ⟨λi H' Z' r _ lt=>ok.go i H' Z' r lt,λH' Z' _ lt=>ok.stop H' Z' lt⟩) l
noncomputable def OA(a:PTE):PTI:=λγ R X=>a γ (λs=>match s.d with
 | .lst f=>R f.length λi=>s.sub (f.getD i .non)
 | .tup f=>False
 | .scr g=>R g.length λi=>.sh (.int<|g.getD i 0)
 |_=>False) X
def Ni(ha:Xf K mg E te a):NW K mg E (B7 K te) (OA a):=by
 intro H0 B H σ γ R X Q env h q qx;refine ha H0 B H σ γ _ X _ env h (λs v H1 h1 S1 A=>?_) qx;have M:=env.grow S1;split at h1
 ·rename_i ds G;have Y:=A.rp M.same;rw[G]at Y;obtain⟨l,U,rfl,f,r1⟩:=Y.lst_inv;refine⟨l,rfl,⟨U,SqL.of f⟩,q _ _ _ H1 h1 S1 ⟨λi H' Z' hi J lt=>?_,λH' Z' J lt=>⟨U,SqL.of (J _ _ f),by rw[r1.len];exact WT _⟩⟩⟩;have N:ds[i]?=some (ds.getD i .non):=by rw[WU,WJ hi];rfl
  have hi':∃u,U[i]?=some u/\TV K Z' H0 H' H' (s.sub<|ds.getD i .non) u:=by
   cases s with
   |bor d=>
    have A:=Rp.strip A;rw[show d.strip=.lst ds from G]at A
    obtain⟨T,o,w,r,p⟩:=Rp.lst_inv A;cases w
    rw[M.same _ _ r]at f;cases f
    obtain⟨u,n,g⟩:=p.get N;exact⟨u,n,N3 lt.2.1 lt.1 g⟩
   |sh d=>
    have:=G
    subst this;obtain⟨T,o,w,r,p⟩:=Rp.lst_inv A;cases w
    rw[off_sub _ _ r]at f;cases f
    obtain⟨u,n,g⟩:=p.get N;exact⟨u,n,Rp.mono lt.off g⟩
   |own L=>
    cases L with
    |dK L|dT L|ins x C xs cs|nst cs=>cases G
    |nsl x cs=>
     obtain⟨u,n,g⟩:=r1.get N;exact⟨u,n,Tj lt.2.1 (Rp.mono J g)⟩
    |lsA x L=>
     cases G
     obtain⟨T,w,h0,_,o,r,p⟩:=A;cases w
     rw[r]at f;cases f
     obtain⟨u,n,g⟩:=p.get N;exact⟨u,n,Rp.mono lt.off (Rp.mono (Xs (Same.refl _) λb _ _ z y=>z (.inl y)) g)⟩
    |lst L=>
    cases G
    obtain⟨T,w,h0,o,r,p⟩:=A;cases w
    rw[r]at f;cases f
    obtain⟨u,n,g⟩:=p.get N;exact⟨u,n,Rp.mono lt.off (Rp.mono (Xs (Same.refl _) λb _ _ z y=>z (.inl y)) g)⟩
   |view L=>
    cases L with
    |dK L|dT L|ins x C xs cs|nst cs=>cases G
    |nsl x cs=>
     obtain⟨u,n,g⟩:=r1.get N;exact⟨u,n,Tj lt.2.1 (Rp.mono J g)⟩
    |lsA x L=>
     cases G
     obtain⟨T,w,_,o,r,p⟩:=A;cases w
     rw[r]at f;cases f
     obtain⟨u,n,g⟩:=p.get N;exact⟨u,n,Rp.mono lt.off g⟩
    |lst L=>
    cases G
    obtain⟨T,w,o,r,p⟩:=A;cases w
    rw[r]at f;cases f
    obtain⟨u,n,g⟩:=p.get N;exact⟨u,n,Rp.mono lt.off g⟩
   |tmp d=>
    have:=G
    subst this;obtain⟨T,o,w,r,p⟩:=Rp.lst_inv A;cases w
    rw[r]at f;cases f
    obtain⟨u,n,g⟩:=p.get N;exact⟨u,n,Tj lt.2.1 (Rp.mono J g)⟩
  obtain⟨u,hu,tu⟩:=hi';refine⟨⟨U,u,SqL.of (J _ _ f),hu⟩,λx H'' y=>?_⟩;obtain⟨rfl,y⟩:=y
  have:=y U (SqL.of<|J _ _ f)
  rw[hu]at this;cases this
  exact⟨Same.refl _,tu⟩
 ·exact h1.elim
 ·rename_i ns G;have Y:=A.rp M.same;rw[G]at Y;cases Y with
  |scr hs=>
   refine⟨_,rfl,⟨_,hs⟩,q _ _ _ H1 h1 S1 ⟨λi H' Z' hi J lt=>?_,λH' Z' J lt=>⟨_,J.seq hs,by rw[WI];exact WT _⟩⟩⟩
   have hu:(ns.map V.int)[i]?=some (.int<|ns.getD i 0):=by
    rw[WY,WJ hi,WU,WJ hi];rfl
   refine⟨⟨_,_,J.seq hs,hu⟩,λx H'' y=>?_⟩;obtain⟨rfl,y⟩:=y
   have:=y _ (J.seq hs)
   rw[hu]at this;cases this
   exact⟨Same.refl _,.int _⟩
 ·exact h1.elim
def PP{φ is wi g tc te it pg c a}(hi:NW K mg E wi it)(hg:TN K is g pg)(hc:K4 K mg E tc c)(he:Xf K mg E te a)(h1:autoParam ((φ.filterMap id).Nodup) au_1)(h2:autoParam (∀j∈is,φ[j]?=some none) au_1):Xf K mg E (SE φ wi g tc te) (CN φ it pg c a):=by
 intro H0 B H σ γ R X Q env h q qx;refine hi H0 B H σ γ _ X _ env h (λn item J H1 h1' S1 ok=>?_) qx;obtain⟨hn,f,hf,hR⟩:=h1'.w;have l:=env.grow S1;have hbig:n<=sizeLine:=WV hn (by decide);intro L U;refine⟨λi m G C=>m=n-i/\i<=n/\Same H1 C/\C L=some (.lst G)/\Rps K (off (λb=>zof B γ σ b\/b=L) C) ((List.range i).filterMap f) G,⟨n,by simp,QD _,XX U,X9,.nil⟩,?_⟩;rintro i m G C ⟨rfl,hin,u,hL,p⟩;have A:=l.grow u;by_cases r:i<n
 ·have envI2:=Ol l u U ⟨G,hL⟩ h1;obtain⟨go,yl⟩:=ok.go i C _ r u ⟨A.same,envI2.zm,λb o Y z=>⟨u _ _ Y,DM l U b o Y z⟩⟩;refine .inr ⟨go,λx H3 y=>?_⟩;obtain⟨S3,tv⟩:=yl x H3 y;refine hg H0 _ C H3 _ _ _ _ _ _ envI2 S3 tv (hf i r) λN T p2 e2 f2 k2=>⟨?_,?_⟩
  ·refine Sub.of k2.2 k2.1 λj hj v z=>?_;obtain⟨k,k1,_⟩:=D5 z;rw[h2 j hj]at k1;cases k1
  ·refine hc H0 _ H3 N T _ _ _ e2 p2 (λb H5 q5 S5=>?_) λ_ _ z=>z.elim;have e5:=e2.grow S5;cases b with
   |false=>
    rw[WO Qk]at q5 ⊢;refine⟨n-(i+1),by lia,rfl,r,(u.trans S3).trans S5,(S3.trans S5) _ _ hL,?_⟩;rw[List.range_succ,VJ];simp only[QV,q5,List.filterMap_nil,Q8];exact Rps.mono (Xs (S3.trans S5) λ_ _ _ z=>z) p
   |true=>
    refine he H0 _ H5 N T _ _ _ e5 q5 (λs v H6 q6 S6 t6=>?_) λ_ _ z=>z.elim;obtain⟨d,hd,hfd⟩:=q6;have M:=(S3.trans S5).trans S6
    have hlen:G.length<=i:=by
     rw[p.len];exact WV (List.length_filterMap_le _ _) (by rw[Jo];exact WT _)
    refine⟨M _ _ hL,by lia,n-(i+1),by lia,rfl,r,λb o Y=>?_,X9,?_⟩
    ·rw[Xx (Kz Y U)];exact M _ _ (u _ _ Y)
    ·rw[List.range_succ,VJ];have ef:[i].filterMap f=[d]:=by simp[hfd]
     rw[ef]
     have So:Same (off (λb=>zof B γ σ b\/b=L) H6) (off (λb=>zof B γ σ b\/b=L)<|upd H6 L<|.lst (G++[v])):=λb o h=>by
      obtain⟨a1,a2⟩:=Pn h;refine XQ ?_ a2;rwa[Xx λz=>a2 (.inr z)]
     refine Rps.append (Rps.mono So<|Rps.mono (Xs M λ_ _ _ z=>z) p) (.cons (Rp.mono So<|Rp.mono (Xs (Same.refl _) λb _ _ z y=>z (.inl y)) (t6.shd (e5.grow S6).same e5.zm S6 hd)) .nil)
 ·have:i=n:=by lia
  subst this;exact .inl ⟨ok.stop C _ u (Later.of A<|Fr.grow u),q _ _ C hR (S1.trans u) ⟨L,rfl,(λ_ e=>e▸S1.free U),G,hL,p⟩⟩
noncomputable def GD:PTT:=λ_ R _=>R true
def Nn:K4 K mg E LS GD:=λ_ _ H _ _ _ _ _ _ p q _=>q _ H p (Same.refl _)
def Zfv{g h:Type}(xs:List g)(f:g->Option h):(List.range xs.length).filterMap (λi=>(xs[i]?).bind f)=xs.filterMap f:=by
 induction xs with
 |nil=>rfl
 |cons x r l=>
  rw[Qf,List.range_succ_eq_map,QV,List.filterMap_map,QV];have e:(λi=>((x::r)[i]?).bind f)∘Nat.succ=λi=>(r[i]?).bind f:=rfl;rw[e,l];rfl
end
open M
section
variable {K:ZW}{mg:Ya}{E:L2.St->XK}{H0 H H1 H':Hp}{B Z Z':Addr->Prop}{σ:L2.St}{γ:Γ}
noncomputable def pCB(f:List S->(S->Prop)->Prop)(r:PTA):PTE:=λγ R X=>r γ (λg=>f g R) X
def P3{f o r}(A:X4 K mg E o r)(h:∀H0 H H1 Z l vs R Q,Same H0 H1->Same H H1->(∀b,Z b->Mut (H b))->TVs K Z H0 H H1 l vs->f l R->(∀s z H',R s->Same H1 H'->TV K Z H0 H H' s z->Q z H')->w vs H1 Q) :
  Xf K mg E (tCB w o) (pCB f r):=by
 intro H0 B H σ γ R X Q g p q x;refine A H0 B H σ γ _ X _ g p (λl vs H1 C n v=>?_) x;exact h H0 H H1 _ l vs R Q (g.grow n).same n g.zm v C λs z H' y G u=>q s z H' y (n.trans G) u
noncomputable def S.free:S->List D->Bool
 | .bor _,f=>XF f | .tmp _,f=>XF f | .view (.nst _),f=>XF f | .view (.nsl _ _),f=>XF f|_,_=>true
def TVs.one_inv (h:TVs K Z H0 H H' [s] vs):∃v,vs=[v]/\TV K Z H0 H H' s v:=by
 cases h with
 |cons h r=>cases r;exact⟨_,rfl,h⟩
def TVs.two_inv (h:TVs K Z H0 H H' [s,t] vs):∃v u,vs=[v,u]/\TV K Z H0 H H' s v/\TV K Z H0 H H' t u:=by
 cases h with
 |cons h r=>cases r with|cons f r=>cases r;exact⟨_,_,rfl,h,f⟩
def TV.items (n:Same H0 H') (u:∀b,Z b->Mut (H b)) (C:Same H H') (h:TV K Z H0 H H' s v) (p:s.free ds=true) :
  (s.d=.lst ds->∃a vs,v=.ref a/\H' a=some (.lst vs)/\Rps K (off Z H') ds vs)/\(s.d=.tup ds->∃a vs,v=.ref a/\H' a=some (.tup vs)/\Rps K (off Z H') ds vs):=by
 have g:=λb z=>Px C (u b z);cases s with
 |bor d=>
  have h:=Rp.strip h;refine⟨λe=>?_,λe=>?_⟩<;>rw[show d.strip=_ from e]at h
  ·obtain⟨a,vs,rfl,f,r⟩:=Rp.lst_inv h;exact⟨a,vs,rfl,n _ _ f,Rps.off g (Rps.mono n r) p⟩
  ·obtain⟨a,vs,rfl,f,r⟩:=Rp.tup_inv h;exact⟨a,vs,rfl,n _ _ f,Rps.off g (Rps.mono n r) p⟩
 |sh d=>
  refine⟨λe=>?_,λe=>?_⟩<;>(have w:=e;subst w)
  ·obtain⟨a,vs,rfl,f,r⟩:=Rp.lst_inv h;exact⟨a,vs,rfl,off_sub _ _ f,r⟩
  ·obtain⟨a,vs,rfl,f,r⟩:=Rp.tup_inv h;exact⟨a,vs,rfl,off_sub _ _ f,r⟩
 |own o=>
  cases o with
  |nsl x A=>
   refine⟨λe=>?_,λe=>by cases e⟩;have l:=h.shd n u C rfl;cases e
   obtain⟨a,vs,rfl,f,r⟩:=Rp.lst_inv l;exact⟨a,vs,rfl,off_sub _ _ f,r⟩
  |nst A=>
   refine⟨(λe=>by cases e),λe=>?_⟩;have l:=h.shd n u C rfl;cases e
   obtain⟨a,vs,rfl,f,r⟩:=Rp.tup_inv l;exact⟨a,vs,rfl,off_sub _ _ f,r⟩
  |lst o=>
   refine⟨λe=>?_,λe=>by cases e⟩;cases e
   obtain⟨a,rfl,G,vs,e,r⟩:=h;exact⟨a,vs,rfl,e,Rps.mono (Xs (Same.refl _) λb _ _ z y=>z (.inl y)) r⟩
  |lsA x o=>
   refine⟨λe=>?_,λe=>by cases e⟩;cases e
   obtain⟨a,rfl,G,_,vs,e,r⟩:=h;exact⟨a,vs,rfl,e,Rps.mono (Xs (Same.refl _) λb _ _ z y=>z (.inl y)) r⟩
  |_=>exact⟨(λe=>by cases e),(λe=>by cases e)⟩
 |view o=>
  cases o with
  |nsl x A=>
   refine⟨λe=>?_,λe=>by cases e⟩;have l:=h.rp n;rw[e]at l;obtain⟨a,vs,rfl,f,r⟩:=Rp.lst_inv l;exact⟨a,vs,rfl,f,Rps.off g r p⟩
  |nst A=>
   refine⟨(λe=>by cases e),λe=>?_⟩;have l:=h.rp n;rw[e]at l;obtain⟨a,vs,rfl,f,r⟩:=Rp.tup_inv l;exact⟨a,vs,rfl,f,Rps.off g r p⟩
  |lst o=>
   refine⟨λe=>?_,λe=>by cases e⟩;cases e
   obtain⟨a,rfl,vs,e,r⟩:=h;exact⟨a,vs,rfl,e,r⟩
  |lsA x o=>
   refine⟨λe=>?_,λe=>by cases e⟩;cases e
   obtain⟨a,rfl,_,vs,e,r⟩:=h;exact⟨a,vs,rfl,e,r⟩
  |_=>exact⟨(λe=>by cases e),(λe=>by cases e)⟩
 |tmp d=>
  refine⟨λe=>?_,λe=>?_⟩<;>(have w:=e;subst w)
  ·obtain⟨a,vs,rfl,f,r⟩:=Rp.lst_inv h;exact⟨a,vs,rfl,f,Rps.off g r p⟩
  ·obtain⟨a,vs,rfl,f,r⟩:=Rp.tup_inv h;exact⟨a,vs,rfl,f,Rps.off g r p⟩
def AE:List S->(S->Prop)->Prop
 |[s],R=>(match s.d with
  | .lst g=>R (.sh<|.int g.length) | .tup g=>R (.sh<|.int g.length) | .scr f=>R (.sh<|.int f.length) | .fL f=>R (.sh<|.int f.length) | .str x=>x.length<=sizeLine/\R (.sh<|.int x.length)|_=>False)
 |_,_=>False
def NV(C:X4 K mg E w r):Xf K mg E (tCB (λxs H Q=>∃x n,xs=[x]/\F5 K x H n/\Q (.int n) H) w) (pCB AE r):=by
 refine P3 C λH0 H H1 Z L J R Q z M N u h q=>?_;unfold AE at h;split at h
 ·rename_i s;obtain⟨v,rfl,y⟩:=u.one_inv;have f:=y.rp z;split at h
  ·rename_i G e;rw[e]at f;obtain⟨a,g,rfl,p,l⟩:=f.lst_inv;exact⟨_,_,rfl,.inl ⟨g,SqL.of p,rfl⟩,by rw[l.len];exact q _ _ H1 h (Same.refl _) (.int _)⟩
  ·rename_i G e;rw[e]at f;obtain⟨a,g,rfl,p,l⟩:=f.tup_inv;exact⟨_,_,rfl,.inr ⟨g,SqT.of p,rfl⟩,by rw[l.len];exact q _ _ H1 h (Same.refl _) (.int _)⟩
  ·rename_i A e;rw[e]at f;cases f with
   |scr o=>exact⟨_,_,rfl,.inl ⟨_,o,rfl⟩,by rw[WI];exact q _ _ H1 h (Same.refl _) (.int _)⟩
  ·rename_i A e;rw[e]at f;cases f with
   |fL o=>exact⟨_,_,rfl,.inl ⟨_,.inl (.inr ⟨_,o⟩),rfl⟩,by rw[WI];exact q _ _ H1 h (Same.refl _) (.int _)⟩
  ·rename_i x e;rw[e]at f;rw[f.str_inv];exact⟨_,_,rfl,⟨h.1,rfl⟩,q _ _ H1 h.2 (Same.refl _) (.int _)⟩
  ·exact h.elim
 ·exact h.elim
def Me:List S->(S->Prop)->Prop
 |[s],R=>(match s.d with
  | .lst f=>s.free f=true/\R (.own f) | .tup f=>s.free f=true/\R (.own f)|_=>False)
 |_,_=>False
def Ta(C:X4 K mg E A r):Xf K mg E (tCB (λxs H Q=>∃p ys,xs=[.ref p]/\(SqL K H p ys\/SqT K H p ys)/\∀l,H l=none->Q (.ref l) (upd H l<|.lst ys)) A) (pCB Me r):=by
 refine P3 C λH0 H H1 Z L J R Q x g y z h q=>?_;unfold Me at h;split at h
 ·rename_i s;obtain⟨v,rfl,w⟩:=z.one_inv;split at h
  ·rename_i G e;obtain⟨a,n,rfl,u,o⟩:=(w.items x y g h.1).1 e;exact⟨a,n,rfl,.inl (SqL.of u),λl f=>q _ _ _ h.2 (XX f) (NR g f o)⟩
  ·rename_i G e;obtain⟨a,n,rfl,u,o⟩:=(w.items x y g h.1).2 e;exact⟨a,n,rfl,.inr (SqT.of u),λl f=>q _ _ _ h.2 (XX f) (NR g f o)⟩
  ·grind
 ·grind
def Mn:List S->(S->Prop)->Prop
 |[s],R=>(match s.d with
  | .lst f=>s.free f=true/\R (.sh<|.tup f) | .tup f=>s.free f=true/\R (.sh<|.tup f)|_=>False)
 |_,_=>False
def Gp(J:X4 K mg E G r):Xf K mg E (tCB (λxs H Q=>∃p ys,xs=[.ref p]/\((SqL K H p ys/\∀l,H l=none->Q (.ref l) (upd H l<|.tup ys))\/(SqT K H p ys/\Q (.ref p) H))) G) (pCB Mn r):=by
 refine P3 J λH0 H H1 Z N M R Q A o x C h q=>?_;have f:=λb z=>Px o (x b z);unfold Mn at h;split at h
 ·rename_i s;obtain⟨v,rfl,y⟩:=C.one_inv;split at h
  ·rename_i L e;obtain⟨a,n,rfl,g,u⟩:=(y.items A x o h.1).1 e;refine⟨a,n,rfl,.inl ⟨SqL.of g,λl w=>q _ _ _ h.2 (XX w) (.tup (XQ X9 λz=>?_)<|Rps.mono (Xs (XX w) λ_ _ _ z=>z) u)⟩⟩
   have:=f l z
   rw[w]at this;exact this
  ·rename_i L e;obtain⟨a,n,rfl,g,u⟩:=(y.items A x o h.1).2 e;refine⟨a,n,rfl,.inr ⟨SqT.of g,q _ _ _ h.2 (Same.refl _) (.tup (XQ g λz=>?_) u)⟩⟩
   have:=f a z
   rw[g]at this;exact this
  ·grind
 ·exact h.elim
theorem Rps.ints:∀{f:ZY}{vs:List V},Rps K H (f.map D.int) vs->vs=f.map V.int
 |[],_,.nil=>rfl
 |j::r,_,.cons h t=>by rw[Rp.int_inv h,Rps.ints t];rfl
theorem Rps.of_ints:∀(f:ZY),Rps K H (f.map D.int) (f.map V.int)
 |[]=>.nil
 |j::r=>.cons (.int j) (Rps.of_ints r)
def IY:List S->(S->Prop)->Prop
 |[s],R=>∃g:ZY,s.d=.lst (g.map D.int)/\g.length<64/\∀f:ZY,f.Perm g->f.Pairwise (·<=·)->R (.own<|f.map D.int)
 |_,_=>False
def AK{g r}(L:X4 K mg E g r):Xf K mg E (tCB (λxs H Q=>∃p f,xs=[.ref p]/\f.length<64/\(SqL K H p (f.map V.int)\/H p=some (NC w p f))/\
  ∀l (ns:ZY),H l=none->ns.Perm f->ns.Pairwise (·<=·)->Q (.ref l) (upd H l<|.lst<|ns.map V.int)) g) (pCB IY r):=by
 refine P3 L λH0 H H1 Z U N R Q A z Y x h q=>?_;unfold IY at h;split at h
 ·rename_i s;obtain⟨v,rfl,y⟩:=x.one_inv;obtain⟨f,e,G,k⟩:=h;have n:=y.rp A;rw[e]at n;obtain⟨a,T,rfl,u,C⟩:=n.lst_inv;rw[C.ints]at u;exact⟨a,f,rfl,G,.inl (SqL.of u),λl ns o M J=>q _ _ _ (k ns M J) (XX o) (NR z o<|Rps.of_ints ns)⟩
 ·grind
def MZ:List S->(S->Prop)->Prop
 |[s,t],R=>(match s.d,t.d with | .int i,.int j=>R (.sh<|.int (if j>i then j else i))|_,_=>False)
 |_,_=>False
def IK(w:X4 K mg E o r):Xf K mg E (tCB (λxs H Q=>∃i j,xs=[.int i,.int j]/\Q (.int (if j>i then j else i)) H) o) (pCB MZ r):=by
 refine P3 w λH0 H H1 Z A z R Q f C G n h q=>?_;unfold MZ at h;split at h
 ·obtain⟨v,u,rfl,s,p⟩:=n.two_inv;have l:=s.rp f;have g:=p.rp f;split at h
  ·rename_i i j y x;rw[y]at l;rw[x]at g;rw[l.int_inv,g.int_inv];exact⟨i,j,rfl,q _ _ H1 h (Same.refl _) (.int _)⟩
  ·grind
 ·grind
def Zsw:List S->(S->Prop)->Prop
 |[s],R=>(match s.d with | .int i=>R (.sh<|.int (if i<0 then -i else i))|_=>False)
 |_,_=>False
noncomputable def tyD:D->Option String
 | .int _=>some "int" | .bl _=>some "bool" | .non=>some "NoneType" | .str _=>some "str" | .tup _=>some "tuple" | .lst _=>some "list" | .fL _=>some "list" | .dK _=>some "dict" | .dT _=>some "dict" |_=>none
inductive K7:String->String->Bool->Prop
 |same (n:String):K7 n n true
 |ib:K7 "int" "bool" false
 |bi:K7 "bool" "int" true
 |tl:K7 "tuple" "list" false
 |lt:K7 "list" "tuple" false
 |it:K7 "int" "tuple" false
 |il:K7 "int" "list" false
 |bt:K7 "bool" "tuple" false
 |bL:K7 "bool" "list" false
 |ti:K7 "tuple" "int" false
 |li:K7 "list" "int" false
 |si:K7 "str" "int" false
 |is:K7 "int" "str" false
 |ni:K7 "NoneType" "int" false
 |nl:K7 "NoneType" "list" false
 |nt:K7 "NoneType" "tuple" false
def K7.kit (h:K7 m n b):PySem.W.kitOne K (.type m) (.type n)=some b:=by
 cases h with
 |same=>exact Zrz K _
 |_=>rfl
def RP:List S->(S->Prop)->Prop
 |[s,t],R=>(match tyD s.d,t.d with|some m,.ty n=>∃b,K7 m n b/\R (.sh<|.bl b)|_,_=>False)
 |_,_=>False
def Zk7(h:Rp K H d v)(e:tyD d=some m):Pb K H v (.type m):=by
 cases h with
 |int i=>cases e;exact .int i
 |bl b=>cases e;exact .bl b
 |non=>cases e;exact .non
 |str x=>cases e;exact .str x
 |tup h r=>cases e;exact .tup h
 |lst h r=>cases e;exact .lst h
 |dK h=>cases e;exact .dK h
 |dT h=>cases e;exact .dT h
 |fL h=>cases e;exact .frz h
 |_=>cases e
def T1(w:X4 K mg E o r):Xf K mg E (tCB (λxs H Q=>∃x n t b,xs=[x,.ty n]/\Pb K H x t/\PySem.W.kitOne K t (.type n)=some b/\Q (.bl b) H) o) (pCB RP r):=by
 refine P3 w λH0 H H1 Z G C R Q f J L l h q=>?_;unfold RP at h;split at h
 ·obtain⟨v,u,rfl,s,p⟩:=l.two_inv;have g:=p.rp f;split at h
  ·rename_i m n A z;rw[z]at g;rw[g.ty_inv];obtain⟨b,k,y⟩:=h;exact⟨v,n,_,b,rfl,Zk7 (s.rp f) A,k.kit,q _ _ H1 y (Same.refl _) (.bl _)⟩
  ·grind
 ·grind
noncomputable def pBM(f:S->List S->(S->Prop)->Prop)(a:PTE)(r:PTA):PTE:=λγ R X=>a γ (λs=>(∃h,s.d=.lst h)/\r γ (λg=>f s g R) X) X
def Zbr{f te y a r}(ha:Xf K mg E te a)(U:X4 K mg E y r)(h:∀H0 H H1 Z s v u vs R Q,Same H0 H1->Same H H1->(∀b,Z b->Mut (H b))->TV K Z H0 H H1 s v->TVs K Z H0 H H1 u vs->f s u R->(∀s z H',R s->Same H1 H'->TV K Z H0 H H' s z->Q z H')->N v vs H1 Q) :
  Xf K mg E (tBM K "list" N te y) (pBM f a r):=by
 intro H0 B H σ γ R X Q n p q G;refine ha H0 B H σ γ _ X _ n p (λs v H1 x o A=>?_) G;have g:=n.grow o;obtain⟨⟨ds,ed⟩,x⟩:=x;have C:=A.rp g.same;rw[ed]at C;obtain⟨l,J,rfl,Y,_⟩:=C.lst_inv;refine⟨.inl ⟨rfl,J,SqL.of Y⟩,U H0 B H1 σ γ _ X _ g x (λu vs H2 h2 w M=>?_) λc H' hc S'=>G c H' hc (o.trans S')⟩;exact h H0 H H2 _ s _ u vs R Q (g.grow w).same (o.trans w) n.zm (A.grow w) (TVs.weakG o M) h2 λs z H' T S3 L=>q s z H' T ((o.trans w).trans S3) L
def OH:S->List S->(S->Prop)->Prop:=λs f R=>match f with
 |[t]=>(match t.d with | .int z=>∃xs:ZY,s.d=.lst (xs.map D.int)/\z∈xs/\R (.sh<|.int (xs.idxOf z:Nat))|_=>False)
 |_=>False
def Fe{a r}(G:Xf K mg E te a)(C:X4 K mg E w r):Xf K mg E (tBM K "list" (Cv K) te w) (pBM OH a r):=by
 refine Zbr G C λH0 H H1 Z s v T M R Q n U Y y x h q=>?_;unfold OH at h;split at h
 ·obtain⟨u,rfl,g⟩:=x.one_inv;have o:=g.rp n;split at h
  ·rename_i z e;rw[e]at o;obtain⟨xs,L,A,J⟩:=h;have f:=y.rp n;rw[L]at f;obtain⟨l,N,rfl,p,f⟩:=f.lst_inv;rw[f.ints]at p;exact⟨l,xs,z,rfl,by rw[o.int_inv],SqL.of p,A,q _ _ H1 J (Same.refl _) (.int _)⟩
  ·grind
 ·exact h.elim
noncomputable def prD(p:Int×Int):D:=.tup [.int p.1,.int p.2]
inductive InR:D->D->Bool->Prop
 |li (i:Int) (hs:ZY):InR (.int i) (.lst<|hs.map D.int) (decide (i∈hs))
 |ti (i:Int) (hs:ZY):InR (.int i) (.tup<|hs.map D.int) (decide (i∈hs))
 |lp (q:Int×Int) (ps:ZX):InR (prD q) (.lst<|ps.map prD) (decide (q∈ps))
def fIn(neg:Bool):S->S->(S->Prop)->Prop:=λx y R=>∃b,InR x.d y.d b/\R (.sh<|.bl (if neg then !b else b))
def Rp.pair (h:Rp K H (prD q) v):Pv H v q:=by
 obtain⟨a,n,rfl,f,r⟩:=Rp.tup_inv h;obtain⟨x,y,rfl,l,g⟩:=r.two_inv;rw[l.int_inv,g.int_inv]at f;exact⟨a,rfl,f⟩
def Rps.lv {vs} (h:Rps K H (ps.map prD) vs):LV Pv H vs ps:=by
 refine⟨by rw[h.len,WI],λi p f=>?_⟩;obtain⟨v,l,g⟩:=h.get (by rw[WY,f];rfl);exact⟨v,l,g.pair⟩
def SW{C A a b}(U:Xf K mg E C a)(T:Xf K mg E A b):Xf K mg E (tOp (λx y H Q=>rIn K neg x y H Q\/SM neg x y H Q) C A) (p2 a b<|fIn neg):=by
 refine P6 U T λH0 H z Z x y v u R Q G Y hm L J h q=>?_;obtain⟨k,s,w⟩:=h;have n:=L.rp G;have g:=J.rp G;generalize ex:x.d=dx at s n;generalize ey:y.d=dy at s g;cases s with
 |li i N=>
  obtain⟨l,o,rfl,f,r⟩:=g.lst_inv;rw[r.ints]at f;rw[n.int_inv];refine .inl ⟨l,_,rfl,.inl (SqL.of f),rfl,Nk _,?_⟩;rw[OY];exact q _ _ z w (Same.refl _) (.bl _)
 |ti i N=>
  obtain⟨l,o,rfl,f,r⟩:=g.tup_inv;rw[r.ints]at f;rw[n.int_inv];refine .inl ⟨l,_,rfl,.inr (SqT.of f),rfl,Nk _,?_⟩;rw[OY];exact q _ _ z w (Same.refl _) (.bl _)
 |lp p M=>
  obtain⟨l,o,rfl,f,r⟩:=g.lst_inv;exact .inr ⟨l,M,p,rfl,n.pair,⟨o,f,r.lv⟩,q _ _ z w (Same.refl _) (.bl _)⟩
def SD(neg:Bool):S->S->(S->Prop)->Prop:=λx y R=>match x.d,y.d with
 | .lst h,.lst g=>∃xs f:ZY,h=xs.map D.int/\g=f.map D.int/\R (.sh<|.bl (if neg then !decide (xs=f)else decide (xs=f)))
 |_,_=>fEq neg x y R
def NL{a b}(T:Xf K mg E L a)(N:Xf K mg E J b):Xf K mg E (tOp (λx y H Q=>rEq x y H Q\/Nj K false x y H Q) L J) (p2 a b<|SD false):=by
 refine P6 T N λH0 H p Z x y v u R Q w s1 s G C h q=>?_;have g:=G.rp w;have f:=C.rp w;unfold SD at h;split at h
 ·rename_i ds es o n;obtain⟨xs,Y,rfl,rfl,U⟩:=h;rw[o]at g;rw[n]at f;obtain⟨l,us,rfl,A,r⟩:=g.lst_inv;obtain⟨m,ws,rfl,s,M⟩:=f.lst_inv;rw[r.ints]at A;rw[M.ints]at s;refine .inr ⟨l,m,_,_,rfl,rfl,SqL.of A,SqL.of s,Nk _,Nk _,?_⟩;rw[E8];exact q _ _ p U (Same.refl _) (.bl _)
 ·refine .inl ?_;unfold fEq at h;split at h
  ·rename_i i j o n;rw[o]at g;rw[n]at f;rw[g.int_inv,f.int_inv];refine⟨rfl,?_⟩;rw[Se λ_ _ z=>V.int.inj z];exact q _ _ p h (Same.refl _) (.bl _)
  ·rename_i i j o n;rw[o]at g;rw[n]at f;rw[g.str_inv,f.str_inv];refine⟨rfl,?_⟩;rw[Se λ_ _ z=>V.str.inj z];exact q _ _ p h (Same.refl _) (.bl _)
  ·rename_i i j o n;rw[o]at g;rw[n]at f;rw[g.bl_inv,f.bl_inv];refine⟨rfl,?_⟩;rw[Se λ_ _ z=>V.bl.inj z];exact q _ _ p h (Same.refl _) (.bl _)
  ·exact h.elim
def HW{a b}(T:Xf K mg E L a)(N:Xf K mg E J b):Xf K mg E (tOp (λx y H Q=>rNe x y H Q\/Nj K true x y H Q) L J) (p2 a b<|SD true):=by
 refine P6 T N λH0 H p Z x y v u R Q w s1 s G C h q=>?_;have g:=G.rp w;have f:=C.rp w;unfold SD at h;split at h
 ·rename_i ds es o n;obtain⟨xs,Y,rfl,rfl,U⟩:=h;rw[o]at g;rw[n]at f;obtain⟨l,us,rfl,A,r⟩:=g.lst_inv;obtain⟨m,ws,rfl,s,M⟩:=f.lst_inv;rw[r.ints]at A;rw[M.ints]at s;refine .inr ⟨l,m,_,_,rfl,rfl,SqL.of A,SqL.of s,Nk _,Nk _,?_⟩;rw[E8];exact q _ _ p U (Same.refl _) (.bl _)
 ·refine .inl ?_;unfold fEq at h;split at h
  ·rename_i i j o n;rw[o]at g;rw[n]at f;rw[g.int_inv,f.int_inv];refine⟨rfl,?_⟩;rw[Se λ_ _ z=>V.int.inj z];exact q _ _ p h (Same.refl _) (.bl _)
  ·rename_i i j o n;rw[o]at g;rw[n]at f;rw[g.str_inv,f.str_inv];refine⟨rfl,?_⟩;rw[Se λ_ _ z=>V.str.inj z];exact q _ _ p h (Same.refl _) (.bl _)
  ·rename_i i j o n;rw[o]at g;rw[n]at f;rw[g.bl_inv,f.bl_inv];refine⟨rfl,?_⟩;rw[Se λ_ _ z=>V.bl.inj z];exact q _ _ p h (Same.refl _) (.bl _)
  ·exact h.elim
noncomputable abbrev CZ(K:ZW)(f:TE):TT:=λσ H Q=>f σ H λx H'=>∃k,AD K x H' k/\Q k H'
noncomputable def R5(a:PTE):PTT:=λγ R X=>a γ (λx=>match x.d with
 | .bl b=>R b | .lst f=>R (!f.isEmpty) | .tup f=>R (!f.isEmpty) | .int i=>R (i != 0) | .non=>R false|_=>False) X
def El{g f:Type}{l:List g}{m:List f}(h:l.length=m.length):l.isEmpty=m.isEmpty:=by
 cases l<;>cases m<;>simp at h ⊢
def Zfa(y:Xf K mg E te a):K4 K mg E (CZ K te) (R5 a):=by
 intro H0 B H σ γ R X Q o p q w;refine y H0 B H σ γ _ X _ o p (λx v H1 g h u=>?_) w;have f:=u.rp (o.grow h).same;split at g
 ·rename_i b e;rw[e]at f;rw[f.bl_inv];exact⟨b,rfl,q _ H1 g h⟩
 ·rename_i z e;rw[e]at f;obtain⟨l,n,rfl,s,r⟩:=f.lst_inv;exact⟨!n.isEmpty,.inl ⟨n,SqL.of s,rfl⟩,by rw[El r.len];exact q _ H1 g h⟩
 ·rename_i z e;rw[e]at f;obtain⟨l,n,rfl,s,r⟩:=f.tup_inv;exact⟨!n.isEmpty,.inr (.inl ⟨n,SqT.of s,rfl⟩),by rw[El r.len];exact q _ H1 g h⟩
 ·rename_i i e;rw[e]at f;rw[f.int_inv];exact⟨_,rfl,q _ H1 g h⟩
 ·rename_i e;rw[e]at f;rw[f.non_inv];exact⟨_,rfl,q _ H1 g h⟩
 ·exact g.elim
noncomputable def cutD{f:Type}(xs:List f)(lo g:Option Int):List f:=(xs.drop<|HT.sIx xs.length 0 lo).take (HT.sIx xs.length xs.length g-HT.sIx xs.length 0 lo)
noncomputable def L4:PTO:=λ_ R _=>R none
noncomputable def Ho(a:PTE):PTO:=λγ R X=>a γ (λs=>match s.d with | .int i=>R (some i)|_=>False) X
def G2:Tv K mg E G3 L4:=λ_ _ H _ _ _ _ _ _ p q _=>q _ H p (Same.refl _)
def Ag(r:Xf K mg E te a):Tv K mg E (Mm te) (Ho a):=by
 intro H0 B H σ γ R X Q f p q o;refine r H0 B H σ γ _ X _ f p (λx v H1 h l n=>?_) o;have g:=n.rp (f.grow l).same;split at h
 ·rename_i i e;rw[e]at g;exact⟨i,g.int_inv,q _ H1 h l⟩
 ·grind
noncomputable def pSl(a:PTE)(l u:PTO):PTE:=λγ R X=>a γ (λs=>l γ (λlo=>u γ (λg=>match s.d with | .lst f=>s.free f=true/\R (.own<|cutD f lo g)|_=>False) X) X) X
def Rps.cut {lo f} (r:Rps K H ds vs):Rps K H (cutD ds lo f) (TM vs lo f):=by
 unfold cutD TM;rw[r.len];exact Rps.take _ (Rps.drop _ r)
def Zow{a l u}(U:Xf K mg E te a)(N:Tv K mg E G l)(M:Tv K mg E J u):Xf K mg E (tSl (SU K) te G J) (pSl a l u):=by
 intro H0 B H σ γ R X Q f p q o;refine U H0 B H σ γ _ X _ f p (λx v H1 h1 h L=>?_) o;refine N H0 B H1 σ γ _ X _ (f.grow h) h1 (λlo H2 Y n=>?_) λc H' s y=>o c H' s (h.trans y);refine M H0 B H2 σ γ _ X _ ((f.grow h).grow n) Y (λhi H3 w A=>?_) λc H' s y=>o c H' s ((h.trans n).trans y);have g:=(h.trans n).trans A;split at w
 ·rename_i ds e;obtain⟨b,C,rfl,T,r⟩:=((L.grow<|n.trans A).items (f.grow g).same f.zm g w.1).1 e;exact⟨b,C,rfl,SqL.of T,λm z=>q _ _ _ w.2 (g.trans<|XX z) (NR g z r.cut)⟩
 ·grind
def O8:S->S->(S->Prop)->Prop:=λx y R=>match x.d,y.d with
 | .lst g,.lst f=>x.free g=true/\y.free f=true/\g.length+f.length<=100000/\R (.own (g++f))
 |_,_=>False
def KD{a b}(U:Xf K mg E L a)(T:Xf K mg E J b):Xf K mg E (tOp RS L J) (p2 a b O8):=by
 refine P6 U T λH0 H H2 Z x y v u R Q s f A G C h q=>?_;unfold O8 at h;split at h
 ·rename_i ds es e1 Y;obtain⟨l,o,rfl,N,r⟩:=(G.items s A f h.1).1 e1;obtain⟨m,n,rfl,g,w⟩:=(C.items s A f h.2.1).1 Y;have M:o.length+n.length<=sizeLine:=by rw[r.len,w.len];exact WV h.2.2.1 (by decide)
  exact⟨l,m,o,n,rfl,rfl,N,g,M,λp z=>q _ _ _ h.2.2.2 (XX z) (NR f z<|r.append w)⟩
 ·grind
noncomputable def Az(i:Nat)(a:PTE):PTS:=λR γ=>match γ[i]? with
 |some (some<|.own<|.lst f)=>a γ (λs=>match s.shd with
  |some d=>f.length<10000000/\R.nx (γ.set i<|some<|.own (f++[d]))
  |none=>False) (R.ex γ)
 |some (some<|.own<|.lsA x f)=>a γ (λs=>match s.shd with
  |some d=>f.length<10000000/\R.nx (γ.set i<|some<|.own<|.lsA x (f++[d]))
  |none=>False) (R.ex γ)
 |_=>False
def Zg6(i:Nat){te a}(T:Xf K mg E te a):Xu K mg E (TK<|tBM K "list" Al (Kk i)<|XW te KH) (Az i a):=by
 intro H0 B H σ γ R D U f h e;unfold Az at h;split at h
 ·rename_i N w;obtain⟨v,r,b,rfl,J,us,y,p⟩:=f.slot i _ w;refine⟨_,r,.inl ⟨rfl,us,SqL.of y⟩,T H0 B H σ γ _ _ _ f h (λs u H1 n l C=>?_) λc H' G A=>e.ex σ γ c H' G (f.grow A) (Fr.grow A)⟩;have g:=f.grow l;split at n
  ·rename_i d o;refine⟨b,us,u,rfl,rfl,l _ _ y,by rw[p.len];exact V0 n.1 (by decide),?_⟩;obtain⟨o,M⟩:=g.mutate (es:=.lst (N++[d])) (us:=.lst (us++[u])) w r trivial λF H' Q L=>⟨_,L,Rps.mono Q (Rps.append (Rps.mono (Xs l λ_ _ _ z=>z) p)<|.cons (C.shd g.same f.zm l o) .nil)⟩;exact e.nx _ _ _ n.2 o ((Fr.grow l).trans M)
  ·exact n.elim
 ·rename_i x N w;obtain⟨v,r,b,rfl,J,rfl,us,y,p⟩:=f.slot i _ w;refine⟨_,r,.inl ⟨rfl,us,SqL.of y⟩,T H0 B H σ γ _ _ _ f h (λs u H1 n l C=>?_) λc H' G A=>e.ex σ γ c H' G (f.grow A) (Fr.grow A)⟩;have g:=f.grow l;split at n
  ·rename_i d o;refine⟨b,us,u,rfl,rfl,l _ _ y,by rw[p.len];exact V0 n.1 (by decide),?_⟩;obtain⟨o,M⟩:=g.mutate (es:=.lsA b (N++[d])) (us:=.lst (us++[u])) w r trivial λF H' Q L=>⟨rfl,_,L,Rps.mono Q (Rps.append (Rps.mono (Xs l λ_ _ _ z=>z) p)<|.cons (C.shd g.same f.zm l o) .nil)⟩;exact e.nx _ _ _ n.2 o ((Fr.grow l).trans M)
  ·exact n.elim
 ·exact h.elim
end
section
variable {X:Cx}{K:ZW}
def DV(f:X.A.in1.units<cLine)(g:autoParam (X.K=K) au_0):OpR X (compareOp .In) (λx y H Q=>rIn K false x y H Q\/SM false x y H Q):=(Zrf g).or (Zl4 f)
def LY(f:X.A.in1.units<cLine)(g:autoParam (X.K=K) au_0):OpR X (compareOp .NotIn) (λx y H Q=>rIn K true x y H Q\/SM true x y H Q):=(Zop g).or (Zbb f)
def Sg(f:X.A.units<cLine)(g:autoParam (X.K=K) au_0):OpR X (compareOp .Eq) (λx y H Q=>rEq x y H Q\/Nj K false x y H Q):=by subst g;exact op_eq.or (Zkl f)
def Zfs(f:X.A.units<cLine)(g:autoParam (X.K=K) au_0):OpR X (compareOp .NotEq) (λx y H Q=>rNe x y H Q\/Nj K true x y H Q):=by subst g;exact op_ne.or (Zjc f)
def Bo(g:PE X e te)(h:autoParam (X.K=K) au_0)(f:autoParam (∀whole,isTrue e X.env whole=(do let v ←whole;standAt e.pos;holding [v] (truthy v))) au_3):PT X e (CZ K te):=by
 subst h;exact Zqt g f
def Th(f:autoParam (X.K=K) au_0):Kr X (.type "list") (λxs H Q=>∃p ys,xs=[.ref p]/\(SqL K H p ys\/SqT K H p ys)/\∀l,H l=none->Q (.ref l) (upd H l<|.lst ys)):=by subst f;exact Zjg
def Le(f:autoParam (X.K=K) au_0):Kr X (.type "tuple") (λxs H Q=>∃p ys,xs=[.ref p]/\((SqL K H p ys/\∀l,H l=none->Q (.ref l) (upd H l<|.tup ys))\/(SqT K H p ys/\Q (.ref p) H))):=by subst f;exact Zii
def Tt(f:autoParam (X.K=K) au_0):Kr X (.builtin "isinstance") (λxs H Q=>∃x n t b,xs=[x,.ty n]/\Pb K H x t/\PySem.W.kitOne K t (.type n)=some b/\Q (.bl b) H):=by subst f;exact Zqm
def AY(f:autoParam (X.K=K) au_0):SlR X (SU K):=by subst f;exact Zqn
def DO(g:X.calm=true){w}(h:autoParam (X.K=K) au_0)(hw:autoParam (X.w=w) au_0):Kr X (.builtin "sorted") (λxs H Q=>∃p f,xs=[.ref p]/\f.length<64/\(SqL K H p (f.map V.int)\/H p=some (NC w p f))/\
  ∀l (ns:ZY),H l=none->ns.Perm f->ns.Pairwise (·<=·)->Q (.ref l) (upd H l<|.lst<|ns.map V.int)):=by subst h;subst hw;exact GS g
def Tr{g l f}(h:PE X l f)(n:autoParam (X.K=K) au_0):PI X g l (B7 K f):=by subst n;exact RM h
end
section
variable {P:Program}{w:World}{K:ZW}{mg:Ya}{base:Heap}{H H':Hp}
def Zhu(C:Callee P w K mg base CX k x ps sp)(h:∀ds R X vs H Q E,Rps K H ds vs->c ds R X->(∀s v H',R s->Same H H'->TV K (λb=>Mut (H b)) H H H' s v->Q v H')->(∀e H',X e->Same H H'->XE mg E e H')->sp vs H Q E) :
  Callee P w K mg base CX k x ps (Xl mg c K):=by
 obtain⟨f,o,F,rest⟩:=C.ex;exact⟨f,o,F.imp λvs H Q E ⟨ds,R,X,r,g,n,l⟩=>h ds R X vs H Q E r g n l,rest⟩
def Rp.scr_inv (h:Rp K H (.scr ns) v):∃a,v=.ref a/\SqL K H a (ns.map V.int):=by
 cases h with
 |scr h=>grind
def Rp.ints_inv {ns:ZY}{v} (h:Rp K H (.lst<|ns.map D.int) v):∃a,v=.ref a/\H a=some (.lst<|ns.map V.int):=by
 obtain⟨a,g,rfl,f,r⟩:=h.lst_inv;rw[r.ints]at f
 grind
def Rp.pairs_inv {v} (h:Rp K H (.lst<|ps.map prD) v):∃a,v=.ref a/\LAt Pv H a ps:=by
 obtain⟨a,f,rfl,g,r⟩:=h.lst_inv;exact⟨a,rfl,f,g,r.lv⟩
def Zof{ns:ZY}(n:H a=none)(h:H' a=some (.lst<|ns.map V.int)):TV K (λb=>Mut (H b)) H H H' (.own<|ns.map D.int) (.ref a):=⟨a,rfl,(λ_ e=>e▸n),_,h,Rps.of_ints ns⟩
theorem Pt:∀(ns:ZY),XF (ns.map D.int)=true
 |[]=>rfl
 |n::r=>by rw[Qh];unfold XF;rw[Pt r];unfold imm;rfl
def Zgq(p:Int×Int):imm (prD p)=true:=rfl
theorem Kc:∀(ps:ZX),XF (ps.map prD)=true
 |[]=>rfl
 |p::r=>by rw[Qh];unfold XF;rw[Kc r,Zgq];rfl
def Zrx{g:Type}{f:g->D}{xs:List g}{i}(h:i<xs.length):(xs.map f).getD i .non=f xs[i]:=by grind
def KY{g:Type}{f:g->D}{xs:List g}{i}(l:0<=i)(h:i<(xs.length:Int)):atI (xs.map f) i=some (f (xs[i.toNat]'(by lia))):=by
 have n:i.toNat<xs.length:=by lia
 exact PX (Br l<|WJ n)
def Ae{g:Type}{f:g->D}{xs:List g}{i}(h:i<xs.length):atI (xs.map f) (i:Int)=some (f xs[i]):=PX (NG<|WJ h)
def Kd{l:Type}{φ}{γ}{g}{c}{e}{s:S}{R}{xs:List l}{emb}(f:l->Option D)(n:xs.length<=100000)(turn:∀x∈xs,g (s.sub<|emb x) (atP φ γ) λh=>c h (λb=>if b=true then e h (λs=>∃d,s.shd=some d/\f x=some d) (λ_=>False)else f x=none) λ_=>False)(done:R (.own<|xs.filterMap f)) :
  SN φ γ g c e (xs.map emb).length (λi=>s.sub ((xs.map emb).getD i .non)) R:=by
 rw[WI];refine⟨⟨n,λi=>(xs[i]?).bind f,λi o=>?_,by rw[Zfv];exact done⟩⟩;simp_all
def Ea{g c e item R n}(f:Nat->Option D)(o:n<=100000)(turn:∀i,i<n->g (item i) (atP φ l) λh=>c h (λb=>if b=true then e h (λs=>∃d,s.shd=some d/\f i=some d) (λ_=>False)else f i=none) λ_=>False)(done:R (.own ((List.range n).filterMap f))) :
  SN φ l g c e n item R:=⟨⟨o,f,turn,done⟩⟩
def K6{p:Type}{js}{γ}{g}{body}{s:S}{R}{xs:List p}{emb}(l:Nat->Γ->Prop)(u:l 0 (clr js γ))(turn:∀i r f,l i f->g (s.sub (emb xs[i])) f λo=>body {R with nx:=λn=>l (i+1) (clr js n),ct:=λn=>l (i+1) (clr js n),bk:=R.nx} o)(done:∀f,l xs.length f->R.nx f) :
  Bc js γ g body R (xs.map emb).length (λi=>s.sub ((xs.map emb).getD i .non)):=by
 refine⟨⟨l,u,λi f r h=>?_,λf h=>?_⟩⟩
 ·grind
 ·grind
def PZ{n item}(f:Nat->Γ->Prop)(s:f 0 (clr p r))(turn:∀i h,i<n->f i h->g (item i) h λo=>body {R with nx:=λl=>f (i+1) (clr p l),ct:=λl=>f (i+1) (clr p l),bk:=R.nx} o)(done:∀h,f n h->R.nx h):Bc p r g body R n item:=⟨⟨f,s,turn,done⟩⟩
def Fb(h:Γ->Prop)(l:Γ->Nat)(p:h (clr n o))(turn:∀f,h f->c f (λb=>if b=true then body {R with nx:=λg=>h (clr n g)/\l (clr n g)<l f,ct:=λg=>h (clr n g)/\l (clr n g)<l f,bk:=R.nx} f else R.nx f) (R.ex f)):Lo n o c body R:=⟨⟨h,l,p,turn⟩⟩
def B8(J:Γ->Prop)(l:p {R with nx:=J} g)(h:∀f,J f->q R f):HC p q R g:=⟨⟨J,l,h⟩⟩
theorem Pd{f:Type}(c:f->Bool)(emb:f->D):∀g:List f,g.filterMap (λq=>if c q=true then some (emb q)else none)=(g.filter c).map emb
 |[]=>rfl
 |q::r=>by
  by_cases h:c q=true
  ·rw[List.filterMap_cons_some (by rw[WQ h]),List.filter_cons_of_pos h,Qh,Pd c emb r]
  ·rw[List.filterMap_cons_none (by grind),List.filter_cons_of_neg h,Pd c emb r]
def Td{f:Type}(emb:f->D)(g:List f):g.filterMap (λq=>some (emb q))=g.map emb:=by simp
def Tq(f:h->D)(xs:List h)(lo g:Option Int):cutD (xs.map f) lo g=(cutD xs lo g).map f:=by
 unfold cutD;simp
def Aj(xs:List f){n}(h:0<=n):cutD xs none (some n)=xs.take n.toNat:=by
 unfold cutD;have e:n=(n.toNat:Int):=by lia
 rw[HT.Hk,e,HT.Fc,List.drop_zero,Nat.sub_zero,Q6];by_cases c:n.toNat<=xs.length
 ·simp
 ·simp
def NP(xs:List f){n}(h:0<=n):cutD xs (some n) none=xs.drop n.toNat:=by
 unfold cutD;have e:n=(n.toNat:Int):=by lia
 rw[HT.Hk,e,HT.Fc,Q6];by_cases c:n.toNat<=xs.length
 ·grind
 ·rw[Nat.min_eq_right (by lia),List.drop_of_length_le (WT _),List.drop_of_length_le (by lia)];simp
noncomputable def D1(K:ZW):Sp:=λf H Q _=>∃(a:Addr) (g:ZY),f=[.ref a]/\SqL K H a (g.map V.int)/\∀H',Q (.bl true) H'
noncomputable def Ly:Pc:=λg R _=>∃f:ZY,g=[.scr f]/\R (.sh<|.bl true)
def Zm3(h:D1 K vs H Q n):Xl mg Ly K vs H Q n:=by
 obtain⟨a,f,rfl,l,q⟩:=h;refine⟨[.scr f],λs=>s=.sh (.bl true),λ_=>False,.cons (.scr l) .nil,⟨f,rfl,rfl⟩,λs v H' e o g=>?_,λ_ _ z=>z.elim⟩;subst e;cases g
 grind
end
section
variable {K:ZW}{mg:Ya}{E:L2.St->XK}{H0 H H1 H':Hp}{B Z Z':Addr->Prop}{σ:L2.St}{γ:Γ}
noncomputable def BP:D->Option V
 | .int i=>some (.int i) | .bl b=>some (.bl b) | .non=>some .non | .str x=>some (.str x)|_=>none
noncomputable def vD:V->D
 | .int i=>.int i | .bl b=>.bl b | .str x=>.str x|_=>.non
noncomputable def Fz:V->Bool
 | .int _=>true | .bl _=>true | .str _=>true | .non=>true|_=>false
def DC(h:Fz v=true):Rp K H (vD v) v:=by
 cases v with
 |int i=>exact .int i
 |bl b=>exact .bl b
 |str x=>exact .str x
 |non=>exact .non
 |_=>cases h
def D4(h:Rp K H d v)(e:BP d=some u):v=u:=by
 cases h with
 |int i|bl b|non|str x=>cases e;rfl
 |_=>cases e
noncomputable def BC:D->Option Key
 | .int i=>some (.inl i) | .str x=>some (.inr x)|_=>none
noncomputable def Sj:List D->Option (List Key)
 |[]=>some []
 |d::r=>match BC d,Sj r with
  |some k,some f=>some (k::f)
  |_,_=>none
noncomputable def NZ:D->Option (List Key)
 | .tup f=>Sj f
 |_=>none
def SK(h:Rp K H d v)(e:BC d=some k):v=kV k:=by
 cases h with
 |int i|str x=>cases e;rfl
 |_=>cases e
def Zsp:∀{ds vs}{f:List Key},Rps K H ds vs->Sj ds=some f->vs=f.map kV:=by
 intro ds
 induction ds with
 |nil=>
  intro _ _ h e;cases h
  cases e
  rfl
 |cons _ _ g=>
  intro _ f h e;cases h with
  |cons h r=>
   unfold Sj at e;split at e
   ·rename_i k o n l;cases e
    rw[SK h n,g r l];rfl
   ·grind
def BL(h:Rp K H d v)(e:NZ d=some f):∃b,v=.ref b/\H b=some (.tup<|f.map kV):=by
 cases h with
 |tup h r=>
  rw[Zsp r e]at h
  grind
 |_=>cases e
def Rp.dK_inv (h:Rp K H (.dK f) v):∃a,v=.ref a/\H a=some (.dK f):=by
 cases h with
 |dK h=>grind
def Rp.dT_inv (h:Rp K H (.dT f) v):∃a,v=.ref a/\H a=some (.dT f):=by
 cases h with
 |dT h=>grind
noncomputable def Zdx:PTE:=λ_ R _=>R (.own<|.dK [])
noncomputable def Zhv:PTE:=λ_ R _=>R (.own<|.dT [])
def RA:Xf K mg E IP Zdx:=by
 intro H0 B H σ γ R X Q g p q _ l f;exact q _ _ _ p (XX f) ⟨l,rfl,(λ_ e=>e▸f),X9⟩
def Zdj:Xf K mg E Hd Zhv:=by
 intro H0 B H σ γ R X Q g p q _ l f;exact q _ _ _ p (XX f) ⟨l,rfl,(λ_ e=>e▸f),X9⟩
def LZ:S->S->(S->Prop)->Prop:=λx y R=>match x.d with
 | .dK f=>∃k v,BC y.d=some k/\Xy f k=some v/\Fz v=true/\R (.sh<|vD v)
 | .dT f=>∃k v,NZ y.d=some k/\Xy f k=some v/\Fz v=true/\R (.sh<|vD v)
 |_=>False
def NJ{a b}(N:Xf K mg E M a)(p:Xf K mg E g b):Xf K mg E (MF M g) (p2 a b LZ):=by
 refine P6 N p λH0 H J Z x y v u R Q C T U L g h q=>?_;have f:=L.rp C;have G:=g.rp C;unfold LZ at h;split at h
 ·rename_i n e;rw[e]at f;obtain⟨l,rfl,o⟩:=f.dK_inv;obtain⟨k,w,A,z,s,r⟩:=h;refine⟨l,w,rfl,?_,q _ _ J r (Same.refl _) (DC s)⟩;rw[SK G A,←z];exact DGet.k o
 ·rename_i n e;rw[e]at f;obtain⟨l,rfl,o⟩:=f.dT_inv;obtain⟨k,w,A,z,s,r⟩:=h;obtain⟨b,rfl,p⟩:=BL G A;refine⟨l,w,rfl,?_,q _ _ J r (Same.refl _) (DC s)⟩;rw[←z];exact DGet.t o p
 ·grind
def Fg(neg:Bool):S->S->(S->Prop)->Prop:=λy x R=>match x.d with
 | .dK f=>∃k,BC y.d=some k/\R (.sh<|.bl (if neg then !(Xy f k).isSome else(Xy f k).isSome))
 | .dT f=>∃k,NZ y.d=some k/\R (.sh<|.bl (if neg then !(Xy f k).isSome else(Xy f k).isSome))
 |_=>False
def O0{w f a b}(J:Xf K mg E f a)(p:Xf K mg E w b):Xf K mg E (M7 f w) (p2 a b<|Fg false):=by
 refine P6 J p λH0 H C Z y x u v R Q z L M f G h q=>?_;have g:=G.rp z;have A:=f.rp z;unfold Fg at h;split at h
 ·rename_i n e;rw[e]at g;obtain⟨l,rfl,o⟩:=g.dK_inv;obtain⟨k,s,r⟩:=h;refine⟨l,_,rfl,?_,q _ _ C r (Same.refl _) (.bl _)⟩;rw[SK A s];exact DGet.k o
 ·rename_i n e;rw[e]at g;obtain⟨l,rfl,o⟩:=g.dT_inv;obtain⟨k,s,r⟩:=h;obtain⟨b,rfl,p⟩:=BL A s;exact⟨l,_,rfl,DGet.t o p,q _ _ C r (Same.refl _) (.bl _)⟩
 ·grind
def Zc0{w f a b}(J:Xf K mg E f a)(p:Xf K mg E w b):Xf K mg E (Lk f w) (p2 a b<|Fg true):=by
 refine P6 J p λH0 H C Z y x u v R Q z L M f G h q=>?_;have g:=G.rp z;have A:=f.rp z;unfold Fg at h;split at h
 ·rename_i n e;rw[e]at g;obtain⟨l,rfl,o⟩:=g.dK_inv;obtain⟨k,s,r⟩:=h;refine⟨l,_,rfl,?_,q _ _ C r (Same.refl _) (.bl _)⟩;rw[SK A s];exact DGet.k o
 ·rename_i n e;rw[e]at g;obtain⟨l,rfl,o⟩:=g.dT_inv;obtain⟨k,s,r⟩:=h;obtain⟨b,rfl,p⟩:=BL A s;exact⟨l,_,rfl,DGet.t o p,q _ _ C r (Same.refl _) (.bl _)⟩
 ·grind
noncomputable def LQ(i:Nat)(b a:PTE):PTS:=λR γ=>match γ[i]? with
 |some (some<|.own<|.dK f)=>a γ (λs=>b γ (λy=>∃k u,BC y.d=some k/\BP s.d=some u/\f.length<100000/\R.nx (γ.set i<|some<|.own<|.dK<|putK f k u)) (R.ex γ)) (R.ex γ)
 |some (some<|.own<|.dT f)=>a γ (λs=>b γ (λy=>∃k u,NZ y.d=some k/\BP s.d=some u/\f.length<100000/\R.nx (γ.set i<|some<|.own<|.dT<|putK f k u)) (R.ex γ)) (R.ex γ)
 |_=>False
def Fw(i:Nat){ty tv a b}(hb:Xf K mg E ty b)(ha:Xf K mg E tv a):Xu K mg E (Gy (Kk i) ty tv) (LQ i b a):=by
 intro H0 B H σ γ R D hB n h e;have hx:=λc H' G x=>e.ex σ γ c H' G (n.grow x) (Fr.grow x);unfold LQ at h;split at h
 ·rename_i o C;obtain⟨v,A,l,rfl,Y,U⟩:=n.slot i _ C;refine ha H0 B H σ γ _ _ _ n h (λs u H1 h1 p L=>⟨_,A,?_⟩) hx;have f:=n.grow p;refine hb H0 B H1 σ γ _ _ _ f h1 (λy w H2 h2 r J=>?_) λc H' G x=>hx c H' G (p.trans x);obtain⟨k,z,T,Q,N,M⟩:=h2;have g:=f.grow r;have eu:=D4 (L.rp f.same) Q;have ew:=SK (J.rp g.same) T;subst eu ew;refine⟨l,_,rfl,DPut.k (r _ _<|p _ _ U) (V0 N<|by decide),?_⟩;obtain⟨e2,f2⟩:=g.mutate (es:=.dK (putK o k u)) (us:=.dK (putK o k u)) C A trivial λF H' SF hF=>hF;exact e.nx _ _ _ M e2 ((Fr.grow<|p.trans r).trans f2)
 ·rename_i o C;obtain⟨v,A,l,rfl,Y,U⟩:=n.slot i _ C;refine ha H0 B H σ γ _ _ _ n h (λs u H1 h1 p L=>⟨_,A,?_⟩) hx;have f:=n.grow p;refine hb H0 B H1 σ γ _ _ _ f h1 (λy w H2 h2 r J=>?_) λc H' G x=>hx c H' G (p.trans x);obtain⟨k,z,T,Q,N,M⟩:=h2;have g:=f.grow r;have eu:=D4 (L.rp f.same) Q;obtain⟨b',rfl,hb'⟩:=BL (J.rp g.same) T;subst eu;refine⟨l,_,rfl,DPut.t (r _ _<|p _ _ U) hb' (V0 N<|by decide),?_⟩;obtain⟨e2,f2⟩:=g.mutate (es:=.dT (putK o k u)) (us:=.dT (putK o k u)) C A trivial λF H' SF hF=>hF;exact e.nx _ _ _ M e2 ((Fr.grow<|p.trans r).trans f2)
 ·exact h.elim
noncomputable def HK(a:PTE):PTS:=λR γ=>a γ (λs=>match s.shd with|some d=>R.rt (.sh d)|none=>False) (R.ex γ)
def Zck(u:Xf K mg E te a):Xu K mg E (NH te) (HK a):=by
 intro H0 B H σ γ R D w f h e;refine u H0 B H σ γ _ _ _ f h (λs v H1 l g o=>?_) λc H' r n=>e.ex σ γ c H' r (f.grow n) (Fr.grow n);split at l
 ·rename_i d p;exact e.rt (.sh d) v H1 l (f.same.trans g) (Rp.mono (Xs (Same.refl _) λb _ _ z y=>z (.inl y)) (o.shd (f.grow g).same f.zm g p))
 ·grind
noncomputable def LX(i:Nat)(γ:Γ):Nat:=match γ[i]? with
 |some (some<|.own<|.lst f)=>f.length
 |_=>0
noncomputable def pIE(r:PTA):PTI:=λγ R X=>r γ (λg=>match g with
 |[s]=>(match s.d with
  | .lst f=>s.fix=true/\XF f=true/\R f.length λi=>.sh (.tup [.int i,f.getD i .non])
  |_=>False)
 |_=>False) X
theorem IB:∀{ds}{i:Nat}{d:D},XF ds=true->ds[i]?=some d->imm d=true
 |[],i,d,_,e=>by simp at e
 |a::r,0,d,h,e=>by
  unfold XF at h
  grind
 |a::r,i+1,d,h,e=>by
  exact IB (Qr _ _▸h).2 (by trivial)
def Zn4{s:S}{d}(h:imm d=true):(s.sub d).shd=some d:=by
 cases s with
 |bor b=>show(arg d).shd=_;unfold arg;rw[h];rfl
 |tmp b=>show(K9 d).shd=_;unfold K9;rw[h];rfl
 |sh b=>rfl
 |own b|view b=>
  cases b with
  |nst f|nsl a f=>show(K9 d).shd=_;unfold K9;rw[h];rfl
  |_=>rfl
def MN(hr:X4 K mg E U r):SndI K mg E (GJ K U) (pIE r):=by
 intro H0 B H σ γ R X Q g h q qx;refine hr H0 B H σ γ _ X _ g h (λss n H1 f C Y=>?_) qx;split at f
 ·rename_i s;obtain⟨v,rfl,o⟩:=Y.one_inv;split at f
  ·rename_i M ed;obtain⟨l,n,rfl,hn,A⟩:=o.last g C f.1 ed;obtain⟨w,_⟩:=A H1 _ (Later.of (g.grow C) Fr.refl);refine⟨l,rfl,⟨n,SqL.of w⟩,q _ _ _ H1 f.2.2 C ⟨λi H' Z' hi lt=>?_,λH' Z' lt=>?_⟩⟩
   ·obtain⟨G,k2⟩:=A H' Z' lt;have L:M[i]?=some (M.getD i .non):=by grind
    obtain⟨u,J,N⟩:=k2 i _ L;refine⟨⟨n,u,SqL.of G,J⟩,λx H'' y=>?_⟩;obtain⟨T,v,p,hv,rfl,rfl⟩:=y
    have:=hv n (SqL.of G)
    rw[J]at this;cases this
    refine⟨XX p,.tup (XQ X9 λz=>?_) (.cons (.int _)<|.cons (Rp.mono (Xs (XX p) λ_ _ _ z=>z)<|N.shd lt.1 lt.2.1 (Same.refl _)<|Zn4<|IB f.2.1 L) .nil)⟩
    have:=lt.2.1 T z
    rw[p]at this;exact this
   ·exact⟨n,SqL.of (A H' Z' lt).1,by lia⟩
  ·exact f.elim
 ·exact f.elim
def OC{p:Type}{js}{γ}{g}{body}{R}{xs:List p}{emb}(l:Nat->Γ->Prop)(s:l 0 (clr js γ))(turn:∀i r f,l i f->g (.sh<|.tup [.int i,emb xs[i]]) f λo=>body {R with nx:=λn=>l (i+1) (clr js n),ct:=λn=>l (i+1) (clr js n),bk:=R.nx} o)(done:∀f,l xs.length f->R.nx f) :
  Bc js γ g body R (xs.map emb).length (λi=>.sh (.tup [.int i,(xs.map emb).getD i .non])):=by
 refine⟨⟨l,s,λi f r h=>?_,λf h=>?_⟩⟩
 ·grind
 ·grind
def KP(d:f)(ds:List f):atI (d::ds) 0=some d:=Br (by simp) rfl
noncomputable def em(l:Int)(p:ZY):D:=.lst ((l::p).map D.int)
def DA(l:Int)(p:ZY):atI ((l::p).map D.int) (-1)=some (.int<|XM l p):=by
 refine PX ?_;unfold atI ixN;rw[WO (by lia),WQ (by grind)];have e:(-1+((l::p).length:Int)).toNat=p.length:=by grind
 rw[e];exact CM l p
def On:List S->(S->Prop)->Prop
 |[s],R=>∃f:ZY,s.d=.lst (f.map D.int)/\R (.sh<|.int f.sum)
 |_,_=>False
def Mr(s:X4 K mg E l r):Xf K mg E (tCB (λxs H Q=>∃(p:Addr) (ns:ZY),xs=[.ref p]/\SqL K H p (ns.map V.int)/\Q (.int ns.sum) H) l) (pCB On r):=by
 refine P3 s λH0 H H1 Z y x R Q o z A g h q=>?_;unfold On at h;split at h
 ·obtain⟨v,rfl,n⟩:=g.one_inv;obtain⟨ns,e,w⟩:=h;have f:=n.rp o;rw[e]at f;obtain⟨a,rfl,u⟩:=f.ints_inv;exact⟨a,ns,rfl,SqL.of u,q _ _ H1 w (Same.refl _) (.int _)⟩
 ·grind
def HA:List S->(S->Prop)->Prop
 |[s],R=>∃f:ZY,s.d=.lst (f.map D.int)/\0<f.length/\∀m,m∈f->(∀a∈f,m<=a)->R (.sh<|.int m)
 |_,_=>False
def Zd3(u:X4 K mg E n r):Xf K mg E (tCB (λxs H Q=>∃(p:Addr) (ns:ZY),xs=[.ref p]/\SqL K H p (ns.map V.int)/\0<ns.length/\∀M,M∈ns->(∀a∈ns,M<=a)->Q (.int M) H) n) (pCB HA r):=by
 refine P3 u λH0 H H1 Z C A R Q s G J l h q=>?_;unfold HA at h;split at h
 ·obtain⟨v,rfl,o⟩:=l.one_inv;obtain⟨ns,e,f,x⟩:=h;have g:=o.rp s;rw[e]at g;obtain⟨a,rfl,w⟩:=g.ints_inv;exact⟨a,ns,rfl,SqL.of w,f,λm z y=>q _ _ H1 (x m z y) (Same.refl _) (.int _)⟩
 ·grind
def Gw:List S->(S->Prop)->Prop
 |[s],R=>∃bs:List Bool,s.d=.lst (bs.map D.bl)/\R (.sh<|.bl<|bs.any id)
 |_,_=>False
theorem Rps.bls:∀{f:List Bool}{vs:List V},Rps K H (f.map D.bl) vs->vs=f.map V.bl
 |[],_,.nil=>rfl
 |j::r,_,.cons h t=>by rw[Rp.bl_inv h,Rps.bls t];rfl
def Hl(w:X4 K mg E n r):Xf K mg E (tCB (λxs H Q=>∃(p:Addr) (bs:List Bool),xs=[.ref p]/\SqL K H p (bs.map V.bl)/\Q (.bl<|bs.any id) H) n) (pCB Gw r):=by
 refine P3 w λH0 H H1 Z A y R Q s C G l h q=>?_;unfold Gw at h;split at h
 ·obtain⟨v,rfl,o⟩:=l.one_inv;obtain⟨bs,e,x⟩:=h;have f:=o.rp s;rw[e]at f;obtain⟨a,z,rfl,g,u⟩:=f.lst_inv;rw[u.bls]at g;exact⟨a,bs,rfl,SqL.of g,q _ _ H1 x (Same.refl _) (.bl _)⟩
 ·grind
def R3(neg:Bool):S->S->(S->Prop)->Prop:=λx y R=>match x.d,y.d with
 | .lst f,.lst []=>R (.sh<|.bl (if neg then !f.isEmpty else f.isEmpty))
 |_,_=>False
def SO{n g a b}(L:Xf K mg E n a)(J:Xf K mg E g b):Xf K mg E (tOp (Gb K neg) n g) (p2 a b<|R3 neg):=by
 refine P6 L J λH0 H T Z x y v u R Q o Y hm A z h q=>?_;have s:=A.rp o;have p:=z.rp o;unfold R3 at h;split at h
 ·rename_i ds N M;rw[N]at s;rw[M]at p;obtain⟨l,w,rfl,G,r⟩:=s.lst_inv;obtain⟨m,U,rfl,f,C⟩:=p.lst_inv;cases C
  refine⟨l,m,w,rfl,rfl,SqL.of G,SqL.of f,?_⟩;rw[El r.len];exact q _ _ T h (Same.refl _) (.bl _)
 ·grind
def Et(x y:Int){k}(h:k=0\/k=1):atI [D.int x,D.int y] k=some (.int (if k=0 then x else y)):=by
 rcases h with rfl|rfl
 ·rfl
 ·rfl
def Tp(xs:List g)(lo f:Option Int):(cutD xs lo f).Sublist xs:=(Jg _ _).trans (List.drop_sublist _ _)
noncomputable def Ce(i:Nat)(b a:PTE):PTS:=λR γ=>match γ[i]? with
 |some (some<|.own<|.lst f)=>a γ (λs=>b γ (λy=>match y.d with
   | .int k=>∃j d,ixN f.length k=some j/\s.shd=some d/\R.nx (γ.set i<|some<|.own<|.lst<|f.set j d)
   |_=>False) (R.ex γ)) (R.ex γ)
 |some (some<|.own<|.lsA x f)=>a γ (λs=>b γ (λy=>match y.d with
   | .int k=>∃j d,ixN f.length k=some j/\s.shd=some d/\R.nx (γ.set i<|some<|.own<|.lsA x<|f.set j d)
   |_=>False) (R.ex γ)) (R.ex γ)
 |_=>False
theorem Rps.set (h:Rp K H d v):∀{ds vs} j,Rps K H ds vs->Rps K H (ds.set j d) (vs.set j v)
 |_,_,_,.nil=>.nil
 |_,_,0,.cons _ r=>.cons h r
 |_,_,j+1,.cons k r=>.cons k (Rps.set h j r)
def Zrl(i:Nat){tb te a b}(hb:Xf K mg E tb b)(ha:Xf K mg E te a):Xu K mg E (N5 te<|G8 (Kk i) tb IS) (Ce i b a):=by
 intro H0 B H σ γ R D hB g h e;have hx:=λc H' M A=>e.ex σ γ c H' M (g.grow A) (Fr.grow A);unfold Ce at h;split at h
 ·rename_i ds L;obtain⟨v,J,l,rfl,Y,us,U,G⟩:=g.slot i _ L;refine ha H0 B H σ γ _ _ _ g h (λs u H1 h1 o Q=>⟨_,J,?_⟩) hx;have f:=g.grow o;refine hb H0 B H1 σ γ _ _ _ f h1 (λy w H2 r p N=>?_) λc H' M A=>hx c H' M (o.trans A);have n:=f.grow p;have C:=N.rp n.same;split at r
  ·rename_i k ek;rw[ek]at C;obtain⟨j,d,h3,h4,h5⟩:=r;have T:=Rp.mono (Xs p λ_ _ _ z=>z) (Q.shd f.same g.zm o h4);refine⟨l,us,k,j,rfl,C.int_inv,(o.trans p) _ _ U,by rw[G.len];exact h3,?_⟩;obtain⟨e2,f2⟩:=n.mutate (es:=.lst (ds.set j d)) (us:=.lst (us.set j u)) L J trivial λF H' SF hF=>⟨_,hF,Rps.mono SF (Rps.set T j<|Rps.mono (Xs (o.trans p) λ_ _ _ z=>z) G)⟩;exact e.nx _ _ _ h5 e2 ((Fr.grow<|o.trans p).trans f2)
  ·exact r.elim
 ·rename_i x ds L;obtain⟨v,J,l,rfl,Y,rfl,us,U,G⟩:=g.slot i _ L;refine ha H0 B H σ γ _ _ _ g h (λs u H1 h1 o Q=>⟨_,J,?_⟩) hx;have f:=g.grow o;refine hb H0 B H1 σ γ _ _ _ f h1 (λy w H2 r p N=>?_) λc H' M A=>hx c H' M (o.trans A);have n:=f.grow p;have C:=N.rp n.same;split at r
  ·rename_i k ek;rw[ek]at C;obtain⟨j,d,h3,h4,h5⟩:=r;have T:=Rp.mono (Xs p λ_ _ _ z=>z) (Q.shd f.same g.zm o h4);refine⟨l,us,k,j,rfl,C.int_inv,(o.trans p) _ _ U,by rw[G.len];exact h3,?_⟩;obtain⟨e2,f2⟩:=n.mutate (es:=.lsA l (ds.set j d)) (us:=.lst (us.set j u)) L J trivial λF H' SF hF=>⟨rfl,_,hF,Rps.mono SF (Rps.set T j<|Rps.mono (Xs (o.trans p) λ_ _ _ z=>z) G)⟩;exact e.nx _ _ _ h5 e2 ((Fr.grow<|o.trans p).trans f2)
  ·exact r.elim
 ·exact h.elim
end
end Pu
namespace PySem
open Sem (wp)
structure Zkz {K:Type} (es:List DictEntry) (kvs:List (K×Value)):Prop where
 length:es.length=kvs.length
 get?:∀{i:Nat} {e:DictEntry} {k:K} {v:Value},es[i]?=some e->kvs[i]?=some (k,v)->True/\e.val=v
def VDict{K:Type}(h:Heap)(a:Addr)(f:List (K×Value))(l:Nat):Prop:=
 ∃o g,h.get? a=some o/\o.ExactDict/\o.data=.dict g l/\True/\Zkz g.toList f/\True
section
variable {prog:Program}{w:World}{K:Type}{A:Around}{E:Yb}{s:Shared}
def Zlc(d:Addr)(g:(d==sysModules)=false) :
  MeetsIn prog w (Builtin.«dict.values» ⟨[.ref d],[]⟩) (λ_ R s=>s.TypeIs (.ref d) "dict"/\
   R (.ok<|.ret<|.ref s.heap.objs.size) {s with heap:=s.heap.push {cls:=.type "dict_values",data:=.fields #[.ref d]}}):=
 .of_wp λA R s ⟨f,h⟩=>by
  refine WK ?_;unfold Builtin.Dict.noArgs;refine WK (wpAny_notOrdered_dict f ?_);show wpAny _ _ (pure d) _ _ s;refine WR ?_;show wpAny _ _ (Builtin.Dict.showsAll d >>= _) _ _ s;unfold Builtin.Dict.showsAll;rw[WO (by rw[g];exact Qk)];refine WK (WR ?_);exact WK (QC<|WR ⟨_,rfl,h⟩)
def Zqx{v d:Addr}{g:List (K×Value)}{y:Nat}{Q:Yb}(l:s.heap.IsValuesView v d)(B:VDict s.heap d g y)(G:Q (.ref s.heap.objs.size) {s with heap:=s.heap.push {cls:=.type "dict_valueiterator",data:=.fields #[.ref d,.int 0 0,.int g.length 0,.int y 0]}}) :
  wpAny (model prog w) A (pyIter<|.ref v) Q E s:=by
 obtain⟨J,p,C,r⟩:=id l;obtain⟨o,H,u,N,f,M,z,L⟩:=id B;refine Jl l.typeIs F.slot_dict_values_iter (Vc F.slot_dict_values_iter l.typeIs F.entry_dict_values_iter ?_<|F.args_dict_values_iter_1 _);unfold Builtin.«dict_values.__iter__»;refine WK (WR ?_);refine WK ?_;unfold Builtin.Dict_items.dictOf;refine WK (JH p r (x:=.ref d) rfl<|WR ?_);refine WK ?_;unfold Builtin.Dict_items.newIterator;refine WK (wpAny_dictEntries u f ?_);refine WK (wpAny_dictEpoch u f ?_);have n:H.size=g.length:=by rw[←z.length];simp
 have h:Builtin.Dict_items.ownsTuple "dict_valueiterator"=false:=by decide
 simp only[h,Ja,Jv];refine QC (WR ⟨_,rfl, "dict_valueiterator",_,⟨_,Qa _ rfl,rfl⟩,F.slot_dict_valueiterator_next.lookup,?_⟩);simpa [rawInt,n]using G
def Zou{n d:Addr}{i G:Nat}{f:List (K×Value)}{k:K}{v:Value}{Q:Yi->Shared->Prop}(g:s.heap.IsValIter n d i f.length G)(N:VDict s.heap d f G)(hx:f[i]?=some (k,v))(Y:∀L,L.IsValIter n d (i+1) f.length G->Heap.SameBut n s.heap L->Q (some v) {s with heap:=L}) :
  wpAny (model prog w) A (pyNext<|.ref n) Q E s:=by
 obtain⟨o,H,U,C⟩:=id g;obtain⟨od,B,y,T,z,hk,M,hn⟩:=id N;unfold pyNext
 refine WK (wpAny_attempt (Jf (name:=Str.ofString "__next__") g.typeIs Vl
  (Vc Vl g.typeIs F.entry_dict_valueiterator_next ?_<|F.args_dict_valueiterator_next_1 _)))
 refine WK (WR ?_);refine WK ?_;refine WK ?_
 first|refine WK (Vs g.typeIs<|WR ?_)|refine WK (V8 g.typeIs<|WR ?_)
 refine WK (wpAny_fieldsOf H C ?_);have x:Builtin.Dict_items.ownsTuple "dict_valueiterator"=false:=by decide
 simp only[x,Ja,Jv];show wpAny _ _ (if (Value.ref d==Value.none)=true then _ else _) _ _ s;rw[WO (show ¬((Value.ref d==Value.none)=true)from Qk)]
 refine WK (WR ?_);refine WK (wpAny_dictEntries y z ?_);have u:B.size=f.length:=by rw[←M.length];simp
 rw[WO (by rw[u];simp)];refine WK (WR ?_);refine WK (wpAny_dictEpoch y z ?_);rw[WO (by simp)];refine WR ?_
 have J:i<f.length:=by
  rcases Nat.lt_or_ge i f.length with h|h
  ·exact h
  ·simp[Vg h]at hx
 have p:i<B.size:=by rw[u];exact J
 have r:B[i].val=v:=(M.get? (e:=B[i]) (by simp[p]) hx).2;simp only[show ¬((i:Int)<0)from by omega,Jv,Q6,QW p]
 refine WK ?_
 first|refine WK (Vs g.typeIs<|WR ?_)|refine WK (V8 g.typeIs<|WR ?_)
 refine WK (Jy g.typeIs ?_);show wpAny _ _ (setField (.ref n) 1 (rawInt ((i:Int)+1)) >>= _) _ _ s;refine WK (Ve H C (by simp) ?_)
 have l:(s.heap.update n<|Obj.mapFields (·.setIfInBounds 1 (rawInt ((i:Int)+1)))).IsValIter n d (i+1) f.length G:=
  ⟨_,QA _ H (Vf<|QK C _),(Jk ..).trans U,by rw[QK C];simp[rawInt]⟩
 refine WK (Vr ?_);refine WK (Jy (s:={s with heap:=s.heap.update n (Obj.mapFields (·.setIfInBounds 1 (rawInt ((i:Int)+1))))}) l.typeIs ?_)
 refine WK (Jy (s:={s with heap:=s.heap.update n (Obj.mapFields (·.setIfInBounds 1 (rawInt ((i:Int)+1))))}) l.typeIs ?_)
 show wpAny _ _ (pure B[i].val) _ _ _;exact WR (WR ⟨_,rfl,WR (r▸Y _ l (QN ..))⟩)
def Za7{r d:Addr}{i B:Nat}{g:List (K×Value)}{Q:Yi->Shared->Prop}(H:A.handled=none)(f:s.heap.IsValIter r d i g.length B)(G:VDict s.heap d g B)(hx:g[i]?=none)(L:∀y,Heap.ExtBut r s.heap y->Q none {s with heap:=y}):wpAny (model prog w) A (pyNext<|.ref r) Q E s:=by
 obtain⟨o,v,Y,x⟩:=id f;obtain⟨M,z,n,J,p,U,C,N⟩:=id G;unfold pyNext
 refine WK (wpAny_attempt (Jf (name:=Str.ofString "__next__") f.typeIs Vl
  (Vc Vl f.typeIs F.entry_dict_valueiterator_next ?_<|F.args_dict_valueiterator_next_1 _)))
 refine WK (WR ?_);refine WK ?_;refine WK ?_
 first|refine WK (Vs f.typeIs<|WR ?_)|refine WK (V8 f.typeIs<|WR ?_)
 refine WK (wpAny_fieldsOf v x ?_);have l:Builtin.Dict_items.ownsTuple "dict_valueiterator"=false:=by decide
 simp only[l,Ja,Jv];show wpAny _ _ (if (Value.ref d==Value.none)=true then _ else _) _ _ s;rw[WO (show ¬((Value.ref d==Value.none)=true)from Qk)]
 refine WK (WR ?_);refine WK (wpAny_dictEntries n p ?_);have h:z.size=g.length:=by rw[←C.length];simp
 rw[WO (by rw[h];simp)];refine WK (WR ?_);refine WK (wpAny_dictEpoch n p ?_);rw[WO (by simp)];refine WR ?_;have u:z.size<=i:=by rw[h];simpa using hx
 simp only[show ¬((i:Int)<0)from by omega,Jv,Q6,Js u]
 refine WK ?_
 first|refine WK (Vs f.typeIs<|WR ?_)|refine WK (V8 f.typeIs<|WR ?_)
 show wpAny _ _ (setField (.ref r) 0 .none >>= _) _ _ s;refine WK (Ve v x (by simp) ?_);show wpAny _ _ (newExc (.type "StopIteration") [] >>= _) _ _ _;refine WK ?_;simp only[newExc,newTuple];refine WK (QC ?_<|by size_fits);refine WK (m:=firstArgMember _ _) (wpAny_of_eq (a:=Value.none) (by first|rfl|(simp only[firstArgMember];rfl)) ?_)
 refine QC ?_ (by size_fits);simp only[raiseNew];refine WK (wpAny_handled ?_);rw[show A.in1.handled=none from H]
 refine WK (WR<|wpAny_throw ?_);refine WK (wpAny_isInstance (T:="StopIteration") (b:=true) ⟨_,Qa _ rfl,rfl⟩ isSubtype_stop ?_);exact WR (L _ (((QN ..).extBut.push _).push _))
end
end PySem
open PySem PySem.Spec PyProof.Rows
namespace Own
open L2
noncomputable def Ro(K:ZW):R2:=λx y H Q=>∃a b xs f,x=.ref a/\y=.ref b/\SqT K H a xs/\SqT K H b f/\xs.length+f.length<=sizeLine/\
 (xs=[]->Q (.ref b) H)/\(xs≠[]->f=[]->Q (.ref a) H)/\(xs≠[]->f≠[]->∀p,H p=none->Q (.ref p) (upd H p<|.tup (xs++f)))
section
variable {X:Cx}{K:ZW}
def Zjf(hK:autoParam (X.K=K) au_0):OpR X (binaryOp .Add) (Ro K):=by
 subst hK;intro pins s J H x y v u Q I N M h;obtain⟨a,b,xs,L,rfl,rfl,E,C,hz,q0,Y,U⟩:=h;cases N
 cases M
 by_cases hx:xs=[]
 ·obtain⟨r,T,p1,_⟩:=I.tuple E;obtain⟨f,r2,p2,_⟩:=I.tuple C;have e:=T.nil_iff.mpr hx;obtain⟨⟨cls,dd,data,sl⟩,z,B,n,A⟩:=id p1;obtain⟨⟨G,w,data2,p⟩,g,o,n2,l⟩:=id p2;simp only at B A o l;subst B A o l
  exact concat_meets ⟨_,z,rfl⟩ ⟨_,g,rfl⟩ noFill_tuple_add seq_tuple_add Jr Je (VW _ _)
   (tuple_addW0 a b r.toArray f.toArray n n2 dd w sl p<|by grind) ⟨z,g,⟨.ref b,H,I,rfl,q0 hx⟩⟩
 ·exact Zmc pins s J H (.ref a) (.ref b) _ _ Q I rfl rfl ⟨a,b,xs,L,rfl,rfl,E,C,hx,hz,Y hx,U hx⟩
def Zjy(h:VV [(.ref b,x)] f):∃r,f=[(.ref b,r)]/\RelV x r:=by
 cases h with
 |cons h t=>
  cases t
  rename_i y;obtain⟨u,r⟩:=y;obtain⟨g,l⟩:=h;cases g
  grind
noncomputable def Mz(n l:TE):TE:=λg H Q=>∀p,H p=none->n g (upd H p<|.dT []) λy o=>l g o λx f=>f p=some (.dT [])/\∃b h,y=.ref b/\f b=some (.tup<|h.map kV)/\Q (.ref p) (upd f p<|.dT [(h,x)])
def Zgv{r p pos}(M:X.A.units+1<cLine)(T:PE X k r)(L:PE X v p):PE X (.Dict [some k] [v] pos) (Mz r p):=by
 intro pins s C H Q I q
 refine wpAny_Dict_any rfl rfl (by simp) (by simp) (thn ((Zqo T L Zai) pins _ C _ (λw l=>match w with
  |[(y,x)]=>l s.heap.objs.size=some (.dT [])/\∃b g,y=.ref b/\l b=some (.tup<|g.map kV)/\Q (.ref s.heap.objs.size) (upd l s.heap.objs.size<|.dT [(g,x)])
  |_=>False) (I.laid (t':=s.toks) (λ_ _ q=>WS _ q) (WT _)<|Ib s.heap I.big)<|q _<|I.hok.fresh<|WT s.heap.objs.size) λws s2 ⟨w,l,o,rel,h⟩=>?_)
 split at h
 ·rename_i y x;obtain⟨e,b,g,ey,B,J⟩:=h;subst ey;obtain⟨E,ew,G⟩:=Zjy rel;subst ew;obtain⟨z,U,xs,f,dd⟩:=FE o.hok e;cases f
  unfold storeAll;rw[List.forIn_cons];refine WK (WK (wpAny_dictSet_heap (Nat.lt_of_succ_lt M) (S8 o.hok B) dd λh' n N=>WR ?_))
  dsimp only
  refine WR ?_;obtain⟨u,es,ep,hq,h,h3,h4,_,Y⟩:=n;refine⟨.ref s.heap.objs.size,_,De (ob:=.dT [(g,x)]) o (by rw[e];exact True.intro) N ⟨u,hq⟩ ⟨(by show 1<=sizeLine;decide),U,[(g,b,E)],?_,u,es,ep,hq,h,h3,h4,Y⟩,rfl,J⟩;refine .cons ⟨rfl,?_,G⟩ .nil;rwa[Xx (M6 B e (λz=>nomatch z))]
 ·exact h.elim
end
section
variable {prog:Program}{w:World}{A:Around}{K:Type}{d r:Addr}{kvs:List (K×Value)}{ep:Nat}{h h':Heap}
def VDict.at (x:VDict h d kvs ep) (e:∀o,h.get? d=some o->h'.get? d=some o):VDict h' d kvs ep:=let ⟨o,g,f,r⟩:=x;⟨o,g,e _ f,r⟩
def VDict.lt (x:VDict h d kvs ep):d<h.objs.size:=let ⟨_,_,f,_⟩:=x;WZ f
def Zfj(hh:A.handled=none)(I d:Addr)(hne:d≠I)(kvs:List (K×Value))(ep:Nat) :
  Walks prog w A I [I,d] [I] kvs.length (λi v=>∃k,kvs[i]?=some (k,v)) (λi h=>h.IsValIter I d i kvs.length ep/\VDict h d kvs ep) where
 sub:=λb hb=>by simp at hb;simp[hb]
 frame:=λ_ _ _ st hk=>⟨st.1.at λo e=>hk I (by simp) o e,VDict.at st.2 λo e=>hk d (by simp) o e⟩
 item:=λi s Q E hi st hQ=>by
  refine Zou (k:=(kvs[i]).1) (v:=(kvs[i]).2) st.1 st.2 (by grind) λh' hit' hs'=>?_;exact hQ _ h' s.toks ⟨(kvs[i]).1,by simp[hi]⟩ ⟨hit',VDict.at st.2 λo e=>hs'.extBut d o hne e⟩ λb o hb e=>hs'.extBut b o (λh=>hb (by grind)) e
 done:=λs Q E st hQ=>Za7 hh st.1 st.2 (by simp) λh' he'=>hQ h' s.toks λb o hb e=>he' b o (λh=>hb (by grind)) e
 self:=λ_ _ _ _ st hQ=>wpAny_pyIter_valiter st.1 hQ
def Znx:PySem.W.KdlSrc prog w "dict_values" r d kvs.length (λi v=>∃k,kvs[i]?=some (k,v)) (λh=>h.IsValuesView r d/\VDict h d kvs ep) where
 type:=λ_ hm=>hm.1.typeIs
 there:=λ_ hm=>⟨let ⟨_,ho,_⟩:=hm.1;WZ ho,VDict.lt hm.2⟩
 keep:=λ_ _ hm hk=>⟨let ⟨o,ho,x⟩:=hm.1;⟨o,hk r (.inl rfl) o ho,x⟩,VDict.at hm.2 λo e=>hk d (.inr rfl) o e⟩
 notList:=by decide
 notTuple:=by decide
 hint:=λ_ _ _ _ hm hq=>PySem.W.kdl_hint_values hm.1.typeIs hq
 iter:=λ_ _ hh hm=>⟨_,_,(λ_ _ hq=>Zqx hm.1 hm.2 hq),Zfj hh _ d (Qm<|VDict.lt hm.2) kvs ep,⟨⟨_,Qa _ rfl,rfl,rfl⟩,VDict.at hm.2 λo e=>WS _ e⟩⟩
end
noncomputable def Bi(v d:Addr):HO:=.ext λh=>h.IsValuesView v d
def AG:V->List V->Hp->VK->Prop:=λx g H Q=>∃d f,x=.ref d/\g=[]/\H d=some (.dT f)/\∀v,H v=none->Q (.ref v) (upd H v<|Bi v d)
section
variable {X:Cx}
def Zq9:MtR X "dict.values" AG:=by
 intro pins s y H x xs v A Q I l n h;obtain⟨d,p,rfl,rfl,u,q⟩:=h;cases l
 have g:=n.zero;subst g;obtain⟨z,lo,xs,rel,w⟩:=FE I.hok u;obtain⟨o,E,G,f,hx,_⟩:=id w;refine call_meetsIn PySem.F.slot_dict_values ⟨o,f,hx.1⟩ PySem.F.entry_dict_values (PySem.F.args_dict_values_1 _) (Zlc d lo) ⟨⟨o,f,hx.1⟩,?_⟩;refine⟨.ref s.heap.objs.size,_,I.laid (o:=Bi s.heap.objs.size d) (λ_ _ q=>WS _ q) (WT _) ⟨⟨_,Qa _ rfl,rfl,rfl⟩,⟨_,Qa _ rfl⟩,λC B ⟨o,f,r⟩ e=>⟨o,e o f,r⟩⟩,rfl,q _ (I.hok.fresh<|WT _)⟩
def Znv{K}{o}{to}{name:Str}{apos cpos}(h:PE X o to)(n:autoParam (X.K=K) au_0)(l:autoParam (name = "values") au_0)(g:autoParam (attributeBase o name X.env (eval o X.env)=eval o X.env) au_0)(f:autoParam ((apos.endLine==cpos.line)=true) au_0):PE X (.Call (.Attribute o name apos) [] [] cpos) (Ng K "dict" AG to):=by
 subst n l;exact N7 PySem.F.plainAttrs_dict PySem.F.slot_dict_values PySem.F.type_dict_values Zq9 h g f
def Ry:∀{kvs}{xs:List (List Key×Addr×Value)},KT H kvs xs->Vals (kvs.map (·.2)) (xs.map (·.2.2)):=by
 intro g
 induction g with
 |nil=>
  intro _ h;cases h
  exact .nil
 |cons _ _ f=>
  intro _ h;cases h with
  |cons h r=>
   exact .cons h.2.2 (f r)
def Zk5(T:X.calm=true):Kr X (.type "list") (λxs H Q=>∃v d f,xs=[.ref v]/\H v=some (Bi v d)/\H d=some (.dT f)/\∀l,H l=none->Q (.ref l) (upd H l<|.lst<|f.map (·.2))):=by
 intro pins s σ H xs us Q I C h;obtain⟨v,d,f,rfl,G,N,q⟩:=h;obtain⟨u,rfl,E⟩:=C.one;obtain rfl:=E;obtain⟨z,lo,xs,rel,dd⟩:=FE I.hok N;obtain⟨o,Y,ep,L,hx,p,A,y,hn⟩:=id dd;have hl:xs.length=f.length:=by simpa using(Ry rel).length.symm
 have B:VDict s.heap d (xs.map λx=>((),x.2.2)) ep:=by
  refine⟨o,Y,L,hx,p,trivial,⟨by rw[A,WI,WI],λ{i e k v} w r=>⟨trivial,?_⟩⟩,trivial⟩;rw[A,WY]at w;rw[WY]at r;cases M:xs[i]? with
  |none=>grind
  |some x=>
   rw[M]at w r;cases w
   cases r
   rfl
 refine PySem.W.kdl_call Znx (I.ok.hd T) ⟨((I.hok v _ G).1),B⟩ (by rw[WI];lia) λh' tk n c' y U g=>?_;refine⟨.ref s.heap.objs.size,upd H s.heap.objs.size (.lst<|f.map (·.2)),?_,rfl,q _ (I.hok.fresh<|WT _)⟩;refine I.laid y (WT _) ⟨by rw[WI];exact z,n.toList,c',?_,by simpa using U⟩;rw[(PySem.W.kdl_vals_eq n.toList (by rw[QF];exact g.1) λj u J=>g.2 j u (by rw[←J,QX])),Qy];exact Ry rel
end
end Own
namespace Pu
open L2 Own M
section
variable {K:ZW}{mg:Ya}{E:L2.St->XK}{H0 H H1 H':Hp}{B Z Z':Addr->Prop}{σ:L2.St}{γ:Γ}
noncomputable def S9:Option D->Option (List D)
 |some (.tup f)=>some f|_=>none
def AL(h:S9 o=some ds):o=some (.tup ds):=by
 unfold S9 at h;split at h
 ·grind
 ·grind
def Zim:S->S->(S->Prop)->Prop:=λx y R=>∃g f,S9 x.shd=some g/\S9 y.shd=some f/\g.length+f.length<=100000/\R (.sh<|.tup (g++f))
def Zor{a b}(Y:Xf K mg E M a)(U:Xf K mg E L b):Xf K mg E (tOp (Ro K) M L) (p2 a b Zim):=by
 refine P6 Y U λH0 H H2 Z x y v u R Q s f r J G h q=>?_;obtain⟨ds,es,e1,e2,T,h⟩:=h;have N:=J.shd s r f (AL e1);have w:=G.shd s r f (AL e2);obtain⟨l,C,rfl,h1,o⟩:=Rp.tup_inv N;obtain⟨m,A,rfl,h2,n⟩:=Rp.tup_inv w;refine⟨l,m,C,A,rfl,rfl,SqT.of (off_sub _ _ h1),SqT.of (off_sub _ _ h2),by rw[o.len,n.len];exact WV T (by decide),λe=>?_,λ_ e=>?_,λ_ _ p g=>?_⟩
 ·subst e;cases o
  exact q _ _ _ h (Same.refl _) w
 ·subst e;cases n
  refine q _ _ _ h (Same.refl _) ?_;rw[Q8];trivial
 ·refine q _ _ _ h (XX g) (.tup (XQ X9 λz=>?_)<|Rps.mono (Xs (XX g) λ_ _ _ z=>z)<|o.append n)
  have:=(λb z=>Px f (r b z)) p z
  rw[g]at this;exact this
noncomputable def pIT(a:PTE):PTI:=λγ R X=>a γ (λs=>∃f,S9 s.shd=some f/\R f.length λi=>.sh (f.getD i .non)) X
def BB(M:Xf K mg E te a):SndI K mg E (En K te) (pIT a):=by
 intro H0 B H σ γ R X Q f h q G;refine M H0 B H σ γ _ X _ f h (λs v H1 o p C=>?_) G;obtain⟨z,N,o⟩:=o;obtain⟨l,g,rfl,n,r⟩:=Rp.tup_inv (C.shd (f.grow p).same f.zm p (AL N));refine⟨l,rfl,⟨g,SqT.of (off_sub _ _ n)⟩,q _ _ _ H1 o p ⟨λi H' Z' J lt=>?_,λH' Z' lt=>?_⟩⟩
 ·have L:z[i]?=some (z.getD i .non):=by rw[WU,WJ J];rfl
  obtain⟨u,w,A⟩:=r.get L;have k:=off_sub _ _ (lt.off _ _ n);refine⟨⟨g,u,SqT.of k,w⟩,λx T y=>?_⟩;obtain⟨rfl,y⟩:=y
  have:=y g (SqT.of k)
  rw[w]at this;cases this
  exact⟨Same.refl _,Rp.mono lt.off A⟩
 ·exact⟨g,SqT.of (off_sub _ _<|lt.off _ _ n),by rw[r.len];exact WT _⟩
noncomputable def Sz:List (List Key×V)->Bool
 |[]=>true
 |p::r=>Fz p.2&&Sz r
theorem Hu:∀{f:List (List Key×V)},Sz f=true->Rps K H (f.map λp=>vD p.2) (f.map (·.2))
 |[],_=>.nil
 |p::r,h=>by
  unfold Sz at h;rw[Qr]at h;exact .cons (DC h.1) (Hu h.2)
def Zr3:List V->Hp->VK->Prop:=λxs H Q=>∃(v d:Addr) (f:List (List Key×V)),xs=[.ref v]/\H v=some (Bi v d)/\H d=some (.dT f)/\∀l,H l=none->Q (.ref l) (upd H l<|.lst<|f.map (·.2))
noncomputable def Zo7(a:PTE):PTE:=λγ R X=>a γ (λs=>∃f,s.d=.dT f/\Sz f=true/\R (.own<|.lst (f.map λp=>vD p.2))) X
def Zpu(C:Xf K mg E te a):Xf K mg E (tCB Zr3<|XW (Ng K "dict" AG te) KH) (Zo7 a):=by
 intro H0 B H σ γ R X Q g h q z;refine C H0 B H σ γ _ X _ g h (λs v H1 J o y=>?_) z;obtain⟨f,e,A,G⟩:=J;have r:=y.rp (g.grow o).same;rw[e]at r;obtain⟨l,rfl,n⟩:=r.dT_inv;refine⟨.inr (.inr<|.inl ⟨rfl,.inr ⟨f,n⟩⟩),l,f,rfl,rfl,n,λp u=>?_⟩;refine⟨p,l,f,rfl,X9,by rw[Xx (Kz n u)];exact n,λm w=>?_⟩;have x:Same H1 (upd H1 p<|Bi p l):=XX u;exact q _ _ _ G ((o.trans x).trans (XX w)) ⟨m,rfl,(λ_ e=>e▸(o.trans x).free w),_,X9,Hu A⟩
noncomputable def Zkt(a b:PTE):PTE:=λγ R X=>a γ (λy=>b γ (λx=>∃f u,NZ y.d=some f/\BP x.d=some u/\R (.own<|.dT [(f,u)])) X) X
def Zjb{a b}(ha:Xf K mg E L a)(hb:Xf K mg E J b):Xf K mg E (Mz L J) (Zkt a b):=by
 intro H0 B H σ γ R X Q A h q G p s;have r:Same H (upd H p<|.dT []):=XX s;have env0:=A.grow r;refine ha H0 B _ σ γ _ X _ env0 h (λy v H1 h1 n N=>?_) λc H' g C=>G c H' g (r.trans C);have f:=env0.grow n;refine hb H0 B H1 σ γ _ X _ f h1 (λx w H2 h2 l M=>?_) λc H' g C=>G c H' g ((r.trans n).trans C);obtain⟨T,u,k1,Y,U⟩:=h2;have eu:=D4 (M.rp (f.grow l).same) Y;obtain⟨b',rfl,z⟩:=BL (Rp.mono l<|N.rp f.same) k1;subst eu;refine⟨l _ _ (n _ _ X9),b',T,rfl,z,q _ _ _ U (λc o g=>?_) ⟨p,rfl,(λ_ e=>e▸s),X9⟩⟩
 have:c≠p:=λe=>by subst e;rw[s]at g;cases g
 rw[Xx this];exact l _ _ (n _ _<|r _ _ g)
end
section
variable {X:Cx}{K:ZW}
def SY{g l f}(h:PE X l f)(n:autoParam (X.K=K) au_0):PI X g l (En K f):=by subst n;exact Zlg h
end
end Pu
namespace M
open L2 Own Pu
noncomputable def tD(f:ZY):D:=.tup (f.map D.int)
noncomputable def kT(f:ZY):List Key:=f.map Sum.inl
def Zp7(f:ZY):arg (tD f)=.sh (tD f):=by
 unfold arg tD imm;rw[Pt]
def BA:PN N (tD f::ds)=some (.sh<|tD f)::(ds.map (λd=>some (arg d))++List.replicate (N.length-(ds.length+1)) none):=by
 unfold PN;rw[Qh,Zp7];rfl
def FZ(f:ZY):NZ (tD f)=some (kT f):=by
 show Sj (f.map D.int)=some (f.map Sum.inl)
 induction f with
 |nil=>rfl
 |cons m r g=>
  rw[Qh,Qh];unfold Sj;rw[g];rfl
def Zcz(f:ZY):S9 (some<|tD f)=some (f.map D.int):=rfl
noncomputable def Xz(f:ZY)(h:Int):ZY:=f.filter λm=>decide (m≠h)
noncomputable def TC(f:ZX)(g:ZY)(h:Int):Bool:=!(f.any λq=>decide (q.1=h)&&decide (q.2∈g))
noncomputable def firstM(f:ZX)(g:ZY)(h:Int):Bool:=!(f.any λq=>decide (q.2=h)&&decide (q.1∈g))
noncomputable def X1(hs:ZY):List (ZY):=hs.foldl (λS h=>S++S.map (·++[h])) [[]]
def TQ(hs:ZY)(h:Int):X1 (hs++[h])=X1 hs++(X1 hs).map (·++[h]):=by
 unfold X1;simp
def NI{P:ZY->Prop}(n:P [])(g:∀r h,P r->P (r++[h]))(l:ZY):P l:=by
 have f:∀r:ZY,P r.reverse:=λr=>by
  induction r with
  |_=>grind
 rw[←List.reverse_reverse l]
 grind
def Sv(hs:ZY):(X1 hs).length=2 ^ hs.length:=by
 refine NI (P:=λhs=>(X1 hs).length=2 ^ hs.length) rfl (λr h f=>?_) hs;rw[TQ,WW,WI,f,WW,QP,Nat.pow_succ];lia
def Sk(hs:ZY):∀f∈X1 hs,f.Sublist hs:=by
 refine NI (P:=λhs=>∀f∈X1 hs,f.Sublist hs) (λf h=>?_) (λr h g f hm=>?_) hs
 ·have:f=[]:=by simpa [X1]using h
  grind
 ·rw[TQ,Qi]at hm;rcases hm with hm|hm
  ·grind
  ·grind
noncomputable def oc(c:Int->Int->Int):ZY->Int
 |[]=>0
 |a::r=>(r.map<|c a).sum+oc c r
def Keeps(f:ZX)(o:ZY):Prop:=o.Pairwise λa b=>(b,a)∉f
structure KA (ws:ZX) (c:Int->Int->Int) (ms:ZY) (v:Int):Prop where
 is:∃o:ZY,o.Perm ms/\Keeps ws o/\oc c o=v
 le:∀o:ZY,o.Perm ms->Keeps ws o->v<=oc c o
def KA.uniq (h:KA f c n v) (k:KA f c n u):v=u:=by
 obtain⟨o,o1,l,s⟩:=h.is;obtain⟨p,g,p2,r⟩:=k.is
 have:=h.le p g p2
 have:=k.le o o1 l
 lia
theorem Dr(c:Int->Int->Int)(l:Int):∀o,oc c (o++[l])=oc c o+(o.map (c · l)).sum
 |[]=>by simp[oc]
 |a::r=>by
  rw[VN];unfold oc;rw[Dr c l r]
  grind
def B4{f:Int->Int}{xs ys:ZY}(h:xs.Perm ys):(xs.map f).sum=(ys.map f).sum:=by
 induction h with
 |nil=>rfl
 |trans _ _ l g=>lia
 |_=>grind
def TJ{f:ZY}{h}(g:f.Nodup)(l:h∈f):f.Perm (h::Xz f h):=by
 have e:Xz f h=f.erase h:=by
  unfold Xz;rw[g.erase_eq_filter]
  grind
 grind
def less_sub:(Xz f h).Sublist f:=JD
def lastM_iff:TC f g h=true↔∀b∈g,(h,b)∉f:=by
 unfold TC;constructor
 ·grind
 ·grind
def firstM_iff:firstM f g h=true↔∀b∈g,(b,h)∉f:=by
 unfold firstM;constructor
 ·grind
 ·grind
def Zo8{ms}{vs:Int->Int}{M}(s:ms.Nodup)(hw:∀q∈h,q.1≠q.2)(w:∀l∈ms,KA h c (Xz ms l) (vs l))(E:∃l∈ms,TC h ms l=true/\M=vs l+((Xz ms l).map (c · l)).sum)(C:∀l∈ms,TC h ms l=true->M<=vs l+((Xz ms l).map (c · l)).sum):KA h c ms M:=by
 constructor
 ·obtain⟨l,g,f,e⟩:=E;obtain⟨o,o1,n,x⟩:=(w l g).is;refine⟨o++[l],?_,?_,?_⟩
  ·exact(List.perm_append_singleton l o).trans (((List.Perm.cons l o1)).trans (TJ s g).symm)
  ·refine J6.mpr ⟨n,List.pairwise_singleton _ _,λa B b v=>?_⟩;rw[WN.mp v];exact lastM_iff.mp f a (less_sub.subset<|o1.mem_iff.mp B)
  ·rw[Dr,x,e,B4 o1]
 ·intro o o1 n;rcases QB o with rfl|⟨p,l,rfl⟩
  ·grind
  ·rw[QR]at o1 n ⊢;have g:l∈ms:=o1.mem_iff.mp (by simp);obtain⟨A,_,y⟩:=J6.mp n
   have r:p.Perm (Xz ms l):=by
    have:=((List.perm_append_singleton l p).symm.trans o1).trans (TJ s g)
    exact this.cons_inv
   have f:=lastM_iff.mpr λb v=>by
    rcases WX.mp ((TJ s g).mem_iff.mp v)with e|u
    ·subst e;exact λz=>hw _ z rfl
    ·exact y b (r.mem_iff.mpr u) l (WN.mpr rfl)
   have a1:=C l g f;have a2:=(w l g).le p r A;rw[Dr,B4 r];lia
def Mt(a b:ZY)(l:Int):Xz (a++b) l=Xz a l++Xz b l:=List.filter_append ..
def Zac(h:l∉a):Xz a l=a:=List.filter_eq_self.mpr λm f=>WL λe=>h (e▸f)
def Zfw(hs:ZY):∃T,X1 hs=[]::T:=by
 refine NI (P:=λhs=>∃T,X1 hs=[]::T) ⟨[],rfl⟩ (λr h ⟨T,e⟩=>?_) hs;rw[TQ,e]
 grind
def Cw(hs:ZY):(X1 hs).getLast?=some hs:=by
 refine NI (P:=λhs=>(X1 hs).getLast?=some hs) rfl (λr h e=>?_) hs;rw[TQ,List.getLast?_append,List.getLast?_map,e];rfl
def ID:hs.Nodup->(X1 hs).Nodup:=by
 refine NI (P:=λhs=>hs.Nodup->(X1 hs).Nodup) (λ_=>by simp[X1]) (λr h l n=>?_) hs;obtain⟨g,_,o⟩:=QG.mp n;rw[TQ];refine QG.mpr ⟨l g,?_,λa s b p e=>?_⟩
 ·exact List.Pairwise.map _ (λa b f e=>f (List.append_cancel_right e)) (l g)
 ·obtain⟨c,u,rfl⟩:=Qj.mp p;subst e;exact o h ((Sk r _ s).subset (by simp)) h (by simp) rfl
def O7:hs.Nodup->∀k f,(X1 hs)[k]?=some f->∀l∈f,∃j:Nat,j<k/\(X1 hs)[j]?=some (Xz f l):=by
 refine NI (P:=λhs=>hs.Nodup->∀k f,(X1 hs)[k]?=some f->∀l∈f,∃j,j<k/\(X1 hs)[j]?=some (Xz f l)) (λ_ k f e l p=>?_) (λr h x y k f e l p=>?_) hs
 ·have:f=[]:=by
   have:=Qe e
   simpa [X1]using this
  subst this;cases p
 ·obtain⟨w,_,A⟩:=QG.mp y;rw[TQ]at e ⊢;by_cases B:k<(X1 r).length
  ·rw[Qs B]at e;obtain⟨j,g,o⟩:=x w k f e l p;exact⟨j,g,by rw[Qs (by lia)];exact o⟩
  ·rw[Qx (by lia),WY]at e;cases q:(X1 r)[k-(X1 r).length]? with
   |none=>rw[q]at e;cases e
   |some n=>
    rw[q]at e;cases e
    have C:=λz=>A h ((Sk r n<|Qe q).subset z) h (by simp) rfl;by_cases u:l=h
    ·subst u
     have v:Xz (n++[l]) l=n:=by
      rw[Mt,Zac C];simp[Xz]
     obtain⟨j,g,o⟩:=Q9.mp (Qe q);refine⟨j,by lia,?_⟩;rw[Qs g,v,WJ g,o]
    ·have s:l∈n:=by
      rcases Qi.mp p with z|z
      ·exact z
      ·exact absurd (WN.mp z) u
     have v:Xz (n++[h]) l=Xz n l++[h]:=by
      rw[Mt];congr 1;exact Zac λz=>u (WN.mp z)
     obtain⟨j,g,o⟩:=x w _ n q l s;refine⟨(X1 r).length+j,by lia,?_⟩;rw[Qx (by lia),WY,Nat.add_sub_cancel_left,o,v];rfl
def FH(h:kT a=kT b):a=b:=List.map_inj_right (λ_ _=>Sum.inl.inj) |>.mp h
def MD(hs:ZY)(g:ZX):Prop:=∀f:ZY,f.Sublist hs->f≠[]->∃l∈f,∀b∈f,(l,b)∉g
structure Tab (ws:ZX) (c:Int->Int->Int) (S:List (ZY)) (kvs:List (List Key×V)):Prop where
 keys:kvs.map (·.1)=S.map kT
 val:∀ms∈S,∃v,Xy kvs (kT ms)=some (.int v)/\KA ws c ms v
def Zrj(f:ZX)(c:Int->Int->Int):Tab f c [[]] [([],.int 0)]:=by
 refine⟨rfl,λl h=>?_⟩;rw[WN.mp h];refine⟨0,rfl,⟨[],.refl _,.nil,rfl⟩,λo g _=>?_⟩;rw[g.eq_nil];exact QU _
def Tab.put {S f h v} (T:Tab l c S f) (r:h∉S) (L:KA l c h v):Tab l c (S++[h]) (putK f (kT h)<|.int v):=by
 have no:Xy f (kT h)=none:=by
  cases e:Xy f (kT h)with
  |none=>rfl
  |some u=>
   unfold Xy at e;cases q:f.find? (λp=>decide (p.1=kT h))with
   |none=>rw[q]at e;cases e
   |some x=>
    have s:=List.find?_some q;have o:x.1∈f.map (·.1):=Qj.mpr ⟨x,(List.mem_of_find?_eq_some q),rfl⟩;rw[T.keys,WM s]at o;obtain⟨n,g,w⟩:=Qj.mp o;rw[FH w]at g;exact absurd g r
 constructor
 ·rw[Zcl _ no,Qb,Qb,T.keys];rfl
 ·intro n g;rw[SR];by_cases e:n=h
  ·grind
  ·rw[WO λz=>e (FH z)];rcases Qi.mp g with z|z
   ·exact T.val n z
   ·exact absurd (WN.mp z) e
open Classical in
def Ij{n:ZY}{P:Int->Int->Prop}(h:∀l∈n,∃v,P l v):∃f:Int->Int,∀l∈n,P l (f l):=
 ⟨λl=>if g:l∈n then Classical.choose (h l g)else 0,λl g=>by
  simp only[dif_pos g];exact Classical.choose_spec (h l g)⟩
def Zl1{r}(R:Ring o (l.map λq=>(q.2,q.1)) r):Ring o l r.reverse:=by
 have n:∀{x y:Int},(x,y)∈(l.map λq=>(q.2,q.1))->(y,x)∈l:=λh=>by
  obtain⟨q,hq,e⟩:=Qj.mp h;cases e
  exact hq
 refine⟨by rw[VS];exact R.two,List.pairwise_reverse.mpr (R.nodup.imp λh=>Ne.symm h),λx hx=>R.sub x (List.mem_reverse.mp hx),λi x y g f=>?_,λx y g f=>?_⟩
 ·have p:i+1<r.length:=by
   have:=(Qq.mp f).1
   rw[VS]at this;exact this
  rw[Jz (by lia)]at g f;exact n (R.chain (r.length-1-(i+1)) y x f<|by rw[←g];congr 1;lia)
 ·have two:=R.two;rw[Jz (by lia)]at g;rw[VS,Jz (by lia)]at f;exact n (R.last y x (by rw[←f];congr 1;lia)<|by rw[←g];congr 1)
def GR{ws}(l:∀q∈ws,q.1≠q.2)(h:¬ ∃r,Ring hs ws r):MD hs ws:=λg o f=>by
 refine Qt λz=>h ?_
 have s:∀x∈g,∃y∈g,(y,x)∈(ws.map λq=>(q.2,q.1)):=λx hx=>by
  grind
 obtain⟨r,R⟩:=Cu (λq hq=>by
  obtain⟨p,n,e⟩:=Qj.mp hq;subst e;exact λe=>l p n e.symm) f s
 have F:=Zl1 R;exact⟨_,F.two,F.nodup,λx hx=>o.subset (F.sub x hx),F.chain,F.last⟩
theorem GM:∀{f:List (List Key×V)},(f.map (·.1)).Nodup->∀p∈f,Xy f p.1=some p.2
 |[],_,p,h=>by cases h
 |q::r,g,p,h=>by
  rw[Qh,Qv]at g;rcases WX.mp h with e|h
  ·rw[e];exact PL rfl
  ·rw[PH λe=>g.1 (Qj.mpr ⟨p,h,e.symm⟩)];exact GM g.2 p h
def TabV(g:ZX)(c:Int->Int->Int)(S:List (ZY))(vs:ZY):Prop:=vs.length=S.length/\∀(i:Nat) (f:ZY) (v:Int),S[i]?=some f->vs[i]?=some v->KA g c f v
def Tab.vals {S f} (T:Tab s c S f) (z:S.Nodup):∃vs,f.map (·.2)=vs.map V.int/\TabV s c S vs:=by
 have y:(f.map (·.1)).Nodup:=by
  rw[T.keys];exact List.Pairwise.map _ (λa b r e=>r (FH e)) z
 have x:∀p∈f,∃g∈S,p.1=kT g/\∃v,p.2=.int v/\KA s c g v:=λp l=>by
  have o:p.1∈f.map (·.1):=Qj.mpr ⟨p,l,rfl⟩;rw[T.keys]at o;obtain⟨g,w,e⟩:=Qj.mp o;obtain⟨v,h,n⟩:=T.val g w;rw[e,GM y p l]at h;exact⟨g,w,e.symm,v,Qc h,n⟩
 have C:f.length=S.length:=by
  have:=Q4 List.length T.keys
  rw[WI,WI]at this;exact this
 refine⟨f.map λp=>match p.2 with | .int v=>v|_=>0,?_,by rw[WI,C],λi g v o h=>?_⟩
 ·rw[Qy];refine Vw λp l=>?_;obtain⟨g,_,_,v,e,_⟩:=x p l;show p.2=V.int (match p.2 with | .int v=>v|_=>0)
  rw[e]
 ·rw[WY]at h;cases q:f[i]? with
  |none=>rw[q]at h;cases h
  |some p=>
   obtain⟨A,B,E,u,H,L⟩:=x p (Qe q);have n:(f.map (·.1))[i]?=some p.1:=by rw[WY,q];rfl
   rw[T.keys,WY,o]at n;have G:=FH ((Qc n).trans E);simp_all
theorem LD:∀{kvs}{vs:ZY},kvs.map (·.2)=vs.map V.int->Sz kvs=true/\kvs.map (λp=>vD p.2)=vs.map D.int
 |[],[],_=>⟨rfl,rfl⟩
 |p::r,v::vs,h=>by
  rw[Qh,Qh,J7]at h;obtain⟨g,f⟩:=LD h.2;unfold Sz;rw[g,Qh,Qh,f,h.1];trivial
structure K5 (ws:ZX) (c:Int->Int->Int) (ms o:ZY):Prop where
 perm:o.Perm ms
 keeps:Keeps ws o
 le:∀p:ZY,p.Perm ms->Keeps ws p->oc c o<=oc c p
 first:∀p:ZY,p.Perm ms->Keeps ws p->oc c p=oc c o->o=p\/sl o p
def Zoq(g:ZX)(c:Int->Int->Int):K5 g c [] []:=by
 refine⟨.refl _,.nil,λp f _=>?_,λp f _ _=>.inl f.eq_nil.symm⟩;simp_all
def Hj{ms}{vs:Int->Int}{V g}{p}(r:ms.Nodup)(A:∀q∈n,q.1≠q.2)(v:∀l∈ms,KA n c (Xz ms l) (vs l))(G:KA n c ms V)(w:(g::p).Perm ms)(B:Keeps n (g::p))(e:oc c (g::p)=V):g∈ms/\firstM n ms g=true/\vs g+((Xz ms g).map (c g)).sum=V/\p.Perm (Xz ms g)/\oc c p=vs g:=by
 have h:=w.mem_iff.mp (Q7 ..);have u:=(w.trans<|TJ r h).cons_inv;obtain⟨M,y⟩:=Vd.mp B
 have C:=firstM_iff.mpr λb s=>by
  rcases WX.mp ((TJ r h).mem_iff.mp s)with e|E
  ·subst e;exact λz=>A _ z rfl
  ·grind
 have a1:=(v g h).le p u y;obtain⟨o,o1,x,L⟩:=(v g h).is;have a2:=G.le (g::o) ((List.Perm.cons g o1).trans (TJ r h).symm) (Vd.mpr ⟨λb s=>firstM_iff.mp C b (less_sub.subset<|o1.mem_iff.mp s),x⟩);have Q:oc c (g::p)=(p.map<|c g).sum+oc c p:=rfl;have N:oc c (g::o)=(o.map<|c g).sum+oc c o:=rfl;have J:=B4 (f:=c g) u;have H:=B4 (f:=c g) o1
 grind
def Zew{h o}{vs:Int->Int}{V f}(w:h.Nodup)(H:∀q∈n,q.1≠q.2)(s:∀l∈h,KA n c (Xz h l) (vs l))(x:KA n c h V)(u:f∈h)(N:firstM n h f=true)(U:vs f+((Xz h f).map (c f)).sum=V)(M:∀g∈h,firstM n h g=true->vs g+((Xz h g).map (c g)).sum=V->f<=g)(B:K5 n c (Xz h f) o):K5 n c h (f::o):=by
 have Q:oc c o=vs f:=by
  obtain⟨p,r,p2,v⟩:=(s f u).is
  have:=(s f u).le o B.perm B.keeps
  have:=B.le p r p2
  lia
 have Y:=B4 (f:=c f) B.perm
 have e:oc c (f::o)=V:=by
  show(o.map<|c f).sum+oc c o=V;lia
 refine⟨(List.Perm.cons f B.perm).trans (TJ w u).symm,Vd.mpr ⟨λb L=>firstM_iff.mp N b (less_sub.subset<|B.perm.mem_iff.mp L),B.keeps⟩,λp r p2=>?_,λp r p2 v=>?_⟩
 ·rw[e];exact x.le p r p2
 ·cases p with
  |nil=>grind
  |cons g p=>
   obtain⟨G,E,C,A,y⟩:=Hj w H s x r p2 (v.trans e);have J:=M g G E C;by_cases T:f=g
   ·subst T;rcases B.first p A (Vd.mp p2).2 (y.trans Q.symm)with z|z
    ·exact .inl (by rw[z])
    ·exact .inr (sl_cons.mpr z)
   ·exact .inr (.inl<|by lia)
end M
namespace Pu
open L2 Own
section
variable {K:ZW}{mg:Ya}{E:L2.St->XK}{H0 H H1 H':Hp}{B Z Z':Addr->Prop}{σ:L2.St}{γ:Γ}
def O.from:O->O->Prop
 | .ins x _ _ h,.ins g _ _ f=>g=x/\∀c∈h,∃l∈f,l.1=c.1
 | .lsA x _,.lsA g _=>g=x
 | .nsl x h,.nsl g f=>g=x/\f.map (·.1)=h.map (·.1)
 |_,_=>False
def O.from_adr {o o':O}{a} (h:o.from o'):∀b,o.adr a b->o'.adr a b:=by
 unfold O.from at h
 split at h
 ·intro b g;rcases g with g|⟨c,p,g⟩
  ·exact .inl (g.trans h.1.symm)
  ·obtain⟨r,n,l⟩:=h.2 c p;exact .inr ⟨r,n,g.trans l.symm⟩
 ·intro b g;exact g.trans h.symm
 ·intro b g;rcases g with g|⟨c,p,g⟩
  ·exact .inl (g.trans h.1.symm)
  ·have m:=VB (f:=(·.1)) p;rw[←h.2]at m;obtain⟨r,n,l⟩:=Qj.mp m;exact .inr ⟨r,n,g.trans l.symm⟩
 ·grind
def O.from_at {a l}{F n H H'} (h:o.from o') (g:OR K F H a o) (f:OR K n H' l o'):l=a:=by
 unfold O.from at h
 split at h
 ·exact f.1.trans (h.1.trans g.1.symm)
 ·exact f.1.trans (h.trans g.1.symm)
 ·exact f.1.trans (h.1.trans g.1.symm)
 ·grind
abbrev Pw:=O->List S->(O->D->Prop)->(O->Str->Prop)->Prop
noncomputable def S.pass:S->Option S
 | .sh d=>some (.sh d) | .own o=>some (.sh o.d)
 | .bor d=>match imm d with|true=>some (.sh d)|false=>some (.bor d)
 | .tmp d=>match imm d with|true=>some (.sh d)|false=>none
 | .view _=>none
def S.flat:S->Prop
 | .sh _=>True | .bor _=>True|_=>False
noncomputable def passes:List S->Option (List S)
 |[]=>some []
 |s::r=>match s.pass,passes r with|some f,some g=>some (f::g)|_,_=>none
structure After (K:ZW) (B:Addr->Prop) (H:Hp) (a:Addr) (o o':O) (H':Hp):Prop where
 same:Same (off (o.adr a) H) H'
 old:∀b,o.adr a b->o'.adr a b
 new:∀b,o'.adr a b->o.adr a b\/H b=none
 at_:OR K (off (λb=>B b\/o'.adr a b) H') H' a o'
noncomputable def spW(mg:Ya)(c:Pw)(K:ZW):Sp:=λl H Q E=>∃(o:O) (a:Addr) (g:List S) (h:List V) (B:Addr->Prop) (R:O->D->Prop) (X:O->Str->Prop),
 l=.ref a::h/\(∀b,B b->Mut (H b)/\¬o.adr a b)/\OR K (off (λb=>B b\/o.adr a b) H) H a o/\TVs K (λb=>B b\/o.adr a b) (off (o.adr a) H) H H g h/\(∀s∈g,s.flat)/\c o g R X/\
 (∀f d v H',R f d->After K B H a o f H'->Rp K (off (λb=>B b\/f.adr a b) H') d v->Q v H')/\∀f e H',X f e->After K B H a o f H'->XE mg E e H'
def TVs.get:∀{f vs}{i:Nat}{s:S},TVs K Z H0 H H' f vs->f[i]?=some s->∃v,vs[i]?=some v/\TV K Z H0 H H' s v:=by
 intro o
 induction o with
 |nil=>
  intro _ i _ h e;simp at e
 |cons _ _ g=>
  intro _ i d h e;cases h with
  |cons h r=>
   cases i with
   |zero=>
    simp at e;subst e;exact⟨_,rfl,h⟩
   |succ i=>
    obtain⟨v,n,l⟩:=g r (by simpa using e);exact⟨v,by simpa using n,l⟩
noncomputable def Nl(N:Yf)(o:O)(f:List S):Γ:=some (.own o)::(f.map some++List.replicate (N.length-(f.length+1)) none)
def Zrv{o a f us}(T:∀b,B b->Mut (H b)/\¬o.adr a b)(M:OR K (off (λb=>B b\/o.adr a b) H) H a o)(r:TVs K (λb=>B b\/o.adr a b) (off (o.adr a) H) H H f us)(L:∀s∈f,s.flat)(hn:f.length+1<=N.length) :
  Xk K (off (o.adr a) H) B H (start N (.ref a::us)) (Nl N o f):=by
 have get:∀i s,(Nl N o f)[i+1]?=some (some s)->f[i]?=some s:=λi s h=>by
  unfold Nl at h;rw[QH]at h;by_cases p:i<f.length
  ·rw[Qs (by rw[WI];exact p),WY,WJ p]at h;rw[WJ p];exact Q4 some (Qc<|Qc h)
  ·rw[Qx (by rw[WI];lia),VC]at h;split at h<;>cases h
 have noown:∀i g,(Nl N o f)[i+1]?≠some (some<|.own g):=λi g h=>L _ (Qe<|get i _ h)
 have n:(start N (V.ref a::us))[0]?=some (some<|.ref a):=by
  unfold L2.start;rfl
 have C:∀b,zof B (Nl N o f) (start N (V.ref a::us)) b->B b\/o.adr a b:=λb z=>by
  rcases z with z|⟨i,g,a',l,u,U⟩
  ·exact .inl z
  ·cases i with
   |zero=>
    cases u
    have:o=g:=by
     cases l
     rfl
    subst this;exact .inr U
   |succ i=>exact absurd l (noown i g)
 refine⟨off_sub,?_,λb h=>(T b h).1,λi j x Y g w b l u _ _ _ _=>?_,λi s h=>?_⟩
 ·unfold L2.start Nl;simp[r.len]
 ·cases i with
  |succ i=>exact absurd l (noown i g)
  |zero=>
   cases j with
   |zero=>rfl
   |succ j=>exact absurd u (noown j w)
 ·cases i with
  |zero=>
   have h:=h;cases h
   refine⟨_,n,a,rfl,λb Q=>?_,M.mono (Xs (Same.refl _) λb _ _ z y=>z (C b y)) λ_ _ _ q=>q⟩;unfold off;rw[WQ Q]
  |succ i=>
   have J:=get i s h;obtain⟨v,G,A⟩:=r.get J;refine⟨v,?_,?_⟩
   ·unfold L2.start;rw[Qs (by rw[WI,Qf];have:=(Qq.mp G).1;lia),WY,QH,G];rfl
   ·have:=L s (Qe J)
    cases s with
    |bor d=>exact A
    |sh d=>exact Rp.mono (Xs (Same.refl _) λb _ _ z y=>z (C b y)) A
    |_=>exact this.elim
def RL(o:O)(R:O->D->Prop)(γ:Γ)(d:D):Prop:=∃f,γ[0]?=some (some<|.own f)/\o.from f/\R f d
def Znh(o:O)(X:O->Str->Prop)(γ:Γ)(e:Str):Prop:=∃f,γ[0]?=some (some<|.own f)/\o.from f/\X f e
noncomputable def Om(o:O)(R:O->D->Prop)(X:O->Str->Prop):TY:={nx:=λγ=>RL o R γ .non,rt:=λ_=>False,ex:=Znh o X,rv:=RL o R}
def E7{σ'}{γ'}(n:OR K (off (λb=>B b\/o.adr a b) H) H a o)(e:Xk K (off (o.adr a) H) B H' σ' γ')(h:γ'[0]?=some (some<|.own o'))(k:o.from o'):After K B H a o o' H'/\∀b,B b\/o'.adr a b->zof B γ' σ' b:=by
 obtain⟨v,s,f,rfl,r,l⟩:=e.slot 0 _ h;have u:=O.from_at k n l;subst u;have g:∀b,B b\/o'.adr f b->zof B γ' σ' b:=λb z=>z.imp id λz=>⟨0,o',f,h,s,z⟩;refine⟨⟨e.same,O.from_adr k,λb p=>?_,l.mono (Xs (Same.refl _) λb _ _ z y=>z (g b y)) λ_ _ _ q=>q⟩,g⟩
 have:=r b p
 unfold off at this;by_cases q:o.adr f b
 ·exact .inl q
 ·grind
def Zkj{t p vs Q Y n}(h:spW mg c K vs H Q Y)(L:Xu K mg (λ_=>Y) t p)(hn:n+1<=N.length)(M:∀o u R X,c o u R X->u.length=n/\p (Om o R X) (Nl N o u)):t {nx:=λ_ H'=>Q .non H',rt:=Q} (start N vs) H:=by
 obtain⟨o,a,u,us,B,R,X,rfl,U,J,r,hf,hc,T,hX⟩:=h;obtain⟨e,M⟩:=M o u R X hc;refine L _ B H _ _ _ _ (λb z=>?_) (Zrv U J r hf<|by rw[e];exact hn) M ⟨λl s H' C G f1=>?_,λ_ _ _ z=>z.elim,λl s c H' C G f1=>?_,λ_ _ _ z=>z.elim,λ_ _ _ z=>z.elim,λl s d v H' C G f1 rd=>?_⟩
 ·obtain⟨g,f⟩:=U b z;obtain⟨x,hx⟩:=Tw g;exact⟨x,XQ hx f⟩
 ·obtain⟨A,g,f,w⟩:=C;exact T A .non .non H' w (E7 J G g f).1 .non
 ·obtain⟨A,g,f,w⟩:=C;exact hX A c H' w (E7 J G g f).1
 ·obtain⟨A,g,f,w⟩:=C;obtain⟨k1,k2⟩:=E7 J G g f;exact T A d v H' w k1 (Rp.mono (Xs (Same.refl _) λb _ _ z y=>z (k2 b y)) rd)
def Zgg(h:spW mg c K vs H Q s)(g:∀o f R X,c o f R X->f.length=n):vs.length=n+1:=by
 obtain⟨o,a,f,p,B,R,X,rfl,_,_,r,_,l,_⟩:=h;rw[Qf,r.len,g o f R X l]
abbrev PTW:=Γ->(Γ->D->Prop)->(Γ->Str->Prop)->Prop
def PU(K:ZW)(mg:Ya)(E:L2.St->XK)(t:TE)(p:PTW):Prop:=∀(H0:Hp) (B:Addr->Prop) (H:Hp) (σ:L2.St) (γ:Γ) (R:Γ->D->Prop) (X:Γ->Str->Prop) (Q:VK),(∀b,B b->∃o,H0 b=some o)->Xk K H0 B H σ γ->p γ R X->
 (∀f d v H',R f d->Xk K H0 B H' σ f->Fr B H σ γ H' σ f->Rp K (off (zof B f σ) H') d v->Q v H')->(∀f c H',X f c->Xk K H0 B H' σ f->Fr B H σ γ H' σ f->XE mg (E σ) c H')->t σ H Q
variable {te:TE}{w:PTW}
noncomputable def Zfk(w:PTW)(g:PTG):PTS:=λR γ=>w γ (λf d=>g (.sh d) f R.nx) R.ex
def Zgb(hw:PU K mg E te w)(s:TN K M g r):Xu K mg E (N5 te g) (Zfk w r):=by
 intro H0 B H σ γ R D x o h e;refine hw H0 B H σ γ _ _ _ x o h (λf d v H1 z J f1 p=>?_) λf c H' u L C=>e.ex σ f c H' u L C;exact s H0 B H1 H1 σ f (.sh d) v _ _ J (Same.refl _) p z λl n y G A _=>e.nx l n H1 y G (f1.trans A)
noncomputable def Zru(w:PTW):PTS:=λR γ=>w γ (λf _=>R.nx f) R.ex
def Nh(hw:PU K mg E te w):Xu K mg E (TK te) (Zru w):=by
 intro H0 B H σ γ R D n g h e;exact hw H0 B H σ γ _ _ _ n g h (λf d v H1 o r f1 _=>e.nx σ f H1 o r f1) λf c H' l s p=>e.ex σ f c H' l s p
noncomputable def Zlk(w:PTW):PTS:=λR γ=>w γ R.rv R.ex
def Tc(hw:PU K mg E te w):Xu K mg E (NH te) (Zlk w):=by
 intro H0 B H σ γ R D o g h e;exact hw H0 B H σ γ _ _ _ o g h (λf d v H1 p s f1 l=>e.rv σ f d v H1 p s f1 l) λf c H' n u r=>e.ex σ f c H' n u r
noncomputable def Za1(a:PTE):PTS:=λR γ=>a γ (λs=>match s.shd with|some d=>R.rv γ d|none=>False) (R.ex γ)
def Sa(r:Xf K mg E te a):Xu K mg E (NH te) (Za1 a):=by
 intro H0 B H σ γ R D x f h e;refine r H0 B H σ γ _ _ _ f h (λs v H1 l g o=>?_) λc H' p n=>e.ex σ γ c H' p (f.grow n) (Fr.grow n);split at l
 ·rename_i d u;exact e.rv σ γ d v H1 l (f.grow g) (Fr.grow g) (o.shd (f.grow g).same f.zm g u)
 ·grind
def Zl2{s f:S}(h:s.pass=some f):f.flat:=by
 cases s with
 |bor d=>unfold S.pass at h;cases q:imm d<;>simp[q]at h<;>subst h<;>trivial
 |tmp d=>
  unfold S.pass at h;cases q:imm d<;>simp[q]at h
  subst h;trivial
 |view o=>cases h
 |_=>cases h;trivial
theorem B9:∀{g f:List S},passes g=some f->∀s∈f,s.flat
 |[],_,h=>by cases h;simp
 |s::r,_,h=>by
  unfold passes at h;split at h
  ·rename_i o p n l;cases h
   intro x hx;rcases WX.mp hx with rfl|hx
   ·exact Zl2 n
   ·exact B9 l x hx
  ·grind
def TV.pass {v P W f} (p:Same H0 H') (l:∀b,Z b->Mut (H b)) (u:Same H H') (n:Same H0 (off P f)) (hs:Same (off Z H') (off W f)) (h:TV K Z H0 H H' s v) (e:s.pass=some g):TV K W (off P f) f f g v:=by
 have shd:∀d,s.shd=some d->Rp K (off W f) d v:=λd r=>Rp.mono hs (h.shd p l u r);cases s with
 |view o=>cases e
 |tmp d=>
  unfold S.pass at e;cases q:imm d with
  |false=>simp_all
  |true=>simp[q]at e;subst e;exact shd d (by unfold S.shd;simp[q])
 |bor d=>
  unfold S.pass at e;cases q:imm d with
  |false=>simp[q]at e;subst e;exact Rp.mono n h
  |true=>simp[q]at e;subst e;exact shd d (by unfold S.shd;simp[q])
 |_=>cases e;exact shd _ rfl
theorem TVs.pass {HB} (o:Same H0 H') (l:∀b,Z b->Mut (H b)) (p:Same H H') (n:Same H0 (off P HB)) (hs:Same (off Z H') (off W HB)):∀{g f}{vs:List V},TVs K Z H0 H H' g vs->passes g=some f->TVs K W (off P HB) HB HB f vs
 |_,_,_,.nil,e=>by cases e;exact .nil
 |_,_,_,.cons h r,e=>by
  unfold passes at e;split at e
  ·rename_i v x u s;cases e
   exact .cons (h.pass o l p n hs u) (TVs.pass o l p n hs r s)
  ·grind
def AW{c:Pw}{i:Nat}{o:O}{a:Addr}{ss l:List S}{us:List V}{R:Γ->D->Prop}{X:Γ->Str->Prop}{Q:VK}{Ec:XK}(env:Xk K H0 B H σ γ)(hB:∀b,B b->∃o,H0 b=some o)(U:Same H H1)(L:γ[i]?=some (some<|.own o))(G:σ[i]?=some (some<|.ref a))(t1:TVs K (zof B γ σ) H0 H H1 ss us)(hp:passes ss=some l)(hc:c o l (λo' d=>R (γ.set i<|some<|.own o') d) (λo' e=>X (γ.set i<|some<|.own o') e))(q:∀f d v H',R f d->Xk K H0 B H' σ f->Fr B H σ γ H' σ f->Rp K (off (zof B f σ) H') d v->Q v H')(qx:∀f c H',X f c->Xk K H0 B H' σ f->Fr B H σ γ H' σ f->XE mg Ec c H'):spW mg c K (.ref a::us) H1 Q Ec:=by
 have g:=env.grow U;obtain⟨v,h1,T,ev,h3,h4⟩:=g.slot i _ L;rw[G]at h1;cases h1
 cases ev
 have Y:∀b,o.adr a b->zof B γ σ b:=λb p=>.inr ⟨i,o,a,L,G,p⟩
 have J:∀o' H',After K (λb=>zof B γ σ b/\¬o.adr a b) H1 a o o' H'->Xk K H0 B H' σ (γ.set i<|some<|.own o')/\Fr B H σ γ H' σ (γ.set i<|some<|.own o')/\∀b x,H' b=some x->¬((zof B γ σ b/\¬o.adr a b)\/o'.adr a b)->¬zof B (γ.set i<|some<|.own o') σ b:=λo' H' A=>by
  have C:∀b x,H' b=some x->¬((zof B γ σ b/\¬o.adr a b)\/o'.adr a b)->¬zof B (γ.set i<|some<|.own o') σ b:=λb x _ n z=>by
   rcases z with z|⟨j,fs,T,e1,M,N⟩
   ·refine n (.inl ⟨.inl z,λw=>?_⟩);obtain⟨u,hu⟩:=hB b z;rw[h3 b w]at hu;cases hu
   ·rcases XN e1 with⟨ej,q,_⟩|⟨nj,q⟩
    ·subst ej;cases q
     rw[G]at M;cases M
     exact n (.inr N)
    ·exact n (.inl ⟨.inr ⟨j,fs,T,q,M,N⟩,λw=>nj (env.own j i T a fs o b q L M G N w)⟩)
  obtain⟨s,r⟩:=g.change (o':=o') (H':=H') L G (λb x hx n=>A.same b x (XQ hx n)) (λb p=>A.at_.mut b (A.old b p)) A.new (A.at_.mono (Xs (Same.refl _) λb x hx z=>C b x hx z) λ_ _ _ q=>q);exact⟨s,(Fr.grow U).trans r,C⟩
 refine⟨o,a,l,us,λb=>zof B γ σ b/\¬o.adr a b,_,_,rfl,λb p=>⟨g.zm b p.1,p.2⟩,h4.mono (Xs (Same.refl _) λb _ _ z y=>z (y.elim (λy=>y.1)<|Y b)) λ_ _ _ q=>q,?_,B9 hp,hc,λo' d v H' hR A rd=>?_,λo' e H' hX A=>?_⟩
 ·refine t1.pass g.same env.zm U (λb x hx=>XQ (g.same b x hx) λw=>?_) (Xs (Same.refl _) λb _ _ z y=>z (y.elim (λy=>y.1)<|Y b)) hp;rw[h3 b w]at hx;cases hx
 ·obtain⟨s,r,k3⟩:=J o' H' A;exact q _ d v H' hR s r (Rp.mono (λb x h=>let ⟨p1,p2⟩:=Pn h;XQ p1 (k3 b x p1 p2)) rd)
 ·obtain⟨s,r,_⟩:=J o' H' A;exact qx _ e H' hX s r
noncomputable def Zsv(i:Nat)(c:Pw)(r:PTA):PTW:=λγ R X=>match γ[i]? with
 |some (some<|.own o)=>r γ (λh=>match passes h with|some f=>c o f (λg d=>R (γ.set i<|some<|.own g) d) (λg e=>X (γ.set i<|some<|.own g) e)|none=>False) (X γ)
 |_=>False
noncomputable def Gk(i:Nat)(c:Pw)(r:PTA):PTW:=λγ R X=>match γ[i]? with
 |some (some<|.own o)=>r γ (λg=>match passes g with|some f=>c o f (λh d=>R (γ.set i<|some<|.own h) d) (λ_ _=>False)|none=>False) (X γ)
 |_=>False
def O1(i:Nat){c g r}(C:X4 K mg E g r):PU K mg E (Nf (spW mg c K) [] E0<|XW (Kk i) g) (Gk i c r):=by
 intro H0 B H σ γ R X Q J f h q A;unfold Gk at h;split at h
 ·rename_i o n;obtain⟨v,l,a,rfl,_,_⟩:=f.slot i _ n;refine⟨_,l,C H0 B H σ γ _ _ _ f h (λN u H1 p M x=>?_) λc H' G s=>A γ c H' G (f.grow s) (Fr.grow s)⟩;show spW mg c K ((V.ref a::u)++[]) H1 Q E0;rw[Q8];split at p
  ·rename_i y L;exact AW (X:=λ_ _=>False) f J M n l x L p q λ_ _ _ z=>z.elim
  ·grind
 ·grind
def OM(C:Addr)(xs:Yf)(j:Nat):S->(S->Prop)->Prop
 | .view (.ins _ g f l),R=>g=C/\f=xs/\∃c,l[j]?=some c/\R (.view<|.lst c.2)
 | .bor (.ins g f h),R=>g=C/\f=xs/\∃d,h[j]?=some d/\R (arg d)
 |_,_=>False
noncomputable def Zoy(C:Addr)(xs:Yf)(j:Nat)(a:PTE):PTE:=λγ R X=>a γ (λs=>OM C xs j s R) X
def Rp.ins_inv (h:Rp K H (.ins C xs ds) v):∃a f vs,v=.ref a/\H a=some (.ins C f<|xs.zip vs)/\xs.length=vs.length/\Rps K H ds vs:=by
 cases h with
 |ins h e r=>grind
def FldAt(f:Str)(xs:Yf)(j:Nat):Prop:=∀g:List V,xs.length=g.length->(xs.zip g).lookup f=g[j]?
def T7(j:Nat){a}(L:Cls K C)(G:NoAttr K C f)(J:FldAt f xs j)(ha:Xf K mg E te a):Xf K mg E (BO K te f) (Zoy C xs j a):=by
 intro H0 B H σ γ R X Q l p q qx;refine ha H0 B H σ γ _ X _ l p (λs v H1 h z A=>?_) qx;have g:=l.grow z;unfold OM at h;split at h
 ·rename_i x C' n cs;obtain⟨rfl,rfl,c,M,o⟩:=h;obtain⟨b,rfl,T,N,⟨y,r⟩,e4,e5⟩:=A;obtain⟨U,u1,Y⟩:=e4 c (Qe M);refine⟨b,_,y,_,_,rfl,r,L,G,?_,q _ _ H1 o z ⟨c.1,rfl,U,u1,Y⟩⟩;rw[J _ (by grind),WY,M];rfl
 ·rename_i C' n ds;obtain⟨rfl,rfl,d,ed,o⟩:=h;obtain⟨b,y,vs,rfl,T,N,r⟩:=Rp.ins_inv A;obtain⟨u,hu,ru⟩:=r.get ed;refine⟨b,_,y,_,u,rfl,g.same _ _ T,L,G,by rw[J _ N];exact hu,q _ _ H1 o z (N3 g.zm g.same ru)⟩
 ·exact h.elim
noncomputable def L7(C:Addr)(xs:Yf)(c:Pc)(a:PTE)(r:PTA):PTE:=λγ R X=>a γ (λs=>match s.d with
 | .ins g f l=>g=C/\f=xs/\r γ (λh=>c (.ins g f l::h.map S.d) (λs=>R s.back) X) X
 |_=>False) X
def NoFld(m:Str)(xs:Yf):Prop:=∀f:List V,(xs.zip f).lookup m=none
noncomputable def RG(C:Addr)(m:Str)(sp:Sp)(E:L2.St->XK)(g:TE)(t:TA):TE:=λσ H Q=>g σ H λx H1=>∃a h fs,x=.ref a/\H1 a=some (.ins C h fs)/\fs.lookup m=none/\t σ H1 λf l=>sp (x::(f++[])) l Q (E σ)
def Zr4{m xs c z a r}(hx:NoFld m xs)(ha:Xf K mg E te a)(T:X4 K mg E z r):Xf K mg E (RG C m (Xl mg c K) E te z) (L7 C xs c a r):=by
 intro H0 B H σ γ R X Q h p q y;refine ha H0 B H σ γ _ X _ h p (λs v H1 o n M=>?_) y;have f:=h.grow n;split at o
 ·rename_i C' A ds ed;obtain⟨rfl,rfl,o⟩:=o;have x:=M.rp f.same;rw[ed]at x;obtain⟨b,dx,G,rfl,e1,e2,e3⟩:=Rp.ins_inv x;refine⟨b,dx,_,rfl,e1,hx G,T H0 B H1 σ γ _ X _ f o (λss us H2 h2 l L=>?_) λc H' Y S'=>y c H' Y (n.trans S')⟩;have g:=f.grow l;rw[Q8];refine⟨_,_,X,Rps.cons (Rp.mono l x) (L.rps g.same),h2,λs v H' N u J=>q _ _ H' N ((n.trans l).trans u) (J.back g (n.trans l) u),λe H' U u=>y e H' U ((n.trans l).trans u)⟩
 ·grind
def BK{m xs c g a r f}(hx:NoFld m xs)(l:Xf K mg (λ_=>f) te a)(h:X4 K mg (λ_=>f) g r):Xf K mg (λ_=>f) (Np C m (Xl mg c K) [] f te g) (L7 C xs c a r):=Zr4 hx l h
noncomputable def Zen(C:Addr)(xs:Yf)(c:Pc)(a:PTE)(r:PTA):PTE:=λγ R X=>a γ (λs=>match s.d with
 | .ins g f l=>g=C/\f=xs/\r γ (λh=>c (.ins g f l::h.map S.d) (λs=>R s.back) λ_=>False) X
 |_=>False) X
def X5{m xs c x a r}(hx:NoFld m xs)(ha:Xf K mg E te a)(U:X4 K mg E x r):Xf K mg E (Np C m (Xl mg c K) [] E0 te x) (Zen C xs c a r):=by
 intro H0 B H σ γ R X Q h p q y;refine ha H0 B H σ γ _ X _ h p (λs v H1 l o N=>?_) y;have f:=h.grow o;split at l
 ·rename_i C' G ds ed;obtain⟨rfl,rfl,l⟩:=l;have u:=N.rp f.same;rw[ed]at u;obtain⟨b,dx,J,rfl,e1,e2,e3⟩:=Rp.ins_inv u;refine⟨b,dx,_,rfl,e1,hx J,U H0 B H1 σ γ _ X _ f l (λss us H2 h2 n M=>?_) λc H' Y S'=>y c H' Y (o.trans S')⟩;have g:=f.grow n;rw[Q8];exact⟨_,_,_,Rps.cons (Rp.mono n u) (M.rps g.same),h2,λs v H' T A L=>q _ _ H' T ((o.trans n).trans A) (L.back g (o.trans n) A),λ_ _ z=>z.elim⟩
 ·grind
noncomputable def D9(i:Nat)(C:Addr)(xs:Yf)(c:Pw)(r:PTA):PTW:=λγ R X=>match γ[i]? with
 |some (some<|.own<|.ins x l f o)=>l=C/\f=xs/\r γ (λn=>match passes n with|some g=>c (.ins x l f o) g (λh d=>R (γ.set i<|some<|.own h) d) (λh e=>X (γ.set i<|some<|.own h) e)|none=>False) (X γ)
 |_=>False
def Zf9(i:Nat){C m xs c g r}(hx:NoFld m xs)(A:X4 K mg E g r):PU K mg E (RG C m (spW mg c K) E (Kk i) g) (D9 i C xs c r):=by
 intro H0 B H σ γ R X Q J f h q l;unfold D9 at h;split at h
 ·rename_i x C' u cs o;obtain⟨rfl,rfl,h⟩:=h;obtain⟨v,n,a,rfl,_,e1,e2,⟨N,M⟩,e4⟩:=f.slot i _ o;refine⟨_,n,a,N,_,rfl,M,hx _,A H0 B H σ γ _ _ _ f h (λY U H1 p T y=>?_) λc H' G s=>l γ c H' G (f.grow s) (Fr.grow s)⟩;rw[Q8];split at p
  ·rename_i z L;exact AW f J T o n y L p q l
  ·grind
 ·grind
def BI(i:Nat){C m xs c g r f}(hx:NoFld m xs)(h:X4 K mg (λ_=>f) g r):PU K mg (λ_=>f) (Np C m (spW mg c K) [] f (Kk i) g) (D9 i C xs c r):=Zf9 i hx h
noncomputable def Ln(i:Nat)(C:Addr)(xs:Yf)(c:Pw)(r:PTA):PTW:=λγ R X=>match γ[i]? with
 |some (some<|.own<|.ins x h f o)=>h=C/\f=xs/\r γ (λl=>match passes l with|some g=>c (.ins x h f o) g (λn d=>R (γ.set i<|some<|.own n) d) (λ_ _=>False)|none=>False) (X γ)
 |_=>False
def Ss(i:Nat){C m xs c g r}(hx:NoFld m xs)(G:X4 K mg E g r):PU K mg E (Np C m (spW mg c K) [] E0 (Kk i) g) (Ln i C xs c r):=by
 intro H0 B H σ γ R X Q L f h q A;unfold Ln at h;split at h
 ·rename_i x C' s cs n;obtain⟨rfl,rfl,h⟩:=h;obtain⟨v,l,a,rfl,_,e1,e2,⟨T,N⟩,e4⟩:=f.slot i _ n;refine⟨_,l,a,T,_,rfl,N,hx _,G H0 B H σ γ _ _ _ f h (λss Y H1 o U u=>?_) λc H' J p=>A γ c H' J (f.grow p) (Fr.grow p)⟩;rw[Q8];split at o
  ·rename_i y M;exact AW (X:=λ_ _=>False) f L U n l u M o q λ_ _ _ z=>z.elim
  ·grind
 ·grind
theorem DU{g:Type}:∀{l:List g}{i j:Nat}{x:g},l.Nodup->l[i]?=some x->l[j]?=some x->i=j
 |[],_,_,_,_,h,_=>by simp at h
 |y::r,0,0,_,_,_,_=>rfl
 |y::r,0,j+1,x,f,o,n|y::r,i+1,0,x,f,o,n=>by
  grind
 |y::r,i+1,j+1,x,f,o,n=>Q4 (· + 1) (DU (Qv.mp f).2 (by trivial)<|by grind)
def Xk.cell {f b ds es us} (env:Xk K H0 B H σ γ) (L:γ[i]?=some (some<|.own<|.ins x C xs f)) (s:f[j]?=some (b,ds)) (r:Rps K (off (zof B γ σ) H) es us) :
  Xk K H0 B (upd H b<|.lst us) σ (γ.set i<|some<|.own<|.ins x C xs<|f.set j (b,es))/\Fr B H σ γ (upd H b<|.lst us) σ (γ.set i<|some<|.own<|.ins x C xs<|f.set j (b,es)):=by
 obtain⟨v,Y,a,rfl,e0,e1,e2,⟨dx,e3⟩,e4,e5⟩:=env.slot i _ L;subst e1;have l:=Qe s
 have M:a≠b:=λz=>by
  obtain⟨T,o,_⟩:=e4 _ l;rw[←show a=b from z,e3]at o
  cases o
 have em:(f.set j (b,es)).map (·.1)=f.map (·.1):=by
  apply Jn;intro k;rw[WY,WY,JQ];by_cases e:j=k
  ·subst e;rw[WQ rfl,WQ ((Qq.mp s).1),s];rfl
  ·rw[WO e]
 have N:(f.set j (b,es)).map (λc=>V.ref c.1)=f.map λc=>V.ref c.1:=by
  have:=Q4 (List.map V.ref) em
  rw[Qy,Qy]at this;exact this
 have adr:∀c,(O.ins a C xs<|f.set j (b,es)).adr a c->(O.ins a C xs f).adr a c:=λc g=>by
  rcases g with g|⟨d,hd,g⟩
  ·exact .inl g
  ·have:d.1∈(f.set j (b,es)).map (·.1):=VB hd
   rw[em]at this;obtain⟨d',A,p⟩:=Qj.mp this;exact .inr ⟨d',A,g.trans p.symm⟩
 have y:∀c,(O.ins a C xs f).adr a c->zof B γ σ c:=λc g=>.inr ⟨i,_,a,L,Y,g⟩
 have So:Same (off (zof B γ σ) H) (off (zof B (γ.set i<|some<|.own<|.ins a C xs<|f.set j (b,es)) σ)<|upd H b<|.lst us):=λc u h=>by
  obtain⟨A,p⟩:=Pn h;have G:=λz=>p (y c<|.inr ⟨_,l,z⟩);refine XQ (by rw[Xx G];exact A) λz=>p ?_;rcases z with z|⟨k,fs,a',k1,k2,U⟩
  ·exact .inl z
  ·rcases XN k1 with⟨Q,q,_⟩|⟨_,q⟩
   ·subst Q;cases q
    exact y c (adr c U)
   ·exact .inr ⟨k,fs,a',q,k2,U⟩
 refine env.change L Y (λc u hu n=>?_) (λc g=>?_) (λc g=>.inl (adr c g)) ⟨rfl,by rw[QJ];exact e2,⟨dx,?_⟩,λc g=>?_,by rw[em];exact e5⟩
 ·rw[Xx λz=>n (.inr ⟨_,l,z⟩)];exact hu
 ·by_cases z:c=b
  ·rw[z,X9];trivial
  ·rw[Xx z];exact env.zm c (y c g)
 ·rw[Xx M,N];exact e3
 ·obtain⟨k,hk,Q⟩:=JE g;have J:(f.set j (b,es))[k]?=some c:=by rw[WJ hk,Q]
  rcases XN J with⟨_,q,_⟩|⟨nk,q⟩
  ·subst q;exact⟨us,X9,Rps.mono So r⟩
  ·obtain⟨T,o,w2⟩:=e4 c (Qe q)
   have G:=λz=>nk (by
    have h1:(f.map (·.1))[k]?=some b:=by rw[WY,q];exact Q4 some z
    have h2:(f.map (·.1))[j]?=some b:=by rw[WY,s];rfl
    exact DU e5 h1 h2)
   exact⟨T,by rw[Xx G];exact o,Rps.mono So w2⟩
noncomputable def G5(i j:Nat)(C:Addr)(xs:Yf)(a:PTE):PTW:=λγ R X=>match γ[i]? with
 |some (some<|.own<|.ins x h f g)=>h=C/\f=xs/\∃c,g[j]?=some c/\a γ (λs=>match s.shd with
  |some d=>c.2.length<10000000/\R (γ.set i<|some<|.own<|.ins x h f<|g.set j (c.1,c.2++[d])) .non
  |none=>False) (X γ)
 |_=>False
def AJ(i j:Nat){C f xs a}(p:Cls K C)(hn:NoAttr K C f)(hj:FldAt f xs j)(ha:Xf K mg E te a):PU K mg E (tBM K "list" Al (BO K (Kk i) f)<|XW te KH) (G5 i j C xs a):=by
 intro H0 B H σ γ R X Q hB g h q T;unfold G5 at h;split at h
 ·rename_i x C' M cs J;obtain⟨rfl,rfl,c,r,h⟩:=h;obtain⟨v,hv,b,rfl,_,e1,e2,⟨dx,e3⟩,e4,e5⟩:=g.slot i _ J;obtain⟨y,G,A⟩:=e4 c (Qe r);refine⟨_,hv,b,_,dx,_,V.ref c.1,rfl,e3,p,hn,?_,.inl ⟨rfl,y,SqL.of G⟩,ha H0 B H σ γ _ _ _ g h (λs u H1 o n N=>?_) λc H' p L=>T γ c H' p (g.grow L) (Fr.grow L)⟩
  ·rw[hj _ (by grind),WY,r];rfl
  ·have l:=g.grow n;split at o
   ·rename_i d ed;refine⟨c.1,y,u,rfl,rfl,n _ _ G,by rw[A.len];exact V0 o.1 (by decide),?_⟩;obtain⟨Y,U⟩:=l.cell J r (Rps.append (Rps.mono (Xs n λ_ _ _ z=>z) A)<|.cons (N.shd l.same g.zm n ed) .nil);exact q _ _ _ _ o.2 Y ((Fr.grow n).trans U) .non
   ·exact o.elim
 ·exact h.elim
noncomputable def RB(i j:Nat)(C:Addr)(xs:Yf):PTW:=λγ R _=>match γ[i]? with
 |some (some<|.own<|.ins x h f g)=>h=C/\f=xs/\∃c d,g[j]?=some c/\c.2[c.2.length-1]?=some d/\R (γ.set i<|some<|.own<|.ins x h f<|g.set j (c.1,c.2.dropLast)) d
 |_=>False
def Rps.dropLast:∀{ds}{vs:List V},Rps K H ds vs->Rps K H ds.dropLast vs.dropLast:=by
 intro ds
 induction ds with
 |nil=>
  intro _ h;cases h
  exact .nil
 |cons _ _ f=>
  intro _ h;cases h with
  |cons h r=>
   cases r with
   |nil=>exact .nil
   |cons c e=>exact .cons h (f<|.cons c e)
def EJ(i j:Nat){C f xs}(N:Cls K C)(L:NoAttr K C f)(M:FldAt f xs j):PU K mg E (Ng K "list" AO<|BO K (Kk i) f) (RB i j C xs):=by
 intro H0 B H σ γ R X Q hB g h q qx;unfold RB at h;split at h
 ·rename_i x C' y cs s;obtain⟨rfl,rfl,c,d,n,T,h⟩:=h;obtain⟨v,G,b,rfl,_,e1,e2,⟨dx,Y⟩,U,e5⟩:=g.slot i _ s;obtain⟨o,p,l⟩:=U c (Qe n);obtain⟨u,J,z⟩:=l.get T;refine⟨_,G,b,_,dx,_,V.ref c.1,rfl,Y,N,L,?_,.inl ⟨rfl,o,SqL.of p⟩,c.1,o,u,rfl,rfl,p,by rw[l.len];exact J,?_⟩
  ·rw[M _ (by grind),WY,n];rfl
  ·obtain⟨A,r⟩:=g.cell s n (Rps.dropLast l);exact q _ _ _ _ h A r (Rp.mono r.off z)
 ·grind
def PutAt(f:Str)(xs:Yf):Prop:=∀(g:List V) (y:V),xs.length=g.length->KO f y (xs.zip g)=(xs++[f]).zip (g++[y])
noncomputable def Zcw(i:Nat)(C:Addr)(f:Str)(xs:Yf)(a:PTE):PTS:=λR γ=>a γ (λs=>match s with
 | .own (.lst l)=>(match γ[i]? with
  |some (some<|.own<|.ins x h g n)=>h=C/\g=xs/\xs.length<1000/\∀b,R.nx (γ.set i<|some<|.own<|.ins x h (xs++[f]) (n++[(b,l)]))
  |_=>False)
 |_=>False) (R.ex γ)
def Cr(i:Nat){C f xs a}(g:Cls K C)(hn:NoAttr K C f)(hp:PutAt f xs)(ha:Xf K mg E te a):Xu K mg E (Gc K (Kk i) te f) (Zcw i C f xs a):=by
 intro H0 B H σ γ R D hB p h e;refine ha H0 B H σ γ _ _ _ p h (λs v H1 G Q t1=>?_) λc H' g S'=>e.ex σ γ c H' g (p.grow S') (Fr.grow S');split at G
 ·rename_i ds;split at G
  ·rename_i x M o r hi;obtain⟨rfl,rfl,hl,G⟩:=G;obtain⟨u,hv,b,rfl,e0,e1,e2,⟨dx,e3⟩,e4,e5⟩:=p.slot i _ hi;subst e1;obtain⟨l,rfl,L,vs,l1,l2⟩:=t1;have L:=L l rfl;refine⟨_,hv,b,_,dx,_,rfl,Q _ _ e3,g,hn,?_,?_⟩
   ·rw[List.length_zip,WI];lia
   ·rw[hp _ _ (by rw[WI];exact e2)]
    have nl:∀c∈r,c.1≠l:=λc g=>by
     obtain⟨ws,J,_⟩:=e4 c g;exact Kz J L
    have nb:∀c∈r,c.1≠b:=λc g z=>by
     obtain⟨ws,J,_⟩:=e4 c g;rw[z,e3]at J;cases J
    have T:∀c,(O.ins b M o r).adr b c->zof B γ σ c:=λc g=>.inr ⟨i,_,b,hi,hv,g⟩
    have key:∀c u,H1 c=some u->¬(zof B γ σ c\/c=l)->¬zof B (γ.set i<|some<|.own<|.ins b M (o++[f]) (r++[(l,ds)])) σ c:=λc u _ n z=>by
     rcases z with z|⟨k,fs,a',k1,N,A⟩
     ·exact n (.inl<|.inl z)
     ·rcases XN k1 with⟨ek,q,_⟩|⟨_,q⟩
      ·subst ek;cases q
       rw[hv]at N;cases N
       rcases A with A|⟨d,hd,A⟩
       ·exact n (.inl<|T c<|.inl A)
       ·rcases Qi.mp hd with hd|hd
        ·exact n (.inl<|T c<|.inr ⟨d,hd,A⟩)
        ·rw[WN]at hd;subst hd;exact n (.inr A)
      ·exact n (.inl<|.inr ⟨k,fs,a',q,N,A⟩)
    have So:Same (off (λc=>zof B γ σ c\/c=l) H1) (off (zof B (γ.set i<|some<|.own<|.ins b M (o++[f]) (r++[(l,ds)])) σ)<|upd H1 b<|.ins M dx ((o++[f]).zip ((r.map λc=>V.ref c.1)++[.ref l]))):=λc u h=>by
     obtain⟨Y,U⟩:=Pn h;exact XQ (by rw[Xx λz=>U (.inl<|T c<|.inl z)];exact Y) (key c u Y U)
    have S0:Same (off (zof B γ σ) H) (off (λc=>zof B γ σ c\/c=l) H1):=Xs Q λc u g z y=>y.elim z λy=>by rw[y,L]at g;cases g
    obtain⟨k1,N⟩:=p.change (o':=.ins b M (o++[f]) (r++[(l,ds)])) (H':=upd H1 b (.ins M dx ((o++[f]).zip ((r.map λc=>V.ref c.1)++[.ref l])))) hi hv
     (λc u hu n=>by rw[Xx λz=>n (.inl z)];exact Q _ _ hu)
     (λc g=>by
      by_cases z:c=b
      ·rw[z,X9];trivial
      ·rw[Xx z];exact(p.grow Q).zm c (T c g))
     (λc g=>by
      rcases g with g|⟨d,hd,g⟩
      ·exact .inl (.inl g)
      ·rcases Qi.mp hd with hd|hd
       ·exact .inl (.inr ⟨d,hd,g⟩)
       ·rw[WN]at hd;subst hd;exact .inr (by rw[show c=l from g];exact L))
     ⟨rfl,by rw[WW,WW,e2];rfl,⟨dx,by rw[X9,Qb];rfl⟩,λc g=>by
      rcases Qi.mp g with g|g
      ·obtain⟨ws,J,w2⟩:=e4 c g;exact⟨ws,by rw[Xx (nb c g)];exact Q _ _ J,Rps.mono So (Rps.mono S0 w2)⟩
      ·rw[WN]at g;subst g;exact⟨vs,by rw[Xx (λz=>(Kz e3 L) z.symm)];exact l1,Rps.mono So l2⟩,by
      rw[Qb,QG]
      exact⟨e5,by simp,λc g d hd z=>by
       obtain⟨c',Y,U⟩:=Qj.mp g
       have:d=l:=by simpa using hd
       exact nl c' Y (U.trans<|z.trans this)⟩⟩
    exact e.nx _ _ _ (G l) k1 N
  ·exact G.elim
 ·exact G.elim
def Zau{c}{M l}{us}{R:S->Prop}{X:XR}{Q:VK}{Ec}(env:Xk K H0 B H σ γ)(p:Same H H1)(T:TVs K (zof B γ σ) H0 H H1 M us)(N:passes M=some l)(h1:∀x,c (.ins x C [] []) l (λo' d=>d=.non/\R (.own o')) (λ_ e=>X e))(q:∀s v H',R s->Same H H'->TV K (zof B γ σ) H0 H H' s v->Q v H')(Y:∀c H',X c->Same H H'->XE mg Ec c H') :
  ∀x h,H1 x=none->H1 h=none->h≠x->spW mg c K (.ref x::us) (upd (upd H1 h<|.own x) x<|.ins C h []) (λv H2=>v=.non/\Q (.ref x) H2) Ec:=by
 have f:=env.grow p;intro x h n J nex
 have u:Same H1 (upd (upd H1 h<|.own x) x<|.ins C h []):=λb o e=>by
  rwa[Xx (Kz e n),Xx (Kz e J)]
 have r:∀o' H',After K (zof B γ σ) (upd (upd H1 h<|.own x) x<|.ins C h []) x (.ins x C [] []) o' H'->Same H1 H'/\∀b,o'.adr x b->H b=none:=λo' H' A=>by
  refine⟨λb o e=>A.same b o (XQ (u b o e) λz=>?_),λb G=>?_⟩
  ·rcases z with z|⟨c,g,_⟩
   ·rw[z,n]at e;cases e
   ·cases g
  ·rcases A.new b G with(z|⟨c,g,_⟩)|z
   ·rw[z];exact p.free n
   ·cases g
   ·exact p.free (u.free z)
 refine⟨.ins x C [] [],x,l,us,zof B γ σ,_,_,rfl,λb G=>⟨Px u (f.zm b G),λz=>?_⟩,⟨rfl,rfl,⟨h,X9⟩,(λc g=>by cases g),Vx⟩,?_,B9 N,h1 x,λo' d v H' L A U=>?_,λo' e H' hX A=>?_⟩
 ·rcases z with z|⟨c,g,_⟩
  ·have:=f.zm b G
   rw[z,n]at this;exact this
  ·cases g
 ·refine T.pass f.same env.zm p (λb o e=>XQ (u _ _<|f.same b o e) λz=>?_) (Xs u λb o e z y=>?_) N
  ·rcases z with z|⟨c,g,_⟩
   ·rw[z,(f.same).free n]at e;cases e
   ·cases g
  ·rcases y with y|y|⟨c,g,_⟩
   ·exact z y
   ·rw[y,n]at e;cases e
   ·cases g
 ·obtain⟨rfl,L⟩:=L;obtain⟨k1,k2⟩:=r o' H' A;exact⟨Rp.non_inv U,q _ _ H' L (p.trans k1) ⟨x,rfl,k2,A.at_⟩⟩
 ·exact Y e H' hX (p.trans (r o' H' A).1)
noncomputable def Za6(C:Addr)(c:Pw)(r:PTA):PTE:=λγ R X=>r γ (λg=>match passes g with|some f=>∀x,c (.ins x C [] []) f (λh d=>d=.non/\R (.own h)) (λ_ _=>False)|none=>False) X
def Zfc{g r}(s:X4 K mg E g r):Xf K mg E (CP C (spW mg c K) [] E0 g) (Za6 C c r):=by
 intro H0 B H σ γ R X Q f p q o;refine s H0 B H σ γ _ X _ f p (λy x H1 h v l=>?_) o;split at h
 ·rename_i n u;rw[Q8];exact Zau f v l u h q λ_ _ z=>z.elim
 ·grind
end
def Be{f:Type}{us:List f}(h:us.length=1):∃a,us=[a]:=List.length_eq_one_iff.mp h
def FY{f:Type}{us:List f}(h:us.length=2):∃a b,us=[a,b]:=by
 cases us with
 |nil=>grind
 |cons a r=>obtain⟨b,rfl⟩:=Be (by simpa using h);exact⟨a,b,rfl⟩
def Ff{f:Type}{us:List f}(h:us.length=3):∃a b c,us=[a,b,c]:=by
 cases us with
 |nil=>grind
 |cons a r=>obtain⟨b,c,rfl⟩:=FY (by simpa using h);exact⟨a,b,c,rfl⟩
def Dz{f:Type}{us:List f}(h:us.length=4):∃a b c d,us=[a,b,c,d]:=by
 cases us with
 |nil=>grind
 |cons a r=>obtain⟨b,c,d,rfl⟩:=Ff (by simpa using h);exact⟨a,b,c,d,rfl⟩
def Zk0{f:Type}{us:List f}(h:us.length=5):∃a b c d e,us=[a,b,c,d,e]:=by
 cases us with
 |nil=>grind
 |cons a r=>obtain⟨b,c,d,e,rfl⟩:=Dz (by simpa using h);exact⟨a,b,c,d,e,rfl⟩
structure X7 (K:ZW) (W:Addr->Prop) (x q:Str) (st:Stmt) (ps:Yf):Prop where
 ex:∃f fd,Fun K x q st f fd/\W f/\Binds K fd ps []
structure PB (P:Program) (w:World) (K:ZW) (mg:Ya) (base:Heap) (CX:CXT) (k:Nat) (W:Addr->Prop) (ps:Yf) (sp:Sp):Prop where
 ex:∃f fd,KL P w K mg base CX k f fd ps sp/\W f/\Binds K fd ps []
section
variable {P:Program}{w:World}{K:ZW}{mg:Ya}{base:Heap}{W:Addr->Prop}
def X7.ok {st N ps k sp} (D:X7 K W x q st ps) (S:Xh N ps (Xg st)) (len:∀vs H Q E,sp vs H Q E->vs.length=ps.length)
  (l:∀f g A outer s H vs Q E,Xv k (A.deeper<|envOfC q (Xg st) s.heap.objs.size f g)->sp vs H Q E->
   ∃t,PSs (XY CX0 P w K mg base N q (Xg st) f g A outer s H E).nox (XS st) t/\t {nx:=λ_ H'=>Q .non H',rt:=Q} (start N vs) H):PB P w K mg base CX0 (k+1) W ps sp:=by
 obtain⟨f,r,F,o,p⟩:=D.ex;exact⟨f,r,F.ok S len λg A outer s H vs Q E n h=>l f g A outer s H vs Q E n h,o,p⟩
def X7.okX {st N ps k sp} (D:X7 K W x q st ps) (S:Xh N ps (Xg st)) (len:∀vs H Q E,sp vs H Q E->vs.length=ps.length)
  (h:∀f g A outer s H vs Q E,Xv k (A.deeper<|envOfC q (Xg st) s.heap.objs.size f g)->sp vs H Q E->
   ∃t,PSs (XY (ExcR.CXe P w) P w K mg base N q (Xg st) f g A outer s H E) (XS st) t/\t {nx:=λ_ H'=>Q .non H',rt:=Q} (start N vs) H):PB P w K mg base (ExcR.CXe P w) (k+1) W ps sp:=by
 obtain⟨f,C,F,u,v⟩:=D.ex;obtain⟨oc,B,kV,y,z,J,g,G,o,rfl,p,n⟩:=F.ex;exact⟨f,_,Cm p n S len λA outer s H vs Q E r l=>h f g A outer s H vs Q E r l,u,v⟩
def TU:Pm (ExcR.CXe P w) X E0:=λ_ _ _ _ _ _ _ h=>by
 obtain⟨a,T,C,f,g,_,_,z⟩:=h
 grind
end
section
variable {X:Cx}{CX:CXT}{k:Nat}{Cc:Addr}{ps:Yf}{sp:Sp}{E:XK}{ES:L2.St->XK}{x m:Str}{p pos apos:Pos}{e o:Expr}{es:Yg}{ta:TE}{t:TA}
def P2{pl}(C:PB X.prog X.w X.K X.mg X.base CX k (X0 X.K Cc m) ps sp)(c:Cls X.K Cc)(r:Xv k X.A)(hx:Pm CX X E)(u:PE X o ta)(y:PA X (e::es) t)(g:autoParam (starEach (e::es) X.env=(false,eval e X.env)::starEach es X.env) au_0)(h:autoParam ((backTo pos<|starEach es X.env).any (·.1)=false) au_0)
  (n:autoParam (eval (.Call (.Attribute o m apos) (e::es) [] pos) X.env=(do
   let l ←eval o X.env
   standAt apos.atName
   let (f,first) ←holding [l] (getMethod l m pl)
   callWith pos f first (backTo pos<|starEach (e::es) X.env) (backToKw pos<|keywordEach [] X.env))) au_0) :
  PE X (.Call (.Attribute o m apos) (e::es) [] pos) (Np Cc m sp [] E ta t):=by
 obtain⟨f,z,F,s,v⟩:=C.ex;exact Zbg u c s F r v .nil hx y g h n
def X3(C:PB X.prog X.w X.K X.mg X.base CX k (X0 X.K Cc m) ps sp)(c:Cls X.K Cc)(l:Xv k X.A)(hx:Pm CX X E)(r:PE X o ta)
  (h:autoParam (eval (.Call (.Attribute o m apos) [] [] pos) X.env=(do
   let g ←eval o X.env
   standAt apos.atName
   let (f,first) ←holding [g] (getMethod g m u)
   callWith pos f first (backTo pos<|starEach [] X.env) (backToKw pos<|keywordEach [] X.env))) au_0) :
  PE X (.Call (.Attribute o m apos) [] [] pos) (Np Cc m sp [] E ta KH):=by
 obtain⟨f,v,F,n,s⟩:=C.ex;exact Ze5 r c n F l s .nil hx h
def Zbn(C:PB X.prog X.w X.K X.mg X.base CX k (Mk X.K Cc) ps sp)(n:X.mg x=some (.ref Cc))(l:Xv (k+1) X.A)(hx:Pm CX X E)(v:PA X (e::es) t)(r:autoParam (Gl X x) au_0)(h:autoParam ((x==("__debug__" : Str))=false) au_1)(s:autoParam (starEach (e::es) X.env=(false,eval e X.env)::starEach es X.env) au_0)(g:autoParam ((backTo pos<|starEach es X.env).any (·.1)=false) au_0) :
  PE X (.Call (.Name x p) (e::es) [] pos) (CP Cc sp [] E t):=by
 obtain⟨f,y,F,M,u⟩:=C.ex;exact Zjw M F l r n u .nil hx v h s g
end
abbrev PTF:=Γ->Str->(Str->Prop)->XR->Prop
section
variable {K:ZW}{mg:Ya}{E:L2.St->XK}{t:ExcR.TF}{p:PTF}{te:TE}{a:PTE}
def SH(K:ZW)(mg:Ya)(E:L2.St->XK)(t:ExcR.TF)(p:PTF):Prop:=∀(n:Hp) (B:Addr->Prop) (H:Hp) (h:L2.St) (l:Γ) (f:Str) (R:Str->Prop) (X:XR) (Q:Str->Hp->Prop),Xk K n B H h l->p l f R X->
 (∀x g,R x->Same H g->Q x g)->(∀c g,X c->Same H g->XE mg (E h) c g)->t h H f Q
noncomputable def Zoe:PTF:=λ_ f R _=>f.length<=sizeLine/\R f
def N8:SH K mg E ExcR.RX Zoe:=λo B H l n f R X Q g h q _=>⟨h.1,q _ H h.2 (Same.refl _)⟩
noncomputable def Zgl(x:Str)(p:PTF):PTF:=λg f R X=>(f++x).length<=sizeLine/\p g (f++x) R X
def PK(h:SH K mg E t p):SH K mg E (ExcR.My x t) (Zgl x p):=λs B H l n r R X Q f g q o=>⟨g.1,h s B H l n _ R X Q f g.2 q o⟩
noncomputable def Zrs(a:PTE)(p:PTF):PTF:=λg f R X=>a g (λs=>match s.d with
 | .int i=>i.natAbs.log2<1920/\(f++(Str.ofString<|toString i)).length<=sizeLine/\p g (f++Str.ofString (toString i)) R X
 | .str x=>x.length<=sizeLine/\(f++x).length<=sizeLine/\p g (f++x) R X
 |_=>False) X
def N1(N:Xf K mg E te a)(h:SH K mg E t p):SH K mg E (ExcR.Lj te t) (Zrs a p):=λC B H w y L R X Q o M q z=>by
 refine N C B H w y _ X _ o M (λs v G g r J=>?_) z;have f:=o.grow r;have u:=J.rp f.same;split at g
 ·rename_i i ei;rw[ei]at u;exact .inl ⟨i,u.int_inv,g.1,g.2.1,h C B G w y _ R X Q f g.2.2 (λx n hx l=>q x n hx (r.trans l)) λc n A l=>z c n A (r.trans l)⟩
 ·rename_i x T;rw[T]at u;exact .inr ⟨x,u.str_inv,g.1,g.2.1,h C B G w y _ R X Q f g.2.2 (λx n hx l=>q x n hx (r.trans l)) λc n A l=>z c n A (r.trans l)⟩
 ·grind
noncomputable def pF(p:PTF):PTE:=λf R X=>p f Str.empty (λx=>R (.sh<|.str x)) X
def NF(h:SH K mg E t p):Xf K mg E (ExcR.tF t) (pF p):=λs B H g l R X Q f o q n=>
 h s B H g l _ _ X _ f o (λx u hx r=>q _ _ u hx r (.str x)) n
end
open M
noncomputable abbrev plD(f:ZX):D:=.lst (f.map prD)
noncomputable abbrev dD(q:Str×ZY):D:=.tup (.str q.1::q.2.map D.int)
noncomputable abbrev vF:Yf:=["book","fields","wished"]
noncomputable abbrev vO(C x b1 b2 g:Addr)(bk:List (Str×ZY))(fs f:List (ZX)):O:=.ins x C vF [(b1,bk.map dD),(b2,fs.map plD),(g,f.map plD)]
noncomputable abbrev KR(C:Addr)(bk:List (Str×ZY))(fs f:List (ZX)):D:=.ins C vF [.lst (bk.map dD),.lst (fs.map plD),.lst (f.map plD)]
def SA{g:Type}(f:g->D)(xs:List g)(x:g):atI ((xs++[x]).map f) (-1)=some (f x):=by
 refine PX ?_;unfold atI ixN;rw[WO (by lia),WQ (by grind)];show(xs++[x])[_]?=some x;have e:((-1:Int)+((xs++[x]).length:Int)).toNat=xs.length:=by grind
 rw[e,Qx (WT _),J8];rfl
def Ka(e:Option Str)(X:Str->Prop)(R:Prop):Prop:=match e with|some c=>X c|none=>R
noncomputable def Sw(h:Int):Option Str:=if 1<=h/\h<=10 then none else some "BadHolder"
noncomputable def Ny:ZX->Option Str
 |[]=>none
 |q::r=>if ¬(1<=q.1/\q.1<=10)then some "BadHolder" else if ¬(1<=q.2/\q.2<=1000)then some "BadWidth" else Ny r
noncomputable def Sx(ps:ZX):Option Str:=if 40<ps.length then some "TooManyStrips" else Ny ps
theorem Ie:∀{ps:ZX},Field ps->Ny ps=none
 |[],_=>rfl
 |q::r,h=>by
  obtain⟨n,l,g,f⟩:=h q Q7;unfold Ny;rw[WO (λz=>z ⟨n,l⟩),WO (λz=>z ⟨g,f⟩)];exact Ie λx hx=>h x (Qo _ hx)
def Zex(h:Field ps)(f:ps.length<=40):Sx ps=none:=by
 unfold Sx;rw[WO (by lia)];exact Ie h
noncomputable def Fp(ps:ZX)(p:Int):Option Str:=if p<1\/(ps.length:Int)<p then some "NoStrip" else none
noncomputable def Xt(ps:ZX)(p:Int):Int×Int:=ps.getD (p-1).toNat (0,0)
noncomputable def KN(ps:ZX)(p h:Int):Option Str:=if p<1\/(ps.length:Int)<p then some "NoStrip" else if ¬(1<=h/\h<=10)then some "BadHolder" else if (Xt ps p).1=h then some "OwnStrip" else none
noncomputable def TB(ps:ZX)(p h:Int):ZX:=ps.set (p-1).toNat (h,(Xt ps p).2)
def IA{ps:ZX}{p:Int}{x}(g:1<=p)(f:p<=ps.length):cutD (ps.map prD) none (some (p-1))++[prD x]++cutD (ps.map prD) (some p) none=(ps.set (p-1).toNat x).map prD:=by
 rw[Tq,Tq,Aj ps (by lia),NP ps (by lia)];have e:p.toNat=(p-1).toNat+1:=by lia
 rw[e,List.set_eq_take_append_cons_drop,WQ (by lia),Qb,Qh,Jm];rfl
def TH{p}(g:1<=p)(f:p<=ps.length):atI (ps.map prD) (p-1)=some (prD<|Xt ps p):=by
 rw[KY (by lia) (by lia)];unfold Xt;rw[WU,WJ (by lia)];rfl
def Zc2(ps:ZX)(p h:Int):(TB ps p h).length=ps.length:=QJ ..
def Zpj(f:Field ps)(e:KN ps p h=none):Field (TB ps p h):=by
 unfold KN at e;split at e
 ·cases e
 ·split at e
  ·cases e
  ·rename_i r o;have g:(p-1).toNat<ps.length:=by lia
   intro q hq;rcases List.mem_or_eq_of_mem_set hq with hq|rfl
   ·exact f q hq
   ·have:Xt ps p∈ps:=by
     unfold Xt;rw[WU,WJ g]
     grind
    obtain⟨_,_,n,l⟩:=f _ this;lia
def Zhe(q:Int×Int)(r:ZX):Ny (q::r)=if ¬(1<=q.1/\q.1<=10)then some ("BadHolder" : Str)else if ¬(1<=q.2/\q.2<=1000)then some ("BadWidth" : Str)else Ny r:=rfl
def OD(q:Str×ZY):imm (dD q)=true:=by
 unfold dD imm XF;rw[Pt];rfl
theorem BX:∀(bk:List (Str×ZY)),XF (bk.map dD)=true
 |[]=>rfl
 |q::r=>by
  rw[Qh];unfold XF;rw[OD,BX r];rfl
def BR(q:Str×ZY):arg (dD q)=.sh (dD q):=by
 unfold arg;rw[OD]
def Zc5:PN N (dD q::ds)=some (.sh<|dD q)::(ds.map (λd=>some (arg d))++List.replicate (N.length-(ds.length+1)) none):=by
 unfold PN;rw[Qh,BR];rfl
def CQ{q:Str×ZY}{i}(h:i<q.2.length):atI (.str q.1::q.2.map D.int) (1+(i:Int))=some (.int q.2[i]):=NG (by grind)
noncomputable def Kn(ps:ZX)(p w:Int):Option Str:=if p<1\/(ps.length:Int)<p then some "NoStrip" else if w<1\/(Xt ps p).2<=w then some "BadPart" else if 40<=ps.length then some "TooManyStrips" else none
noncomputable def PR(ps:ZX)(p w:Int):ZX:=ps.take (p-1).toNat++[((Xt ps p).1,w),((Xt ps p).1,(Xt ps p).2-w)]++ps.drop p.toNat
noncomputable def BJ(ps:ZX)(p w:Int):List Bool:=if p<1\/(ps.length:Int)<p then[true,true,false,false]else if w<1\/(Xt ps p).2<=w then[true,false,true,false]else if 40<=ps.length then[true,false,false,true]else[]
def Ru(ps:ZX)(p w:Int):(Kn ps p w=some ("NoStrip" : Str)/\BJ ps p w=[true,true,false,false])\/(Kn ps p w=some ("BadPart" : Str)/\BJ ps p w=[true,false,true,false])\/(Kn ps p w=some ("TooManyStrips" : Str)/\BJ ps p w=[true,false,false,true])\/
  (Kn ps p w=none/\BJ ps p w=[]/\1<=p/\p<=ps.length/\1<=w/\w<(Xt ps p).2/\ps.length<40):=by
 unfold Kn BJ;by_cases c:p<1\/(ps.length:Int)<p
 ·grind
 ·grind
def BG{p}(h:1<=p)(g:p<=ps.length):Xt ps p∈ps:=by
 have f:(p-1).toNat<ps.length:=by lia
 unfold Xt;rw[WU,WJ f]
 grind
def Ra{p w}(f:1<=p):cutD (ps.map prD) none (some (p-1))++[prD ((Xt ps p).1,w),prD ((Xt ps p).1,(Xt ps p).2-w)]++cutD (ps.map prD) (some p) none=(PR ps p w).map prD:=by
 rw[Tq,Tq,Aj ps (by lia),NP ps (by lia)];unfold PR
 grind
def Zht{p w}(g:1<=p)(f:p<=ps.length):(PR ps p w).length=ps.length+1:=by
 unfold PR
 grind
def Zpl{p w:Int}(f:Field ps)(h:1<=p)(g:p<=ps.length)(n:1<=w)(l:w<(Xt ps p).2):Field (PR ps p w):=by
 obtain⟨a1,a2,a3,a4⟩:=f _ (BG h g);intro q hq;rcases Qi.mp hq with hq|hq
 ·rcases Qi.mp hq with hq|hq
  ·exact f q (Vk hq)
  ·grind
 ·exact f q (List.mem_of_mem_drop hq)
section
variable {K:ZW}{mg:Ya}{E:L2.St->XK}
noncomputable def Hv(i:Nat)(a:PTE):PTS:=λR f=>match f[i]? with
 |some (some<|.own<|.lst h)=>a f (λs=>match s.shd with
  |some (.lst g)=>h.length+g.length<=10000000/\R.nx (f.set i<|some<|.own (h++g))
  |_=>False) (R.ex f)
 |_=>False
def Gh(i:Nat){te a}(U:Xf K mg E te a):Xu K mg E (TK<|tBM K "list" Iq (Kk i)<|XW te KH) (Hv i a):=by
 intro H0 B H w x R D hB f h e;unfold Hv at h;split at h
 ·rename_i ds G;obtain⟨v,C,b,rfl,T,us,J,A⟩:=f.slot i _ G;refine⟨_,C,.inl ⟨rfl,us,SqL.of J⟩,U H0 B H w x _ _ _ f h (λs u H1 p n N=>?_) λc M Q L=>e.ex w x c M Q (f.grow L) (Fr.grow L)⟩;have g:=f.grow n;split at p
  ·rename_i es r;obtain⟨a',y,rfl,o,l⟩:=Rp.lst_inv (N.shd g.same f.zm n r);refine⟨b,a',us,y,rfl,rfl,n _ _ J,off_sub _ _ o,by rw[A.len,l.len];exact WV p.1 (by decide),?_⟩;obtain⟨r,f2⟩:=g.mutate (es:=.lst (ds++es)) (us:=.lst (us++y)) G C trivial λF M SF Y=>⟨_,Y,Rps.mono SF (Rps.append (Rps.mono (Xs n λ_ _ _ z=>z) A) l)⟩;exact e.nx _ _ _ p.2 r ((Fr.grow n).trans f2)
  ·grind
 ·exact h.elim
end
noncomputable def nextM(hs r:ZY):List (ZY):=(hs.filter λh=>!decide (h∈r)).map λh=>r++[h]
noncomputable def XH(hs:ZY):Nat->List (ZY)
 | 0=>[[]]
 |k+1=>(XH hs k).flatMap (nextM hs)
def next_mem:o∈nextM hs r↔∃h,h∈hs/\h∉r/\o=r++[h]:=by
 unfold nextM;constructor
 ·grind
 ·grind
theorem rows_mem:∀{k}{r:ZY},r∈XH hs k↔r.length=k/\r.Nodup/\∀x∈r,x∈hs
 | 0,r=>by
  unfold XH;constructor
  ·intro h;rw[WN]at h;subst h;exact⟨rfl,Vx,by simp⟩
  ·rintro⟨h,_⟩;rw[Vt.mp h];exact WN.mpr rfl
 |k+1,r=>by
  unfold XH;rw[List.mem_flatMap];constructor
  ·rintro⟨p,f,g⟩;obtain⟨h,o,n,rfl⟩:=next_mem.mp g;obtain⟨a,b,c⟩:=rows_mem.mp f
   ·rw[QG]
    grind
  ·rintro⟨a,b,c⟩;rcases QB r with rfl|⟨p,h,rfl⟩
   ·cases a
   ·rw[QR]at a b c ⊢;rw[QG]at b;obtain⟨b1,_,l⟩:=b;refine⟨p,rows_mem.mpr ⟨by rw[WW]at a;simpa using a,b1,λx hx=>c x (QT _ hx)⟩,next_mem.mpr ⟨h,c h (by simp),λz=>l h z h (by simp) rfl,rfl⟩⟩
theorem Iy:∀{a b} x y,sl a b->sl (a++x) (b++y)
 |[],_,_,_,h|_::_,[],_,_,h=>by cases h
 |a::r,b::t,x,y,h=>by
  rcases h with h|⟨e,h⟩
  ·exact .inl h
  ·exact .inr ⟨e,Iy x y h⟩
theorem IE:∀r {a b:Int},a<b->sl (r++[a]) (r++[b])
 |[],_,_,h=>.inl h
 |c::r,_,_,h=>.inr ⟨rfl,IE r h⟩
theorem Li(f:hs.Pairwise (· < ·)):∀k,(XH hs k).Pairwise sl
 | 0=>by unfold XH;exact List.pairwise_singleton _ _
 |k+1=>by
  unfold XH;rw[List.pairwise_flatMap];refine⟨λr _=>?_,(Li f k).imp λ{a b} h x hx y g=>?_⟩
  ·unfold nextM;rw[List.pairwise_map];exact(f.filter _).imp λh=>IE r h
  ·obtain⟨_,_,_,rfl⟩:=next_mem.mp hx;obtain⟨_,_,_,rfl⟩:=next_mem.mp g;exact Iy _ _ h
def HX(hs r:ZY):(nextM hs r).length<=hs.length:=by
 unfold nextM
 grind
theorem MW{n}(f:hs.length<=n):∀rows:List (ZY),(rows.flatMap<|nextM hs).length<=rows.length*n
 |[]=>by simp
 |r::t=>by
  rw[Jp,WW,Qf,Nat.succ_mul];have h:=HX hs r;have g:=MW f t;lia
theorem A4{n}(f:hs.length<=n):∀k,(XH hs k).length<=n ^ k
 | 0=>by unfold XH;simp
 |k+1=>by
  exact WV (MW f _) (J9 _<|A4 f k)
def SS(g:hs.Nodup):r∈XH hs hs.length↔r.Perm hs:=by
 rw[rows_mem];constructor
 ·rintro⟨o,n,l⟩;rw[List.perm_ext_iff_of_nodup n g];refine λx=>⟨l x,λhx=>?_⟩;by_cases c:x∈r
  ·lia
  ·have:=List.Nodup.length_le_of_subset (Qv.mpr ⟨c,n⟩) (by
    intro y f;rcases WX.mp f with rfl|f
    ·exact hx
    ·exact l y f)
   grind
 ·intro h;exact⟨h.length_eq,h.nodup_iff.mpr g,λx hx=>h.mem_iff.mp hx⟩
theorem Zad:∀{a b:ZY},sl a b->¬sl b a
 |[],_,h,_|_::_,[],h,_=>by cases h
 |a::r,b::t,h,k=>by
  rcases h with h|⟨e,h⟩
  ·rcases k with k|⟨e,_⟩<;>lia
  ·rcases k with k|⟨_,k⟩
   ·lia
   ·exact Zad h k
def K5.uniq (h:K5 f c g o) (k:K5 f c g p):o=p:=by
 have e:oc c p=oc c o:=by
  have n:=h.le p k.perm k.keeps;have l:=k.le o h.perm h.keeps;lia
 rcases h.first p k.perm k.keeps e with z|z
 ·lia
 ·rcases k.first o h.perm h.keeps e.symm with y|y
  ·grind
  ·exact absurd y (Zad z)
def Fnd(f:ZY->Int)(ok:ZY->Prop)(L:List (ZY)):Option (ZY)->Prop
 |none=>∀o∈L,¬ok o
 |some q=>q∈L/\ok q/\∀o∈L,ok o->f q<=f o/\(f o=f q->q=o\/sl q o)
def Fnd.no (h:Fnd f ok L b) (n:¬ok o):Fnd f ok (L++[o]) b:=by
 cases b with
 |none=>
  intro x hx;rcases Qi.mp hx with hx|hx
  ·exact h x hx
  ·grind
 |some q=>
  refine⟨QT _ h.1,h.2.1,λx hx g=>?_⟩;rcases Qi.mp hx with hx|hx
  ·exact h.2.2 x hx g
  ·grind
def Fnd.first (h:Fnd f ok L none) (k:ok o):Fnd f ok (L++[o]) (some o):=by
 refine⟨by simp,k,λx hx g=>?_⟩;rcases Qi.mp hx with hx|hx
 ·exact absurd g (h x hx)
 ·grind
def Fnd.less {o q} (h:Fnd f ok L (some q)) (k:ok o) (l:f o<f q):Fnd f ok (L++[o]) (some o):=by
 refine⟨by simp,k,λx hx g=>?_⟩;rcases Qi.mp hx with hx|hx
 ·have:=(h.2.2 x hx g).1
  lia
 ·grind
def Fnd.more {o q} (h:Fnd f ok L (some q)) (l:¬f o<f q) (s:∀x∈L,sl x o):Fnd f ok (L++[o]) (some q):=by
 refine⟨QT _ h.1,h.2.1,λx hx g=>?_⟩;rcases Qi.mp hx with hx|hx
 ·exact h.2.2 x hx g
 ·rw[WN]at hx;rw[hx];exact⟨by lia,λ_=>.inr (s q h.1)⟩
def run_mem:x∈Kf 1 n↔1<=x/\x<=n:=by
 unfold Kf;rw[Qj];constructor
 ·grind
 ·rintro⟨g,f⟩;exact⟨(x-1).toNat,JF.mpr (by lia),by lia⟩
noncomputable def Ke(f:ZX)(a b:Int):Option Str:=if ¬(1<=a/\a<=10)then some "BadHolder" else if ¬(1<=b/\b<=10)then some "BadHolder" else if a=b then some "LikeHolders" else if (a,b)∈f then some "WishStands" else if 20<=f.length then some "TooManyWishes" else none
noncomputable def Kh(f:ZX)(a b:Int):Option Str:=if (a,b)∈f then none else some "NoWish"
noncomputable def To(f:ZX)(a b:Int):ZX:=f.filter λq=>!decide (q=(a,b))
noncomputable def XZ(ps:ZX)(p:Int):Option Str:=if p<1\/(ps.length:Int)<=p then some "NoStrip" else if ¬(Xt ps p).1=(Xt ps (p+1)).1 then some "UnlikeHolders" else if 1000<(Xt ps p).2+(Xt ps (p+1)).2 then some "TooWide" else none
noncomputable def PD(ps:ZX)(p:Int):ZX:=ps.take (p-1).toNat++[((Xt ps p).1,(Xt ps p).2+(Xt ps (p+1)).2)]++ps.drop (p+1).toNat
def Io{p}(f:1<=p):cutD (ps.map prD) none (some (p-1))++[prD ((Xt ps p).1,(Xt ps p).2+(Xt ps (p+1)).2)]++cutD (ps.map prD) (some (p+1)) none=(PD ps p).map prD:=by
 rw[Tq,Tq,Aj ps (by lia),NP ps (by lia)];unfold PD
 grind
def Zcb{p}(g:1<=p)(f:p<ps.length):(PD ps p).length+1=ps.length:=by
 unfold PD
 grind
def Zkr(f:Field ps)(e:XZ ps p=none):Field (PD ps p):=by
 unfold XZ at e;split at e
 ·grind
 split at e
 ·cases e
 split at e
 ·cases e
 obtain⟨a1,a2,a3,a4⟩:=f _ (BG (p:=p) (by lia)<|by lia);obtain⟨b1,l,h,g⟩:=f _ (BG (p:=p+1) (by lia)<|by lia);intro q hq;rcases Qi.mp hq with hq|hq
 ·rcases Qi.mp hq with hq|hq
  ·exact f q (Vk hq)
  ·grind
 ·exact f q (List.mem_of_mem_drop hq)
def Zfd(h:Tg f)(e:Ke f a b=none):Tg (f++[(a,b)]):=by
 unfold Ke at e;split at e
 ·cases e
 split at e
 ·cases e
 split at e
 ·cases e
 split at e
 ·cases e
 split at e
 ·cases e
 rename_i v u s n r;obtain⟨p,l,o⟩:=h;refine⟨by rw[WW,QP];lia,?_,λq hq=>?_⟩
 ·rw[QG];exact⟨l,by simp,λx hx y g z=>by rw[WN]at g;subst g;exact n (z▸hx)⟩
 ·grind
def Zqc(h:Tg f):Tg (To f a b):=
 ⟨WV (Qw _ _) h.1,h.2.1.filter _,λq hq=>h.2.2 q (Qn.mp hq).1⟩
def Zm2:Tg []:=by trivial
noncomputable def Zni(m:ZY)(k:Int):Int:=1+(k*m.getD 1 0+m.getD 2 0) % 10
noncomputable def PM(ps:ZX)(os:ZY):Option Str:=if os.isPerm (Xj ps)=true then none else some "BadOrder"
def Fj{os}(h:os.Perm (Xj ps)):PM ps os=none:=by
 unfold PM;rw[WQ (List.isPerm_iff.mpr h)]
def Zeg{os ns}(f:ns.Perm os)(g:ns.Pairwise (·<=·)):(ns=Xj ps)↔os.isPerm (Xj ps)=true:=by
 rw[List.isPerm_iff];exact⟨λz=>z▸f.symm,λz=>Zec z f g⟩
noncomputable def SQ(ps:ZX)(p:Int):List Bool:=if p<1\/(ps.length:Int)<=p then[true,true,false,false]else if ¬(Xt ps p).1=(Xt ps (p+1)).1 then[true,false,true,false]else if 1000<(Xt ps p).2+(Xt ps (p+1)).2 then[true,false,false,true]else[]
def Im(ps:ZX)(p:Int):(XZ ps p=some ("NoStrip" : Str)/\SQ ps p=[true,true,false,false])\/(XZ ps p=some ("UnlikeHolders" : Str)/\SQ ps p=[true,false,true,false])\/(XZ ps p=some ("TooWide" : Str)/\SQ ps p=[true,false,false,true])\/
  (XZ ps p=none/\SQ ps p=[]/\1<=p/\p<ps.length):=by
 unfold XZ SQ;by_cases c:p<1\/(ps.length:Int)<=p
 ·grind
 ·grind
def Zll{p}(g:1<=p)(f:p<ps.length):atI (ps.map prD) p=some (prD<|Xt ps (p+1)):=by
 have:=TH (ps:=ps) (p:=p+1) (by lia) (by lia)
 grind
noncomputable abbrev d3(k:Str)(a b:Int):D:=.tup [.str k,.int a,.int b]
end Pu
namespace Pu
open L2 Own
section
variable {K:ZW}{mg:Ya}{E:L2.St->XK}{H:Hp}
theorem Rps.reverse:∀{ds}{vs:List V},Rps K H ds vs->Rps K H ds.reverse vs.reverse
 |_,_,.nil=>.nil
 |_,_,.cons h r=>by rw[Jh,Jh];exact Rps.append (Rps.reverse r) (.cons h .nil)
end
end Pu
namespace M
open L2 Own Pu
def Zd6{o:ZY}(g:Field ps)(h:o.Perm (Xj ps)):∀p∈ps,p.1∈o:=λp f=>h.mem_iff.mpr ((Fs g).mpr (Qj.mpr ⟨p,f,rfl⟩))
end M
namespace Pu
open L2 Own
section
variable {K:ZW}{mg:Ya}{E:L2.St->XK}
noncomputable def Rt(K:ZW):R2:=λx y H Q=>∃(p q:Addr) (xs f:List V),x=.ref p/\y=.ref q/\SqT K H p xs/\SqT K H q f/\xs.all Pj=true/\f.all Pj=true/\Q (.bl (!eqL xs f)) H
def Gq(w:X.A.units<cLine)(B:autoParam (X.K=K) au_0):OpR X (compareOp .NotEq) (Rt K):=by
 subst B;intro pins s L H x y v u Q I o n h;obtain⟨p,q,xs,f,rfl,rfl,z,hq,f1,J,k⟩:=h;obtain rfl:=o;obtain rfl:=n;obtain⟨N,l,r,_⟩:=I.tuple z;obtain⟨M,g,p2,_⟩:=I.tuple hq;have U:=l.length;have T:=g.length;refine SeqAt.RcNeAt.tuples r p2 w (λj G C=>AV l g f1 J j G C) _ _ _ _ ⟨.bl (!eqL xs f),H,I,?_,k⟩;show _=Value.bool (!eqL xs f);unfold eqL;by_cases e:xs.length=f.length
 ·grind
 ·grind
def CY:S->S->(S->Prop)->Prop:=λx y R=>∃xs f:ZY,x.d=.tup (xs.map D.int)/\y.d=.tup (f.map D.int)/\R (.sh<|.bl (!decide (xs=f)))
def OI{a b}(J:Xf K mg E z a)(G:Xf K mg E w b):Xf K mg E (tOp (Rt K) z w) (p2 a b CY):=by
 refine P6 J G λH0 H T Z x y v u R Q g s1 hm s r h q=>?_;obtain⟨xs,U,N,M,L⟩:=h;have n:=s.rp g;have l:=r.rp g;rw[N]at n;rw[M]at l;obtain⟨p,us,rfl,o,B⟩:=Rp.tup_inv n;obtain⟨C,Y,rfl,f,A⟩:=Rp.tup_inv l;rw[B.ints]at o;rw[A.ints]at f;refine⟨p,C,_,_,rfl,rfl,SqT.of o,SqT.of f,Nk _,Nk _,?_⟩;rw[E8];exact q _ _ T L (Same.refl _) (.bl _)
def Rq:List S->(S->Prop)->Prop
 |[s],R=>(match s.d with | .int i=>R (.sh<|.int i) | .bl k=>R (.sh<|.int (if k then 1 else 0))|_=>False)
 |_,_=>False
def Zrp(u:X4 K mg E n r):Xf K mg E (tCB (λxs H Q=>(∃i,xs=[.int i]/\Q (.int i) H)\/∃k,xs=[.bl k]/\Q (.int (if k then 1 else 0)) H) n) (pCB Rq r):=by
 refine P3 u λA H g Z x w R Q p y z l h q=>?_;unfold Rq at h;split at h
 ·rename_i s;obtain⟨v,rfl,o⟩:=l.one_inv;have f:=o.rp p;split at h
  ·rename_i i e;rw[e]at f;exact .inl ⟨i,by rw[f.int_inv],q _ _ g h (Same.refl _) (.int _)⟩
  ·rename_i k e;rw[e]at f;exact .inr ⟨k,by rw[f.bl_inv],q _ _ g h (Same.refl _) (.int _)⟩
  ·grind
 ·exact h.elim
def Zit(p q:Int×Int):decide ([p.1,p.2]=[q.1,q.2])=decide (p=q):=by grind
def Zb3{R}(h:R (.sh<|.bl (!decide (p=q)))):CY (.sh<|prD p) (.sh<|prD q) R:=by
 refine⟨[p.1,p.2],[q.1,q.2],rfl,rfl,?_⟩;have e:decide ([p.1,p.2]=[q.1,q.2])=decide (p=q):=by grind
 rw[e];omega
end
structure DI (K:ZW) (x:Str) (st:Stmt):Prop where
 ex:∃f fd,PySem.W.nsIn K mainGlobals x=some (some<|.ref f)/\Fun K x x st f fd
structure MI (K:ZW) (C:Addr) (m q:Str) (st:Stmt):Prop where
 ex:∃f fd,PySem.W.findIn K (.ref C) m=some (some<|.ref f)/\PySem.W.isFn K (.ref f)=true/\Fun K m q st f fd
section
variable {K:ZW}{h:Heap}{mg:Ya}
def di{st f oc r s n kV o p g ct}(a:PySem.W.nsIn K mainGlobals x=some (some<|.ref f))(l:K.lookup f=some ⟨oc,r,.func (PySem.W.fnOf x x (Py st) (XS st) (Xg st) .none kV o p s g ct),n⟩)(c:PySem.W.codeIn K g x=true)(k:PySem.W.keepIn K (.ref f)=true):DI K x st:=⟨f,_,a,Fu l c k⟩
def mi{st f oc r s n kV o p g ct}(a:PySem.W.findIn K (.ref C) m=some (some<|.ref f))(i:PySem.W.isFn K (.ref f)=true)(l:K.lookup f=some ⟨oc,r,.func (PySem.W.fnOf m q (Py st) (XS st) (Xg st) .none kV o p s g ct),n⟩)(c:PySem.W.codeIn K g q=true)(k:PySem.W.keepIn K (.ref f)=true):MI K C m q st:=⟨f,_,a,i,Fu l c k⟩
def DI.d {st ps} (D:DI K x st) (X:K.In h) (o:h.Ns mainGlobals mg)
  (b:∀kV f l n g ct us,us.length=ps.length->bindArgs (PySem.W.fnOf x x (Py st) (XS st) (Xg st) .none kV f l n g ct) ⟨us,[]⟩=pure (ps.zip us)):Def K mg x st ps:=
 let ⟨_,_,a,F⟩:=D.ex
 ⟨_,_,F,QO X o a,F.binds b⟩
def MI.d {m q st ps} (D:MI K C m q st) (e:o=C)
  (b:∀kV f l n g ct us,us.length=ps.length->bindArgs (PySem.W.fnOf m q (Py st) (XS st) (Xg st) .none kV f l n g ct) ⟨us,[]⟩=pure (ps.zip us)):X7 K (X0 K o m) m q st ps:=
 let ⟨_,_,a,i,F⟩:=D.ex
 ⟨_,_,F,by rw[e];exact⟨a,i,F.kp⟩,F.binds b⟩
def MI.i {q st ps} (D:MI K C "__init__" q st) (e:p=C) (mk:PySem.W.makesIn K C=true) (n:PySem.W.keepIn K (.ref C)=true)
  (b:∀kV f l o g ct us,us.length=ps.length->bindArgs (PySem.W.fnOf "__init__" q (Py st) (XS st) (Xg st) .none kV f l o g ct) ⟨us,[]⟩=pure (ps.zip us)):X7 K (Mk K p) "__init__" q st ps:=
 let ⟨_,_,a,i,F⟩:=D.ex
 ⟨_,_,F,by rw[e];exact⟨mk,a,i,n⟩,F.binds b⟩
end
def fs{N P f}(r:autoParam (f.kind=.function) au_0)(p:autoParam (f.isCoroutine=false) au_0)(o:autoParam (f.isGenerator=false) au_0)(n:autoParam (N.Nodup) au_5)(l:autoParam (N.take P.length=P) au_0)(h:autoParam (∀x∈P,f.names.lookup x=some .local\/f.names.lookup x=some .cell) au_5)(g:autoParam (∀y∈f.names,y.2≠.free) au_5):Xh N P f:=⟨r,p,o,n,l,h,g⟩
def pz{pos x e te f}(i:Nat)(n:X.N.Nodup)(l:PE X e te)(g:autoParam (X.N[i]?=some x) au_0)(hx:autoParam (Loc X.env.scope x) au_6)(hs:autoParam (swapsWith e (some<|.Name x f) pos.line X.env=pure false) au_0)(h:autoParam (X.fn x=true\/X.env.scope.names.lookup x=some .local) au_2) :
  PS X (.Assign [.Name x f] e pos) (N5 te<|Sb i):=Zcn n g hx l hs h
section
variable {K:ZW}{mg:Ya}{E:L2.St->XK}{H0 H H1 H':Hp}{B Z Z':Addr->Prop}{σ:L2.St}{γ:Γ}
def Xk.named (env:Xk K H0 B H σ γ) (f:γ[i]?=some (some<|.own<|.lst ds)) (g:σ[i]?=some (some<|.ref a)):Xk K H0 B H σ (γ.set i<|some<|.own<|.lsA a ds)/\Fr B H σ γ H σ (γ.set i<|some<|.own<|.lsA a ds):=by
 obtain⟨v,l,b,rfl,u,p,n,r⟩:=env.slot i _ f;rw[g]at l;cases l
 have s:∀b,zof B (γ.set i<|some<|.own<|.lsA a ds) σ b->zof B γ σ b:=λb z=>by
  rcases z with z|⟨j,fs,C,A,x,o⟩
  ·exact .inl z
  ·rcases XN A with⟨w,q,_⟩|⟨_,e⟩
   ·subst w;cases q
    exact .inr ⟨j,_,a,f,g,o⟩
   ·exact .inr ⟨j,fs,C,e,x,o⟩
 exact env.change f g (λ_ _ h _=>h) (λb h=>by rw[show b=a from h,n];trivial) (λb h=>.inl h) ⟨rfl,p,n,Rps.mono (Xs (Same.refl _) λb _ _ z y=>z (s b y)) r⟩
noncomputable def pNm(i:Nat)(p:PTS):PTS:=λR γ=>match γ[i]? with
 |some (some<|.own<|.lst f)=>∀a,p R (γ.set i<|some<|.own<|.lsA a f)
 |_=>p R γ
def Zg7(i:Nat){t p}(g:Xu K mg E t p):Xu K mg E t (pNm i p):=by
 intro H0 B H σ γ R D n f h e;unfold pNm at h;split at h
 ·rename_i y l;obtain⟨v,o,b,rfl,r,u,x,w⟩:=f.slot i _ l;obtain⟨s,f1⟩:=f.named l o;exact g H0 B H σ _ R D n s (h b) (e.from f1)
 ·exact g H0 B H σ γ R D n f h e
def Xk.change2 {o1 p Y g} (E:Xk K H0 B H σ γ) (hij:i≠j) (hi:γ[i]?=some (some<|.own o1)) (hj:γ[j]?=some (some<|.own Y)) (A:σ[i]?=some (some<|.ref a1)) (r:σ[j]?=some (some<|.ref a2))
  (hH:∀b x,H b=some x->¬o1.adr a1 b->¬Y.adr a2 b->H' b=some x) (hm:∀b,o1.adr a1 b\/Y.adr a2 b->Mut (H' b)) (n1:∀b,p.adr a1 b->o1.adr a1 b\/H b=none) (n2:∀b,g.adr a2 b->Y.adr a2 b\/H b=none) (ap:∀b,p.adr a1 b->¬g.adr a2 b)
  (r1:OR K (Pu.off (zof B ((γ.set i<|some<|.own p).set j (some<|.own g)) σ) H') H' a1 p) (r2:OR K (Pu.off (zof B ((γ.set i<|some<|.own p).set j (some<|.own g)) σ) H') H' a2 g) :
  Xk K H0 B H' σ ((γ.set i<|some<|.own p).set j (some<|.own g))/\Fr B H σ γ H' σ ((γ.set i<|some<|.own p).set j (some<|.own g)):=by
 generalize eg:(γ.set i<|some<|S.own p).set j (some<|.own g)=γ2 at r1 r2 ⊢
 have get:∀k s,γ2[k]?=some (some s)->(k=j/\s=.own g)\/(k=i/\k≠j/\s=.own p)\/(k≠i/\k≠j/\γ[k]?=some (some s)):=λk s h=>by
  rw[←eg]at h;rcases XN h with⟨G,C,_⟩|⟨G,C⟩
  ·exact .inl ⟨G,(Qc C).symm⟩
  ·rcases XN C with⟨f1,f2,_⟩|⟨f1,f2⟩
   ·exact .inr (.inl ⟨f1,G,(Qc f2).symm⟩)
   ·exact .inr (.inr ⟨f1,G,f2⟩)
 obtain⟨v1,T,x1,rfl,h1,k1⟩:=E.slot i _ hi;rw[A]at T;cases T
 obtain⟨v2,U,x2,rfl,h2,k2⟩:=E.slot j _ hj;rw[r]at U;cases U
 have za:∀b,o1.adr a1 b\/Y.adr a2 b->zof B γ σ b:=λb M=>M.elim (λM=>.inr ⟨i,o1,a1,hi,A,M⟩) λM=>.inr ⟨j,Y,a2,hj,r,M⟩
 have hz:∀b x,H b=some x->zof B γ2 σ b->zof B γ σ b:=λb x hx z=>by
  rcases z with z|⟨k,fs,a',G,C,f⟩
  ·exact .inl z
  ·rcases get k _ G with⟨J,N⟩|⟨J,_,N⟩|⟨_,_,e⟩
   ·subst J;cases N;rw[r]at C;cases C;rcases n2 b f with w|w
    ·exact za b (.inr w)
    ·rw[w]at hx;cases hx
   ·subst J;cases N;rw[A]at C;cases C;rcases n1 b f with w|w
    ·exact za b (.inl w)
    ·rw[w]at hx;cases hx
   ·exact .inr ⟨k,fs,a',e,C,f⟩
 have hH':∀b x,H b=some x->¬(o1.adr a1 b\/Y.adr a2 b)->H' b=some x:=λb x hx n=>hH b x hx (λz=>n (.inl z)) λz=>n (.inr z)
 have S1:=λb x h=>by
  obtain⟨T,U⟩:=Pn h;exact XQ (hH' b x T λk=>U (za b k)) λz=>U (hz b x T z)
 have old:∀(k:Nat) L a b,γ[k]?=some (some<|.own L)->σ[k]?=some (some<|.ref a)->L.adr a b->∃o,H b=some o:=λk L a b G C f=>by
  obtain⟨u,T,a',U,_,q3⟩:=E.slot k _ G;rw[C]at T;cases T
  cases U
  exact Tw (q3.mut b f)
 have apart1:∀k L a b,k≠i->γ[k]?=some (some<|.own L)->σ[k]?=some (some<|.ref a)->L.adr a b->¬p.adr a1 b:=λk L a b nk G C f w=>by
  rcases n1 b w with w|w
  ·exact nk (E.own k i a a1 L o1 b G hi C A f w)
  ·obtain⟨u,hu⟩:=old k L a b G C f;rw[w]at hu;cases hu
 have apart2:∀k L a b,k≠j->γ[k]?=some (some<|.own L)->σ[k]?=some (some<|.ref a)->L.adr a b->¬g.adr a2 b:=λk L a b nk G C f w=>by
  rcases n2 b w with w|w
  ·exact nk (E.own k j a a2 L Y b G hj C r f w)
  ·obtain⟨u,hu⟩:=old k L a b G C f;rw[w]at hu;cases hu
 refine⟨⟨λb x h=>?_,by rw[←eg,QJ,QJ];exact E.len,λb M=>?_,λk l x x' fs fs' b G C f Q e5 e6=>?_,λk s h=>?_⟩,λb x h z=>⟨?_,λy=>z (hz b x h y)⟩⟩
 ·exact hH' b x (E.same b x h) λk=>by
   rcases k with k|k
   ·rw[h1 b k]at h;cases h
   ·rw[h2 b k]at h;cases h
 ·by_cases k:o1.adr a1 b\/Y.adr a2 b
  ·exact hm b k
  ·have:=E.bm b M
   obtain⟨x,hx⟩:=Tw this;rwa[hH' b x hx k,←hx]
 ·rcases get k _ G with⟨J,N⟩|⟨J,nk,N⟩|⟨nk,nk',e⟩<;>rcases get l _ C with⟨el,et⟩|⟨el,nl,et⟩|⟨nl,nl',e'⟩
  ·rw[J,el]
  ·subst J el;cases N;cases et;rw[r]at f;cases f;rw[A]at Q;cases Q;exact absurd e5 (ap b e6)
  ·subst J;cases N;rw[r]at f;cases f;exact absurd e5 (apart2 l fs' x' b nl' e' Q e6)
  ·subst J el;cases N;cases et;rw[A]at f;cases f;rw[r]at Q;cases Q;exact absurd e6 (ap b e5)
  ·rw[J,el]
  ·subst J;cases N;rw[A]at f;cases f;exact absurd e5 (apart1 l fs' x' b nl e' Q e6)
  ·subst el;cases et;rw[r]at Q;cases Q;exact absurd e6 (apart2 k fs x b nk' e f e5)
  ·subst el;cases et;rw[A]at Q;cases Q;exact absurd e6 (apart1 k fs x b nk e f e5)
  ·exact E.own k l x x' fs fs' b e e' f Q e5 e6
 ·rcases get k s h with⟨J,N⟩|⟨J,_,N⟩|⟨nk,nk',e⟩
  ·subst J N;exact⟨_,r,a2,rfl,λb M=>(n2 b M).elim (h2 b) λw=>E.same.free w,r2⟩
  ·subst J N;exact⟨_,A,a1,rfl,λb M=>(n1 b M).elim (h1 b) λw=>E.same.free w,r1⟩
  ·obtain⟨v,T,U⟩:=E.slot k s e;refine⟨v,T,?_⟩;cases s with
   |sh d=>exact Rp.mono S1 U
   |own fs=>
    obtain⟨x,rfl,f,Q⟩:=U;exact⟨x,rfl,f,Q.mono S1 λb M y C=>hH b y C (λw=>nk (E.own k i x a1 fs o1 b e hi T A M w)) λw=>nk' (E.own k j x a2 fs Y b e hj T r M w)⟩
   |_=>exact U
 ·exact hH' b x h λk=>z (za b k)
abbrev Pw2:=O->O->List S->(O->O->D->Prop)->(O->O->Str->Prop)->Prop
def two(o1 f:O)(a1 a2:Addr):Addr->Prop:=λb=>o1.adr a1 b\/f.adr a2 b
structure Aa (K:ZW) (B:Addr->Prop) (H:Hp) (a1 a2:Addr) (o1 o2 o1' o2':O) (H':Hp):Prop where
 same:Same (off (two o1 o2 a1 a2) H) H'
 old1:∀b,o1.adr a1 b->o1'.adr a1 b
 old2:∀b,o2.adr a2 b->o2'.adr a2 b
 new1:∀b,o1'.adr a1 b->o1.adr a1 b\/H b=none
 new2:∀b,o2'.adr a2 b->o2.adr a2 b\/H b=none
 apart:∀b,o1'.adr a1 b->¬o2'.adr a2 b
 at1:OR K (off (λb=>B b\/two o1' o2' a1 a2 b) H') H' a1 o1'
 at2:OR K (off (λb=>B b\/two o1' o2' a1 a2 b) H') H' a2 o2'
noncomputable def Nu(mg:Ya)(c:Pw2)(K:ZW):Sp:=λo H Q E=>∃(o1 h:O) (a1 a2:Addr) (l:List S) (n:List V) (B:Addr->Prop) (R:O->O->D->Prop) (X:O->O->Str->Prop),
 o=.ref a1 :: .ref a2::n/\(∀b,B b->Mut (H b)/\¬two o1 h a1 a2 b)/\(∀b,o1.adr a1 b->¬h.adr a2 b)/\OR K (off (λb=>B b\/two o1 h a1 a2 b) H) H a1 o1/\OR K (off (λb=>B b\/two o1 h a1 a2 b) H) H a2 h/\
 TVs K (λb=>B b\/two o1 h a1 a2 b) (off (two o1 h a1 a2) H) H H l n/\(∀s∈l,s.flat)/\c o1 h l R X/\
 (∀g f d v H',R g f d->Aa K B H a1 a2 o1 h g f H'->Rp K (off (λb=>B b\/two g f a1 a2 b) H') d v->Q v H')/\∀g f e H',X g f e->Aa K B H a1 a2 o1 h g f H'->XE mg E e H'
noncomputable def Ti(N:Yf)(o1 g:O)(f:List S):Γ:=some (.own o1)::some (.own g)::(f.map some++List.replicate (N.length-(f.length+2)) none)
def Zha{o1 f a1 a2 n us}(hB:∀b,B b->Mut (H b)/\¬two o1 f a1 a2 b)(ap:∀b,o1.adr a1 b->¬f.adr a2 b)(Q:OR K (off (λb=>B b\/two o1 f a1 a2 b) H) H a1 o1)(M:OR K (off (λb=>B b\/two o1 f a1 a2 b) H) H a2 f)(r:TVs K (λb=>B b\/two o1 f a1 a2 b) (off (two o1 f a1 a2) H) H H n us)(hf:∀s∈n,s.flat)(hn:n.length+2<=N.length) :
  Xk K (off (two o1 f a1 a2) H) B H (start N (.ref a1 :: .ref a2::us)) (Ti N o1 f n):=by
 have get:∀i s,(Ti N o1 f n)[i+2]?=some (some s)->n[i]?=some s:=λi s h=>by
  unfold Ti at h;rw[QH,QH]at h;by_cases T:i<n.length
  ·rw[Qs (by rw[WI];exact T),WY,WJ T]at h;rw[WJ T];exact Q4 some (Qc<|Qc h)
  ·rw[Qx (by rw[WI];lia),VC]at h;split at h<;>cases h
 have noown:∀i C,(Ti N o1 f n)[i+2]?≠some (some<|.own C):=λi C h=>hf _ (Qe<|get i _ h)
 have w:(start N (V.ref a1::V.ref a2::us))[0]?=some (some<|.ref a1):=by
  unfold L2.start;rfl
 have u:(start N (V.ref a1::V.ref a2::us))[1]?=some (some<|.ref a2):=by
  unfold L2.start;rfl
 have g0:∀s,(Ti N o1 f n)[0]?=some (some s)->s=.own o1:=λs h=>by
  have h:some (some<|S.own o1)=some (some s):=h;cases h
  rfl
 have L:∀s,(Ti N o1 f n)[1]?=some (some s)->s=.own f:=λs h=>by
  have h:some (some<|S.own f)=some (some s):=h;cases h
  rfl
 have hz:∀b,zof B (Ti N o1 f n) (start N (V.ref a1::V.ref a2::us)) b->B b\/two o1 f a1 a2 b:=λb z=>by
  rcases z with z|⟨i,C,a',l,g,p⟩
  ·exact .inl z
  ·match i,l,g with
   | 0,l,g=>
    rw[w]at g;cases g
    cases g0 _ l
    exact .inr (.inl p)
   | 1,l,g=>
    rw[u]at g;cases g
    cases L _ l
    exact .inr (.inr p)
   |i+2,l,_=>exact absurd l (noown i C)
 have G:∀{o:O} {a:Addr},OR K (off (λb=>B b\/two o1 f a1 a2 b) H) H a o->OR K (off (zof B (Ti N o1 f n)<|start N (V.ref a1::V.ref a2::us)) H) H a o:=λh=>h.mono (Xs (Same.refl _) λb _ _ z y=>z (hz b y)) λ_ _ _ q=>q;refine⟨off_sub,?_,λb h=>(hB b h).1,λi j x x' C J b l g p A h5 h6=>?_,λi s h=>?_⟩
 ·unfold L2.start Ti;simp[r.len]
 ·match i,j,l,g,p,A with
  | 0,0,_,_,_,_=>rfl
  | 1,1,_,_,_,_=>rfl
  | 0,1,l,g,p,A=>
   cases g0 _ l
   cases L _ g
   rw[w]at p;cases p
   rw[u]at A;cases A
   exact absurd h6 (ap b h5)
  | 1,0,l,g,p,A=>
   cases L _ l
   cases g0 _ g
   rw[u]at p;cases p
   rw[w]at A;cases A
   exact absurd h5 (ap b h6)
  |i+2,_,l,_,_,_=>exact absurd l (noown i C)
  | 0,j+2,_,g,_,_=>exact absurd g (noown j J)
  | 1,j+2,_,g,_,_=>exact absurd g (noown j J)
 ·match i,h with
  | 0,h=>
   cases g0 _ h
   refine⟨_,w,a1,rfl,λb U=>?_,G Q⟩;unfold off;rw[WQ (.inl U)]
  | 1,h=>
   cases L _ h
   refine⟨_,u,a2,rfl,λb U=>?_,G M⟩;unfold off;rw[WQ (.inr U)]
  |i+2,h=>
   have hs:=get i s h;obtain⟨v,hv,Y⟩:=r.get hs;refine⟨v,?_,?_⟩
   ·unfold L2.start;rw[Qs (by rw[WI,Qf,Qf];have:=(Qq.mp hv).1;lia),WY,QH,QH,hv];rfl
   ·have:=hf s (Qe hs)
    cases s with
    |bor d=>exact Y
    |sh d=>exact Rp.mono (Xs (Same.refl _) λb _ _ z y=>z (hz b y)) Y
    |own _=>exact this.elim
    |view _=>exact this.elim
    |tmp _=>exact this.elim
def IJ(o1 h:O)(R:O->O->D->Prop)(γ:Γ)(d:D):Prop:=∃g f,γ[0]?=some (some<|.own g)/\γ[1]?=some (some<|.own f)/\o1.from g/\h.from f/\R g f d
def Zn1(o1 h:O)(X:O->O->Str->Prop)(γ:Γ)(e:Str):Prop:=∃g f,γ[0]?=some (some<|.own g)/\γ[1]?=some (some<|.own f)/\o1.from g/\h.from f/\X g f e
noncomputable def HZ(o1 f:O)(R:O->O->D->Prop)(X:O->O->Str->Prop):TY:={nx:=λγ=>IJ o1 f R γ .non,rt:=λ_=>False,ex:=Zn1 o1 f X,rv:=IJ o1 f R}
def Eu{o1 l g f}{σ'}{γ'}(u:OR K (off (λb=>B b\/two o1 l a1 a2 b) H) H a1 o1)(s:OR K (off (λb=>B b\/two o1 l a1 a2 b) H) H a2 l)(e:Xk K (off (two o1 l a1 a2) H) B H' σ' γ')(x:γ'[0]?=some (some<|.own g))(v:γ'[1]?=some (some<|.own f))(k1:o1.from g)(k2:l.from f) :
  Aa K B H a1 a2 o1 l g f H'/\∀b,B b\/two g f a1 a2 b->zof B γ' σ' b:=by
 obtain⟨T,G,p,rfl,N,L⟩:=e.slot 0 _ x;obtain rfl:=O.from_at k1 u L;obtain⟨Q,C,n,rfl,p2,J⟩:=e.slot 1 _ v;obtain rfl:=O.from_at k2 s J
 have M:∀b,B b\/two g f p n b->zof B γ' σ' b:=λb z=>by
  rcases z with z|z|z
  ·exact .inl z
  ·exact .inr ⟨0,g,p,x,G,z⟩
  ·exact .inr ⟨1,f,n,v,C,z⟩
 have A:∀b,g.adr p b->¬f.adr n b:=λb z y=>absurd (e.own 0 1 p n g f b x v G C z y) (by decide);have fromZ:∀{o:O} {a:Addr},OR K (off (zof B γ' σ') H') H' a o->OR K (off (λb=>B b\/two g f p n b) H') H' a o:=λh=>h.mono (Xs (Same.refl _) λb _ _ z y=>z (M b y)) λ_ _ _ q=>q
 have free:∀b,off (two o1 l p n) H b=none->two o1 l p n b\/H b=none:=λb w=>by
  unfold off at w;by_cases q:two o1 l p n b
  ·exact .inl q
  ·rw[WO q]at w;exact .inr w
 refine⟨⟨e.same,O.from_adr k1,O.from_adr k2,λb r=>?_,λb r=>?_,A,fromZ L,fromZ J⟩,M⟩
 ·rcases free b (N b r)with(w|w)|w
  ·exact .inl w
  ·exact absurd (O.from_adr k2 b w) (A b r)
  ·exact .inr w
 ·rcases free b (p2 b r)with(w|w)|w
  ·exact absurd r (A b<|O.from_adr k1 b w)
  ·exact .inl w
  ·exact .inr w
def Zh4{t p vs Q Ec n}(h:Nu mg c K vs H Q Ec)(Y:Xu K mg (λ_=>Ec) t p)(hn:n+2<=N.length)(hp:∀o1 M C R X,c o1 M C R X->C.length=n/\p (HZ o1 M R X) (Ti N o1 M C)):t {nx:=λ_ H'=>Q .non H',rt:=Q} (start N vs) H:=by
 obtain⟨o1,M,a1,a2,C,us,B,R,X,rfl,hB,ap,o,l,r,hf,hc,hQ,hX⟩:=h;obtain⟨e,hp⟩:=hp o1 M C R X hc;refine Y _ B H _ _ _ _ (λb z=>?_) (Zha hB ap o l r hf<|by rw[e];exact hn) hp ⟨λw A H' T U f1=>?_,λ_ _ _ z=>z.elim,λw A c H' T U f1=>?_,λ_ _ _ z=>z.elim,λ_ _ _ z=>z.elim,λw A d v H' T U f1 rd=>?_⟩
 ·obtain⟨u,s⟩:=hB b z;obtain⟨x,hx⟩:=Tw u;exact⟨x,XQ hx s⟩
 ·obtain⟨g,f,u,s,L,J,G⟩:=T;exact hQ g f .non .non H' G (Eu o l U u s L J).1 .non
 ·obtain⟨g,f,u,s,L,J,G⟩:=T;exact hX g f c H' G (Eu o l U u s L J).1
 ·obtain⟨g,f,u,s,L,J,G⟩:=T;obtain⟨k1,k2⟩:=Eu o l U u s L J;exact hQ g f d v H' G k1 (Rp.mono (Xs (Same.refl _) λb _ _ z y=>z (k2 b y)) rd)
def Zp4(h:Nu mg c K vs H Q s)(l:∀o1 g f R X,c o1 g f R X->f.length=n):vs.length=n+2:=by
 obtain⟨o1,g,a1,a2,f,p,B,R,X,rfl,_,_,_,_,r,_,o,_⟩:=h;rw[Qf,Qf,r.len,l o1 g f R X o]
def Zld{i j}{o1 r}{a1 a2}{ss L}{us}{R:Γ->D->Prop}{X:Γ->Str->Prop}{Q}{Ec}(env:Xk K H0 B H σ γ)(hB:∀b,B b->∃o,H0 b=some o)(S1:Same H H1)(hij:i≠j)(hi:γ[i]?=some (some<|.own o1))(Y:γ[j]?=some (some<|.own r))(G:σ[i]?=some (some<|.ref a1))(C:σ[j]?=some (some<|.ref a2))(t1:TVs K (zof B γ σ) H0 H H1 ss us)(hp:passes ss=some L)(hc:c o1 r L (λg f d=>R ((γ.set i<|some<|.own g).set j (some<|.own f)) d) (λg f e=>X ((γ.set i<|some<|.own g).set j (some<|.own f)) e))(q:∀p d v H',R p d->Xk K H0 B H' σ p->Fr B H σ γ H' σ p->Rp K (off (zof B p σ) H') d v->Q v H')(qx:∀p c H',X p c->Xk K H0 B H' σ p->Fr B H σ γ H' σ p->XE mg Ec c H'):Nu mg c K (.ref a1 :: .ref a2::us) H1 Q Ec:=by
 have l:=env.grow S1;obtain⟨v1,h1,x1,e1,h3,h4⟩:=l.slot i _ hi;rw[G]at h1;cases h1
 cases e1
 obtain⟨v2,h2,x2,J,h5,h6⟩:=l.slot j _ Y;rw[C]at h2;cases h2
 cases J
 have za:∀b,two o1 r a1 a2 b->zof B γ σ b:=λb s=>s.elim (λs=>.inr ⟨i,o1,a1,hi,G,s⟩) λs=>.inr ⟨j,r,a2,Y,C,s⟩;have h0:∀b,two o1 r a1 a2 b->H0 b=none:=λb s=>s.elim (h3 b) (h5 b);have down:∀{o:O} {a:Addr},OR K (off (zof B γ σ) H1) H1 a o->OR K (off (λb=>(zof B γ σ b/\¬two o1 r a1 a2 b)\/two o1 r a1 a2 b) H1) H1 a o:=λh=>h.mono (Xs (Same.refl _) λb _ _ z y=>z (y.elim (λy=>y.1)<|za b)) λ_ _ _ q=>q
 have aft:∀g f H',Aa K (λb=>zof B γ σ b/\¬two o1 r a1 a2 b) H1 a1 a2 o1 r g f H'->Xk K H0 B H' σ ((γ.set i<|some<|.own g).set j (some<|.own f))/\Fr B H σ γ H' σ ((γ.set i<|some<|.own g).set j (some<|.own f))/\∀b x,H' b=some x->¬((zof B γ σ b/\¬two o1 r a1 a2 b)\/two g f a1 a2 b)->¬zof B ((γ.set i<|some<|.own g).set j (some<|.own f)) σ b:=λg f H' A=>by
  have U:∀b x,H' b=some x->¬((zof B γ σ b/\¬two o1 r a1 a2 b)\/two g f a1 a2 b)->¬zof B ((γ.set i<|some<|.own g).set j (some<|.own f)) σ b:=λb x _ n z=>by
   rcases z with z|⟨k,fs,a',e1,J,e3⟩
   ·refine n (.inl ⟨.inl z,λw=>?_⟩);obtain⟨u,hu⟩:=hB b z;rw[h0 b w]at hu;cases hu
   ·rcases XN e1 with⟨ek,q,_⟩|⟨nk,q⟩
    ·subst ek;cases q
     rw[C]at J;cases J
     exact n (.inr<|.inr e3)
    ·rcases XN q with⟨ek,M,_⟩|⟨nk',M⟩
     ·subst ek;cases M
      rw[G]at J;cases J
      exact n (.inr<|.inl e3)
     ·refine n (.inl ⟨.inr ⟨k,fs,a',M,J,e3⟩,λw=>?_⟩);rcases w with w|w
      ·exact nk' (env.own k i a' a1 fs o1 b M hi J G e3 w)
      ·exact nk (env.own k j a' a2 fs r b M Y J C e3 w)
  have up:∀{o:O} {a:Addr},OR K (off (λb=>(zof B γ σ b/\¬two o1 r a1 a2 b)\/two g f a1 a2 b) H') H' a o->OR K (off (zof B ((γ.set i<|some<|.own g).set j (some<|.own f)) σ) H') H' a o:=λh=>h.mono (Xs (Same.refl _) λb x hx z=>U b x hx z) λ_ _ _ q=>q;obtain⟨T,N⟩:=l.change2 hij hi Y G C (λb x hx n1 n2=>A.same b x (XQ hx λw=>w.elim n1 n2)) (λb s=>s.elim (λs=>A.at1.mut b (A.old1 b s)) λs=>A.at2.mut b (A.old2 b s)) A.new1 A.new2 A.apart (up A.at1) (up A.at2);exact⟨T,(Fr.grow S1).trans N,U⟩
 refine⟨o1,r,a1,a2,L,us,λb=>zof B γ σ b/\¬two o1 r a1 a2 b,_,_,rfl,λb s=>⟨l.zm b s.1,s.2⟩,(λb z y=>hij (env.own i j a1 a2 o1 r b hi Y G C z y)),down h4,down h6,?_,B9 hp,hc,λg f d v H' hR A rd=>?_,λg f e H' hX A=>?_⟩
 ·refine t1.pass l.same env.zm S1 (λb x hx=>XQ (l.same b x hx) λw=>?_) (Xs (Same.refl _) λb _ _ z y=>z (y.elim (λy=>y.1)<|za b)) hp;rw[h0 b w]at hx;cases hx
 ·obtain⟨T,N,k3⟩:=aft g f H' A;exact q _ d v H' hR T N (Rp.mono (λb x h=>let ⟨p1,p2⟩:=Pn h;XQ p1 (k3 b x p1 p2)) rd)
 ·obtain⟨T,N,_⟩:=aft g f H' A;exact qx _ e H' hX T N
noncomputable def Zsr(i j:Nat)(c:Pw2)(r:PTA):PTW:=λγ R X=>match γ[i]?,γ[j]? with
 |some (some<|.own o1),some (some<|.own n)=>r γ (λl=>match passes l with|some h=>c o1 n h (λg f d=>R ((γ.set i<|some<|.own g).set j (some<|.own f)) d) (λg f e=>X ((γ.set i<|some<|.own g).set j (some<|.own f)) e)|none=>False) (X γ)
 |_,_=>False
noncomputable def MS(i j:Nat)(c:Pw2)(r:PTA):PTW:=λγ R X=>match γ[i]?,γ[j]? with
 |some (some<|.own o1),some (some<|.own n)=>r γ (λl=>match passes l with|some f=>c o1 n f (λh g d=>R ((γ.set i<|some<|.own h).set j (some<|.own g)) d) (λ_ _ _=>False)|none=>False) (X γ)
 |_,_=>False
def BY(i j:Nat)(n:i≠j){c o r}(C:X4 K mg E o r):PU K mg E (Nf (Nu mg c K) [] E0<|XW (Kk i)<|XW (Kk j) o) (MS i j c r):=by
 intro H0 B H σ γ R X Q J f h q A;unfold MS at h;split at h
 ·rename_i o1 Y s p;obtain⟨T,l,a1,rfl,_,_⟩:=f.slot i _ s;obtain⟨N,g,a2,rfl,_,_⟩:=f.slot j _ p;refine⟨_,l,_,g,C H0 B H σ γ _ _ _ f h (λU w H1 u M x=>?_) λc H' G v=>A γ c H' G (f.grow v) (Fr.grow v)⟩;show Nu mg c K ((V.ref a1::V.ref a2::w)++[]) H1 Q E0;rw[Q8];split at u
  ·rename_i y L;exact Zld (X:=λ_ _=>False) f J M n s p l g x L u q λ_ _ _ z=>z.elim
  ·grind
 ·grind
abbrev PTV:=Γ->(Γ->Bool->Prop)->(Γ->Str->Prop)->Prop
def BW(K:ZW)(mg:Ya)(E:L2.St->XK)(t:TT)(p:PTV):Prop:=∀(H0:Hp) (B:Addr->Prop) (H:Hp) (σ:L2.St) (γ:Γ) (R:Γ->Bool->Prop) (X:Γ->Str->Prop) (Q:Bool->Hp->Prop),(∀b,B b->∃o,H0 b=some o)->Xk K H0 B H σ γ->p γ R X->
 (∀f b H',R f b->Xk K H0 B H' σ f->Fr B H σ γ H' σ f->Q b H')->(∀f c H',X f c->Xk K H0 B H' σ f->Fr B H σ γ H' σ f->XE mg (E σ) c H')->t σ H Q
noncomputable def pVW(w:PTW):PTV:=λγ R X=>w γ (λf d=>match d with | .bl c=>R f c|_=>False) X
def Af(hw:PU K mg E te w):BW K mg E (CZ K te) (pVW w):=by
 intro H0 B H σ γ R X Q p f h q o;refine hw H0 B H σ γ _ _ _ p f h (λl d v H' g r f1 n=>?_) o;split at g
 ·rw[n.bl_inv];exact⟨_,rfl,q _ _ _ g r f1⟩
 ·grind
noncomputable def Zjq(p:PTV):PTV:=λγ R X=>p γ (λf b=>R f (!b)) X
def FL(n:BW K mg E t p):BW K mg E (AX t) (Zjq p):=by
 intro H0 B H σ γ R X Q o g h q l;exact n H0 B H σ γ _ _ _ o g h (λf b H' r s f1=>q f (!b) H' r s f1) l
noncomputable def Zf7(c:PTV)(p q:PTS):PTS:=λR γ=>c γ (λf b=>if b=true then p R f else q R f) R.ex
def FX{p q}(s:BW K mg E tt c)(r:Xu K mg E t p)(hq:Xu K mg E u q):Xu K mg E (DS tt t u) (Zf7 c p q):=by
 intro H0 B H σ γ R D l n h e;refine s H0 B H σ γ _ _ _ l n h (λf b H' o g f1=>?_) λf c H' o g f1=>e.ex _ _ _ _ o g f1;cases b with
 |true=>
  exact r H0 B H' σ f R D l g (by grind) (e.from f1)
 |false=>
  exact hq H0 B H' σ f R D l g (by grind) (e.from f1)
noncomputable def R8(i:Nat):PTW:=λγ R _=>match γ[i]? with
 |some (some<|.own<|.lsA x f)=>∃d,f[f.length-1]?=some d/\R (γ.set i<|some<|.own<|.lsA x f.dropLast) d
 |some (some<|.own<|.lst f)=>∃d,f[f.length-1]?=some d/\R (γ.set i<|some<|.own<|.lst f.dropLast) d
 |_=>False
def Zjr(i:Nat):PU K mg E (Ng K "list" AO<|Kk i) (R8 i):=by
 intro H0 B H σ γ R X Q L f h q J;unfold R8 at h;split at h
 ·rename_i x C n;obtain⟨d,z,h⟩:=h;obtain⟨v,l,b,rfl,w,rfl,us,o,g⟩:=f.slot i _ n;obtain⟨u,s,r⟩:=g.get z;refine⟨_,l,.inl ⟨rfl,us,SqL.of o⟩,b,us,u,rfl,rfl,o,by rw[g.len];exact s,?_⟩;obtain⟨A,p⟩:=f.mutate (es:=.lsA b C.dropLast) (us:=.lst us.dropLast) n l trivial λF H' G y=>⟨rfl,_,y,Rps.mono G (Rps.dropLast g)⟩;exact q _ _ _ _ h A p (Rp.mono p.off r)
 ·rename_i C n;obtain⟨d,z,h⟩:=h;obtain⟨v,l,b,rfl,w,us,o,g⟩:=f.slot i _ n;obtain⟨u,s,r⟩:=g.get z;refine⟨_,l,.inl ⟨rfl,us,SqL.of o⟩,b,us,u,rfl,rfl,o,by rw[g.len];exact s,?_⟩;obtain⟨A,p⟩:=f.mutate (es:=.lst C.dropLast) (us:=.lst us.dropLast) n l trivial λF H' G y=>⟨_,y,Rps.mono G (Rps.dropLast g)⟩;exact q _ _ _ _ h A p (Rp.mono p.off r)
 ·grind
abbrev Pq:=List S->(S->Prop)->(Str->Prop)->Prop
noncomputable def spS(mg:Ya)(c:Pq)(K:ZW):Sp:=λg H Q E=>∃(f:List S) (B:Addr->Prop) (R:S->Prop) (X:Str->Prop),(∀b,B b->Mut (H b))/\TVs K B H H H f g/\(∀s∈f,s.flat)/\c f R X/\
 (∀s v H',R s->Same H H'->TV K B H H H' s v->Q v H')/\∀e H',X e->Same H H'->XE mg E e H'
noncomputable def Nw(N:Yf)(f:List S):Γ:=f.map some++List.replicate (N.length-f.length) none
def Zpe{f us}(C:∀b,B b->Mut (H b))(r:TVs K B H H H f us)(w:∀s∈f,s.flat)(L:f.length<=N.length):Xk K H B H (start N us) (Nw N f):=by
 have get:∀i s,(Nw N f)[i]?=some (some s)->f[i]?=some s:=λi s h=>by
  unfold Nw at h;by_cases l:i<f.length
  ·rw[Qs (by rw[WI];exact l),WY,WJ l]at h;rw[WJ l];exact Q4 some (Qc<|Qc h)
  ·grind
 have noown:∀(i:Nat) g,(Nw N f)[i]?≠some (some<|.own g):=λi g h=>w _ (Qe<|get i _ h)
 have A:∀b,zof B (Nw N f) (start N us) b->B b:=λb z=>by
  rcases z with z|⟨i,g,T,n,Q,M⟩
  ·exact z
  ·exact absurd n (noown i g)
 refine⟨Same.refl _,?_,C,λi j x J g G b n _ _ _ _ _=>absurd n (noown i g),λi s h=>?_⟩
 ·unfold L2.start Nw;simp[r.len]
 ·have u:=get i s h;obtain⟨v,p,o⟩:=r.get u;refine⟨v,?_,?_⟩
  ·unfold L2.start;rw[Qs (by rw[WI];exact(Qq.mp p).1),WY,p];rfl
  ·have:=w s (Qe u)
   cases s with
   |bor d=>exact o
   |sh d=>exact Rp.mono (Xs (Same.refl _) λb _ _ z y=>z (A b y)) o
   |_=>exact this.elim
def Zl8{t p vs Q C n}(h:spS mg c K vs H Q C)(u:Xu K mg (λ_=>C) t p)(U:n<=N.length)(w:∀f R X,c f R X->f.length=n/\p {nx:=λ_=>R (.sh .non),rt:=R,ex:=λ_ e=>X e} (Nw N f)):t {nx:=λ_ H'=>Q .non H',rt:=Q} (start N vs) H:=by
 obtain⟨f,B,R,X,A,r,J,L,y,M⟩:=h;obtain⟨e,w⟩:=w f R X L;exact u H B H _ _ _ _ (λb z=>Tw (A b z)) (Zpe A r J<|by lia) w ⟨λl o H' g x f1=>y _ _ H' g x.same .non,λs v H' g T G=>y s v H' g T G,λl o c H' g x f1=>M c H' g x.same,λ_ _ _ z=>z.elim,λ_ _ _ z=>z.elim,λ_ _ _ _ _ z=>z.elim⟩
def Zce(h:spS mg c K vs H Q o)(g:∀f R X,c f R X->f.length=n):vs.length=n:=by
 obtain⟨f,B,R,X,_,r,_,l,_⟩:=h;rw[r.len]
 grind
def TV.backS (env:Xk K H0 B H1 σ γ) (o:Same H H1) (f:Same H1 H') (h:TV K (zof B γ σ) H1 H1 H' s v):TV K (zof B γ σ) H0 H H' s.back v:=by
 cases s with
 |bor d=>exact Tj (λb z=>Px f (env.zm b z)) (Rp.mono f h)
 |own n=>
  obtain⟨a,rfl,l,r⟩:=h;exact⟨a,rfl,(λb g=>o.free (l b g)),r⟩
 |view n=>
  obtain⟨a,rfl,r⟩:=h;exact r.rp off_sub
 |_=>exact h
def TV.passS {v} (env:Xk K H0 B H1 σ γ) (g:∀b,zof B γ σ b->Mut (H b)) (n:Same H H1) (h:TV K (zof B γ σ) H0 H H1 s v) (e:s.pass=some f):TV K (zof B γ σ) H1 H1 H1 f v:=by
 have shd:∀d,s.shd=some d->Rp K (off (zof B γ σ) H1) d v:=λd l=>h.shd env.same g n l;cases s with
 |view o=>cases e
 |tmp d=>
  unfold S.pass at e;cases q:imm d with
  |false=>simp_all
  |true=>simp[q]at e;subst e;exact shd d (by unfold S.shd;simp[q])
 |bor d=>
  unfold S.pass at e;cases q:imm d with
  |false=>simp[q]at e;subst e;exact Rp.mono env.same h
  |true=>simp[q]at e;subst e;exact shd d (by unfold S.shd;simp[q])
 |_=>cases e;exact shd _ rfl
theorem TVs.passS (env:Xk K H0 B H1 σ γ) (l:∀b,zof B γ σ b->Mut (H b)) (n:Same H H1):∀{g f}{vs:List V},TVs K (zof B γ σ) H0 H H1 g vs->passes g=some f->TVs K (zof B γ σ) H1 H1 H1 f vs
 |_,_,_,.nil,e=>by cases e;exact .nil
 |_,_,_,.cons h r,e=>by
  unfold passes at e;split at e
  ·rename_i s u p o;cases e
   exact .cons (h.passS env l n p) (TVs.passS env l n r o)
  ·grind
noncomputable def Zie(c:Pq)(r:PTA):PTE:=λγ R X=>r γ (λg=>match passes g with|some f=>c f (λs=>R s.back) (λ_=>False)|none=>False) X
def Ei{n r}(G:X4 K mg E n r):Xf K mg E (Nf (spS mg c K) [] E0 n) (Zie c r):=by
 intro H0 B H σ γ R X Q g p q A;refine G H0 B H σ γ _ X _ g p (λL J H1 o h y=>?_) A;rw[Q8];have f:=g.grow h;split at o
 ·rename_i l u;exact⟨l,zof B γ σ,_,_,f.zm,y.passS f g.zm h u,B9 u,o,λs v H' C w x=>q _ _ H' C (h.trans w) (x.backS f h w),λ_ _ z=>z.elim⟩
 ·grind
noncomputable def Zsu(a:PTE)(l u:PTO):PTE:=λγ R X=>a γ (λs=>l γ (λlo=>u γ (λf=>match s.d with | .lst g=>R (.tmp<|.lst<|cutD g lo f)|_=>False) X) X) X
noncomputable def Zbt(a:PTE)(l u:PTO):PTI:=λγ R X=>a γ (λs=>l γ (λlo=>u γ (λf=>match s with
 | .bor d=>(match d.strip with | .lst g=>R (cutD g lo f).length (λi=>arg ((cutD g lo f).getD i .non))|_=>False)
 |_=>False) X) X) X
def Zqk{a l u}(ha:Xf K mg E te a)(hl:Tv K mg E tl l)(hu:Tv K mg E th u):NW K mg E (B7 K<|tSl (SU K) te tl th) (Zbt a l u):=by
 intro H0 B H σ γ R X Q f p q C;refine ha H0 B H σ γ _ X _ f p (λx v H1 h1 o s=>?_) C;refine hl H0 B H1 σ γ _ X _ (f.grow o) h1 (λlo H2 h2 L=>?_) λc H' J M=>C c H' J (o.trans M);refine hu H0 B H2 σ γ _ X _ ((f.grow o).grow L) h2 (λg U h S3=>?_) λc H' J M=>C c H' J ((o.trans L).trans M);have n:=(o.trans L).trans S3;split at h
 ·rename_i d;split at h
  ·rename_i w ed;have s:=Rp.strip s;rw[ed]at s;obtain⟨b,A,rfl,hb,r⟩:=Rp.lst_inv s;refine⟨b,A,rfl,SqL.of ((f.grow n).same _ _ hb),λm nm=>?_⟩;have S4:Same U (upd U m<|.lst<|TM A lo g):=XX nm;have N:Rps K H0 (cutD w lo g) (TM A lo g):=r.cut;refine⟨m,rfl,⟨_,SqL.of X9⟩,q _ _ _ _ h (n.trans S4) ⟨λi H' Z' G z lt=>?_,λH' Z' z lt=>⟨_,SqL.of (z _ _ X9),by rw[N.len];exact WT _⟩⟩⟩;have hd:(cutD w lo g)[i]?=some ((cutD w lo g).getD i .non):=by rw[WU,WJ G];rfl
   obtain⟨u,T,h5⟩:=N.get hd;have Y:TV K Z' H0 H' H' (arg ((cutD w lo g).getD i .non)) u:=N3 lt.2.1 lt.1 h5;refine⟨⟨_,u,SqL.of (z _ _ X9),T⟩,λx H'' y=>?_⟩;obtain⟨rfl,y⟩:=y
   have:=y _ (SqL.of<|z _ _ X9)
   rw[T]at this;cases this
   exact⟨Same.refl _,Y⟩
  ·exact h.elim
 ·exact h.elim
def Zmu{n:Type}{φ}{γ}{g}{c}{e}{R}{xs:List n}{emb}(f:n->Option D)(u:xs.length<=100000)(turn:∀x∈xs,g (arg<|emb x) (atP φ γ) λh=>c h (λb=>if b=true then e h (λs=>∃d,s.shd=some d/\f x=some d) (λ_=>False)else f x=none) λ_=>False)(done:R (.own<|xs.filterMap f)) :
  SN φ γ g c e (xs.map emb).length (λi=>arg ((xs.map emb).getD i .non)) R:=by
 refine⟨⟨by rw[WI];exact u,λi=>(xs[i]?).bind f,λi v=>?_,?_⟩⟩
 ·simp_all
 ·have:(List.range (xs.map emb).length).filterMap (λi=>(xs[i]?).bind f)=xs.filterMap f:=by
   rw[WI]
   have o:∀l:List n,(List.range l.length).filterMap (λi=>(l[i]?).bind f)=l.filterMap f:=λl=>by
    induction l with
    |nil=>rfl
    |cons x r p=>
     rw[Qf,List.range_succ_eq_map,QV,List.filterMap_map,QV];simp only[List.getElem?_cons_zero,Option.bind_some];have e:((λi=>((x::r)[i]?).bind f)∘Nat.succ)=λi=>(r[i]?).bind f:=rfl;rw[e,p]
   exact o xs
  grind
noncomputable def Znu(a:PTE)(l u:PTO):PTE:=λγ R X=>a γ (λs=>l γ (λlo=>u γ (λg=>match s.d with | .scr f=>R (.own ((cutD f lo g).map D.int))|_=>False) X) X) X
def Zix(ns:ZY)(lo f:Option Int):TM (ns.map V.int) lo f=(cutD ns lo f).map V.int:=by
 unfold TM cutD;simp
def Zm5{a l u}(T:Xf K mg E te a)(M:Tv K mg E C l)(L:Tv K mg E G u):Xf K mg E (tSl (SU K) te C G) (Znu a l u):=by
 intro H0 B H σ γ R X Q f p q o;refine T H0 B H σ γ _ X _ f p (λx v H1 Y h J=>?_) o;refine M H0 B H1 σ γ _ X _ (f.grow h) Y (λlo H2 U n=>?_) λc H' r s=>o c H' r (h.trans s);refine L H0 B H2 σ γ _ X _ ((f.grow h).grow n) U (λhi H3 z A=>?_) λc H' r s=>o c H' r ((h.trans n).trans s);have g:=(h.trans n).trans A;split at z
 ·rename_i ns e;have w:=(J.grow<|n.trans A).rp (f.grow g).same;rw[e]at w;obtain⟨b,rfl,N⟩:=w.scr_inv;refine⟨b,_,rfl,N,λm y=>?_⟩;rw[Zix];exact q _ _ _ z (g.trans<|XX y) (NR g y<|Rps.of_ints _)
 ·grind
end
open M
inductive Dd where
 |sell (p h:Int)|part (p w:Int)|unite (p:Int)|wish (a b:Int)|drop (a b:Int)
noncomputable def Dd.q:Dd->Str×ZY
 | .sell p h=>("sell",[p,h]) | .part p w=>("part",[p,w]) | .unite p=>("unite",[p]) | .wish a b=>("wish",[a,b]) | .drop a b=>("drop",[a,b])
noncomputable def Dd.land:Dd->Bool
 | .sell _ _=>true | .part _ _=>true | .unite _=>true|_=>false
noncomputable def Dd.err (f w:ZX):Dd->Option Str
 | .sell p h=>KN f p h | .part p v=>Kn f p v | .unite p=>XZ f p | .wish a b=>Ke w a b | .drop a b=>Kh w a b
noncomputable def Dd.fld (f:ZX):Dd->ZX
 | .sell p h=>TB f p h | .part p v=>PR f p v | .unite p=>PD f p|_=>f
noncomputable def Dd.wsh (w:ZX):Dd->ZX
 | .wish a b=>w++[(a,b)] | .drop a b=>To w a b|_=>w
noncomputable def codeN:Option Str->Int
 |none=>0
 |some c=>if c=("NoStrip" : Str)then 1 else if c=("BadHolder" : Str)then 2 else if c=("OwnStrip" : Str)then 3 else if c=("BadPart" : Str)then 4 else if c=("TooManyStrips" : Str)then 5 else if c=("UnlikeHolders" : Str)then 6 else if c=("TooWide" : Str)then 7 else if c=("LikeHolders" : Str)then 8 else if c=("WishStands" : Str)then 9 else if c=("TooManyWishes" : Str)then 10 else 11
def CD:codeN (some "NoStrip")=1:=rfl
def Ab:codeN (some "BadHolder")=2:=rfl
def IT:codeN (some "OwnStrip")=3:=rfl
def Cp:codeN (some "BadPart")=4:=rfl
def Mh:codeN (some "TooManyStrips")=5:=rfl
def HU:codeN (some "UnlikeHolders")=6:=rfl
def M3:codeN (some "TooWide")=7:=rfl
def HM:codeN (some "LikeHolders")=8:=rfl
def Mw:codeN (some "WishStands")=9:=rfl
def L6:codeN (some "TooManyWishes")=10:=rfl
def Gj:codeN (some "NoWish")=11:=rfl
noncomputable def Dd.fld' (f:ZX) (x:Dd):ZX:=if x.err f []=none then x.fld f else f
noncomputable def Dd.wsh' (w:ZX) (x:Dd):ZX:=if x.err [] w=none then x.wsh w else w
noncomputable def Dd.nf (f w:ZX) (x:Dd):ZX:=if x.err f w=none then x.fld f else f
noncomputable def Dd.nw (f w:ZX) (x:Dd):ZX:=if x.err f w=none then x.wsh w else w
def Dd.err_land {x:Dd} (h:x.land=true) (f w u:ZX):x.err f w=x.err f u:=by
 cases x<;>first|rfl|cases h
def Dd.err_wish {x:Dd} (h:x.land=false) (f g w:ZX):x.err f w=x.err g w:=by
 cases x<;>first|rfl|cases h
def Dd.err_cases (f w : ZX) (x : Dd) : x.err f w = none ∨ x.err f w = some ("NoStrip" : Str) ∨ x.err f w = some ("BadHolder" : Str) ∨ x.err f w = some ("OwnStrip" : Str) ∨ x.err f w = some ("BadPart" : Str) ∨ x.err f w = some ("TooManyStrips" : Str) ∨ x.err f w = some ("UnlikeHolders" : Str) ∨ x.err f w = some ("TooWide" : Str) ∨ x.err f w = some ("LikeHolders" : Str) ∨ x.err f w = some ("WishStands" : Str) ∨ x.err f w = some ("TooManyWishes" : Str) ∨ x.err f w = some ("NoWish" : Str) := by
  cases x with
  | sell p h => show KN f p h = _ ∨ KN f p h = _ ∨ KN f p h = _ ∨ KN f p h = _ ∨ _; unfold KN; repeat' split
                all_goals simp
  | part p h => show Kn f p h = _ ∨ Kn f p h = _ ∨ Kn f p h = _ ∨ Kn f p h = _ ∨ Kn f p h = _ ∨ Kn f p h = _ ∨ _; unfold Kn; repeat' split
                all_goals simp
  | unite p => show XZ f p = _ ∨ XZ f p = _ ∨ XZ f p = _ ∨ XZ f p = _ ∨ XZ f p = _ ∨ XZ f p = _ ∨ XZ f p = _ ∨ XZ f p = _ ∨ _; unfold XZ; repeat' split
               all_goals simp
  | wish a b => show Ke w a b = _ ∨ Ke w a b = _ ∨ Ke w a b = _ ∨ Ke w a b = _ ∨ Ke w a b = _ ∨ Ke w a b = _ ∨ Ke w a b = _ ∨ Ke w a b = _ ∨ Ke w a b = _ ∨ Ke w a b = _ ∨ Ke w a b = _ ∨ _; unfold Ke; repeat' split
                all_goals simp
  | drop a b => show Kh w a b = _ ∨ Kh w a b = _ ∨ Kh w a b = _ ∨ Kh w a b = _ ∨ Kh w a b = _ ∨ Kh w a b = _ ∨ Kh w a b = _ ∨ Kh w a b = _ ∨ Kh w a b = _ ∨ Kh w a b = _ ∨ Kh w a b = _ ∨ Kh w a b = _; unfold Kh; repeat' split
                all_goals simp
abbrev XD:=List (Dd×ZX×ZX)
noncomputable def bkH(hs:XD):List (Str×ZY):=hs.map λh=>h.1.q
noncomputable def fsH(f0:ZX)(hs:XD):List (ZX):=f0::hs.map λh=>h.2.1
noncomputable def wsH(hs:XD):List (ZX):=[]::hs.map λh=>h.2.2
noncomputable def Bb(h:Dd×ZX×ZX):D:=.tup [plD h.2.1,plD h.2.2,dD h.1.q]
noncomputable def Zoa(f0:ZX):D:=.tup [plD f0,.lst [],.tup []]
noncomputable def XO(f0:ZX)(hs:XD):List D:=Zoa f0::hs.map Bb
noncomputable def Xn(f0:ZX)(hs:XD):ZX:=match hs.getLast? with|some h=>h.2.1|none=>f0
noncomputable def Xr(hs:XD):ZX:=match hs.getLast? with|some h=>h.2.2|none=>[]
def FU(f0:ZX)(hs:XD):∃fs,fsH f0 hs=fs++[Xn f0 hs]/\fs.length=hs.length:=by
 unfold fsH Xn;rcases QB hs with rfl|⟨h,x,rfl⟩
 ·exact⟨[],rfl,rfl⟩
 ·refine⟨f0::h.map λh=>h.2.1,?_,by simp⟩;simp
def BZ(hs:XD):∃f,wsH hs=f++[Xr hs]/\f.length=hs.length:=by
 unfold wsH Xr;rcases QB hs with rfl|⟨h,x,rfl⟩
 ·exact⟨[],rfl,rfl⟩
 ·refine⟨[]::h.map λh=>h.2.2,?_,by simp⟩;simp
def BN(f0:ZX)(hs:XD):∃d,atI (XO f0 hs) (-1)=some (.tup [plD (Xn f0 hs),plD (Xr hs),d]):=by
 have f:∀l (x:D),l≠[]->l[l.length-1]?=some x->atI l (-1)=some x:=λl x g h=>by
  have n:=VA.mpr g;unfold atI ixN;rw[WO (by lia),WQ (by lia)];show l[_]?=_;rw[show((-1:Int)+(l.length:Int)).toNat=l.length-1 by lia];lia
 unfold XO Xn Xr;rcases QB hs with rfl|⟨h,x,rfl⟩
 ·exact⟨.tup [],f _ _ (by simp) rfl⟩
 ·refine⟨dD x.1.q,f _ _ (by simp) ?_⟩;rw[QR,VP,Qf,WI,WW,QP,V1,QH,Qb,Qx (by simp),WI,J8];rfl
def Ed(hs:XD)(h:Dd×ZX×ZX):bkH (hs++[h])=bkH hs++[h.1.q]:=by unfold bkH;rw[Qb];rfl
def Fq(f0:ZX)(hs:XD)(h:Dd×ZX×ZX):fsH f0 (hs++[h])=fsH f0 hs++[h.2.1]:=by unfold fsH;rw[Qb];rfl
def F1(hs:XD)(h:Dd×ZX×ZX):wsH (hs++[h])=wsH hs++[h.2.2]:=by unfold wsH;rw[Qb];rfl
def FS(f0:ZX)(hs:XD)(h:Dd×ZX×ZX):XO f0 (hs++[h])=XO f0 hs++[Bb h]:=by unfold XO;rw[Qb];rfl
def Sd(hs:XD):(bkH hs).length=hs.length:=WI ..
def Zh2(f0:ZX)(hs:XD):(fsH f0 hs).length=hs.length+1:=by unfold fsH;rw[Qf,WI]
def Ze1(hs:XD):(wsH hs).length=hs.length+1:=by unfold wsH;rw[Qf,WI]
def FQ(f0:ZX)(hs:XD):(XO f0 hs).length=hs.length+1:=by unfold XO;rw[Qf,WI]
def Dd.q_len (x:Dd):x.q.2.length<=2:=by cases x<;>simp[Dd.q]
end Pu
namespace Pu
@[irreducible] def mixP (c k:Int):Int:=((c % 2147483647+7919*k+1)*48271 % 2147483647+104729*k+11)*69621 % 2147483647
open L2 M Own PyProof.Rows PySem PySem.Spec
def Dd.fld_ok {d:Dd} (g:Field f) (o:f.length<=40) (e:d.err f w=none):Field (d.fld f)/\(d.fld f).length<=40:=by
 cases d with
 |sell p h=>exact⟨Zpj g e,by rw[show(Dd.sell p h).fld f=TB f p h from rfl,Zc2];exact o⟩
 |part p v=>
  have e:Kn f p v=none:=e;rcases Ru f p v with⟨z,_⟩|⟨z,_⟩|⟨z,_⟩|⟨_,_,n,l,s,r,u⟩
  ·grind
  ·rw[e]at z;cases z
  ·rw[e]at z;cases z
  ·exact⟨Zpl g n l s r,by rw[show(Dd.part p v).fld f=PR f p v from rfl,Zht n l];lia⟩
 |unite p=>
  have e:XZ f p=none:=e;rcases Im f p with⟨z,_⟩|⟨z,_⟩|⟨z,_⟩|⟨_,_,n,l⟩
  ·rw[e]at z;cases z
  ·rw[e]at z;cases z
  ·rw[e]at z;cases z
  ·exact⟨Zkr g e,by rw[show(Dd.unite p).fld f=PD f p from rfl];have:=Zcb n l;lia⟩
 |_=>exact⟨g,o⟩
def Dd.wsh_ok {f w}{d:Dd} (g:Tg w) (e:d.err f w=none):Tg (d.wsh w):=by
 cases d with
 |wish a b=>exact Zfd g e
 |drop a b=>exact Zqc g
 |_=>trivial
def FineH(f0:ZX)(hs:XD):Prop:=(∀g∈fsH f0 hs,Field g/\g.length<=40)/\∀g∈wsH hs,Tg g
def FineH.cur (h:FineH f0 hs):(Field (Xn f0 hs)/\(Xn f0 hs).length<=40)/\Tg (Xr hs):=by
 obtain⟨fs,l,_⟩:=FU f0 hs;obtain⟨f,g,_⟩:=BZ hs;exact⟨h.1 _ (by grind),h.2 _ (by grind)⟩
def FineH.nil (l:Field f0) (h:f0.length<=40):FineH f0 []:=
 ⟨λg f=>by rw[show fsH f0 []=[f0]from rfl,WN]at f;subst f;exact⟨l,h⟩,λg f=>by rw[show wsH []=[[]]from rfl,WN]at f;subst f;exact Zm2⟩
def FineH.snoc (h:FineH f0 hs) (n:Field x.2.1/\x.2.1.length<=40) (l:Tg x.2.2):FineH f0 (hs++[x]):=
 ⟨λg f=>by rw[Fq]at f;rcases Qi.mp f with f|f;{exact h.1 g f};{rw[WN]at f;subst f;exact n},λg f=>by rw[F1]at f;rcases Qi.mp f with f|f;{exact h.2 g f};{rw[WN]at f;subst f;exact l}⟩
def FineH.init (h:FineH f0 (hs++[x])):FineH f0 hs:=
 ⟨λg f=>h.1 g (by rw[Fq];exact QT _ f),λg f=>h.2 g (by rw[F1];exact QT _ f)⟩
def FineH.back (h:FineH f0 hs):FineH f0 hs.dropLast:=by
 rcases QB hs with rfl|⟨l,x,rfl⟩
 ·grind
 ·rw[QR]at h ⊢;rw[Vm];exact h.init
noncomputable def KG(f0:ZX)(hs:XD)(d:Dd):XD:=if d.err (Xn f0 hs) (Xr hs)=none then hs++[(d,d.fld (Xn f0 hs),d.wsh (Xr hs))]else hs
def LU(f0:ZX)(hs:XD)(d:Dd):(KG f0 hs d).length<=hs.length+1:=by
 unfold KG;split
 ·simp
 ·simp
def FineH.add (h:FineH f0 hs) (d:Dd):FineH f0 (KG f0 hs d):=by
 unfold KG;split
 ·rename_i e;obtain⟨⟨l,g⟩,f⟩:=h.cur;exact h.snoc (Dd.fld_ok l g e) (Dd.wsh_ok f e)
 ·lia
def FineH.len (h:FineH f0 hs):(∀g∈fsH f0 hs,g.length<=1000)/\∀g∈wsH hs,g.length<=1000:=⟨λg f=>by have:=(h.1 g f).2;lia,λg f=>by have:=(h.2 g f).1;lia⟩
def Dd.code_pos {x:Dd} (h:¬x.err f w=none):0<codeN (x.err f w):=by
 rcases x.err_cases f w with e|e|e|e|e|e|e|e|e|e|e|e<;>rw[e]at h ⊢
 ·grind
 ·trivial
 ·rw[Ab];decide
 ·rw[IT];decide
 ·rw[Cp];decide
 ·rw[Mh];decide
 ·rw[HU];decide
 ·rw[M3];decide
 ·rw[HM];decide
 ·rw[Mw];decide
 ·rw[L6];decide
 ·rw[Gj];decide
def Dd.not_back (d:Dd):¬d.q.1=("back" : Str):=by
 cases d with
 |sell p h=>exact(by decide +kernel:¬("sell" : Str) = "back")
 |part p h=>exact(by decide +kernel:¬("part" : Str) = "back")
 |unite p=>exact(by decide +kernel:¬("unite" : Str) = "back")
 |wish p h=>exact(by decide +kernel:¬("wish" : Str) = "back")
 |drop p h=>exact(by decide +kernel:¬("drop" : Str) = "back")
noncomputable def N4(ds:List D):Nat:=match ds.getLast? with
 |some (.tup (_ :: .lst w::_))=>w.length
 |_=>0
noncomputable def Za0(f:List (Option Pu.S)):Nat:=match f[1]? with
 |some (some<|Pu.S.own<|Pu.O.lsA _ g)=>N4 g
 |_=>0
def Za2(ds:List D)(x:D):N4 (ds++[x])=N4 [x]:=by
 unfold N4;simp
def Ox(f0:ZX)(hs:XD):N4 (XO f0 hs)=(Xr hs).length:=by
 rcases QB hs with rfl|⟨l,x,rfl⟩
 ·rfl
 ·rw[QR,FS,Za2];unfold Xr;rw[VP];show(List.map prD x.2.2).length=_
  grind
def Zft(h:(a,b)∈w):(To w a b).length<w.length:=by
 unfold To;simp_all
def Zpn{hs a b}(h:(a,b)∈Xr hs):KG f0 hs (.drop a b)=hs++[(.drop a b,Xn f0 hs,To (Xr hs) a b)]:=by
 unfold KG;rw[WQ]
 ·rfl
 ·show Kh (Xr hs) a b=none;unfold Kh
  grind
def Mb(hs:XD)(x:Dd×ZX×ZX):Xr (hs++[x])=x.2.2:=by unfold Xr;rw[VP]
def Zkq(f0:ZX)(hs:XD)(x:Dd×ZX×ZX):Xn f0 (hs++[x])=x.2.1:=by unfold Xn;rw[VP]
def Zot{g:Type}(f:g->D){xs}(h:xs≠[]):∃x∈xs,atI (xs.map f) (-1)=some (f x):=by
 rcases QB xs with rfl|⟨l,x,rfl⟩
 ·grind
 ·rw[QR];exact⟨x,by simp,SA f l x⟩
def Zh5(h:Ring hs [] r):False:=by
 have f:=h.two
 have:=h.last r[0] (r[r.length-1]'(by lia)) (WJ<|by lia) (WJ<|by lia)
 grind
def Zgz(o:TR m){v}(h:1<=v/\v<=10):TR (m.set 0 v):=by
 obtain⟨a,b,c,d,e,rfl,p,n,l,g,f⟩:=o;exact⟨v,b,c,d,e,rfl,h,n,l,g,f⟩
def TabV.uniq {S vs us} (h:TabV l c S vs) (k:TabV l c S us):vs=us:=by
 refine Jw (by rw[h.1,k.1]) λi g n=>?_;have f:i<S.length:=by rw[←h.1];exact g
 exact(h.2 i S[i] vs[i] (WJ f) (WJ g)).uniq (k.2 i S[i] us[i] (WJ f) (WJ n))
def TabV.last (h:TabV g c (X1 hs) vs):∃v,atI (vs.map D.int) (-1)=some (.int v)/\KA g c hs v:=by
 have f:=Cw hs;rw[List.getLast?_eq_getElem?]at f;have n:=h.1;rcases QB vs with rfl|⟨l,v,rfl⟩
 ·grind
 rw[QR]at h n ⊢;refine⟨v,SA D.int l v,h.2 _ _ _ f ?_⟩
 grind
end Pu
namespace Own
open L2
section
variable {prog:Program}{w:World}{A:Around}{E:Yb}{s:Shared}{l:Addr}{xs:Array (Int×Tok)}
def Zaq(y:A.handled=none)(r:s.heap.IsTuple l (intItems xs))(n:0<xs.size)(h:∀v f g,(intItems xs)[argBest (λi j=>decide (numAt xs i<numAt xs j)) (xs.size-1)]?=some v->(∀b o,s.heap.get? b=some o->f.get? b=some o)->Q v {s with heap:=f,toks:=g}) :
  wpAny (model prog w) A (call (.builtin "min") [.ref l]) Q E s:=by
 have p:l<s.heap.objs.size:=by obtain⟨_,e,_⟩:=r;exact WZ e
 refine call_min_walk (wpAny_pyIter_tuple r ?_);refine⟨_,[_,l],[_],_,_,_,_,rfl,Walks.tuple (A:=A.in1) y _ l (Qm p) (intItems xs),⟨⟨_,Qa _ rfl,rfl,rfl⟩,r.push _⟩,λc u=>?_,by simpa [intItems]using n,CmpOf.ints_lt (numAt xs) (λ_ _=>intItems_at),λv f g z x=>?_⟩
 ·show c<(s.heap.push _).objs.size;rw[V5];rcases WX.mp u with rfl|u
  ·exact V6 _
  ·grind
 ·refine h v f g (by simpa [intItems]using z) λb o e=>x b o (λhm=>?_) (WS _ e);rcases WX.mp hm with B|hm
  ·exact absurd (B▸WZ e) (QY _)
  ·cases hm
def Zkw(y:A.handled=none)(r:s.heap.IsTuple l (intItems xs))(n:0<xs.size)(h:∀v f g,(intItems xs)[argBest (λi j=>decide (numAt xs i>numAt xs j)) (xs.size-1)]?=some v->(∀b o,s.heap.get? b=some o->f.get? b=some o)->Q v {s with heap:=f,toks:=g}) :
  wpAny (model prog w) A (call (.builtin "max") [.ref l]) Q E s:=by
 have p:l<s.heap.objs.size:=by obtain⟨_,e,_⟩:=r;exact WZ e
 refine call_max_walk (wpAny_pyIter_tuple r ?_);refine⟨_,[_,l],[_],_,_,_,_,rfl,Walks.tuple (A:=A.in1) y _ l (Qm p) (intItems xs),⟨⟨_,Qa _ rfl,rfl,rfl⟩,r.push _⟩,λc u=>?_,by simpa [intItems]using n,CmpOf.ints_gt (numAt xs) (λ_ _=>intItems_at),λv f g z x=>?_⟩
 ·show c<(s.heap.push _).objs.size;rw[V5];rcases WX.mp u with rfl|u
  ·exact V6 _
  ·grind
 ·refine h v f g (by simpa [intItems]using z) λb o e=>x b o (λhm=>?_) (WS _ e);rcases WX.mp hm with B|hm
  ·exact absurd (B▸WZ e) (QY _)
  ·cases hm
end
section
variable {X:Cx}{K:ZW}
def Zc8(E:X.calm=true)(L:autoParam (X.K=K) au_0):Kr X (.builtin "min") (λxs H Q=>∃p a b,xs=[.ref p]/\SqT K H p [.int a,.int b]/\Q (.int (if b<a then b else a)) H):=by
 subst L;intro pins s M H xs N Q I w h;obtain⟨p,a,b,rfl,G,q⟩:=h;obtain⟨u,rfl,x⟩:=w.one;obtain rfl:=x;obtain⟨B,r,A,_⟩:=I.tuple G;cases r with
 |cons z r=>
  cases r with
  |cons y r=>
   cases r
   obtain⟨g,rfl⟩:=z;obtain⟨f,rfl⟩:=y;have C:s.heap.IsTuple p (intItems #[(a,g),(b,f)]):=by have this:s.heap.IsTuple p _:=A;simpa [intItems]using this
   refine Zaq (I.ok.hd E) C (by simp) λv U T J o=>?_;have n:(intItems #[(a,g),(b,f)])[argBest (λi j=>decide (numAt #[(a,g),(b,f)] i<numAt #[(a,g),(b,f)] j)) 1]?=some v:=J;by_cases l:b<a
   ·have e:argBest (λi j=>decide (numAt #[(a,g),(b,f)] i<numAt #[(a,g),(b,f)] j)) 1=1:=by simp[argBest,numAt,l]
    rw[e]at n;obtain rfl:Value.int b f=v:=by simpa [intItems]using n
    rw[WQ l]at q;exact⟨.int b,H,I.kept o,⟨_,rfl⟩,q⟩
   ·have e:argBest (λi j=>decide (numAt #[(a,g),(b,f)] i<numAt #[(a,g),(b,f)] j)) 1=0:=by simp[argBest,numAt,l]
    rw[e]at n;obtain rfl:Value.int a g=v:=by simpa [intItems]using n
    rw[WO l]at q;exact⟨.int a,H,I.kept o,⟨_,rfl⟩,q⟩
def Zfi(E:X.calm=true)(L:autoParam (X.K=K) au_0):Kr X (.builtin "max") (λxs H Q=>∃p a b,xs=[.ref p]/\SqT K H p [.int a,.int b]/\Q (.int (if b>a then b else a)) H):=by
 subst L;intro pins s M H xs N Q I w h;obtain⟨p,a,b,rfl,G,q⟩:=h;obtain⟨u,rfl,x⟩:=w.one;obtain rfl:=x;obtain⟨B,r,A,_⟩:=I.tuple G;cases r with
 |cons z r=>
  cases r with
  |cons y r=>
   cases r
   obtain⟨g,rfl⟩:=z;obtain⟨f,rfl⟩:=y;have C:s.heap.IsTuple p (intItems #[(a,g),(b,f)]):=by have this:s.heap.IsTuple p _:=A;simpa [intItems]using this
   refine Zkw (I.ok.hd E) C (by simp) λv U T J o=>?_;have n:(intItems #[(a,g),(b,f)])[argBest (λi j=>decide (numAt #[(a,g),(b,f)] i>numAt #[(a,g),(b,f)] j)) 1]?=some v:=J;by_cases l:b>a
   ·have e:argBest (λi j=>decide (numAt #[(a,g),(b,f)] i>numAt #[(a,g),(b,f)] j)) 1=1:=by simp[argBest,numAt,l]
    rw[e]at n;obtain rfl:Value.int b f=v:=by simpa [intItems]using n
    rw[WQ l]at q;exact⟨.int b,H,I.kept o,⟨_,rfl⟩,q⟩
   ·have e:argBest (λi j=>decide (numAt #[(a,g),(b,f)] i>numAt #[(a,g),(b,f)] j)) 1=0:=by simp[argBest,numAt,l]
    rw[e]at n;obtain rfl:Value.int a g=v:=by simpa [intItems]using n
    rw[WO l]at q;exact⟨.int a,H,I.kept o,⟨_,rfl⟩,q⟩
end
end Own
namespace Pu
open L2 Own
section
variable {K:ZW}{mg:Ya}{E:L2.St->XK}
def Rz:List S->(S->Prop)->Prop
 |[s],R=>(match s.d with | .tup [.int a,.int b]=>R (.sh<|.int (if b<a then b else a))|_=>False)
 |_,_=>False
def LL:List S->(S->Prop)->Prop
 |[s],R=>(match s.d with | .tup [.int a,.int b]=>R (.sh<|.int (if b>a then b else a))|_=>False)
 |_,_=>False
def Zl3(B:X4 K mg E n r):Xf K mg E (tCB (λxs H Q=>∃p a b,xs=[.ref p]/\SqT K H p [.int a,.int b]/\Q (.int (if b<a then b else a)) H) n) (pCB Rz r):=by
 refine P3 B λT H C Z L G R Q u M N l h q=>?_;unfold Rz at h;split at h
 ·rename_i s;obtain⟨v,rfl,o⟩:=l.one_inv;have f:=o.rp u;split at h
  ·rename_i a b e;rw[e]at f;obtain⟨p,J,rfl,g,w⟩:=Rp.tup_inv f;obtain⟨x,y,rfl,A,z⟩:=w.two_inv;rw[A.int_inv,z.int_inv]at g;exact⟨p,a,b,rfl,SqT.of g,q _ _ C h (Same.refl _) (.int _)⟩
  ·exact h.elim
 ·exact h.elim
def Zds(B:X4 K mg E n r):Xf K mg E (tCB (λxs H Q=>∃p a b,xs=[.ref p]/\SqT K H p [.int a,.int b]/\Q (.int (if b>a then b else a)) H) n) (pCB LL r):=by
 refine P3 B λT H C Z L G R Q u M N l h q=>?_;unfold LL at h;split at h
 ·rename_i s;obtain⟨v,rfl,o⟩:=l.one_inv;have f:=o.rp u;split at h
  ·rename_i a b e;rw[e]at f;obtain⟨p,J,rfl,g,w⟩:=Rp.tup_inv f;obtain⟨x,y,rfl,A,z⟩:=w.two_inv;rw[A.int_inv,z.int_inv]at g;exact⟨p,a,b,rfl,SqT.of g,q _ _ C h (Same.refl _) (.int _)⟩
  ·grind
 ·grind
end
end Pu
namespace M
open L2 Own Pu
noncomputable def ltS(k:Int):ZX->Int
 |[]=>0
 |q::l=>(if q.1<k then q.2 else 0)+ltS k l
noncomputable def NS:ZX->Int
 |[]=>0
 |p::l=>ltS p.1 l*p.2+NS l
theorem LP(k:Int)(a b:Int×Int)(B:ZX):∀A,ltS k (A++a::b::B)=ltS k (A++b::a::B)
 |[]=>by simp only[List.nil_append,ltS];lia
 |q::A=>by simp only[VN,ltS];rw[LP k a b B A]
theorem Oy(a b:Int×Int)(B:ZX):∀A,NS (A++a::b::B)+(if a.1<b.1 then a.2*b.2 else 0)=NS (A++b::a::B)+(if b.1<a.1 then a.2*b.2 else 0)
 |[]=>by
  simp only[List.nil_append,NS,ltS];by_cases f:a.1<b.1
  ·grind
  ·grind
 |q::A=>by
  simp only[VN,NS];rw[LP q.1 a b B A]
  have:=Oy a b B A
  lia
noncomputable def hdN(ps:ZX)(m:Int):Int:=(ps.getD (m-1).toNat (0,0)).1
def Zmw{p}(o:1<=p)(g:p<ns.length):∃A x y B,ns=A++x::y::B/\A.length+1=p/\Pe ns p=A++y::x::B/\ns.getD (p-1) 0=x/\ns.getD p 0=y:=by
 have f:ns.drop (p-1)=ns[p-1]'(by lia)::ns.drop (p-1+1):=QM (by lia);have n:p-1+1=p:=by lia
 rw[n,(QM g)]at f;have l:ns.getD p 0=ns[p]:=by rw[WU,WJ g];rfl
 have h:ns.getD (p-1) 0=ns[p-1]'(by lia):=by grind
 refine⟨ns.take (p-1),ns[p-1]'(by lia),ns[p],ns.drop (p+1),by rw[←f,List.take_append_drop],by rw[Q5];lia,?_,h,l⟩;unfold Pe;rw[l,h];simp
def Zq3{p}(g:1<=p)(f:p<ns.length):(Pe ns p).length=ns.length:=(AI g f).length_eq
noncomputable def rkN(ps:ZX)(o:ZY)(m:Int):Int:=(o.idxOf (hdN ps m):Nat)
def FW(f:ZY)(p:Nat):Prop:=(∀q,1<=q->q<(if p=0 then f.length else p)->f.getD (q-1) 0<=f.getD q 0)/\(p=0\/(1<=p/\p<f.length/\f.getD p 0<f.getD (p-1) 0))
def FW.uniq (h:FW f p) (k:FW f g):p=g:=by
 have n:∀{a b:Nat},FW f a->FW f b->b≠0->(a=0\/b<a)->False:=λ{a b} s o l r=>by
  obtain⟨u,w,v⟩:=o.2.resolve_left l
  have:=s.1 b u (by grind)
  lia
 by_cases x:p=0
 ·grind
 ·grind
abbrev Mo:=Int×Int×Int×Int
inductive Mv (ps:ZX) (f:Int->Int):ZY->List Mo->Prop
 |done (ns:ZY):FW (ns.map f) 0->Mv ps f ns []
 |step (ns:ZY) (p:Nat) (ms:List Mo):FW (ns.map f) p->p≠0->Mv ps f (Pe ns p) ms->Mv ps f ns (((p:Int),ns.getD (p-1) 0,ns.getD p 0,exM ps ns p)::ms)
def BD{f:Int->Int}{ns:ZY}{i}(h:i<ns.length):(ns.map f).getD i 0=f (ns.getD i 0):=by grind
noncomputable def Pg(f:Int->Int)(ns:ZY):Int:=NS (ns.map λm=>(f m,1))
def Oh(f:Int->Int){ns p}(l:1<=p)(g:p<ns.length)(h:f (ns.getD p 0)<f (ns.getD (p-1) 0)):Pg f ns=Pg f (Pe ns p)+1:=by
 obtain⟨A,x,y,B,e,_,o,n,ey⟩:=Zmw l g;rw[n,ey]at h;rw[o,e];unfold Pg;rw[Qb,Qh,Qh,Qb,Qh,Qh];have k:=Oy (f x,1) (f y,1) (B.map λm=>(f m,1)) (A.map λm=>(f m,1));lia
theorem Gm(f:Int->Int)(k:Int):∀l:ZY,0<=ltS k (l.map λm=>(f m,1))/\ltS k (l.map λm=>(f m,1))<=l.length
 |[]=>⟨QU 0,QU 0⟩
 |m::l=>by
  have:=Gm f k l
  rw[Qh,Qf];unfold ltS;lia
theorem Sn(f:Int->Int):∀l,0<=Pg f l/\Pg f l<=(l.length:Int)*l.length
 |[]=>⟨QU 0,QU 0⟩
 |m::l=>by
  have g:=Sn f l;have h:=Gm f (f m) l;unfold Pg at g ⊢;rw[Qh,Qf];unfold NS
  grind
noncomputable def toI:D->Int
 | .int i=>i
 |_=>0
noncomputable def mvN(f:List (Option Pu.S)):Nat:=match f[2]?,f[3]? with
 |some (some<|Pu.S.own<|Pu.O.lst g),some (some<|Pu.S.own<|Pu.O.lst h)=>(Pg (λm=>(g.map toI).getD (m-1).toNat 0)<|h.map toI).toNat
 |_,_=>0
def Cy(xs:ZY):(xs.map D.int).map toI=xs:=by
 rw[Qy];exact List.map_id _
end M
namespace Pu
open L2 Own M
noncomputable abbrev mvD(m:Mo):D:=.tup [.int m.1,.int m.2.1,.int m.2.2.1,.int m.2.2.2]
end Pu
namespace M
open L2 Own Pu
def Mv.len (h:Mv ps f ns l):(l.length:Int)<=Pg f ns:=by
 induction h with
 |done ns hw=>exact(Sn f ns).1
 |step ns p l o s v u=>
  obtain⟨r,g,n⟩:=o.2.resolve_left s;rw[WI]at g;rw[BD g,BD (by lia)]at n
  have:=Oh f r g n
  grind
end M
namespace Pu
open L2 Own
section
variable {X:Cx}{k j:Nat}{x:Str}{ps:Yf}{sp:Sp}{e a b c:Expr}{es:Yg}{t:TA}{te tf tg:TE}{p pos:Pos}
def fz(C:Callee X.prog X.w X.K X.mg X.base CX0 k x ps sp)(h:Xv j X.A)(r:PA X (e::es) t)(l:autoParam (k<=j) au_1)(n:autoParam (Gl X x) au_0)(g:autoParam ((x==("__debug__" : Str))=false) au_1)(o:autoParam (starEach (e::es) X.env=(false,eval e X.env)::starEach es X.env) au_0)(f:autoParam ((backTo pos<|starEach es X.env).any (·.1)=false) au_0) :
  PE X (.Call (.Name x p) (e::es) [] pos) (Nf sp [] E0 t):=Bt C (h.mono l) X2 r n g o f
def jx(K:ZW)(g:PE X a te)(f:PE X b tf)(h:autoParam (X.K=K) au_0)(hs:autoParam (Em b) au_7):PE X (.Subscript a b pos) (tOp (λx y H Q=>PY K x y H Q\/Tf K x y H Q) te tf):=HS (Ia h) g f hs
def ln(K:ZW)(g:X.mg "len"=none)(l:PE X a te)(o:autoParam (X.K=K) au_0)(h:autoParam (Gl X "len") au_0)(hs:autoParam (starEach [a] X.env=(false,eval a X.env)::starEach [] X.env) au_0)(f:autoParam ((backTo pos<|starEach [] X.env).any (·.1)=false) au_0) :
  PE X (.Call (.Name "len" p) [a] [] pos) (tCB (λxs H Q=>∃x n,xs=[x]/\F5 K x H n/\Q (.int (n:Nat)) H)<|XW te KH):=Ki (Zry o) h g PySem.boot_len (XC l Ky hs) (by decide) rfl hs f
def cq(K:ZW)(f:Xv j X.A)(h:PE X a te)(g:PE X b tf)(l:autoParam (X.K=K) au_0):PT X (.Compare a [.Eq] [b] pos) (Ac<|tOp (λx y H Q=>rEq x y H Q\/Nj K false x y H Q) te tf):=P5 (Sg f.units0 l) h g (KZ _)
def cn(K:ZW)(f:Xv j X.A)(h:PE X a te)(g:PE X b tf)(l:autoParam (X.K=K) au_0):PT X (.Compare a [.NotEq] [b] pos) (Ac<|tOp (λx y H Q=>rNe x y H Q\/Nj K true x y H Q) te tf):=P5 (Zfs f.units0 l) h g (KZ _)
def az(f:PE X a te)(g:autoParam (starEach [a] X.env=(false,eval a X.env)::starEach [] X.env) au_0):PA X [a] (XW te KH):=XC f Ky g
def bz(g:PE X a te)(f:PE X b tf)(l:autoParam (starEach [a,b] X.env=(false,eval a X.env)::starEach [b] X.env) au_0)(h:autoParam (starEach [b] X.env=(false,eval b X.env)::starEach [] X.env) au_0):PA X [a,b] (XW te<|XW tf KH):=XC g (XC f Ky h) l
def dz(h:PE X a te)(g:PE X b tf)(f:PE X c tg)(o:autoParam (starEach [a,b,c] X.env=(false,eval a X.env)::starEach [b,c] X.env) au_0)(n:autoParam (starEach [b,c] X.env=(false,eval b X.env)::starEach [c] X.env) au_0)(l:autoParam (starEach [c] X.env=(false,eval c X.env)::starEach [] X.env) au_0):PA X [a,b,c] (XW te<|XW tf<|XW tg KH):=XC h (XC g (XC f Ky l) n) o
end
section
variable {K:ZW}{mg:Ya}{E:L2.St->XK}{ta tb tc:TE}{a b c:PTE}
def sz(f:Xf K mg E ta a):X4 K mg E (XW ta KH) (Pf a Tz):=KQ f Xw
def tz(g:Xf K mg E ta a)(f:Xf K mg E tb b):X4 K mg E (XW ta<|XW tb KH) (Pf a<|Pf b Tz):=KQ g (sz f)
def uz(h:Xf K mg E ta a)(g:Xf K mg E tb b)(f:Xf K mg E tc c):X4 K mg E (XW ta<|XW tb<|XW tc KH) (Pf a<|Pf b<|Pf c Tz):=KQ h (tz g f)
end
section
variable {K:ZW}{h:Heap}{mg:Ya}{C C':Addr}{x m q:Str}{st:Stmt}{ps:Yf}
abbrev Bd(x q:Str)(st:Stmt)(ps:Yf):Prop:=∀(kV g n:Value) (p:Yj) (l o:Value) (f:Ye),f.length=ps.length->bindArgs (PySem.W.fnOf x q (Py st) (XS st) (Xg st) .none kV g n p l o) ⟨f,[]⟩=pure (ps.zip f)
def DI.e (D:DI K x st) (X:K.In h) (g:h.Ns mainGlobals mg) (b:Bd x x st ps:=by
  intro _ _ _ _ _ _ us f
  first
   |(obtain⟨_,rfl⟩:=Pu.Be f;rfl)
   |(obtain⟨_,_,rfl⟩:=Pu.FY f;rfl)
   |(obtain⟨_,_,_,rfl⟩:=Pu.Ff f;rfl)
   |(obtain⟨_,_,_,_,rfl⟩:=Pu.Dz f;rfl)
   |(obtain⟨_,_,_,_,_,rfl⟩:=Pu.Zk0 f;rfl)):Def K mg x st ps:=D.d X g b
def MI.e (D:MI K C m q st) (e:C'=C) (b:Bd m q st ps:=by
  intro _ _ _ _ _ _ us f
  first
   |(obtain⟨_,rfl⟩:=Pu.Be f;rfl)
   |(obtain⟨_,_,rfl⟩:=Pu.FY f;rfl)
   |(obtain⟨_,_,_,rfl⟩:=Pu.Ff f;rfl)
   |(obtain⟨_,_,_,_,rfl⟩:=Pu.Dz f;rfl)):X7 K (X0 K C' m) m q st ps:=D.d e b
def MI.j (D:MI K C "__init__" q st) (e:C'=C) (mk:PySem.W.makesIn K C=true) (g:PySem.W.keepIn K (.ref C)=true) (b:Bd "__init__" q st ps:=by
  intro _ _ _ _ _ _ us f
  first
   |(obtain⟨_,rfl⟩:=Pu.Be f;rfl)
   |(obtain⟨_,_,rfl⟩:=Pu.FY f;rfl)
   |(obtain⟨_,_,_,rfl⟩:=Pu.Ff f;rfl)):X7 K (Mk K C') "__init__" q st ps:=D.i e mk g b
end
section
variable {P:Program}{w:World}{K:ZW}{mg:Ya}{base:Heap}{N ps:Yf}{sp:Sp}{p:PTS}{x q:Str}{st:Stmt}{k:Nat}{W:Addr->Prop}
structure Uz (K:ZW) (mg:Ya) (N ps:Yf) (sp:Sp) (p:PTS):Prop where
 len:∀vs H Q E,sp vs H Q E->vs.length=ps.length
 run:∀vs H Q E t,sp vs H Q E->Xu K mg (λ_=>E) t p->t {nx:=λ_ H'=>Q .non H',rt:=Q} (start N vs) H
def Uz.a (f:∀ds R X,c ds R X->ds.length=ps.length/\p {nx:=λ_=>R (.sh .non),rt:=R,ex:=λ_ e=>X e} (PN N ds)) (g:autoParam (ps.length<=N.length) au_1):Uz K mg N ps (Xl mg c K) p:=
 ⟨λ_ _ _ _ h=>Zsf h λds R X z=>(f ds R X z).1,λ_ _ _ _ _ h s=>Zij h s g f⟩
def Uz.b (g:∀f R X,c f R X->f.length=ps.length/\p {nx:=λ_=>R (.sh .non),rt:=R,ex:=λ_ e=>X e} (Nw N f)) (l:autoParam (ps.length<=N.length) au_1):Uz K mg N ps (spS mg c K) p:=
 ⟨λ_ _ _ _ h=>Zce h λn R X z=>(g n R X z).1,λ_ _ _ _ _ h s=>Zl8 h s l g⟩
def Uz.c {c y} (g:∀o f R X,c o f R X->f.length=ps.length/\p (Om o R X) (Nl N o f)) (l:autoParam (ps.length+1<=N.length) au_1):Uz K mg N (y::ps) (spW mg c K) p:=
 ⟨λ_ _ _ _ h=>Zgg h λo n R X z=>(g o n R X z).1,λ_ _ _ _ _ h s=>Zkj h s l g⟩
def Uz.d {c y z} (l:∀o1 f g R X,c o1 f g R X->g.length=ps.length/\p (HZ o1 f R X) (Ti N o1 f g)) (n:autoParam (ps.length+2<=N.length) au_1):Uz K mg N (y::z::ps) (Nu mg c K) p:=
 ⟨λ_ _ _ _ h=>Zp4 h λo1 f o R X z=>(l o1 f o R X z).1,λ_ _ _ _ _ h s=>Zh4 h s n l⟩
def _root_.Own.Def.oz (D:Def K mg x st ps) (S:Xh N ps (Xg st))
  (l:∀f g A outer s H E,Xv k (A.deeper<|envOfC x (Xg st) s.heap.objs.size f g)->
   ∃t,PSs (XY CX0 P w K mg base N x (Xg st) f g A outer s H E).nox (XS st) t/\Xu K mg (λ_=>E) t p) (u:Uz K mg N ps sp p):Callee P w K mg base CX0 (k+1) x ps sp:=
 D.ok S u.len λf g A outer s H o Q E n h=>(l f g A outer s H E n).elim λt z=>⟨t,z.1,u.run _ _ _ _ _ h z.2⟩
def _root_.Own.Def.ox (D:Def K mg x st ps) (S:Xh N ps (Xg st))
  (l:∀f g A outer s H E,Xv k (A.deeper<|envOfC x (Xg st) s.heap.objs.size f g)->
   ∃t,PSs (XY (ExcR.CXe P w) P w K mg base N x (Xg st) f g A outer s H E) (XS st) t/\Xu K mg (λ_=>E) t p) (u:Uz K mg N ps sp p):Callee P w K mg base (ExcR.CXe P w) (k+1) x ps sp:=
 ExcR.Def.okX D S u.len λf g A outer s H o Q E n h=>(l f g A outer s H E n).elim λt z=>⟨t,z.1,u.run _ _ _ _ _ h z.2⟩
def X7.oz (D:X7 K W x q st ps) (S:Xh N ps (Xg st))
  (l:∀f g A outer s H E,Xv k (A.deeper<|envOfC q (Xg st) s.heap.objs.size f g)->
   ∃t,PSs (XY CX0 P w K mg base N q (Xg st) f g A outer s H E).nox (XS st) t/\Xu K mg (λ_=>E) t p) (u:Uz K mg N ps sp p):PB P w K mg base CX0 (k+1) W ps sp:=
 D.ok S u.len λf g A outer s H o Q E n h=>(l f g A outer s H E n).elim λt z=>⟨t,z.1,u.run _ _ _ _ _ h z.2⟩
def X7.ox (D:X7 K W x q st ps) (S:Xh N ps (Xg st))
  (l:∀f g A outer s H E,Xv k (A.deeper<|envOfC q (Xg st) s.heap.objs.size f g)->
   ∃t,PSs (XY (ExcR.CXe P w) P w K mg base N q (Xg st) f g A outer s H E) (XS st) t/\Xu K mg (λ_=>E) t p) (u:Uz K mg N ps sp p):PB P w K mg base (ExcR.CXe P w) (k+1) W ps sp:=
 D.okX S u.len λf g A outer s H o Q E n h=>(l f g A outer s H E n).elim λt z=>⟨t,z.1,u.run _ _ _ _ _ h z.2⟩
end
section
variable {K:ZW}{h:Heap}{mg:Ya}{x:Str}{C:Addr}
structure EI (K:ZW) (x:Str) (C:Addr):Prop where
 a:PySem.W.nsIn K mainGlobals x=some (some<|.ref C)
 g:ExcR.K8 K C
def ei(a:PySem.W.nsIn K mainGlobals x=some (some<|.ref C))(q:PySem.W.excIn K C [.type "ValueError",.type "Exception",.type "BaseException",.type "object"] "ValueError.__new__"=true)(g:PySem.W.findIn K (.ref C) "__getattribute__"=some (some<|.builtin "BaseException.__getattribute__"))(f:PySem.W.findIn K (.ref C) "__getattr__"=some none)(l:PySem.W.findIn K (.ref C) "__class__"=some (some<|.builtin "object.__class__"))(i:PySem.W.clsIn K C=some d):EI K x C:=⟨a,⟨⟨q⟩,g,f,l,by rw[i];rfl⟩⟩
def EI.c (y:EI K x C) (X:K.In h) (f:h.Ns mainGlobals mg):ExcR.Xq mg x=C:=ExcR.Mi (QO X f y.a)
def EI.m (y:EI K x C) (X:K.In h) (f:h.Ns mainGlobals mg):mg x=some (.ref<|ExcR.Xq mg x):=by rw[y.c X f];exact QO X f y.a
def EI.k (y:EI K x C) (X:K.In h) (f:h.Ns mainGlobals mg):ExcR.K8 K (ExcR.Xq mg x):=by rw[y.c X f];exact y.g
end
section
variable {K:ZW}{mg:Ya}{E:L2.St->XK}{H0 H H1 H':Hp}{B Z Z':Addr->Prop}{σ:L2.St}{γ:Γ}
noncomputable def Zja(a b:PTE):PTE:=λγ R X=>a γ (λs=>b γ (λu=>match s,u with
 | .own (.lst g),.own (.lst f)=>XF g=true/\XF f=true/\∀x y,R (.own<|.nst [(x,g),(y,f)])
 |_,_=>False) X) X
def Zob{a b}(ha:Xf K mg E G a)(hb:Xf K mg E C b):Xf K mg E (E4<|XW G<|XW C KH) (Zja a b):=by
 intro H0 B H σ γ R X Q p h q M;refine ha H0 B H σ γ _ X _ p h (λs v H1 p1 A G=>?_) M;have f:=p.grow A;refine hb H0 B H1 σ γ _ X _ f p1 (λu w H2 p2 r C=>?_) λc H' n S'=>M c H' n (A.trans S');split at p2
 ·rename_i d1 d2;obtain⟨i1,i2,p2⟩:=p2;obtain⟨x,rfl,x0,vs,L,x2⟩:=G;obtain⟨y,rfl,y0,ws,y1,Y⟩:=C;have N:=y0 y rfl;refine⟨by show 2<=sizeLine;decide,λl nl=>?_⟩;have g:=XX (o:=.tup [.ref x,.ref y]) nl;have U:=g _ _ (r _ _ L);have T:=g _ _ y1
  have J:∀c,(zof B γ σ c\/(O.nst [(x,d1),(y,d2)]).adr l c)->Mut (upd H2 l (.tup [.ref x,.ref y]) c):=λc z=>by
   rcases z with z|⟨e,he,z⟩
   ·exact Px g ((f.grow r).zm c z)
   ·rcases WX.mp he with rfl|he
    ·rw[z,U];trivial
    ·rw[WN.mp he]at z;rw[z,T];trivial
  refine q _ _ _ (p2 x y) ((A.trans r).trans g) ⟨l,rfl,?_,?_,?_,?_⟩
  ·rintro c ⟨e,he,rfl⟩;rcases WX.mp he with rfl|he
   ·exact(x0 x rfl)
   ·rw[WN.mp he];exact A.free N
  ·refine XQ X9 λz=>?_
   have:=J l z
   rw[X9]at this;exact this
  ·rintro c n;rcases WX.mp n with rfl|n
   ·exact⟨vs,U,Rps.off J (Rps.mono (off_sub.trans<|r.trans g) x2) i1⟩
   ·rw[WN.mp n];exact⟨ws,T,Rps.off J (Rps.mono (off_sub.trans g) Y) i2⟩
  ·show[x,y].Nodup;simp[(Kz L N)]
 ·exact p2.elim
def G7{f:List (Addr×List D)}{k j c}(h:ixN f.length k=some j)(g:f[j]?=some c):atI (f.map λc=>V.ref c.1) k=some (.ref c.1):=by
 unfold atI
 grind
end
theorem NoFld.of:∀{xs:Yf},(xs.all λx=>!(m==x))=true->NoFld m xs
 |[],_,_|_::_,_,[]=>rfl
 |x::xs,h,v::f=>by
  rw[Jt,Qr]at h;show(match m==x with|true=>some v|false=>(xs.zip f).lookup m)=none
  rw[show(m==x)=false by simpa using h.1];exact NoFld.of h.2 f
theorem FldAt.of (n:(f==f)=true):∀{xs}{j:Nat},((xs.take j).all λx=>!(f==x))=true->xs[j]?=some f->FldAt f xs j
 |[],_,_,e,_,_=>by simp at e
 |_::_,_,_,_,[],e=>rfl
 |x::xs,0,_,e,v::g,_=>by
  simp_all
 |x::xs,j+1,h,e,v::g,l=>by
  rw[List.take_succ_cons,Jt,Qr]at h;show(match f==x with|true=>some v|false=>(xs.zip g).lookup f)=(v::g)[j+1]?
  rw[show(f==x)=false by simpa using h.1];exact FldAt.of n h.2 (by grind) g (by grind)
theorem PutAt.of:∀{xs:Yf},(xs.all λx=>decide (x≠f))=true->PutAt f xs
 |[],_,[],_,_=>rfl
 |[],_,_::_,_,e|_::_,_,[],_,e=>by cases e
 |x::xs,h,v::g,y,e=>by
  rw[Jt,Qr]at h;show(if x=f then(x,y)::xs.zip g else(x,v)::KO f y (xs.zip g))=(x,v)::(xs++[f]).zip (g++[y]);rw[WO (WM h.1),PutAt.of h.2 g y (by grind)]
section
variable {K:ZW}{mg:Ya}{E:L2.St->XK}{H0 H H1 H':Hp}{B Z Z':Addr->Prop}{σ:L2.St}{γ:Γ}
def Zej{a b}(l:Xf K mg E g a)(h:Xf K mg E f b):Xf K mg E (tOp (rI Su λi j=>.int (i*2 ^ j.toNat)) g f) (p2 a b (fI Su λi j=>.int (i*2 ^ j.toNat))):=Ba (λ_ _ _=>.int _) l h
def Xk.cellL {f b ds es us} (env:Xk K H0 B H σ γ) (C:γ[i]?=some (some<|.own<|.nsl x f)) (p:f[j]?=some (b,ds)) (r:Rps K (off (zof B γ σ) H) es us) :
  Xk K H0 B (upd H b<|.lst us) σ (γ.set i<|some<|.own<|.nsl x<|f.set j (b,es))/\Fr B H σ γ (upd H b<|.lst us) σ (γ.set i<|some<|.own<|.nsl x<|f.set j (b,es)):=by
 obtain⟨v,N,a,rfl,e0,e1,e3,e4,T⟩:=env.slot i _ C;subst e1;have l:=Qe p;have Q:=Qv.mp T;have G:a≠b:=λz=>Q.1 (Qj.mpr ⟨_,l,z.symm⟩)
 have em:(f.set j (b,es)).map (·.1)=f.map (·.1):=by
  apply Jn;intro k;rw[WY,WY,JQ];by_cases e:j=k
  ·subst e;rw[WQ rfl,WQ ((Qq.mp p).1),p];rfl
  ·rw[WO e]
 have J:(f.set j (b,es)).map (λc=>V.ref c.1)=f.map λc=>V.ref c.1:=by
  have:=Q4 (List.map V.ref) em
  rw[Qy,Qy]at this;exact this
 have adr:∀c,(O.nsl a<|f.set j (b,es)).adr a c->(O.nsl a f).adr a c:=λc g=>by
  rcases g with g|⟨d,hd,g⟩
  ·exact .inl g
  ·have:d.1∈(f.set j (b,es)).map (·.1):=VB hd
   rw[em]at this;obtain⟨d',w,o⟩:=Qj.mp this;exact .inr ⟨d',w,g.trans o.symm⟩
 have s:∀c,(O.nsl a f).adr a c->zof B γ σ c:=λc g=>.inr ⟨i,_,a,C,N,g⟩
 have U:Same (off (zof B γ σ) H) (off (zof B (γ.set i<|some<|.own<|.nsl a<|f.set j (b,es)) σ)<|upd H b<|.lst us):=λc u h=>by
  obtain⟨w,o⟩:=Pn h;have y:=λz=>o (s c<|.inr ⟨_,l,z⟩);refine XQ (by rw[Xx y];exact w) λz=>o ?_;rcases z with z|⟨k,fs,a',k1,k2,M⟩
  ·exact .inl z
  ·rcases XN k1 with⟨L,q,_⟩|⟨_,e⟩
   ·subst L;cases q
    exact s c (adr c M)
   ·exact .inr ⟨k,fs,a',e,k2,M⟩
 refine env.change C N (λc u hu n=>?_) (λc g=>?_) (λc g=>.inl (adr c g)) ⟨rfl,?_,λc g=>?_,by rw[em];exact T⟩
 ·rw[Xx λz=>n (.inr ⟨_,l,z⟩)];exact hu
 ·by_cases z:c=b
  ·rw[z,X9];trivial
  ·rw[Xx z];exact env.zm c (s c g)
 ·rw[J,Xx G];exact e3
 ·obtain⟨k,hk,L⟩:=JE g;have A:(f.set j (b,es))[k]?=some c:=by rw[WJ hk,L]
  rcases XN A with⟨_,q,_⟩|⟨nk,q⟩
  ·subst q;exact⟨us,X9,Rps.mono U r⟩
  ·obtain⟨Y,w1,w2⟩:=e4 c (Qe q)
   have y:=λz=>nk (by
    have h1:(f.map (·.1))[k]?=some b:=by rw[WY,q];exact Q4 some z
    have h2:(f.map (·.1))[j]?=some b:=by rw[WY,p];rfl
    exact DU Q.2 h1 h2)
   exact⟨Y,by rw[Xx y];exact w1,Rps.mono U w2⟩
structure Zfh (φ:Yc) (γ:Γ) (g:PTG) (c:PTT) (e:PTE) (n:Nat) (item:Nat->S) (R:S->Prop):Prop where
 w:n<=100000/\∃f:Nat->List D,(∀i,i<n->g (item i) (atP φ γ) λγ2=>c γ2 (λb=>b=true/\e γ2 (λs=>s=.own (.lst<|f i)/\XF (f i)=true) (λ_=>False)) (λ_=>False))/\∀(x:Addr) (cs:List (Addr×List D)),cs.map (·.2)=(List.range n).map f->R (.own<|.nsl x cs)
noncomputable def Ziq(φ:Yc)(f:PTI)(g:PTG)(c:PTT)(e:PTE):PTE:=λγ R X=>f γ (λn item=>Zfh φ γ g c e n item R) X
def Zju{φ is wi g tc te it pg c a}(hi:NW K mg E wi it)(hg:TN K is g pg)(l:K4 K mg E tc c)(he:Xf K mg E te a)(h1:autoParam ((φ.filterMap id).Nodup) au_1)(h2:autoParam (∀j∈is,φ[j]?=some none) au_1):Xf K mg E (SE φ wi g tc te) (Ziq φ it pg c a):=by
 intro H0 B H σ γ R X Q env h q qx;refine hi H0 B H σ γ _ X _ env h (λn item J H1 h1' S1 ok=>?_) qx;obtain⟨hn,f,hf,hR⟩:=h1'.w;have A:=env.grow S1;have hbig:n<=sizeLine:=WV hn (by decide);intro L nL
 refine⟨λi m ys M=>m=n-i/\i<=n/\Same H1 M/\M L=some (.lst ys)/\∃G:List (Addr×List D),ys=G.map (λc=>V.ref c.1)/\G.map (·.2)=(List.range i).map f/\(∀c∈G,H c.1=none/\XF c.2=true/\∃vs,M c.1=some (.lst vs)/\Rps K (off (λb=>b=L) M) c.2 vs)/\(L::G.map (·.1)).Nodup,
  ⟨n,by simp,QD _,XX nL,X9,[],rfl,rfl,(λc l=>nomatch l),by simp⟩,?_⟩
 rintro i m ys M ⟨rfl,hin,U,hL,G,rfl,ec,r,hnd⟩;have u:=A.grow U;by_cases hlt:i<n
 ·have envI2:=Ol A U nL ⟨_,hL⟩ h1;obtain⟨go,yl⟩:=ok.go i M _ hlt U ⟨u.same,envI2.zm,λb o p z=>⟨U _ _ p,DM A nL b o p z⟩⟩;refine .inr ⟨go,λx H3 y=>?_⟩;obtain⟨S3,tv⟩:=yl x H3 y;refine hg H0 _ M H3 _ _ _ _ _ _ envI2 S3 tv (hf i hlt) λσ2 γ2 p2 e2 f2 N=>⟨?_,?_⟩
  ·refine Sub.of N.2 N.1 λj hj v z=>?_;obtain⟨k,k1,_⟩:=D5 z;rw[h2 j hj]at k1;cases k1
  ·refine l H0 _ H3 σ2 γ2 _ _ _ e2 p2 (λb H5 q5 S5=>?_) λ_ _ z=>z.elim;obtain⟨rfl,q5⟩:=q5;rw[WQ rfl];refine he H0 _ H5 σ2 γ2 _ _ _ (e2.grow S5) q5 (λs v H6 q6 S6 t6=>?_) λ_ _ z=>z.elim;obtain⟨rfl,him⟩:=q6;obtain⟨a,rfl,a0,vs,a1,a2⟩:=t6;have T:=S3.trans S5;have C:=T.trans S6;have na:=a0 a rfl;have aL:a≠L:=λz=>by have:=T _ _ hL;rw[←z,na]at this;cases this
   have hlen:(G.map λc=>V.ref c.1).length<=i:=by
    have:=Q4 List.length ec
    rw[WI,WI,Jo]at this;rw[WI];lia
   have So:Same (off (λb=>b=L) H6) (off (λb=>b=L)<|upd H6 L<|.lst ((G.map λc=>V.ref c.1)++[V.ref a])):=λb o h=>by
    obtain⟨k1,N⟩:=Pn h;exact XQ (by rw[Xx N];exact k1) N
   refine⟨C _ _ hL,by lia,n-(i+1),by lia,rfl,hlt,λb o p=>?_,X9,G++[(a,f i)],by rw[Qb];rfl,by rw[Qb,ec,List.range_succ,Qb];rfl,λc l=>?_,?_⟩
   ·rw[Xx (Kz p nL)];exact C _ _ (U _ _ p)
   ·rcases Qi.mp l with l|l
    ·obtain⟨k1,N,us,Y,k4⟩:=r c l;exact⟨k1,N,us,by rw[Xx (λz=>(Qv.mp hnd).1 (Qj.mpr ⟨c,l,z⟩))];exact C _ _ Y,Rps.mono So (Rps.mono (Xs C λ_ _ _ z=>z) k4)⟩
    ·rw[WN.mp l];refine⟨(S1.trans<|U.trans T).free na,him,vs,by rw[Xx aL];exact a1,Rps.mono So (Rps.off (λb z=>?_) (Rps.mono off_sub a2) him)⟩;rw[z,C _ _ hL];trivial
   ·rw[Qb];refine QG.mpr ⟨hnd,by simp,λb p d hd z=>?_⟩;rw[WN.mp hd]at z;rcases WX.mp p with k|k
    ·exact aL (z.symm.trans k)
    ·obtain⟨c,l,ec⟩:=Qj.mp k;obtain⟨_,_,us,Y,_⟩:=r c l
     have:=T _ _ Y
     rw[ec,z,na]at this;cases this
 ·have:i=n:=by lia
  subst this
  have hm:∀b,zof B γ σ b\/(O.nsl L G).adr L b->Mut (M b):=λb z=>by
   rcases z with z|z|⟨c,l,z⟩
   ·exact u.zm b z
   ·rw[z,hL];trivial
   ·obtain⟨_,_,us,Y,_⟩:=r c l;rw[z,Y];trivial
  refine .inl ⟨ok.stop M _ U (Later.of u<|Fr.grow U),q _ _ M (hR L G ec) (S1.trans U) ⟨L,rfl,λb p=>?_,rfl,hL,λc l=>?_,hnd⟩⟩
  ·rcases p with p|⟨c,l,p⟩
   ·rw[p];exact S1.free nL
   ·rw[p];exact(r c l).1
  ·obtain⟨_,N,us,Y,k4⟩:=r c l;exact⟨us,Y,Rps.off hm (Rps.mono off_sub k4) N⟩
end
end Pu
namespace M
open L2 Own Pu
theorem Gd{ws}(s:∀q∈ws,q.1≠q.2)(v:¬ ∃r,Ring hs ws r):∀n f,f.length=n->(∀x∈f,x∈hs)->∃o,o.Perm f/\Keeps ws o
 | 0,f,h,_=>⟨[],by rw[Vt.mp h],.nil⟩
 |n+1,f,h,g=>by
  have p:f≠[]:=λz=>by rw[z]at h;simp at h
  have hx:∃x∈f,∀y∈f,(y,x)∉ws:=Qt λz=>by
   obtain⟨r,R⟩:=Cu s p λx hx=>Qt λk=>z ⟨x,hx,λy l w=>k ⟨y,l,w⟩⟩;exact v ⟨r,{R with sub:=λx hx=>g x (R.sub x hx)}⟩
  obtain⟨x,hx,l⟩:=hx;obtain⟨o,u,B⟩:=Gd s v n (f.erase x) (by grind) λz A=>g z (List.mem_of_mem_erase A);exact⟨x::o,(u.cons x).trans (List.perm_cons_erase hx).symm,Vd.mpr ⟨λb C=>l b (List.mem_of_mem_erase<|u.mem_iff.mp C),B⟩⟩
end M
namespace ExcR
open L2
open Sem (wp)
open Builtin Builtin.ObjectAttr
noncomputable def Bv:Ye:=[.type "ValueError",.type "Exception",.type "BaseException",.type "object"]
noncomputable def Cn:Ye->Bool
 | .ref _::r=>Cn r
 |l=>l==Bv
structure Zsg (K:ZW) (C:Addr):Prop where
 po:(PySem.W.clsIn K C).any (λcd=>Cn cd.mro&&cd.hasDict)=true
 sa:PySem.W.findIn K (.ref C) "__setattr__"=some (some<|.builtin "object.__setattr__")
end ExcR
namespace ExcR
open L2
section
variable {X:Cx}{pins:ZZ}{σ:L2.St}{H:Hp}{s:Shared}{a b:Addr}
noncomputable def er(H:Hp)(a:Addr):Hp:=λb=>if b=a then none else H b
end
def Zhc(K:ZW)(C f:Addr):Prop:=∃(s:Yj) (g:ClassData) (sl:Array (Yi)) (h:Ye) (r p o n l:Yi),K.lookup C=some ⟨.type "type",s,.cls g,sl⟩/\g.mro=.ref C::h/\
 sl.toList=[r,p,o,n,some (.builtin "ValueError.__new__"),l]/\g.hasDel=false/\PySem.W.tailIn K Bv h=true/\PySem.W.nsOkIn K g.ns=true/\PySem.W.nsIn K g.ns "__init__"=some (some<|.ref f)
structure Zpv (K:ZW) (C f:Addr):Prop where
 q:Zhc K C f
 fn:PySem.W.typeIn K (.ref f)=some (.type "function")
 st:Zsg K C
 ga:PySem.W.findIn K (.ref C) "__getattribute__"=some (some<|.builtin "BaseException.__getattribute__")
 gt:PySem.W.findIn K (.ref C) "__getattr__"=some none
 nm:NoAttr K C "members"
 cl:PySem.W.findIn K (.ref C) "__class__"=some (some<|.builtin "object.__class__")
end ExcR
namespace Pu
open L2 Own
structure RI (K:ZW) (x:Str) (C:Addr) (q:Str) (st:Stmt):Prop where
 a:PySem.W.nsIn K mainGlobals x=some (some<|.ref C)
 ex:∃f fd,ExcR.Zpv K C f/\Fun K "__init__" q st f fd
section
variable {K:ZW}{h:Heap}{mg:Ya}{x q:Str}{st:Stmt}{C M N f:Addr}
def Zbl{cd:ClassData}(m:PySem.W.excIn K M ExcR.Bv "ValueError.__new__"=true):PySem.W.tailIn K ExcR.Bv (.ref M::ExcR.Bv)=true:=by
 unfold PySem.W.excIn at m;split at m
 next A cd sl g=>
  split at m
  next E B v u s r n p y w=>
   simp only[Qr,beq_iff_eq,Bool.not_eq_true']at m;obtain⟨⟨⟨_,z⟩,o⟩,l⟩:=m;unfold PySem.W.tailIn;rw[Bool.or_eq_true];right
   try dsimp only
   rw[g]
   try dsimp only
   rw[o,l];rfl
  grind
 next=>cases m
def ri{cd sl y k0 k1 k2 k3 k5 T es n oc B U o kV s z g ct}(a:PySem.W.nsIn K mainGlobals x=some (some<|.ref C))(l:K.lookup C=some ⟨.type "type",dd,.cls cd,sl⟩)(u:cd.mro=.ref C :: .ref M::[.type "ValueError",.type "Exception",.type "BaseException",.type "object"])(dl:cd.hasDel=false)(r:cd.hasDict=true)(p:sl.toList=[k0,k1,k2,k3,some (.builtin "ValueError.__new__"),k5])(v:cd.ns=N)(G:K.lookup N=some ⟨T,Y,.dict es n,y⟩)(A:(es.toList.all λe=>match e.key with | .str _ _=>true|_=>false)=true)(i:PySem.W.nsIn K N "__init__"=some (some<|.ref f))(m:PySem.W.excIn K M [.type "ValueError",.type "Exception",.type "BaseException",.type "object"] "ValueError.__new__"=true)(fn:PySem.W.isFn K (.ref f)=true)(w:PySem.W.findIn K (.ref C) "__setattr__"=some (some<|.builtin "object.__setattr__"))(L:PySem.W.findIn K (.ref C) "__getattribute__"=some (some<|.builtin "BaseException.__getattribute__"))(J:PySem.W.findIn K (.ref C) "__getattr__"=some none)(H:PySem.W.findIn K (.ref C) "__class__"=some (some<|.builtin "object.__class__"))(nm:PySem.W.findIn K (.ref C) "members"=some none)(E:K.lookup f=some ⟨oc,B,.func (PySem.W.fnOf "__init__" q (Py st) (XS st) (Xg st) .none kV s z U g ct),o⟩)(c:PySem.W.codeIn K g q=true)(k:PySem.W.keepIn K (.ref f)=true):RI K x C q st:=by
 have Q:PySem.W.clsIn K C=some cd:=by unfold PySem.W.clsIn;rw[l]
 refine⟨a,f,_,⟨?_,beq_iff_eq.mp fn,⟨?_,w⟩,L,J,nm,H⟩,Fu E c k⟩
 ·refine⟨dd,cd,sl,_,k0,k1,k2,k3,k5,l,u,p,dl,Zbl (cd:=cd) m,?_,by rw[v];exact i⟩;rw[v];unfold PySem.W.nsOkIn;rw[G];show(es.all _)=true;rw[←Array.all_toList];omega
 ·rw[Q];show(ExcR.Cn cd.mro&&cd.hasDict)=true;rw[u,r];rfl
end
end Pu
namespace M
open L2 Own Pu
noncomputable def pcc(ps:ZX):Int->Int->Int:=λx y=>pcM ps x y ps.length
end M
namespace Pu
open L2 Own
def hq{A}(h:Xv j A)(f:autoParam (k<=j) au_1):Xv k A:=h.mono f
section
variable {X:Cx}{sc:Scope}{elt iter tg:Expr}{ifs:Yg}{pos:Pos}{wi:TI}{g:TG}{tc:TT}{te:TE}{x:Str}
def cz(N':Yf)(φ:Yc)(p:PI X tg iter wi)(n:∀{o C f h ex},PG (Ko X N' sc o C f h ex) tg g/\NQ (Ko X N' sc o C f h ex) ifs tc/\PE (Ko X N' sc o C f h ex) elt te)(l:autoParam (X.calm=true) au_0)(S:autoParam (B0 sc X.env.scope X.N N' φ=true) au_0)(hs:autoParam (∀x,foldedSetIterable iter X.env x=pure x) au_3):PE X (.ListComp elt [⟨tg,iter,ifs,0⟩] sc pos) (SE φ wi g tc te):=EW l (.of S) p (λ_ _ _ _ _=>n) hs
def gk(i:Nat)(l:autoParam (decide X.N.Nodup=true) au_8)(f:autoParam (X.N[i]?=some x) au_0)(hx:autoParam (Loc X.env.scope x) au_6)(h:autoParam (X.fn x=true\/X.env.scope.names.lookup x=some .local) au_2):PG X (.Name x pos) (Sb i):=AF (WM l) f hx h
end
section
variable {P:Program}{w:World}{K:ZW}{mg:Ya}{base:Heap}{N ps:Yf}{sp:Sp}{p:PTS}{x q:Str}{st:Stmt}{k:Nat}{W:Addr->Prop}
def _root_.Own.Def.ez (D:Def K mg x st ps) (S:Xh N ps (Xg st))
  (h:∀{f g A outer s H} {E:XK},Xv k (A.deeper<|envOfC x (Xg st) s.heap.objs.size f g)->
   ∃t,PSs (XY CX0 P w K mg base N x (Xg st) f g A outer s H E).nox (XS st) t/\Xu K mg (λ_=>E) t p) (u:Uz K mg N ps sp p):Callee P w K mg base CX0 (k+1) x ps sp:=D.oz S (λ_ _ _ _ _ _ _=>h) u
def _root_.Own.Def.ey (D:Def K mg x st ps) (S:Xh N ps (Xg st))
  (h:∀{f g A outer s H} {E:XK},Xv k (A.deeper<|envOfC x (Xg st) s.heap.objs.size f g)->
   ∃t,PSs (XY (ExcR.CXe P w) P w K mg base N x (Xg st) f g A outer s H E) (XS st) t/\Xu K mg (λ_=>E) t p) (u:Uz K mg N ps sp p):Callee P w K mg base (ExcR.CXe P w) (k+1) x ps sp:=D.ox S (λ_ _ _ _ _ _ _=>h) u
def X7.ez (D:X7 K W x q st ps) (S:Xh N ps (Xg st))
  (h:∀{f g A outer s H} {E:XK},Xv k (A.deeper<|envOfC q (Xg st) s.heap.objs.size f g)->
   ∃t,PSs (XY CX0 P w K mg base N q (Xg st) f g A outer s H E).nox (XS st) t/\Xu K mg (λ_=>E) t p) (u:Uz K mg N ps sp p):PB P w K mg base CX0 (k+1) W ps sp:=D.oz S (λ_ _ _ _ _ _ _=>h) u
def X7.ey (D:X7 K W x q st ps) (S:Xh N ps (Xg st))
  (h:∀{f g A outer s H} {E:XK},Xv k (A.deeper<|envOfC q (Xg st) s.heap.objs.size f g)->
   ∃t,PSs (XY (ExcR.CXe P w) P w K mg base N q (Xg st) f g A outer s H E) (XS st) t/\Xu K mg (λ_=>E) t p) (u:Uz K mg N ps sp p):PB P w K mg base (ExcR.CXe P w) (k+1) W ps sp:=D.ox S (λ_ _ _ _ _ _ _=>h) u
end
structure Fit {ι:Type} (F:ι->Cx) (K:ZW) (mg:Ya):Prop where
 k:∀j,(F j).K=K
 m:∀j,(F j).mg=mg
section
variable {ι:Type} (F:ι->Cx) (K:ZW) (mg:Ya) (E:L2.St->XK)
structure CE (e:Expr) (p:PTE):Prop where
 h:Fit F K mg->∃t,(∀j,PE (F j) e t)/\Xf K mg E t p
structure CT (e:Expr) (p:PTT):Prop where
 h:Fit F K mg->∃t,(∀j,PT (F j) e t)/\K4 K mg E t p
structure CW (e:Expr) (p:PTT):Prop where
 h:Fit F K mg->∃t,(∀j,PW (F j) e t)/\K4 K mg E t p
structure CA (es:Yg) (p:PTA):Prop where
 h:Fit F K mg->∃t,(∀j,PA (F j) es t)/\X4 K mg E t p
structure CS (s:Stmt) (p:PTS):Prop where
 h:Fit F K mg->∃t,(∀j,PS (F j) s t)/\Xu K mg E t p
structure CB (b:Yh) (p:PTS):Prop where
 h:Fit F K mg->∃t,(∀j,PSs (F j) b t)/\Xu K mg E t p
structure CI (tg e:Expr) (p:PTI):Prop where
 h:Fit F K mg->∃t,(∀j,PI (F j) tg e t)/\SndI K mg E t p
structure CJ (tg e:Expr) (p:PTI):Prop where
 h:Fit F K mg->∃t,(∀j,PI (F j) tg e t)/\NW K mg E t p
structure CG (e:Expr) (is:Yd) (p:PTG):Prop where
 h:Fit F K mg->∃t,(∀j,PG (F j) e t)/\TN K is t p
structure CGs (es:Yg) (is:Yd) (p:SJ):Prop where
 h:Fit F K mg->∃t,(∀j,PGs (F j) es t)/\Bu K is t p
structure CF (es:Yg) (p:PTT):Prop where
 h:Fit F K mg->∃t,(∀j,NQ (F j) es t)/\K4 K mg E t p
end
section
variable {ι:Type}{F:ι->Cx}{K:ZW}{mg:Ya}{E:L2.St->XK}{e f g:Expr}{es:Yg}{a b c:PTE}{r:PTA}{x:Str}{pos p1:Pos}{k n:Nat}{s:Stmt}{d1 d2:Yh}{p q:PTS}{t u:PTT}{is:Yd}{pg:PTG}{it:PTI}
def xv(i:Nat)(v:autoParam (∀j,(F j).N[i]?=some x) au_3)(h:autoParam (∀j,Vis (F j).env.scope x) au_9)(l:autoParam ((x==("__debug__" : Str))=false) au_1)(o:autoParam ((x==("__classdict__" : Str))=false) au_1):CE F K mg E (.Name x pos) (EK i):=.mk λ_=>⟨_,λj=>pv i (v j) (h j) l o,Xe i⟩
def xi:CE F K mg E (.Constant (.int i) k pos) (pC<|.int i):=.mk λ_=>⟨_,λ_=>Xp,Xm⟩
def xb:CE F K mg E (.Constant (.bool i) k pos) (pC<|.bl i):=.mk λ_=>⟨_,λ_=>Tx,T3⟩
def xs:CE F K mg E (.Constant (.str i) k pos) (pC<|.str i):=.mk λ_=>⟨_,λ_=>Nq,Nb⟩
def xe(h:∀{j},PE (F j) e te)(k:Xf K mg E te a):CE F K mg E e a:=.mk λ_=>⟨_,λ_=>h,k⟩
def xo{r}(w:∀{X},OpR X (binaryOp l) r)(hs:∀{t u},Xf K mg E t a->Xf K mg E u b->Xf K mg E (tOp r t u) c)(A:CE F K mg E e a)(B:CE F K mg E f b):CE F K mg E (.BinOp e l f pos) c:=
 .mk λh=>let ⟨_,z,v⟩:=A.h h;let ⟨_,y,o⟩:=B.h h;⟨_,λj=>Nr w (z j) (y j),hs v o⟩
def xx(A:CE F K mg E e a)(B:CE F K mg E f b)(hs:autoParam (Em f) au_7):CE F K mg E (.Subscript e f pos) (p2 a b fIx):=
 .mk λh=>let ⟨_,w,o⟩:=A.h h;let ⟨_,v,l⟩:=B.h h;⟨_,λj=>jx K (w j) (v j) (h.k j) hs,XG o l⟩
def xl(v:mg "len"=none)(A:CE F K mg E e a)(w:autoParam (∀j,Gl (F j) "len") au_3)(hs:autoParam (∀j,starEach [e] (F j).env=(false,eval e (F j).env)::starEach [] (F j).env) au_3)(l:autoParam (∀j,(backTo pos (starEach [] (F j).env)).any (·.1)=false) au_3) :
  CE F K mg E (.Call (.Name "len" p1) [e] [] pos) (pCB AE<|Pf a Tz):=
 .mk λh=>let ⟨_,y,o⟩:=A.h h;⟨_,λj=>ln K (by rw[h.m j];exact v) (y j) (h.k j) (w j) (hs j) (l j),NV (sz o)⟩
def xf{ps v}(C:Callee P w K mg base CX0 k x ps (Xl mg v K))(H:∀j,Xv m (F j).A)(A:CA F K mg E (e::es) r)(N:autoParam (∀j,(F j).prog=P/\(F j).w=w/\(F j).base=base) au_10)(J:autoParam (k<=m) au_1)(L:autoParam (∀j,Gl (F j) x) au_3)(o:autoParam ((x==("__debug__" : Str))=false) au_1)(M:autoParam (∀j,starEach (e::es) (F j).env=(false,eval e (F j).env)::starEach es (F j).env) au_3)(l:autoParam (∀j,(backTo pos (starEach es (F j).env)).any (·.1)=false) au_3) :
  CE F K mg E (.Call (.Name x p1) (e::es) [] pos) (Ip v r):=
 .mk λh=>let ⟨_,Q,G⟩:=A.h h;⟨_,λj=>fz (by obtain⟨B,z,y⟩:=N j;rw[B,z,y,h.k j,h.m j];exact C) (H j) (Q j) J (L j) o (M j) (l j),Tn G⟩
def xt(A:CA F K mg E es r):CE F K mg E (.Tuple es k pos) (RE r):=.mk λh=>let ⟨_,o,l⟩:=A.h h;⟨_,λj=>Po (o j),P0 l⟩
def xL(A:CA F K mg E es r):CE F K mg E (.List es pos) (Hq r):=.mk λh=>let ⟨_,o,l⟩:=A.h h;⟨_,λj=>P8 (o j),PJ l⟩
def a0:CA F K mg E [] Tz:=.mk λ_=>⟨_,λ_=>Ky,Xw⟩
def ac(A:CE F K mg E e a)(B:CA F K mg E es r)(y:autoParam (∀j,starEach (e::es) (F j).env=(false,eval e (F j).env)::starEach es (F j).env) au_3):CA F K mg E (e::es) (Pf a r):=
 .mk λh=>let ⟨_,w,o⟩:=A.h h;let ⟨_,v,l⟩:=B.h h;⟨_,λj=>XC (w j) (v j) (y j),KQ o l⟩
def a1(A:CE F K mg E e a)(h:autoParam (∀j,starEach [e] (F j).env=(false,eval e (F j).env)::starEach [] (F j).env) au_3):CA F K mg E [e] (Pf a Tz):=ac A a0 h
def a2(A:CE F K mg E e a)(B:CE F K mg E f b)(l:autoParam (∀j,starEach [e,f] (F j).env=(false,eval e (F j).env)::starEach [f] (F j).env) au_3)(h:autoParam (∀j,starEach [f] (F j).env=(false,eval f (F j).env)::starEach [] (F j).env) au_3):CA F K mg E [e,f] (Pf a<|Pf b Tz):=ac A (a1 B h) l
def a3(A:CE F K mg E e a)(B:CE F K mg E f b)(C:CE F K mg E g c)(o:autoParam (∀j,starEach [e,f,g] (F j).env=(false,eval e (F j).env)::starEach [f,g] (F j).env) au_3)(l:autoParam (∀j,starEach [f,g] (F j).env=(false,eval f (F j).env)::starEach [g] (F j).env) au_3)(h:autoParam (∀j,starEach [g] (F j).env=(false,eval g (F j).env)::starEach [] (F j).env) au_3):CA F K mg E [e,f,g] (Pf a<|Pf b<|Pf c Tz):=ac A (a2 B C l h) o
def te(h:∀{j},PT (F j) e tt)(k:K4 K mg E tt t):CT F K mg E e t:=.mk λ_=>⟨_,λ_=>h,k⟩
def tc{r}(w:∀{X},OpR X (compareOp l) r)(hs:∀{t u},Xf K mg E t a->Xf K mg E u b->Xf K mg E (tOp r t u) c)(A:CE F K mg E e a)(B:CE F K mg E f b)(y:behindInMarks l f=false:=by exact KZ _):CT F K mg E (.Compare e [l] [f] pos) (NO c):=
 .mk λh=>let ⟨_,C,v⟩:=A.h h;let ⟨_,z,o⟩:=B.h h;⟨_,λj=>P5 w (C j) (z j) y,Pa (hs v o)⟩
def tq(v:∀j,Xv n (F j).A)(A:CE F K mg E e a)(B:CE F K mg E f b):CT F K mg E (.Compare e [.Eq] [f] pos) (NO<|p2 a b<|SD false):=
 .mk λh=>let ⟨_,y,o⟩:=A.h h;let ⟨_,w,l⟩:=B.h h;⟨_,λj=>cq K (v j) (y j) (w j) (h.k j),Pa (NL o l)⟩
def tn(v:∀j,Xv n (F j).A)(A:CE F K mg E e a)(B:CE F K mg E f b):CT F K mg E (.Compare e [.NotEq] [f] pos) (NO<|p2 a b<|SD true):=
 .mk λh=>let ⟨_,y,o⟩:=A.h h;let ⟨_,w,l⟩:=B.h h;⟨_,λj=>cn K (v j) (y j) (w j) (h.k j),Pa (HW o l)⟩
def ti(v:∀j,Xv n (F j).A)(A:CE F K mg E e a)(B:CE F K mg E f b)(w:autoParam (behindInMarks .In f=false) au_11):CT F K mg E (.Compare e [.In] [f] pos) (NO<|p2 a b<|fIn false):=
 .mk λh=>let ⟨_,z,o⟩:=A.h h;let ⟨_,y,l⟩:=B.h h;⟨_,λj=>P5 (DV (Kv<|v j)<|h.k j) (z j) (y j) w,Pa (SW o l)⟩
def tI(v:∀j,Xv n (F j).A)(A:CE F K mg E e a)(B:CE F K mg E f b)(w:autoParam (behindInMarks .NotIn f=false) au_11):CT F K mg E (.Compare e [.NotIn] [f] pos) (NO<|p2 a b<|fIn true):=
 .mk λh=>let ⟨_,z,o⟩:=A.h h;let ⟨_,y,l⟩:=B.h h;⟨_,λj=>P5 (LY (Kv<|v j)<|h.k j) (z j) (y j) w,Pa (SW o l)⟩
def tt(A:CE F K mg E e a)(o:autoParam (∀j whole,isTrue e (F j).env whole=(do let v ←whole;standAt e.pos;holding [v] (truthy v))) au_7):CT F K mg E e (R5 a):=.mk λh=>let ⟨_,w,l⟩:=A.h h;⟨_,λj=>Bo (w j) (h.k j) (o j),Zfa l⟩
def tN(A:CT F K mg E e t):CT F K mg E (.UnaryOp .Not e pos) (Hc t):=.mk λh=>let ⟨_,o,l⟩:=A.h h;⟨_,λj=>BE (o j),Zpq l⟩
def tp(A:CW F K mg E e t):CT F K mg E e t:=.mk λh=>let ⟨_,o,l⟩:=A.h h;⟨_,λj=>(o j).pt,l⟩
def wa(A:CT F K mg E e t)(B:CW F K mg E (.BoolOp .And (f::es) pos) u):CW F K mg E (.BoolOp .And (e::f::es) pos) (M8 t u):=.mk λh=>let ⟨_,w,o⟩:=A.h h;let ⟨_,v,l⟩:=B.h h;⟨_,λj=>Zet (w j) (v j),Zf5 o l⟩
def wo(A:CT F K mg E e t)(B:CW F K mg E (.BoolOp .Or (f::es) pos) u):CW F K mg E (.BoolOp .Or (e::f::es) pos) (pOr t u):=.mk λh=>let ⟨_,w,o⟩:=A.h h;let ⟨_,v,l⟩:=B.h h;⟨_,λj=>Zje (w j) (v j),Zrw o l⟩
def wA(A:CT F K mg E e t):CW F K mg E (.BoolOp .And [e] pos) t:=.mk λh=>let ⟨_,o,l⟩:=A.h h;⟨_,λj=>Zr9 (o j),l⟩
def wO(A:CT F K mg E e t):CW F K mg E (.BoolOp .Or [e] pos) t:=.mk λh=>let ⟨_,o,l⟩:=A.h h;⟨_,λj=>Zny (o j),l⟩
def se(h:∀{j},PS (F j) s l)(k:Xu K mg E l p):CS F K mg E s p:=.mk λ_=>⟨_,λ_=>h,k⟩
def sS(i:Nat)(w:∀j,(F j).N.Nodup)(A:CE F K mg E e a)(o:autoParam (∀j,(F j).N[i]?=some x) au_3)(hx:autoParam (∀j,Loc (F j).env.scope x) au_12)(hs:autoParam (∀j,swapsWith e (some<|.Name x p1) pos.line (F j).env=pure false) au_3)(v:autoParam (∀j,(F j).fn x=true\/(F j).env.scope.names.lookup x=some .local) au_13):CS F K mg E (.Assign [.Name x p1] e pos) (A7 a<|Bg i):=
 .mk λh=>let ⟨_,y,l⟩:=A.h h;⟨_,λj=>pz i (w j) (y j) (o j) (hx j) (hs j) (v j),Na l (Kq i)⟩
def sR(A:CE F K mg E e a):CS F K mg E (.Return (some e) pos) (Lh a):=.mk λh=>let ⟨_,o,l⟩:=A.h h;⟨_,λj=>Kj (o j),FD l⟩
def sF(i:Nat)(A:CS F K mg E s p):CS F K mg E s (Mg i p):=.mk λh=>let ⟨_,o,l⟩:=A.h h;⟨_,o,Zi7 i l⟩
def sI(A:CT F K mg E e t)(B:CB F K mg E d1 p)(C:CB F K mg E d2 q):CS F K mg E (.If e d1 d2 pos) (Gi t p q):=.mk λh=>let ⟨_,z,v⟩:=A.h h;let ⟨_,y,o⟩:=B.h h;let ⟨_,w,l⟩:=C.h h;⟨_,λj=>BH (z j) (y j) (w j),Zhf v o l⟩
def sE(A:CE F K mg E e a)(hs:autoParam (∀j,swapsWith e none pos.line (F j).env=pure false) au_3):CS F K mg E (.Expr e pos) (IQ a):=.mk λh=>let ⟨_,o,l⟩:=A.h h;⟨_,λj=>Kt (o j) (hs j),NM l⟩
def sO(l:Yd)(z:∀{j},PassesOwn (model (F j).prog (F j).w) (F j).A (F j).env (F j).xe)(I:CI F K mg E f e it)(G:CG F K mg f is pg)(B:CB F K mg E d1 p)(C:autoParam (∀j,(F j).calm=true) au_3)(hs:autoParam (∀j x,foldedSetIterable e (F j).env x=pure x) au_7) :
  CS F K mg E (.For f e d1 [] pos) (Iu l it pg p):=
 .mk λh=>let ⟨_,L,y⟩:=I.h h;let ⟨_,J,v⟩:=G.h h;let ⟨_,H,o⟩:=B.h h;⟨_,λj=>Zfq z (C j) (L j) (J j) (H j) (hs j),Zgf l y v o⟩
def sW(l:Yd)(y:∀{j},PassesOwn (model (F j).prog (F j).w) (F j).A (F j).env (F j).xe)(A:CT F K mg E e t)(B:CB F K mg E d1 p):CS F K mg E (.While e d1 [] pos) (GP l t p):=
 .mk λh=>let ⟨_,C,v⟩:=A.h h;let ⟨_,z,o⟩:=B.h h;⟨_,λj=>Zhx y (C j) (z j),Zc3 l v o⟩
def b0:CB F K mg E [] GY:=.mk λ_=>⟨_,λ_=>Bm,BM⟩
def b1(A:CS F K mg E s p):CB F K mg E [s] p:=.mk λh=>let ⟨_,o,l⟩:=A.h h;⟨_,λj=>NY (o j),l⟩
def bc(A:CS F K mg E s p)(B:CB F K mg E d1 q):CB F K mg E (s::d1) (LO p q):=.mk λh=>let ⟨_,w,o⟩:=A.h h;let ⟨_,v,l⟩:=B.h h;⟨_,λj=>Zqd (w j) (v j),Zqq o l⟩
def bj(A:CS F K mg E s p)(B:CB F K mg E d1 q):CB F K mg E (s::d1) (Lz p q):=.mk λh=>let ⟨_,w,o⟩:=A.h h;let ⟨_,v,l⟩:=B.h h;⟨_,λj=>Zqj (w j) (v j),Ze2 o l⟩
def ie(h:∀{j},PI (F j) f e l)(k:SndI K mg E l it):CI F K mg E f e it:=.mk λ_=>⟨_,λ_=>h,k⟩
def iL(A:CE F K mg E e a):CI F K mg E f e (pIL a):=.mk λh=>let ⟨_,o,l⟩:=A.h h;⟨_,λj=>Tr (o j) (h.k j),Zd9 l⟩
def ir(o:mg "range"=none)(A:CA F K mg E [e] r)(v:autoParam (∀j,Gl (F j) "range") au_3)(hs:autoParam (∀j,starEach [e] (F j).env=[(false,eval e (F j).env)]) au_3):CI F K mg E f (.Call (.Name "range" p1) [e] [] pos) (MK r):=
 .mk λh=>let ⟨_,w,l⟩:=A.h h;⟨_,λj=>Zq5 (v j) (by rw[h.m j];exact o) (w j) (hs j),Zcd l⟩
def iR(v:mg "range"=none)(A:CA F K mg E [e,g] r)(w:autoParam (∀j,Gl (F j) "range") au_3)(hs:autoParam (∀j,starEach [e,g] (F j).env=[(false,eval e (F j).env),(false,eval g (F j).env)]) au_3)(l:autoParam (∀j,starEach [g] (F j).env=[(false,eval g (F j).env)]) au_3):CI F K mg E f (.Call (.Name "range" p1) [e,g] [] pos) (GC r):=
 .mk λh=>let ⟨_,y,o⟩:=A.h h;⟨_,λj=>Zkx (w j) (by rw[h.m j];exact v) (y j) (hs j) (l j),Zjx o⟩
def je(h:∀{j},PI (F j) f e l)(k:NW K mg E l it):CJ F K mg E f e it:=.mk λ_=>⟨_,λ_=>h,k⟩
def jL(A:CE F K mg E e a):CJ F K mg E f e (OA a):=.mk λh=>let ⟨_,o,l⟩:=A.h h;⟨_,λj=>Tr (o j) (h.k j),Ni l⟩
def jI(I:CI F K mg E f e it):CJ F K mg E f e it:=.mk λh=>let ⟨_,o,l⟩:=I.h h;⟨_,o,l.c⟩
def gN(i:Nat)(o:autoParam (∀j,decide (F j).N.Nodup=true) au_14)(h:autoParam (∀j,(F j).N[i]?=some x) au_3)(hx:autoParam (∀j,Loc (F j).env.scope x) au_12)(l:autoParam (∀j,(F j).fn x=true\/(F j).env.scope.names.lookup x=some .local) au_13):CG F K mg (.Name x pos) [i] (Bg i):=.mk λ_=>⟨_,λj=>gk i (o j) (h j) (hx j) (l j),Kq i⟩
def gT(n:Nat){pr}(G:CGs F K mg es is pr)(w:autoParam (∀j,(F j).calm=true) au_3)(v:autoParam (∀j,(assignEach es (F j).env).length=n) au_3)(l:autoParam (∀j,(assignEach es (F j).env).findIdx? (·.1)=none) au_3):CG F K mg (.Tuple es k pos) is (A8 n pr):=
 .mk λh=>let ⟨_,y,o⟩:=G.h h;⟨_,λj=>F0 (w j) (y j) (h.k j) (v j) (l j),DJ o⟩
def g0:CGs F K mg [] [] Mj:=.mk λ_=>⟨_,λ_=>Fl,Ap⟩
def gc(G:CG F K mg e is pg)(B:CGs F K mg es w l)(hs:autoParam (∀j,(assignEach (e::es) (F j).env).map (·.2)=assign e (F j).env::(assignEach es (F j).env).map (·.2)) au_3):CGs F K mg (e::es) (is++w) (Gz pg l):=
 .mk λh=>let ⟨_,z,v⟩:=G.h h;let ⟨_,y,o⟩:=B.h h;⟨_,λj=>NB (z j) (y j) (hs j),B5 v o⟩
def f0:CF F K mg E [] GD:=.mk λ_=>⟨_,λ_=>T9,Nn⟩
def f1(A:CT F K mg E e t):CF F K mg E [e] t:=.mk λh=>let ⟨_,o,l⟩:=A.h h;⟨_,λj=>By (o j),l⟩
noncomputable abbrev Blk(F:ι->Cx)(N':Yf)(h:Scope):ι×List (Str×Addr)×Addr×Shared×Hp×List Addr->Cx:=λj=>Ko (F j.1) N' h j.2.1 j.2.2.1 j.2.2.2.1 j.2.2.2.2.1 j.2.2.2.2.2
def xC(N':Yf)(φ:Yc)(I:CJ F K mg E f e it)(G:CG (Blk F N' v) K mg f is pg)(T:CF (Blk F N' v) K mg E es t)(A:CE (Blk F N' v) K mg E g a)(hc:autoParam (∀j,(F j).calm=true) au_3)(S:autoParam (∀j,B0 v (F j).env.scope (F j).N N' φ=true) au_3)(hs:autoParam (∀j x,foldedSetIterable e (F j).env x=pure x) au_7)(h1:autoParam ((φ.filterMap id).Nodup) au_1)(h2:autoParam (∀j∈is,φ[j]?=some none) au_1) :
  CE F K mg E (.ListComp g [⟨f,e,es,0⟩] v pos) (CN φ it pg t a):=.mk λh=>by
 have w:Fit (Blk F N' v) K mg:=⟨λj=>h.k j.1,λj=>h.m j.1⟩;obtain⟨_,Y,L⟩:=I.h h;obtain⟨_,U,J⟩:=G.h w;obtain⟨_,Q,H⟩:=T.h w;obtain⟨_,M,B⟩:=A.h w;exact⟨_,λj=>EW (hc j) (.of<|S j) (Y j) (λz C l o y=>⟨U (j,z,C,l,o,y),Q (j,z,C,l,o,y),M (j,z,C,l,o,y)⟩) (hs j),PP L J H B h1 h2⟩
def sN(i:Nat)(A:CS F K mg E s p):CS F K mg E s (pNm i p):=.mk λh=>let ⟨_,o,l⟩:=A.h h;⟨_,o,Zg7 i l⟩
def sr(A:CE F K mg E e a):CS F K mg E (.Return (some e) pos) (HK a):=.mk λh=>let ⟨_,o,l⟩:=A.h h;⟨_,λj=>Kj (o j),Zck l⟩
def sV(i:Nat)(v:autoParam (∀j,(F j).N[i]?=some x) au_3)(h:autoParam (∀j,Vis (F j).env.scope x) au_9)(l:autoParam ((x==("__debug__" : Str))=false) au_1)(o:autoParam ((x==("__classdict__" : Str))=false) au_1):CS F K mg E (.Return (some<|.Name x p1) pos) (EM i):=.mk λ_=>⟨_,λj=>Kj (pv i (v j) (h j) l o),Zcc i⟩
def sA(i:Nat)(A:CE F K mg E e a)(G:autoParam (∀j,(F j).N[i]?=some x) au_3)(z:autoParam (∀j,Vis (F j).env.scope x) au_9)(B:autoParam ((x==("__debug__" : Str))=false) au_1)(C:autoParam ((x==("__classdict__" : Str))=false) au_1){apos cpos}(v:autoParam (∀j,attributeBase (.Name x p1) "append" (F j).env (eval (.Name x p1) (F j).env)=eval (.Name x p1) (F j).env) au_3)(w:autoParam (∀j,((backTo cpos (starEach [e] (F j).env)).all (λx=>!x.1)&&(backToKw cpos (keywordEach [] (F j).env)).all (λx=>x.1.isSome)&&decide ([e].length+([]:List Keyword).length+(if ([]:List Keyword).isEmpty then 0 else 1)<30))=true) au_3)(o:autoParam ((apos.endLine==cpos.line)=true) au_0)(hs:autoParam (∀j,starEach [e] (F j).env=(false,eval e (F j).env)::starEach [] (F j).env) au_3)(l:autoParam (∀j,(backTo cpos (starEach [] (F j).env)).any (·.1)=false) au_3)(hw:autoParam (∀j,swapsWith (.Call (.Attribute (.Name x p1) "append" apos) [e] [] cpos) none pos.line (F j).env=pure false) au_3):CS F K mg E (.Expr (.Call (.Attribute (.Name x p1) "append" apos) [e] [] cpos) pos) (Az i a):=
 .mk λh=>let ⟨_,H,y⟩:=A.h h;⟨_,λj=>Kt (Bf Ql Vn Vo Sy (pv i (G j) (z j) B C) (XC (H j) Ky<|hs j) (h.k j) (v j) (w j) o (hs j)<|l j) (hw j),Zg6 i y⟩
def sU(i:Nat){l o}(B:∀j,(F j).N.Nodup)(w:∀{X},PIp X l (ipI o))(A:CE F K mg E e a)(y:autoParam (∀j,(F j).N[i]?=some x) au_3)(hx:autoParam (∀j,Loc (F j).env.scope x) au_12)(z:autoParam (∀j,(F j).fn x=true\/(F j).env.scope.names.lookup x=some .local) au_13):CS F K mg E (.AugAssign (.Name x p1) l e pos) (EN i o a):=
 .mk λh=>let ⟨_,C,v⟩:=A.h h;⟨_,λj=>Zpo (B j) (y j) (hx j) (C j) w (z j),Zse v⟩
def sC(i:Nat)(N':Yf)(φ:Yc){y py spos}(hN:∀j,(F j).N.Nodup)(I:CJ F K mg E f e it)(G:CG (Blk F N' v) K mg f is pg)(T:CF (Blk F N' v) K mg E es t)(A:CE (Blk F N' v) K mg E g a)(hy:autoParam (∀j,(F j).N[i]?=some y) au_3)(hl:autoParam (∀j,(F j).env.scope.names.lookup y=some .local) au_3)(hc:autoParam (∀j,(F j).calm=true) au_3)(S:autoParam (∀j,B0 v (F j).env.scope (F j).N N' φ=true) au_3)(hs:autoParam (∀j x,foldedSetIterable e (F j).env x=pure x) au_7)(h1:autoParam ((φ.filterMap id).Nodup) au_1)(h2:autoParam (∀j∈is,φ[j]?=some none) au_1)(hw:autoParam (∀j,swapsWith (.ListComp g [⟨f,e,es,0⟩] v pos) (some<|.Name y py) spos.line (F j).env=pure true) au_3) :
  CS F K mg E (.Assign [.Name y py] (.ListComp g [⟨f,e,es,0⟩] v pos) spos) (A7 (CN φ it pg t a)<|Bg i):=.mk λh=>by
 have w:Fit (Blk F N' v) K mg:=⟨λj=>h.k j.1,λj=>h.m j.1⟩;obtain⟨_,i1,M⟩:=I.h h;obtain⟨_,Y,L⟩:=G.h w;obtain⟨_,U,J⟩:=T.h w;obtain⟨_,Q,H⟩:=A.h w;exact⟨_,λj=>Zdy (hN j) (hy j) (hl j) (hc j) (.of<|S j) (i1 j) (λB C l o z=>⟨Y (j,B,C,l,o,z),U (j,B,C,l,o,z),Q (j,B,C,l,o,z)⟩) (hs j) (hw j),Na (PP M L J H h1 h2) (Kq i)⟩
def sX(i:Nat)(B:CE F K mg E f b)(A:CE F K mg E e a)(M:autoParam (∀j,(F j).N[i]?=some x) au_3)(G:autoParam (∀j,Vis (F j).env.scope x) au_9)(H:autoParam ((x==("__debug__" : Str))=false) au_1)(J:autoParam ((x==("__classdict__" : Str))=false) au_1){q1}(L:autoParam (∀j v,assign (.Subscript (.Name x p1) f q1) (F j).env v=(do
   let l ←holding [v] (eval (.Name x p1) (F j).env)
   let o ←holding [v,l] (eval f (F j).env)
   standAt q1
   holding [v,l,o] (setItem l o v)
   release [v,l,o] [])) au_7)(hs:autoParam (∀j,swapsWithSole [.Subscript (.Name x p1) f q1] e pos.line (F j).env=pure false) au_3)(hw:autoParam (∀j,swappedStores [.Subscript (.Name x p1) f q1] e (F j).env=pure none) au_3)(Q:autoParam (∀j,(assignEach [.Subscript (.Name x p1) f q1] (F j).env).map (·.2)=[assign (.Subscript (.Name x p1) f q1) (F j).env]) au_3):CS F K mg E (.Assign [.Subscript (.Name x p1) f q1] e pos) (Ce i b a):=
 .mk λh=>let ⟨_,C,y⟩:=B.h h;let ⟨_,z,w⟩:=A.h h;⟨_,λj=>Zby (z j) (Zho (pv i (M j) (G j) H J) (C j) Zih<|L j) (hs j) (hw j) (Q j),Zrl i y w⟩
structure CO {ι:Type} (F:ι->Cx) (K:ZW) (mg:Ya) (E:L2.St->XK) (o:Option Expr) (p:PTO):Prop where
 h:Fit F K mg->∃t,(∀j,PO (F j) o t)/\Tv K mg E t p
def o0:CO F K mg E none L4:=.mk λ_=>⟨_,λ_=>Lc,G2⟩
def o1(A:CE F K mg E e a):CO F K mg E (some e) (Ho a):=.mk λh=>let ⟨_,o,l⟩:=A.h h;⟨_,λj=>Fi (o j),Ag l⟩
def xp{lo o l u v}(A:CE F K mg E e a)(L:CO F K mg E lo l)(U:CO F K mg E o u):CE F K mg E (.Subscript e (.Slice lo o none v) pos) (pSl a l u):=
 .mk λh=>let ⟨_,G,z⟩:=A.h h;let ⟨_,C,y⟩:=L.h h;let ⟨_,B,w⟩:=U.h h;⟨_,λj=>Du (AY<|h.k j) (G j) (C j) (B j),Zow z y w⟩
def xn(A:CE F K mg E e a):CE F K mg E (.UnaryOp .Not e pos) (RD a):=.mk λh=>let ⟨_,o,l⟩:=A.h h;⟨_,λj=>Lb (o j),Hx l⟩
def x0:CE F K mg E (.Constant .none k pos) (pC .non):=.mk λ_=>⟨_,λ_=>Zmf,Zjm⟩
def sQ{cpos v}(B:ExcR.K8 K (ExcR.Xq mg x))(y:mg x=some (.ref<|ExcR.Xq mg x))(H:∀{j},ExcR.Dy (F j) v)(A:CA F K mg (λ_=>v) (e::es) r)(G:autoParam (∀j,(F j).calm=true) au_3)(z:autoParam (∀j,Gl (F j) x) au_3)(o:autoParam ((x==("__debug__" : Str))=false) au_1)(C:autoParam (∀j,starEach (e::es) (F j).env=(false,eval e (F j).env)::starEach es (F j).env) au_3)(l:autoParam (∀j,(backTo cpos (starEach es (F j).env)).any (·.1)=false) au_3)(hx:autoParam (FJ x=none) au_0) :
  CS F K mg (λ_=>v) (.Raise (some<|.Call (.Name x p1) (e::es) [] cpos) none pos) (GB x r):=
 .mk λh=>let ⟨_,J,w⟩:=A.h h;⟨_,λj=>ExcR.Zd0 (by rw[h.k j];exact B.c) (by rw[h.m j];exact y) H (G j) (J j) (z j) o (C j) (l j),Zct w hx⟩
def xg{ps y v}(C:Callee P w K mg base (ExcR.CXe P w) k x ps (Xl mg y K))(J:∀j,Xv m (F j).A)(hx:∀{j},Pm (ExcR.CXe P w) (F j) v)(A:CA F K mg (λ_=>v) (e::es) r)(Q:autoParam (∀j,(F j).prog=P/\(F j).w=w/\(F j).base=base) au_10)(L:autoParam (k<=m) au_1)(M:autoParam (∀j,Gl (F j) x) au_3)(o:autoParam ((x==("__debug__" : Str))=false) au_1)(N:autoParam (∀j,starEach (e::es) (F j).env=(false,eval e (F j).env)::starEach es (F j).env) au_3)(l:autoParam (∀j,(backTo pos (starEach es (F j).env)).any (·.1)=false) au_3) :
  CE F K mg (λ_=>v) (.Call (.Name x p1) (e::es) [] pos) (HP y r):=
 .mk λh=>let ⟨_,T,H⟩:=A.h h;⟨_,λj=>Bt (by obtain⟨G,B,z⟩:=Q j;rw[G,B,z,h.k j,h.m j];exact C) ((J j).mono L) hx (T j) (M j) o (N j) (l j),Zf0 H⟩
variable {pw:PTW}
end
section
variable {P:Program}{w:World}{K:ZW}{mg:Ya}{base:Heap}{N ps:Yf}{sp:Sp}{p:PTS}{x q:Str}{st:Stmt}{k:Nat}{W:Addr->Prop}
def _root_.Own.Def.fz (D:Def K mg x st ps) (S:Xh N ps (Xg st))
  (o:∀{f g A outer s H} {E:XK},(∀{n:Type},n->Xv k (A.deeper<|envOfC x (Xg st) s.heap.objs.size f g))->(Unit->N.Nodup)->
   CB (λ_:Unit=>(XY CX0 P w K mg base N x (Xg st) f g A outer s H E).nox) K mg (λ_=>E) (XS st) p) (u:Uz K mg N ps sp p):Callee P w K mg base CX0 (k+1) x ps sp:=
 D.ez S (λr=>let ⟨t,h,l⟩:=(o (λ_=>r) λ_=>S.nd).h ⟨λ_=>rfl,λ_=>rfl⟩;⟨t,h (),l⟩) u
def _root_.Own.Def.fy (D:Def K mg x st ps) (S:Xh N ps (Xg st))
  (o:∀{f g A outer s H} {E:XK},(∀{n:Type},n->Xv k (A.deeper<|envOfC x (Xg st) s.heap.objs.size f g))->(Unit->N.Nodup)->
   CB (λ_:Unit=>XY (ExcR.CXe P w) P w K mg base N x (Xg st) f g A outer s H E) K mg (λ_=>E) (XS st) p) (u:Uz K mg N ps sp p):Callee P w K mg base (ExcR.CXe P w) (k+1) x ps sp:=
 D.ey S (λr=>let ⟨t,h,l⟩:=(o (λ_=>r) λ_=>S.nd).h ⟨λ_=>rfl,λ_=>rfl⟩;⟨t,h (),l⟩) u
def X7.fz (D:X7 K W x q st ps) (S:Xh N ps (Xg st))
  (o:∀{f g A outer s H} {E:XK},(∀{n:Type},n->Xv k (A.deeper<|envOfC q (Xg st) s.heap.objs.size f g))->(Unit->N.Nodup)->
   CB (λ_:Unit=>(XY CX0 P w K mg base N q (Xg st) f g A outer s H E).nox) K mg (λ_=>E) (XS st) p) (u:Uz K mg N ps sp p):PB P w K mg base CX0 (k+1) W ps sp:=
 D.ez S (λr=>let ⟨t,h,l⟩:=(o (λ_=>r) λ_=>S.nd).h ⟨λ_=>rfl,λ_=>rfl⟩;⟨t,h (),l⟩) u
def X7.fy (D:X7 K W x q st ps) (S:Xh N ps (Xg st))
  (o:∀{f g A outer s H} {E:XK},(∀{n:Type},n->Xv k (A.deeper<|envOfC q (Xg st) s.heap.objs.size f g))->(Unit->N.Nodup)->
   CB (λ_:Unit=>XY (ExcR.CXe P w) P w K mg base N q (Xg st) f g A outer s H E) K mg (λ_=>E) (XS st) p) (u:Uz K mg N ps sp p):PB P w K mg base (ExcR.CXe P w) (k+1) W ps sp:=
 D.ey S (λr=>let ⟨t,h,l⟩:=(o (λ_=>r) λ_=>S.nd).h ⟨λ_=>rfl,λ_=>rfl⟩;⟨t,h (),l⟩) u
end
mutual
noncomputable def py:D->PyData
 | .int i=>.int i
 | .bl b=>.bool b
 | .str x=>.str x
 | .tup f=>.tuple (pys f)
 | .lst f=>.list (pys f)
 | .fL g=>.list (g.map .int)
 |_=>.none
noncomputable def pys:List D->List PyData
 |[]=>[]
 |d::r=>py d::pys r
end
mutual
noncomputable def okS:D->Bool
 | .int _=>true
 | .bl _=>true
 | .str _=>true
 | .tup f=>Nt f
 | .lst f=>Nt f
 | .fL _=>true
 | .non=>true
 |_=>false
noncomputable def Nt:List D->Bool
 |[]=>true
 |d::r=>okS d&&Nt r
end
theorem okSs_iff:∀{ds:List D},Nt ds=true↔∀d∈ds,okS d=true
 |[]=>by simp[Nt]
 |d::r=>by
  unfold Nt;rw[Qr,okSs_iff];simp
theorem SB{g:Type}(f:g->D):∀xs:List g,pys (xs.map f)=xs.map λx=>py (f x)
 |[]=>rfl
 |x::r=>by
  rw[Qh,Qh];unfold pys;rw[SB f r]
def RdV(H:Hp)(v:V)(p:PyData):Prop:=∀(P:Program) (w:World) (h:Heap) (u:Value),HOk P w H h->RelV v u->∃f,Reads h u p f
def Zez(H:Hp)(vs:List V)(ps:List PyData):Prop:=∀(P:Program) (w:World) (h:Heap) (f:Ye),HOk P w H h->Vals vs f->∃g,ReadsAll h f ps g
theorem RC{h:Heap}:∀{ns:ZY}{us:Ye},Vals (ns.map V.int) us->∃f,ReadsAll h us (ns.map .int) f
 |[],_,r=>by cases r;exact⟨_,.nil⟩
 |n::ns,_,r=>by
  cases r with
  |cons l g=>
   obtain⟨t,rfl⟩:=l;obtain⟨f,q⟩:=RC g;exact⟨_,.cons (.int _ _) q⟩
section
variable {K:ZW}{H:Hp}
def Rp.reads {d:D}{v:V}:Rp K H d v->okS d=true->RdV H v (py d):=by
 have f:∀{d} {P:Prop},okS d=false->okS d=true->P:=λh e=>by rw[h]at e;cases e
 refine Rp.rec (motive_1:=λd v _=>okS d=true->RdV H v (py d)) (motive_2:=λy z _=>Nt y=true->Zez H z (pys y)) ?_ ?_ ?_ ?_ (λ_=>f rfl) ?_ ?_ (λ_=>f rfl) (λ_=>f rfl) (λ_=>f rfl) (λ_=>f rfl) (λ_ _=>f rfl) (λ_=>f rfl) (λ_=>f rfl) (λ_ _ _=>f rfl) ?_ (λ_ _ _ _=>f rfl) ?_ ?_
 ·intro i _ P w h u ok r;obtain⟨t,rfl⟩:=r;exact⟨_,.int _ _⟩
 ·intro b _ P w h u ok r;cases r
  exact⟨_,.bool _⟩
 ·intro _ P w h u ok r;cases r
  exact⟨_,.none⟩
 ·intro x _ P w h u ok r;obtain⟨t,rfl⟩:=r;exact⟨_,.str _ _⟩
 ·intro y z a s E A e P w h u ok r;cases r
  obtain⟨_,g,l,o,p,Q,n,N⟩:=(show ObjOk P w H h _ (.tup _)from ok _ _ s)
  obtain⟨B,q⟩:=A (by unfold okS at e;exact e) P w h g ok l;exact⟨_,.tuple p Q N (by simpa using q)⟩
 ·intro y z a s E A e P w h u ok r;cases r
  obtain⟨_,g,n,l,p⟩:=(show ObjOk P w H h _ (.lst _)from ok _ _ s)
  obtain⟨B,q⟩:=A (by unfold okS at e;exact e) P w h g ok l;exact⟨_,.list p rfl rfl (by simpa using q)⟩
 ·intro a o T s _ P w h u ok r;cases r
  obtain⟨_,_,g,n,l,p⟩:=(show ObjOk P w H h _ (.frz _<|.lst _)from ok _ _ s)
  obtain⟨B,q⟩:=RC (h:=h) l;exact⟨_,.list p rfl rfl (by simpa using q)⟩
 ·intro _ P w h C ok r;cases r
  exact⟨_,.nil⟩
 ·intro d v y z _ _ M L e P w h C ok r;unfold Nt at e;rw[Qr]at e;cases r with
  |cons a b=>
   obtain⟨B,J⟩:=M e.1 P w h _ ok a;obtain⟨bs,G⟩:=L e.2 P w h _ ok b;exact⟨_,.cons J G⟩
end
structure Rk (p:PyData) (k b:Nat):Prop where
 ls:p.leavesShort 24=true
 sh:p.showable=true
 hd:p.hasDict=false
 bk:p.bulk<=b
 dp:p.depth<=k
structure RkA (ps:List PyData) (k b:Nat):Prop where
 ls:PyData.leavesShortAll 24 ps=true
 sh:PyData.showableAll ps=true
 hd:PyData.hasDictAll ps=false
 bk:PyData.bulkAll ps<=b
 dp:PyData.depthAll ps<=k
def Rk.int {i:Int} (h:i.natAbs<10 ^ 23) (k b:Nat):Rk (.int i) k b:=by
 refine⟨?_,?_,by simp only[PyData.hasDict],by simp only[PyData.bulk];lia,by simp only[PyData.depth];lia⟩
 ·simp only[PyData.leavesShort,Vq]
  have:=int_text_length_le10 (a:=i) (k:=23) (by decide) h
  rw[PyData.shown_int,PySem.ofString_length];exact this
 ·simp only[PyData.showable,Vq];by_cases z:i.natAbs=0
  ·rw[z];decide
  ·exact Q1 ((Nat.log2_lt z).mpr (V0 h<|show 10 ^ 23<2 ^ 77 by decide)) (by decide)
def Rk.str {x:Str}{b:Nat} (h:(x.cps.toList.all λc=>decide (c<16 ^ 8))=true) (f:x.cps.size<=b) (k:Nat):Rk (.str x) k b:=by
 refine⟨?_,by simp only[PyData.showable],by simp only[PyData.hasDict],by simp only[PyData.bulk];exact f,by simp only[PyData.depth];lia⟩;simp only[PyData.leavesShort];exact h
def RkA.nil (k b:Nat):RkA [] k b:=⟨rfl,rfl,rfl,by simp only[PyData.bulkAll];lia,by simp only[PyData.depthAll];lia⟩
def RkA.cons {p:PyData}{ps:List PyData}{k b1 b2 b:Nat} (h:Rk p k b1) (r:RkA ps k b2) (f:b1+1+b2<=b):RkA (p::ps) k b:=by
 refine⟨?_,?_,?_,?_,?_⟩
 ·simp only[PyData.leavesShortAll,h.ls,r.ls,Bool.and_self]
 ·simp only[PyData.showableAll,h.sh,r.sh,Bool.and_self]
 ·simp only[PyData.hasDictAll,h.hd,r.hd,Bool.or_self]
 ·simp only[PyData.bulkAll];have:=h.bk;have:=r.bk;lia
 ·simp only[PyData.depthAll];have:=h.dp;have:=r.dp;lia
theorem RkA.map {g:Type}{f:g->PyData}{k b:Nat}:∀{xs:List g},(∀x∈xs,Rk (f x) k b)->RkA (xs.map f) k (xs.length*(b+1))
 |[],_=>.nil _ _
 |x::r,h=>by
  rw[Qh];refine .cons (h x Q7) (RkA.map λy l=>h y (Qo _ l)) ?_;rw[Qf,JI];lia
def Rk.list {ps:List PyData}{k b b':Nat} (h:RkA ps k b) (f:autoParam (b<=b') au_15):Rk (.list ps) (k+1) b':=by
 refine⟨?_,?_,?_,?_,?_⟩
 ·simp only[PyData.leavesShort];exact h.ls
 ·simp only[PyData.showable];exact h.sh
 ·simp only[PyData.hasDict];exact h.hd
 ·simp only[PyData.bulk];have:=h.bk;lia
 ·simp only[PyData.depth];have:=h.dp;lia
def Rk.tuple {ps:List PyData}{k b b':Nat} (h:RkA ps k b) (f:autoParam (b<=b') au_15):Rk (.tuple ps) (k+1) b':=by
 refine⟨?_,?_,?_,?_,?_⟩
 ·simp only[PyData.leavesShort];exact h.ls
 ·simp only[PyData.showable];exact h.sh
 ·simp only[PyData.hasDict];exact h.hd
 ·simp only[PyData.bulk];have:=h.bk;lia
 ·simp only[PyData.depth];have:=h.dp;lia
def Rk.mono {p:PyData}{k f b b':Nat} (h:Rk p k b) (g:k<=f) (l:b<=b'):Rk p f b':=⟨h.ls,h.sh,h.hd,WV h.bk l,WV h.dp g⟩
def Rk.fits {p:PyData}{k b:Nat} (h:Rk p k b) (f:b<=200000):p.shown.length<=sizeLine:=by
 have l:=PyData.shown_le_bulk 24 (by decide) p h.ls;have g:=h.bk;rw[sizeLine_eq];lia
end Pu
namespace Own
open L2
section
variable {X:Cx}
def Ih:List V->Hp->VK->Prop:=λxs H Q=>∃a p,xs=[.ref a]/\Pu.RdV H (.ref a) p/\Pu.Rk p 60 200000/\Q (.str p.shown) H
def R7(o:X.A.guards=some [])(z:X.A.units+64<cLine):Kr X (.builtin "repr") Ih:=by
 intro pins s v H xs x Q I r h;obtain⟨a,p,rfl,n,f,q⟩:=h;obtain⟨u,rfl,g⟩:=r.one;obtain rfl:u=Value.ref a:=g;obtain⟨C,l⟩:=n X.prog X.w s.heap (.ref a) I.hok rfl;exact repr_of_reads' l f.sh (PyData.noDict_hsm f.hd) o (by have:=f.dp;lia) (λ_ _ e=>e) (λB u y hx=>⟨.str _,H,I.kept hx,⟨_,rfl⟩,q⟩) (f.fits<|WT _)
end
end Own
namespace Pu
open L2 Own
section
variable {K:ZW}{mg:Ya}{E:L2.St->XK}
structure Zqw (d:D) (R:S->Prop):Prop where
 w:okS d=true/\(∃ds,d=.lst ds)/\Rk (py d) 60 200000/\R (.sh (.str (py d).shown))
def Ms:List S->(S->Prop)->Prop
 |[s],R=>Zqw s.d R
 |_,_=>False
def G9{g:TA}{r:PTA}(u:X4 K mg E g r):Xf K mg E (tCB Ih g) (pCB Ms r):=by
 refine P3 u λT H B Z J C R Q o L M l h q=>?_;unfold Ms at h;split at h
 ·rename_i s;obtain⟨v,rfl,n⟩:=l.one_inv;have f:=n.rp o;obtain⟨A,⟨N,x⟩,z,y⟩:=h.w;have p:=f.reads A;rw[x]at f;obtain⟨a,G,rfl,_,_⟩:=f.lst_inv;exact⟨a,_,rfl,p,z,q _ _ B y (Same.refl _) (.str _)⟩
 ·exact h.elim
end
end Pu
namespace M
open L2 Own Pu
def Mv.uniq {ps:ZX}{f:Int->Int}{ns:ZY}{n g:List Mo} (h:Mv ps f ns n) (k:Mv ps f ns g):n=g:=by
 induction h generalizing g with
 |done ns hw=>
  cases k with
  |done=>rfl
  |step _ p _ l s _=>exact absurd (l.uniq hw) s
 |step ns p n l s w u=>
  cases k with
  |done _ hw=>exact absurd (l.uniq hw) s
  |step _ v _ o _ r=>
   obtain rfl:=l.uniq o;rw[u r]
def FT{ps:ZX}(f:Field ps)(j:Nat):0<=(ps.getD j (0,0)).2/\(ps.getD j (0,0)).2<=1000:=by
 rw[WU];by_cases h:j<ps.length
 ·rw[WJ h]
  have:=f _ (Qd h)
  show 0<=ps[j].2/\ps[j].2<=1000;lia
 ·rw[Vg (by lia)];exact⟨QU 0,by decide⟩
theorem Lx{ps:ZX}(f:Field ps)(y:Int):∀n:Nat,0<=tpM ps y n/\tpM ps y n<=1000*n
 | 0=>⟨QU 0,QU 0⟩
 |n+1=>by
  have h:=Lx f y n;have w:=FT f n;unfold tpM;split<;>lia
theorem Og{ps:ZX}(f:Field ps)(g:ps.length<=40)(x y:Int):∀n:Nat,n<=ps.length->0<=pcM ps x y n/\pcM ps x y n<=40000000*n
 | 0,_=>⟨QU 0,QU 0⟩
 |n+1,l=>by
  have h:=Og f g x y n (by lia);have w:=FT f n;have t:=Lx f y n;unfold pcM;split
  ·have p:=Int.mul_nonneg t.1 w.1;have o:tpM ps y n*(ps.getD n (0,0)).2<=40000*1000:=JG (by lia) w.2 w.1 (by decide);lia
  ·lia
theorem Os{c:Int->Int->Int}(f:∀x y,0<=c x y/\c x y<=1600000000):∀o:ZY,o.length<=10->0<=oc c o/\oc c o<=16000000000*o.length
 |[],_=>⟨QU 0,QU 0⟩
 |a::r,g=>by
  rw[Qf]at g;have h:=Os f r (by lia)
  have s:∀l:ZY,0<=(l.map<|c a).sum/\(l.map<|c a).sum<=1600000000*l.length:=λl=>by
   induction l with
   |nil=>exact⟨QU 0,QU 0⟩
   |cons b l n=>
    have:=f a b
    rw[Qh,List.sum_cons,Qf];lia
  have s:=s r;unfold oc;rw[Qf];lia
def Zpa{ps l:ZX}{f:ZY}{v:Int}(r:Field ps)(n:ps.length<=40)(p:f.length<=10)(h:KA l (pcc ps) f v):0<=v/\v<=160000000000:=by
 obtain⟨o,g,_,rfl⟩:=h.is
 have:=Os (c:=pcc ps) (λx y=>by have:=Og r n x y ps.length (WT _);unfold pcc;lia) o (by rw[g.length_eq];exact p)
 have:=g.length_eq
 lia
def R4{ps n:ZX}{hs vs:ZY}(u:Field ps)(o:ps.length<=40)(l:hs.length<=10)(h:TabV n (pcc ps) (X1 hs) vs):vs.length<=1024/\∀v∈vs,0<=v/\v<=160000000000:=by
 obtain⟨r,p⟩:=h;have e:=Sv hs;refine⟨?_,λv g=>?_⟩
 ·rw[r,e];exact WV (JA (by decide) l) (by decide)
 ·obtain⟨i,s,ei⟩:=JE g;have f:i<(X1 hs).length:=by lia
  refine Zpa u o ?_ (p i (X1 hs)[i] v (WJ f) (by rw[WJ s,ei]));exact WV (Sk hs _<|Qd f).length_le l
def Zlt{ps:ZX}{f:Int->Int}{ns:ZY}{n:List Mo}(v:Field ps)(z:ps.length<=40)(h:Mv ps f ns n)(o:ns.Perm (Kf 1 ps.length)):∀m∈n,(0<=m.1/\m.1<=40)/\(0<=m.2.1/\m.2.1<=40)/\(0<=m.2.2.1/\m.2.2.1<=40)/\(0<=m.2.2.2/\m.2.2.2<=1000000):=by
 induction h with
 |done=>intro m s;cases s
 |step ns p n hw y s w=>
  obtain⟨x,r,_⟩:=hw.2.resolve_left y;rw[WI]at r;have A:ns.length=ps.length:=by rw[o.length_eq,B3]
  have g:∀i,i<ns.length->0<=ns.getD i 0/\ns.getD i 0<=40:=λi u=>by
   rw[WU,WJ u]
   have:=run_mem.mp (o.mem_iff.mp<|Qd u)
   show 0<=ns[i]/\ns[i]<=40;lia
  intro m l;rcases WX.mp l with rfl|l
  ·refine⟨by dsimp only;lia,g _ (by lia),g _ r,?_⟩;have a:=FT v (ns.getD (p-1) 0-1).toNat;have b:=FT v (ns.getD p 0-1).toNat;exact⟨Int.mul_nonneg a.1 b.1,Int.le_trans (JG a.2 b.2 b.1<|by decide) (by decide)⟩
  ·exact w ((AI x r).trans o) m l
def IV{ps:ZX}{f:Int->Int}{g:List Mo}(p:ps.length<=40)(h:Mv ps f (Kf 1 ps.length) g):g.length<=1600:=by
 have o:=h.len;have l:=(Sn f<|Kf 1 ps.length).2;rw[B3]at l;have n:(ps.length:Int)*(ps.length:Int)<=40*40:=JG (by lia) (by lia) (by lia) (by lia);lia
end M
namespace Pu
open L2 Own M
def Rk.nat {i:Int} (h:0<=i/\i<=160000000000) (k b:Nat):Rk (.int i) k b:=by
 have c:(160000000001:Nat)<=10 ^ 23:=by decide
 exact .int (by lia) k b
def Rk.ints {ns:ZY} (h:∀n∈ns,0<=n/\n<=160000000000):Rk (py<|.lst<|ns.map D.int) 1 ns.length:=by
 have e:py (.lst<|ns.map D.int)=.list (ns.map PyData.int):=by unfold py;rw[SB];rfl
 rw[e];exact .list (RkA.map (b:=0) λn f=>.nat (h n f) _ _) (by lia)
def Rk.pairs {ps:ZX} (h:∀q∈ps,(0<=q.1/\q.1<=1000)/\(0<=q.2/\q.2<=1000)):Rk (py<|plD ps) 2 (ps.length*3):=by
 have e:py (plD ps)=.list (ps.map λq=>.tuple [.int q.1,.int q.2]):=by unfold plD py;rw[SB];rfl
 rw[e];exact .list (RkA.map (b:=2) λq hq=>.tuple (b:=2) (.cons (b1:=0) (b2:=1) (.nat (by have:=h q hq;lia) _ _) (.cons (b1:=0) (b2:=0) (.nat (by have:=h q hq;lia) _ _) (.nil _ _)<|by lia)<|by lia)) (by lia)
def Rk.mvs {f:List Mo} (h:∀m∈f,(0<=m.1/\m.1<=40)/\(0<=m.2.1/\m.2.1<=40)/\(0<=m.2.2.1/\m.2.2.1<=40)/\(0<=m.2.2.2/\m.2.2.2<=1000000)):Rk (py<|.lst<|f.map mvD) 2 (f.length*5):=by
 have e:py (.lst<|f.map mvD)=.list (f.map λm=>.tuple [.int m.1,.int m.2.1,.int m.2.2.1,.int m.2.2.2]):=by unfold py;rw[SB];rfl
 rw[e];exact .list (RkA.map (b:=4) λm g=>.tuple (b:=4) (.cons (b1:=0) (b2:=3) (.nat (by have:=h m g;lia) _ _) (.cons (b1:=0) (b2:=2) (.nat (by have:=h m g;lia) _ _) (.cons (b1:=0) (b2:=1) (.nat (by have:=h m g;lia) _ _) (.cons (b1:=0) (b2:=0) (.nat (by have:=h m g;lia) _ _) (.nil _ _)<|by lia)<|by lia)<|by lia)<|by lia)) (by lia)
def MO(ns:ZY):okS (.lst<|ns.map D.int)=true:=by
 unfold okS;exact okSs_iff.mpr λd f=>by obtain⟨n,_,rfl⟩:=Qj.mp f;rfl
def Sf(ps:ZX):okS (plD ps)=true:=by
 unfold plD okS;exact okSs_iff.mpr λd f=>by obtain⟨n,_,rfl⟩:=Qj.mp f;rfl
def Zp9(f:List Mo):okS (.lst<|f.map mvD)=true:=by
 unfold okS;exact okSs_iff.mpr λd g=>by obtain⟨n,_,rfl⟩:=Qj.mp g;rfl
end Pu
namespace M
open L2 Own Pu
theorem EO{f:ZX}(g:Int->Int×Int->Bool):∀o:ZY,(o.flatMap λh=>f.filter (g h)).length<=o.length*f.length
 |[]=>by simp
 |a::r=>by
  rw[Jp,WW,Qf,JI];have n:=EO (f:=f) g r;have l:=Qw (g a) f;lia
def Sm(hs:XD):Prop:=∀h∈hs,∀n∈h.1.q.2,0<=n/\n<=1000
def Sm.take {hs:XD} (h:Sm hs) (i:Nat):Sm (hs.take i):=λg f=>h g (Vk f)
def Zmr{f w:ZX}{d:Dd}(x:Field f)(y:f.length<=40)(u:Tg w)(e:d.err f w=none):∀n∈d.q.2,0<=n/\n<=1000:=by
 cases d with
 |sell p h=>
  have e:KN f p h=none:=e;unfold KN at e;split at e
  ·cases e
  split at e
  ·cases e
  rename_i s r
  have:=QZ.mp r
  intro n g;rcases WX.mp g with rfl|g
  ·lia
  ·rw[WN]at g;lia
 |part p v=>
  have e:Kn f p v=none:=e;rcases Ru f p v with⟨z,_⟩|⟨z,_⟩|⟨z,_⟩|⟨_,_,o,l,C,B,A⟩
  ·rw[e]at z;cases z
  ·rw[e]at z;cases z
  ·rw[e]at z;cases z
  have:=x _ (BG o l)
  intro n g;rcases WX.mp g with rfl|g
  ·lia
  ·rw[WN]at g;lia
 |unite p=>
  have e:XZ f p=none:=e;rcases Im f p with⟨z,_⟩|⟨z,_⟩|⟨z,_⟩|⟨_,_,o,l⟩
  ·rw[e]at z;cases z
  ·rw[e]at z;cases z
  ·rw[e]at z;cases z
  intro n g;rcases WX.mp g with rfl|g
  ·lia
  ·cases g
 |wish a b=>
  have e:Ke w a b=none:=e;unfold Ke at e;split at e
  ·cases e
  split at e
  ·cases e
  rename_i s r;have o:=QZ.mp s;have l:=QZ.mp r;intro n g;rcases WX.mp g with rfl|g
  ·lia
  ·rw[WN]at g;lia
 |drop a b=>
  have e:Kh w a b=none:=e;unfold Kh at e;split at e
  ·rename_i h
   have:=(u.2.2 _ h).1
   intro n g;rcases WX.mp g with rfl|g
   ·lia
   ·rw[WN]at g;lia
  ·cases e
def Sm.add {f0:ZX}{hs:XD} (h:Sm hs) (l:FineH f0 hs) (d:Dd):Sm (KG f0 hs d):=by
 unfold KG;split
 ·rename_i e;obtain⟨⟨p,o⟩,n⟩:=l.cur;intro g f;rcases Qi.mp f with f|f
  ·exact h g f
  ·rw[WN.mp f];exact Zmr p o n e
 ·exact h
def Zln(d:Dd)(h:∀n∈d.q.2,0<=n/\n<=1000):Rk (py<|dD d.q) 2 20:=by
 have f:∀(x:Str) (g:ZY),(x.cps.toList.all λc=>decide (c<16 ^ 8))=true->x.cps.size<=8->g.length<=2->(∀n∈g,0<=n/\n<=1000)->Rk (py<|dD (x,g)) 2 20:=λx g u s v o=>by
  have e:py (dD (x,g))=.tuple (.str x::g.map PyData.int):=by unfold dD py pys;rw[SB];rfl
  rw[e];have r:RkA (g.map PyData.int) 1 (g.length*(0+1)):=RkA.map λn l=>.nat (by have:=o n l;lia) _ _;exact .tuple (b:=20) (.cons (b1:=8) (b2:=2) (.str u s _) ⟨r.ls,r.sh,r.hd,WV r.bk (by lia),r.dp⟩<|by decide) (by decide)
 cases d with
 |sell p x=>exact f "sell" _ (by decide +kernel) (by decide +kernel) (by simp) h
 |part p x=>exact f "part" _ (by decide +kernel) (by decide +kernel) (by simp) h
 |unite p=>exact f "unite" _ (by decide +kernel) (by decide +kernel) (by simp) h
 |wish p x=>exact f "wish" _ (by decide +kernel) (by decide +kernel) (by simp) h
 |drop p x=>exact f "drop" _ (by decide +kernel) (by decide +kernel) (by simp) h
def Zsn{hs:XD}(h:Sm hs)(l:hs.length<=60):okS (.lst ((bkH hs).map dD))=true/\Rk (py<|.lst ((bkH hs).map dD)) 3 1260:=by
 have e:py (.lst ((bkH hs).map dD))=.list (hs.map λg=>py (dD g.1.q)):=by unfold bkH py;rw[SB,Qy];rfl
 refine⟨?_,?_⟩
 ·unfold okS;refine okSs_iff.mpr λd hd=>?_;obtain⟨q,_,rfl⟩:=Qj.mp hd;unfold dD okS;refine okSs_iff.mpr λd hd=>?_;rcases WX.mp hd with rfl|hd
  ·rfl
  ·obtain⟨n,_,rfl⟩:=Qj.mp hd;rfl
 ·rw[e];have r:RkA (hs.map λg=>py (dD g.1.q)) 2 (hs.length*(20+1)):=RkA.map λg f=>Zln g.1 (h g f);exact .list (b:=hs.length*(20+1)) r (by lia)
end M
namespace Pu
open L2 Own
section
variable {K:ZW}{mg:Ya}{E:L2.St->XK}{H0 H H1 H':Hp}{B Z Z':Addr->Prop}{σ:L2.St}{γ:Γ}
abbrev PTL:=Γ->(List (List D)->Prop)->(Str->Prop)->Prop
noncomputable def pLn:PTL:=λ_ R _=>R []
noncomputable def pLc(a:PTE)(r:PTL):PTL:=λγ R X=>a γ (λs=>match s with
 | .own (.lst g)=>XF g=true/\r γ (λf=>R (g::f)) X
 |_=>False) X
noncomputable def pLp(i:Nat)(r:PTL):PTL:=λγ R X=>match γ[i]? with
 |some (some<|.own<|.nst [c,d])=>XF c.2=true/\XF d.2=true/\r γ (λf=>R (c.2::d.2::f)) X
 |_=>False
def SG(K:ZW)(mg:Ya)(E:L2.St->XK)(h:Bool)(t:TA)(r:PTL):Prop:=∀(H0:Hp) (B:Addr->Prop) (H:Hp) (σ:L2.St) (γ:Γ) (R:List (List D)->Prop) (X:Str->Prop) (Q:List V->Hp->Prop),Xk K H0 B H σ γ->r γ R X->
 (∀(f:List (Addr×List D)) (H':Hp),R (f.map (·.2))->Same H H'->(∀c∈f,(H c.1=none\/h=false/\La γ σ c.1)/\XF c.2=true/\∃g,H' c.1=some (.lst g)/\Rps K H' c.2 g)->(f.map (·.1)).Nodup->Q (f.map λc=>V.ref c.1) H')->
 (∀c H',X c->Same H H'->XE mg (E σ) c H')->t σ H Q
def Zod:SG K mg E true KH pLn:=λ_ _ H _ _ _ _ _ _ h q _=>q [] H h (Same.refl _) (λc f=>by cases f) Vx
def sl_cons{A:Bool}{te:TE}{a:PTE}{u:TA}{r:PTL}(ha:Xf K mg E te a)(Y:SG K mg E A u r):SG K mg E A (XW te u) (pLc a r):=by
 intro H0 B H σ γ R X Q g h q x;refine ha H0 B H σ γ _ X _ g h (λs v H1 n o N=>?_) x;have l:=g.grow o;split at n
 ·rename_i ds;obtain⟨a,rfl,a0,M,a1,a2⟩:=N;refine Y H0 B H1 σ γ _ X _ l n.2 (λcs H2 U p y T=>?_) λc H' f S'=>x c H' f (o.trans S');refine q ((a,ds)::cs) H2 U (o.trans p) (λc f=>?_) ?_
  ·rcases WX.mp f with rfl|f
   ·exact⟨.inl (a0 a rfl),n.1,M,p _ _ a1,Rps.mono (off_sub.trans p) a2⟩
   ·obtain⟨L,J,G⟩:=y c f;exact⟨L.imp (λz=>o.free z) id,J,G⟩
  ·refine Qv.mpr ⟨λz=>?_,T⟩;obtain⟨c,f,C⟩:=Qj.mp z;rcases(y c f).1 with w|⟨_,w⟩
   ·rw[show c.1=a from C,a1]at w
    cases w
   ·rw[show c.1=a from C]at w
    have:=g.zm a (.inr w)
    rw[a0 a rfl]at this;exact this
 ·exact n.elim
def Zi2(i:Nat){G:TA}{r:PTL}(hr:SG K mg E true G r) :
  SG K mg E false (XW (tOp (λx y H Q=>PY K x y H Q\/Tf K x y H Q) (Kk i)<|tC<|.int 0)<|XW (tOp (λx y H Q=>PY K x y H Q\/Tf K x y H Q) (Kk i)<|tC<|.int 1) G) (pLp i r):=by
 intro H0 B H σ γ R X Q f h q qx;unfold pLp at h;split at h
 ·rename_i c d u;obtain⟨i1,i2,h⟩:=h;obtain⟨v,p,l,rfl,e0,e3,M,s⟩:=f.slot i _ u;obtain⟨Y,C,u2⟩:=M c (by simp);obtain⟨T,A,U⟩:=M d (by simp);have L:=off_sub _ _ e3;refine⟨_,p,.inr ⟨l,_,0,.ref c.1,rfl,rfl,SqT.of L,rfl,_,p,.inr ⟨l,_,1,.ref d.1,rfl,rfl,SqT.of L,rfl,?_⟩⟩⟩;refine hr H0 B H σ γ _ X _ f h (λN H2 k1 g J k3=>?_) qx
  have n:∀x,(∃o,H x=some o)->x∉N.map (·.1):=λx ⟨o,hx⟩ z=>by
   obtain⟨y,hy,ey⟩:=Qj.mp z;rcases(J y hy).1 with w|⟨w,_⟩
   ·rw[show y.1=x from ey,hx]at w
    cases w
   ·cases w
  refine q (c::d::N) H2 k1 g (λx hx=>?_) ?_
  ·rcases WX.mp hx with rfl|hx
   ·exact⟨.inr ⟨rfl,i,_,l,u,p,x,by simp,rfl⟩,i1,Y,g _ _ C,Rps.mono (off_sub.trans g) u2⟩
   ·rcases WX.mp hx with rfl|hx
    ·exact⟨.inr ⟨rfl,i,_,l,u,p,x,by simp,rfl⟩,i2,T,g _ _ A,Rps.mono (off_sub.trans g) U⟩
    ·obtain⟨g1,g2,g3⟩:=J x hx;exact⟨.inl (g1.resolve_right λz=>by cases z.1),g2,g3⟩
  ·have ne:c.1≠d.1:=λz=>by
    have s:[c.1,d.1].Nodup:=s;rw[z]at s;simp at s
   refine Qv.mpr ⟨λz=>?_,Qv.mpr ⟨n _ ⟨_,A⟩,k3⟩⟩;rcases WX.mp z with z|z
   ·exact ne z
   ·exact n _ ⟨_,C⟩ z
 ·exact h.elim
def Zf8{L:Addr}{f:List (Addr×List D)}(p:H L=none)(r:∀b,Z b->Mut (H b))(k2:∀c∈f,XF c.2=true/\∃vs,H c.1=some (.lst vs)/\Rps K H c.2 vs)(k3:(f.map (·.1)).Nodup) :
  OR K (off (λb=>Z b\/(O.nsl L f).adr L b)<|upd H L<|.lst (f.map λc=>V.ref c.1)) (upd H L<|.lst (f.map λc=>V.ref c.1)) L (.nsl L f):=by
 have l:=XX (o:=.lst (f.map λc=>V.ref c.1)) p
 have s:∀b,Z b\/(O.nsl L f).adr L b->Mut (upd H L (.lst (f.map λc=>V.ref c.1)) b):=λb z=>by
  rcases z with z|z|⟨c,h,z⟩
  ·exact Px l (r b z)
  ·rw[z,X9];trivial
  ·obtain⟨_,n,g,_⟩:=k2 c h;rw[z,l _ _ g];trivial
 refine⟨rfl,X9,λc h=>?_,Qv.mpr ⟨λz=>?_,k3⟩⟩
 ·obtain⟨w,n,v,u⟩:=k2 c h;exact⟨n,l _ _ v,Rps.off s (Rps.mono l u) w⟩
 ·obtain⟨c,h,x⟩:=Qj.mp z;obtain⟨_,n,g,_⟩:=k2 c h;rw[show c.1=L from x,p]at g
  cases g
noncomputable def Zeu(r:PTL):PTS:=λR γ=>r γ (λf=>f.length<=1000/\∀(x:Addr) (g:List (Addr×List D)),g.map (·.2)=f->R.rt (.own<|.nsl x g)) (R.ex γ)
def Zog{Q:Bool}{p:TA}{r:PTL}(G:SG K mg E Q p r):Xu K mg E (NH<|Ey p) (Zeu r):=by
 intro H0 B H σ γ R D hB f h e;refine G H0 B H σ γ _ _ _ f h (λY H1 u o s C=>?_) λc H' g A=>e.ex σ γ c H' g (f.grow A) (Fr.grow A);refine⟨by rw[WI];have:=u.1;rw[WI]at this;exact F7 this,λL n=>?_⟩;refine e.rt _ _ _ (u.2 L Y rfl) (f.same.trans<|o.trans<|XX n) ⟨L,rfl,λb l=>?_,Zf8 n (λb z=>Px o (f.zm b<|.inl z)) (λc g=>(s c g).2) C⟩;rcases l with l|⟨c,g,l⟩
 ·rw[l];exact f.same.free (o.free n)
 ·rw[l];rcases(s c g).1 with z|⟨_,i,ds,x,N,M,J⟩
  ·exact f.same.free z
  ·obtain⟨v,w,y,U,T,e4⟩:=f.slot i _ N;rw[M]at w;cases w
   cases U
   exact T _ J
noncomputable def FR(i:Nat)(f:List D->List D)(b:PTE):PTS:=λR γ=>match γ[i]? with
 |some (some<|.own<|.nsl x g)=>b γ (λy=>match y.d with
  | .int k=>∃j c,ixN g.length k=some j/\g[j]?=some c/\R.nx (γ.set i<|some<|.own<|.nsl x<|g.set j (c.1,f c.2))
  |_=>False) (R.ex γ)
 |_=>False
def MX(i:Nat){f:List D->List D}{g:List V->List V}{C:TE}{b:PTE}{r:V->List V->Hp->VK->Prop}(hb:Xf K mg E C b)(hr:∀l xs H (Q:VK),H l=some (.lst xs)->Q .non (upd H l<|.lst<|g xs)->r (.ref l) [] H Q)(hf:∀(F:Hp) ds us,Rps K F ds us->Rps K F (f ds) (g us)) :
  Xu K mg E (TK<|Ng K "list" r<|tOp (λx y H Q=>PY K x y H Q\/Tf K x y H Q) (Kk i) C) (FR i f b):=by
 intro H0 B H σ γ R D hB n h e;have hx:∀c H',R.ex γ c->Same H H'->XE mg (E σ) c H':=λc H' hc L=>e.ex σ γ c H' hc (n.grow L) (Fr.grow L);unfold FR at h;split at h
 ·rename_i x0 cs J;obtain⟨v,Y,l,rfl,e0,e1,e3,e4,e5⟩:=n.slot i _ J;refine⟨_,Y,hb H0 B H σ γ _ _ _ n h (λy w H1 u p N=>?_) hx⟩;have o:=n.grow p;have G:=N.rp o.same;split at u
  ·rename_i k ek;rw[ek]at G;obtain⟨j,c,h3,s,h5⟩:=u;obtain⟨us,A,M⟩:=e4 c (Qe s);refine .inl ⟨l,_,k,.ref c.1,rfl,G.int_inv,SqL.of (p _ _ e3),G7 h3 s,?_⟩;refine⟨.inl ⟨rfl,us,SqL.of (p _ _ A)⟩,hr _ us _ _ (p _ _ A) ?_⟩;obtain⟨U,T⟩:=o.cellL (es:=f c.2) (us:=g us) J s (hf _ _ _<|Rps.mono (Xs p λ_ _ _ z=>z) M);exact e.nx _ _ _ h5 U ((Fr.grow p).trans T)
  ·exact u.elim
 ·exact h.elim
def Zjv(i:Nat){f:TE}{b:PTE}(n:Xf K mg E f b):Xu K mg E (TK<|Ng K "list" Iz<|tOp (λx y H Q=>PY K x y H Q\/Tf K x y H Q) (Kk i) f) (FR i (λ_=>[]) b):=
 MX i (g:=λ_=>[]) n (λl xs _ _ h q=>⟨l,xs,rfl,rfl,h,q⟩) λ_ _ _ _=>.nil
def Zji(i:Nat){f:TE}{b:PTE}(n:Xf K mg E f b):Xu K mg E (TK<|Ng K "list" IH<|tOp (λx y H Q=>PY K x y H Q\/Tf K x y H Q) (Kk i) f) (FR i List.reverse b):=
 MX i (g:=List.reverse) n (λl xs _ _ h q=>⟨l,xs,rfl,rfl,h,q⟩) λ_ _ _ h=>Rps.reverse h
noncomputable def Mx(i:Nat)(b a:PTE):PTS:=λR γ=>match γ[i]? with
 |some (some<|.own<|.nsl x0 f)=>b γ (λy=>match y.d with
  | .int k=>∃j c,ixN f.length k=some j/\f[j]?=some c/\a γ (λs=>match s.shd with
   |some d=>c.2.length<10000000/\R.nx (γ.set i<|some<|.own<|.nsl x0<|f.set j (c.1,c.2++[d]))
   |none=>False) (R.ex γ)
  |_=>False) (R.ex γ)
 |_=>False
def Zpf(i:Nat){N te:TE}{a b:PTE}(hb:Xf K mg E N b)(ha:Xf K mg E te a) :
  Xu K mg E (TK<|tBM K "list" Al (tOp (λx y H Q=>PY K x y H Q\/Tf K x y H Q) (Kk i) N)<|XW te KH) (Mx i b a):=by
 intro H0 B H σ γ R D hB g h e;have hx:∀c H',R.ex γ c->Same H H'->XE mg (E σ) c H':=λc H' C A=>e.ex σ γ c H' C (g.grow A) (Fr.grow A);unfold Mx at h;split at h
 ·rename_i x0 cs U;obtain⟨v,hv,l,rfl,e0,e1,e3,e4,e5⟩:=g.slot i _ U;refine⟨_,hv,hb H0 B H σ γ _ _ _ g h (λy w H1 J o t1=>?_) hx⟩;have f:=g.grow o;have T:=t1.rp f.same;split at J
  ·rename_i k ek;rw[ek]at T;obtain⟨j,c,h3,G,h5⟩:=J;obtain⟨us,M,L⟩:=e4 c (Qe G);refine .inl ⟨l,_,k,.ref c.1,rfl,T.int_inv,SqL.of (o _ _ e3),G7 h3 G,?_⟩;refine⟨.inl ⟨rfl,us,SqL.of (o _ _ M)⟩,ha H0 B H1 σ γ _ _ _ f h5 (λs u H2 r p Y=>?_) λc H' C A=>hx c H' C (o.trans A)⟩;have n:=f.grow p;split at r
   ·rename_i d ed;have rd:=Y.shd n.same f.zm p ed;refine⟨c.1,us,u,rfl,rfl,p _ _ (o _ _ M),by rw[L.len];exact V0 r.1 (by decide),?_⟩;obtain⟨k1,k2⟩:=n.cellL (es:=c.2++[d]) (us:=us++[u]) U G (Rps.append (Rps.mono (Xs (o.trans p) λ_ _ _ z=>z) L)<|.cons rd .nil);exact e.nx _ _ _ r.2 k1 ((Fr.grow<|o.trans p).trans k2)
   ·exact r.elim
  ·exact J.elim
 ·exact h.elim
end
end Pu
namespace T
open L2
noncomputable def top(i:Nat):Stmt:=PySem.Challenge.pw_stripmeld_k32_lists_are_its_own.main.body.getD i (.Pass ⟨0,0,0,0⟩)
noncomputable abbrev Co:Stmt:=top 24
def Zb7:Xh ["holder"] ["holder"] (Xg Co):=Pu.fs
noncomputable abbrev Cz:Stmt:=top 25
def Zjn:Xh ["width"] ["width"] (Xg Cz):=Pu.fs
noncomputable abbrev DB:Stmt:=top 26
def Zqh:Xh ["strips","holder","width"] ["strips"] (Xg DB):=Pu.fs
noncomputable abbrev AZ:Stmt:=top 27
def Zo0:Xh ["strips"] ["strips"] (Xg AZ):=Pu.fs
noncomputable abbrev AA:Stmt:=top 28
def Zpw:Xh ["strips","order"] ["strips","order"] (Xg AA):=Pu.fs
noncomputable abbrev Ep:Stmt:=top 29
def Zb6:Xh ["strips","order","field","holder"] ["strips","order"] (Xg Ep):=Pu.fs
noncomputable abbrev Cg:Stmt:=top 31
def Zqv:Xh ["strips","ahead","behind","to_pass","cost","holder","width"] ["strips","ahead","behind"] (Xg Cg):=Pu.fs
noncomputable abbrev Dt:Stmt:=top 32
def Zqp:Xh ["strips","order","cost","index","ahead","behind"] ["strips","order"] (Xg Dt):=Pu.fs
noncomputable abbrev AR:Stmt:=top 34
def Zkc:Xh ["strips"] ["strips"] (Xg AR):=Pu.fs
noncomputable abbrev AU:Stmt:=top 35
def Ze6:Xh ["strips","numbers","place","left","right"] ["strips","numbers","place"] (Xg AU):=Pu.fs
noncomputable abbrev Dw:Stmt:=top 36
def Zcm:Xh ["numbers","place"] ["numbers","place"] (Xg Dw):=Pu.fs
noncomputable abbrev E1:Stmt:=top 37
def Zrk:Xh ["numbers","ranks","place"] ["numbers","ranks"] (Xg E1):=Pu.fs
noncomputable abbrev Dn:Stmt:=top 38
def Zbp:Xh ["strips","order","ranks","numbers","moves","place"] ["strips","order"] (Xg Dn):=Pu.fs
noncomputable abbrev DR:Stmt:=top 39
def Zfu:Xh ["strips","place"] ["strips","place"] (Xg DR):=Pu.fs
noncomputable abbrev Cj:Stmt:=top 42
def G1:Xh ["order","wishes","index_of","index","holder","between"] ["order","wishes"] (Xg Cj):=Pu.fs
noncomputable abbrev Df:Stmt:=top 43
def OQ:Xh ["paths","left","wishes","longer","reached","path","holder"] ["paths","left","wishes"] (Xg Df):=Pu.fs
noncomputable abbrev DN:Stmt:=top 44
def Zg8:Xh ["least","holders","wishes","paths","left","rings","reached"] ["least","holders","wishes"] (Xg DN):=Pu.fs
noncomputable abbrev Ek:Stmt:=top 45
def Zh6:Xh ["holders","wishes","ring","least","found"] ["holders","wishes"] (Xg Ek):=Pu.fs
noncomputable abbrev DP:Stmt:=top 46
def Zp6:Xh ["strips","wishes","ring"] ["strips","wishes"] (Xg DP):=Pu.fs
noncomputable abbrev D6:Stmt:=top 48
def Zqi:Xh ["strips","place"] ["strips","place"] (Xg D6):=Pu.fs
noncomputable abbrev Dx:Stmt:=top 49
def Zri:Xh ["strips","place","holder","strip"] ["strips","place","holder"] (Xg Dx):=Pu.fs
noncomputable abbrev Ef:Stmt:=top 50
def Zns:Xh ["strips","place","width","strip"] ["strips","place","width"] (Xg Ef):=Pu.fs
noncomputable abbrev Cf:Stmt:=top 51
def Zaj:Xh ["strips","place","left","right"] ["strips","place"] (Xg Cf):=Pu.fs
noncomputable abbrev EY:Stmt:=top 52
def Zfb:Xh ["wishes","ahead","behind"] ["wishes","ahead","behind"] (Xg EY):=Pu.fs
noncomputable abbrev D7:Stmt:=top 53
def Zsc:Xh ["wishes","ahead","behind"] ["wishes","ahead","behind"] (Xg D7):=Pu.fs
noncomputable abbrev Au:Stmt:=top 55
def Gn:Xh ["strips","holders","costs","ahead","behind"] ["strips"] (Xg Au):=Pu.fs
noncomputable abbrev Aq:Stmt:=top 56
def Zg0:Xh ["holders","sets","holder"] ["holders"] (Xg Aq):=Pu.fs
noncomputable abbrev Eh:Stmt:=top 57
def Zff:Xh ["members","holder"] ["members","holder"] (Xg Eh):=Pu.fs
noncomputable abbrev Ao:Stmt:=top 58
def Zg2:Xh ["members","holder","wishes"] ["members","holder","wishes"] (Xg Ao):=Pu.fs
noncomputable abbrev DE:Stmt:=top 59
def Zl9:Xh ["members","holder","wishes"] ["members","holder","wishes"] (Xg DE):=Pu.fs
noncomputable abbrev A9:Stmt:=top 60
def Zhb:Xh ["members","last","least","pairs","others"] ["members","last","least","pairs"] (Xg A9):=Pu.fs
noncomputable abbrev Ay:Stmt:=top 61
def Zam:Xh ["members","first","least","pairs","others"] ["members","first","least","pairs"] (Xg Ay):=Pu.fs
noncomputable abbrev Dl:Stmt:=top 62
def Ir:Xh ["strips","wishes","pairs","least","members","lasts"] ["strips","wishes","pairs"] (Xg Dl):=Pu.fs
noncomputable abbrev Da:Stmt:=top 63
def Zr6:Xh ["strips","wishes","least"] ["strips","wishes"] (Xg Da):=Pu.fs
noncomputable abbrev DY:Stmt:=top 64
def R9:Xh ["strips","wishes","pairs","least","members","order","firsts","best"] ["strips","wishes"] (Xg DY):=Pu.fs
noncomputable abbrev EU:Stmt:=top 65
def Zhh:Xh ["strips","wishes"] ["strips","wishes"] (Xg EU):=Pu.fs
noncomputable abbrev Eo:Stmt:=inClass (top 68) 0
def Zb8:Xh ["self","strips"] ["self","strips"] (Xg Eo):=Pu.fs
noncomputable abbrev CC:Stmt:=inClass (top 68) 1
def Zka:Xh ["self"] ["self"] (Xg CC):=Pu.fs
noncomputable abbrev CL:Stmt:=inClass (top 68) 2
def Zer:Xh ["self"] ["self"] (Xg CL):=Pu.fs
noncomputable abbrev EF:Stmt:=inClass (top 68) 3
def Zev:Xh ["self"] ["self"] (Xg EF):=Pu.fs
noncomputable abbrev Dp:Stmt:=inClass (top 68) 4
def Zkm:Xh ["self"] ["self"] (Xg Dp):=Pu.fs
noncomputable abbrev DX:Stmt:=inClass (top 68) 5
def Zek:Xh ["self","deed","field","wishes"] ["self","deed","field","wishes"] (Xg DX):=Pu.fs
noncomputable abbrev DZ:Stmt:=inClass (top 68) 6
def Zpx:Xh ["self","place","holder","field"] ["self","place","holder"] (Xg DZ):=Pu.fs
noncomputable abbrev DG:Stmt:=inClass (top 68) 7
def Zan:Xh ["self","place","width","field"] ["self","place","width"] (Xg DG):=Pu.fs
noncomputable abbrev Ee:Stmt:=inClass (top 68) 8
def Zm6:Xh ["self","place","field"] ["self","place"] (Xg Ee):=Pu.fs
noncomputable abbrev Ez:Stmt:=inClass (top 68) 9
def Zn9:Xh ["self","ahead","behind","wishes"] ["self","ahead","behind"] (Xg Ez):=Pu.fs
noncomputable abbrev Dc:Stmt:=inClass (top 68) 10
def Zmn:Xh ["self","ahead","behind","wishes"] ["self","ahead","behind"] (Xg Dc):=Pu.fs
noncomputable abbrev DL:Stmt:=inClass (top 68) 11
def Zib:Xh ["self"] ["self"] (Xg DL):=Pu.fs
noncomputable abbrev DW:Stmt:=inClass (top 68) 12
def Zjs:Xh ["self","many"] ["self","many"] (Xg DW):=Pu.fs
noncomputable abbrev E5:Stmt:=inClass (top 68) 13
def Zg3:Xh ["self"] ["self"] (Xg E5):=Pu.fs
noncomputable abbrev E6:Stmt:=inClass (top 68) 14
def Zme:Xh ["self"] ["self"] (Xg E6):=Pu.fs
noncomputable abbrev ET:Stmt:=inClass (top 68) 15
def Zda:Xh ["self"] ["self"] (Xg ET):=Pu.fs
noncomputable abbrev A6:Stmt:=inClass (top 68) 16
def Zbo:Xh ["self"] ["self"] (Xg A6):=Pu.fs
noncomputable abbrev E2:Stmt:=inClass (top 68) 17
def Zcs:Xh ["self"] ["self"] (Xg E2):=Pu.fs
noncomputable abbrev Cq:Stmt:=inClass (top 68) 18
def Znl:Xh ["self"] ["self"] (Xg Cq):=Pu.fs
noncomputable abbrev Cs:Stmt:=inClass (top 68) 19
def Zao:Xh ["self","order"] ["self","order"] (Xg Cs):=Pu.fs
noncomputable abbrev DK:Stmt:=inClass (top 68) 20
def Zq0:Xh ["self","order"] ["self","order"] (Xg DK):=Pu.fs
noncomputable abbrev Dh:Stmt:=top 70
def Zef:Xh ["_law_script","_law_k"] ["_law_script","_law_k"] (Xg Dh):=Pu.fs
noncomputable abbrev A5:Stmt:=top 71
def Zd4:Xh ["_law_found"] ["_law_found"] (Xg A5):=Pu.fs
noncomputable abbrev EV:Stmt:=top 72
def Zjd:Xh ["_law_cell","_law_place_here","_law_first"] ["_law_cell","_law_place_here"] (Xg EV):=Pu.fs
noncomputable abbrev EG:Stmt:=top 73
def Zd2:Xh ["_law_script","_law_k"] ["_law_script","_law_k"] (Xg EG):=Pu.fs
noncomputable abbrev Er:Stmt:=top 74
def Zbi:Xh ["_law_cell","_law_wide","_law_least"] ["_law_cell"] (Xg Er):=Pu.fs
noncomputable abbrev ER:Stmt:=top 75
def Zmz:Xh ["_law_menu_here","_law_k"] ["_law_menu_here","_law_k"] (Xg ER):=Pu.fs
noncomputable abbrev Dq:Stmt:=top 76
def Zmq:Xh ["_law_found","_law_due","_law_k"] ["_law_found","_law_due"] (Xg Dq):=Pu.fs
noncomputable abbrev Dg:Stmt:=top 77
def Zei:Xh ["_law_found","_law_due","_law_k","_law_j"] ["_law_found","_law_due"] (Xg Dg):=Pu.fs
noncomputable abbrev D3:Stmt:=top 78
def Zmj:Xh ["_law_found","_law_due","_law_j"] ["_law_found","_law_due"] (Xg D3):=Pu.fs
noncomputable abbrev Dk:Stmt:=top 79
def Zr1:Xh ["_law_found","_law_due","_law_k"] ["_law_found","_law_due"] (Xg Dk):=Pu.fs
noncomputable abbrev EH:Stmt:=top 80
def Zbu:Xh ["_law_strips","_law_owners"] ["_law_strips"] (Xg EH):=Pu.fs
noncomputable abbrev AH:Stmt:=top 81
def Zly:Xh ["_law_strips","_law_order","_law_ranks","_law_total","_law_k","_law_j"] ["_law_strips","_law_order"] (Xg AH):=Pu.fs
noncomputable abbrev Eg:Stmt:=top 82
def Zi6:Xh ["_law_order","_law_wishes","_law_one","_law_two"] ["_law_order","_law_wishes"] (Xg Eg):=Pu.fs
noncomputable abbrev E3:Stmt:=top 83
def Zg9:Xh ["_law_holders","_law_rows","_law_turn","_law_grown","_law_row_here"] ["_law_holders"] (Xg E3):=Pu.fs
noncomputable abbrev An:Stmt:=top 84
def Zp5:Xh ["_law_strips","_law_wishes","_law_best_here","_law_order","_law_price_here"] ["_law_strips","_law_wishes"] (Xg An):=Pu.fs
noncomputable abbrev EA:Stmt:=top 85
def Zjo:Xh ["_law_holders","_law_wishes","_law_left","_law_turn","_law_inside","_law_behind"] ["_law_holders","_law_wishes"] (Xg EA):=Pu.fs
noncomputable abbrev Ga:Stmt:=top 86
def Zik:Xh ["_law_village","_law_past","_law_pair_here"] ["_law_village","_law_past"] (Xg Ga):=Pu.fs
noncomputable abbrev Cb:Stmt:=top 87
def Zi9:Xh ["_law_strips","_law_deed_here","_law_place_here","_law_holder_here","_law_width_here","_law_parts"] ["_law_strips","_law_deed_here"] (Xg Cb):=Pu.fs
noncomputable abbrev Eb:Stmt:=top 88
def Zr8:Xh ["_law_wishes","_law_deed_here","_law_pair_here"] ["_law_wishes","_law_deed_here"] (Xg Eb):=Pu.fs
noncomputable abbrev Ci:Stmt:=top 89
def Zhw:Xh ["_law_now","_law_deed_here","_law_step_here"] ["_law_now","_law_deed_here"] (Xg Ci):=Pu.fs
noncomputable abbrev EL:Stmt:=top 90
def Zb1:Xh ["_law_village","_law_deed_here"] ["_law_village","_law_deed_here"] (Xg EL):=Pu.fs
noncomputable abbrev AN:Stmt:=top 91
def Zc4:Xh ["_law_village","_law_past"] ["_law_village","_law_past"] (Xg AN):=Pu.fs
noncomputable abbrev A2:Stmt:=top 92
def O5:Xh ["_law_village","_law_past","_law_deed_here","_law_step_here","_law_found"] ["_law_village","_law_past","_law_deed_here"] (Xg A2):=Pu.fs
noncomputable abbrev Dj:Stmt:=top 93
def Zrr:Xh ["_law_script","_law_menu_here","_law_many","_law_rest","_law_strips","_law_k","_law_cell","_law_width_here"] ["_law_script","_law_menu_here","_law_many"] (Xg Dj):=Pu.fs
noncomputable abbrev Ck:Stmt:=top 94
def Ze0:Xh ["_law_script","_law_most"] ["_law_script","_law_most"] (Xg Ck):=Pu.fs
noncomputable abbrev DF:Stmt:=top 95
def Zhs:Xh ["_law_cell","_law_good"] ["_law_cell","_law_good"] (Xg DF):=Pu.fs
noncomputable abbrev DT:Stmt:=top 96
def Zbq:Xh ["_law_cell","_law_strips"] ["_law_cell","_law_strips"] (Xg DT):=Pu.fs
noncomputable abbrev Ax:Stmt:=top 97
def Zkn:Xh ["_law_cell","_law_menu_here","_law_pool","_law_one","_law_two","_law_ahead"] ["_law_cell","_law_menu_here"] (Xg Ax):=Pu.fs
noncomputable abbrev A1:Stmt:=top 98
def Gs:Xh ["_law_script","_law_menu_here","_law_seed","_law_many","_law_deeds","_law_k","_law_pair_here"] ["_law_script","_law_menu_here"] (Xg A1):=Pu.fs
noncomputable abbrev Di:Stmt:=top 99
def Zq7:Xh ["_law_cell","_law_strips","_law_place_here"] ["_law_cell","_law_strips","_law_place_here"] (Xg Di):=Pu.fs
noncomputable abbrev Ca:Stmt:=top 100
def Zae:Xh ["_law_cell","_law_menu_here","_law_now","_law_kind","_law_rest","_law_place_here","_law_more","_law_pair_here"] ["_law_cell","_law_menu_here","_law_now"] (Xg Ca):=Pu.fs
noncomputable abbrev Ex:Stmt:=top 101
def Zi1:Xh ["_law_village","_law_order","_law_stood"] ["_law_village","_law_order"] (Xg Ex):=Pu.fs
noncomputable abbrev D2:Stmt:=top 102
def Znw:Xh ["_law_rows","_law_row_here"] ["_law_rows"] (Xg D2):=Pu.fs
noncomputable abbrev Ds:Stmt:=top 103
def Zax:Xh ["_law_rows","_law_cell","_law_k"] ["_law_rows","_law_cell"] (Xg Ds):=Pu.fs
noncomputable abbrev Ts:Stmt:=top 104
def Zq8:Xh ["_law_script","_law_menu_here","_law_strips","_law_village","_law_past","_law_deed_here","_law_cell","_law_due","_law_order","_law_first","_law_kept_here","_law_again","_law_cost"] ["_law_script"] (Xg Ts):=Pu.fs
structure Glob (K:ZW) (mg:Ya):Prop where
 ZP:mg "any"=none
 ZT:mg "bool"=none
 Zp:mg "enumerate"=none
 ZQ:mg "int"=none
 Zc:mg "isinstance"=none
 len:mg "len"=none
 Zg:mg "list"=none
 ZG:mg "max"=none
 ZR:mg "min"=none
 Zf:mg "range"=none
 ZM:mg "repr"=none
 ZU:mg "set"=none
 Zj:mg "sorted"=none
 ZV:mg "str"=none
 ZS:mg "sum"=none
 Zn:mg "tuple"=none
 Zw:∃u,mg "HOLDERS"=some u/\RelV (.int 10) u
 Zk:∃u,mg "STRIPS"=some u/\RelV (.int 40) u
 Zl:∃u,mg "WIDEST"=some u/\RelV (.int 1000) u
 Zm:∃u,mg "MOST_WISHES"=some u/\RelV (.int 20) u
 Zo:∃u,mg "MOST_DEEDS"=some u/\RelV (.int 100) u
 Zh:mg "TooManyStrips"=some (.ref<|ExcR.Xq mg "TooManyStrips")
 Zi:ExcR.K8 K (ExcR.Xq mg "TooManyStrips")
 Z5:mg "BadHolder"=some (.ref<|ExcR.Xq mg "BadHolder")
 Z6:ExcR.K8 K (ExcR.Xq mg "BadHolder")
 Z7:mg "BadWidth"=some (.ref<|ExcR.Xq mg "BadWidth")
 Z8:ExcR.K8 K (ExcR.Xq mg "BadWidth")
 Zq:mg "NoStrip"=some (.ref<|ExcR.Xq mg "NoStrip")
 Zr:ExcR.K8 K (ExcR.Xq mg "NoStrip")
 Z9:mg "BadOrder"=some (.ref<|ExcR.Xq mg "BadOrder")
 ZA:ExcR.K8 K (ExcR.Xq mg "BadOrder")
 ZC:mg "OwnStrip"=some (.ref<|ExcR.Xq mg "OwnStrip")
 ZD:ExcR.K8 K (ExcR.Xq mg "OwnStrip")
 ZH:mg "BadPart"=some (.ref<|ExcR.Xq mg "BadPart")
 ZI:ExcR.K8 K (ExcR.Xq mg "BadPart")
 Zs:mg "UnlikeHolders"=some (.ref<|ExcR.Xq mg "UnlikeHolders")
 Zt:ExcR.K8 K (ExcR.Xq mg "UnlikeHolders")
 ZJ:mg "TooWide"=some (.ref<|ExcR.Xq mg "TooWide")
 ZK:ExcR.K8 K (ExcR.Xq mg "TooWide")
 Zx:mg "LikeHolders"=some (.ref<|ExcR.Xq mg "LikeHolders")
 Zy:ExcR.K8 K (ExcR.Xq mg "LikeHolders")
 Z1:mg "WishStands"=some (.ref<|ExcR.Xq mg "WishStands")
 Z2:ExcR.K8 K (ExcR.Xq mg "WishStands")
 Zu:mg "TooManyWishes"=some (.ref<|ExcR.Xq mg "TooManyWishes")
 Zv:ExcR.K8 K (ExcR.Xq mg "TooManyWishes")
 ZN:mg "NoWish"=some (.ref<|ExcR.Xq mg "NoWish")
 ZO:ExcR.K8 K (ExcR.Xq mg "NoWish")
 ZE:mg "BookFull"=some (.ref<|ExcR.Xq mg "BookFull")
 ZF:ExcR.K8 K (ExcR.Xq mg "BookFull")
 Zz:mg "NothingDone"=some (.ref<|ExcR.Xq mg "NothingDone")
 Z0:ExcR.K8 K (ExcR.Xq mg "NothingDone")
 Z3:mg "NoSuchDeed"=some (.ref<|ExcR.Xq mg "NoSuchDeed")
 Z4:ExcR.K8 K (ExcR.Xq mg "NoSuchDeed")
 ZL:mg "Village"=some (.ref<|ExcR.Xq mg "Village")
 Za:Cls K (ExcR.Xq mg "Village")
 Zb:NoAttr K (ExcR.Xq mg "Village") "book"
 Zd:NoAttr K (ExcR.Xq mg "Village") "fields"
 Ze:NoAttr K (ExcR.Xq mg "Village") "wished"
def N9:Pu.FldAt "book" ["book","fields","wished"] 0:=.of (by decide +kernel) (by decide +kernel) rfl
def Znz:Pu.PutAt "book" []:=.of (by decide +kernel)
def Fn:Pu.FldAt "fields" ["book","fields","wished"] 1:=.of (by decide +kernel) (by decide +kernel) rfl
def Zcg:Pu.PutAt "fields" ["book"]:=.of (by decide +kernel)
def F4:Pu.FldAt "wished" ["book","fields","wished"] 2:=.of (by decide +kernel) (by decide +kernel) rfl
def Zpd:Pu.PutAt "wished" ["book","fields"]:=.of (by decide +kernel)
def Pk:Pu.NoFld "strips" ["book","fields","wished"]:=.of (by decide +kernel)
def P9:Pu.NoFld "wishes" ["book","fields","wished"]:=.of (by decide +kernel)
def AQ:Pu.NoFld "deeds" ["book","fields","wished"]:=.of (by decide +kernel)
def Bp:Pu.NoFld "check_room" ["book","fields","wished"]:=.of (by decide +kernel)
def Bx:Pu.NoFld "enter" ["book","fields","wished"]:=.of (by decide +kernel)
def Zgh:Pu.NoFld "sell" ["book","fields","wished"]:=.of (by decide +kernel)
def Zd8:Pu.NoFld "part" ["book","fields","wished"]:=.of (by decide +kernel)
def Zqu:Pu.NoFld "unite" ["book","fields","wished"]:=.of (by decide +kernel)
def Zag:Pu.NoFld "wish" ["book","fields","wished"]:=.of (by decide +kernel)
def Znm:Pu.NoFld "drop" ["book","fields","wished"]:=.of (by decide +kernel)
def Zgo:Pu.NoFld "take_back" ["book","fields","wished"]:=.of (by decide +kernel)
def Zde:Pu.NoFld "stood" ["book","fields","wished"]:=.of (by decide +kernel)
def Zk4:Pu.NoFld "ring" ["book","fields","wished"]:=.of (by decide +kernel)
def CV:Pu.NoFld "order" ["book","fields","wished"]:=.of (by decide +kernel)
def Zkf:Pu.NoFld "cost" ["book","fields","wished"]:=.of (by decide +kernel)
def Zmp:Pu.NoFld "table" ["book","fields","wished"]:=.of (by decide +kernel)
def Zma:Pu.NoFld "moves" ["book","fields","wished"]:=.of (by decide +kernel)
def Zlz:Pu.NoFld "melded" ["book","fields","wished"]:=.of (by decide +kernel)
def Zh9:Pu.NoFld "price" ["book","fields","wished"]:=.of (by decide +kernel)
def Zfl:Pu.NoFld "broken" ["book","fields","wished"]:=.of (by decide +kernel)
end T
namespace M
open L2 Own Pu
noncomputable def Zi0:Pc:=λf R X=>∃h:Int,f=[.int h]/\Ka (Sw h) X (R<|.sh .non)
noncomputable def AS(h:Int):Option Str:=if 1<=h/\h<=1000 then none else some "BadWidth"
noncomputable def Zbz:Pc:=λf R X=>∃h:Int,f=[.int h]/\Ka (AS h) X (R<|.sh .non)
noncomputable def Of(_:ZW):Sp:=λh H Q _=>∃(l:Addr) (f:ZX),h=[.ref l]/\LAt Pv H l f/\Field f/\f.length<=50/\
 ∀(q:Addr) (g:Hp),H q=none->Same H g->g q=some (.lst ((Xj f).map V.int))->Q (.ref q) g
noncomputable def Rv:Pc:=λg R _=>∃f:ZX,g=[.lst (f.map prD)]/\Field f/\f.length<=50/\R (.own ((Xj f).map D.int))
def Sh{P:Program}{w:World}{K:ZW}{f:Ya}{base:Heap}(C:Callee P w K f base CX0 1 "holders_of" ["strips"] (Of K)):Callee P w K f base CX0 1 "holders_of" ["strips"] (Xl f Rv K):=Zhu C λG R X A H Q E r p x B=>by
 obtain⟨l,rfl,y,o,u⟩:=p;obtain⟨v,rfl,g⟩:=r.one_inv;obtain⟨a,rfl,s⟩:=g.pairs_inv;exact⟨a,l,rfl,s,y,o,λq z n S h=>x _ _ z u S (Zof n h)⟩
noncomputable def Zdb:Pc:=λg R _=>∃(f:ZX) (x y:Int),g=[.lst (f.map prD),.int x,.int y]/\Field f/\R (.sh<|.int<|pcM f x y f.length)
noncomputable def Zo9:Pc:=λg R _=>∃f:ZX,g=[.lst (f.map prD)]/\f.length<=1000/\R (.own ((Kf 1 f.length).map D.int))
noncomputable def Zgp:Pc:=λh R _=>∃(f:ZX) (g:ZY) (p:Int),h=[.lst (f.map prD),.lst (g.map D.int),.int p]/\Field f/\(∀n∈g,1<=n/\n<=f.length)/\1<=p/\p<g.length/\R (.sh<|.int<|exM f g p.toNat)
noncomputable def Zsm:Pc:=λg R _=>∃(f:ZY) (p:Int),g=[.lst (f.map D.int),.int p]/\1<=p/\p<f.length/\f.length<=1000/\R (.own ((Pe f p.toNat).map D.int))
noncomputable def Zhy:Pc:=λh R _=>∃f g:ZY,h=[.lst (f.map D.int),.lst (g.map D.int)]/\(∀m∈f,1<=m/\m<=g.length)/\f.length<=1000/\∀p:Nat,FW (f.map λm=>g.getD (m-1).toNat 0) p->R (.sh<|.int p)
noncomputable def Zmt:Pc:=λg R X=>∃(f:ZX) (p:Int),g=[.lst (f.map prD),.int p]/\(if p<1\/(f.length:Int)<=p then X "NoStrip" else R (.sh .non))
noncomputable def T4(os:ZY)(q:Int×Int):Bool:=decide (q.1∈os)&&decide (q.2∈os.take (os.idxOf q.1))
noncomputable def Ziz:Pc:=λg R _=>∃(os:ZY) (f:ZX),g=[.lst (os.map D.int),.lst (f.map prD)]/\os.Nodup/\os.length<=50/\f.length<=50/\R (.own ((f.filter<|T4 os).map prD))
def LW(f:ZX)(l:Int)(ps:List (ZY))(g:ZY)(n:List (ZY)):Prop:=∀q∈n,∃p∈ps,∃h∈g,q=p++[h]/\(XM l p,h)∈f
noncomputable def Zne:Pc:=λo R _=>∃(l:Int) (g:List (ZY)) (f:ZY) (n:ZX),o=[.lst (g.map<|em l),.lst (f.map D.int),.lst (n.map prD)]/\(∀p∈g,p.length<=100)/\f.length<=100/\
 ∀h,LW n l g f h->h.length<=f.length->R (.own<|h.map<|em l)
noncomputable def Zfx:Pc:=λg R X=>∃(f:ZX) (p:Int),g=[plD f,.int p]/\Ka (Fp f p) X (R<|.sh .non)
noncomputable def Zem:Pc:=λg R X=>∃(f:ZX) (a b:Int),g=[plD f,.int a,.int b]/\f.length<=1000/\Ka (Kh f a b) X (R<|.own ((To f a b).map prD))
noncomputable def Zd5:Pc:=λg R _=>∃f:ZY,g=[.lst (f.map D.int)]/\f.length<=10/\R (.own ((X1 f).map tD))
noncomputable def Zpz:Pc:=λg R _=>∃(f:ZY) (h:Int),g=[tD f,.int h]/\f.length<=1000/\R (.sh<|tD<|Xz f h)
noncomputable def Zgs:Pc:=λl R _=>∃(g:ZY) (h:Int) (f:ZX),l=[tD g,.int h,.lst (f.map prD)]/\f.length<=50/\R (.sh<|.bl<|TC f g h)
noncomputable def Zq2:Pc:=λl R _=>∃(g:ZY) (h:Int) (f:ZX),l=[tD g,.int h,.lst (f.map prD)]/\f.length<=50/\R (.sh<|.bl<|firstM f g h)
noncomputable def Zng(C:Addr):Pc:=λh R _=>∃(bk:List (Str×ZY)) (fs g:List (ZX)) (f:ZX),h=[KR C bk (fs++[f]) g]/\R (.own<|f.map prD)
noncomputable def Zig(C:Addr):Pc:=λh R _=>∃(bk:List (Str×ZY)) (fs g:List (ZX)) (f:ZX),h=[KR C bk fs (g++[f])]/\R (.own<|f.map prD)
noncomputable def Zcr(C:Addr):Pc:=λg R _=>∃(bk:List (Str×ZY)) (fs f:List (ZX)),g=[KR C bk fs f]/\R (.own<|bk.map dD)
noncomputable def ND(bk:List (Str×ZY)):Option Str:=if 100<=bk.length then some "BookFull" else none
noncomputable def Zlm(C:Addr):Pc:=λg R X=>∃(bk:List (Str×ZY)) (fs f:List (ZX)),g=[KR C bk fs f]/\Ka (ND bk) X (R<|.sh .non)
noncomputable def Za5(C:Addr):Pw:=λo n R _=>∃(x b1 l h:Addr) (bk:List (Str×ZY)) (fs g:List (ZX)) (q:Str×ZY) (f w:ZX),o=vO C x b1 l h bk fs g/\n=[.sh (dD q),.sh (plD f),.sh (plD w)]/\bk.length<=1000/\fs.length<=1000/\g.length<=1000/\
 R (vO C x b1 l h (bk++[q]) (fs++[f]) (g++[w])) (.int (bk.length+1))
noncomputable def Zin(C:Addr):Pw:=λo l R X=>∃(x b1 h g:Addr) (bk:List (Str×ZY)) (fs f:List (ZX)),o=vO C x b1 h g bk fs f/\l=[]/\fs.length=bk.length+1/\f.length=bk.length+1/\
 (bk=[]->X (vO C x b1 h g bk fs f) "NothingDone")/\∀b0 q,bk=b0++[q]->R (vO C x b1 h g b0 fs.dropLast f.dropLast) (dD q)
noncomputable def Zoo(C:Addr):Pc:=λh R X=>∃(bk:List (Str×ZY)) (fs g:List (ZX)) (k:Int),h=[KR C bk fs g,.int k]/\fs.length=bk.length+1/\g.length=bk.length+1/\(k<0\/(bk.length:Int)<k->X "NoSuchDeed")/\
 ∀(f w:ZX) (i:Nat) (x y:Addr),k=i->fs[i]?=some f->g[i]?=some w->R (.own<|.nst [(x,f.map prD),(y,w.map prD)])
noncomputable def Zfy:Pc:=λg R _=>∃(f:ZY) (k:Int),g=[.scr f,.int k]/\0<=k/\R (.sh<|.int<|f.getD k.toNat 0)
noncomputable def Znb:Pc:=λf R _=>∃i:Int,f=[.int i]/\R (.sh<|.bl true)
noncomputable def Zgy:Pc:=λf R _=>∃c p:Int,f=[.int c,.int p]/\R (.sh<|.int<|mixP c p)
noncomputable def Zlj:Pc:=λf R _=>∃c:Int,f=[.int c]/\∀m,TR m->R (.own<|m.map D.int)
noncomputable def Znd:Pc:=λf R _=>∃(m:ZY) (k:Int),f=[.lst (m.map D.int),.int k]/\TR m/\∀h:Int,1<=h->h<=10->h=Zni m k->R (.sh<|.int h)
noncomputable def Zmm:Pc:=λg R _=>∃f:ZX,g=[.lst (f.map prD)]/\f.length<=50/\R (.own ((Xj f).map D.int))
noncomputable def Zlf:Pc:=λg R _=>∃(f:ZX) (os:ZY),g=[.lst (f.map prD),.lst (os.map D.int)]/\Field f/\f.length<=50/\(∀p∈f,p.1∈os)/\R (.sh<|.int<|Te f os f.length)
noncomputable def Pi(os:ZY)(q:Int×Int):Bool:=decide (q.1∈os)&&(decide (q.2∈os)&&decide (os.idxOf q.2<os.idxOf q.1))
noncomputable def Zsa:Pc:=λg R _=>∃(os:ZY) (f:ZX),g=[.lst (os.map D.int),.lst (f.map prD)]/\((∀q∈f,Pi os q=false)->R (.sh<|.bl true))/\((∃q∈f,Pi os q=true)->R (.sh<|.bl false))
noncomputable abbrev ilD(r:ZY):D:=.lst (r.map D.int)
noncomputable def Zmv:Pc:=λg R _=>∃f:ZY,g=[.lst (f.map D.int)]/\f.Nodup/\f.length<=10/\R (.sh<|.lst ((XH f f.length).map ilD))
noncomputable def Zrn:Pc:=λh R _=>∃(f:ZY) (g:ZX),h=[.lst (f.map D.int),.lst (g.map prD)]/\f.length<=50/\g.length<=50/\R (.sh<|.bl<|decide (XJ g f f.length=[]))
noncomputable def Zkk:Pq:=λg R _=>∃(f:ZX) (x:Dd),g=[.sh (plD f),.sh (dD x.q)]/\x.land=true/\f.length<=40/\R (.own [.int (codeN<|x.err f []),plD (x.fld' f)])
noncomputable def Zio:Pq:=λf R _=>∃(w:ZX) (x:Dd),f=[.sh (plD w),.sh (dD x.q)]/\x.land=false/\w.length<=20/\R (.own [.int (codeN<|x.err [] w),plD (x.wsh' w)])
noncomputable def Zhm:Pc:=λf R _=>∃c g:Int,f=[.int c,.int g]/\∀v:Int,R (.sh<|.int v)
noncomputable def Ze7:Pc:=λg R _=>∃(c:Int) (f:ZX),g=[.int c,plD f]/\f.length<=1000/\∀v:Int,R (.sh<|.int v)
noncomputable def Zal:Pc:=λg R _=>∃(c:Int) (f:ZX) (p:Int),g=[.int c,plD f,.int p]/\f.length<=1000/\Field f/\∀v:Int,R (.sh<|.int v)
noncomputable def Zp3:Pc:=λh R _=>∃f:List (List D),h=[.lst (f.map D.lst)]/\f.length<=1000/\(∀d∈f,XF d=true)/\∀(x:Addr) (g:List (Addr×List D)),g.map (·.2)=f->R (.own<|.nsl x g)
noncomputable def Zrc:Pw:=λo h R _=>∃(x:Addr) (g:List (Addr×List D)) (c:Int),o=.nsl x g/\h=[.sh (.int c)]/\g.length<=1000/\(∀c∈g,c.2.length<=100000)/\∀f,R (.nsl x f) .non
noncomputable def Zfp:Pc:=λg R X=>∃f:ZX,g=[plD f]/\f.length<=1000/\Ka (Sx f) X (R<|.sh .non)
noncomputable def Zah:Pc:=λg R X=>∃(f:ZX) (os:ZY),g=[plD f,.lst (os.map D.int)]/\Field f/\f.length<=50/\os.length<64/\Ka (PM f os) X (R<|.sh .non)
noncomputable def Zf6:Pc:=λh R _=>∃(l:Int) (f:ZY) (g:ZX),h=[.int l,.lst (f.map D.int),.lst (g.map prD)]/\f.length<=50/\(∀t,¬SC f g l t)/\R (.sh<|.lst [])
noncomputable def Zq6:Pc:=λg R X=>∃(f:ZX) (p h:Int),g=[plD f,.int p,.int h]/\f.length<=1000/\Ka (KN f p h) X (R<|.own (TB f p h |>.map prD))
noncomputable def Zq4:Pc:=λg R X=>∃(f:ZX) (p w:Int),g=[plD f,.int p,.int w]/\f.length<=1000/\Ka (Kn f p w) X (R<|.own ((PR f p w).map prD))
noncomputable def Zb4:Pc:=λg R X=>∃(f:ZX) (p:Int),g=[plD f,.int p]/\f.length<=1000/\Ka (XZ f p) X (R<|.own ((PD f p).map prD))
noncomputable def Zsl:Pc:=λg R X=>∃(f:ZX) (a b:Int),g=[plD f,.int a,.int b]/\f.length<=1000/\Ka (Ke f a b) X (R<|.own ((f++[(a,b)]).map prD))
noncomputable def Zhp:Pc:=λh R _=>∃f:ZX,h=[.lst (f.map prD)]/\Field f/\f.length<=50/\
 ∀g:List (List Key×V),(∀x∈Xj f,∀y∈Xj f,Xy g [.inl x,.inl y]=some (.int<|pcM f x y f.length))->R (.own<|.dT g)
noncomputable def Zkb:Pc:=λh R _=>∃(f:ZY) (l:Int) (le g:List (List Key×V)) (c:Int->Int) (v:Int),h=[tD f,.int l,.dT le,.dT g]/\f.length<=1000/\Xy le (kT<|Xz f l)=some (.int v)/\
 (∀m∈Xz f l,Xy g [.inl m,.inl l]=some (.int<|c m))/\R (.sh<|.int (v+((Xz f l).map c).sum))
noncomputable def Zbj:Pc:=λh R _=>∃(f:ZY) (l:Int) (le g:List (List Key×V)) (c:Int->Int) (v:Int),h=[tD f,.int l,.dT le,.dT g]/\f.length<=1000/\Xy le (kT<|Xz f l)=some (.int v)/\
 (∀m∈Xz f l,Xy g [.inl l,.inl m]=some (.int<|c m))/\R (.sh<|.int (v+((Xz f l).map c).sum))
noncomputable def Ai(bk:List (Str×ZY))(w:ZX)(a b:Int):Option Str:=if 100<=bk.length then some "BookFull" else Kh w a b
noncomputable def Zo1(C:Addr):Pw:=λo r R X=>∃(x b1 n l:Addr) (bk:List (Str×ZY)) (fs g:List (ZX)) (f w:ZX) (p h:Int),o=vO C x b1 n l bk (fs++[f]) (g++[w])/\r=[.sh (.int p),.sh (.int h)]/\bk.length<=1000/\fs.length<=900/\g.length<=900/\w.length<=1000/\
 Ka (Ai bk w p h) (X<|vO C x b1 n l bk (fs++[f]) (g++[w])) (R (vO C x b1 n l (bk++[(("drop" : Str),[p,h])]) (fs++[f]++[f]) (g++[w]++[To w p h]))<|.int (bk.length+1))
noncomputable def Zbx:Pc:=λg R _=>∃(f:ZY) (k:Int),g=[.scr f,.int k]/\0<=k/\∀v:Int,R (.sh<|.int v)
noncomputable def Zpb:Pc:=λf R _=>∃xs:ZY,f=[.lst (xs.map D.int),.lst (xs.map D.int)]/\xs.length<=1000000/\R (.sh<|.bl true)
noncomputable def Zrb:Pc:=λg R _=>∃f:ZX,g=[.lst (f.map prD),.lst (f.map prD)]/\f.length<=1000000/\R (.sh<|.bl true)
noncomputable def Zaw:Pc:=λf R _=>∃q:Str×ZY,f=[dD q,dD q]/\q.2.length<=100/\R (.sh<|.bl true)
noncomputable def Zif:Pc:=λh R _=>∃f g:ZX,h=[.lst (f.map prD),.lst (g.map prD)]/\Field f/\f.length<=50/\(Xj f).length<=10/\(∀q∈g,q.1≠q.2)/\(¬ ∃r,Ring (Xj f) g r)/\∀o,K5 g (pcc f) (Xj f) o->R (.own<|.lst [.int (oc (pcc f) o),.lst (o.map D.int)])
noncomputable def Zch:Pq:=λg R _=>∃(f w:ZX) (h:List D) (x:Dd),g=[.sh (.tup (plD f::plD w::h)),.sh (dD x.q)]/\f.length<=40/\w.length<=20/\R (.own [.int (codeN<|x.err f w),plD (x.nf f w),plD (x.nw f w)])
noncomputable def Zko:Pc:=λh R _=>∃(g m:ZY) (n:Int),h=[.scr g,.lst (m.map D.int),.int n]/\TR m/\0<=n/\n<=1000/\∀f:ZX,Field f->f.length=n.toNat->R (.own<|f.map prD)
noncomputable def Zbs:Pc:=λh R _=>∃(g:ZY) (n:Int),h=[.scr g,.int n]/\0<=n/\n<=1000/\∀f:ZY,(f.length:Int)<=n->R (.own<|f.map D.int)
noncomputable def Zba:Pc:=λf R _=>∃(c:Int) (m:ZY),f=[.int c,.lst (m.map D.int)]/\TR m/\∀a b:Int,R (.sh<|prD (a,b))
noncomputable def P1(ps:ZX)(os:ZY):ZX:=os.flatMap λh=>ps.filter λq=>decide (q.1=h)
noncomputable def Zge:Pc:=λg R X=>∃(f:ZX) (os:ZY),g=[plD f,.lst (os.map D.int)]/\Field f/\f.length<=50/\os.length<64/\Ka (PM f os) X (R<|.own ((P1 f os).map prD))
noncomputable def Zrq:Pc:=λg R X=>∃(f:ZX) (os:ZY),g=[plD f,.lst (os.map D.int)]/\Field f/\f.length<=50/\os.length<64/\Ka (PM f os) X (R<|.sh<|.int<|KB f f.length os)
noncomputable def Zk9:Pc:=λh R _=>∃(f:ZX) (o:ZY),h=[plD f,.lst (o.map D.int)]/\Field f/\f.length<=40/\o.Perm (Xj f)/\∀g:List Mo,Mv f (rkN f o) (Kf 1 f.length) g->R (.own<|g.map mvD)
noncomputable def Zdi:Pc:=λh R _=>∃(f:ZY) (g:ZX),h=[.lst (f.map D.int),.lst (g.map prD)]/\f.length<=50/\(∀l∈f,∀t,¬SC f g l t)/\R (.own<|.lst [])
noncomputable def Zdq:Pc:=λn R _=>∃(f g:ZX) (l:List (List Key×V)) (c:Int->Int->Int),n=[.lst (f.map prD),.lst (g.map prD),.dT l]/\Field f/\f.length<=50/\g.length<=50/\(∀q∈g,q.1≠q.2)/\
 (∀x∈Xj f,∀y∈Xj f,Xy l [.inl x,.inl y]=some (.int<|c x y))/\MD (Xj f) g/\∀h,Tab g c (X1<|Xj f) h->R (.own<|.dT h)
noncomputable def Zhk(C:Addr):Pw:=λo g R X=>∃(x:Addr) (f:ZX),o=.ins x C [] []/\g=[.sh (plD f)]/\f.length<=1000/\Ka (Sx f) (X<|.ins x C [] []) (∀b1 l h,R (vO C x b1 l h [] [f] [[]]) .non)
noncomputable def Ft(bk:List (Str×ZY))(f:ZX)(p h:Int):Option Str:=if 100<=bk.length then some "BookFull" else KN f p h
noncomputable def Znc(C:Addr):Pw:=λo r R X=>∃(x b1 n l:Addr) (bk:List (Str×ZY)) (fs g:List (ZX)) (f w:ZX) (p h:Int),o=vO C x b1 n l bk (fs++[f]) (g++[w])/\r=[.sh (.int p),.sh (.int h)]/\bk.length<=1000/\fs.length<=900/\g.length<=900/\f.length<=1000/\
 Ka (Ft bk f p h) (X<|vO C x b1 n l bk (fs++[f]) (g++[w])) (R (vO C x b1 n l (bk++[(("sell" : Str),[p,h])]) (fs++[f]++[TB f p h]) (g++[w]++[w]))<|.int (bk.length+1))
noncomputable def FP(bk:List (Str×ZY))(f:ZX)(p h:Int):Option Str:=if 100<=bk.length then some "BookFull" else Kn f p h
noncomputable def Zk1(C:Addr):Pw:=λo r R X=>∃(x b1 n l:Addr) (bk:List (Str×ZY)) (fs g:List (ZX)) (f w:ZX) (p h:Int),o=vO C x b1 n l bk (fs++[f]) (g++[w])/\r=[.sh (.int p),.sh (.int h)]/\bk.length<=1000/\fs.length<=900/\g.length<=900/\f.length<=1000/\
 Ka (FP bk f p h) (X<|vO C x b1 n l bk (fs++[f]) (g++[w])) (R (vO C x b1 n l (bk++[(("part" : Str),[p,h])]) (fs++[f]++[PR f p h]) (g++[w]++[w]))<|.int (bk.length+1))
noncomputable def Fd(bk:List (Str×ZY))(f:ZX)(p:Int):Option Str:=if 100<=bk.length then some "BookFull" else XZ f p
noncomputable def Zci(C:Addr):Pw:=λo n R X=>∃(x b1 l h:Addr) (bk:List (Str×ZY)) (fs g:List (ZX)) (f w:ZX) (p:Int),o=vO C x b1 l h bk (fs++[f]) (g++[w])/\n=[.sh (.int p)]/\bk.length<=1000/\fs.length<=900/\g.length<=900/\f.length<=1000/\
 Ka (Fd bk f p) (X<|vO C x b1 l h bk (fs++[f]) (g++[w])) (R (vO C x b1 l h (bk++[(("unite" : Str),[p])]) (fs++[f]++[PD f p]) (g++[w]++[w]))<|.int (bk.length+1))
noncomputable def Ad(bk:List (Str×ZY))(w:ZX)(a b:Int):Option Str:=if 100<=bk.length then some "BookFull" else Ke w a b
noncomputable def Zpi(C:Addr):Pw:=λo r R X=>∃(x b1 n l:Addr) (bk:List (Str×ZY)) (fs g:List (ZX)) (f w:ZX) (p h:Int),o=vO C x b1 n l bk (fs++[f]) (g++[w])/\r=[.sh (.int p),.sh (.int h)]/\bk.length<=1000/\fs.length<=900/\g.length<=900/\w.length<=1000/\
 Ka (Ad bk w p h) (X<|vO C x b1 n l bk (fs++[f]) (g++[w])) (R (vO C x b1 n l (bk++[(("wish" : Str),[p,h])]) (fs++[f]++[f]) (g++[w]++[w++[(p,h)]]))<|.int (bk.length+1))
noncomputable def Zdf(C:Addr):Pc:=λh R X=>∃(bk:List (Str×ZY)) (fs g:List (ZX)) (f w:ZX) (os:ZY),h=[KR C bk (fs++[f]) (g++[w]),.lst (os.map D.int)]/\Field f/\f.length<=50/\os.length<64/\w.length<=50/\Ka (PM f os) X (R<|.own ((w.filter<|T4 os).map prD))
noncomputable def Zmy:Pc:=λf R _=>∃bk:List (Str×ZY),f=[.lst (bk.map dD),.lst (bk.map dD)]/\(∀q∈bk,q.2.length<=100)/\bk.length<=1000/\R (.sh<|.bl true)
noncomputable def Zia:Pc:=λh R _=>∃(g m:ZY),h=[.scr g,.lst (m.map D.int)]/\TR m/\∀f:ZX,f.length<=24->R (.own (f.map λq=>dD (Dd.wish q.1 q.2).q))
noncomputable def Zhn:Pc:=λh R _=>∃(c:Int) (m:ZY) (f w:ZX) (g:List D),h=[.int c,.lst (m.map D.int),.tup (plD f::plD w::g)]/\TR m/\f.length<=1000/\Field f/\w.length<=1000/\(∀x:Dd,R (.sh<|dD x.q))/\R (.sh<|.tup [.str "back"])
def RT{hs:ZY}{f:ZX}{l:Int}(o:∀q∈f,q.1≠q.2)(s:¬ ∃r,Ring hs f r)(p:l∈hs):∀(n:Nat) (t:ZY),t.length<=n->¬SC hs f l t:=by
 intro n
 induction n with
 |zero=>exact λt w h=>s ⟨_,LC o p h λu _=>by lia⟩
 |succ n v=>exact λt w h=>s ⟨_,LC o p h λu g=>Qt λz=>v u (by lia) g⟩
noncomputable def Zpk:Pc:=λh R _=>∃(f g:ZX),h=[.lst (f.map prD),.lst (g.map prD)]/\Field f/\f.length<=50/\(∀q∈g,q.1≠q.2)/\(¬ ∃r,Ring (Xj f) g r)/\R (.sh .non)
noncomputable def Zlo(C:Addr):Pc:=λh R _=>∃(bk:List (Str×ZY)) (fs g:List (ZX)) (f w:ZX),h=[KR C bk (fs++[f]) (g++[w])]/\Field f/\f.length<=50/\(∀q∈w,q.1≠q.2)/\(¬ ∃r,Ring (Xj f) w r)/\R (.own<|.lst [])
noncomputable def Zeh(C:Addr):Pc:=λh R X=>∃(bk:List (Str×ZY)) (fs g:List (ZX)) (f:ZX) (os:ZY),h=[KR C bk (fs++[f]) g,.lst (os.map D.int)]/\Field f/\f.length<=50/\os.length<64/\Ka (PM f os) X (R<|.sh<|.int<|KB f f.length os)
noncomputable def Es(bk:List (Str×ZY))(f w:ZX)(d:Dd):Option Str:=if 100<=bk.length then some "BookFull" else d.err f w
noncomputable def Zrd(C:Addr):Pw:=λo n R X=>∃(x b1 l h:Addr) (bk:List (Str×ZY)) (fs g:List (ZX)) (f w:ZX) (d:Dd),o=vO C x b1 l h bk (fs++[f]) (g++[w])/\n=[.sh (dD d.q)]/\bk.length<=1000/\fs.length<=900/\g.length<=900/\f.length<=1000/\w.length<=1000/\
 Ka (Es bk f w d) (X<|vO C x b1 l h bk (fs++[f]) (g++[w])) (R (vO C x b1 l h (bk++[d.q]) (fs++[f]++[d.fld f]) (g++[w]++[d.wsh w]))<|.int (bk.length+1))
noncomputable def Zo4(C:Addr):Pc:=λh R _=>∃(f0:ZX) (f:List (Dd×ZX×ZX)),h=[KR C (bkH f) (fsH f0 f) (wsH f),.lst (XO f0 f)]/\f.length<=200/\(∀g∈fsH f0 f,g.length<=1000)/\(∀g∈wsH f,g.length<=1000)/\R (.sh<|.bl true)
noncomputable def Zdk:Pc:=λl R _=>∃(f g:ZX),l=[.lst (f.map prD),.lst (g.map prD)]/\Field f/\f.length<=50/\g.length<=50/\(∀q∈g,q.1≠q.2)/\(¬ ∃r,Ring (Xj f) g r)/\
 ∀h,TabV g (pcc f) (X1<|Xj f) h->R (.own<|h.map D.int)
noncomputable def Zjl:Pc:=λh R _=>∃(f g:ZX),h=[.lst (f.map prD),.lst (g.map prD)]/\Field f/\f.length<=50/\g.length<=50/\(∀q∈g,q.1≠q.2)/\(¬ ∃r,Ring (Xj f) g r)/\
 ∀o,K5 g (pcc f) (Xj f) o->R (.own<|o.map D.int)
noncomputable def Zdh(C:Addr):Pw2:=λo1 n l R _=>∃(x b1 h g a:Addr) (f0:ZX) (f:XD) (q:D),o1=vO C x b1 h g (bkH f) (fsH f0 f) (wsH f)/\n=.lsA a (XO f0 f)/\l=[.sh q]/\f.length<100/\FineH f0 f/\
 ((q=.tup [.str "back"]/\R (vO C x b1 h g (bkH f.dropLast) (fsH f0 f.dropLast)<|wsH f.dropLast) (.lsA a<|XO f0 f.dropLast) (.bl true))\/
  ∃d:Dd,q=dD d.q/\R (vO C x b1 h g (bkH<|KG f0 f d) (fsH f0<|KG f0 f d)<|wsH<|KG f0 f d) (.lsA a<|XO f0<|KG f0 f d) (.bl true))
noncomputable def Zki:Pc:=λh R _=>∃(f g:ZX),h=[.lst (f.map prD),.lst (g.map prD)]/\Field f/\f.length<=50/\g.length<=50/\(∀q∈g,q.1≠q.2)/\(¬ ∃r,Ring (Xj f) g r)/\
 ∀v,KA g (pcc f) (Xj f) v->R (.sh<|.int v)
noncomputable def Zol(C:Addr):Pc:=λh R _=>∃(bk:List (Str×ZY)) (fs g:List (ZX)) (f w:ZX),h=[KR C bk (fs++[f]) (g++[w])]/\Field f/\f.length<=50/\w.length<=50/\(∀q∈w,q.1≠q.2)/\(¬ ∃r,Ring (Xj f) w r)/\∀o,K5 w (pcc f) (Xj f) o->R (.own<|o.map D.int)
noncomputable def Zrt(C:Addr):Pc:=λl R _=>∃(bk:List (Str×ZY)) (fs h:List (ZX)) (f w:ZX),l=[KR C bk (fs++[f]) (h++[w])]/\Field f/\f.length<=50/\w.length<=50/\(∀q∈w,q.1≠q.2)/\(¬ ∃r,Ring (Xj f) w r)/\∀g,TabV w (pcc f) (X1<|Xj f) g->R (.own<|g.map D.int)
noncomputable def Zo2(C:Addr):Pw2:=λo1 o n R _=>∃(x b1 l h a:Addr) (f0:ZX) (g:XD),o1=vO C x b1 l h (bkH g) (fsH f0 g) (wsH g)/\o=.lsA a (XO f0 g)/\n=[]/\g.length<=60/\FineH f0 g/\Sm g/\
 ∀f:XD,f.length<=g.length+20->FineH f0 f->Sm f->(¬ ∃r,Ring (Xj<|Xn f0 f) (Xr f) r)->Xn f0 f=Xn f0 g->R (vO C x b1 l h (bkH f) (fsH f0 f)<|wsH f) (.lsA a<|XO f0 f) (.bl true)
noncomputable def Zeq(C:Addr):Pc:=λh R _=>∃(bk:List (Str×ZY)) (fs g:List (ZX)) (f w:ZX),h=[KR C bk (fs++[f]) (g++[w])]/\Field f/\f.length<=50/\w.length<=50/\(∀q∈w,q.1≠q.2)/\(¬ ∃r,Ring (Xj f) w r)/\∀v,KA w (pcc f) (Xj f) v->R (.sh<|.int v)
noncomputable def Zb0(C:Addr):Pc:=λl R _=>∃(bk:List (Str×ZY)) (fs h:List (ZX)) (f w:ZX),l=[KR C bk (fs++[f]) (h++[w])]/\Field f/\f.length<=40/\w.length<=50/\(∀q∈w,q.1≠q.2)/\(¬ ∃r,Ring (Xj f) w r)/\∀o g,K5 w (pcc f) (Xj f) o->Mv f (rkN f o) (Kf 1 f.length) g->R (.own<|g.map mvD)
noncomputable def Zhr(C:Addr):Pc:=λh R _=>∃(bk:List (Str×ZY)) (fs g:List (ZX)) (f w:ZX),h=[KR C bk (fs++[f]) (g++[w])]/\Field f/\f.length<=50/\w.length<=50/\(∀q∈w,q.1≠q.2)/\(¬ ∃r,Ring (Xj f) w r)/\∀o,K5 w (pcc f) (Xj f) o->R (.own ((P1 f o).map prD))
noncomputable def Pp(bk:List (Str×ZY))(f w:ZX)(os o vs:ZY)(g:List Mo):List (List D):=[f.map prD,w.map prD,bk.map dD,f.map prD,w.map prD,[],o.map D.int,vs.map D.int,g.map mvD,(P1 f o).map prD,(w.filter<|T4 os).map prD]
noncomputable def Zk2(C:Addr):Pc:=λp R _=>∃(bk:List (Str×ZY)) (fs g:List (ZX)) (f w:ZX) (os:ZY),p=[KR C bk (fs++[f]) (g++[w]),.lst (os.map D.int)]/\fs.length=bk.length/\g.length=bk.length/\Field f/\f.length<=40/\w.length<=50/\(∀q∈w,q.1≠q.2)/\(¬ ∃r,Ring (Xj f) w r)/\os.Perm (Xj f)/\
 ∀(o h:ZY) (l:List Mo) (x:Addr) (n:List (Addr×List D)),K5 w (pcc f) (Xj f) o->TabV w (pcc f) (X1<|Xj f) h->Mv f (rkN f o) (Kf 1 f.length) l->n.map (·.2)=Pp bk f w os o h l->R (.own<|.nsl x n)
theorem Ew:∀f:List Mo,XF (f.map mvD)=true
 |[]=>rfl
 |m::r=>by
  rw[Qh];unfold XF;rw[Ew r];rfl
structure Fv (P:Program) (w:World) (K:ZW) (mg:Ya) (base:Heap):Type
variable {P:Program}{w:World}{K:ZW}{mg:Ya}{base:Heap}
abbrev Cal(_:Fv P w K mg base):=Callee P w K mg base
abbrev Cam(_:Fv P w K mg base):=PB P w K mg base
abbrev Cxe(_:Fv P w K mg base):=ExcR.CXe P w
abbrev Xo(_:Fv P w K mg base):=ExcR.Xq mg "Village"
variable (ζ:Fv P w K mg base)
abbrev Gg:Prop:=Cal ζ (Cxe ζ) 1 "check_holder" ["holder"] (Xl mg Zi0 K)
abbrev OG:Prop:=Cal ζ (Cxe ζ) 1 "check_width" ["width"] (Xl mg Zbz K)
abbrev Znq:Prop:=Cal ζ CX0 1 "holders_of" ["strips"] (Xl mg Rv K)
abbrev RH:Prop:=Cal ζ CX0 1 "pair_cost" ["strips","ahead","behind"] (Xl mg Zdb K)
abbrev Gx:Prop:=Cal ζ CX0 1 "own_numbers" ["strips"] (Xl mg Zo9 K)
abbrev MM:Prop:=Cal ζ CX0 1 "exchange_cost" ["strips","numbers","place"] (Xl mg Zgp K)
abbrev LA:Prop:=Cal ζ CX0 1 "exchanged" ["numbers","place"] (Xl mg Zsm K)
abbrev Od:Prop:=Cal ζ CX0 1 "first_wrong_place" ["numbers","ranks"] (Xl mg Zhy K)
abbrev MR:Prop:=Cal ζ (Cxe ζ) 1 "check_neighbours" ["strips","place"] (Xl mg Zmt K)
abbrev Rw:Prop:=Cal ζ CX0 1 "broken_wishes" ["order","wishes"] (Xl mg Ziz K)
abbrev Mc:Prop:=Cal ζ CX0 1 "longer_paths" ["paths","left","wishes"] (Xl mg Zne K)
abbrev HQ:Prop:=Cal ζ (Cxe ζ) 1 "check_place" ["strips","place"] (Xl mg Zfx K)
abbrev Rr:Prop:=Cal ζ (Cxe ζ) 1 "without_wish" ["wishes","ahead","behind"] (Xl mg Zem K)
abbrev Ls:Prop:=Cal ζ CX0 1 "sets_of" ["holders"] (Xl mg Zd5 K)
abbrev Lm:Prop:=Cal ζ CX0 1 "without" ["members","holder"] (Xl mg Zpz K)
abbrev Oz:Prop:=Cal ζ CX0 1 "may_lie_last" ["members","holder","wishes"] (Xl mg Zgs K)
abbrev L3:Prop:=Cal ζ CX0 1 "may_lie_first" ["members","holder","wishes"] (Xl mg Zq2 K)
abbrev GU:Prop:=Cam ζ CX0 1 (X0 K (Xo ζ) "strips") ["self"] (Xl mg (Zng<|Xo ζ) K)
abbrev Rh:Prop:=Cam ζ CX0 1 (X0 K (Xo ζ) "wishes") ["self"] (Xl mg (Zig<|Xo ζ) K)
abbrev MA:Prop:=Cam ζ CX0 1 (X0 K (Xo ζ) "deeds") ["self"] (Xl mg (Zcr<|Xo ζ) K)
abbrev MY:Prop:=Cam ζ (Cxe ζ) 1 (X0 K (Xo ζ) "check_room") ["self"] (Xl mg (Zlm<|Xo ζ) K)
abbrev RQ:Prop:=Cam ζ CX0 1 (X0 K (Xo ζ) "enter") ["self","deed","field","wishes"] (Pu.spW mg (Za5<|Xo ζ) K)
abbrev RN:Prop:=Cam ζ (Cxe ζ) 1 (X0 K (Xo ζ) "take_back") ["self"] (Pu.spW mg (Zin<|Xo ζ) K)
abbrev GL:Prop:=Cam ζ (Cxe ζ) 1 (X0 K (Xo ζ) "stood") ["self","many"] (Xl mg (Zoo<|Xo ζ) K)
abbrev IM:Prop:=Cal ζ CX0 1 "_law_at" ["_law_script","_law_k"] (Xl mg Zfy K)
abbrev GK:Prop:=Cal ζ CX0 1 "_law_whole" ["_law_found"] (Xl mg Znb K)
abbrev OB:Prop:=Cal ζ CX0 1 "_law_mix" ["_law_cell","_law_place_here"] (Xl mg Zgy K)
abbrev Hi:Prop:=Cal ζ CX0 1 "_law_menu" ["_law_cell"] (Xl mg Zlj K)
abbrev Hy:Prop:=Cal ζ CX0 1 "_law_holder" ["_law_menu_here","_law_k"] (Xl mg Znd K)
abbrev Hz:Prop:=Cal ζ CX0 1 "_law_present" ["_law_strips"] (Xl mg Zmm K)
abbrev RJ:Prop:=Cal ζ CX0 1 "_law_price" ["_law_strips","_law_order"] (Xl mg Zlf K)
abbrev GH:Prop:=Cal ζ CX0 1 "_law_kept" ["_law_order","_law_wishes"] (Xl mg Zsa K)
abbrev Rn:Prop:=Cal ζ CX0 1 "_law_orders" ["_law_holders"] (Xl mg Zmv K)
abbrev IW:Prop:=Cal ζ CX0 1 "_law_no_ring" ["_law_holders","_law_wishes"] (Xl mg Zrn K)
abbrev O2:Prop:=Cal ζ CX0 1 "_law_field_step" ["_law_strips","_law_deed_here"] (Pu.spS mg Zkk K)
abbrev Oa:Prop:=Cal ζ CX0 1 "_law_wish_step" ["_law_wishes","_law_deed_here"] (Pu.spS mg Zio K)
abbrev LG:Prop:=Cal ζ CX0 1 "_law_odd" ["_law_cell","_law_good"] (Xl mg Zhm K)
abbrev Ml:Prop:=Cal ζ CX0 1 "_law_place" ["_law_cell","_law_strips"] (Xl mg Ze7 K)
abbrev OT:Prop:=Cal ζ CX0 1 "_law_width" ["_law_cell","_law_strips","_law_place_here"] (Xl mg Zal K)
abbrev Ou:Prop:=Cal ζ CX0 1 "_law_copied" ["_law_rows"] (Xl mg Zp3 K)
abbrev OJ:Prop:=Cal ζ CX0 1 "_law_spoil" ["_law_rows","_law_cell"] (Pu.spW mg Zrc K)
abbrev Gu:Prop:=Cal ζ (Cxe ζ) 2 "check_strips" ["strips"] (Xl mg Zfp K)
abbrev O6:Prop:=Cal ζ (Cxe ζ) 2 "check_order" ["strips","order"] (Xl mg Zah K)
abbrev LR:Prop:=Cal ζ CX0 2 "ring_from" ["least","holders","wishes"] (Xl mg Zf6 K)
abbrev Oo:Prop:=Cal ζ (Cxe ζ) 2 "sold" ["strips","place","holder"] (Xl mg Zq6 K)
abbrev GZ:Prop:=Cal ζ (Cxe ζ) 2 "parted" ["strips","place","width"] (Xl mg Zq4 K)
abbrev LJ:Prop:=Cal ζ (Cxe ζ) 2 "united" ["strips","place"] (Xl mg Zb4 K)
abbrev ML:Prop:=Cal ζ (Cxe ζ) 2 "with_wish" ["wishes","ahead","behind"] (Xl mg Zsl K)
abbrev Iw:Prop:=Cal ζ CX0 2 "pair_costs" ["strips"] (Xl mg Zhp K)
abbrev Gf:Prop:=Cal ζ CX0 2 "cost_with_last" ["members","last","least","pairs"] (Xl mg Zkb K)
abbrev Rf:Prop:=Cal ζ CX0 2 "cost_with_first" ["members","first","least","pairs"] (Xl mg Zbj K)
abbrev RY:Prop:=Cam ζ (Cxe ζ) 2 (X0 K (Xo ζ) "drop") ["self","ahead","behind"] (Pu.spW mg (Zo1<|Xo ζ) K)
abbrev OX:Prop:=Cal ζ CX0 2 "_law_draw" ["_law_script","_law_k"] (Xl mg Zbx K)
abbrev HJ:Prop:=Cal ζ CX0 2 "_law_row" ["_law_found","_law_due"] (Xl mg Zpb K)
abbrev IX:Prop:=Cal ζ CX0 2 "_law_tuples" ["_law_found","_law_due"] (Xl mg Zrb K)
abbrev Lr:Prop:=Cal ζ CX0 2 "_law_deed_is" ["_law_found","_law_due"] (Xl mg Zaw K)
abbrev IC:Prop:=Cal ζ CX0 2 "_law_best" ["_law_strips","_law_wishes"] (Xl mg Zif K)
abbrev Ig:Prop:=Cal ζ CX0 2 "_law_step" ["_law_now","_law_deed_here"] (Pu.spS mg Zch K)
abbrev IG:Prop:=Cal ζ CX0 2 "_law_start" ["_law_script","_law_menu_here","_law_many"] (Xl mg Zko K)
abbrev Ik:Prop:=Cal ζ CX0 2 "_law_days" ["_law_script","_law_most"] (Xl mg Zbs K)
abbrev RV:Prop:=Cal ζ CX0 2 "_law_pair" ["_law_cell","_law_menu_here"] (Xl mg Zba K)
abbrev MH:Prop:=Cal ζ (Cxe ζ) 3 "gathered" ["strips","order"] (Xl mg Zge K)
abbrev GI:Prop:=Cal ζ (Cxe ζ) 3 "order_cost" ["strips","order"] (Xl mg Zrq K)
abbrev Rb:Prop:=Cal ζ CX0 3 "told_moves" ["strips","order"] (Xl mg Zk9 K)
abbrev L5:Prop:=Cal ζ CX0 3 "find_ring" ["holders","wishes"] (Xl mg Zdi K)
abbrev MU:Prop:=Cal ζ CX0 3 "least_costs" ["strips","wishes","pairs"] (Xl mg Zdq K)
abbrev GN:Prop:=Cam ζ (Cxe ζ) 3 (Mk K<|Xo ζ) ["self","strips"] (Pu.spW mg (Zhk<|Xo ζ) K)
abbrev OW:Prop:=Cam ζ (Cxe ζ) 3 (X0 K (Xo ζ) "sell") ["self","place","holder"] (Pu.spW mg (Znc<|Xo ζ) K)
abbrev HD:Prop:=Cam ζ (Cxe ζ) 3 (X0 K (Xo ζ) "part") ["self","place","width"] (Pu.spW mg (Zk1<|Xo ζ) K)
abbrev Ha:Prop:=Cam ζ (Cxe ζ) 3 (X0 K (Xo ζ) "unite") ["self","place"] (Pu.spW mg (Zci<|Xo ζ) K)
abbrev Mf:Prop:=Cam ζ (Cxe ζ) 3 (X0 K (Xo ζ) "wish") ["self","ahead","behind"] (Pu.spW mg (Zpi<|Xo ζ) K)
abbrev HE:Prop:=Cam ζ (Cxe ζ) 3 (X0 K (Xo ζ) "broken") ["self","order"] (Xl mg (Zdf<|Xo ζ) K)
abbrev OP:Prop:=Cal ζ CX0 3 "_law_book_is" ["_law_found","_law_due"] (Xl mg Zmy K)
abbrev HN:Prop:=Cal ζ CX0 3 "_law_opening" ["_law_script","_law_menu_here"] (Xl mg Zia K)
abbrev GQ:Prop:=Cal ζ CX0 3 "_law_deed" ["_law_cell","_law_menu_here","_law_now"] (Xl mg Zhn K)
abbrev Oi:Prop:=Cal ζ CX0 4 "check_no_ring" ["strips","wishes"] (Xl mg Zpk K)
abbrev Ri:Prop:=Cam ζ CX0 4 (X0 K (Xo ζ) "ring") ["self"] (Xl mg (Zlo<|Xo ζ) K)
abbrev Lf:Prop:=Cam ζ (Cxe ζ) 4 (X0 K (Xo ζ) "price") ["self","order"] (Xl mg (Zeh<|Xo ζ) K)
abbrev Hf:Prop:=Cal ζ (Cxe ζ) 4 "_law_call" ["_law_village","_law_deed_here"] (Pu.spW mg (Zrd<|Xo ζ) K)
abbrev HH:Prop:=Cal ζ CX0 4 "_law_stands" ["_law_village","_law_past"] (Xl mg (Zo4<|Xo ζ) K)
abbrev OZ:Prop:=Cal ζ CX0 5 "cost_table" ["strips","wishes"] (Xl mg Zdk K)
abbrev Zab:Prop:=Cal ζ CX0 5 "best_order" ["strips","wishes"] (Xl mg Zjl K)
abbrev I0:Prop:=Cal ζ CX0 5 "_law_go" ["_law_village","_law_past","_law_deed_here"] (Nu mg (Zdh<|Xo ζ) K)
abbrev Re:Prop:=Cal ζ CX0 6 "least_cost" ["strips","wishes"] (Xl mg Zki K)
abbrev IU:Prop:=Cam ζ CX0 6 (X0 K (Xo ζ) "order") ["self"] (Xl mg (Zol<|Xo ζ) K)
abbrev GO:Prop:=Cam ζ CX0 6 (X0 K (Xo ζ) "table") ["self"] (Xl mg (Zrt<|Xo ζ) K)
abbrev Hn:Prop:=Cal ζ CX0 6 "_law_no_rings" ["_law_village","_law_past"] (Nu mg (Zo2<|Xo ζ) K)
abbrev Rm:Prop:=Cam ζ CX0 7 (X0 K (Xo ζ) "cost") ["self"] (Xl mg (Zeq<|Xo ζ) K)
abbrev Il:Prop:=Cam ζ CX0 7 (X0 K (Xo ζ) "moves") ["self"] (Xl mg (Zb0<|Xo ζ) K)
abbrev MC:Prop:=Cam ζ CX0 7 (X0 K (Xo ζ) "melded") ["self"] (Xl mg (Zhr<|Xo ζ) K)
abbrev LH:Prop:=Cal ζ CX0 8 "_law_lists" ["_law_village","_law_order"] (Xl mg (Zk2<|Xo ζ) K)
abbrev Zak:Prop:=Cal ζ CX0 9 "law" ["_law_script"] (Xl mg Ly K)
end M
namespace M
open L2 Own Pu
def Fy{f:Type}{xs:List f}{i:Nat}{d:f}(h:i<xs.length):xs.getD i d=xs[i]:=by rw[WU,WJ h];rfl
def GG{f:Type}{xs:List f}{i:Nat}{d:f}(h:i<xs.length):xs.getD i d=xs[i]:=by rw[WU,WJ h];rfl
def Zsk{ns:ZY}{p:Int}(l:1<=p)(h:p<ns.length){b1:p.toNat<ns.length}{b2:(p-1).toNat<ns.length}:cutD (ns.map D.int) none (some (p-1))++[D.int ns[p.toNat],D.int ns[(p-1).toNat]]++cutD (ns.map D.int) (some (p+1)) none=(Pe ns p.toNat).map D.int:=by
 unfold Pe;rw[Tq,Tq,Aj ns (by lia),NP ns (by lia),Qb,Qb];have g:p.toNat-1=(p-1).toNat:=by lia
 have f:p.toNat+1=(p+1).toNat:=by lia
 rw[g,f,GG b1,GG b2];rfl
def Fk{os:ZY}(f:os.Nodup){j:Nat}(g:j<os.length):os.idxOf os[j]=j:=f.idxOf_getElem j g
def Ob{os:ZY}{j:Nat}{z:Int}(f:j<os.length):z∈os.take (j+1)↔z∈os.take j\/z=os[j]:=by
 rw[Qp f,Qi,WN]
def Zcp{os:ZY}(f:os.Nodup){x:Int}{j:Nat}(hx:x∈os):x∈os.take j↔os.idxOf x<j:=by
 obtain⟨k,g,rfl⟩:=Q9.mp hx;rw[Fk f g];constructor
 ·intro h;obtain⟨m,l,e⟩:=Q9.mp h;rw[Q5]at l;rw[Jq]at e;have a1:=Fk f (j:=m) (by lia);rw[e,Fk f g]at a1;lia
 ·intro h;exact Q9.mpr ⟨k,by rw[Q5];lia,by rw[Jq]⟩
def Zpc{os:ZY}(h:os.Nodup)(q:Int×Int):T4 os q=(decide (q.1∈os)&&decide (q.2∈os)&&decide (os.idxOf q.2<os.idxOf q.1)):=by
 unfold T4;by_cases g:q.1∈os
 ·by_cases f:q.2∈os
  ·simp only[g,f,decide_true,Ju,Zcp h f]
  ·have:¬q.2∈os.take (os.idxOf q.1):=λz=>f (Vk z)
   simp[g,f,this]
 ·simp[g]
structure LWs (ws:ZX) (l:Int) (ps:List (ZY)) (ls:ZY) (lg:List (ZY)) (kvs:List (Key×V)):Prop where
 g:LW ws l ps ls lg
 nd:(lg.map<|XM l).Nodup
 rc:∀h:Int,(Xy kvs<|.inl h).isSome=true↔h∈lg.map (XM l)
 len:kvs.length<=lg.length
section
variable {ws:ZX}{l:Int}{ps:List (ZY)}{ls:ZY}{lg:List (ZY)}{kvs:List (Key×V)}
def LWs.len_le (L:LWs ws l ps ls lg kvs):lg.length<=ls.length:=by
 have:=F9 L.nd (ys:=ls) λh f=>by
  obtain⟨q,hq,e⟩:=Qj.mp f;obtain⟨p,_,x,hx,rfl,_⟩:=L.g q hq;rw[N6]at e;rw[←e];exact hx
 rwa[WI]at this
def LWs.put {p:ZY}{h:Int} (o:p∈ps) (r:h∈ls) (G:LWs ws l ps ls lg kvs) (new:(Xy kvs<|.inl h).isSome=false) (hw:(XM l p,h)∈ws):LWs ws l ps ls (lg++[p++[h]]) (putK kvs (.inl h)<|.bl true):=by
 have f:XM l (p++[h])=h:=by rw[N6];rfl
 have n:h∉lg.map (XM l):=λz=>by rw[(G.rc h).mpr z]at new;cases new
 refine⟨λq hq=>?_,?_,λx=>?_,?_⟩
 ·rcases Qi.mp hq with hq|hq
  ·exact G.g q hq
  ·exact⟨p,o,h,r,WN.mp hq,hw⟩
 ·rw[Qb,JN,f];refine QG.mpr ⟨G.nd,by simp,λa u b s=>?_⟩;rw[WN.mp s];rintro rfl;exact n u
 ·rw[Qb,JN,f,SR,Qi,WN];by_cases e:x=h
  ·subst e;rw[WQ rfl];exact⟨λ_=>.inr rfl,λ_=>rfl⟩
  ·rw[WO (λz=>e (Sum.inl.inj z)),G.rc];exact⟨.inl,λz=>z.elim id λw=>absurd w e⟩
 ·rw[WW]
  have:=BF kvs (.inl h) (.bl true)
  have:=G.len
  simp;lia
end
def Zbe(hs r:ZY):(hs.filter λh=>!decide (h∈r)).map (λh=>D.lst (r.map D.int++[D.int h]))=(nextM hs r).map ilD:=by
 unfold nextM ilD;rw[Qy];apply Vw;intro h _;show _=D.lst ((r++[h]).map D.int);rw[Qb];rfl
def Zml{hs:ZY}{rows:List (ZY)}{j:Nat}(h:j<rows.length):((rows.take (j+1)).flatMap (nextM hs))=(rows.take j).flatMap (nextM hs)++nextM hs rows[j]:=by
 rw[Qp h,List.flatMap_append];simp
noncomputable def Nv:Nat->Nat
 | 0=>1
 |k+1=>Nv k*(10-k)
def MP:∀k,Nv k<=3628800:=by
 have z:∀k,Nv (11+k)=0:=by
  intro k
  induction k with
  |zero=>decide
  |succ k f=>show Nv (11+k)*_=0;rw[f,Nat.zero_mul]
 intro k;by_cases h:k<11
 ·have:∀i:Fin 11,Nv i.1<=3628800:=by decide
  exact this ⟨k,h⟩
 ·have:=z (k-11)
  rw[show 11+(k-11)=k by lia]at this;lia
def Zql{hs r:ZY}(f:hs.Nodup)(p:hs.length<=10)(o:r.Nodup)(n:∀x∈r,x∈hs):(nextM hs r).length<=10-r.length:=by
 unfold nextM;rw[WI]
 have:=F9 (QG.mpr ⟨f.filter (λh=>!decide (h∈r)),o,λa l b g e=>by
  have:=(Qn.mp l).2
  rw[e,WL g]at this;cases this⟩) (ys:=hs) λx hx=>by
  rcases Qi.mp hx with hx|hx
  ·exact(Qn.mp hx).1
  ·exact n x hx
 rw[WW]at this;lia
theorem AM{hs:ZY}(g:hs.Nodup)(l:hs.length<=10){k:Nat}:∀f:List (ZY),(∀r∈f,r.length=k/\r.Nodup/\∀x∈r,x∈hs)->(f.flatMap<|nextM hs).length<=f.length*(10-k)
 |[],_=>by simp
 |r::f,h=>by
  obtain⟨p,o,n⟩:=h r Q7;have a:=Zql g l o n;have b:=AM g l f λx hx=>h x (Qo _ hx);rw[Jp,WW,Qf,JI];rw[p]at a;lia
theorem As{hs:ZY}(f:hs.Nodup)(g:hs.length<=10):∀k,(XH hs k).length<=Nv k
 | 0=>by unfold XH;simp[Nv]
 |k+1=>by
  show((XH hs k).flatMap (nextM hs)).length<=Nv k*(10-k);exact WV (AM f g _ λr h=>rows_mem.mp h) (J9 _<|As f g k)
def OU(c:Int->Bool):∀f:ZY,f.filterMap (λq=>if c q=true then some (D.int q)else none)=(f.filter c).map D.int:=Pd c D.int
theorem HI(ps:ZX):∀o:ZY,oc (λx y=>pcM ps x y ps.length) o=KB ps ps.length o
 |[]=>rfl
 |a::r=>by
  unfold oc KB;rw[HI ps r]
def Zdc{g:ZX}{o:ZY}(l:o.Nodup)(h:∀q∈g,Pi o q=false):Keeps g o:=by
 unfold Keeps;rw[Vh];intro i j p n f hw
 have:=h _ hw
 unfold Pi at this;rw[l.idxOf_getElem i p,l.idxOf_getElem j n,WL (Qd p),WL (Qd n),WL f]at this;cases this
def D8{g:ZX}{o:ZY}(n:Keeps g o):∀q∈g,Pi o q=false:=λq hq=>by
 cases f:Pi o q with
 |false=>rfl
 |true=>
  unfold Pi at f;rw[Qr,Qr]at f;have s:=WM f.1;have r:=WM f.2.1;have p:=WM f.2.2;have l:=Jb.mpr s;have h:=Jb.mpr r
  have:=Vh.mp n _ _ h l p
  rw[JM h,JM l]at this;exact absurd hq this
noncomputable def F3(ps:ZX):Option (ZY)->List D
 |none=>[]
 |some q=>[.int (Te ps q ps.length),.lst (q.map D.int)]
def Ze9(ps:ZX)(b:Option (ZY)):(F3 ps b).isEmpty=decide (b=none):=by cases b<;>simp[F3]
def Za4(ps:ZX)(os:ZY):(P1 ps os).length<=os.length*ps.length:=by
 unfold P1
 induction os with
 |nil=>simp
 |cons h r f=>
  rw[Jp,WW,Qf,JI]
  have:=Qw (λq:Int×Int=>decide (q.1=h)) ps
  lia
noncomputable def Zox(f:List (Option Pu.S)):Nat:=match f[4]? with
 |some (some<|Pu.S.sh<|Pu.D.tup g)=>g.length
 |_=>0
def SA{f:Type}{xs:List f}{x:f}(h:xs[xs.length-1]?=some x):atI xs (-1)=some x:=by
 have g:=(Qq.mp h).1;unfold atI ixN;rw[WO (by lia),WQ (by lia)];show xs[_]?=some x;rw[←h];congr 1;lia
def Zoi(bk:List (Str×ZY))(f w:ZX)(os o vs:ZY)(h:List Mo):∀d∈Pp bk f w os o vs h,XF d=true:=λd g=>by
 unfold Pp at g;simp only[WX,Vy,or_false]at g;rcases g with rfl|rfl|rfl|rfl|rfl|rfl|rfl|rfl|rfl|rfl|rfl
 ·exact Kc _
 ·exact Kc _
 ·exact BX _
 ·exact Kc _
 ·exact Kc _
 ·rfl
 ·exact Pt _
 ·exact Pt _
 ·exact Ew _
 ·exact Kc _
 ·exact Kc _
def Zhq{f0:ZX}{hs:XD}{os o vs:ZY}{f:List Mo}(N:FineH f0 hs)(L:Sm hs)(M:hs.length<=60)(A:K5 (Xr hs) (pcc<|Xn f0 hs) (Xj<|Xn f0 hs) o)(T:TabV (Xr hs) (pcc<|Xn f0 hs) (X1<|Xj<|Xn f0 hs) vs)(z:Mv (Xn f0 hs) (rkN (Xn f0 hs) o) (Kf 1 (Xn f0 hs).length) f) :
  okS (.lst ((Pp (bkH hs) (Xn f0 hs) (Xr hs) os o vs f).map D.lst))=true/\Rk (py<|.lst ((Pp (bkH hs) (Xn f0 hs) (Xr hs) os o vs f).map D.lst)) 60 200000:=by
 obtain⟨⟨g,p⟩,u⟩:=N.cur;obtain⟨b1,b2⟩:=Zsn L M;have hw:=u.1;have w:Rk (py<|plD<|Xn f0 hs) 50 150:=(Rk.pairs λq hq=>by have:=g q hq;lia).mono (by decide) (by lia);have v:Rk (py<|plD<|Xr hs) 50 150:=(Rk.pairs λq hq=>by have:=u.2.2 q hq;lia).mono (by decide) (by lia);have lo:o.length<=10:=by rw[A.perm.length_eq];exact KW _
 have l:∀x∈Xj (Xn f0 hs),0<=x/\x<=10:=λx hx=>by
  obtain⟨q,hq,rfl⟩:=Qj.mp ((Fs g).mp hx)
  have:=g q hq
  lia
 have H:Rk (py<|.lst<|o.map D.int) 50 10:=(Rk.ints λn r=>by have:=l n (A.perm.mem_iff.mp r);lia).mono (by decide) lo;have y:=R4 g p (KW _) T;have G:Rk (py<|.lst<|vs.map D.int) 50 1024:=(Rk.ints y.2).mono (by decide) y.1;have E:Rk (py<|.lst<|f.map mvD) 50 8000:=(Rk.mvs<|Zlt g p z<|.refl _).mono (by decide) (by have:=IV p z;lia);have Y:(P1 (Xn f0 hs) o).length<=10*40:=WV (EO _ o) (Nat.mul_le_mul lo p)
 have C:Rk (py<|plD<|P1 (Xn f0 hs) o) 50 1200:=(Rk.pairs λq hq=>by
  obtain⟨h,_,hq⟩:=List.mem_flatMap.mp hq
  have:=g q (Qn.mp hq).1
  lia).mono (by decide) (by lia)
 have B:Rk (py<|plD ((Xr hs).filter (T4 os))) 50 150:=(Rk.pairs λq hq=>by have:=u.2.2 q (Qn.mp hq).1;lia).mono (by decide) (by have:=Qw (T4 os) (Xr hs);lia);have J:Rk (py<|.lst []) 50 0:=Rk.ints (ns:=[]) (λn r=>by cases r) |>.mono (by decide) (WT _)
 have U:Rk (py<|.lst ((bkH hs).map dD)) 50 1260:=b2.mono (by decide) (WT _);refine⟨?_,?_⟩
 ·unfold okS;refine okSs_iff.mpr λd Q=>?_;obtain⟨e,s,rfl⟩:=Qj.mp Q;unfold Pp at s;simp only[WX,Vy,or_false]at s;rcases s with rfl|rfl|rfl|rfl|rfl|rfl|rfl|rfl|rfl|rfl|rfl
  ·exact Sf _
  ·exact Sf _
  ·exact b1
  ·exact Sf _
  ·exact Sf _
  ·rfl
  ·exact MO _
  ·exact MO _
  ·exact Zp9 _
  ·exact Sf _
  ·exact Sf _
 ·have e:py (.lst ((Pp (bkH hs) (Xn f0 hs) (Xr hs) os o vs f).map D.lst))=.list (pys ((Pp (bkH hs) (Xn f0 hs) (Xr hs) os o vs f).map D.lst)):=by unfold py;rfl
  rw[e];refine(Rk.list (k:=50) (b:=20000) (b':=20000) ?_<|by decide).mono (by decide) (by decide);show RkA [py (plD _),py (plD _),py _,py (plD _),py (plD _),py (.lst []),py _,py _,py _,py (plD _),py (plD _)] 50 20000;exact .cons (b2:=19800) w (.cons (b2:=19600) v (.cons (b2:=18000) U (.cons (b2:=17800) w (.cons (b2:=17600) v (.cons (b2:=17500) J (.cons (b2:=17000) H (.cons (b2:=15000) G (.cons (b2:=5000) E (.cons (b2:=1000) C (.cons (b2:=0) B (.nil _ _)<|by decide)<|by decide)<|by decide)<|by decide)<|by decide)<|by decide)<|by decide)<|by decide)<|by decide)<|by decide) (by decide)
def Zc1{s:ZX}{c:Int->Int->Int}{hs vs:ZY}(h:TabV s c (X1 hs) vs):atI (vs.map D.int) 0=some (.int 0)/\vs.length=2 ^ hs.length:=by
 have g:(X1 hs)[0]?=some []:=NI (P:=λhs=>(X1 hs)[0]?=some []) rfl (λr h u=>by rw[TQ,Qs (by rw[Sv];exact Nat.two_pow_pos _),u]) hs;obtain⟨n,v⟩:=h;have p:0<vs.length:=by rw[n,Sv];exact Nat.two_pow_pos _
 refine⟨?_,n.trans (Sv hs)⟩;obtain⟨o,o1,_,l⟩:=(v 0 [] vs[0] g (WJ p)).is;rw[List.perm_nil.mp o1]at l;refine(Ae (f:=D.int) p).trans ?_;rw[←l];rfl
def A4{f0:ZX}{hs:XD}{os o vs:ZY}{h:List Mo}(l:FineH f0 hs)(A:hs.length<=60)(r:K5 (Xr hs) (pcc<|Xn f0 hs) (Xj<|Xn f0 hs) o)(n:TabV (Xr hs) (pcc<|Xn f0 hs) (X1<|Xj<|Xn f0 hs) vs)(p:Mv (Xn f0 hs) (rkN (Xn f0 hs) o) (Kf 1 (Xn f0 hs).length) h) :
  ∀d∈Pp (bkH hs) (Xn f0 hs) (Xr hs) os o vs h,d.length<=100000:=λd f=>by
 obtain⟨⟨u,g⟩,s⟩:=l.cur;have hw:=s.1;have lo:o.length<=10:=by rw[r.perm.length_eq];exact KW _
 have z:=(R4 u g (KW _) n).1;have v:=IV g p;have x:(P1 (Xn f0 hs) o).length<=10*40:=WV (EO _ o) (Nat.mul_le_mul lo g);have y:=Qw (T4 os) (Xr hs);have w:=Sd hs;unfold Pp at f;simp only[WX,Vy,or_false]at f;rcases f with rfl|rfl|rfl|rfl|rfl|rfl|rfl|rfl|rfl|rfl|rfl
 any_goals rw[WI];lia
 exact QD _
end M
namespace T
open L2 Own M
section
variable {P:Program}{w:World}{K:ZW}{mg:Ya}{base:Heap}
def Zkg(G:Glob K mg)(D:Def K mg "holders_of" AZ ["strips"])
  : Callee P w K mg base CX0 1 "holders_of" ["strips"] (Of K):=by
 refine D.ok (k:=0) Zo0 (λu H Q E h=>?_) (λf cdv A outer s H u Q E hr h=>?_)
 ·obtain⟨l,g,rfl,⟨u,y,v⟩,L,J,q⟩:=h;rfl
 ·obtain⟨l,g,rfl,⟨u,y,v⟩,L,J,q⟩:=h;refine⟨_,(NY<|Kj<|Ki (GS rfl) (by rfl) G.Zj boot_sorted<|XC (KU (Zj6 rfl) (by rfl) G.ZU boot_set<|XC (EW (N':=["holder","width"]) (φ:=[none,none]) rfl (S7.of<|by rfl) (RM<|pv 0) (λ_ _ _ _ _=>⟨(F0 (K:=K) (n:=2) rfl<|NB (AF (i:=0) (show(["holder","width"]:Yf).Nodup from by decide +kernel) rfl (by first|exact Or.inl rfl|exact Or.inr rfl))<|NB (AF (i:=1) (show(["holder","width"]:Yf).Nodup from by decide +kernel) rfl (by first|exact Or.inl rfl|exact Or.inr rfl)) Fl),T9,(pv 0)⟩)) Ky) Ky),?_⟩
  have e1:=v.1;refine⟨_,rfl,l,rfl,⟨_,SqL.of y⟩,λD B=>Zps (ds:=g) (λd=>some (V.int d.1)) (SqL.of y) e1 B (WV J<|by decide) (λi x d H2 hx hd S k Y=>?_) ?_⟩
  ·obtain⟨d',p,a,rfl,ha⟩:=v.get hx;rw[hd]at p;cases p
   exact⟨a,_,rfl,SqT.of (S _ _ ha),rfl,_,_,rfl,_,_,rfl,rfl,.skip (.skip .refl),_,rfl,Y⟩
  ·have em:g.filterMap (λd=>some (V.int d.1))=(g.map (·.1)).map V.int:=by
    rw[VH,Qy];rfl
   rw[em];have S1:Same H (upd H D<|.lst ((g.map (·.1)).map V.int)):=XX B;refine⟨D,g.map (·.1),rfl,SqL.of X9,by rw[WI];lia,λz N=>?_⟩;have M:=Own.Same.new (o:=NC w z ((g.map (·.1)).foldl SetR.Ks [])) S1 N;refine⟨z,_,rfl,?_,.inr X9,λr ns C U T=>?_⟩
   ·have:=LM (g.map (·.1)) []
    rw[WI]at this;simp at this ⊢;lia
   ·rw[Zb2 L U T];exact q r _ (M.free C) (Own.Same.new M C) X9
end
open Pu
section
variable {P:Program}{w:World}{K:ZW}{mg:Ya}{base:Heap} (ζ:Fv P w K mg base)
variable (G:Glob K mg) (Yt:Gg ζ) (YF:OG ζ) (Yo:Znq ζ) (Y2:RH ζ) (YG:Gx ζ) (YH:MM ζ) (YI:LA ζ) (Y3:Od ζ) (YJ:MR ζ) (YK:Rw ζ) (YL:Mc ζ) (Y4:HQ ζ) (YM:Rr ζ) (YN:Ls ζ) (Yw:Lm ζ) (YO:Oz ζ) (YQ:L3 ζ) (Yl:GU ζ) (Ym:Rh ζ) (Yx:MA ζ) (Yq:MY ζ) (Yr:RQ ζ) (YR:RN ζ) (YS:GL ζ) (Yn:IM ζ) (Yu:GK ζ) (Ys:OB ζ) (YT:Hi ζ) (Yp:Hy ζ) (Y5:Hz ζ) (YU:RJ ζ) (YV:GH ζ) (YW:Rn ζ) (YX:IW ζ) (YY:O2 ζ) (YZ:Oa ζ) (Yy:LG ζ) (Wa:Ml ζ) (Wb:OT ζ) (Wc:Ou ζ) (Wd:OJ ζ) (We:Gu ζ) (Yv:O6 ζ) (Wf:LR ζ) (Wg:Oo ζ) (Wh:GZ ζ) (Wi:LJ ζ) (Wj:ML ζ) (Y6:Iw ζ) (Wk:Gf ζ) (Wl:Rf ζ) (Wm:RY ζ) (Wn:OX ζ) (Yz:HJ ζ) (Y7:IX ζ) (Wo:Lr ζ) (Wp:IC ζ) (Wq:Ig ζ) (Wr:IG ζ) (Ws:Ik ζ) (Y8:RV ζ) (Wt:MH ζ) (Wu:GI ζ) (Wv:Rb ζ) (YA:L5 ζ) (YB:MU ζ) (Ww:GN ζ) (Wx:OW ζ) (Wy:HD ζ) (Wz:Ha ζ) (W1:Mf ζ) (W2:HE ζ) (W3:OP ζ) (W4:HN ζ) (W5:GQ ζ) (YC:Oi ζ) (W6:Ri ζ) (W7:Lf ζ) (W8:Hf ζ) (W9:HH ζ) (YD:OZ ζ) (WA:Zab ζ) (Y0:I0 ζ) (WB:Re ζ) (Y1:IU ζ) (WC:GO ζ) (WD:Hn ζ) (WE:Rm ζ) (WG:Il ζ) (WH:MC ζ) (YE:LH ζ)
def Zn2(p:Def K mg "check_holder" Co ["holder"])
  : Gg ζ:=by
 refine p.fy Zb7 (λr n=>(b1<|sI (tp<|wo (tc KJ KI (xv 0) xi)<|wO<|tc KC KE (xv 0)<|xe (ExcR.Pr G.Zw) Xm) (b1<|sQ G.Z6 G.Z5 ExcR.KM<|a1<|xe (ExcR.NK<|ExcR.PQ<|ExcR.NA (ExcR.Pr G.Zw) ExcR.NU)<|NF<|PK<|N1 Xm N8) b0)) (.a ?_)
 ·rintro u R X ⟨h,rfl,f⟩;refine⟨rfl,?_⟩;unfold Sw at f;refine Xi (λg=>Kp ?_) (λg=>?_)
  ·rw[WO (by have:=WM g;lia)]at f;exact⟨by decide,by decide,by decide,by decide,by simp,f⟩
  ·have s:¬h<1:=λz=>g (WL z);refine Xi (λl=>?_) (λl=>?_)
   ·rw[WO (by have:=WM l;lia)]at f;exact⟨by decide,by decide,by decide,by decide,by simp,f⟩
   ·have o:¬10<h:=λz=>l (WL z);rw[WQ (by lia)]at f;exact f
def Zph(p:Def K mg "check_width" Cz ["width"])
  : OG ζ:=by
 refine p.fy Zjn (λr n=>(b1<|sI (tp<|wo (tc KJ KI (xv 0) xi)<|wO<|tc KC KE (xv 0)<|xe (ExcR.Pr G.Zl) Xm) (b1<|sQ G.Z8 G.Z7 ExcR.KM<|a1<|xe (ExcR.NK<|ExcR.PQ<|ExcR.NA (ExcR.Pr G.Zl) ExcR.NU)<|NF<|PK<|N1 Xm N8) b0)) (.a ?_)
 ·rintro u R X ⟨h,rfl,f⟩;refine⟨rfl,?_⟩;unfold AS at f;refine Xi (λg=>Kp ?_) (λg=>?_)
  ·rw[WO (by have:=WM g;lia)]at f;exact⟨by decide,by decide,by decide,by decide,by simp,f⟩
  ·have s:¬h<1:=λz=>g (WL z);refine Xi (λl=>?_) (λl=>?_)
   ·rw[WO (by have:=WM l;lia)]at f;exact⟨by decide,by decide,by decide,by decide,by simp,f⟩
   ·have o:¬1000<h:=λz=>l (WL z);rw[WQ (by lia)]at f;exact f
def Zb9(J:Def K mg "pair_cost" Cg ["strips","ahead","behind"])
  : RH ζ:=by
 refine J.fz Zqv (λu n=>(bc (sS 3 n xi)<|bc (sS 4 n xi)<|bc (sF 0<|sO [5,6] Qg (iL<|xv 0) (gT 2<|gc (gN 5)<|gc (gN 6) g0)<|b1<|sI (tq u (xv 5)<|xv 2) (b1<|sU 3 n Do<|xv 6)<|b1<|sI (tq u (xv 5)<|xv 1) (b1<|sU 4 n Do<|xo Nd TZ (xv 3)<|xv 6) b0)<|b1<|sV 4)) (.a ?_)
 ·rintro L R X ⟨f,x,y,rfl,C,B⟩;refine⟨rfl,rfl,K6 (xs:=f) (emb:=prD) (λi h=>h=[some (.bor<|.lst<|f.map prD),some (.sh<|.int x),some (.sh<|.int y),some (.sh<|.int<|tpM f y i),some (.sh<|.int<|pcM f x y i),none,none]) rfl ?_ ?_⟩
  ·rintro i A h rfl;have v:f.getD i (0,0)=f[i]:=by rw[WU,WJ A];rfl
   have hw:=C _ (Qd A);have H:tpM f y (i+1)=tpM f y i+(if f[i].1=y then f[i].2 else 0):=by simp only[tpM];rw[v]
   have E:pcM f x y (i+1)=pcM f x y i+(if x≠y/\f[i].1=x then tpM f y i*f[i].2 else 0):=by simp only[pcM];rw[v]
   rw[H,E];generalize f[i]=p at hw;refine⟨rfl,Xi (λg=>?_) (λg=>Xi (λr=>?_) (λr=>?_))⟩
   ·have e:p.1=y:=WM g;rw[WQ e,WO (by rintro⟨s,o⟩;exact s (o.symm.trans e)),Jc];rfl
   ·have e:¬p.1=y:=λz=>g (WL z);have l:p.1=x:=WM r;rw[WO e,WQ ⟨λz=>e (l.trans z),l⟩,Jc];exact⟨.inr ⟨by show -(2 ^ 64)<p.2;lia,by show p.2<2 ^ 64;lia⟩,rfl⟩
   ·have e:¬p.1=y:=λz=>g (WL z);have l:¬p.1=x:=λz=>r (WL z);rw[WO e,WO (by rintro⟨s,o⟩;exact l o),Jc,Jc];rfl
  ·rintro h rfl;exact B
def Zh7(l:Def K mg "own_numbers" AR ["strips"])
  : Gx ζ:=by
 refine l.fz Zkc (λp n=>(b1<|sR<|xC ["index"] [none] (jI<|ir G.Zf<|a1<|xl G.len<|xv 0) (gN 0) f0<|xo X6 X8 (xv 0) xi)) (.a ?_)
 ·rintro r R X ⟨f,rfl,o,h⟩;refine⟨rfl,?_⟩;have g:(f.map prD).length=f.length:=WI ..;refine⟨⟨by lia,by lia⟩,Ea (λi=>some (.int (0+(i:Int)+1))) (by lia) (λi _=>⟨_,rfl,rfl⟩) ?_⟩
  have e:(List.range ((f.map prD).length:Int).toNat).filterMap (λ(i:Nat)=>some (D.int (0+(i:Int)+1)))=(Kf 1 f.length).map D.int:=by
   unfold Kf;rw[VH,Qy,g,Q6];refine Vw λi _=>?_;show D.int (0+(i:Int)+1)=D.int (1+(i:Int));congr 1;lia
  rw[e];exact h
def Zbc(x:Def K mg "exchange_cost" AU ["strips","numbers","place"])
  : MM ζ:=by
 refine x.fz Ze6 (λA n=>(bc (sS 3 n<|xx (xv 0)<|xo Kg Kb (xx (xv 1)<|xo Kg Kb (xv 2) xi) xi)<|bc (sS 4 n<|xx (xv 0)<|xo Kg Kb (xx (xv 1)<|xv 2) xi)<|b1<|sR<|xo Nd TZ (xx (xv 3) xi)<|xx (xv 4) xi)) (.a ?_)
 ·rintro E R X ⟨g,f,p,rfl,s,h,C,B,l⟩;refine⟨rfl,?_⟩;have b1:(p-1).toNat<f.length:=by omega
  have r:p.toNat<f.length:=by omega
  have z:=h _ (Qd b1);have y:=h _ (Qd r);refine⟨_,KY (by omega) (by omega),_,KY (by omega) (by omega),_,KY (by omega) (by omega),_,KY (by omega) (by omega),_,rfl,_,rfl,?_⟩;have o:(f[(p-1).toNat]-1).toNat<g.length:=by omega
  have v:(f[p.toNat]-1).toNat<g.length:=by omega
  have f1:=s _ (Qd o);refine⟨.inl ⟨by show -(2 ^ 64)<(g[(f[(p-1).toNat]-1).toNat]).2;omega,by show(g[(f[(p-1).toNat]-1).toNat]).2<2 ^ 64;omega⟩,?_⟩
  have e:exM g f p.toNat=(g[(f[(p-1).toNat]-1).toNat]).2*(g[(f[p.toNat]-1).toNat]).2:=by
   unfold exM
   have u:f.getD (p.toNat-1) 0=f[(p-1).toNat]:=by
    rw[show p.toNat-1=(p-1).toNat by omega];exact Fy b1
   rw[u,Fy r,Fy o,Fy v]
  rw[e]at l;exact l
def Zkv(s:Def K mg "exchanged" Dw ["numbers","place"])
  : LA ζ:=by
 refine s.fz Zcm (λv n=>(b1<|sR<|xo KF KD (xo KF KD (xp (xv 0) o0<|o1<|xo Kg Kb (xv 1) xi)<|xL<|a2 (xx (xv 0)<|xv 1)<|xx (xv 0)<|xo Kg Kb (xv 1) xi)<|xp (xv 0) (o1<|xo X6 X8 (xv 1) xi) o0)) (.a ?_)
 ·rintro x R X ⟨f,p,rfl,r,o,u,h⟩;refine⟨rfl,?_⟩;have b1:p.toNat<f.length:=by lia
  have b2:(p-1).toNat<f.length:=by lia
  have g:(cutD (f.map D.int) none<|some (p-1)).length<=1000:=by have:=(Tp (f.map D.int) none<|some (p-1)).length_le;rw[WI]at this;lia
  have l:(cutD (f.map D.int) (some (p+1)) none).length<=1000:=by have:=(Tp (f.map D.int) (some (p+1)) none).length_le;rw[WI]at this;lia
  refine⟨Pt _,_,KY (by lia) (by lia),_,KY (by lia) (by lia),by simp,rfl,rfl,WV (Qu g<|WT 2) (by decide),Pt _,rfl,rfl,WV (Qu (by rw[WW];exact Qu g (WT 2)) l) (by decide),?_⟩;have e:=Zsk r o (b1:=b1) (b2:=b2);rw[←e]at h;exact h
def Zno(L:Def K mg "first_wrong_place" E1 ["numbers","ranks"])
  : Od ζ:=by
 refine L.fz Zrk (λN n=>(bc (sO [2] Qg (iR G.Zf<|a2 xi<|xl G.len<|xv 0) (gN 2)<|b1<|sI (tc KC KE (xx (xv 1)<|xo Kg Kb (xx (xv 0)<|xo Kg Kb (xv 2) xi) xi)<|xx (xv 1)<|xo Kg Kb (xx (xv 0)<|xv 2) xi) (b1<|sV 2) b0)<|b1<|sR xi)) (.a ?_)
 ·rintro U R X ⟨h,l,rfl,y,M,E⟩;refine⟨rfl,?_⟩;have Q:(h.map D.int).length=h.length:=WI ..
  have C:∀(i:Nat) (k:Int),i<h.length->k=(i:Int)->atI (h.map D.int) k=some (.int<|h.getD i 0):=λi k p e=>by
   rw[e];exact PX (f:=D.int) (NG<|by rw[WU,WJ p];rfl)
  have A:∀i:Nat,i<h.length->atI (l.map D.int) (h.getD i 0-1)=some (.int (l.getD (h.getD i 0-1).toNat 0)):=λi p=>by
   have J:h.getD i 0∈h:=by
    rw[WU,WJ p];exact Qd p
   have:=y _ J
   generalize h.getD i 0=z at this;rw[KY (f:=D.int) (xs:=l) (by lia) (by lia),WU,WJ (show(z-1).toNat<l.length by lia)];rfl
  have x:∀i:Nat,i<h.length->(h.map λm=>l.getD (m-1).toNat 0).getD i 0=l.getD (h.getD i 0-1).toNat 0:=λi p=>BD p;have B:(h.map λm=>l.getD (m-1).toNat 0).length=h.length:=WI ..;refine⟨⟨by lia,by lia⟩,PZ (λi r=>(∀q,1<=q->q<1+i->(h.map λm=>l.getD (m-1).toNat 0).getD (q-1) 0<=(h.map λm=>l.getD (m-1).toNat 0).getD q 0)/\r=[some (.bor<|.lst<|h.map D.int),some (.bor<|.lst<|l.map D.int),none]) ⟨λq u T=>by lia,rfl⟩ ?_ ?_⟩
  ·rintro i r p ⟨u,rfl⟩
   have o:i+1<h.length:=by
    have:i<((((h.map D.int).length:Nat):Int)-1).toNat:=p
    lia
   refine⟨_,C i _ (by lia) (by lia),_,A i (by lia),_,C (i+1) _ o (by lia),_,A (i+1) o,?_⟩;refine Xi (λg=>?_) (λg=>?_)
   ·have H:l.getD (h.getD (i+1) 0-1).toNat 0<l.getD (h.getD i 0-1).toNat 0:=WM g
    have:=E (i+1) ⟨λq s v=>u q s (by rw[WO (by lia)]at v;lia),.inr ⟨by lia,by rw[B];exact o,by rw[x _ o,V1,x _ (by lia)];exact H⟩⟩
    rw[show((i+1:Nat):Int)=1+(i:Int) by lia]at this;exact this
   ·have H:¬l.getD (h.getD (i+1) 0-1).toNat 0<l.getD (h.getD i 0-1).toNat 0:=λz=>g (WL z);refine⟨λq s v=>?_,rfl⟩;by_cases c:q<1+i
    ·exact u q s c
    ·have:q=i+1:=by lia
     subst this;rw[x _ o,V1,x _ (by lia)];lia
  ·rintro r ⟨u,rfl⟩;refine E 0 ⟨λq s v=>u q s ?_,.inl rfl⟩;rw[WQ rfl,B]at v;lia
def Zm0(r:Def K mg "check_neighbours" DR ["strips","place"])
  : MR ζ:=by
 refine r.fy Zfu (λs n=>(b1<|sI (tp<|wo (tc KJ KI (xv 1) xi)<|wO<|tc Si Sl (xv 1)<|xl G.len<|xv 0) (b1<|sQ G.Zr G.Zq ExcR.KM<|a1 xs) b0)) (.a ?_)
 ·rintro x R X ⟨h,p,rfl,f⟩;refine⟨rfl,?_⟩;have u:(h.map prD).length=h.length:=WI ..;refine Xi (λg=>Kp ?_) (λg=>?_)
  ·rw[WQ (.inl<|WM g)]at f;exact⟨by simp,f⟩
  ·have v:¬p<1:=λz=>g (WL z);refine Xi (λo=>?_) (λo=>?_)
   ·have l:((h.map prD).length:Int)<=p:=WM o;rw[WQ (.inr<|by lia)]at f;exact⟨by simp,f⟩
   ·have l:¬((h.map prD).length:Int)<=p:=λz=>o (WL z);rw[WO (by lia)]at f;exact f
def Zjp(J:Def K mg "broken_wishes" Cj ["order","wishes"])
  : Rw ζ:=by
 refine J.fz G1 (λr n=>(bc (se (Pu.pz 2 G1.nd Hs)<|Na RA<|Kq 2)<|bc (sF 0<|sO [3,4] Qg (ie (Ll rfl G.Zp<|az<|pv 0)<|MN<|sz<|Xe 0) (gT 2<|gc (gN 3)<|gc (gN 4) g0)<|b1<|se (BS (Kv<|r ()) (pv 2) (pv 4) (pv 3) rfl)<|Fw 2 (Xe 4)<|Xe 3)<|bc (sC 5 ["ahead","behind","index_of"] [none,none,some 2] n (jL<|xv 1) (gT 2<|gc (gN 0)<|gc (gN 1) g0) (f1<|tp<|wa (te (EC<|MV (Kv<|r ()) (pv 0)<|pv 2)<|ED<|O0 (Xe 0)<|Xe 2)<|wA<|te (EC<|MV (Kv<|r ()) (pv 1)<|pv 2)<|ED<|O0 (Xe 1)<|Xe 2)<|xt<|a2 (xv 0)<|xv 1)<|b1<|sR<|xC ["ahead","behind","index_of"] [none,none,some 2] (jL<|xv 5) (gT 2<|gc (gN 0)<|gc (gN 1) g0) (f1<|tc KJ KI (xe (NX (Kv<|r ()) (pv 2) (pv 1) (λ_ _=>rfl))<|NJ (Xe 2)<|Xe 1)<|xe (NX (Kv<|r ()) (pv 2) (pv 0) (λ_ _=>rfl))<|NJ (Xe 2)<|Xe 0)<|xt<|a2 (xv 0)<|xv 1)) (.a ?_)
 ·rintro N R X ⟨os,u,rfl,s,M,hw,E⟩;refine⟨rfl,rfl,Pt _,OC (xs:=os) (emb:=D.int) (λi g=>∃f:List (Key×V),g=[some (.bor<|.lst<|os.map D.int),some (.bor<|.lst<|u.map prD),some (.own<|.dK f),none,none,none]/\f.length<=i/\∀h:Int,Xy f (.inl h)=if h∈os.take i then some (.int<|os.idxOf h)else none) ⟨[],rfl,by simp,λh=>by simp[Xy]⟩ ?_ ?_⟩
  ·rintro i y g ⟨f,rfl,B,l⟩;refine⟨rfl,.inl os[i],.int i,rfl,rfl,by lia,_,rfl,WV (BF _ _ _) (by lia),λh=>?_⟩;rw[SR,l];by_cases e:h=os[i]
   ·subst e;rw[WQ rfl,WQ ((Ob y).mpr (.inr rfl)),Fk s y]
   ·rw[WO (λz=>e (Sum.inl.inj z))];simp only[Ob y,e,or_false]
  ·rintro g ⟨f,rfl,B,l⟩;rw[QL]at l;refine Kd (xs:=u) (emb:=prD) (λq=>if (decide (q.1∈os)&&decide (q.2∈os))=true then some (prD q)else none) (by lia) (λq hq=>⟨rfl,⟨_,rfl,?_⟩⟩) ?_
   ·have x:(Xy f<|.inl q.1).isSome=decide (q.1∈os):=by
     rw[l];by_cases e:q.1∈os<;>simp[e]
    have v:(Xy f<|.inl q.2).isSome=decide (q.2∈os):=by
     rw[l];by_cases e:q.2∈os<;>simp[e]
    refine Xi (λp=>⟨_,rfl,Xi (λA=>⟨by simp,_,rfl,WQ ?_⟩) (λA=>WO λz=>A ?_)⟩) (λp=>XI (WO λz=>p ?_))
    ·rw[←x,←v,Qr];exact⟨p,A⟩
    ·rw[←x,←v,Qr]at z;exact z.2
    ·rw[←x,←v,Qr]at z;exact z.1
   rw[Pd (λq=>decide (q.1∈os)&&decide (q.2∈os)) prD];have C:=Qw (λq:Int×Int=>decide (q.1∈os)&&decide (q.2∈os)) u;refine Kd (xs:=u.filter λq=>decide (q.1∈os)&&decide (q.2∈os)) (emb:=prD) (λq=>if decide (os.idxOf q.2<os.idxOf q.1)=true then some (prD q)else none) (by lia) (λq hq=>?_) ?_
   ·have o:=(Qn.mp hq).2;rw[Qr,Vq,Vq]at o;refine⟨rfl,.inl q.2,.int (os.idxOf q.2),rfl,by rw[l,WQ o.2],rfl,.inl q.1,.int (os.idxOf q.1),rfl,by rw[l,WQ o.1],rfl,?_⟩;refine Xi (λp=>⟨by simp,_,rfl,WQ ?_⟩) (λp=>WO λz=>p ?_)
    ·have H:((os.idxOf q.2:Nat):Int)<((os.idxOf q.1:Nat):Int):=WM p;exact WL (by lia)
    ·have L:=WM z;exact WL (show((os.idxOf q.2:Nat):Int)<((os.idxOf q.1:Nat):Int) by lia)
   rw[Pd (λq=>decide (os.idxOf q.2<os.idxOf q.1)) prD,List.filter_filter]
   have e:(λq:Int×Int=>decide (os.idxOf q.2<os.idxOf q.1)&&(decide (q.1∈os)&&decide (q.2∈os)))=T4 os:=by
    funext q;rw[Zpc s,Bool.and_comm]
   rw[e];exact E
def Zp2(U:Def K mg "longer_paths" Df ["paths","left","wishes"])
  : Mc ζ:=by
 refine U.fz OQ (λy n=>(bc (sS 3 n<|xL a0)<|bc (se (Pu.pz 4 OQ.nd Hs)<|Na RA<|Kq 4)<|bc (sF 1<|sF 0<|sO [5,6] Qg (iL<|xv 0) (gN 5)<|b1<|sF 1<|sO [6] Qg (iL<|xv 1) (gN 6)<|b1<|sI (tp<|wa (te (EC<|Zn3 (Kv<|y ()) (pv 6)<|pv 4)<|ED<|Zc0 (Xe 6)<|Xe 4)<|wA<|ti y (xt<|a2 (xx (xv 5)<|xe (Kw Kx Xp)<|K0 Xm)<|xv 6)<|xv 2) (bc (se (BS (Kv<|y ()) (pv 4) (pv 6) Tx rfl)<|Fw 4 (Xe 6) T3)<|b1<|sF 6<|sA 3<|xo KF KD (xv 5)<|xL<|a1<|xv 6) b0)<|b1<|sV 3)) (.a ?_)
 ·rintro Y R X ⟨l,u,v,x,rfl,z,J,Q⟩;refine⟨rfl,?_⟩
  refine⟨by simp,rfl,K6 (xs:=u) (emb:=em l) (λi o=>∃r f,o=[some (.bor<|.lst<|u.map<|em l),some (.bor<|.lst<|v.map D.int),some (.bor<|.lst<|x.map prD),some (.own<|r.map<|em l),some (.own<|.dK f),none,none]/\LWs x l u v r f)
   ⟨[],[],rfl,(λq hq=>by cases hq),Vx,(λh=>by simp[Xy]),WT _⟩ ?_ ?_⟩
  ·rintro i N o ⟨r,f,rfl,s⟩;have B:=Qd N;have A:=z u[i] B;generalize u[i]=p at B A ⊢;refine⟨rfl,K6 (xs:=v) (emb:=D.int) (λj o=>∃r f,o=[some (.bor<|.lst<|u.map<|em l),some (.bor<|.lst<|v.map D.int),some (.bor<|.lst<|x.map prD),some (.own<|r.map<|em l),some (.own<|.dK f),some (.bor<|em l p),none]/\LWs x l u v r f) ⟨r,f,rfl,s⟩ ?_ ?_⟩
   ·rintro j M o ⟨r,f,rfl,s⟩;have E:=Qd M;generalize v[j]=h at E ⊢;have C:=s.len_le;have L:=s.len;refine⟨.inl h,rfl,Xi (λg=>?_) (λg=>XI ⟨r,f,rfl,s⟩)⟩
    have T:(Xy f<|.inl h).isSome=false:=by
     cases e:(Xy f<|.inl h).isSome with
     |false=>rfl
     |true=>rw[e]at g;cases g
    refine⟨_,DA l p,by simp,_,.lp (XM l p,h) x,Xi (λH=>?_) (λH=>⟨r,f,rfl,s⟩)⟩;refine⟨.inl h,.bl true,rfl,rfl,by lia,by simp,Pt _,rfl,by simp;lia,by rw[WI];lia,r++[p++[h]],_,?_,s.put B E T (WM H)⟩;rw[Qb]
    have e:em l (p++[h])=.lst ((l::p).map D.int++[.int h]):=by
     unfold em;rw[←VN,Qb];rfl
    rw[JN,e];rfl
   ·rintro o ⟨r,f,rfl,s⟩;exact⟨r,f,rfl,s⟩
  ·rintro o ⟨r,f,rfl,s⟩;exact Q r s.g s.len_le
def Zh8(r:Def K mg "check_place" D6 ["strips","place"])
  : HQ ζ:=by
 refine r.fy Zqi (λs n=>(b1<|sI (tp<|wo (tc KJ KI (xv 1) xi)<|wO<|tc KC KE (xv 1)<|xl G.len<|xv 0) (b1<|sQ G.Zr G.Zq ExcR.KM<|a1 xs) b0)) (.a ?_)
 ·rintro x R X ⟨h,p,rfl,f⟩;refine⟨rfl,?_⟩;have u:(h.map prD).length=h.length:=WI ..;unfold Fp at f;refine Xi (λg=>Kp ?_) (λg=>?_)
  ·rw[WQ (.inl<|WM g)]at f;exact⟨by simp,f⟩
  ·have v:¬p<1:=λz=>g (WL z);refine Xi (λo=>?_) (λo=>?_)
   ·have l:((h.map prD).length:Int)<p:=WM o;rw[WQ (.inr<|by lia)]at f;exact⟨by simp,f⟩
   ·have l:¬((h.map prD).length:Int)<p:=λz=>o (WL z);rw[WO (by lia)]at f;exact f
def Zdl(r:Def K mg "without_wish" D7 ["wishes","ahead","behind"])
  : Rr ζ:=by
 refine r.fy Zsc (λp n=>(bc (sI (tI p (xt<|a2 (xv 1)<|xv 2)<|xv 0) (b1<|sQ G.ZO G.ZN ExcR.KM<|a1 xs) b0)<|b1<|sF 2<|sF 1<|sR<|xC ["wish","ahead","behind"] [none,some 1,some 2] (jL<|xv 0) (gN 0) (f1<|te (P5 (Gq (K:=K)<|show _<cLine from(p ()).units0) (pv 0) (Po<|bz (pv 1)<|pv 2)<|KZ _)<|Pa<|OI (Xe 0)<|P0<|tz (Xe 1)<|Xe 2)<|xv 0)) (.a ?_)
 ·rintro u R X ⟨l,a,b,rfl,s,f⟩;refine⟨rfl,?_⟩;unfold Kh at f;refine⟨by simp,_,.lp (a,b) l,Xi (λg=>?_) (λg=>?_)⟩
  ·have o:¬(a,b)∈l:=λz=>by rw[WQ rfl,WL z]at g;cases g
   rw[WO o]at f;exact⟨by simp,f⟩
  ·have o:(a,b)∈l:=Qt λz=>g (by rw[WQ rfl,Q3 z];rfl);rw[WQ o]at f;refine Kd (xs:=l) (emb:=prD) (λq=>if (!decide (q=(a,b)))=true then some (prD q)else none) (by lia) (λq hq=>?_) ?_
   ·refine⟨by simp,?_⟩;show CY (.sh<|prD q) (.sh<|prD (a,b)) _;refine Zb3 ?_;exact Xi (λh=>⟨_,rfl,WQ h⟩) (λh=>WO h)
   ·rw[Pd (λq:Int×Int=>!decide (q=(a,b)))];exact f
def Zar(v:Def K mg "sets_of" Aq ["holders"])
  : Ls ζ:=by
 refine v.fz Zg0 (λy n=>(bc (sS 1 n<|xL<|a1<|xt a0)<|bc (sF 0<|sO [2] Qg (iL<|xv 0) (gN 2)<|b1<|sF 2<|sS 1 n<|xo KF KD (xv 1)<|xC ["members","holder"] [none,some 2] (jL<|xv 1) (gN 0) f0<|xe (Nr (Zjf (K:=K)) (pv 0)<|Po<|az<|pv 1)<|Zor (Xe 0)<|P0<|sz<|Xe 1)<|b1<|sV 1)) (.a ?_)
 ·rintro z R X ⟨l,rfl,x,u⟩;refine⟨rfl,by simp,by simp,rfl,K6 (xs:=l) (emb:=D.int) (λi g=>g=[some (.bor<|.lst<|l.map D.int),some (.own ((X1<|l.take i).map tD)),none]) rfl ?_ ?_⟩
  ·rintro i s g rfl
   have o:(X1<|l.take i).length<=1024:=by
    rw[Sv,Q5];exact JA (j:=10) (by decide) (by lia)
   have p:∀f∈X1 (l.take i),f.length<=10:=λf r=>by
    have:=(Sk _ f r).length_le
    rw[Q5]at this;lia
   rw[Qp s,TQ];generalize X1 (l.take i)=S at o p ⊢;generalize l[i]=h;refine Kd (xs:=S) (emb:=tD) (λf=>some (tD (f++[h]))) (by lia) (λf r=>?_) ?_
   ·refine⟨by simp,_,_,Zcz f,rfl,?_,_,rfl,?_⟩
    ·have:=p f r
     rw[WI];show f.length+1<=100000;lia
    ·unfold tD;rw[Qb];rfl
   ·rw[Td];refine⟨rfl,rfl,?_,?_⟩
    ·rw[WI,WI];lia
    ·show[_,_,_]=[_,_,_];rw[Qb,Qy];rfl
  ·rintro g rfl;rw[QL];exact u
def Zbd(o:Def K mg "without" Eh ["members","holder"])
  : Lm ζ:=by
 refine o.fz Zff (λg n=>(b1<|sR<|xe (KU (Le (K:=K)) (by rfl) G.Zn boot_tuple<|az<|cz ["member","holder"] [none,some 1] (SY (K:=K)<|pv 0) ⟨(gk 0),(By<|cn K (g ()) (pv 0)<|pv 1),(pv 0)⟩)<|Gp<|sz<|PP (SndI.c<|BB<|Xe 0) (Kq 0) (Pa<|HW (Xe 0)<|Xe 1)<|Xe 0)) (.a ?_)
 ·rintro u R X ⟨f,h,rfl,p,l⟩;refine⟨rfl,?_⟩;rw[BA];refine⟨_,rfl,Kd (s:=.sh .non) (xs:=f) (emb:=D.int) (λm=>if decide (m≠h)=true then some (.int m)else none) (by lia) (λm r=>?_) ?_⟩
  ·show if (!decide (m=h))=true then _ else _;by_cases e:m=h
   ·rw[WL e];exact XI (by simp[e])
   ·rw[Q3 e];exact Kp ⟨_,rfl,WQ (WL e)⟩
  ·rw[Pd (λm=>decide (m≠h))];exact⟨rfl,l⟩
def Zky(r:Def K mg "may_lie_last" Ao ["members","holder","wishes"])
  : Oz ζ:=by
 refine r.fz Zg2 (λo n=>(b1<|sR<|xn<|xe (Ki (MB (K:=K) rfl) (by rfl) G.ZP boot_any<|az<|cz ["ahead","behind","holder","members"] [none,none,some 1,some 0] (Tr (K:=K)<|pv 2) ⟨(F0 (K:=K) (n:=2) rfl<|NB (gk 0)<|NB (gk 1) Fl),T9,(Fm (Nc (Sg (K:=K)<|show _<cLine from(o ()).units0) (pv 0) (pv 2)<|KZ _)<|FA<|Nc (DV (K:=K)<|show _<cLine from Kv (o ())) (pv 1) (pv 3)<|by with_unfolding_all rfl)⟩)<|Hl<|sz<|PP (Ni<|Xe 2) (DJ<|B5 (Kq 0)<|B5 (Kq 1) Ap) Nn<|Am (NL (Xe 0)<|Xe 2)<|SW (Xe 1)<|Xe 3)) (.a ?_)
 ·rintro u R X ⟨f,h,l,rfl,s,p⟩;refine⟨rfl,?_⟩;rw[BA];refine Kd (xs:=l) (emb:=prD) (λq=>some (.bl (decide (q.1=h)&&decide (q.2∈f)))) (by lia) (λq hq=>?_) ?_
  ·refine⟨rfl,?_⟩;show if true=true then(if decide (q.1=h)=true then _ else _)else(some (D.bl (decide (q.1=h)&&decide (q.2∈f)))=none);refine Kp (Xi (λg=>⟨_,.ti _ _,?_⟩) (λg=>?_))
   ·refine⟨_,rfl,?_⟩;rw[g,Ju];rfl
   ·refine⟨_,rfl,?_⟩;rw[Vp.mpr g,Jd]
  ·rw[Td];refine⟨l.map λq=>decide (q.1=h)&&decide (q.2∈f),by rw[Qy];rfl,?_⟩;rw[List.any_map];exact p
def Zbv(r:Def K mg "may_lie_first" DE ["members","holder","wishes"])
  : L3 ζ:=by
 refine r.fz Zl9 (λo n=>(b1<|sR<|xn<|xe (Ki (MB (K:=K) rfl) (by rfl) G.ZP boot_any<|az<|cz ["ahead","behind","holder","members"] [none,none,some 1,some 0] (Tr (K:=K)<|pv 2) ⟨(F0 (K:=K) (n:=2) rfl<|NB (gk 0)<|NB (gk 1) Fl),T9,(Fm (Nc (Sg (K:=K)<|show _<cLine from(o ()).units0) (pv 1) (pv 2)<|KZ _)<|FA<|Nc (DV (K:=K)<|show _<cLine from Kv (o ())) (pv 0) (pv 3)<|by with_unfolding_all rfl)⟩)<|Hl<|sz<|PP (Ni<|Xe 2) (DJ<|B5 (Kq 0)<|B5 (Kq 1) Ap) Nn<|Am (NL (Xe 1)<|Xe 2)<|SW (Xe 0)<|Xe 3)) (.a ?_)
 ·rintro u R X ⟨f,h,l,rfl,s,p⟩;refine⟨rfl,?_⟩;rw[BA];refine Kd (xs:=l) (emb:=prD) (λq=>some (.bl (decide (q.2=h)&&decide (q.1∈f)))) (by lia) (λq hq=>?_) ?_
  ·refine⟨rfl,?_⟩;show if true=true then(if decide (q.2=h)=true then _ else _)else(some (D.bl (decide (q.2=h)&&decide (q.1∈f)))=none);refine Kp (Xi (λg=>⟨_,.ti _ _,?_⟩) (λg=>?_))
   ·refine⟨_,rfl,?_⟩;rw[g,Ju];rfl
   ·refine⟨_,rfl,?_⟩;rw[Vp.mpr g,Jd]
  ·rw[Td];refine⟨l.map λq=>decide (q.2=h)&&decide (q.1∈f),by rw[Qy];rfl,?_⟩;rw[List.any_map];exact p
def Zj1(h:X7 K (X0 K (Xo ζ) "strips") "strips" "Village.strips" CC ["self"])
  : GU ζ:=by
 refine h.fz Zka (λo n=>(b1<|sR<|xe (KU (Th (K:=K)) (by rfl) G.Zg boot_list<|az<|jx K (Ph (pv 0) rfl)<|Kw Kx Xp)<|Ta<|sz<|XG (T7 1 G.Za G.Zd Fn<|Xe 0)<|K0 Xm)) (.a ?_)
 ·rintro p R X ⟨bk,fs,l,f,rfl,g⟩;refine⟨rfl,?_⟩;exact⟨rfl,rfl,_,rfl,_,SA plD fs f,Kc _,g⟩
def Zdr(l:X7 K (X0 K (Xo ζ) "wishes") "wishes" "Village.wishes" CL ["self"])
  : Rh ζ:=by
 refine l.fz Zer (λo n=>(b1<|sR<|xe (KU (Th (K:=K)) (by rfl) G.Zg boot_list<|az<|jx K (Ph (pv 0) rfl)<|Kw Kx Xp)<|Ta<|sz<|XG (T7 2 G.Za G.Ze F4<|Xe 0)<|K0 Xm)) (.a ?_)
 ·rintro p R X ⟨bk,fs,g,f,rfl,h⟩;refine⟨rfl,?_⟩;exact⟨rfl,rfl,_,rfl,_,SA plD g f,Kc _,h⟩
def Zmh(g:X7 K (X0 K (Xo ζ) "deeds") "deeds" "Village.deeds" EF ["self"])
  : MA ζ:=by
 refine g.fz Zev (λl n=>(b1<|sR<|xe (KU (Th (K:=K)) (by rfl) G.Zg boot_list<|az<|Ph (pv 0) rfl)<|Ta<|sz<|T7 0 G.Za G.Zb N9<|Xe 0)) (.a ?_)
 ·rintro o R X ⟨bk,fs,h,rfl,f⟩;refine⟨rfl,?_⟩;exact⟨rfl,rfl,_,rfl,BX _,f⟩
def Zdv(l:X7 K (X0 K (Xo ζ) "check_room") "check_room" "Village.check_room" Dp ["self"])
  : MY ζ:=by
 refine l.fy Zkm (λp n=>(b1<|sI (tc Si Sl (xl G.len<|xe (Ph (pv 0) rfl)<|T7 0 G.Za G.Zb N9<|Xe 0)<|xe (ExcR.Pr G.Zo) Xm) (b1<|sQ G.ZF G.ZE ExcR.KM<|a1<|xe (ExcR.NK<|ExcR.PQ<|ExcR.NA (ExcR.Pr G.Zo)<|ExcR.PQ ExcR.NU)<|NF<|PK<|N1 Xm<|PK N8) b0)) (.a ?_)
 ·rintro s R X ⟨bk,fs,o,rfl,f⟩;refine⟨rfl,?_⟩;have r:(bk.map dD).length=bk.length:=WI ..;unfold ND at f;refine⟨rfl,rfl,_,rfl,Xi (λg=>?_) (λg=>?_)⟩
  ·have h:(100:Int)<=((bk.map dD).length:Int):=WM g;rw[WQ (by lia)]at f;exact⟨by decide,by decide,by decide,by decide,by decide,by simp,f⟩
  ·have h:¬(100:Int)<=((bk.map dD).length:Int):=λz=>g (WL z);rw[WO (by lia)]at f;exact f
def Zgt(A:X7 K (X0 K (Xo ζ) "enter") "enter" "Village.enter" DX ["self","deed","field","wishes"])
  : RQ ζ:=by
 refine A.fz Zek (λC n=>(bc (sF 1<|se (Kt<|NN Ql Vn Vo Sy (Ph (pv 0) rfl)<|az<|pv 1)<|Nh<|AJ 0 0 G.Za G.Zb N9<|Xe 1)<|bc (sF 2<|se (Kt<|NN Ql Vn Vo Sy (Ph (pv 0) rfl)<|az<|pv 2)<|Nh<|AJ 0 1 G.Za G.Zd Fn<|Xe 2)<|bc (sF 3<|se (Kt<|NN Ql Vn Vo Sy (Ph (pv 0) rfl)<|az<|pv 3)<|Nh<|AJ 0 2 G.Za G.Ze F4<|Xe 3)<|b1<|se (Kj<|ln K G.len<|Ph (pv 0) rfl)<|Sa<|NV<|sz<|T7 0 G.Za G.Zb N9<|Xe 0)) (.c ?_)
 ·rintro o B R X ⟨x,b1,z,y,bk,fs,g,q,f,w,rfl,rfl,J,H,E,r⟩;refine⟨rfl,?_⟩;have p:(bk.map dD).length<10000000:=by rw[WI];lia
  have l:(fs.map plD).length<10000000:=by rw[WI];lia
  have h:(g.map plD).length<10000000:=by rw[WI];lia
  refine⟨rfl,rfl,_,rfl,p,rfl,rfl,_,rfl,l,rfl,rfl,_,rfl,h,rfl,rfl,_,rfl,_,rfl,⟨rfl,by simp⟩,?_⟩;have e:(((bk.map dD++[dD q]).length:Nat):Int)=(bk.length:Int)+1:=by rw[WW,WI];simp
  show R (.ins x _ vF [(b1,bk.map dD++[dD q]),(z,fs.map plD++[plD f]),(y,g.map plD++[plD w])]) (.int (((bk.map dD++[dD q]).length:Nat):Int));rw[e];have v:bk.map dD++[dD q]=(bk++[q]).map dD:=by rw[Qb];rfl
  have u:fs.map plD++[plD f]=(fs++[f]).map plD:=by rw[Qb];rfl
  have s:g.map plD++[plD w]=(g++[w]).map plD:=by rw[Qb];rfl
  rw[v,u,s];exact r
def Zm9(H:X7 K (X0 K (Xo ζ) "take_back") "take_back" "Village.take_back" DL ["self"])
  : RN ζ:=by
 refine H.fy Zib (λL n=>(bc (sI (tN<|tt<|xe (Ph (pv 0) rfl)<|T7 0 G.Za G.Zb N9<|Xe 0) (b1<|sQ G.Z0 G.Zz ExcR.KM<|a1 xs) b0)<|bc (se (Kt<|N7 Ql VL VM FK<|Ph (pv 0) rfl)<|Nh<|EJ 0 1 G.Za G.Zd Fn)<|bc (se (Kt<|N7 Ql VL VM FK<|Ph (pv 0) rfl)<|Nh<|EJ 0 2 G.Za G.Ze F4)<|b1<|se (Kj<|N7 Ql VL VM FK<|Ph (pv 0) rfl)<|Tc<|EJ 0 0 G.Za G.Zb N9)) (.c ?_)
 ·rintro o J R X ⟨x,b1,r,p,bk,fs,f,rfl,rfl,N,M,y,A⟩;refine⟨rfl,?_⟩;have l:(bk.map dD).isEmpty=decide (bk=[]):=by cases bk<;>simp
  refine⟨rfl,rfl,_,rfl,?_⟩;show if (!(!(bk.map dD).isEmpty))=true then _ else _;rw[Bool.not_not,l];refine Xi (λg=>⟨by simp,_,rfl,⟨rfl,by simp⟩,y (WM g)⟩) (λg=>?_);have h:bk≠[]:=λz=>g (WL z);obtain⟨b0,q,rfl⟩:∃b0 q,bk=b0++[q]:=⟨_,_,(List.dropLast_concat_getLast h).symm⟩;have v:(b0++[q]).length=b0.length+1:=by simp
  have f1:(fs.map plD)[(fs.map plD).length-1]?=some (plD (fs[fs.length-1]'(by lia))):=by
   rw[WI,WY,WJ (by lia)];rfl
  have s:(f.map plD)[(f.map plD).length-1]?=some (plD (f[f.length-1]'(by lia))):=by
   rw[WI,WY,WJ (by lia)];rfl
  have u:((b0++[q]).map dD)[((b0++[q]).map dD).length-1]?=some (dD q):=by
   rw[WI,WY,v,V1,Qx (WT _),J8];rfl
  refine⟨rfl,rfl,_,_,rfl,f1,rfl,rfl,_,_,rfl,s,rfl,rfl,_,_,rfl,u,_,rfl,⟨rfl,by simp⟩,?_⟩;have E:((b0++[q]).map dD).dropLast=b0.map dD:=by rw[Qb];exact Vm
  have C:(fs.map plD).dropLast=fs.dropLast.map plD:=List.map_dropLast.symm;have B:(f.map plD).dropLast=f.dropLast.map plD:=List.map_dropLast.symm
  have:=A b0 q rfl
  rw[show vO (ExcR.Xq mg "Village") x b1 r p b0 fs.dropLast f.dropLast=.ins x (ExcR.Xq mg "Village") vF [(b1,((b0++[q]).map dD).dropLast),(r,(fs.map plD).dropLast),(p,(f.map plD).dropLast)] by rw[E,C,B]]at this;exact this
def Zj7(v:X7 K (X0 K (Xo ζ) "stood") "stood" "Village.stood" DW ["self","many"])
  : GL ζ:=by
 refine v.fy Zjs (λB n=>(bc (sI (tp<|wo (tc KJ KI (xv 1) xi)<|wO<|tc KC KE (xv 1)<|xl G.len<|xe (Ph (pv 0) rfl)<|T7 0 G.Za G.Zb N9<|Xe 0) (b1<|sQ G.Z4 G.Z3 ExcR.KM<|a1 xs) b0)<|b1<|sR<|xe (Po<|bz (KU (Th (K:=K)) (by rfl) G.Zg boot_list<|az<|jx K (Ph (pv 0) rfl)<|pv 1)<|KU (Th (K:=K)) (by rfl) G.Zg boot_list<|az<|jx K (Ph (pv 0) rfl)<|pv 1)<|Zob (Ta<|sz<|XG (T7 1 G.Za G.Zd Fn<|Xe 0)<|Xe 1)<|Ta<|sz<|XG (T7 2 G.Za G.Ze F4<|Xe 0)<|Xe 1)) (.a ?_)
 ·rintro J R X ⟨bk,fs,p,k,rfl,E,C,r,u⟩;refine⟨rfl,?_⟩;have A:(bk.map dD).length=bk.length:=WI ..;refine Xi (λg=>Kp ?_) (λg=>?_)
  ·exact⟨by simp,r (.inl<|WM g)⟩
  ·have H:¬k<0:=λz=>g (WL z);refine⟨rfl,rfl,_,rfl,Xi (λo=>?_) (λo=>?_)⟩
   ·have l:((bk.map dD).length:Int)<k:=WM o;exact⟨by simp,r (.inr<|by lia)⟩
   ·have l:¬((bk.map dD).length:Int)<k:=λz=>o (WL z);have s:k.toNat<fs.length:=by lia
    have h:k.toNat<p.length:=by lia
    refine⟨rfl,rfl,_,rfl,_,KY (f:=plD) (xs:=fs) (by lia) (by lia),Kc _,rfl,rfl,_,rfl,_,KY (f:=plD) (xs:=p) (by lia) (by lia),Kc _,Kc _,Kc _,λx y=>?_⟩;exact u _ _ k.toNat x y (by lia) (WJ s) (WJ h)
def Zsh(p:Def K mg "_law_at" Dh ["_law_script","_law_k"])
  : IM ζ:=by
 refine p.fz Zef (λr n=>(bc (sI (tc KJ KI (xv 1)<|xl G.len<|xv 0) (b1<|sR<|xx (xv 0)<|xv 1) b0)<|b1<|sR xi)) (.a ?_)
 ·rintro s R X ⟨h,k,rfl,l,f⟩;refine⟨rfl,?_⟩;refine Xi (λg=>?_) (λg=>?_)
  ·have o:k<(h.length:Int):=WM g;have e:=WJ (show k.toNat<h.length by omega);rw[WU,e]at f;exact⟨_,Br l e,f⟩
  ·have o:¬k<(h.length:Int):=λz=>g (WL z);rw[WU,Vg (by omega)]at f;exact f
def Zqb(g:Def K mg "_law_whole" A5 ["_law_found"])
  : GK ζ:=by
 refine g.fz Zd4 (λh n=>(b1<|sR<|xe (Fm (Ki (Tt (K:=K)) (by rfl) G.Zc Va<|bz (pv 0)<|T8 (v:=.ty "int") rfl G.ZQ boot_int rfl)<|FA<|Lb<|Ki (Tt (K:=K)) (by rfl) G.Zc Va<|bz (pv 0)<|T8 (v:=.ty "bool") rfl G.ZT boot_bool rfl)<|Am (T1<|tz (Xe 0) Tu)<|Hx<|T1<|tz (Xe 0) Tu)) (.a ?_)
 ·rintro l R X ⟨i,rfl,f⟩;refine⟨rfl,?_⟩;exact⟨_,.same _,_,.ib,f⟩
def Zl7(g:Def K mg "_law_mix" EV ["_law_cell","_law_place_here"])
  : OB ζ:=by
 refine g.fz Zjd (λh n=>(bc (sS 2 n<|xo XB XA (xo Nd TZ (xo X6 X8 (xo X6 X8 (xo XB XA (xv 0) xi)<|xo Nd TZ xi<|xv 1) xi) xi) xi)<|b1<|sR<|xo XB XA (xo Nd TZ (xo X6 X8 (xo X6 X8 (xv 2)<|xo Nd TZ xi<|xv 1) xi) xi) xi)) (.a ?_)
 ·rintro l R X ⟨c,p,rfl,f⟩;refine⟨rfl,?_⟩;unfold mixP at f;exact⟨(by show(0:Int)<2147483647;decide),.inl ⟨by decide,by decide⟩,.inr ⟨by decide,by decide⟩,(by show(0:Int)<2147483647;decide),.inl ⟨by decide,by decide⟩,.inr ⟨by decide,by decide⟩,(by show(0:Int)<2147483647;decide),f⟩
def Zdd(A:Def K mg "_law_menu" Er ["_law_cell"])
  : Hi ζ:=by
 refine A.fz Zbi (λB n=>(bc (sS 1 n<|xx (xL<|ac xi<|ac xi<|ac xi<|ac xi<|ac xi a0)<|xo XB XA (xo Kl Km (xv 0) xi) xi)<|bc (sS 2 n<|xx (xL<|ac xi<|ac xi<|ac xi<|ac xi<|ac xi a0)<|xo XB XA (xo Kl Km (xv 0) xi) xi)<|b1<|sF 2<|sF 1<|sR<|xL<|ac (xo X6 X8 xi<|xo XB XA (xv 0) xi)<|ac (xx (xL<|ac xi<|ac xi<|ac xi<|ac xi a0)<|xo XB XA (xo Kl Km (xv 0) xi) xi)<|ac (xo XB XA (xo Kl Km (xv 0) xi) xi)<|ac (xv 1)<|ac (xv 2) a0)) (.a ?_)
 ·rintro C R X ⟨c,rfl,x⟩;refine⟨rfl,?_⟩;have p:0<=c / 10 % 4/\c / 10 % 4<4:=by lia
  have o:0<=c / 400 % 5/\c / 400 % 5<5:=by lia
  have u:∀v∈([1,3,7,9]:ZY),1<=v/\v<=9/\(v=1\/v=3\/v=7\/v=9):=by decide
  have g:∀i:Int,0<=i->i<5->∃d e:Int,atI [D.int 1000,.int 3,.int 1,.int 2,.int 3] i=some (.int d)/\atI [D.int 1,.int 1,.int 1,.int 1,.int 998] i=some (.int e)/\(1<=d/\d<=1000)/\1<=e/\e+d<=1001:=λi a b=>by
   have:i=0\/i=1\/i=2\/i=3\/i=4:=by lia
   rcases this with rfl|rfl|rfl|rfl|rfl
   ·exact⟨1000,1,rfl,rfl,by decide,by decide,by decide⟩
   ·exact⟨3,1,rfl,rfl,by decide,by decide,by decide⟩
   ·exact⟨1,1,rfl,rfl,by decide,by decide,by decide⟩
   ·exact⟨2,1,rfl,rfl,by decide,by decide,by decide⟩
   ·exact⟨3,998,rfl,rfl,by decide,by decide,by decide⟩
  obtain⟨d,e,z,y,s,r⟩:=g _ o.1 o.2;have h:=u _ (Qd (l:=([1,3,7,9]:ZY)) (n:=(c / 10 % 4).toNat)<|by show(c / 10 % 4).toNat<4;lia);refine⟨by simp,⟨by decide,by decide⟩,(by show(0:Int)<5;decide),_,z,by simp,⟨by decide,by decide⟩,(by show(0:Int)<5;decide),_,y,(by show(0:Int)<10;decide),by simp,⟨by decide,by decide⟩,(by show(0:Int)<4;decide),_,KY (f:=D.int) (xs:=[1,3,7,9]) p.1 p.2,⟨by decide,by decide⟩,(by show(0:Int)<10;decide),by simp,?_⟩;exact x [_,_,_,_,_] ⟨_,_,_,_,_,rfl,by lia,h,by lia,s,r⟩
def Zkd(h:Def K mg "_law_holder" ER ["_law_menu_here","_law_k"])
  : Hy ζ:=by
 refine h.fz Zmz (λl n=>(b1<|sR<|xo X6 X8 xi<|xo XB XA (xo X6 X8 (xo Nd TZ (xv 1)<|xx (xv 0) xi)<|xx (xv 0) xi) xi)) (.a ?_)
 ·rintro v R X ⟨m,k,rfl,g,f⟩;refine⟨rfl,?_⟩;obtain⟨a,b,c,d,e,rfl,u,s,r,p,o⟩:=g;exact⟨_,rfl,.inr ⟨by lia,by lia⟩,_,rfl,(by show(0:Int)<10;decide),f _ (by lia) (by lia) rfl⟩
def Zco(o:Def K mg "_law_present" EH ["_law_strips"])
  : Hz ζ:=by
 refine o.fz Zbu (λh n=>(bc (sS 1 n<|xC ["_law_strip"] [none] (jL<|xv 0) (gN 0) f0<|xx (xv 0) xi)<|b1<|sR<|xC ["_law_holder_here","_law_owners"] [none,some 1] (jI<|iR G.Zf<|a2 xi xi) (gN 0) (f1<|ti h (xv 0)<|xv 1)<|xv 0)) (.a ?_)
 ·rintro s R X ⟨f,rfl,p,l⟩;refine⟨rfl,?_⟩;refine Kd (xs:=f) (emb:=prD) (λq=>some (.int q.1)) (by lia) (λq hq=>⟨_,rfl,_,rfl,rfl⟩) ?_;rw[Td (λq:Int×Int=>D.int q.1),show f.map (λq:Int×Int=>D.int q.1)=(f.map (·.1)).map D.int by rw[Qy];rfl];refine⟨⟨by decide,by decide,by decide,by decide⟩,Ea (n:=10) (λi=>if decide ((1:Int)+(i:Int)∈f.map (·.1))=true then some (.int (1+(i:Int)))else none) (by decide) (λi r=>?_) ?_⟩
  ·exact⟨_,.li _ _,Xi (λg=>⟨_,rfl,WQ g⟩) (λg=>WO g)⟩
  rw[Pd (λi:Nat=>decide ((1:Int)+(i:Int)∈f.map (·.1)))]
  have e:((List.range 10).filter λi:Nat=>decide ((1:Int)+(i:Int)∈f.map (·.1))).map (λi:Nat=>D.int (1+(i:Int)))=(Xj f).map D.int:=by
   unfold Xj;rw[Zcu,List.filter_map,Qy];rfl
  rw[e];exact l
def Zku(T:Def K mg "_law_price" AH ["_law_strips","_law_order"])
  : RJ ζ:=by
 refine T.fz Zly (λY n=>(bc (sC 2 ["_law_strip","_law_order"] [none,some 1] n (jL<|xv 0) (gN 0) f0<|xe (Bf (K:=K) Ql Vu VD (FV (K:=K)) (pv 1)<|az<|jx K (pv 0) Xp)<|Fe (Xe 1)<|sz<|XG (Xe 0) Xm)<|bc (sS 3 n xi)<|bc (sO [4,5] Qg (ir G.Zf<|a1<|xl G.len<|xv 0) (gN 4)<|b1<|sO [5] Qg (ir G.Zf<|a1<|xv 4) (gN 5)<|b1<|sI (tc KC KE (xx (xv 2)<|xv 5)<|xx (xv 2)<|xv 4) (b1<|sS 3 n<|xo X6 X8 (xv 3)<|xo Nd TZ (xx (xx (xv 0)<|xv 5) xi)<|xx (xx (xv 0)<|xv 4) xi) b0)<|b1<|sV 3)) (.a ?_)
 ·rintro ds R X ⟨h,os,rfl,C,U,u,M⟩;refine⟨rfl,?_⟩;have J:(h.map prD).length=h.length:=WI ..;refine Kd (xs:=h) (emb:=prD) (λq=>some (.int (os.idxOf q.1:Nat))) (by lia) (λq hq=>⟨⟨_,rfl⟩,_,rfl,os,rfl,u q hq,_,rfl,rfl⟩) ?_;rw[Td (λq:Int×Int=>D.int (os.idxOf q.1:Nat)),show h.map (λq:Int×Int=>D.int (os.idxOf q.1:Nat))=(h.map λq:Int×Int=>((os.idxOf q.1:Nat):Int)).map D.int by rw[Qy];rfl];generalize y:(h.map λq:Int×Int=>((os.idxOf q.1:Nat):Int))=s
  have A:∀(j:Nat) (r:j<h.length),atI (s.map D.int) (0+(j:Int))=some (.int (os.idxOf h[j].1:Nat)):=λj r=>by
   rw[show(0:Int)+(j:Int)=(j:Int) by lia,←y];exact PX (f:=D.int) (NG<|by rw[WY,WJ r];rfl)
  have B:∀(j:Nat) (r:j<h.length),atI (h.map prD) (0+(j:Int))=some (prD h[j]):=λj r=>by
   rw[show(0:Int)+(j:Int)=(j:Int) by lia];exact PX (f:=prD) (NG<|WJ r)
  refine⟨⟨by lia,by lia⟩,PZ (λk l=>l=[some (.bor<|.lst<|h.map prD),some (.bor<|.lst<|os.map D.int),some (.own<|s.map D.int),some (.sh<|.int<|Te h os k),none,none]) rfl ?_ ?_⟩
  ·rintro k l L rfl
   have o:k<h.length:=by
    have:k<(((h.map prD).length:Nat):Int).toNat:=L
    lia
   have v:h.getD k (0,0)=h[k]:=by rw[WU,WJ o];rfl
   have Q:Te h os (k+1)=Te h os k+rsM h os h[k].1 k*h[k].2:=by simp only[Te];rw[v]
   have E:=C h[k] (Qd o);refine⟨⟨by lia,by lia⟩,PZ (λj l=>l=[some (.bor<|.lst<|h.map prD),some (.bor<|.lst<|os.map D.int),some (.own<|s.map D.int),some (.sh<|.int (Te h os k+rsM h os h[k].1 j*h[k].2)),some (.sh<|.int (0+(k:Int))),none]) ?_ ?_ ?_⟩
   ·rw[show rsM h os h[k].1 0=0 from rfl,Int.zero_mul,Jc]
    rfl
   ·rintro j l r rfl
    have p:j<h.length:=by
     have:j<((0:Int)+(k:Int)).toNat:=r
     lia
    have x:h.getD j (0,0)=h[j]:=by rw[WU,WJ p];rfl
    have H:=C h[j] (Qd p);have step:rsM h os h[k].1 (j+1)=rsM h os h[k].1 j+(if os.idxOf h[k].1<os.idxOf h[j].1 then h[j].2 else 0):=by simp only[rsM];rw[x]
    refine⟨_,A j p,_,A k o,Xi (λg=>?_) (λg=>?_)⟩
    ·have N:((os.idxOf h[k].1:Nat):Int)<((os.idxOf h[j].1:Nat):Int):=WM g;refine⟨_,B j p,_,rfl,_,B k o,_,rfl,.inl ⟨by show -(2 ^ 64)<h[j].2;lia,by show h[j].2<2 ^ 64;lia⟩,?_⟩;rw[step,WQ (by lia),Int.add_mul,←Int.add_assoc];rfl
    ·have N:¬((os.idxOf h[k].1:Nat):Int)<((os.idxOf h[j].1:Nat):Int):=λz=>g (WL z);rw[step,WO (by lia),Jc];rfl
   ·rintro l rfl;rw[show((0:Int)+(k:Int)).toNat=k by lia,←Q];rfl
  ·rintro l rfl;rw[show(((h.map prD).length:Nat):Int).toNat=h.length by lia];exact M
def Zqy(C:Def K mg "_law_kept" Eg ["_law_order","_law_wishes"])
  : GH ζ:=by
 refine C.fz Zi6 (λA n=>(bc (sF 1<|sO [2,3] Qg (iL<|xv 1) (gT 2<|gc (gN 2)<|gc (gN 3) g0)<|b1<|sI (tp<|wa (ti A (xv 2)<|xv 0)<|wa (ti A (xv 3)<|xv 0)<|wA<|tc KC KE (xe (Bf (K:=K) Ql Vu VD (FV (K:=K)) (pv 0)<|az<|pv 2)<|Fe (Xe 0)<|sz<|Xe 2)<|xe (Bf (K:=K) Ql Vu VD (FV (K:=K)) (pv 0)<|az<|pv 3)<|Fe (Xe 0)<|sz<|Xe 3) (b1<|sR xb) b0)<|b1<|sR xb)) (.a ?_)
 ·rintro E R X ⟨os,o,rfl,s,r⟩;refine⟨rfl,rfl,K6 (xs:=o) (emb:=prD) (λi l=>l=[some (.bor<|.lst<|os.map D.int),some (.bor<|.lst<|o.map prD),none,none]/\∀q∈o.take i,Pi os q=false) ⟨rfl,by simp⟩ ?_ ?_⟩
  ·rintro i B l ⟨rfl,p⟩;have hq:=Qd B
   have next:Pi os o[i]=false->∀q∈o.take (i+1),Pi os q=false:=λh q hq=>by
    rw[Qp B,Qi,WN]at hq;rcases hq with hq|hq
    ·exact p q hq
    ·rw[hq];exact h
   generalize o[i]=q at hq next ⊢;refine⟨rfl,_,.li _ _,Xi (λy=>⟨_,.li _ _,Xi (λx=>?_) (λx=>?_)⟩) (λy=>?_)⟩
   ·have g:decide (q.1∈os)=true:=y;have f:decide (q.2∈os)=true:=x;refine⟨⟨_,rfl⟩,os,rfl,WM g,⟨_,rfl⟩,os,rfl,WM f,?_⟩;refine Xi (λv=>?_) (λv=>?_)
    ·have u:=WM v;refine r ⟨q,hq,?_⟩;unfold Pi;rw[g,f,WL (by lia)];rfl
    ·have u:¬((os.idxOf q.2:Nat):Int)<((os.idxOf q.1:Nat):Int):=λz=>v (WL z);refine⟨rfl,next ?_⟩;unfold Pi;rw[g,f,Q3 (by lia)];rfl
   ·refine XI ⟨rfl,next ?_⟩;have f:decide (q.2∈os)=false:=Vp.mpr x;unfold Pi;rw[f,Jd,Bool.and_false]
   ·refine XI ⟨rfl,next ?_⟩;have g:decide (q.1∈os)=false:=Vp.mpr y;unfold Pi;rw[g,Jd]
  ·rintro l ⟨rfl,p⟩;rw[QL]at p;exact s p
def Zqs(H:Def K mg "_law_orders" E3 ["_law_holders"])
  : Rn ζ:=by
 refine H.fz Zg9 (λo n=>(bc (sS 1 n<|xL<|a1<|xL a0)<|bc (sF 1<|sF 0<|sO [2,3,4] Qg (iL<|xv 0) (gN 2)<|bc (sS 3 n<|xL a0)<|bc (sF 1<|sO [4] Qg (iL<|xv 1) (gN 4)<|b1<|se (Kt<|NN Ql PySem.F.slot_list_extend PySem.F.type_list_extend OL (pv 3)<|az<|cz ["_law_holder_here","_law_row_here"] [none,some 4] (Tr (K:=K)<|pv 0) ⟨(gk 0),(By<|P5 (LY (K:=K)<|show _<cLine from Kv (o ())) (pv 0) (pv 1)<|by with_unfolding_all rfl),(Nr KF (pv 1)<|P8<|az<|pv 0)⟩)<|Gh 3<|PP (Ni<|Xe 0) (Kq 0) (Pa<|SW (Xe 0)<|Xe 1)<|KD (Xe 1)<|PJ<|sz<|Xe 0)<|b1<|sF 3<|sS 1 n<|xv 3)<|b1<|sV 1)) (.a ?_)
 ·rintro L R X ⟨hs,rfl,p,s,C⟩;refine⟨rfl,?_⟩;have E:∀k,(XH hs k).length<=3628800:=λk=>WV (As p s k) (MP k);refine⟨by simp,by simp,?_⟩;refine⟨rfl,K6 (xs:=hs) (emb:=D.int) (λi f=>f=[some (.bor<|.lst<|hs.map D.int),some (.sh<|.lst ((XH hs i).map ilD)),none,none,none]) rfl ?_ ?_⟩
  ·rintro i J f rfl;have o:=E i;refine⟨by simp,?_⟩;refine⟨rfl,K6 (xs:=XH hs i) (emb:=ilD) (λj f=>∃t,f=[some (.bor<|.lst<|hs.map D.int),some (.sh<|.lst ((XH hs i).map ilD)),t,some (.own ((((XH hs i).take j).flatMap (nextM hs)).map ilD)),none]) ⟨_,rfl⟩ ?_ ?_⟩
   ·rintro j A f ⟨t,rfl⟩;have B:=Zml (hs:=hs) A;have z:=AM p s ((XH hs i).take j) λr o=>rows_mem.mp (Vk o)
    have u:((XH hs i).take (j+1)).length*(10-i)<=3628800:=by
     refine WV (J9 _<|WV (by rw[Q5];lia)<|As p s i) (MP (i+1))
    have y:((XH hs i).take (j+1)).length=j+1:=by rw[Q5];lia
    have l:((XH hs i).take j).length=j:=by rw[Q5];lia
    rw[y,JI]at u;rw[l]at z;have x:=HX hs (XH hs i)[j]
    have v:(XH hs i)[j].length<=10:=by
     have:=(rows_mem.mp<|Qd A).1
     lia
    generalize (XH hs i)[j]=r at B x v ⊢;refine Kd (xs:=hs) (emb:=D.int) (λh=>if (!decide (h∈r))=true then some (D.lst (r.map D.int++[D.int h]))else none) (by lia) (λh _=>?_) ?_
    ·refine⟨_,.li _ _,Xi (λg=>⟨by simp,rfl,rfl,?_,_,rfl,WQ g⟩) (λg=>WO g)⟩;show(r.map D.int).length+1<=100000;rw[WI];lia
    ·rw[Pd (λh=>!decide (h∈r)),Zbe];refine⟨?_,t,?_⟩
     ·rw[WI,WI];lia
     ·rw[B,Qb];rfl
   ·rintro f ⟨t,rfl⟩;rw[QL];rfl
  ·rintro f rfl;exact C
def Zf4(C:Def K mg "_law_no_ring" EA ["_law_holders","_law_wishes"])
  : IW ζ:=by
 refine C.fz Zjo (λu n=>(bc (sS 2 n<|xe (KU (Th (K:=K)) (by rfl) G.Zg boot_list<|az<|pv 0)<|Ta<|sz<|Xe 0)<|bc (sF 0<|sO [3,4,5] Qg (iL<|xv 0) (gN 3)<|bc (sC 4 ["_law_pair_here","_law_left"] [none,some 2] n (jL<|xv 1) (gN 0) (f1<|tp<|wa (ti u (xx (xv 0) xi)<|xv 1)<|wA<|ti u (xx (xv 0) xi)<|xv 1)<|xv 0)<|bc (sS 5 n<|xC ["_law_pair_here"] [none] (jL<|xv 4) (gN 0) f0<|xx (xv 0) xi)<|b1<|sS 2 n<|xC ["_law_holder_here","_law_behind"] [none,some 5] (jL<|xv 2) (gN 0) (f1<|ti u (xv 0)<|xv 1)<|xv 0)<|b1<|sR<|xe (Nc (Fh (K:=K)<|show _<cLine from(u ()).units0) (pv 2) (P8 Ky)<|KZ _)<|SO (Xe 2)<|PJ Xw)) (.a ?_)
 ·rintro L R X ⟨o,f,rfl,A,hw,B⟩;refine⟨rfl,Pt _,rfl,K6 (xs:=o) (emb:=D.int) (λi p=>p=[some (.bor<|.lst<|o.map D.int),some (.bor<|.lst<|f.map prD),some (.own ((XJ f o i).map D.int)),none,none,none]/\(XJ f o i).length<=50) ⟨rfl,A⟩ ?_ ?_⟩
  ·rintro i H p ⟨rfl,v⟩;generalize e:XJ f o i=l at v;have z:XJ f o (i+1)=P4 f l:=Q4 (P4 f) e;have E:(Nm f l).length<=50:=WV (Qw _ _) hw;refine Kd (xs:=f) (emb:=prD) (λq=>if (decide (q.1∈l)&&decide (q.2∈l))=true then some (prD q)else none) (by lia) (λq hq=>?_) ?_
   ·refine⟨_,rfl,_,.li _ _,Xi (λy=>⟨_,rfl,_,.li _ _,Xi (λx=>⟨_,rfl,WQ ?_⟩) (λx=>WO ?_)⟩) (λy=>XI (WO ?_))⟩
    ·have s:decide (q.1∈l)=true:=y;have r:decide (q.2∈l)=true:=x;rw[s,r];rfl
    ·have r:decide (q.2∈l)=false:=Vp.mpr x;rw[r,Bool.and_false];exact Qk
    ·have s:decide (q.1∈l)=false:=Vp.mpr y;rw[s,Jd];exact Qk
   rw[Pd (λq:Int×Int=>decide (q.1∈l)&&decide (q.2∈l))];show _;refine Kd (xs:=Nm f l) (emb:=prD) (λq=>some (.int q.2)) (by lia) (λq hq=>⟨_,rfl,_,rfl,rfl⟩) ?_;rw[Td (λq:Int×Int=>D.int q.2),show(Nm f l).map (λq:Int×Int=>D.int q.2)=((Nm f l).map (·.2)).map D.int by rw[Qy];rfl];refine Kd (xs:=l) (emb:=D.int) (λh=>if decide (h∈(Nm f l).map (·.2))=true then some (.int h)else none) (by lia) (λh J=>?_) ?_
   ·exact⟨_,.li _ _,Xi (λg=>⟨_,rfl,WQ g⟩) (λg=>WO g)⟩
   rw[Pd (λh:Int=>decide (h∈(Nm f l).map (·.2)))];exact⟨by rw[z];rfl,by rw[z];exact WV (Qw _ _) v⟩
  ·rintro p ⟨rfl,v⟩;refine⟨QD _,?_⟩;have e:((XJ f o o.length).map D.int).isEmpty=decide (XJ f o o.length=[]):=by cases XJ f o o.length<;>simp
   show R (.sh (.bl ((XJ f o o.length).map D.int).isEmpty));rw[e];exact B
def Zov(M:Def K mg "_law_field_step" Cb ["_law_strips","_law_deed_here"])
  : O2 ζ:=by
 refine M.fz Zi9 (λA n=>(bc (sS 2 n<|xx (xv 1) xi)<|bc (sI (tp<|wo (tc KJ KI (xv 2) xi)<|wO<|tc KC KE (xv 2)<|xo Kg Kb (xl G.len<|xv 0)<|xe (KU Zn6 (by rfl) G.ZQ boot_int<|az<|Nc (Sg (K:=K)<|show _<cLine from(A ()).units0) (jx K (pv 1) Xp) Nq<|KZ _)<|Zrp<|sz<|NL (XG (Xe 1) Xm) Nb) (b1<|sF 0<|sR<|xL<|a2 xi<|xv 0) b0)<|bc (sS 3 n<|xx (xx (xv 0)<|xo Kg Kb (xv 2) xi) xi)<|bc (sS 4 n<|xx (xx (xv 0)<|xo Kg Kb (xv 2) xi) xi)<|bc (sI (tq A (xx (xv 1) xi) xs) (bc (sI (tp<|wo (tc KJ KI (xx (xv 1) xi) xi)<|wO<|tc KC KE (xx (xv 1) xi) xi) (b1<|sF 0<|sR<|xL<|a2 xi<|xv 0) b0)<|bc (sI (tq A (xx (xv 1) xi)<|xv 3) (b1<|sF 0<|sR<|xL<|a2 xi<|xv 0) b0)<|b1<|sR<|xL<|a2 xi<|xo KF KD (xo KF KD (xp (xv 0) o0<|o1<|xo Kg Kb (xv 2) xi)<|xL<|a1<|xt<|a2 (xx (xv 1) xi)<|xv 4)<|xp (xv 0) (o1<|xv 2) o0) b0)<|bc (sI (tq A (xx (xv 1) xi) xs) (bc (sI (tp<|wo (tc KJ KI (xx (xv 1) xi) xi)<|wO<|tc Si Sl (xx (xv 1) xi)<|xv 4) (b1<|sF 0<|sR<|xL<|a2 xi<|xv 0) b0)<|bc (sI (tq A (xl G.len<|xv 0) xi) (b1<|sF 0<|sR<|xL<|a2 xi<|xv 0) b0)<|bc (sS 5 n<|xL<|a2 (xt<|a2 (xv 3)<|xx (xv 1) xi)<|xt<|a2 (xv 3)<|xo Kg Kb (xv 4)<|xx (xv 1) xi)<|b1<|sR<|xL<|a2 xi<|xo KF KD (xo KF KD (xp (xv 0) o0<|o1<|xo Kg Kb (xv 2) xi)<|xv 5)<|xp (xv 0) (o1<|xv 2) o0) b0)<|bc (sI (tn A (xx (xx (xv 0)<|xv 2) xi)<|xv 3) (b1<|sF 0<|sR<|xL<|a2 xi<|xv 0) b0)<|bc (sI (tc KC KE (xo X6 X8 (xv 4)<|xx (xx (xv 0)<|xv 2) xi) xi) (b1<|sF 0<|sR<|xL<|a2 xi<|xv 0) b0)<|b1<|sR<|xL<|a2 xi<|xo KF KD (xo KF KD (xp (xv 0) o0<|o1<|xo Kg Kb (xv 2) xi)<|xL<|a1<|xt<|a2 (xv 3)<|xo X6 X8 (xv 4)<|xx (xx (xv 0)<|xv 2) xi)<|xp (xv 0) (o1<|xo X6 X8 (xv 2) xi) o0)) (.b ?_)
 ·rintro T R X ⟨f,x,rfl,hx,N,l⟩;refine⟨rfl,?_⟩;have Q:(f.map prD).length=f.length:=WI ..;have y:∀p:Int,(cutD (f.map prD) none<|some (p-1)).length<=1000:=λp=>by have:=(Tp (f.map prD) none<|some (p-1)).length_le;rw[WI]at this;lia
  have C:∀p:Int,(cutD (f.map prD) (some p) none).length<=1000:=λp=>by have:=(Tp (f.map prD) (some p) none).length_le;rw[WI]at this;lia
  cases x with
  |wish a b=>cases hx
  |drop a b=>cases hx
  |sell p h=>
   have l:R (.own [.int (codeN<|KN f p h),plD (if KN f p h=none then TB f p h else f)]):=l
   have no:∀c:Str,KN f p h=some c->R (.own [.int (codeN<|some c),plD f]):=λc e=>by
    rw[e,WO (by intro z;cases z)]at l;exact l
   unfold KN at no l
   have one:(p<1\/(f.length:Int)<p)->R (.own [.int 1,plD f]):=λz=>by
    rw[←CD];exact no _ (WQ z)
   refine⟨_,rfl,Xi (λg=>Kp ?_) (λg=>⟨_,rfl,Xi (λu=>?_) (λu=>?_)⟩)⟩
   ·exact⟨by simp,one (.inl<|WM g)⟩
   ·have o:(((f.map prD).length:Nat):Int)-0<p:=WM u;exact⟨by simp,one (.inr<|by lia)⟩
   ·have H:¬p<1:=λz=>g (WL z);have E:¬(((f.map prD).length:Nat):Int)-0<p:=λz=>u (WL z);rw[WO (by lia)]at no l;have a1:=TH (ps:=f) (p:=p) (by lia) (by lia);refine⟨_,a1,_,rfl,_,a1,_,rfl,_,rfl,?_⟩;refine⟨_,rfl,Xi (λr=>Kp ?_) (λr=>⟨_,rfl,Xi (λs=>?_) (λs=>?_)⟩)⟩
    ·have o:h<1:=WM r
     have:=no _ (WQ<|by lia)
     rw[Ab]at this;exact⟨by simp,this⟩
    ·have o:10<h:=WM s
     have:=no _ (WQ<|by lia)
     rw[Ab]at this;exact⟨by simp,this⟩
    ·have L:¬h<1:=λz=>r (WL z);have J:¬10<h:=λz=>s (WL z);rw[WO (QZ.mpr ⟨by lia,by lia⟩)]at no l;refine⟨_,rfl,Xi (λv=>?_) (λv=>?_)⟩
     ·have o:h=(Xt f p).1:=WM v
      have:=no _ (WQ o.symm)
      rw[IT]at this;exact⟨by simp,this⟩
     ·have o:¬h=(Xt f p).1:=λz=>v (WL z);rw[WO (λz=>o z.symm),WQ rfl]at l;have e:=IA (ps:=f) (p:=p) (x:=(h,(Xt f p).2)) (by lia) (by lia);refine⟨rfl,_,rfl,by simp,by simp,rfl,rfl,WV (Qu (y p)<|WT 1) (by decide),rfl,rfl,rfl,WV (Qu (by rw[WW];exact Qu (y p) (WT 1))<|C p) (by decide),by simp,?_⟩;have B:plD (TB f p h)=.lst (cutD (f.map prD) none (some (p-1))++[prD (h,(Xt f p).2)]++cutD (f.map prD) (some p) none):=Q4 D.lst e.symm;rw[B]at l;exact l
  |part p w=>
   have l:R (.own [.int (codeN<|Kn f p w),plD (if Kn f p w=none then PR f p w else f)]):=l
   have no:∀c:Str,Kn f p w=some c->R (.own [.int (codeN<|some c),plD f]):=λc e=>by
    rw[e,WO (by intro z;cases z)]at l;exact l
   unfold Kn at no l
   have one:(p<1\/(f.length:Int)<p)->R (.own [.int 1,plD f]):=λz=>by
    rw[←CD];exact no _ (WQ z)
   refine⟨_,rfl,Xi (λg=>Kp ?_) (λg=>⟨_,rfl,Xi (λu=>?_) (λu=>?_)⟩)⟩
   ·exact⟨by simp,one (.inl<|WM g)⟩
   ·have o:(((f.map prD).length:Nat):Int)-0<p:=WM u;exact⟨by simp,one (.inr<|by lia)⟩
   ·have H:¬p<1:=λz=>g (WL z);have E:¬(((f.map prD).length:Nat):Int)-0<p:=λz=>u (WL z);rw[WO (by lia)]at no l;have a1:=TH (ps:=f) (p:=p) (by lia) (by lia);refine⟨_,a1,_,rfl,_,a1,_,rfl,_,rfl,_,rfl,?_⟩;refine⟨_,rfl,Xi (λr=>Kp ?_) (λr=>⟨_,rfl,Xi (λs=>?_) (λs=>?_)⟩)⟩
    ·have:=no _ (WQ<|.inl<|WM r)
     rw[Cp]at this;exact⟨by simp,this⟩
    ·have:=no _ (WQ<|.inr<|WM s)
     rw[Cp]at this;exact⟨by simp,this⟩
    ·have L:¬w<1:=λz=>r (WL z);have J:¬(Xt f p).2<=w:=λz=>s (WL z);rw[WO (by lia)]at no l;refine Xi (λv=>?_) (λv=>?_)
     ·have o:(((f.map prD).length:Nat):Int)=40:=WM v
      have:=no _ (WQ<|by lia)
      rw[Mh]at this;exact⟨by simp,this⟩
     ·have o:¬(((f.map prD).length:Nat):Int)=40:=λz=>v (WL z);rw[WO (by lia),WQ rfl]at l;refine⟨_,rfl,by simp,_,rfl,by simp,by simp,?_⟩;refine⟨rfl,rfl,rfl,WV (Qu (y p)<|WT 2) (by decide),rfl,rfl,rfl,WV (Qu (by rw[WW];exact Qu (y p) (WT 2))<|C p) (by decide),by simp,?_⟩;have B:plD (PR f p w)=.lst (cutD (f.map prD) none (some (p-1))++[prD ((Xt f p).1,w),prD ((Xt f p).1,(Xt f p).2-w)]++cutD (f.map prD) (some p) none):=Q4 D.lst (Ra<|by lia).symm;rw[B]at l;exact l
  |unite p=>
   have l:R (.own [.int (codeN<|XZ f p),plD (if XZ f p=none then PD f p else f)]):=l
   have no:∀c:Str,XZ f p=some c->R (.own [.int (codeN<|some c),plD f]):=λc e=>by
    rw[e,WO (by intro z;cases z)]at l;exact l
   unfold XZ at no l
   have one:(p<1\/(f.length:Int)<=p)->R (.own [.int 1,plD f]):=λz=>by
    rw[←CD];exact no _ (WQ z)
   refine⟨_,rfl,Xi (λg=>Kp ?_) (λg=>⟨_,rfl,Xi (λu=>?_) (λu=>?_)⟩)⟩
   ·exact⟨by simp,one (.inl<|WM g)⟩
   ·have o:(((f.map prD).length:Nat):Int)-1<p:=WM u;exact⟨by simp,one (.inr<|by lia)⟩
   ·have H:¬p<1:=λz=>g (WL z);have E:¬(((f.map prD).length:Nat):Int)-1<p:=λz=>u (WL z);rw[WO (by lia)]at no l;have a1:=TH (ps:=f) (p:=p) (by lia) (by lia);have a2:=Zll (ps:=f) (p:=p) (by lia) (by lia);refine⟨_,a1,_,rfl,_,a1,_,rfl,_,rfl,_,rfl,?_⟩;refine⟨_,a2,_,rfl,Xi (λr=>?_) (λr=>?_)⟩
    ·have o:¬(Xt f (p+1)).1=(Xt f p).1:=λz=>by rw[WL z]at r;cases r
     have:=no _ (WQ (λz=>o z.symm))
     rw[HU]at this;exact⟨by simp,this⟩
    ·have o:(Xt f (p+1)).1=(Xt f p).1:=Qt λz=>r (by rw[Q3 z];rfl);rw[WO (QZ.mpr o.symm)]at no l;refine⟨_,a2,_,rfl,Xi (λs=>?_) (λs=>?_)⟩
     ·have:=no _ (WQ<|WM s)
      rw[M3]at this;exact⟨by simp,this⟩
     ·rw[WO (λz=>s (WL z)),WQ rfl]at l;refine⟨rfl,_,a2,_,rfl,by simp,by simp,rfl,rfl,WV (Qu (y p)<|WT 1) (by decide),rfl,rfl,rfl,WV (Qu (by rw[WW];exact Qu (y p) (WT 1))<|C (p+1)) (by decide),by simp,?_⟩;have B:plD (PD f p)=.lst (cutD (f.map prD) none (some (p-1))++[prD ((Xt f p).1,(Xt f p).2+(Xt f (p+1)).2)]++cutD (f.map prD) (some (p+1)) none):=Q4 D.lst (Io<|by lia).symm;rw[B]at l;exact l
def Zd7(Q:Def K mg "_law_wish_step" Eb ["_law_wishes","_law_deed_here"])
  : Oa ζ:=by
 refine Q.fz Zr8 (λo n=>(bc (sS 2 n<|xt<|a2 (xx (xv 1) xi)<|xx (xv 1) xi)<|bc (sI (tq o (xx (xv 1) xi) xs) (bc (sI (tI o (xv 2)<|xv 0) (b1<|sF 0<|sR<|xL<|a2 xi<|xv 0) b0)<|b1<|sR<|xL<|a2 xi<|xC ["_law_one","_law_pair_here"] [none,some 2] (jL<|xv 0) (gN 0) (f1<|te (P5 (Gq (K:=K)<|show _<cLine from(o ()).units0) (pv 0) (pv 1)<|KZ _)<|Pa<|OI (Xe 0)<|Xe 1)<|xv 0) b0)<|bc (sI (tp<|wo (tc KJ KI (xe (Ki (Zc8 (K:=K) rfl) (by rfl) G.ZR boot_min<|az<|pv 2)<|Zl3<|sz<|Xe 2) xi)<|wO<|tc KC KE (xe (Ki (Zfi (K:=K) rfl) (by rfl) G.ZG boot_max<|az<|pv 2)<|Zds<|sz<|Xe 2) xi) (b1<|sF 0<|sR<|xL<|a2 xi<|xv 0) b0)<|bc (sI (tq o (xx (xv 1) xi)<|xx (xv 1) xi) (b1<|sF 0<|sR<|xL<|a2 xi<|xv 0) b0)<|bc (sI (ti o (xv 2)<|xv 0) (b1<|sF 0<|sR<|xL<|a2 xi<|xv 0) b0)<|bc (sI (tq o (xl G.len<|xv 0) xi) (b1<|sF 0<|sR<|xL<|a2 xi<|xv 0) b0)<|b1<|sF 2<|sR<|xL<|a2 xi<|xo KF KD (xv 0)<|xL<|a1<|xv 2)) (.b ?_)
 ·rintro ds R X ⟨w,x,rfl,hx,hz,f⟩;refine⟨rfl,?_⟩;have L:(w.map prD).length=w.length:=WI ..;cases x with
  |sell p h=>cases hx
  |part p h=>cases hx
  |unite p=>cases hx
  |drop a b=>
   refine⟨_,rfl,_,rfl,by simp,_,rfl,?_⟩;show ∃c,InR (prD (a,b)) (plD w) c/\_;have f:R (.own [.int (codeN<|Kh w a b),plD (if Kh w a b=none then To w a b else w)]):=f;refine⟨_,.lp (a,b) w,Xi (λg=>?_) (λg=>?_)⟩
   ·have l:¬(a,b)∈w:=λz=>by rw[WQ rfl,WL z]at g;cases g
    have e:Kh w a b=some ("NoWish" : Str):=WO l;rw[e,Gj,WO (by intro z;cases z)]at f;exact⟨by simp,f⟩
   ·have l:(a,b)∈w:=Qt λz=>g (by rw[WQ rfl,Q3 z];rfl);have e:Kh w a b=none:=WQ l;rw[e,WQ rfl]at f;refine Kd (xs:=w) (emb:=prD) (λq=>if (!decide (q=(a,b)))=true then some (prD q)else none) (by omega) (λq hq=>?_) ?_
    ·refine⟨[q.1,q.2],[a,b],rfl,rfl,?_⟩;have e:decide ([q.1,q.2]=[a,b])=decide (q=(a,b)):=Zit q (a,b);show if (!decide ([q.1,q.2]=[a,b]))=true then _ else _;rw[e];exact Xi (λh=>⟨_,rfl,WQ h⟩) (λh=>WO h)
    ·rw[Pd (λq:Int×Int=>!decide (q=(a,b)))];exact⟨by simp,f⟩
  |wish a b=>
   refine⟨_,rfl,_,rfl,by simp,_,rfl,?_⟩;have f:R (.own [.int (codeN<|Ke w a b),plD (if Ke w a b=none then w++[(a,b)]else w)]):=f
   have no:∀c:Str,Ke w a b=some c->R (.own [.int (codeN<|some c),plD w]):=λc e=>by
    rw[e,WO (by intro z;cases z)]at f;exact f
   have s:¬((1<=a/\a<=10)/\(1<=b/\b<=10))->R (.own [.int 2,plD w]):=λz=>by
    rw[←Ab];refine no _ ?_;unfold Ke;by_cases r:1<=a/\a<=10
    ·rw[WO (QZ.mpr r),WQ (λy=>z ⟨r,y⟩)]
    ·rw[WQ r]
   have J:∀x y:Int,(if y<x then y else x)<=x/\(if y<x then y else x)<=y/\((if y<x then y else x)=x\/(if y<x then y else x)=y):=λx y=>by split<;>omega
   have H:∀x y:Int,x<=(if y>x then y else x)/\y<=(if y>x then y else x)/\((if y>x then y else x)=x\/(if y>x then y else x)=y):=λx y=>by split<;>omega
   have m1:=J a b;have Y:=H a b;refine Xi (λg=>Kp ?_) (λg=>Xi (λB=>?_) (λB=>?_))
   ·have l:(if b<a then b else a)<1:=WM g;exact⟨by simp,s (by omega)⟩
   ·have l:10<(if b>a then b else a):=WM B;exact⟨by simp,s (by omega)⟩
   ·have U:¬(if b<a then b else a)<1:=λz=>g (WL z);have T:¬10<(if b>a then b else a):=λz=>B (WL z);have r:1<=a/\a<=10:=by omega
    have N:1<=b/\b<=10:=by omega
    unfold Ke at no f;rw[WO (QZ.mpr r),WO (QZ.mpr N)]at no f;refine⟨_,rfl,_,rfl,Xi (λA=>?_) (λA=>?_)⟩
    ·have:=no _ (WQ<|WM A)
     rw[HM]at this;exact⟨by simp,this⟩
    ·have E:¬a=b:=λz=>A (WL z);rw[WO E]at no f;show ∃c,InR (prD (a,b)) (plD w) c/\_;refine⟨_,.lp (a,b) w,Xi (λv=>?_) (λv=>?_)⟩
     ·have:=no _ (WQ<|WM v)
      rw[Mw]at this;exact⟨by simp,this⟩
     ·have C:¬(a,b)∈w:=λz=>v (WL z);rw[WO C]at no f;refine Xi (λu=>?_) (λu=>?_)
      ·have l:(((w.map prD).length:Nat):Int)=20:=WM u
       have:=no _ (WQ<|by omega)
       rw[L6]at this;exact⟨by simp,this⟩
      ·have l:¬(((w.map prD).length:Nat):Int)=20:=λz=>u (WL z);rw[WO (by omega),WQ rfl]at f;refine⟨by simp,rfl,rfl,WV (Qu (Vi L)<|WT 1) (by omega),by simp,?_⟩;have M:plD (w++[(a,b)])=.lst (w.map prD++[prD (a,b)]):=Q4 D.lst Qb;rw[M]at f;exact f
def Zpm(p:Def K mg "_law_odd" DF ["_law_cell","_law_good"])
  : LG ζ:=by
 refine p.fz Zhs (λo n=>(bc (sI (tq o (xo XB XA (xv 0) xi) xi) (b1<|sR<|xx (xL<|ac xi<|ac xi<|ac (xe (Kw Kx Xp)<|K0 Xm)<|ac (xo AC Av xi xi) a0)<|xo XB XA (xo Kl Km (xv 0) xi) xi) b0)<|b1<|sV 1)) (.a ?_)
 ·rintro r R X ⟨c,g,rfl,h⟩;refine⟨rfl,?_⟩;have l:0<=c / 7 % 4/\c / 7 % 4<4:=by lia
  refine⟨(by show(0:Int)<7;decide),Xi (λ_=>?_) (λ_=>h _)⟩;exact⟨⟨by decide,by decide,by decide⟩,by simp,⟨by decide,by decide⟩,(by show(0:Int)<4;decide),_,KY (f:=D.int) (xs:=[0,11,-3,10 ^ (30:Int).toNat]) l.1 l.2,h _⟩
def Zi4(u:Def K mg "_law_place" DT ["_law_cell","_law_strips"])
  : Ml ζ:=by
 refine u.fz Zbq (λp n=>(bc (sI (tq p (xo XB XA (xv 0) xi) xi) (b1<|sR<|xx (xL<|ac xi<|ac (xe (Kw Kx Xp)<|K0 Xm)<|ac (xo X6 X8 (xl G.len<|xv 1) xi)<|ac (xo AC Av xi xi) a0)<|xo XB XA (xo Kl Km (xv 0) xi) xi) b0)<|bc (sI (te (P5 (Fh (K:=K)<|show _<cLine from(p ()).units0) (pv 1) (P8 Ky)<|KZ _)<|Pa<|SO (Xe 1)<|PJ Xw) (b1<|sR xi) b0)<|b1<|sR<|xo X6 X8 xi<|xo XB XA (xo Kl Km (xv 0) xi)<|xl G.len<|xv 1)) (.a ?_)
 ·rintro y R X ⟨c,h,rfl,v,l⟩;refine⟨rfl,?_⟩;have r:0<=c / 11 % 4/\c / 11 % 4<4:=by lia
  have x:(h.map prD).length=h.length:=WI ..;refine⟨(by show(0:Int)<11;decide),Xi (λ_=>?_) (λ_=>?_)⟩
  ·exact⟨⟨by decide,by decide,by decide⟩,by simp,⟨by decide,by decide⟩,(by show(0:Int)<4;decide),_,KY (f:=D.int) (xs:=[0,-1,(((h.map prD).length:Nat):Int)+1,10 ^ (30:Int).toNat]) r.1 r.2,l _⟩
  ·refine⟨by simp,?_⟩;have o:(h.map prD).isEmpty=decide (h=[]):=by cases h<;>simp
   show if (h.map prD).isEmpty=true then _ else _;rw[o];refine Xi (λ_=>l _) (λg=>?_);have s:0<h.length:=VA.mpr λz=>g (WL z);exact⟨⟨by decide,by decide⟩,(by show 0<(((h.map prD).length:Nat):Int);lia),l _⟩
def Zcq(A:Def K mg "_law_width" Di ["_law_cell","_law_strips","_law_place_here"])
  : OT ζ:=by
 refine A.fz Zq7 (λu n=>(bc (sI (tp<|wo (tc KJ KI (xv 2) xi)<|wo (tc KC KE (xv 2)<|xl G.len<|xv 1)<|wO<|tq u (xo XB XA (xv 0) xi) xi) (b1<|sR<|xx (xL<|ac xi<|ac (xe (Kw Kx Xp)<|K0 Xm)<|ac xi<|ac xi<|ac xi<|ac xi<|ac (xo AC Av xi xi) a0)<|xo XB XA (xo Kl Km (xv 0) xi) xi) b0)<|b1<|sR<|xo XB XA (xo Kl Km (xv 0) xi)<|xo X6 X8 (xx (xx (xv 1)<|xo Kg Kb (xv 2) xi) xi) xi)) (.a ?_)
 ·rintro L R X ⟨c,ps,p,rfl,E,x,h⟩;refine⟨rfl,?_⟩;have J:(ps.map prD).length=ps.length:=WI ..;have r:0<=c / 5 % 7/\c / 5 % 7<7:=by lia
  have l:∃v:Int,atI ([0,-1,1,1000,1001,999,10 ^ (30:Int).toNat].map D.int) (c / 5 % 7)=some (.int v):=⟨_,KY (f:=D.int) (xs:=[0,-1,1,1000,1001,999,10 ^ (30:Int).toNat]) r.1 r.2⟩;obtain⟨v,o⟩:=l;refine Xi (λg=>Kp ?_) (λg=>Xi (λs=>Kp ?_) (λs=>⟨(by show(0:Int)<5;decide),Xi (λy=>?_) (λy=>?_)⟩))
  ·exact⟨⟨by decide,by decide,by decide⟩,by simp,⟨by decide,by decide⟩,(by show(0:Int)<7;decide),_,o,h _⟩
  ·exact⟨⟨by decide,by decide,by decide⟩,by simp,⟨by decide,by decide⟩,(by show(0:Int)<7;decide),_,o,h _⟩
  ·exact⟨⟨by decide,by decide,by decide⟩,by simp,⟨by decide,by decide⟩,(by show(0:Int)<7;decide),_,o,h _⟩
  ·have C:¬p<1:=λz=>g (WL z);have B:¬(((ps.map prD).length:Nat):Int)<p:=λz=>s (WL z);have H:=x _ (BG (ps:=ps) (p:=p) (by lia)<|by lia);exact⟨⟨by decide,by decide⟩,_,TH (by lia) (by lia),_,rfl,(by show 0<(Xt ps p).2+1;lia),h _⟩
def Zeb(z:Def K mg "_law_copied" D2 ["_law_rows"])
  : Ou ζ:=by
 refine z.fz Znw (λB n=>(bc (sF 0<|sO [1] Qg (iL<|xv 0) (gN 1)<|b1<|sI (tN<|tt<|xe (Ki (Tt (K:=K)) (by rfl) G.Zc Va<|bz (pv 1)<|T8 (v:=.ty "list") rfl G.Zg boot_list rfl)<|T1<|tz (Xe 1) Tu) (b1<|sR<|xL a0) b0)<|b1<|sR<|xe (cz ["_law_row_here"] [none] (Tr (K:=K)<|pv 0) ⟨(gk 0),T9,(KU (Th (K:=K)) (by rfl) G.Zg boot_list<|az<|pv 0)⟩)<|Zju (Ni<|Xe 0) (Kq 0) Nn<|Ta<|sz<|Xe 0)) (.a ?_)
 ·rintro E R X ⟨g,rfl,A,hq,r⟩;refine⟨rfl,rfl,K6 (xs:=g) (emb:=D.lst) (λi h=>h=[some (.bor<|.lst<|g.map D.lst),none]) rfl ?_ ?_⟩
  ·rintro i p h rfl;exact⟨true,.same _,XI rfl⟩
  ·rintro h rfl;refine⟨⟨by rw[WI];lia,λi=>g.getD i [],λi o=>?_,λx y u=>r x y (u.trans ?_)⟩⟩
   ·rw[WI]at o;have e:g.getD i []=g[i]:=by rw[WU,WJ o];rfl
    rw[Zrx (f:=D.lst) o];have l:=hq _ (Qd o);exact⟨rfl,l,by show S.own (O.lst _)=S.own (O.lst<|g.getD i []);rw[e],by show XF (g.getD i [])=true;rw[e];exact l⟩
   ·rw[WI];refine Jw (by simp) λi C s=>?_;rw[List.getElem_map,List.getElem_range,WU,WJ s];rfl
def Zp8(L:Def K mg "_law_spoil" Ds ["_law_rows","_law_cell"])
  : OJ ζ:=by
 refine L.fz Zax (λC n=>(b1<|sO [2] Qg (ir G.Zf<|a1<|xl G.len<|xv 0) (gN 2)<|b1<|sI (tq C (xo XB XA (xo X6 X8 (xv 1)<|xv 2) xi) xi) (b1<|se (Kt<|N7 Ql PySem.F.slot_list_clear PySem.F.type_list_clear Zfg<|jx K (pv 0)<|pv 2)<|Zjv 0<|Xe 2)<|bc (se (Kt<|NN Ql Vn Vo Sy (jx K (pv 0)<|pv 2)<|az Xp)<|Zpf 0 (Xe 2) Xm)<|b1<|se (Kt<|N7 Ql PySem.F.slot_list_reverse PySem.F.type_list_reverse Zd1<|jx K (pv 0)<|pv 2)<|Zji 0<|Xe 2)) (.c ?_)
 ·rintro o M R X ⟨x,h,c,rfl,rfl,N,E,J⟩;refine⟨rfl,?_⟩;have z:(h.map λc=>D.lst c.2).length=h.length:=WI ..;refine⟨⟨by lia,by lia⟩,PZ (λi g=>∃f:List (Addr×List D),f.map (·.1)=h.map (·.1)/\(∀c∈f,c.2.length<=100000+i)/\g=[some (.own<|.nsl x f),some (.sh<|.int c),none]) ⟨h,rfl,λc r=>E c r,rfl⟩ ?_ ?_⟩
  ·rintro i g p ⟨f,u,B,rfl⟩;have p:i<(((h.map λc=>D.lst c.2).length:Nat):Int).toNat:=p;have T:f.length=h.length:=by have:=Q4 List.length u;rwa[WI,WI]at this
   have s:i<f.length:=by lia
   have v:∀n,n=f.length->ixN n (0+(i:Int))=some i:=λn Q=>by
    unfold ixN;rw[WQ (by lia),WQ (by lia)];congr 1;lia
   have A:∀l:List D,(f.set i (f[i].1,l)).map (·.1)=h.map (·.1):=λl=>by
    rw[←u,List.map_set]
    exact Jw (by simp) λk Y U=>by
     rw[List.getElem_set];split
     ·rename_i e;subst e;rw[List.getElem_map]
     ·rfl
   have y:∀(l:List D),l.length<=100000+(i+1)->∀c∈f.set i (f[i].1,l),c.2.length<=100000+(i+1):=λl H c r=>by
    rcases List.mem_or_eq_of_mem_set r with r|rfl
    ·have:=B c r
     lia
    ·exact H
   have e2i:=B _ (Qd s);refine⟨(by show(0:Int)<2;decide),Xi (λ_=>?_) (λ_=>?_)⟩
   ·exact⟨i,_,v _ rfl,WJ s,_,A [],y [] (QD _),rfl⟩
   ·refine⟨i,_,v _ rfl,WJ s,by lia,?_⟩;refine⟨i,_,v _ (by rw[QJ]),by rw[JQ,WQ rfl,WQ s],?_⟩;exact⟨_,A _,y ((f[i].2++[D.int 7]).reverse) (by rw[VS,WW,QP];lia),by show[some (S.own<|O.nsl x ((f.set i _).set i _)),_,_]=_;rw[List.set_set]⟩
  ·rintro g ⟨f,u,_,rfl⟩;exact⟨_,rfl,⟨rfl,u⟩,J f⟩
def Zaf(y:Def K mg "check_strips" DB ["strips"])
  : Gu ζ:=by
 refine y.fy Zqh (λs n=>(bc (sI (tc KC KE (xl G.len<|xv 0)<|xe (ExcR.Pr G.Zk) Xm) (b1<|sQ G.Zi G.Zh ExcR.KM<|a1<|xe (ExcR.NK<|ExcR.PQ<|ExcR.NA (ExcR.Pr G.Zk)<|ExcR.PQ ExcR.NU)<|NF<|PK<|N1 Xm<|PK N8) b0)<|b1<|sF 0<|sO [1,2] ExcR.Ak (iL<|xv 0) (gT 2<|gc (gN 1)<|gc (gN 2) g0)<|bc (sE<|xg Yt s ExcR.XU<|a1<|xv 1)<|b1<|sE<|xg YF s ExcR.XU<|a1<|xv 2)) (.a ?_)
 ·rintro C R X ⟨f,rfl,A,l⟩;refine⟨rfl,?_⟩;have B:(f.map prD).length=f.length:=WI ..;unfold Sx at l;refine Xi (λg=>?_) (λg=>?_)
  ·have v:(40:Int)<((f.map prD).length:Int):=WM g;rw[WQ (by lia)]at l;exact⟨by decide,by decide,by decide,by decide,by decide,by simp,l⟩
  ·have v:¬(40:Int)<((f.map prD).length:Int):=λz=>g (WL z);rw[WO (by lia)]at l;refine⟨rfl,K6 (xs:=f) (emb:=prD) (λi o=>o=[some (.bor<|plD f),none,none]/\Ny (f.drop i)=Ny f) ⟨rfl,rfl⟩ ?_ ?_⟩
   ·rintro i u o ⟨rfl,h⟩;have x:f.drop i=f[i]::f.drop (i+1):=QM u;rw[x,Zhe]at h;generalize f[i]=p at h ⊢;refine⟨rfl,p.1,rfl,?_⟩;unfold Sw;by_cases c:1<=p.1/\p.1<=10
    ·rw[WO (λz=>z c)]at h;rw[WQ c];refine⟨p.2,rfl,?_⟩;unfold AS;by_cases r:1<=p.2/\p.2<=1000
     ·rw[WO (λz=>z r)]at h;rw[WQ r];exact⟨rfl,h⟩
     ·rw[WQ r]at h;rw[WO r];rw[←h]at l;exact l
    ·rw[WQ c]at h;rw[WO c];rw[←h]at l;exact l
   ·rintro o ⟨rfl,h⟩;rw[JS]at h;rw[←h]at l;exact l
def Zhi(x:Def K mg "check_order" AA ["strips","order"])
  : O6 ζ:=by
 refine x.fy Zpw (λo n=>(b1<|sI (tn o (xe (Ki (DO (K:=K) (w:=w) rfl) (by rfl) G.Zj boot_sorted<|az<|pv 1)<|AK<|sz<|Xe 1)<|xf Yo o<|a1<|xv 0) (b1<|sQ G.ZA G.Z9 ExcR.KM<|a1 xs) b0)) (.a ?_)
 ·rintro y R X ⟨ps,os,rfl,s,p,r,f⟩;refine⟨rfl,os,rfl,r,λl v u=>⟨ps,rfl,s,p,_,_,rfl,rfl,?_⟩⟩;have q:=Zeg (ps:=ps) v u;unfold PM at f;refine Xi (λg=>?_) (λg=>?_)
  ·have h:¬l=Xj ps:=λz=>by rw[WQ rfl,WL z]at g;cases g
   rw[WO (λz=>h (q.mpr z))]at f;exact⟨by simp,f⟩
  ·have h:l=Xj ps:=Qt λz=>g (by rw[WQ rfl,Q3 z];rfl);rw[WQ (q.mp h)]at f;exact f
def Zjj(DD:Def K mg "ring_from" DN ["least","holders","wishes"])
  : LR ζ:=by
 refine DD.fz Zg8 (λJ n=>(bc (sF 0<|sS 3 n<|xL<|a1<|xL<|a1<|xv 0)<|bc (sS 4 n<|xe (Ki (DO (K:=K) (w:=w) rfl) (by rfl) G.Zj boot_sorted<|az<|cz ["holder","least"] [none,some 0] (Tr (K:=K)<|pv 1) ⟨(gk 0),(By<|P5 KC (pv 0) (pv 1)<|KZ _),(pv 0)⟩)<|AK<|sz<|PP (Ni<|Xe 1) (Kq 0) (Pa<|KE (Xe 0)<|Xe 1)<|Xe 0)<|bc (sW [5,6] Qg (tt<|xv 3)<|bc (sF 0<|sC 5 ["path","wishes","least"] [none,some 2,some 0] n (jL<|xv 3) (gN 0) (f1<|ti J (xt<|a2 (xx (xv 0)<|xe (Kw Kx Xp)<|K0 Xm)<|xv 2)<|xv 1)<|xv 0)<|bc (sI (tt<|xv 5) (b1<|sr<|xx (xv 5) xi) b0)<|bc (sS 3 n<|xf YL J<|a3 (xv 3) (xv 4)<|xv 2)<|bc (sS 6 n<|xC ["path"] [none] (jL<|xv 3) (gN 0) f0<|xx (xv 0)<|xe (Kw Kx Xp)<|K0 Xm)<|b1<|sC 4 ["holder","reached"] [none,some 6] n (jL<|xv 4) (gN 0) (f1<|tI J (xv 0)<|xv 1)<|xv 0)<|b1<|sr<|xL a0)) (.a ?_)
 ·rintro ds R X ⟨l,u,C,rfl,hz,hN,hR⟩;refine⟨rfl,by simp,by simp,Kd (xs:=u) (emb:=D.int) (λh=>if decide (l<h)=true then some (.int h)else none) (by lia) (λh _=>Xi (λg=>⟨_,rfl,WQ g⟩) (λg=>WO g)) ?_⟩;rw[OU λh=>decide (l<h)];refine⟨u.filter λh=>decide (l<h),rfl,JL (Qw _ _) (by lia),λf s U=>?_⟩
  have A:∀h∈f,Gr u l h:=λh z=>by
   rw[s.mem_iff,Qn,Vq]at z;exact z
  have E:f.length<=u.length:=by
   rw[s.length_eq];exact Qw _ _
  refine Fb (λB=>∃k o f,B=[some (.sh<|.int l),some (.bor<|.lst<|u.map D.int),some (.bor<|.lst<|C.map prD),some (.own<|o.map<|em l),some (.own<|f.map D.int),none,none]/\(∀p∈o,p.length=k/\Path (Gr u l) C l p)/\(∀h∈f,Gr u l h)/\o.length<=60/\f.length<=u.length/\(k+f.length<=u.length\/(o=[]/\k<=u.length+1)))
   (λT=>2*LX 4 T+min 1 (LX 3 T)) ⟨0,[[]],f,rfl,(λp z=>by rw[WN.mp z];exact⟨rfl,trivial⟩),A,by simp,E,.inl (by lia)⟩ ?_
  rintro B ⟨k,o,f,rfl,L,A,Y,hll,hk⟩;have Q:(!(o.map<|em l).isEmpty)=decide (o≠[]):=by cases o<;>simp
  show if (!(o.map<|em l).isEmpty)=true then _ else _;rw[Q];refine Xi (λg=>?_) (λg=>?_)
  ·have y:o≠[]:=WM g;have hk':k+f.length<=u.length:=hk.elim id λz=>absurd z.1 y;have M:∀p∈o,p.length<=60:=λp s=>by rw[(L p s).1];lia
   have hn:∀p∈o,(XM l p,l)∉C:=λp s z=>hN p ⟨(L p s).2,z⟩;refine Kd (xs:=o) (emb:=em l) (λ_=>none) (by lia) (λp s=>⟨_,DA l p,by simp,_,.lp (XM l p,l) C,Xi (λg=>absurd (WM g) (hn p s)) (λg=>rfl)⟩) ?_;have e0:o.filterMap (λ_=>(none:Option D))=[]:=by simp
   rw[e0];refine⟨l,o,f,C,rfl,λp s=>WV (M p s) (by decide),by lia,λr G hlg=>?_⟩;refine Kd (xs:=r) (emb:=em l) (λp=>some (.int<|XM l p)) (by lia) (λp _=>⟨_,DA l p,_,rfl,rfl⟩) ?_;have e1:r.filterMap (λp=>some (D.int<|XM l p))=(r.map<|XM l).map D.int:=by rw[VH,Qy];rfl
   rw[e1];refine Kd (xs:=f) (emb:=D.int) (λh=>if decide (¬h∈r.map (XM l))=true then some (.int h)else none) (by lia) (λh _=>⟨_,.li h _,?_⟩) ?_
   ·by_cases c:h∈r.map (XM l)
    ·simp only[WL c];exact XI (WO<|by simp[c])
    ·simp only[Q3 c];exact Kp ⟨_,rfl,WQ (by simp[c])⟩
   rw[OU λh=>decide (¬h∈r.map (XM l))];have H:=Qw (λh=>decide (¬h∈r.map (XM l))) f
   have v:r≠[]->(f.filter λh=>decide (¬h∈r.map (XM l))).length<f.length:=λy=>by
    obtain⟨q,hq⟩:=List.exists_mem_of_ne_nil r y
    have A:XM l q∈f:=by
     obtain⟨p,_,x,hx,rfl,_⟩:=G q hq;rw[N6];exact hx
    refine Nat.lt_of_le_of_ne H λz=>?_
    have:=List.filter_eq_self.mp (List.Sublist.eq_of_length (JD (l:=f)) z) (XM l q) A
    rw[Vq]at this;exact this (VB hq)
   refine⟨⟨k+1,r,_,rfl,λq hq=>?_,λh hh=>A h (Qn.mp hh).1,by lia,by lia,?_⟩,?_⟩
   ·obtain⟨p,s,x,hx,rfl,hw⟩:=G q hq;exact⟨by rw[WW,(L p s).1];rfl,path_app.mpr ⟨(L p s).2,A x hx,hw,trivial⟩⟩
   ·by_cases c:r=[]
    ·exact .inr ⟨c,by lia⟩
    ·have:=v c
     exact .inl (by lia)
   ·show 2*((f.filter λh=>decide (¬h∈r.map (XM l))).map D.int).length+min 1 (r.map<|em l).length<2*(f.map D.int).length+min 1 (o.map<|em l).length;rw[WI,WI,WI,WI]
    have:0<o.length:=VA.mpr y
    by_cases c:r=[]
    ·rw[c];rw[c]at H;simp only[List.length_nil];lia
    ·have:=v c
     lia
  ·have N:o=[]:=Qt λz=>g (WL z);subst N;exact⟨by simp,hR⟩
def Zlh(v:Def K mg "sold" Dx ["strips","place","holder"])
  : Oo ζ:=by
 refine v.fy Zri (λo n=>(bc (sE<|xg Y4 o ExcR.XU<|a2 (xv 0)<|xv 1)<|bc (sE<|xg Yt o ExcR.XU<|a1<|xv 2)<|bc (sS 3 n<|xx (xv 0)<|xo Kg Kb (xv 1) xi)<|bc (sI (tq o (xx (xv 3) xi)<|xv 2) (b1<|sQ G.ZD G.ZC ExcR.KM<|a1 xs) b0)<|b1<|sF 2<|sR<|xo KF KD (xo KF KD (xp (xv 0) o0<|o1<|xo Kg Kb (xv 1) xi)<|xL<|a1<|xt<|a2 (xv 2)<|xx (xv 3) xi)<|xp (xv 0) (o1<|xv 1) o0)) (.a ?_)
 ·rintro A R X ⟨ps,p,h,rfl,y,f⟩;refine⟨rfl,?_⟩;unfold KN at f;refine⟨ps,p,rfl,?_⟩;unfold Fp;by_cases c:p<1\/(ps.length:Int)<p
  ·rw[WQ c]at f ⊢;exact f
  ·rw[WO c]at f ⊢;refine⟨h,rfl,?_⟩;unfold Sw;by_cases l:1<=h/\h<=10
   ·rw[WO (λz=>z l)]at f;rw[WQ l];refine⟨_,TH (by lia) (by lia),?_⟩;have s:(cutD (ps.map prD) none<|some (p-1)).length<=1000:=by have:=(Tp (ps.map prD) none<|some (p-1)).length_le;rw[WI]at this;lia
    have u:(cutD (ps.map prD) (some p) none).length<=1000:=by have:=(Tp (ps.map prD) (some p) none).length_le;rw[WI]at this;lia
    refine⟨_,rfl,Xi (λg=>?_) (λg=>?_)⟩
    ·have r:(Xt ps p).1=h:=WM g;rw[WQ r]at f;exact⟨by simp,f⟩
    ·have r:¬(Xt ps p).1=h:=λz=>g (WL z);rw[WO r]at f;refine⟨Kc _,_,rfl,by simp,by simp,rfl,rfl,WV (Qu s<|WT 1) (by decide),Kc _,rfl,rfl,WV (Qu (by rw[WW];exact Qu s (WT 1)) u) (by decide),?_⟩;have e:=IA (ps:=ps) (p:=p) (x:=(h,(Xt ps p).2)) (by lia) (by lia);show R (.own (cutD (ps.map prD) none (some (p-1))++[prD (h,(Xt ps p).2)]++cutD (ps.map prD) (some p) none));rw[e];exact f
   ·rw[WQ l]at f;rw[WO l];exact f
def Zaz(A:Def K mg "parted" Ef ["strips","place","width"])
  : GZ ζ:=by
 refine A.fy Zns (λx n=>(bc (sE<|xg Y4 x ExcR.XU<|a2 (xv 0)<|xv 1)<|bc (sS 3 n<|xx (xv 0)<|xo Kg Kb (xv 1) xi)<|bc (sI (tp<|wo (tc KJ KI (xv 2) xi)<|wO<|tc Si Sl (xv 2)<|xx (xv 3) xi) (b1<|sQ G.ZI G.ZH ExcR.KM<|a1 xs) b0)<|bc (sI (tc Si Sl (xl G.len<|xv 0)<|xe (ExcR.Pr G.Zk) Xm) (b1<|sQ G.Zi G.Zh ExcR.KM<|a1<|xe (ExcR.NK<|ExcR.PQ<|ExcR.NA (ExcR.Pr G.Zk)<|ExcR.PQ ExcR.NU)<|NF<|PK<|N1 Xm<|PK N8) b0)<|b1<|sF 2<|sR<|xo KF KD (xo KF KD (xp (xv 0) o0<|o1<|xo Kg Kb (xv 1) xi)<|xL<|a2 (xt<|a2 (xx (xv 3) xi)<|xv 2)<|xt<|a2 (xx (xv 3) xi)<|xo Kg Kb (xx (xv 3) xi)<|xv 2)<|xp (xv 0) (o1<|xv 1) o0)) (.a ?_)
 ·rintro J R X ⟨h,p,w,rfl,B,f⟩;refine⟨rfl,?_⟩;have C:(h.map prD).length=h.length:=WI ..;refine⟨h,p,rfl,?_⟩;unfold Kn at f;unfold Fp;by_cases c:p<1\/(h.length:Int)<p
  ·rw[WQ c]at f ⊢;exact f
  ·rw[WO c]at f ⊢;refine⟨_,TH (by lia) (by lia),?_⟩
   have E:¬(w<1\/(Xt h p).2<=w)->_:=λo=>by
    rw[WO o]at f;exact f
   by_cases o:w<1\/(Xt h p).2<=w
   ·rw[WQ o]at f;refine Xi (λg=>Kp ⟨by simp,f⟩) (λg=>⟨_,rfl,Xi (λl=>⟨by simp,f⟩) (λl=>?_)⟩);have H:¬w<1:=λz=>g (WL z);have y:¬(Xt h p).2<=w:=λz=>l (WL z);lia
   ·rw[WO o]at f;refine Xi (λg=>absurd (WM g) (by lia)) (λg=>⟨_,rfl,Xi (λl=>absurd (WM l) (by lia)) (λl=>?_)⟩);refine Xi (λs=>?_) (λs=>?_)
    ·have r:(40:Int)<=((h.map prD).length:Int):=WM s;rw[WQ (by lia)]at f;exact⟨by decide,by decide,by decide,by decide,by decide,by simp,f⟩
    ·have r:¬(40:Int)<=((h.map prD).length:Int):=λz=>s (WL z);rw[WO (by lia)]at f;have u:(cutD (h.map prD) none<|some (p-1)).length<=1000:=by have:=(Tp (h.map prD) none<|some (p-1)).length_le;rw[WI]at this;lia
     have v:(cutD (h.map prD) (some p) none).length<=1000:=by have:=(Tp (h.map prD) (some p) none).length_le;rw[WI]at this;lia
     refine⟨Kc _,_,rfl,by simp,_,rfl,_,rfl,by simp,by simp,rfl,rfl,WV (Qu u<|WT 2) (by decide),Kc _,rfl,rfl,WV (Qu (by rw[WW];exact Qu u (WT 2)) v) (by decide),?_⟩;rw[←Ra (by lia)]at f;exact f
def Zpg(v:Def K mg "united" Cf ["strips","place"])
  : LJ ζ:=by
 refine v.fy Zaj (λr n=>(bc (sE<|xg YJ r ExcR.XU<|a2 (xv 0)<|xv 1)<|bc (sS 2 n<|xx (xv 0)<|xo Kg Kb (xv 1) xi)<|bc (sS 3 n<|xx (xv 0)<|xv 1)<|bc (sI (tn r (xx (xv 2) xi)<|xx (xv 3) xi) (b1<|sQ G.Zt G.Zs ExcR.KM<|a1 xs) b0)<|bc (sI (tc KC KE (xo X6 X8 (xx (xv 2) xi)<|xx (xv 3) xi)<|xe (ExcR.Pr G.Zl) Xm) (b1<|sQ G.ZK G.ZJ ExcR.KM<|a1<|xe (ExcR.NK<|ExcR.PQ<|ExcR.NA (ExcR.Pr G.Zl)<|ExcR.PQ ExcR.NU)<|NF<|PK<|N1 Xm<|PK N8) b0)<|b1<|sR<|xo KF KD (xo KF KD (xp (xv 0) o0<|o1<|xo Kg Kb (xv 1) xi)<|xL<|a1<|xt<|a2 (xx (xv 2) xi)<|xo X6 X8 (xx (xv 2) xi)<|xx (xv 3) xi)<|xp (xv 0) (o1<|xo X6 X8 (xv 1) xi) o0)) (.a ?_)
 ·rintro A R X ⟨ps,p,rfl,x,f⟩;refine⟨rfl,?_⟩;have y:(ps.map prD).length=ps.length:=WI ..;refine⟨ps,p,rfl,?_⟩;unfold XZ at f;by_cases c:p<1\/(ps.length:Int)<=p
  ·rw[WQ c]at f ⊢;exact f
  ·rw[WO c]at f ⊢
   have u:atI (ps.map prD) p=some (prD<|Xt ps (p+1)):=by
    have:=TH (ps:=ps) (p:=p+1) (by lia) (by lia)
    rwa[show p+1-1=p by lia]at this
   refine⟨_,TH (by lia) (by lia),_,u,_,rfl,_,rfl,Xi (λg=>?_) (λg=>?_)⟩
   ·have l:¬(Xt ps p).1=(Xt ps (p+1)).1:=λz=>by rw[WL z]at g;cases g
    rw[WQ l]at f;exact⟨by simp,f⟩
   ·have l:(Xt ps p).1=(Xt ps (p+1)).1:=Qt λz=>g (by rw[Q3 z];rfl);rw[WO (λz=>z l)]at f;refine⟨_,rfl,_,rfl,Xi (λh=>?_) (λh=>?_)⟩
    ·rw[WQ (WM h)]at f;exact⟨by decide,by decide,by decide,by decide,by decide,by simp,f⟩
    ·rw[WO (λz=>h (WL z))]at f;have o:(cutD (ps.map prD) none<|some (p-1)).length<=1000:=by have:=(Tp (ps.map prD) none<|some (p-1)).length_le;rw[WI]at this;lia
     have s:(cutD (ps.map prD) (some (p+1)) none).length<=1000:=by have:=(Tp (ps.map prD) (some (p+1)) none).length_le;rw[WI]at this;lia
     refine⟨Kc _,_,rfl,_,rfl,_,rfl,by simp,by simp,rfl,rfl,WV (Qu o<|WT 1) (by decide),Kc _,rfl,rfl,WV (Qu (by rw[WW];exact Qu o (WT 1)) s) (by decide),?_⟩;rw[←Io (by lia)]at f;exact f
def Zoj(y:Def K mg "with_wish" EY ["wishes","ahead","behind"])
  : ML ζ:=by
 refine y.fy Zfb (λl n=>(bc (sE<|xg Yt l ExcR.XU<|a1<|xv 1)<|bc (sE<|xg Yt l ExcR.XU<|a1<|xv 2)<|bc (sI (tq l (xv 1)<|xv 2) (b1<|sQ G.Zy G.Zx ExcR.KM<|a1 xs) b0)<|bc (sI (ti l (xt<|a2 (xv 1)<|xv 2)<|xv 0) (b1<|sQ G.Z2 G.Z1 ExcR.KM<|a1 xs) b0)<|bc (sI (tc Si Sl (xl G.len<|xv 0)<|xe (ExcR.Pr G.Zm) Xm) (b1<|sQ G.Zv G.Zu ExcR.KM<|a1<|xe (ExcR.NK<|ExcR.PQ<|ExcR.NA (ExcR.Pr G.Zm)<|ExcR.PQ ExcR.NU)<|NF<|PK<|N1 Xm<|PK N8) b0)<|b1<|sF 2<|sF 1<|sR<|xo KF KD (xv 0)<|xL<|a1<|xt<|a2 (xv 1)<|xv 2)) (.a ?_)
 ·rintro A R X ⟨h,a,b,rfl,v,f⟩;refine⟨rfl,?_⟩;have x:(h.map prD).length=h.length:=WI ..;unfold Ke at f;refine⟨a,rfl,?_⟩;unfold Sw;by_cases p:1<=a/\a<=10
  ·rw[WO (λz=>z p)]at f;rw[WQ p];refine⟨b,rfl,?_⟩;unfold Sw;by_cases o:1<=b/\b<=10
   ·rw[WO (λz=>z o)]at f;rw[WQ o];refine Xi (λg=>?_) (λg=>?_)
    ·rw[WQ (WM g)]at f;exact⟨by simp,f⟩
    ·rw[WO (λz=>g (WL z))]at f;refine⟨by simp,_,.lp (a,b) h,Xi (λu=>?_) (λu=>?_)⟩
     ·rw[WQ (WM u)]at f;exact⟨by simp,f⟩
     ·rw[WO (λz=>u (WL z))]at f;refine Xi (λs=>?_) (λs=>?_)
      ·have r:(20:Int)<=((h.map prD).length:Int):=WM s;rw[WQ (by lia)]at f;exact⟨by decide,by decide,by decide,by decide,by decide,by simp,f⟩
      ·have r:¬(20:Int)<=((h.map prD).length:Int):=λz=>s (WL z);rw[WO (by lia)]at f;refine⟨by simp,by simp,Kc _,rfl,WV (Qu (WV (Vi x) v)<|WT 1) (by decide),?_⟩;rw[Qb]at f;exact f
   ·rw[WQ o]at f;rw[WO o];exact f
  ·rw[WQ p]at f;rw[WO p];exact f
def Zmk(E:Def K mg "pair_costs" Au ["strips"])
  : Iw ζ:=by
 refine E.fz Gn (λr n=>(bc (sS 1 n<|xf Yo r<|a1<|xv 0)<|bc (se (Pu.pz 2 Gn.nd Zqg)<|Na Zdj<|Kq 2)<|bc (sF 1<|sO [3,4] Qg (iL<|xv 1) (gN 3)<|b1<|sF 1<|sO [4] Qg (iL<|xv 1) (gN 4)<|b1<|sF 4<|sF 3<|se (BS (Kv<|r ()) (pv 2) (Po<|bz (pv 3)<|pv 4) (fz Y2 (r ())<|dz (pv 0) (pv 3)<|pv 4) rfl)<|Fw 2 (P0<|tz (Xe 3)<|Xe 4)<|Tn<|uz (Xe 0) (Xe 3)<|Xe 4)<|b1<|sV 2)) (.a ?_)
 ·rintro H R X ⟨l,rfl,v,z,u⟩;refine⟨rfl,l,rfl,v,z,?_⟩;have C:=KW l;generalize Xj l=g at C u ⊢
  refine⟨rfl,K6 (xs:=g) (emb:=D.int) (λi h=>∃f:List (List Key×V),h=[some (.bor<|.lst<|l.map prD),some (.sh<|.lst<|g.map D.int),some (.own<|.dT f),none,none]/\f.length<=i*10/\
   ∀x∈g.take i,∀y∈g,Xy f [.inl x,.inl y]=some (.int<|pcM l x y l.length)) ⟨[],rfl,by simp,by simp⟩ ?_ ?_⟩
  ·rintro i B h ⟨f,rfl,s,p⟩
   refine⟨rfl,K6 (xs:=g) (emb:=D.int) (λj h=>∃f:List (List Key×V),h=[some (.bor<|.lst<|l.map prD),some (.sh<|.lst<|g.map D.int),some (.own<|.dT f),some (.sh (.int g[i])),none]/\f.length<=i*10+j/\
    (∀x∈g.take i,∀y∈g,Xy f [.inl x,.inl y]=some (.int<|pcM l x y l.length))/\∀y∈g.take j,Xy f [.inl g[i],.inl y]=some (.int (pcM l g[i] y l.length))) ⟨f,rfl,by lia,p,by simp⟩ ?_ ?_⟩
   ·rintro j A h ⟨f,rfl,s,p,hw⟩;refine⟨l,_,_,rfl,v,by simp,_,_,rfl,rfl,by lia,_,rfl,WV (BF _ _ _) (by lia),λx hx y o=>?_,λy o=>?_⟩
    ·rw[SR];by_cases e:([.inl x,.inl y]:List Key)=[.inl g[i],.inl g[j]]
     ·rw[WQ e];simp only[J7,Sum.inl.injEq,and_true]at e;rw[e.1,e.2]
     ·rw[WO e];exact p x hx y o
    ·rw[SR];by_cases e:([.inl g[i],.inl y]:List Key)=[.inl g[i],.inl g[j]]
     ·rw[WQ e];simp only[J7,Sum.inl.injEq,and_true]at e;rw[e.2]
     ·rw[WO e];rw[Qp A,Qi,WN]at o;rcases o with o|o
      ·exact hw y o
      ·subst o;exact absurd rfl e
   ·rintro h ⟨f,rfl,s,p,hw⟩;rw[QL]at hw;refine⟨f,rfl,by lia,λx hx y o=>?_⟩;rw[Qp B,Qi,WN]at hx;rcases hx with hx|hx
    ·exact p x hx y o
    ·subst hx;exact hw y o
  ·rintro h ⟨f,rfl,s,p⟩;rw[QL]at p;exact u f p
def Zdn(y:Def K mg "cost_with_last" A9 ["members","last","least","pairs"])
  : Gf ζ:=by
 refine y.fz Zhb (λg n=>(bc (sS 4 n<|xf Yw g<|a2 (xv 0)<|xv 1)<|b1<|sF 1<|sR<|xo X6 X8 (xe (NX (Kv<|g ()) (pv 2) (pv 4) (λ_ _=>rfl))<|NJ (Xe 2)<|Xe 4)<|xe (Ki (Mu (K:=K) rfl) (by rfl) G.ZS boot_sum<|az<|cz ["other","pairs","last"] [none,some 3,some 1] (SY (K:=K)<|pv 4) ⟨(gk 0),T9,(NX (Kv<|g ()) (pv 1) (Po<|bz (pv 0)<|pv 2) (λ_ _=>rfl))⟩)<|Mr<|sz<|PP (SndI.c<|BB<|Xe 4) (Kq 0) Nn<|NJ (Xe 1)<|P0<|tz (Xe 0)<|Xe 2)) (.a ?_)
 ·rintro A R X ⟨f,l,le,z,c,v,rfl,h,p,u,x⟩;refine⟨rfl,?_⟩;rw[BA];have o:(Xz f l).length<=1000:=WV less_sub.length_le h;refine⟨f,l,rfl,h,_,_,FZ _,p,rfl,_,rfl,Kd (s:=.sh .non) (xs:=Xz f l) (emb:=D.int) (λm=>some (.int<|c m)) (by lia) (λm r=>?_) ?_⟩
  ·exact⟨by simp,_,_,rfl,u m r,rfl,_,rfl,rfl⟩
  ·rw[Td];exact⟨(Xz f l).map c,by rw[Qy];rfl,x⟩
def Zlp(y:Def K mg "cost_with_first" Ay ["members","first","least","pairs"])
  : Rf ζ:=by
 refine y.fz Zam (λg n=>(bc (sS 4 n<|xf Yw g<|a2 (xv 0)<|xv 1)<|b1<|sF 1<|sR<|xo X6 X8 (xe (NX (Kv<|g ()) (pv 2) (pv 4) (λ_ _=>rfl))<|NJ (Xe 2)<|Xe 4)<|xe (Ki (Mu (K:=K) rfl) (by rfl) G.ZS boot_sum<|az<|cz ["other","pairs","first"] [none,some 3,some 1] (SY (K:=K)<|pv 4) ⟨(gk 0),T9,(NX (Kv<|g ()) (pv 1) (Po<|bz (pv 2)<|pv 0) (λ_ _=>rfl))⟩)<|Mr<|sz<|PP (SndI.c<|BB<|Xe 4) (Kq 0) Nn<|NJ (Xe 1)<|P0<|tz (Xe 2)<|Xe 0)) (.a ?_)
 ·rintro A R X ⟨f,l,le,z,c,v,rfl,h,p,u,x⟩;refine⟨rfl,?_⟩;rw[BA];have o:(Xz f l).length<=1000:=WV less_sub.length_le h;refine⟨f,l,rfl,h,_,_,FZ _,p,rfl,_,rfl,Kd (s:=.sh .non) (xs:=Xz f l) (emb:=D.int) (λm=>some (.int<|c m)) (by lia) (λm r=>?_) ?_⟩
  ·exact⟨by simp,_,_,rfl,u m r,rfl,_,rfl,rfl⟩
  ·rw[Td];exact⟨(Xz f l).map c,by rw[Qy];rfl,x⟩
def Zdw(z:X7 K (X0 K (Xo ζ) "drop") "drop" "Village.drop" Dc ["self","ahead","behind"])
  : RY ζ:=by
 refine z.fy Zmn (λl n=>(bc (se (Kt<|X3 Yq G.Za (hq<|l ()) ExcR.XU<|pv 0)<|NM<|BK Bp (Xe 0) Xw)<|bc (sS 3 n<|xg YM l ExcR.XU<|a3 (xe (X3 Ym G.Za (hq<|l ()) X2<|pv 0)<|X5 P9 (Xe 0) Xw) (xv 1)<|xv 2)<|b1<|sF 2<|sF 1<|sF 3<|se (Kj<|P2 Yr G.Za (hq<|l ()) X2 (pv 0)<|dz (Po<|dz Nq (pv 1)<|pv 2) (X3 Yl G.Za (hq<|l ()) X2<|pv 0)<|pv 3)<|Tc<|Ss 0 Bx<|uz (P0<|uz Nb (Xe 1)<|Xe 2) (X5 Pk (Xe 0) Xw)<|Xe 3)) (.c ?_)
 ·rintro o A R X ⟨x,b1,y,v,bk,fs,r,f,w,p,h,rfl,rfl,u,B,hw,s,g⟩;refine⟨rfl,?_⟩;unfold Ai at g;refine⟨rfl,rfl,bk,fs++[f],r++[w],rfl,?_⟩;unfold ND;by_cases c:100<=bk.length
  ·rw[WQ c]at g ⊢;exact⟨_,rfl,⟨rfl,by simp⟩,g⟩
  ·rw[WO c]at g ⊢;refine⟨rfl,rfl,bk,fs++[f],r,w,rfl,w,p,h,rfl,s,?_⟩;cases e:Kh w p h with
   |some c=>
    rw[e]at g;exact⟨_,rfl,⟨rfl,by simp⟩,g⟩
   |none=>
    rw[e]at g;refine⟨rfl,rfl,by simp,rfl,rfl,bk,fs,r++[w],f,rfl,?_⟩;exact⟨x,b1,y,v,bk,fs++[f],r++[w],("drop",[p,h]),f,To w p h,rfl,rfl,u,by rw[WW];simp;lia,by rw[WW];simp;lia,_,rfl,⟨rfl,by simp⟩,g⟩
def Znt(l:Def K mg "_law_draw" EG ["_law_script","_law_k"])
  : OX ζ:=by
 refine l.fz Zd2 (λf n=>(bc (sI (tq f (xo XB XA (xf Yn f<|a2 (xv 0) xi) xi) xi) (b1<|sR<|xf Yn f<|a2 (xv 0)<|xo X6 X8 xi<|xv 1) b0)<|b1<|sR<|xf Ys f<|a2 (xf Yn f<|a2 (xv 0) xi)<|xv 1)) (.a ?_)
 ·rintro p R X ⟨g,k,rfl,o,h⟩;refine⟨rfl,g,0,rfl,by decide,(by show(0:Int)<2;decide),Xi (λ_=>?_) (λ_=>?_)⟩
  ·exact⟨g,_,rfl,by lia,h _⟩
  ·exact⟨g,1,rfl,by decide,_,_,rfl,h _⟩
def Zso(s:Def K mg "_law_row" Dq ["_law_found","_law_due"])
  : HJ ζ:=by
 refine s.fz Zmq (λg n=>(bc (sI (tp<|wo (tN<|tt<|xe (Ki (Tt (K:=K)) (by rfl) G.Zc Va<|bz (pv 0)<|T8 (v:=.ty "list") rfl G.Zg boot_list rfl)<|T1<|tz (Xe 0) Tu)<|wO<|tn g (xl G.len<|xv 0)<|xl G.len<|xv 1) (b1<|sR xb) b0)<|bc (sO [2] Qg (ir G.Zf<|a1<|xl G.len<|xv 1) (gN 2)<|b1<|sI (tp<|wo (tN<|tt<|xf Yu g<|a1<|xx (xv 0)<|xv 2)<|wO<|tn g (xx (xv 0)<|xv 2)<|xx (xv 1)<|xv 2) (b1<|sR xb) b0)<|b1<|sR xb)) (.a ?_)
 ·rintro y R X ⟨xs,rfl,u,r⟩;refine⟨rfl,?_⟩;have x:(xs.map D.int).length=xs.length:=WI ..;refine⟨_,.same _,XI (TL rfl ?_)⟩;refine⟨⟨by lia,by lia⟩,PZ (λi f=>f=[some (.bor<|.lst<|xs.map D.int),some (.bor<|.lst<|xs.map D.int),none]) rfl ?_ ?_⟩
  ·rintro i f o rfl;have l:i<(((xs.map D.int).length:Nat):Int).toNat:=o;have ez:(0:Int)+(i:Int)=(i:Int):=by lia
   have p:i<xs.length:=by lia
   have h:atI (xs.map D.int) (0+(i:Int))=some (.int xs[i]):=by rw[ez];exact Ae p
   exact⟨_,h,_,rfl,XI ⟨_,h,_,h,TL rfl rfl⟩⟩
  ·rintro f rfl;exact r
def Zpy(A:Def K mg "_law_tuples" Dg ["_law_found","_law_due"])
  : IX ζ:=by
 refine A.fz Zei (λl n=>(bc (sI (tp<|wo (tN<|tt<|xe (Ki (Tt (K:=K)) (by rfl) G.Zc Va<|bz (pv 0)<|T8 (v:=.ty "list") rfl G.Zg boot_list rfl)<|T1<|tz (Xe 0) Tu)<|wO<|tn l (xl G.len<|xv 0)<|xl G.len<|xv 1) (b1<|sR xb) b0)<|bc (sO [2,3] Qg (ir G.Zf<|a1<|xl G.len<|xv 1) (gN 2)<|bc (sI (tp<|wo (tN<|tt<|xe (Ki (Tt (K:=K)) (by rfl) G.Zc Va<|bz (jx K (pv 0)<|pv 2)<|T8 (v:=.ty "tuple") rfl G.Zn boot_tuple rfl)<|T1<|tz (XG (Xe 0)<|Xe 2) Tu)<|wO<|tn l (xl G.len<|xx (xv 0)<|xv 2)<|xl G.len<|xx (xv 1)<|xv 2) (b1<|sR xb) b0)<|b1<|sO [3] Qg (ir G.Zf<|a1<|xl G.len<|xx (xv 1)<|xv 2) (gN 3)<|b1<|sI (tp<|wo (tN<|tt<|xf Yu l<|a1<|xx (xx (xv 0)<|xv 2)<|xv 3)<|wO<|tn l (xx (xx (xv 0)<|xv 2)<|xv 3)<|xx (xx (xv 1)<|xv 2)<|xv 3) (b1<|sR xb) b0)<|b1<|sR xb)) (.a ?_)
 ·rintro E R X ⟨g,rfl,B,y⟩;refine⟨rfl,?_⟩;have C:(g.map prD).length=g.length:=WI ..;refine⟨_,.same _,XI (TL rfl ?_)⟩;refine⟨⟨by lia,by lia⟩,PZ (λi f=>∃t,f=[some (.bor<|.lst<|g.map prD),some (.bor<|.lst<|g.map prD),none,t]) ⟨_,rfl⟩ ?_ ?_⟩
  ·rintro i f u ⟨t,rfl⟩;have s:i<(((g.map prD).length:Nat):Int).toNat:=u;have ez:(0:Int)+(i:Int)=(i:Int):=by lia
   have x:i<g.length:=by lia
   have h:atI (g.map prD) (0+(i:Int))=some (prD g[i]):=by rw[ez];exact Ae x
   generalize g[i]=q at h;refine⟨_,h,_,.same _,XI ⟨_,h,_,h,?_⟩⟩;refine⟨_,h,⟨(by show -(2 ^ 62)<=(2:Int);decide),(by show(2:Int)<2 ^ 62;decide)⟩,PZ (λj f=>∃t,f=[some (.bor<|.lst<|g.map prD),some (.bor<|.lst<|g.map prD),some (.sh<|.int (0+(i:Int))),t]) ⟨_,rfl⟩ ?_ ?_⟩
   ·rintro j f r ⟨t,rfl⟩;have p:j<2:=r
    obtain⟨z,o⟩:∃z:Int,atI [D.int q.1,D.int q.2] (0+(j:Int))=some (.int z):=by
     have:j=0\/j=1:=by lia
     rcases this with rfl|rfl
     ·exact⟨_,rfl⟩
     ·exact⟨_,rfl⟩
    exact⟨_,h,_,o,z,rfl,XI ⟨_,h,_,o,_,h,_,o,TL rfl ⟨_,rfl⟩⟩⟩
   ·rintro f ⟨t,rfl⟩;exact⟨_,rfl⟩
  ·rintro f ⟨t,rfl⟩;exact y
def Zgi(p:Def K mg "_law_deed_is" D3 ["_law_found","_law_due"])
  : Lr ζ:=by
 refine p.fz Zmj (λh n=>(bc (sI (tp<|wo (tN<|tt<|xe (Ki (Tt (K:=K)) (by rfl) G.Zc Va<|bz (pv 0)<|T8 (v:=.ty "tuple") rfl G.Zn boot_tuple rfl)<|T1<|tz (Xe 0) Tu)<|wo (tn h (xl G.len<|xv 0)<|xl G.len<|xv 1)<|wO<|tN<|tt<|xe (Ki (Tt (K:=K)) (by rfl) G.Zc Va<|bz (jx K (pv 0) Xp)<|T8 (v:=.ty "str") rfl G.ZV boot_str rfl)<|T1<|tz (XG (Xe 0) Xm) Tu) (b1<|sR xb) b0)<|bc (sI (tn h (xx (xv 0) xi)<|xx (xv 1) xi) (b1<|sR xb) b0)<|bc (sO [2] Qg (iR G.Zf<|a2 xi<|xl G.len<|xv 1) (gN 2)<|b1<|sI (tp<|wo (tN<|tt<|xf Yu h<|a1<|xx (xv 0)<|xv 2)<|wO<|tn h (xx (xv 0)<|xv 2)<|xx (xv 1)<|xv 2) (b1<|sR xb) b0)<|b1<|sR xb)) (.a ?_)
 ·rintro u R X ⟨q,rfl,r,o⟩;refine⟨rfl,?_⟩;have s:(D.str q.1::q.2.map D.int).length=q.2.length+1:=by rw[Qf,WI]
  rw[Zc5];show _;rw[Qh,BR];refine⟨_,.same _,XI (TL rfl ⟨_,KP _ _,_,.same _,XI ⟨_,KP _ _,_,KP _ _,TL rfl ?_⟩⟩)⟩;refine⟨⟨by lia,by lia⟩,PZ (λi f=>f=[some (.sh<|dD q),some (.sh<|dD q),none]) rfl ?_ ?_⟩
  ·rintro i f l rfl
   have g:i<q.2.length:=by
    have:i<((((D.str q.1::q.2.map D.int).length:Nat):Int)-1).toNat:=l
    lia
   exact⟨_,CQ g,_,rfl,XI ⟨_,CQ g,_,CQ g,TL rfl rfl⟩⟩
  ·rintro f rfl;exact o
def Zee(DD:Def K mg "_law_best" An ["_law_strips","_law_wishes"])
  : IC ζ:=by
 refine DD.fz Zp5 (λL n=>(bc (sS 2 n<|xL a0)<|bc (sO [3,4] Qg (iL<|xf YW L<|a1<|xf Y5 L<|a1<|xv 0) (gN 3)<|b1<|sI (tt<|xf YV L<|a2 (xv 3)<|xv 1) (bc (sS 4 n<|xf YU L<|a2 (xv 0)<|xv 3)<|b1<|sI (tp<|wo (te (P5 (Fh (K:=K)<|show _<cLine from(L ()).units0) (pv 2) (P8 Ky)<|KZ _)<|Pa<|SO (Xe 2)<|PJ Xw)<|wO<|tc KJ KI (xv 4)<|xx (xv 2) xi) (b1<|sF 3<|sF 4<|sS 2 n<|xL<|a2 (xv 4)<|xv 3) b0) b0)<|b1<|sV 2)) (.a ?_)
 ·rintro ds R X ⟨f,Q,rfl,hF,C,h5,hu,hN,hR⟩;refine⟨rfl,?_⟩;have u:(Xj f).Nodup:=(T6 f).imp (λh=>JB h);have M:∀z:ZY,z.Perm (Xj f)->∀p∈f,p.1∈z:=λz C p E=>C.mem_iff.mpr ((Fs hF).mpr (Qj.mpr ⟨p,E,rfl⟩))
  have o:∀z:ZY,z.Perm (Xj f)->oc (λx y=>pcM f x y f.length) z=Te f z f.length:=λz C=>by
   rw[HI];refine Lp (C.nodup_iff.mpr u) f.length λj N=>?_;rw[WU,WJ N];exact M z C _ (Qd N)
  refine⟨by simp,f,rfl,C,Xj f,rfl,u,h5,?_⟩;refine⟨rfl,K6 (xs:=XH (Xj f) (Xj f).length) (emb:=ilD) (λi B=>∃b,B=[some (.bor<|.lst<|f.map prD),some (.bor<|.lst<|Q.map prD),some (.own<|.lst<|F3 f b),none,none]/\Fnd (λq=>Te f q f.length) (λq=>∀w∈Q,Pi q w=false) ((XH (Xj f) (Xj f).length).take i) b) ⟨none,rfl,by simp[Fnd]⟩ ?_ ?_⟩
  ·rintro i Y B ⟨b,rfl,A⟩;have v:=Qd Y;have s:=(SS u).mp v;have T:(XH (Xj f) (Xj f).length).take (i+1)=(XH (Xj f) (Xj f).length).take i++[(XH (Xj f) (Xj f).length)[i]]:=Qp Y
   have J:∀x∈(XH (Xj f) (Xj f).length).take i,sl x (XH (Xj f) (Xj f).length)[i]:=λx hx=>by
    obtain⟨j,N,rfl⟩:=Q9.mp hx;rw[Q5]at N;rw[Jq];exact Vh.mp (Li (T6 f) _) j i (by lia) Y (by lia)
   rw[T];generalize (XH (Xj f) (Xj f).length)[i]=r at v s J ⊢;refine⟨r,Q,rfl,λg=>Kp ?_,λg=>XI ⟨b,rfl,A.no λz=>?_⟩⟩
   ·refine⟨f,r,rfl,hF,C,M r s,?_⟩;refine⟨QD _,?_⟩;show if (F3 f b).isEmpty=true then _ else _;rw[Ze9];refine Xi (λk=>Kp ?_) (λk=>?_)
    ·have k':b=none:=WM k;subst k';exact⟨by simp,some r,rfl,A.first g⟩
    ·cases b with
     |none=>exact absurd (WL rfl) k
     |some q=>exact⟨_,rfl,Xi (λl=>⟨by simp,some r,rfl,A.less g (WM l)⟩) (λl=>⟨some q,rfl,A.more (λz=>l (WL z)) J⟩)⟩
   ·obtain⟨w,hw,e⟩:=g;rw[z w hw]at e;cases e
  ·rintro B ⟨b,rfl,A⟩;rw[QL]at A;obtain⟨o0,p0,k0⟩:=Gd hu hN _ (Xj f) rfl λ_ h=>h;cases b with
   |none=>exact absurd (D8 k0) (A o0 ((SS u).mpr p0))
   |some q=>
    obtain⟨q1,q2,q3⟩:=A;have H:=(SS u).mp q1
    have:=hR q ⟨H,Zdc (H.nodup_iff.mpr u) q2,λp E U=>by
     unfold pcc;rw[o q H,o p E];exact(q3 p ((SS u).mpr E)<|D8 U).1,λp E U e=>by
     unfold pcc at e;rw[o q H,o p E]at e;exact(q3 p ((SS u).mpr E)<|D8 U).2 e⟩
    unfold pcc at this;rw[o q H]at this;exact this
def Ziv(v:Def K mg "_law_step" Ci ["_law_now","_law_deed_here"])
  : Ig ζ:=by
 refine v.fz Zhw (λo n=>(bc (sI (tp<|wo (tq o (xx (xv 1) xi) xs)<|wO<|tq o (xx (xv 1) xi) xs) (bc (sF 1<|sS 2 n<|xe (fz YZ (o ())<|bz (jx K (pv 0) Xp)<|pv 1)<|Ei<|tz (XG (Xe 0) Xm)<|Xe 1)<|b1<|sR<|xL<|a3 (xx (xv 2) xi) (xx (xv 0) xi)<|xx (xv 2) xi) b0)<|bc (sF 1<|sS 2 n<|xe (fz YY (o ())<|bz (jx K (pv 0) Xp)<|pv 1)<|Ei<|tz (XG (Xe 0) Xm)<|Xe 1)<|b1<|sR<|xL<|a3 (xx (xv 2) xi) (xx (xv 2) xi)<|xx (xv 0) xi)) (.b ?_)
 ·rintro u R X ⟨f,w,u,x,rfl,r,hw,l⟩;refine⟨rfl,?_⟩;have g:atI (plD f::plD w::u) 1=some (plD w):=Br (by decide) rfl
  have land:∀x:Dd,x.land=true->R (.own [.int (codeN<|x.err f w),plD (x.nf f w),plD (x.nw f w)])->R (.own [.int (codeN<|x.err f []),plD (x.fld' f),plD w]):=λx h k=>by
   have e:=x.err_land h f w [];have s:x.wsh w=w:=by cases x<;>first|rfl|cases h
   unfold Dd.nf Dd.nw at k;rw[s,e,ite_self]at k;unfold Dd.fld';exact k
  have wish:∀x:Dd,x.land=false->R (.own [.int (codeN<|x.err f w),plD (x.nf f w),plD (x.nw f w)])->R (.own [.int (codeN<|x.err [] w),plD f,plD (x.wsh' w)]):=λx h k=>by
   have e:=x.err_wish h f [] w;have s:x.fld f=f:=by cases x<;>first|rfl|cases h
   unfold Dd.nf Dd.nw at k;rw[s,e,ite_self]at k;unfold Dd.wsh';exact k
  cases x with
  |sell p h=>exact⟨_,rfl,_,rfl,_,KP _ _,f,.sell p h,rfl,rfl,r,_,rfl,_,rfl,_,g,by simp,land _ rfl l⟩
  |part p h=>exact⟨_,rfl,_,rfl,_,KP _ _,f,.part p h,rfl,rfl,r,_,rfl,_,rfl,_,g,by simp,land _ rfl l⟩
  |unite p=>exact⟨_,rfl,_,rfl,_,KP _ _,f,.unite p,rfl,rfl,r,_,rfl,_,rfl,_,g,by simp,land _ rfl l⟩
  |wish a b=>exact⟨_,rfl,_,g,w,.wish a b,rfl,rfl,hw,_,rfl,_,KP _ _,_,rfl,by simp,wish _ rfl l⟩
  |drop a b=>exact⟨_,rfl,_,rfl,_,g,w,.drop a b,rfl,rfl,hw,_,rfl,_,KP _ _,_,rfl,by simp,wish _ rfl l⟩
def Zes(H:Def K mg "_law_start" Dj ["_law_script","_law_menu_here","_law_many"])
  : IG ζ:=by
 refine H.fz Zrr (λl n=>(bc (sS 3 n<|xf Yn l<|a2 (xv 0) xi)<|bc (sS 4 n<|xL a0)<|bc (sO [5,6,7] Qg (ir G.Zf<|a1<|xv 2) (gN 5)<|bc (sF 3<|sS 6 n<|xv 3)<|bj (sI (tq l (xo XB XA (xf Yn l<|a2 (xv 0) xi) xi) xi) (b1<|sS 6 n<|xf Ys l<|a2 (xf Yn l<|a2 (xv 0) xi)<|xo X6 X8 xi<|xv 5) b0)<|bc (sS 7 n<|xo X6 X8 (xx (xv 1) xi)<|xo XB XA (xo Kl Km (xv 6)<|xx (xv 1) xi)<|xx (xv 1) xi)<|bc (sF 7<|sA 4<|xt<|a2 (xf Yp l<|a2 (xv 1)<|xo XB XA (xv 6)<|xx (xv 1) xi)<|xv 7)<|b1<|sS 3 n<|xo Kl Km (xo Kl Km (xv 3)<|xx (xv 1) xi)<|xx (xv 1) xi)<|b1<|sV 4)) (.a ?_)
 ·rintro ds R X ⟨o,m,n,rfl,x,h0,Y,E⟩;refine⟨rfl,?_⟩;have s:=x;obtain⟨a,b,c,d,e,rfl,U,T,Q,N,M⟩:=x;refine⟨o,2,rfl,by decide,by simp,⟨by lia,by lia⟩,PZ (λi f=>∃(g:ZX) (r:Int),f=[some (.bor<|.scr o),some (.bor<|.lst (([a,b,c,d,e]:ZY).map D.int)),some (.sh<|.int n),some (.sh<|.int r),some (.own<|g.map prD),none,none,none]/\Field g/\g.length=i) ⟨[],_,rfl,(λq hq=>by cases hq),rfl⟩ ?_ ?_⟩
  ·rintro i f C ⟨g,r,rfl,u,p⟩;have A:(g.map prD).length=g.length:=WI ..;have B:i<n.toNat:=C;refine B8 (λf=>∃(v:Int) (t:Option S),f=[some (.bor<|.scr o),some (.bor<|.lst (([a,b,c,d,e]:ZY).map D.int)),some (.sh<|.int n),some (.sh<|.int r),some (.own<|g.map prD),t,some (.sh<|.int v),none]) ?_ ?_
   ·refine⟨o,0,rfl,by decide,(by show(0:Int)<2;decide),Xi (λ_=>?_) (λ_=>⟨_,_,rfl⟩)⟩;exact⟨o,1,rfl,by decide,_,_,rfl,_,_,rfl⟩
   ·rintro f ⟨v,t,rfl⟩;have L:=Int.emod_nonneg (v / a) (show d≠0 by lia);have J:=JO (v / a) (show 0<d by lia);refine⟨_,rfl,_,rfl,⟨by lia,by lia⟩,_,rfl,(by show 0<d;lia),_,rfl,(by show 0<a;lia),[a,b,c,d,e],_,rfl,s,λh z y _=>⟨by simp,by lia,?_⟩⟩;refine⟨_,rfl,⟨by lia,by lia⟩,_,rfl,⟨by lia,by lia⟩,g++[(h,e+v / a % d)],r / a / d,?_,λq hq=>?_,by rw[WW,p];rfl⟩
    ·rw[Qb];rfl
    ·rcases Qi.mp hq with hq|hq
     ·exact u q hq
     ·rw[WN]at hq;subst hq;exact⟨z,y,by show 1<=e+v / a % d;lia,by show e+v / a % d<=1000;lia⟩
  ·rintro f ⟨g,r,rfl,u,p⟩;exact E g u p
def Zcx(p:Def K mg "_law_days" Ck ["_law_script","_law_most"])
  : Ik ζ:=by
 refine p.fz Ze0 (λg n=>(bc (sI (tq g (xo XB XA (xf Yn g<|a2 (xv 0) xi) xi) xi) (b1<|sR<|xe (Du (AY (K:=K)) (pv 0) (Fi Xp)<|Fi<|Nr X6 Xp<|pv 1)<|Zm5 (Xe 0) (Ag Xm)<|Ag<|X8 Xm<|Xe 1) b0)<|b1<|sR<|xC ["_law_k","_law_script"] [none,some 0] (jI<|ir G.Zf<|a1<|xo XB XA (xf Yn g<|a2 (xv 0) xi)<|xo X6 X8 (xv 1) xi) (gN 0) f0<|xf Ys g<|a2 (xf Yn g<|a2 (xv 1) xi)<|xo X6 X8 xi<|xv 0)) (.a ?_)
 ·rintro y R X ⟨f,n,rfl,x,v,h⟩;refine⟨rfl,f,0,rfl,by decide,(by show(0:Int)<2;decide),Xi (λ_=>?_) (λ_=>?_)⟩
  ·refine h _ ?_;unfold Pu.cutD;rw[Q5]
   have l:HT.sIx f.length 0 (some 3)=min 3 f.length:=by
    rw[show(3:Int)=((3:Nat):Int) by rfl,HT.Fc]
   have o:HT.sIx f.length f.length (some (3+n))=min (3+n).toNat f.length:=by
    rw[show(3+n:Int)=(((3+n).toNat:Nat):Int) by lia,HT.Fc];rfl
   rw[l,o];lia
  ·refine⟨f,2,rfl,by decide,(by show 0<n+1;lia),?_⟩;have s:=Int.emod_nonneg (f.getD (2:Int).toNat 0) (show n+1≠0 by lia);have r:=JO (f.getD (2:Int).toNat 0) (show 0<n+1 by lia);refine⟨⟨by lia,by lia⟩,Ea (λi=>some (.int<|mixP (f.getD (1:Int).toNat 0) (200+(0+(i:Int))))) (by lia) (λi u=>⟨f,1,rfl,by decide,_,_,rfl,_,rfl,rfl⟩) ?_⟩
   have e:(List.range (f.getD (2:Int).toNat 0 % (n+1)).toNat).filterMap (λi:Nat=>some (D.int<|mixP (f.getD (1:Int).toNat 0) (200+(0+(i:Int)))))=((List.range (f.getD (2:Int).toNat 0 % (n+1)).toNat).map λi:Nat=>mixP (f.getD (1:Int).toNat 0) (200+(0+(i:Int)))).map D.int:=by
    rw[VH,Qy];rfl
   rw[e];refine h _ ?_;rw[WI,Jo];lia
def Zi8(y:Def K mg "_law_pair" Ax ["_law_cell","_law_menu_here"])
  : RV ζ:=by
 refine y.fz Zkn (λh n=>(bc (sS 2 n<|xx (xL<|ac xi<|ac (xx (xv 1) xi)<|ac (xx (xv 1) xi)<|ac (xx (xv 1) xi) a0)<|xo XB XA (xv 0) xi)<|bc (sS 3 n<|xo XB XA (xo Kl Km (xv 0) xi)<|xv 2)<|bc (sS 4 n<|xo XB XA (xo X6 X8 (xo X6 X8 (xv 3) xi)<|xo XB XA (xo Kl Km (xv 0) xi)<|xe (Ki (M0 rfl) (by rfl) G.ZG boot_max<|bz Xp<|Nr Kg (pv 2) Xp)<|IK<|tz Xm<|Kb (Xe 2) Xm)<|xv 2)<|bc (sS 5 n<|xf Yy h<|a2 (xo Kl Km (xv 0) xi)<|xf Yp h<|a2 (xv 1)<|xv 3)<|b1<|sF 5<|sR<|xt<|a2 (xv 5)<|xf Yy h<|a2 (xo Kl Km (xv 0) xi)<|xf Yp h<|a2 (xv 1)<|xv 4)) (.a ?_)
 ·rintro M R X ⟨c,m,rfl,r,v⟩;refine⟨rfl,?_⟩;have g:=r;obtain⟨a,b,e,d,f,rfl,o,E,B,C,A⟩:=r;have H:0<=c % 4/\c % 4<4:=by lia
  obtain⟨pool,x,z⟩:∃p:Int,atI [D.int 10,.int a,.int a,.int a] (c % 4)=some (.int p)/\1<=p/\p<=10:=by
   have:c % 4=0\/c % 4=1\/c % 4=2\/c % 4=3:=by lia
   rcases this with e|e|e|e<;>rw[e]
   ·exact⟨10,rfl,by decide,by decide⟩
   ·exact⟨a,rfl,o⟩
   ·exact⟨a,rfl,o⟩
   ·exact⟨a,rfl,o⟩
  have l:0<(if pool-1>1 then pool-1 else 1):=by split<;>lia
  refine⟨_,rfl,_,rfl,_,rfl,by simp,(by show(0:Int)<4;decide),_,x,?_⟩;refine⟨⟨by decide,by decide⟩,(by show 0<pool;lia),⟨by decide,by decide⟩,l,(by show 0<pool;lia),?_⟩;refine⟨⟨by decide,by decide⟩,_,_,rfl,g,λL _ _ _=>⟨_,_,rfl,λu=>?_⟩⟩;exact⟨⟨by decide,by decide⟩,_,_,rfl,g,λJ _ _ _=>⟨_,_,rfl,λs=>⟨by simp,v u s⟩⟩⟩
def Zsi(z:Def K mg "gathered" Ep ["strips","order"])
  : MH ζ:=by
 refine z.fy Zb6 (λr n=>(bc (sE<|xg Yv r ExcR.XU<|a2 (xv 0)<|xv 1)<|bc (sS 2 n<|xL a0)<|bc (sF 1<|sO [3] ExcR.Ak (iL<|xv 1) (gN 3)<|b1<|se (Kt<|NN Ql PySem.F.slot_list_extend PySem.F.type_list_extend OL (pv 2)<|az<|cz ["strip","holder"] [none,some 3] (Tr (K:=K)<|pv 0) ⟨(gk 0),(By<|cq K (r ()) (jx K (pv 0) Xp)<|pv 1),(pv 0)⟩)<|Gh 2<|PP (Ni<|Xe 0) (Kq 0) (Pa<|NL (XG (Xe 0) Xm)<|Xe 1)<|Xe 0)<|b1<|sV 2)) (.a ?_)
 ·rintro E R X ⟨f,os,rfl,x,p,u,l⟩;refine⟨rfl,f,os,rfl,x,p,u,?_⟩;cases e:PM f os with
  |some c=>rw[e]at l;exact l
  |none=>
   rw[e]at l;have o:R (.own ((P1 f os).map prD)):=l;refine⟨by simp,rfl,K6 (xs:=os) (emb:=D.int) (λi h=>h=[some (.bor<|plD f),some (.bor<|.lst<|os.map D.int),some (.own ((P1 f<|os.take i).map prD)),none]) rfl ?_ ?_⟩
   ·rintro i v h rfl;have B:=Za4 f (os.take i);have s:(os.take i).length<=64:=by rw[Q5];lia
    have A:=Nat.mul_le_mul s p;have C:=Qw (λq:Int×Int=>decide (q.1=os[i])) f;refine Kd (xs:=f) (emb:=prD) (λq=>if decide (q.1=os[i])=true then some (prD q)else none) (by lia) (λq hq=>⟨_,rfl,Xi (λg=>⟨_,rfl,WQ g⟩) (λg=>WO g)⟩) ?_;rw[Pd (λq:Int×Int=>decide (q.1=os[i]))];refine⟨by rw[WI,WI];lia,?_⟩
    have y:P1 f (os.take (i+1))=P1 f (os.take i)++f.filter λq=>decide (q.1=os[i]):=by
     unfold P1;rw[Qp v,List.flatMap_append];simp
    rw[y,Qb];rfl
   ·rintro h rfl;rw[QL];exact o
def Zav(A:Def K mg "order_cost" Dt ["strips","order"])
  : GI ζ:=by
 refine A.fy Zqp (λp n=>(bc (sE<|xg Yv p ExcR.XU<|a2 (xv 0)<|xv 1)<|bc (sS 2 n xi)<|bc (sF 1<|sO [3,4,5] ExcR.Ak (ie (Ll rfl G.Zp<|az<|pv 1)<|MN<|sz<|Xe 1) (gT 2<|gc (gN 3)<|gc (gN 4) g0)<|b1<|sO [5] ExcR.Ak (iL<|xp (xv 1) (o1<|xo X6 X8 (xv 3) xi) o0) (gN 5)<|b1<|sU 2 n Do<|xf Y2 p<|a3 (xv 0) (xv 4)<|xv 5)<|b1<|sV 2)) (.a ?_)
 ·rintro B R X ⟨f,os,rfl,r,s,u,l⟩;refine⟨rfl,f,os,rfl,r,s,u,?_⟩;cases e:PM f os with
  |some c=>
   rw[e]at l;exact l
  |none=>
   rw[e]at l;refine⟨rfl,Pt _,OC (xs:=os) (emb:=D.int) (λi g=>∃c:Int,g=[some (.bor<|plD f),some (.bor<|.lst<|os.map D.int),some (.sh<|.int c),none,none,none]/\c+KB f f.length (os.drop i)=KB f f.length os) ⟨0,rfl,by simp⟩ ?_ ?_⟩
   ·rintro i x g ⟨c,rfl,o⟩
    have ecut:cutD (os.map D.int) (some ((i:Int)+1)) none=(os.drop (i+1)).map D.int:=by
     rw[Tq,NP os (by omega)];congr 2
    refine⟨rfl,Pt _,rfl,?_⟩;show Bc _ _ _ _ _ (cutD (os.map D.int) (some ((i:Int)+1)) none).length (λk=>S.sub (.own<|cutD (os.map D.int) (some ((i:Int)+1)) none) ((cutD (os.map D.int) (some ((i:Int)+1)) none).getD k .non));rw[ecut];generalize y:os.drop (i+1)=h;refine K6 (xs:=h) (emb:=D.int) (λj g=>g=[some (.bor<|plD f),some (.bor<|.lst<|os.map D.int),some (.sh<|.int (c+((h.take j).map λb=>pcM f os[i] b f.length).sum)),some (.sh<|.int i),some (.sh (.int os[i])),none]) (by simp;rfl) ?_ ?_
    ·rintro j v g rfl;refine⟨f,os[i],h[j],rfl,r,?_⟩
     have z:((h.take (j+1)).map λb=>pcM f os[i] b f.length).sum=((h.take j).map λb=>pcM f os[i] b f.length).sum+pcM f os[i] h[j] f.length:=by
      rw[Qp v,Qb,List.sum_append];simp
     rw[z,←Int.add_assoc];rfl
    ·rintro g rfl;refine⟨_,rfl,?_⟩;rw[QL,←o,QM x,y];simp only[KB];omega
   ·rintro g ⟨c,rfl,o⟩;rw[JS]at o;have e:c=KB f f.length os:=by simp only[KB]at o;omega
    rw[←e]at l;exact l
def Zk8(DD:Def K mg "told_moves" Dn ["strips","order"])
  : Rb ζ:=by
 refine DD.fz Zbp (λA n=>(bc (sE<|xe (Bt Yv (hq<|A ()) TU<|bz (pv 0)<|pv 1)<|Tn<|tz (Xe 0)<|Xe 1)<|bc (sC 2 ["holder","width","order"] [none,none,some 1] n (jL<|xv 0) (gT 2<|gc (gN 0)<|gc (gN 1) g0) f0<|xe (Bf (K:=K) Ql Vu VD (FV (K:=K)) (pv 2)<|az<|pv 0)<|Fe (Xe 2)<|sz<|Xe 0)<|bc (sS 3 n<|xf YG A<|a1<|xv 0)<|bc (sS 4 n<|xL a0)<|bc (sS 5 n<|xf Y3 A<|a2 (xv 3)<|xv 2)<|bc (sW [] Qg (tc KC KE (xv 5) xi)<|bc (sF 5<|sA 4<|xt<|ac (xv 5)<|ac (xx (xv 3)<|xo Kg Kb (xv 5) xi)<|ac (xx (xv 3)<|xv 5)<|ac (xf YH A<|a3 (xv 0) (xv 3)<|xv 5) a0)<|bc (sS 3 n<|xf YI A<|a2 (xv 3)<|xv 5)<|b1<|sS 5 n<|xf Y3 A<|a2 (xv 3)<|xv 2)<|b1<|sV 4)) (.a ?_)
 ·rintro ds R X ⟨l,o,rfl,hF,hz,Q,hR⟩;refine⟨rfl,?_⟩;have hh:=KW l;have hol:=Q.length_eq;have U:=Zd6 hF Q;refine⟨l,o,rfl,hF,by lia,by lia,?_⟩;rw[Fj Q];refine Kd (xs:=l) (emb:=prD) (λq=>some (.int (o.idxOf q.1:Nat))) (by lia) (λq hq=>?_) ?_
  ·exact⟨rfl,⟨_,rfl⟩,o,rfl,U q hq,_,rfl,rfl⟩
  rw[Td (λq:Int×Int=>D.int (o.idxOf q.1:Nat))];have er:l.map (λq:Int×Int=>D.int (o.idxOf q.1:Nat))=(l.map λq:Int×Int=>((o.idxOf q.1:Nat):Int)).map D.int:=by rw[Qy];rfl
  rw[er];generalize L:(l.map λq:Int×Int=>((o.idxOf q.1:Nat):Int))=v;have lrs:v.length=l.length:=by rw[←L,WI]
  have rk:∀m:Int,1<=m/\m<=l.length->v.getD (m-1).toNat 0=rkN l o m:=λm y=>by
   have Y:(m-1).toNat<l.length:=by lia
   rw[←L];unfold rkN hdN;rw[WU,WU,WY,WJ Y];rfl
  have keys:∀r:ZY,r.Perm (Kf 1 l.length)->r.map (λm=>v.getD (m-1).toNat 0)=r.map (rkN l o):=λr u=>Vw λm y=>rk m (runI_mem.mp<|u.mem_iff.mp y)
  have inr:∀r:ZY,r.Perm (Kf 1 l.length)->∀m∈r,1<=m/\m<=v.length:=λr u m y=>by
   have:=runI_mem.mp (u.mem_iff.mp y)
   lia
  refine⟨l,rfl,by lia,by simp,?_⟩;refine⟨_,v,rfl,inr _ (.refl _),by rw[B3];lia,λp0 H=>?_⟩;rw[keys _ (.refl _)]at H
  have e0:∀r:ZY,r.Perm (Kf 1 l.length)->Pg (λm=>v.getD (m-1).toNat 0) r=Pg (rkN l o) r:=λr u=>by
   unfold Pg;congr 1;exact Vw λm y=>by show(v.getD (m-1).toNat 0,(1:Int))=_;rw[rk m (runI_mem.mp<|u.mem_iff.mp y)]
  have b0:=Sn (rkN l o) (Kf 1 l.length)
  have nn:((l.length:Int))*l.length<=1600:=by
   have:=JG (a:=(l.length:Int)) (b:=l.length) (c:=40) (d:=40) (by lia) (by lia) (by lia) (by lia)
   lia
  rw[B3]at b0;refine Fb (λC=>∃(r:ZY) (s:List Mo) (p:Nat),FW (r.map<|rkN l o) p/\r.Perm (Kf 1 l.length)/\(∀E,Mv l (rkN l o) r E->Mv l (rkN l o) (Kf 1 l.length) (s++E))/\(s.length:Int)+Pg (rkN l o) r=Pg (rkN l o) (Kf 1 l.length)/\C=[some (.bor<|plD l),some (.bor<|.lst<|o.map D.int),some (.own<|v.map D.int),some (.own<|r.map D.int),some (.own<|s.map mvD),some (.sh<|.int p)]) mvN ⟨Kf 1 l.length,[],p0,H,.refl _,λE h=>h,by simp,rfl⟩ ?_;rintro C ⟨r,s,p,hw,u,hM,hc,rfl⟩;have hl:r.length=l.length:=by rw[u.length_eq,B3]
  have b1:=Sn (rkN l o) r;refine Xi (λg=>?_) (λg=>?_)
  ·have g':0<((p:Nat):Int):=WM g;obtain⟨h1,B,h3⟩:=hw.2.resolve_left (by lia);rw[WI]at B;rw[BD B,BD (by lia)]at h3;have hs:=Oh (rkN l o) h1 B h3;have x:(Pe r p).Perm (Kf 1 l.length):=(AI h1 B).trans u;have b2:=Sn (rkN l o) (Pe r p)
   have ix:∀(i:Nat) (k:Int),i<r.length->k=(i:Int)->atI (r.map D.int) k=some (.int<|r.getD i 0):=λi k Y e=>by
    rw[e];exact PX (f:=D.int) (NG<|by rw[WU,WJ Y];rfl)
   have lm:(s.map mvD).length=s.length:=WI ..;have M:∀m∈r,1<=m/\m<=l.length:=λm y=>runI_mem.mp (u.mem_iff.mp y);refine⟨_,ix (p-1) _ (by lia) (by lia),_,ix p _ B rfl,?_⟩;refine⟨l,r,p,rfl,hF,M,by lia,by lia,by simp,by lia,?_⟩;refine⟨r,p,rfl,by lia,by lia,by lia,?_⟩;rw[Q6];refine⟨Pe r p,v,rfl,inr _ x,by rw[Zq3 h1 B];lia,λp' J=>?_⟩;rw[keys _ x]at J;refine⟨⟨Pe r p,s++[((p:Int),r.getD (p-1) 0,r.getD p 0,exM l r p)],p',J,x,λE T=>?_,?_,?_⟩,?_⟩
   ·rw[Jm];exact hM _ (.step r p E hw (by lia) T)
   ·rw[WW,QP];lia
   ·rw[Qb];rfl
   ·show(Pg _ (((Pe r p).map D.int).map toI)).toNat<(Pg _ ((r.map D.int).map toI)).toNat;rw[Cy,Cy,Cy,e0 _ x,e0 _ u];lia
  ·have g':¬0<((p:Nat):Int):=λz=>g (WL z);have N:p=0:=by lia
   subst N
   have:=hM [] (.done r hw)
   rw[Q8]at this;exact hR s this
def Zqa(A:Def K mg "find_ring" Ek ["holders","wishes"])
  : L5 ζ:=by
 refine A.fz Zh6 (λu n=>(bc (sS 2 n<|xL a0)<|bc (sO [3,4] Qg (iL<|xe (Ki (DO (K:=K) (w:=w) rfl) (by rfl) G.Zj boot_sorted<|az<|pv 0)<|AK<|sz<|Xe 0) (gN 3)<|bc (sS 4 n<|xf Wf u<|a3 (xv 3) (xv 0)<|xv 1)<|b1<|sI (tp<|wa (tt<|xv 4)<|wA<|tp<|wo (tN<|tt<|xv 2)<|wO<|tc KJ KI (xl G.len<|xv 4)<|xl G.len<|xv 2) (b1<|sF 4<|sS 2 n<|xv 4) b0)<|b1<|sV 2)) (.a ?_)
 ·rintro B R X ⟨h,o,rfl,s,z,y⟩;refine⟨rfl,by simp,h,rfl,by lia,λg v p=>?_⟩;refine⟨rfl,K6 (xs:=g) (emb:=D.int) (λi f=>f=[some (.bor<|.lst<|h.map D.int),some (.bor<|.lst<|o.map prD),some (.own<|.lst []),none,none]) rfl ?_ ?_⟩
  ·rintro i x f rfl;have r:=z g[i] (v.mem_iff.mp<|Qd x);generalize g[i]=l at r ⊢;exact⟨l,h,o,rfl,s,r,rfl⟩
  ·rintro f rfl;exact y
def Zgc(DD:Def K mg "least_costs" Dl ["strips","wishes","pairs"])
  : MU ζ:=by
 refine DD.fz Ir (λN n=>(bc (se (Pu.pz 3 Ir.nd<|Zgv (Kv<|N ()) (Po Ky) Xp)<|Na (Zjb (P0 Xw) Xm)<|Kq 3)<|bc (sO [4,5] Qg (iL<|xp (xf YN N<|a1<|xf Yo N<|a1<|xv 0) (o1 xi) o0) (gN 4)<|bc (sC 5 ["holder","members","wishes"] [none,some 4,some 1] n (je (SY (K:=K)<|pv 4)<|SndI.c<|BB<|Xe 4) (gN 0) (f1<|tt<|xf YO N<|a3 (xv 1) (xv 0)<|xv 2)<|xv 0)<|b1<|se (BS (Kv<|N ()) (pv 3) (pv 4) (Ki (Zed (K:=K) rfl) (by rfl) G.ZR boot_min<|az<|cz ["last","members","least","pairs"] [none,some 4,some 3,some 2] (Tr (K:=K)<|pv 5) ⟨(gk 0),T9,(fz Wk (N ())<|XC (pv 1)<|XC (pv 0)<|XC (pv 2)<|XC (pv 3) Ky)⟩) rfl)<|Fw 3 (Xe 4)<|Zd3<|sz<|PP (Ni<|Xe 5) (Kq 0) Nn<|Tn<|KQ (Xe 1)<|KQ (Xe 0)<|KQ (Xe 2)<|KQ (Xe 3) Xw)<|b1<|sV 3)) (.a ?_)
 ·rintro ds R X ⟨C,v,pa,c,rfl,hF,hz,hw,hu,hc,hL,hR⟩;refine⟨rfl,by simp,_,_,rfl,rfl,?_⟩;refine⟨C,rfl,hF,hz,_,rfl,KW C,?_⟩;have hh:=KW C;have nd:(Xj C).Nodup:=(T6 C).imp (λh=>JB h);generalize Xj C=hs at hh nd hc hL hR ⊢;have hsl:=Sv hs;have x:=Sk hs;have A:=O7 nd;have E:=ID nd
  have y:(X1 hs).length<=1024:=by
   rw[hsl];exact JA (j:=10) (by decide) hh
  obtain⟨T,eT⟩:=Zfw hs;rw[eT]at x A E y hR ⊢;refine⟨rfl,rfl,?_⟩
  have ec:Pu.cutD (List.map tD ([]::T)) (some 1) none=T.map tD:=by
   rw[Tq,NP _ (by decide)];rfl
  rw[ec];refine K6 (xs:=T) (emb:=tD) (λi B=>∃f:List (List Key×V),B=[some (.bor<|.lst<|C.map prD),some (.bor<|.lst<|v.map prD),some (.bor<|.dT pa),some (.own<|.dT f),none,none]/\Tab v c ([]::T.take i) f) ⟨_,rfl,Zrj v c⟩ ?_ ?_
  ·rintro i hi B ⟨f,rfl,L⟩;have em:([]::T)[i+1]?=some T[i]:=by rw[QH,WJ hi]
   have hmem:T[i]∈[]::T:=Qe em;have p:=x _ hmem;have Y:T[i]≠[]:=λe=>(Qv.mp E).1 (e▸Qd hi)
   have U:T[i]∉[]::T.take i:=λz=>by
    rcases WX.mp z with z|z
    ·exact Y z
    ·obtain⟨j,hj,e⟩:=Q9.mp z;rw[Q5]at hj;rw[Jq]at e;exact Vh.mp (Qv.mp E).2 j i (by lia) hi (by lia) e
   have hml:T[i].length<=10:=WV p.length_le hh
   have H:∀l∈T[i],Xz T[i] l∈[]::T.take i:=λl r=>by
    obtain⟨j,hj,e⟩:=A (i+1) _ em l r
    have:([]::T.take i)=([]::T).take (i+1):=by rw[List.take_succ_cons]
    rw[this];refine Qe (i:=j) ?_;rw[Vj hj];exact e
   have ndm:T[i].Nodup:=nd.sublist p
   have hkl:f.length<=1024:=by
    have:=Q4 List.length L.keys
    rw[WI,WI,Qf,Q5]at this;rw[Qf]at y;lia
   have etk:[]::T.take (i+1)=([]::T.take i)++[T[i]]:=by rw[Qp hi];rfl
   rw[etk];generalize T[i]=o at *;obtain⟨vs,Q⟩:=Ij λl r=>L.val _ (H l r);obtain⟨l0,hl0,hl0'⟩:=hL o p Y;refine⟨_,rfl,Kd (s:=.sh .non) (xs:=o) (emb:=D.int) (λh=>if TC v o h=true then some (.int h)else none) (by lia) (λh hm=>?_) ?_⟩
   ·refine⟨o,h,v,rfl,hw,?_⟩;refine Xi (λg=>⟨_,rfl,WQ g⟩) (λg=>WO g)
   ·rw[Pd (λh=>TC v o h)];refine Kd (xs:=o.filter (λh=>TC v o h)) (emb:=D.int) (λl=>some (.int (vs l+((Xz o l).map (c · l)).sum))) (WV (Qw _ _)<|by lia) (λl r=>?_) ?_
    ·obtain⟨u,hl2⟩:=Qn.mp r;exact⟨o,l,f,pa,(c · l),vs l,rfl,by lia,(Q l u).1,λm hm=>hc m (p.subset<|less_sub.subset hm) l (p.subset u),_,rfl,rfl⟩
    ·rw[Td];refine⟨(o.filter (λh=>TC v o h)).map λl=>vs l+((Xz o l).map (c · l)).sum,by rw[Qy];rfl,?_,λM hM hle=>⟨_,_,FZ o,rfl,by lia,_,rfl,L.put U (Zo8 ndm hu (λl r=>(Q l r).2) ?_ ?_)⟩⟩
     ·rw[WI];exact List.length_pos_of_mem (Qn.mpr ⟨hl0,lastM_iff.mpr hl0'⟩)
     ·obtain⟨l,r,e⟩:=Qj.mp hM;obtain⟨u,hl2⟩:=Qn.mp r;exact⟨l,u,hl2,e.symm⟩
     ·intro l r J;exact hle _ (Qj.mpr ⟨l,Qn.mpr ⟨r,J⟩,rfl⟩)
  ·rintro B ⟨f,rfl,L⟩;rw[QL]at L;exact hR f L
def Zdm(s:X7 K (Mk K<|Xo ζ) "__init__" "Village.__init__" Eo ["self","strips"])
  : GN ζ:=by
 refine s.fy Zb8 (λl n=>(bc (sE<|xg We l ExcR.XU<|a1<|xv 1)<|bc (se (EX (pv 0) (P8 Ky) rfl)<|Cr 0 G.Za G.Zb Znz<|PJ Xw)<|bc (se (EX (pv 0) (P8<|az<|KU (Th (K:=K)) (by rfl) G.Zg boot_list<|az<|pv 1) rfl)<|Cr 0 G.Za G.Zd Zcg<|PJ<|sz<|Ta<|sz<|Xe 1)<|b1<|se (EX (pv 0) (P8<|az<|P8 Ky) rfl)<|Cr 0 G.Za G.Ze Zpd<|PJ<|sz<|PJ Xw)) (.c ?_)
 ·rintro o u R X ⟨x,g,rfl,rfl,h,f⟩;refine⟨rfl,g,rfl,h,?_⟩;cases e:Sx g with
  |some c=>
   rw[e]at f;exact⟨_,rfl,⟨rfl,by simp⟩,f⟩
  |none=>
   rw[e]at f;refine⟨by simp,rfl,rfl,by decide,λb1=>?_⟩;refine⟨rfl,by simp,rfl,rfl,by decide,λr=>?_⟩;refine⟨by simp,by simp,rfl,rfl,by decide,λp=>?_⟩;exact⟨_,rfl,⟨rfl,by simp⟩,f b1 r p⟩
def Zra(z:X7 K (X0 K (Xo ζ) "sell") "sell" "Village.sell" DZ ["self","place","holder"])
  : OW ζ:=by
 refine z.fy Zpx (λl n=>(bc (se (Kt<|X3 Yq G.Za (hq<|l ()) ExcR.XU<|pv 0)<|NM<|BK Bp (Xe 0) Xw)<|bc (sS 3 n<|xg Wg l ExcR.XU<|a3 (xe (X3 Yl G.Za (hq<|l ()) X2<|pv 0)<|X5 Pk (Xe 0) Xw) (xv 1)<|xv 2)<|b1<|sF 2<|sF 1<|sF 3<|se (Kj<|P2 Yr G.Za (hq<|l ()) X2 (pv 0)<|dz (Po<|dz Nq (pv 1)<|pv 2) (pv 3)<|X3 Ym G.Za (hq<|l ()) X2<|pv 0)<|Tc<|Ss 0 Bx<|uz (P0<|uz Nb (Xe 1)<|Xe 2) (Xe 3)<|X5 P9 (Xe 0) Xw)) (.c ?_)
 ·rintro o A R X ⟨x,b1,y,v,bk,fs,r,f,w,p,h,rfl,rfl,u,B,hw,s,g⟩;refine⟨rfl,?_⟩;unfold Ft at g;refine⟨rfl,rfl,bk,fs++[f],r++[w],rfl,?_⟩;unfold ND;by_cases c:100<=bk.length
  ·rw[WQ c]at g ⊢;exact⟨_,rfl,⟨rfl,by simp⟩,g⟩
  ·rw[WO c]at g ⊢;refine⟨rfl,rfl,bk,fs,r++[w],f,rfl,f,p,h,rfl,s,?_⟩;cases e:KN f p h with
   |some c=>
    rw[e]at g;exact⟨_,rfl,⟨rfl,by simp⟩,g⟩
   |none=>
    rw[e]at g;refine⟨rfl,rfl,by simp,rfl,rfl,bk,fs++[f],r,w,rfl,?_⟩;exact⟨x,b1,y,v,bk,fs++[f],r++[w],("sell",[p,h]),TB f p h,w,rfl,rfl,u,by rw[WW];simp;lia,by rw[WW];simp;lia,_,rfl,⟨rfl,by simp⟩,g⟩
def Zmd(z:X7 K (X0 K (Xo ζ) "part") "part" "Village.part" DG ["self","place","width"])
  : HD ζ:=by
 refine z.fy Zan (λl n=>(bc (se (Kt<|X3 Yq G.Za (hq<|l ()) ExcR.XU<|pv 0)<|NM<|BK Bp (Xe 0) Xw)<|bc (sS 3 n<|xg Wh l ExcR.XU<|a3 (xe (X3 Yl G.Za (hq<|l ()) X2<|pv 0)<|X5 Pk (Xe 0) Xw) (xv 1)<|xv 2)<|b1<|sF 2<|sF 1<|sF 3<|se (Kj<|P2 Yr G.Za (hq<|l ()) X2 (pv 0)<|dz (Po<|dz Nq (pv 1)<|pv 2) (pv 3)<|X3 Ym G.Za (hq<|l ()) X2<|pv 0)<|Tc<|Ss 0 Bx<|uz (P0<|uz Nb (Xe 1)<|Xe 2) (Xe 3)<|X5 P9 (Xe 0) Xw)) (.c ?_)
 ·rintro o A R X ⟨x,b1,y,v,bk,fs,r,f,w,p,h,rfl,rfl,u,B,hw,s,g⟩;refine⟨rfl,?_⟩;unfold FP at g;refine⟨rfl,rfl,bk,fs++[f],r++[w],rfl,?_⟩;unfold ND;by_cases c:100<=bk.length
  ·rw[WQ c]at g ⊢;exact⟨_,rfl,⟨rfl,by simp⟩,g⟩
  ·rw[WO c]at g ⊢;refine⟨rfl,rfl,bk,fs,r++[w],f,rfl,f,p,h,rfl,s,?_⟩;cases e:Kn f p h with
   |some c=>
    rw[e]at g;exact⟨_,rfl,⟨rfl,by simp⟩,g⟩
   |none=>
    rw[e]at g;refine⟨rfl,rfl,by simp,rfl,rfl,bk,fs++[f],r,w,rfl,?_⟩;exact⟨x,b1,y,v,bk,fs++[f],r++[w],("part",[p,h]),PR f p h,w,rfl,rfl,u,by rw[WW];simp;lia,by rw[WW];simp;lia,_,rfl,⟨rfl,by simp⟩,g⟩
def Zas(y:X7 K (X0 K (Xo ζ) "unite") "unite" "Village.unite" Ee ["self","place"])
  : Ha ζ:=by
 refine y.fy Zm6 (λh n=>(bc (se (Kt<|X3 Yq G.Za (hq<|h ()) ExcR.XU<|pv 0)<|NM<|BK Bp (Xe 0) Xw)<|bc (sS 2 n<|xg Wi h ExcR.XU<|a2 (xe (X3 Yl G.Za (hq<|h ()) X2<|pv 0)<|X5 Pk (Xe 0) Xw)<|xv 1)<|b1<|sF 1<|sF 2<|se (Kj<|P2 Yr G.Za (hq<|h ()) X2 (pv 0)<|dz (Po<|bz Nq<|pv 1) (pv 2)<|X3 Ym G.Za (hq<|h ()) X2<|pv 0)<|Tc<|Ss 0 Bx<|uz (P0<|tz Nb<|Xe 1) (Xe 2)<|X5 P9 (Xe 0) Xw)) (.c ?_)
 ·rintro o z R X ⟨x,b1,v,u,bk,fs,l,f,w,p,rfl,rfl,s,A,hw,r,g⟩;refine⟨rfl,?_⟩;unfold Fd at g;refine⟨rfl,rfl,bk,fs++[f],l++[w],rfl,?_⟩;unfold ND;by_cases c:100<=bk.length
  ·rw[WQ c]at g ⊢;exact⟨_,rfl,⟨rfl,by simp⟩,g⟩
  ·rw[WO c]at g ⊢;refine⟨rfl,rfl,bk,fs,l++[w],f,rfl,f,p,rfl,r,?_⟩;cases e:XZ f p with
   |some c=>
    rw[e]at g;exact⟨_,rfl,⟨rfl,by simp⟩,g⟩
   |none=>
    rw[e]at g;refine⟨rfl,rfl,by simp,rfl,rfl,bk,fs++[f],l,w,rfl,?_⟩;exact⟨x,b1,v,u,bk,fs++[f],l++[w],("unite",[p]),PD f p,w,rfl,rfl,s,by rw[WW];simp;lia,by rw[WW];simp;lia,_,rfl,⟨rfl,by simp⟩,g⟩
def Zo3(z:X7 K (X0 K (Xo ζ) "wish") "wish" "Village.wish" Ez ["self","ahead","behind"])
  : Mf ζ:=by
 refine z.fy Zn9 (λl n=>(bc (se (Kt<|X3 Yq G.Za (hq<|l ()) ExcR.XU<|pv 0)<|NM<|BK Bp (Xe 0) Xw)<|bc (sS 3 n<|xg Wj l ExcR.XU<|a3 (xe (X3 Ym G.Za (hq<|l ()) X2<|pv 0)<|X5 P9 (Xe 0) Xw) (xv 1)<|xv 2)<|b1<|sF 2<|sF 1<|sF 3<|se (Kj<|P2 Yr G.Za (hq<|l ()) X2 (pv 0)<|dz (Po<|dz Nq (pv 1)<|pv 2) (X3 Yl G.Za (hq<|l ()) X2<|pv 0)<|pv 3)<|Tc<|Ss 0 Bx<|uz (P0<|uz Nb (Xe 1)<|Xe 2) (X5 Pk (Xe 0) Xw)<|Xe 3)) (.c ?_)
 ·rintro o A R X ⟨x,b1,y,v,bk,fs,r,f,w,p,h,rfl,rfl,u,B,hw,s,g⟩;refine⟨rfl,?_⟩;unfold Ad at g;refine⟨rfl,rfl,bk,fs++[f],r++[w],rfl,?_⟩;unfold ND;by_cases c:100<=bk.length
  ·rw[WQ c]at g ⊢;exact⟨_,rfl,⟨rfl,by simp⟩,g⟩
  ·rw[WO c]at g ⊢;refine⟨rfl,rfl,bk,fs++[f],r,w,rfl,w,p,h,rfl,s,?_⟩;cases e:Ke w p h with
   |some c=>
    rw[e]at g;exact⟨_,rfl,⟨rfl,by simp⟩,g⟩
   |none=>
    rw[e]at g;refine⟨rfl,rfl,by simp,rfl,rfl,bk,fs,r++[w],f,rfl,?_⟩;exact⟨x,b1,y,v,bk,fs++[f],r++[w],("wish",[p,h]),f,w++[(p,h)],rfl,rfl,u,by rw[WW];simp;lia,by rw[WW];simp;lia,_,rfl,⟨rfl,by simp⟩,g⟩
def Zey(v:X7 K (X0 K (Xo ζ) "broken") "broken" "Village.broken" DK ["self","order"])
  : HE ζ:=by
 refine v.fy Zq0 (λg n=>(bc (sE<|xg Yv g ExcR.XU<|a2 (xe (X3 Yl G.Za (hq<|g ()) X2<|pv 0)<|X5 Pk (Xe 0) Xw)<|xv 1)<|b1<|sR<|xf YK g<|a2 (xv 1)<|xe (X3 Ym G.Za (hq<|g ()) X2<|pv 0)<|X5 P9 (Xe 0) Xw)) (.a ?_)
 ·rintro x R X ⟨bk,fs,o,f,w,os,rfl,u,r,s,hw,l⟩;refine⟨rfl,rfl,rfl,bk,fs,o++[w],f,rfl,f,os,rfl,u,r,s,?_⟩;cases e:PM f os with
  |some c=>
   rw[e]at l;exact l
  |none=>
   rw[e]at l
   have p:os.Perm (Xj f):=by
    unfold PM at e;split at e
    ·rename_i z;exact List.isPerm_iff.mp z
    ·cases e
   exact⟨rfl,rfl,bk,fs++[f],o,w,rfl,os,w,rfl,p.symm.nodup ((T6 f).imp (λh=>JB h)),by have:=p.length_eq;have:=KW f;omega,hw,l⟩
def Zc9(s:Def K mg "_law_book_is" Dk ["_law_found","_law_due"])
  : OP ζ:=by
 refine s.fz Zr1 (λg n=>(bc (sI (tp<|wo (tN<|tt<|xe (Ki (Tt (K:=K)) (by rfl) G.Zc Va<|bz (pv 0)<|T8 (v:=.ty "list") rfl G.Zg boot_list rfl)<|T1<|tz (Xe 0) Tu)<|wO<|tn g (xl G.len<|xv 0)<|xl G.len<|xv 1) (b1<|sR xb) b0)<|bc (sO [2] Qg (ir G.Zf<|a1<|xl G.len<|xv 1) (gN 2)<|b1<|sI (tN<|tt<|xf Wo g<|a2 (xx (xv 0)<|xv 2)<|xx (xv 1)<|xv 2) (b1<|sR xb) b0)<|b1<|sR xb)) (.a ?_)
 ·rintro y R X ⟨bk,rfl,hq,u,r⟩;refine⟨rfl,?_⟩;have x:(bk.map dD).length=bk.length:=WI ..;refine⟨_,.same _,XI (TL rfl ?_)⟩;refine⟨⟨by lia,by lia⟩,PZ (λi f=>f=[some (.bor<|.lst<|bk.map dD),some (.bor<|.lst<|bk.map dD),none]) rfl ?_ ?_⟩
  ·rintro i f p rfl;have o:i<(((bk.map dD).length:Nat):Int).toNat:=p;have ez:(0:Int)+(i:Int)=(i:Int):=by lia
   have h:i<bk.length:=by lia
   have l:atI (bk.map dD) (0+(i:Int))=some (dD bk[i]):=by rw[ez];exact Ae h
   refine⟨_,l,_,l,bk[i],?_,hq _ (Qd h),XI rfl⟩;show[(arg (dD bk[i])).d,(arg (dD bk[i])).d]=_;rw[BR];rfl
  ·rintro f rfl;exact r
def Zg5(M:Def K mg "_law_opening" A1 ["_law_script","_law_menu_here"])
  : HN ζ:=by
 refine M.fz Gs (λl n=>(bc (sS 2 n<|xf Ys l<|a2 (xf Yn l<|a2 (xv 0) xi) xi)<|bc (se (λ{_}=>(@Pu.pz _ _ _ _ _ _ 3 Gs.nd (@HS _ _ _ _ _ _ _ (Ia (K:=K)) (@P8 _ _ _ _<|@XC _ _ _ _ _ Xp (@XC _ _ _ _ _ Xp (@XC _ _ _ _ _ Xp (@XC _ _ _ _ _ Xp (@XC _ _ _ _ _ Xp (@XC _ _ _ _ _ Xp (@XC _ _ _ _ _ Xp (@XC _ _ _ _ _ Xp (@XC _ _ _ _ _ (jx K (pv 1) Xp) Ky rfl) rfl) rfl) rfl) rfl) rfl) rfl) rfl) rfl) (Nr XB (pv 2) Xp) (λ_ _=>rfl)) rfl (by first|exact Or.inl rfl|exact Or.inr rfl) rfl (by first|exact .inl rfl|exact .inr rfl|assumption)))<|Na (XG (PJ<|KQ Xm<|KQ Xm<|KQ Xm<|KQ Xm<|KQ Xm<|KQ Xm<|KQ Xm<|KQ Xm<|KQ (XG (Xe 1) Xm) Xw)<|XA (Xe 2) Xm)<|Kq 3)<|bc (sS 4 n<|xL a0)<|bc (sO [5,6] Qg (ir G.Zf<|a1<|xv 3) (gN 5)<|bc (sS 6 n<|xf Y8 l<|a2 (xf Ys l<|a2 (xv 2)<|xo X6 X8 xi<|xv 5)<|xv 1)<|bj (sI (tq l (xo XB XA (xv 2) xi) xi) (b1<|sS 6 n<|xt<|a2 (xo X6 X8 xi<|xo XB XA (xo X6 X8 (xv 2)<|xv 5) xi)<|xo X6 X8 xi<|xo XB XA (xo X6 X8 (xo X6 X8 (xo X6 X8 (xv 2)<|xv 5) xi)<|xo Kl Km (xv 5) xi) xi) b0)<|bj (sI (tq l (xo XB XA (xv 2) xi) xi) (b1<|sS 6 n<|xt<|a2 (xf Yp l<|a2 (xv 1)<|xv 5)<|xf Yp l<|a2 (xv 1)<|xo XB XA (xo X6 X8 (xv 5) xi)<|xv 3) b0)<|b1<|sA 4<|xt<|a3 xs (xx (xv 6) xi)<|xx (xv 6) xi)<|b1<|sV 4)) (.a ?_)
 ·rintro ds R X ⟨r,m,rfl,A,L⟩;refine⟨rfl,?_⟩;have o:=A;obtain⟨a,b,c,d,e,rfl,ha,Y,U,T,Q⟩:=A;refine⟨r,1,rfl,by decide,_,_,rfl,?_⟩;generalize mixP (r.getD (1:Int).toNat 0) 300=p;have B:0<=p % 9/\p % 9<9:=by lia
  obtain⟨many,em,N⟩:∃v:Int,atI ([0,1,2,3,4,6,9,24,a].map D.int) (p % 9)=some (.int v)/\0<=v/\v<=24:=by
   refine⟨_,KY (f:=D.int) (xs:=[0,1,2,3,4,6,9,24,a]) B.1 B.2,?_⟩
   have s:∀v∈([0,1,2,3,4,6,9,24,a]:ZY),0<=v/\v<=24:=by
    intro v z;simp at z;rcases z with rfl|rfl|rfl|rfl|rfl|rfl|rfl|rfl|rfl<;>lia
   exact s _ (Qd _)
  refine⟨_,rfl,by simp,(by show(0:Int)<9;decide),_,em,by simp,⟨by lia,by lia⟩,?_⟩;refine PZ (λi g=>∃h:ZX,h.length=i/\g=[some (.bor<|.scr r),some (.bor<|.lst (([a,b,c,d,e]:ZY).map D.int)),some (.sh<|.int p),some (.sh<|.int many),some (.own (h.map λq=>dD (Dd.wish q.1 q.2).q)),none,none]) ⟨[],rfl,rfl⟩ ?_ ?_
  ·rintro i g J ⟨h,hq,rfl⟩;have H:i<many.toNat:=J;have E:(h.map λq=>dD (Dd.wish q.1 q.2).q).length=h.length:=WI ..;refine⟨_,_,rfl,_,_,rfl,o,λu p2=>?_⟩;refine B8 (λg=>∃(x y:Int),g=[some (.bor<|.scr r),some (.bor<|.lst (([a,b,c,d,e]:ZY).map D.int)),some (.sh<|.int p),some (.sh<|.int many),some (.own (h.map λq=>dD (Dd.wish q.1 q.2).q)),some (.sh<|.int (0+(i:Int))),some (.sh<|prD (x,y))]) ?_ ?_
   ·refine⟨(by show(0:Int)<9;decide),Xi (λ_=>?_) (λ_=>⟨u,p2,rfl⟩)⟩;exact⟨(by show(0:Int)<10;decide),⟨by decide,by decide⟩,(by show(0:Int)<10;decide),by simp,_,_,rfl⟩
   ·rintro g ⟨u,p2,rfl⟩;refine B8 (λg=>∃(x y:Int),g=[some (.bor<|.scr r),some (.bor<|.lst (([a,b,c,d,e]:ZY).map D.int)),some (.sh<|.int p),some (.sh<|.int many),some (.own (h.map λq=>dD (Dd.wish q.1 q.2).q)),some (.sh<|.int (0+(i:Int))),some (.sh<|prD (x,y))]) ?_ ?_
    ·refine⟨(by show(0:Int)<9;decide),Xi (λ_=>?_) (λ_=>⟨u,p2,rfl⟩)⟩;exact⟨_,_,rfl,o,λh1 _ _ _=>⟨(by show 0<many;lia),_,_,rfl,o,λh2 _ _ _=>⟨by simp,_,_,rfl⟩⟩⟩
    ·rintro g ⟨x,y,rfl⟩;refine⟨_,KP _ _,_,Et _ _ (.inr rfl),by simp,by lia,?_⟩;exact⟨h++[(x,y)],by rw[WW,hq];rfl,by rw[Qb];rfl⟩
  ·rintro g ⟨h,hq,rfl⟩;have C:h.length=many.toNat:=hq;exact L h (by lia)
def Zm4(DD:Def K mg "_law_deed" Ca ["_law_cell","_law_menu_here","_law_now"])
  : GQ ζ:=by
 refine DD.fz Zae (λl n=>(bc (sS 3 n<|xo XB XA (xv 0) xi)<|bc (sS 4 n<|xo Kl Km (xv 0) xi)<|bc (sS 5 n<|xf Wa l<|a2 (xv 4)<|xx (xv 2) xi)<|bc (sS 6 n<|xo Kl Km (xo Kl Km (xv 4) xi)<|xe (Ki (M0 rfl) (by rfl) G.ZG boot_max<|bz Xp<|ln K G.len<|jx K (pv 2) Xp)<|IK<|tz Xm<|NV<|sz<|XG (Xe 2) Xm)<|bc (sI (tc KJ KI (xv 3) xi) (b1<|sF 5<|sR<|xt<|a3 xs (xv 5)<|xf Yy l<|a2 (xv 6)<|xf Yp l<|a2 (xv 1)<|xo XB XA (xo Kl Km (xv 6) xi)<|xx (xv 1) xi) b0)<|bc (sI (tc KJ KI (xv 3) xi) (b1<|sF 5<|sR<|xt<|a3 xs (xv 5)<|xf Wb l<|a3 (xv 6) (xx (xv 2) xi)<|xv 5) b0)<|bc (sI (tq l (xv 3) xi) (b1<|sF 5<|sR<|xt<|a2 xs<|xv 5) b0)<|bc (sS 7 n<|xf Y8 l<|a2 (xv 4)<|xv 1)<|bj (sI (tp<|wa (tq l (xv 3) xi)<|wa (tc KC KE (xo XB XA (xv 4) xi) xi)<|wA<|te (P5 (Zir (K:=K)<|show _<cLine from(l ()).units0) (jx K (pv 2) Xp) (P8 Ky)<|KZ _)<|Pa<|SO (XG (Xe 2) Xm)<|PJ Xw) (b1<|sS 7 n<|xx (xx (xv 2) xi)<|xo XB XA (xo Kl Km (xv 4) xi)<|xl G.len<|xx (xv 2) xi) b0)<|bc (sI (tc KJ KI (xv 3) xi) (b1<|sR<|xt<|a3 (xx (xL<|a2 xs xs)<|xo Kl Km (xv 3) xi) (xx (xv 7) xi)<|xx (xv 7) xi) b0)<|b1<|sR<|xt<|a1 xs)) (.a ?_)
 ·rintro ds R X ⟨c,m,f,w,Q,rfl,N,M,hF,hw,u,hB⟩;refine⟨rfl,?_⟩;have x:=N;have o:atI (plD f::plD w::Q) 1=some (plD w):=Br (by decide) rfl;have hl:(f.map prD).length=f.length:=WI ..;have Y:(w.map prD).length=w.length:=WI ..;have A:∀z:Int,0<(if z>1 then z else 1)/\((if z>1 then z else 1)=z\/(if z>1 then z else 1)=1):=λz=>by split<;>lia
  have s:=A (((f.map prD).length:Nat):Int);refine⟨(by show(0:Int)<9;decide),⟨by decide,by decide⟩,_,KP _ _,_,f,rfl,M,λp=>?_⟩;refine⟨⟨by decide,by decide⟩,_,KP _ _,⟨s.1,Int.lt_of_le_of_lt (b:=1000) (by rcases s.2 with w|w<;>rw[w]<;>lia) (by decide)⟩,?_⟩
  obtain⟨L,m1,m2,m3,m4,em,ha,hb,hc,hd,he⟩:=N;have U:atI (m.map D.int) 0=some (.int L):=by rw[em];rfl
  refine Xi (λ_=>?_) (λ_=>Xi (λ_=>?_) (λ_=>Xi (λ_=>?_) (λg4=>?_)))
  ·exact⟨⟨by decide,by decide⟩,_,U,(by show 0<L;lia),m,_,rfl,x,λh _ _ _=>⟨_,_,rfl,λv=>⟨by simp,u (.sell p v)⟩⟩⟩
  ·exact⟨_,KP _ _,_,f,p,rfl,M,hF,λv=>⟨by simp,u (.part p v)⟩⟩
  ·exact⟨by simp,u (.unite p)⟩
  ·refine⟨_,m,rfl,x,λa b=>?_⟩;refine B8 (λr=>∃(a b:Int) (J H E:Option S),r=[some (.sh<|.int c),some (.bor<|.lst<|m.map D.int),some (.bor<|.tup (plD f::plD w::Q)),some (.sh<|.int (c % 9)),J,H,E,some (.sh<|prD (a,b))]) ?_ ?_
   ·refine Xi (λ_=>⟨(by show(0:Int)<4;decide),Xi (λ_=>⟨_,o,by simp,?_⟩) (λ_=>XI ⟨a,b,_,_,_,rfl⟩)⟩) (λ_=>XI ⟨a,b,_,_,_,rfl⟩);have C:(w.map prD).isEmpty=decide (w=[]):=by cases w<;>simp
    show if (!(w.map prD).isEmpty)=true then _ else _;rw[C];refine Xi (λg=>?_) (λg=>⟨a,b,_,_,_,rfl⟩);have y:w≠[]:=λz=>by rw[WL z]at g;cases g
    have hp:0<w.length:=VA.mpr y;have T:=Int.emod_nonneg (c / 9 / 4) (show(((w.map prD).length:Nat):Int)≠0 by lia);have q2:=JO (c / 9 / 4) (show 0<(((w.map prD).length:Nat):Int) by lia);exact⟨_,o,⟨by decide,by decide⟩,_,o,(by show 0<(((w.map prD).length:Nat):Int);lia),_,KY (f:=prD) (xs:=w) T (by lia),_,_,_,_,_,rfl⟩
   ·rintro r ⟨a,b,J,H,E,rfl⟩;refine Xi (λg=>?_) (λg=>⟨by simp,hB⟩);have g':c % 9<8:=WM g;have hk:c % 9 / 7=0\/c % 9 / 7=1:=by lia
    have ex:∃k:Str,atI [D.str "wish",.str "drop"] (c % 9 / 7)=some (.str k)/\(k=("wish" : Str)\/k=("drop" : Str)):=by
     rcases hk with e|e<;>rw[e]
     ·exact⟨_,rfl,.inl rfl⟩
     ·exact⟨_,rfl,.inr rfl⟩
    obtain⟨k,ek,B⟩:=ex;refine⟨by simp,⟨by decide,by decide⟩,_,ek,_,KP _ _,_,Et _ _ (.inr rfl),by simp,?_⟩;rcases B with rfl|rfl
    ·exact u (.wish a b)
    ·exact u (.drop a b)
def Zks(x:Def K mg "check_no_ring" DP ["strips","wishes"])
  : Oi ζ:=by
 refine x.fz Zp6 (λg n=>(bc (sS 2 n<|xf YA g<|a2 (xf Yo g<|a1<|xv 0)<|xv 1)<|b1<|sI (tt<|xv 2) (b1<|se Zkp Zsd) b0)) (.a ?_)
 ·rintro y R X ⟨f,h,rfl,v,o,p,u,s⟩;refine⟨rfl,?_⟩;exact⟨f,rfl,v,o,_,h,rfl,WV (KW f) (by decide),λl r t=>RT p u r _ t (WT _),XI (A:=False) s⟩
def Zdz(x:X7 K (X0 K (Xo ζ) "ring") "ring" "Village.ring" E5 ["self"])
  : Ri ζ:=by
 refine x.fz Zg3 (λg n=>(b1<|sR<|xf YA g<|a2 (xf Yo g<|a1<|xe (X3 Yl G.Za (hq<|g ()) X2<|pv 0)<|X5 Pk (Xe 0) Xw)<|xe (X3 Ym G.Za (hq<|g ()) X2<|pv 0)<|X5 P9 (Xe 0) Xw)) (.a ?_)
 ·rintro y R X ⟨bk,fs,h,f,w,rfl,v,o,p,u,s⟩;refine⟨rfl,rfl,rfl,bk,fs,h++[w],f,rfl,f,rfl,v,o,rfl,rfl,bk,fs++[f],h,w,rfl,?_⟩;exact⟨_,w,rfl,WV (KW f) (by decide),λl r t=>RT p u r _ t (WT _),s⟩
def Zi5(s:X7 K (X0 K (Xo ζ) "price") "price" "Village.price" Cs ["self","order"])
  : Lf ζ:=by
 refine s.fy Zao (λg n=>(b1<|sR<|xg Wu g ExcR.XU<|a2 (xe (X3 Yl G.Za (hq<|g ()) X2<|pv 0)<|X5 Pk (Xe 0) Xw)<|xv 1)) (.a ?_)
 ·rintro u R X ⟨bk,fs,h,f,os,rfl,r,l,o,p⟩;refine⟨rfl,?_⟩;exact⟨rfl,rfl,bk,fs,h,f,rfl,f,os,rfl,r,l,o,p⟩
def Zj0(B:Def K mg "_law_call" EL ["_law_village","_law_deed_here"])
  : Hf ζ:=by
 refine B.fy Zb1 (λu n=>(bc (sI (tq u (xx (xv 1) xi) xs) (b1<|se (Kj<|P2 Wx G.Za (hq<|u ()) ExcR.XU (pv 0)<|bz (jx K (pv 1) Xp)<|jx K (pv 1) Xp)<|Tc<|BI 0 Zgh<|tz (XG (Xe 1) Xm)<|XG (Xe 1) Xm) b0)<|bc (sI (tq u (xx (xv 1) xi) xs) (b1<|se (Kj<|P2 Wy G.Za (hq<|u ()) ExcR.XU (pv 0)<|bz (jx K (pv 1) Xp)<|jx K (pv 1) Xp)<|Tc<|BI 0 Zd8<|tz (XG (Xe 1) Xm)<|XG (Xe 1) Xm) b0)<|bc (sI (tq u (xx (xv 1) xi) xs) (b1<|se (Kj<|P2 Wz G.Za (hq<|u ()) ExcR.XU (pv 0)<|az<|jx K (pv 1) Xp)<|Tc<|BI 0 Zqu<|sz<|XG (Xe 1) Xm) b0)<|bc (sI (tq u (xx (xv 1) xi) xs) (b1<|se (Kj<|P2 W1 G.Za (hq<|u ()) ExcR.XU (pv 0)<|bz (jx K (pv 1) Xp)<|jx K (pv 1) Xp)<|Tc<|BI 0 Zag<|tz (XG (Xe 1) Xm)<|XG (Xe 1) Xm) b0)<|b1<|se (Kj<|P2 Wm G.Za (hq<|u ()) ExcR.XU (pv 0)<|bz (jx K (pv 1) Xp)<|jx K (pv 1) Xp)<|Tc<|BI 0 Znm<|tz (XG (Xe 1) Xm)<|XG (Xe 1) Xm)) (.c ?_)
 ·rintro o C R X ⟨x,b1,s,r,bk,fs,l,f,w,d,rfl,rfl,y,v,hw,z,A,g⟩;refine⟨rfl,?_⟩;cases d with
  |sell p h=>
   refine⟨_,rfl,?_⟩;refine⟨rfl,rfl,_,rfl,_,rfl,x,b1,s,r,bk,fs,l,f,w,p,h,rfl,rfl,y,v,hw,z,?_⟩;have g:Ka (Ft bk f p h) (X<|vO (ExcR.Xq mg "Village") x b1 s r bk (fs++[f]) (l++[w])) (R (vO (ExcR.Xq mg "Village") x b1 s r (bk++[(Dd.sell p h).q]) (fs++[f]++[(Dd.sell p h).fld f]) (l++[w]++[(Dd.sell p h).wsh w]))<|.int (bk.length+1)):=g;cases e:Ft bk f p h with
   |some c=>rw[e]at g;exact⟨_,rfl,⟨rfl,by simp⟩,g⟩
   |none=>rw[e]at g;exact⟨_,rfl,⟨rfl,by simp⟩,g⟩
  |part p h=>
   refine⟨_,rfl,_,rfl,?_⟩;refine⟨rfl,rfl,_,rfl,_,rfl,x,b1,s,r,bk,fs,l,f,w,p,h,rfl,rfl,y,v,hw,z,?_⟩;have g:Ka (FP bk f p h) (X<|vO (ExcR.Xq mg "Village") x b1 s r bk (fs++[f]) (l++[w])) (R (vO (ExcR.Xq mg "Village") x b1 s r (bk++[(Dd.part p h).q]) (fs++[f]++[(Dd.part p h).fld f]) (l++[w]++[(Dd.part p h).wsh w]))<|.int (bk.length+1)):=g;cases e:FP bk f p h with
   |some c=>rw[e]at g;exact⟨_,rfl,⟨rfl,by simp⟩,g⟩
   |none=>rw[e]at g;exact⟨_,rfl,⟨rfl,by simp⟩,g⟩
  |unite p=>
   refine⟨_,rfl,_,rfl,_,rfl,?_⟩;refine⟨rfl,rfl,_,rfl,x,b1,s,r,bk,fs,l,f,w,p,rfl,rfl,y,v,hw,z,?_⟩;have g:Ka (Fd bk f p) (X<|vO (ExcR.Xq mg "Village") x b1 s r bk (fs++[f]) (l++[w])) (R (vO (ExcR.Xq mg "Village") x b1 s r (bk++[(Dd.unite p).q]) (fs++[f]++[(Dd.unite p).fld f]) (l++[w]++[(Dd.unite p).wsh w]))<|.int (bk.length+1)):=g;cases e:Fd bk f p with
   |some c=>rw[e]at g;exact⟨_,rfl,⟨rfl,by simp⟩,g⟩
   |none=>rw[e]at g;exact⟨_,rfl,⟨rfl,by simp⟩,g⟩
  |wish p h=>
   refine⟨_,rfl,_,rfl,_,rfl,_,rfl,?_⟩;refine⟨rfl,rfl,_,rfl,_,rfl,x,b1,s,r,bk,fs,l,f,w,p,h,rfl,rfl,y,v,hw,A,?_⟩;have g:Ka (Ad bk w p h) (X<|vO (ExcR.Xq mg "Village") x b1 s r bk (fs++[f]) (l++[w])) (R (vO (ExcR.Xq mg "Village") x b1 s r (bk++[(Dd.wish p h).q]) (fs++[f]++[(Dd.wish p h).fld f]) (l++[w]++[(Dd.wish p h).wsh w]))<|.int (bk.length+1)):=g;cases e:Ad bk w p h with
   |some c=>rw[e]at g;exact⟨_,rfl,⟨rfl,by simp⟩,g⟩
   |none=>rw[e]at g;exact⟨_,rfl,⟨rfl,by simp⟩,g⟩
  |drop p h=>
   refine⟨_,rfl,_,rfl,_,rfl,_,rfl,?_⟩;refine⟨rfl,rfl,_,rfl,_,rfl,x,b1,s,r,bk,fs,l,f,w,p,h,rfl,rfl,y,v,hw,A,?_⟩;have g:Ka (Ai bk w p h) (X<|vO (ExcR.Xq mg "Village") x b1 s r bk (fs++[f]) (l++[w])) (R (vO (ExcR.Xq mg "Village") x b1 s r (bk++[(Dd.drop p h).q]) (fs++[f]++[(Dd.drop p h).fld f]) (l++[w]++[(Dd.drop p h).wsh w]))<|.int (bk.length+1)):=g;cases e:Ai bk w p h with
   |some c=>rw[e]at g;exact⟨_,rfl,⟨rfl,by simp⟩,g⟩
   |none=>rw[e]at g;exact⟨_,rfl,⟨rfl,by simp⟩,g⟩
def Zo6(z:Def K mg "_law_stands" AN ["_law_village","_law_past"])
  : HH ζ:=by
 refine z.fz Zc4 (λg n=>(bc (sI (tN<|tt<|xf Y7 g<|a2 (xe (X3 Yl G.Za (hq<|g ()) X2<|pv 0)<|X5 Pk (Xe 0) Xw)<|xx (xx (xv 1)<|xe (Kw Kx Xp)<|K0 Xm) xi) (b1<|sR xb) b0)<|bc (sI (tN<|tt<|xf Y7 g<|a2 (xe (X3 Ym G.Za (hq<|g ()) X2<|pv 0)<|X5 P9 (Xe 0) Xw)<|xx (xx (xv 1)<|xe (Kw Kx Xp)<|K0 Xm) xi) (b1<|sR xb) b0)<|b1<|sR<|xf W3 g<|a2 (xe (X3 Yx G.Za (hq<|g ()) X2<|pv 0)<|X5 AQ (Xe 0) Xw)<|xe (cz ["_law_one"] [none] (Tr (K:=K)<|Du (AY (K:=K)) (pv 1) (Fi Xp) Lc) ⟨(gk 0),T9,(jx K (pv 0) Xp)⟩)<|PP (Zqk (Xe 1) (Ag Xm) G2) (Kq 0) Nn<|XG (Xe 0) Xm)) (.a ?_)
 ·rintro L R X ⟨f0,f,rfl,E,s,hw,u⟩;refine⟨rfl,?_⟩;obtain⟨fs,p,B⟩:=FU f0 f;obtain⟨r,l,A⟩:=BZ f;obtain⟨d,o⟩:=BN f0 f;have J:(Xn f0 f).length<=1000:=s _ (by rw[p];simp);have H:(Xr f).length<=1000:=hw _ (by rw[l];simp);have C:=Sd f
  have y:∀q∈bkH f,q.2.length<=100:=λq hq=>by
   unfold bkH at hq;obtain⟨h,_,rfl⟩:=Qj.mp hq
   have:=h.1.q_len
   lia
  have v:cutD (XO f0 f) (some 1) none=f.map Bb:=by
   rw[NP _ (by decide)];rfl
  refine⟨rfl,rfl,bkH f,fs,wsH f,Xn f0 f,by rw[←p];rfl,?_⟩;refine⟨_,o,_,rfl,Xn f0 f,rfl,by lia,XI ?_⟩;refine⟨rfl,rfl,bkH f,fsH f0 f,r,Xr f,by rw[←l];rfl,?_⟩;refine⟨_,o,_,rfl,Xr f,rfl,by lia,XI ?_⟩;refine⟨rfl,rfl,bkH f,fsH f0 f,wsH f,rfl,?_⟩;show SN _ _ _ _ _ (cutD (XO f0 f) (some 1) none).length (λi=>arg ((cutD (XO f0 f) (some 1) none).getD i .non)) _;rw[v];refine Zmu (xs:=f) (emb:=Bb) (λh=>some (dD h.1.q)) (by lia) (λh _=>?_) ?_
  ·refine⟨_,rfl,_,?_,rfl⟩;show(arg<|dD h.1.q).shd=_;rw[BR];rfl
  ·rw[Td (λh:Dd×ZX×ZX=>dD h.1.q)]
   have x:f.map (λh:Dd×ZX×ZX=>dD h.1.q)=(bkH f).map dD:=by
    unfold bkH;rw[Qy];rfl
   rw[x];exact⟨bkH f,rfl,y,by lia,u⟩
def Zqe(H:Def K mg "cost_table" Da ["strips","wishes"])
  : OZ ζ:=by
 refine H.fz Zr6 (λp n=>(bc (sE<|xf YC p<|a2 (xv 0)<|xv 1)<|bc (sS 2 n<|xf YB p<|a3 (xv 0) (xv 1)<|xf Y6 p<|a1<|xv 0)<|b1<|sR<|xe (KU (Zk5 rfl) (by rfl) G.Zg boot_list<|XC (Znv (K:=K)<|pv 2) Ky)<|Zpu<|Xe 2)) (.a ?_)
 ·rintro J R X ⟨f,u,rfl,s,l,hw,o,v,B⟩;refine⟨rfl,f,u,rfl,s,l,o,v,f,rfl,s,l,λy r=>⟨f,u,y,pcc f,rfl,s,l,hw,o,r,GR o v,λg T=>?_⟩⟩;have z:(Xj f).Nodup:=(T6 f).imp (λh=>JB h);obtain⟨x,e,A⟩:=T.vals (ID z);obtain⟨E,C⟩:=LD e;refine⟨g,rfl,E,?_⟩;rw[C];exact B x A
def Zos(DD:Def K mg "best_order" DY ["strips","wishes"])
  : Zab ζ:=by
 refine DD.fz R9 (λA n=>(bc (sE<|xf YC A<|a2 (xv 0)<|xv 1)<|bc (sS 2 n<|xf Y6 A<|a1<|xv 0)<|bc (se (Pu.pz 3 R9.nd<|fz YB (A ())<|dz (pv 0) (pv 1)<|pv 2)<|Na (Tn<|uz (Xe 0) (Xe 1)<|Xe 2)<|Kq 3)<|bc (sS 4 n<|xe (KU (Le (K:=K)) (by rfl) G.Zn boot_tuple<|az<|fz Yo (A ())<|az<|pv 0)<|Gp<|sz<|Tn<|sz<|Xe 0)<|bc (sS 5 n<|xL a0)<|bc (sW [6,7] Qg (tt<|xv 4)<|bc (sC 6 ["holder","members","wishes"] [none,some 4,some 1] n (je (SY (K:=K)<|pv 4)<|SndI.c<|BB<|Xe 4) (gN 0) (f1<|tt<|xf YQ A<|a3 (xv 1) (xv 0)<|xv 2)<|xv 0)<|bc (sC 7 ["first","members","least","pairs"] [none,some 4,some 3,some 2] n (jL<|xv 6) (gN 0) (f1<|tq A (xf Wl A<|ac (xv 1)<|ac (xv 0)<|ac (xv 2)<|ac (xv 3) a0)<|xe (NX (Kv<|A ()) (pv 2) (pv 1) (λ_ _=>rfl))<|NJ (Xe 2)<|Xe 1)<|xv 0)<|bc (sA 5<|xx (xv 7) xi)<|b1<|sS 4 n<|xf Yw A<|a2 (xv 4)<|xx (xv 7) xi)<|b1<|sV 5)) (.a ?_)
 ·rintro ds R X ⟨z,v,rfl,hF,hz,hw,hu,hN,hR⟩;refine⟨rfl,z,v,rfl,hF,hz,hu,hN,z,rfl,hF,hz,λpa hpa=>⟨z,v,pa,pcc z,rfl,hF,hz,hw,hu,hpa,GR hu hN,λkvs T=>⟨z,rfl,hF,hz,?_⟩⟩⟩;have hh:=KW z;have hri:=T6 z;have nd:(Xj z).Nodup:=hri.imp (λh=>JB h);have hpa':∀x∈Xj z,∀y∈Xj z,Xy pa [.inl x,.inl y]=some (.int<|pcc z x y):=hpa;generalize pcc z=c at *;generalize Xj z=Y at *
  refine⟨rfl,by simp,Fb (λγ'=>∃(u o:ZY),γ'=[some (.bor<|.lst<|z.map prD),some (.bor<|.lst<|v.map prD),some (.own<|.dT pa),some (.own<|.dT kvs),some (.sh<|tD u),some (.own<|o.map D.int),none,none]/\u∈X1 Y/\o.length+u.length<=10/\
   ∀p,K5 v c u p->K5 v c Y (o++p)) Zox ⟨Y,[],rfl,List.mem_of_getLast? (Cw Y),by simpa using hh,λp hp=>hp⟩ ?_⟩
  rintro γ' ⟨u,o,rfl,M,hol,hB⟩;show if (!(u.map D.int).isEmpty)=true then _ else _;refine Xi (λg=>?_) (λg=>?_)
  ·have E:=Sk Y u M;have hne:u≠[]:=λe=>by subst e;simp at g
   have C:u.Nodup:=nd.sublist E;have hrm:=hri.sublist E
   have B:∀l∈u,Xz u l∈X1 Y:=λl N=>by
    obtain⟨k,hk,e⟩:=Q9.mp M;obtain⟨j,_,ej⟩:=O7 nd k u (by rw[WJ hk,e]) l N;exact Qe ej
   obtain⟨J,hvs⟩:=Ij λl N=>T.val _ (B l N);obtain⟨V,hV1,U⟩:=T.val u M;have hv2:∀l∈u,KA v c (Xz u l) (J l):=λl N=>(hvs l N).2
   have L:∃f rest,(u.filter (λh=>firstM v u h)).filter (λf=>decide (J f+((Xz u f).map (c f)).sum=V))=f::rest:=by
    obtain⟨q,q1,q2,q3⟩:=U.is;cases q with
    |nil=>exact absurd q1.nil_eq.symm hne
    |cons g p=>
     obtain⟨r1,r2,r3,_⟩:=Hj C hu hv2 U q1 q2 q3;exact List.exists_cons_of_ne_nil (List.ne_nil_of_mem<|Qn.mpr ⟨Qn.mpr ⟨r1,r2⟩,WL r3⟩)
   obtain⟨f,rest,ef⟩:=L;have Q:f∈(u.filter (λh=>firstM v u h)).filter (λf=>decide (J f+((Xz u f).map (c f)).sum=V)):=by rw[ef];exact Q7 ..
   obtain⟨Q,hf3⟩:=Qn.mp Q;obtain⟨H,hf2⟩:=Qn.mp Q
   have hmin:∀g∈u,firstM v u g=true->J g+((Xz u g).map (c g)).sum=V->f<=g:=λg h1 h2 h3=>by
    have hg:g∈(u.filter (λh=>firstM v u h)).filter (λf=>decide (J f+((Xz u f).map (c f)).sum=V)):=Qn.mpr ⟨Qn.mpr ⟨h1,h2⟩,WL h3⟩
    have A:(f::rest).Pairwise (· < ·):=by
     rw[←ef];exact(hrm.filter _).filter _
    rw[ef]at hg;rcases WX.mp hg with e|hg
    ·lia
    ·have:=(Vd.mp A).1 g hg
     lia
   refine⟨_,rfl,Kd (s:=.sh .non) (xs:=u) (emb:=D.int) (λh=>if firstM v u h=true then some (.int h)else none) (by lia) (λh hm=>?_) ?_⟩
   ·refine⟨u,h,v,rfl,hw,?_⟩;refine Xi (λg=>⟨_,rfl,WQ g⟩) (λg=>WO g)
   ·rw[Pd (λh=>firstM v u h)];refine Kd (xs:=u.filter (λh=>firstM v u h)) (emb:=D.int) (λf=>if decide (J f+((Xz u f).map (c f)).sum=V)=true then some (.int f)else none) (WV (Qw _ _)<|by lia) (λl N=>?_) ?_
    ·obtain⟨hl1,hl2⟩:=Qn.mp N;refine⟨u,l,kvs,pa,c l,J l,rfl,by lia,(hvs l hl1).1,λm hm=>hpa' l (E.subset hl1) m (E.subset<|less_sub.subset hm),_,_,FZ u,hV1,rfl,?_⟩;refine Xi (λg=>⟨_,rfl,WQ g⟩) (λg=>WO g)
    ·rw[Pd (λf=>decide (J f+((Xz u f).map (c f)).sum=V)),ef];refine⟨_,KP _ _,by rw[WI];lia,_,KP _ _,u,f,rfl,by lia,⟨Xz u f,o++[f],?_,B f H,?_,λp hp=>?_⟩,?_⟩
     ·rw[Qb];rfl
     ·have:=(TJ C H).length_eq
      rw[WW];rw[Qf]at this;show o.length+1+_<=10;lia
     ·rw[Jm];exact hB _ (Zew C hu hv2 U H hf2 (WM hf3) hmin hp)
     ·have:=(TJ C H).length_eq
      rw[Qf]at this;show((Xz u f).map D.int).length<(u.map D.int).length;rw[WI,WI];lia
  ·have e:u=[]:=by
    cases u with
    |nil=>rfl
    |cons a r=>exact absurd rfl g
   subst e
   have:=hB [] (Zoq v c)
   rw[Q8]at this;exact hR o this
def Zoz(DD:Def K mg "_law_go" A2 ["_law_village","_law_past","_law_deed_here"])
  : I0 ζ:=by
 refine DD.fz O5 (λo n=>(bc (sI (tq o (xx (xv 2) xi) xs) (bj (sI (tc KC KE (xl G.len<|xv 1) xi) (bc (se (Kt<|X3 YR G.Za (hq<|o ()) TU<|pv 0)<|Nh<|Ss 0 Zgo Xw)<|b1<|se (Kt<|N7 Ql VL VM FK<|pv 1)<|Nh<|Zjr 1) b0)<|b1<|se (Kj Tx)<|Sa T3) b0)<|bc (sF 2<|sS 3 n<|xe (fz Wq (o ())<|bz (jx K (pv 1)<|Kw Kx Xp)<|pv 2)<|Ei<|tz (XG (Xe 1)<|K0 Xm)<|Xe 2)<|bc (sI (tc KC KE (xx (xv 3) xi) xi) (b1<|se (Kj Tx)<|Sa T3) b0)<|bc (sF 2<|sA 1<|xt<|a3 (xx (xv 3) xi) (xx (xv 3) xi)<|xv 2)<|bc (sF 2<|se (Pu.pz 4 O5.nd<|Bt W8 (hq<|o ()) TU<|bz (pv 0)<|pv 2)<|Zgb (O1 0<|sz<|Xe 2)<|Kq 4)<|b1<|se (Kj<|Fm (fz Yu (o ())<|az<|pv 4)<|FA<|Nc (Sg (K:=K)<|show _<cLine from(o ()).units0) (pv 4) (Nr Kg (ln K G.len<|pv 1) Xp)<|KZ _)<|Sa<|Am (Tn<|sz<|Xe 4)<|NL (Xe 4)<|Kb (NV<|sz<|Xe 1) Xm)) (.d ?_)
 ·rintro o1 o2 ss R X ⟨x,b1,B,A,a,f0,f,q,rfl,rfl,rfl,hz,T,s⟩;refine⟨rfl,?_⟩;obtain⟨⟨h1,U⟩,J⟩:=T.cur;rcases s with⟨rfl,l⟩|⟨d,rfl,l⟩
  ·refine⟨_,rfl,?_⟩;refine B8 (λp=>∃H E C:Option S,p=[some (.own<|vO (ExcR.Xq mg "Village") x b1 B A (bkH f.dropLast) (fsH f0 f.dropLast)<|wsH f.dropLast),some (.own<|.lsA a<|XO f0 f.dropLast),H,E,C]) ?_ ?_
   ·rcases QB f with rfl|⟨h,y,rfl⟩
    ·exact⟨_,_,_,rfl⟩
    ·rw[QR,Vm];have r:(XO f0 (h++[y])).length=h.length+2:=by rw[FQ,WW,QP]
     have g:(((XO f0 (h++[y])).length:Nat):Int)>1:=by lia
     have v:(XO f0 (h++[y]))[(XO f0 (h++[y])).length-1]?=some (Bb y):=by
      rw[r,FS,Qx (by rw[FQ];lia),FQ];rw[show h.length+2-1-(h.length+1)=0 by lia];rfl
     have ed:(XO f0 (h++[y])).dropLast=XO f0 h:=by rw[FS,Vm]
     show if decide ((((XO f0 (h++[y])).length:Nat):Int)>1)=true then _ else _;rw[WL g];refine Kp ⟨rfl,rfl,x,b1,B,A,bkH (h++[y]),fsH f0 (h++[y]),wsH (h++[y]),rfl,rfl,by rw[Zh2,Sd],by rw[Ze1,Sd],λe=>?_,λb0 q e=>?_⟩
     ·rw[Ed]at e;simp at e
     ·rw[Ed]at e;obtain⟨rfl,e2⟩:=List.append_inj' e rfl;cases e2
      rw[Fq,F1,Vm,Vm];refine⟨_,v,?_⟩;rw[ed];exact⟨_,_,_,rfl⟩
   ·rintro p ⟨H,E,C,rfl⟩;exact⟨_,_,rfl,rfl,⟨rfl,by simp⟩,rfl,l⟩
  ·obtain⟨fs,M,lf⟩:=FU f0 f;obtain⟨N,L,lw⟩:=BZ f;obtain⟨dl,v⟩:=BN f0 f;have lb:=Sd f;have lp:=FQ f0 f;have Q:=d.not_back;refine⟨_,KP _ _,?_⟩;show if decide (d.q.1=("back" : Str))=true then _ else _;rw[Q3 Q];refine XI ⟨_,v,Xn f0 f,Xr f,[dl],d,rfl,U,J.1,_,rfl,?_⟩;by_cases e:d.err (Xn f0 f) (Xr f)=none
   ·have z:KG f0 f d=f++[(d,d.fld (Xn f0 f),d.wsh (Xr f))]:=by unfold KG;rw[WQ e]
    rw[z]at l;rw[Ed,Fq,F1,FS,M,L]at l;show if decide (codeN (d.err (Xn f0 f)<|Xr f)>0)=true then _ else _;rw[e];refine XI ⟨_,rfl,_,rfl,by simp,by lia,?_⟩;refine⟨x,b1,B,A,bkH f,fs,N,Xn f0 f,Xr f,d,by rw[←M,←L],rfl,by lia,by lia,by lia,by lia,by have:=J.1;lia,?_⟩
    have ec:Es (bkH f) (Xn f0 f) (Xr f) d=none:=by
     unfold Es;rw[WO (by lia),e]
    have en:d.nf (Xn f0 f) (Xr f)=d.fld (Xn f0 f):=by unfold Dd.nf;rw[WQ e]
    have u:d.nw (Xn f0 f) (Xr f)=d.wsh (Xr f):=by unfold Dd.nw;rw[WQ e]
    rw[ec];have Y:((((bkH f).length:Nat):Int)+1=((((XO f0 f++[D.tup [plD (d.nf (Xn f0 f)<|Xr f),plD (d.nw (Xn f0 f)<|Xr f),dD d.q]]).length:Nat)):Int)-1):=by rw[WW,QP];lia
    refine⟨_,rfl,Kp ?_⟩;refine⟨_,_,rfl,rfl,⟨rfl,by simp⟩,rfl,?_⟩;rw[WL Y,en,u];exact l
   ·have z:KG f0 f d=f:=by unfold KG;rw[WO e]
    rw[z]at l;show if decide (codeN (d.err (Xn f0 f)<|Xr f)>0)=true then _ else _;rw[WL (Dd.code_pos e)];exact Kp ⟨_,_,rfl,rfl,⟨rfl,by simp⟩,rfl,l⟩
def Zom(C:Def K mg "least_cost" EU ["strips","wishes"])
  : Re ζ:=by
 refine C.fz Zhh (λx n=>(b1<|sR<|xx (xf YD x<|a2 (xv 0)<|xv 1)<|xe (Kw Kx Xp)<|K0 Xm)) (.a ?_)
 ·rintro H R X ⟨g,p,rfl,B,s,hw,u,A,z⟩;refine⟨rfl,g,p,rfl,B,s,hw,u,A,λr o=>?_⟩;have l:=Cw (Xj g);rw[List.getLast?_eq_getElem?]at l;have E:=(Qq.mp l).1;have y:=o.1;obtain⟨v,h⟩:∃v,r[(X1<|Xj g).length-1]?=some v:=⟨_,WJ (by lia)⟩;have L:=o.2 _ _ _ l h;rw[←y]at h;exact⟨_,PX (f:=D.int) (SA h),z _ L⟩
def Zel(u:X7 K (X0 K (Xo ζ) "order") "order" "Village.order" E6 ["self"])
  : IU ζ:=by
 refine u.fz Zme (λg n=>(b1<|sR<|xf WA g<|a2 (xe (X3 Yl G.Za (hq<|g ()) X2<|pv 0)<|X5 Pk (Xe 0) Xw)<|xe (X3 Ym G.Za (hq<|g ()) X2<|pv 0)<|X5 P9 (Xe 0) Xw)) (.a ?_)
 ·rintro v R X ⟨bk,fs,h,f,w,rfl,s,l,hw,o,r,p⟩;refine⟨rfl,?_⟩;exact⟨rfl,rfl,bk,fs,h++[w],f,rfl,rfl,rfl,bk,fs++[f],h,w,rfl,f,w,rfl,s,l,hw,o,r,p⟩
def Zq1(u:X7 K (X0 K (Xo ζ) "table") "table" "Village.table" A6 ["self"])
  : GO ζ:=by
 refine u.fz Zbo (λg n=>(b1<|sR<|xf YD g<|a2 (xe (X3 Yl G.Za (hq<|g ()) X2<|pv 0)<|X5 Pk (Xe 0) Xw)<|xe (X3 Ym G.Za (hq<|g ()) X2<|pv 0)<|X5 P9 (Xe 0) Xw)) (.a ?_)
 ·rintro v R X ⟨bk,fs,h,f,w,rfl,s,l,hw,o,r,p⟩;refine⟨rfl,?_⟩;exact⟨rfl,rfl,bk,fs,h++[w],f,rfl,rfl,rfl,bk,fs++[f],h,w,rfl,f,w,rfl,s,l,hw,o,r,p⟩
def Zdo(DD:Def K mg "_law_no_rings" Ga ["_law_village","_law_past"])
  : Hn ζ:=by
 refine DD.fz Zik (λv n=>(bc (sW [2] Qg (tN<|tt<|xf YX v<|a2 (xf Y5 v<|a1<|xx (xx (xv 1)<|xe (Kw Kx Xp)<|K0 Xm) xi)<|xx (xx (xv 1)<|xe (Kw Kx Xp)<|K0 Xm) xi)<|bc (sS 2 n<|xx (xx (xx (xv 1)<|xe (Kw Kx Xp)<|K0 Xm) xi)<|xe (Kw Kx Xp)<|K0 Xm)<|b1<|sN 1<|se (BH (BE<|Bo (K:=K)<|fz Y0 (v ())<|dz (pv 0) (pv 1)<|Po<|dz Nq (jx K (pv 2) Xp)<|jx K (pv 2) Xp) (NY<|Kj Tx)
   Bm)<|FX (FL<|Af<|BY 0 1 (by decide)<|sz<|P0<|uz Nb (XG (Xe 2) Xm)<|XG (Xe 2) Xm) (Sa T3) BM)<|b1<|se (Kj Tx)<|Sa T3)) (.d ?_)
 ·rintro o1 o2 ss R X ⟨x,b1,N,M,a,f0,u,rfl,rfl,rfl,hz,H,T,U⟩;refine⟨rfl,?_⟩;refine Fb (λl=>∃f:XD,l=[some (.own<|vO (ExcR.Xq mg "Village") x b1 N M (bkH f) (fsH f0 f)<|wsH f),some (.own<|.lsA a<|XO f0 f),none]/\f.length+(Xr f).length<=u.length+20/\FineH f0 f/\Sm f/\Xn f0 f=Xn f0 u) Za0 ⟨u,rfl,by have:=H.cur.2.1;lia,H,T,rfl⟩ ?_;rintro l ⟨f,rfl,hl,h,s,J⟩;obtain⟨⟨c1,c2⟩,L⟩:=h.cur;obtain⟨dl,B⟩:=BN f0 f;have C:∀q∈Xr f,q.1≠q.2:=λq hq=>(L.2.2 q hq).2;refine⟨_,B,_,rfl,Xn f0 f,rfl,by lia,_,B,_,rfl,Xj (Xn f0 f),Xr f,rfl,by have:=KW (Xn f0 f);lia,by have:=L.1;lia,?_⟩;refine Xi (λg=>?_) (λg=>?_)
  ·have y:¬XJ (Xr f) (Xj<|Xn f0 f) (Xj<|Xn f0 f).length=[]:=λz=>by rw[WL z]at g;cases g
   have A:∃r,Ring (Xj<|Xn f0 f) (Xr f) r:=Qt λz=>y ((R1 C).mpr z)
   have o:Xr f≠[]:=λz=>by
    obtain⟨r,Q⟩:=A;rw[z]at Q;exact Zh5 Q
   obtain⟨q,hq,eq⟩:=Zot prD o;have h4:=Zpn (f0:=f0) hq;have h5:=Zft hq;refine⟨_,B,_,rfl,_,eq,?_⟩;refine⟨_,KP _ _,_,Et _ _ (.inr rfl),by simp,?_⟩;refine⟨x,b1,N,M,a,f0,f,_,rfl,rfl,rfl,by lia,h,.inr ⟨.drop q.1 q.2,rfl,?_⟩⟩;have E:=h.add (.drop q.1 q.2);have p:=s.add h (.drop q.1 q.2);rw[h4]at E p ⊢;refine⟨⟨_,rfl,?_,E,p,?_⟩,?_⟩
   ·rw[Mb,WW,QP];show _+(To (Xr f) q.1 q.2).length<=_;lia
   ·rw[Zkq];exact J
   ·show N4 (XO f0 (f++[_]))<N4 (XO f0 f);rw[Ox,Ox,Mb];exact h5
  ·have Y:¬ ∃r,Ring (Xj<|Xn f0 f) (Xr f) r:=(R1 C).mp (Qt λz=>g (by rw[Q3 z];rfl));exact⟨_,_,rfl,rfl,⟨rfl,by simp⟩,rfl,U f (by lia) h s Y J⟩
def Zoh(u:X7 K (X0 K (Xo ζ) "cost") "cost" "Village.cost" ET ["self"])
  : Rm ζ:=by
 refine u.fz Zda (λg n=>(b1<|sR<|xf WB g<|a2 (xe (X3 Yl G.Za (hq<|g ()) X2<|pv 0)<|X5 Pk (Xe 0) Xw)<|xe (X3 Ym G.Za (hq<|g ()) X2<|pv 0)<|X5 P9 (Xe 0) Xw)) (.a ?_)
 ·rintro v R X ⟨bk,fs,h,f,w,rfl,s,l,hw,o,r,p⟩;refine⟨rfl,?_⟩;exact⟨rfl,rfl,bk,fs,h++[w],f,rfl,rfl,rfl,bk,fs++[f],h,w,rfl,f,w,rfl,s,l,hw,o,r,p⟩
def Zil(z:X7 K (X0 K (Xo ζ) "moves") "moves" "Village.moves" E2 ["self"])
  : Il ζ:=by
 refine z.fz Zcs (λg n=>(b1<|sR<|xf Wv g<|a2 (xe (X3 Yl G.Za (hq<|g ()) X2<|pv 0)<|X5 Pk (Xe 0) Xw)<|xe (X3 Y1 G.Za (hq<|g ()) X2<|pv 0)<|X5 CV (Xe 0) Xw)) (.a ?_)
 ·rintro A R X ⟨bk,fs,h,f,w,rfl,l,s,hw,u,y,x⟩;refine⟨rfl,?_⟩;exact⟨rfl,rfl,bk,fs,h++[w],f,rfl,rfl,rfl,bk,fs,h,f,w,rfl,l,by lia,hw,u,y,λo p=>⟨f,o,rfl,l,s,p.perm,λr v=>x o r p v⟩⟩
def Zok(v:X7 K (X0 K (Xo ζ) "melded") "melded" "Village.melded" Cq ["self"])
  : MC ζ:=by
 refine v.fz Znl (λg n=>(b1<|sR<|xe (Bt Wt (hq<|g ()) TU<|bz (X3 Yl G.Za (hq<|g ()) X2<|pv 0)<|X3 Y1 G.Za (hq<|g ()) X2<|pv 0)<|Tn<|tz (X5 Pk (Xe 0) Xw)<|X5 CV (Xe 0) Xw)) (.a ?_)
 ·rintro y R X ⟨bk,fs,l,f,w,rfl,p,x,hw,r,u,s⟩;refine⟨rfl,rfl,rfl,bk,fs,l++[w],f,rfl,rfl,rfl,bk,fs,l,f,w,rfl,p,by omega,hw,r,u,λo h=>⟨f,o,rfl,p,by omega,?_,?_⟩⟩
  ·have:=h.perm.length_eq
   have:=KW f
   omega
  ·rw[Fj h.perm];exact s o h
def Zgr(DD:Def K mg "_law_lists" Ex ["_law_village","_law_order"])
  : LH ζ:=by
 refine DD.fz Zi1 (λh n=>(bc (sS 2 n<|xe (P2 YS G.Za (hq<|h ()) TU (pv 0)<|az<|ln K G.len<|X3 Yx G.Za (hq<|h ()) X2<|pv 0)<|X5 Zde (Xe 0)<|sz<|NV<|sz<|X5 AQ (Xe 0) Xw)<|b1<|se (Kj<|@P8 _ _ _ _<|@XC _ _ _ _ _ (X3 Yl G.Za (hq<|h ()) X2<|pv 0) (@XC _ _ _ _ _ (X3 Ym G.Za (hq<|h ()) X2<|pv 0) (@XC _ _ _ _ _ (X3 Yx G.Za (hq<|h ()) X2<|pv 0) (@XC _ _ _ _ _ (jx K (pv 2) Xp) (@XC _ _ _ _ _ (jx K (pv 2) Xp) (@XC _ _ _ _ _ (X3 W6 G.Za (hq<|h ()) X2<|pv 0) (@XC _ _ _ _ _ (X3 Y1 G.Za (hq<|h ()) X2<|pv 0) (@XC _ _ _ _ _ (X3 WC G.Za (hq<|h ()) X2<|pv 0) (@XC _ _ _ _ _ (X3 WG G.Za (hq<|h ()) X2<|pv 0) (@XC _ _ _ _ _ (X3 WH G.Za (hq<|h ()) X2<|pv 0) (@XC _ _ _ _ _ (P2 W2 G.Za (hq<|h ()) TU (pv 0)<|az<|pv 1) Ky rfl) rfl) rfl) rfl) rfl) rfl) rfl) rfl) rfl) rfl) rfl)<|Zog<|sl_cons (X5 Pk (Xe 0) Xw)<|sl_cons (X5 P9 (Xe 0) Xw)<|sl_cons (X5 AQ (Xe 0) Xw)<|Zi2 2<|sl_cons (X5 Zk4 (Xe 0) Xw)<|sl_cons (X5 CV (Xe 0) Xw)<|sl_cons (X5 Zmp (Xe 0) Xw)<|sl_cons (X5 Zma (Xe 0) Xw)<|sl_cons (X5 Zlz (Xe 0) Xw)<|sl_cons (X5 Zfl (Xe 0)<|sz<|Xe 1) Zod)) (.a ?_)
 ·rintro ds R X ⟨bk,fs,g,f,w,os,rfl,C,B,l,N,hw,p,r,A,T⟩;refine⟨rfl,?_⟩;have M:(bk.map dD).length=bk.length:=WI ..;have lo:os.length<=10:=by rw[A.length_eq];exact KW f
  refine⟨rfl,rfl,rfl,rfl,bk,fs++[f],g++[w],rfl,bk,fs++[f],g++[w],_,rfl,by simp[C],by simp[B],λz=>by rw[M]at z;lia,λf' w' i x y e1 H E=>?_⟩;obtain rfl:i=bk.length:=by lia
  rw[←C,Qx (WT _),J8]at H;rw[←B,Qx (WT _),J8]at E;cases H
  cases E
  refine⟨rfl,rfl,bk,fs,g++[w],f,rfl,Kc _,?_⟩;refine⟨rfl,rfl,bk,fs++[f],g,w,rfl,Kc _,?_⟩;refine⟨rfl,rfl,bk,fs++[f],g++[w],rfl,BX _,?_⟩;refine⟨Kc _,Kc _,?_⟩;refine⟨rfl,rfl,bk,fs,g,f,w,rfl,l,by lia,p,r,rfl,?_⟩;refine⟨rfl,rfl,bk,fs,g,f,w,rfl,l,by lia,hw,p,r,λo v=>⟨Pt _,?_⟩⟩;refine⟨rfl,rfl,bk,fs,g,f,w,rfl,l,by lia,hw,p,r,λJ Q=>⟨Pt _,?_⟩⟩;refine⟨rfl,rfl,bk,fs,g,f,w,rfl,l,N,hw,p,r,λo' L u U=>⟨Ew _,?_⟩⟩;obtain rfl:=K5.uniq v u;refine⟨rfl,rfl,bk,fs,g,f,w,rfl,l,by lia,hw,p,r,λo2 s=>⟨Kc _,?_⟩⟩;obtain rfl:=K5.uniq v s;refine⟨rfl,rfl,bk,fs,g,f,w,os,rfl,l,by lia,by lia,hw,?_⟩;rw[Fj A];exact⟨Kc _,by simp,λx Y e=>T o J L x Y v Q U e⟩
def Zjh(DD:Def K mg "law" Ts ["_law_script"])
  : Zak ζ:=by
 refine DD.fz Zq8 (λl n=>(bc (sS 1 n<|xf YT l<|a1<|xf Wn l<|a2 (xv 0) xi)<|bc (sX 1 xi<|xo X6 X8 xi<|xo XB XA (xx (xv 1) xi) xi)<|bc (sS 2 n<|xf Wr l<|a3 (xv 0) (xv 1)<|xo X6 X8 xi<|xo XB XA (xo Kl Km (xf Yn l<|a2 (xv 0) xi) xi) xi)<|bc (sS 3 n<|xe (Zbn Ww G.ZL (hq<|l ()) TU<|az<|KU (Th (K:=K)) (by rfl) G.Zg boot_list<|az<|pv 2)<|Zfc<|sz<|Ta<|sz<|Xe 2)<|bc (sF 2<|sS 4 n<|xL<|a1<|xt<|a3 (xv 2) (xL a0)<|xt a0)<|bc (sN 4<|sO [5] Qg (iL<|xf W4 l<|a2 (xv 0)<|xv 1) (gN 5)<|b1<|sF 5<|sN 4<|se (BH (BE<|Bo (K:=K)<|fz Y0 (l ())<|dz (pv 3) (pv 4)<|pv 5) (NY<|Kj Tx)
   Bm)<|FX (FL<|Af<|BY 3 4 (by decide)<|sz<|Xe 5) (FD T3) BM)<|bc (sO [6] Qg (iL<|xf Ws l<|a2 (xv 0) xi) (gN 6)<|b1<|sN 4<|se (BH (BE<|Bo (K:=K)<|fz Y0 (l ())<|dz (pv 3) (pv 4)<|fz W5 (l ())<|dz (pv 6) (pv 1)<|jx K (pv 4)<|Kw Kx Xp) (NY<|Kj Tx)
   Bm)<|FX (FL<|Af<|BY 3 4 (by decide)<|sz<|Tn<|uz (Xe 6) (Xe 1)<|XG (Xe 4)<|K0 Xm) (FD T3) BM)<|bc (sN 4<|se (BH (BE<|Bo (K:=K)<|fz WD (l ())<|bz (pv 3)<|pv 4) (NY<|Kj Tx)
   Bm)<|FX (FL<|Af<|BY 3 4 (by decide) Xw) (FD T3) BM)<|bc (sS 7 n<|xf Wp l<|a2 (xx (xx (xv 4)<|xe (Kw Kx Xp)<|K0 Xm) xi)<|xx (xx (xv 4)<|xe (Kw Kx Xp)<|K0 Xm) xi)<|bc (sS 8 n<|xe (KU (Th (K:=K)) (by rfl) G.Zg boot_list<|az<|jx K (pv 7) Xp)<|Ta<|sz<|XG (Xe 7) Xm)<|bc (sS 9 n<|xf YE l<|a2 (xv 3)<|xv 8)<|bc (sS 10 n<|xf Wc l<|a1<|xv 9)<|bc (sI (tp<|wo (te (P5 (Fh (K:=K)<|show _<cLine from(l ()).units0) (pv 10) (P8 Ky)<|KZ _)<|Pa<|SO (Xe 10)<|PJ Xw)<|wo (tN<|tt<|xf Yz l<|a2 (xx (xv 10) xi)<|xx (xv 7) xi)<|wO<|tN<|tt<|xf Yz l<|a2 (xv 8)<|xx (xv 7) xi) (b1<|sR xb) b0)<|bc (se (Kt<|fz Wd (l ())<|bz (pv 9)<|fz Yn (l ())<|bz (pv 0) Xp)<|Nh<|O1 9<|sz<|Tn<|tz (Xe 0) Xm)<|bc (se (Kt<|P2 W7 G.Za (hq<|l ()) TU (pv 3)<|az<|pv 8)<|NM<|X5 Zh9 (Xe 3)<|sz<|Xe 8)<|bc (sA 8 xi)<|bc (sS 11 n<|xf YE l<|a2 (xv 3)<|xe (KU (Th (K:=K)) (by rfl) G.Zg boot_list<|az<|jx K (pv 7) Xp)<|Ta<|sz<|XG (Xe 7) Xm)<|bc (sI (tp<|wo (tn l (xe (Ki (R7 (l ()).gd (l ()).units) (by rfl) G.ZM boot_repr<|az<|pv 11)<|G9<|sz<|Xe 11)<|xe (Ki (R7 (l ()).gd (l ()).units) (by rfl) G.ZM boot_repr<|az<|pv 10)<|G9<|sz<|Xe 10)<|wO<|tN<|tt<|xf W9 l<|a2 (xv 3)<|xv 4) (b1<|sR xb) b0)<|bc (sS 12 n<|xe (X3 WE G.Za (hq<|l ()) X2<|pv 3)<|X5 Zkf (Xe 3) Xw)<|bc (sI (tN<|tt<|xf Yz l<|a2 (xL<|a3 (xv 12) (xx (xx (xv 11) xi) xi)<|xx (xx (xv 11) xi)<|xe (Kw Kx Xp)<|K0 Xm)<|xL<|a3 (xx (xv 7) xi) xi<|xx (xv 7) xi) (b1<|sR xb) b0)<|b1<|sR<|xe (Nc (Sg (K:=K)<|show _<cLine from(l ()).units0) (ln K G.len<|jx K (pv 11) Xp) (Nr Zfm Xp<|ln K G.len<|jx K (pv 7) Xp)<|KZ _)<|NL (NV<|sz<|XG (Xe 11) Xm)<|Zej Xm<|NV<|sz<|XG (Xe 7) Xm)) (.a ?_)
 ·rintro ds R X ⟨H,rfl,hR⟩;refine⟨rfl,H,0,rfl,by decide,λc0=>⟨c0,rfl,λm N=>?_⟩⟩;have hM0:=N;obtain⟨a0,a1,a2,a3,a4,em,ha,_⟩:=hM0;have i0:atI (m.map D.int) 0=some (.int a0):=by rw[em];rfl
  have s0:ixN (m.map D.int).length 0=some 0:=by rw[em];rfl
  have N:=Zgz N (v:=1+a0 % 4) (by lia);have es:(m.map D.int).set 0 (.int (1+a0 % 4))=(m.set 0 (1+a0 % 4)).map D.int:=by rw[List.map_set]
  refine⟨_,i0,(by show(0:Int)<4;decide),_,_,s0,rfl,?_⟩;rw[es];generalize m.set 0 (1+a0 % 4)=m at N;refine⟨H,0,rfl,by decide,⟨by decide,by decide⟩,(by show(0:Int)<12;decide),H,m,_,rfl,N,by lia,by lia,λh hF hlen=>?_⟩;have hz:h.length<=40:=by lia
  refine⟨rfl,λx=>⟨x,h,rfl,rfl,by lia,?_⟩⟩;rw[Zex hF hz];refine λb1 Y U=>⟨rfl,?_⟩;refine⟨by simp,by simp,by simp,by simp,λa=>?_⟩;refine⟨H,m,rfl,N,λL hq=>?_⟩;refine⟨rfl,K6 (xs:=L) (emb:=λq:Int×Int=>dD (Dd.wish q.1 q.2).q) (λi r=>∃f:XD,f.length<=i/\FineH h f/\Sm f/\r=[some (.bor<|.scr H),some (.own<|m.map D.int),some (.sh<|plD h),some (.own<|vO (ExcR.Xq mg "Village") x b1 Y U (bkH f) (fsH h f)<|wsH f),some (.own<|.lsA a<|XO h f),none,none,none,none,none,none,none,none]) ?_ ?_ ?_⟩
  ·exact⟨[],QD _,FineH.nil hF hz,(λg hg=>by cases hg),rfl⟩
  ·rintro i r hi ⟨f,h1,p,B,rfl⟩;refine⟨x,b1,Y,U,a,h,f,_,rfl,rfl,rfl,by lia,p,.inr ⟨.wish L[i].1 L[i].2,rfl,?_⟩⟩;refine XI ?_;exact⟨KG h f (.wish L[i].1 L[i].2),by have:=LU h f (.wish L[i].1 L[i].2);lia,p.add _,B.add p _,rfl⟩
  rintro r ⟨f,h1,p,B,rfl⟩;refine⟨H,12,rfl,by decide,by decide,λcs hc=>?_⟩;refine⟨rfl,K6 (xs:=cs) (emb:=D.int) (λi r=>∃f:XD,f.length<=24+i/\FineH h f/\Sm f/\r=[some (.bor<|.scr H),some (.own<|m.map D.int),some (.sh<|plD h),some (.own<|vO (ExcR.Xq mg "Village") x b1 Y U (bkH f) (fsH h f)<|wsH f),some (.own<|.lsA a<|XO h f),none,none,none,none,none,none,none,none]) ?_ ?_ ?_⟩
  ·exact⟨f,by lia,p,B,rfl⟩
  ·rintro i r hi ⟨f,h1,p,B,rfl⟩;obtain⟨⟨T,c2⟩,c3⟩:=p.cur;obtain⟨dl,el⟩:=BN h f;refine⟨_,el,_,m,Xn h f,Xr f,[dl],rfl,N,by lia,T,by have:=c3.1;lia,λd=>?_,?_⟩
   ·refine⟨x,b1,Y,U,a,h,f,_,rfl,rfl,rfl,by lia,p,.inr ⟨d,rfl,?_⟩⟩;have la:=LU h f d;exact⟨KG h f d,by lia,p.add d,B.add p d,rfl⟩
   ·refine⟨x,b1,Y,U,a,h,f,_,rfl,rfl,rfl,by lia,p,.inl ⟨rfl,?_⟩⟩;have la:f.dropLast.length<=f.length:=by rw[List.length_dropLast];lia
    exact⟨f.dropLast,by lia,p.back,by rw[List.dropLast_eq_take];exact B.take _,rfl⟩
  rintro r ⟨f,h1,p,B,rfl⟩;refine⟨x,b1,Y,U,a,h,f,rfl,rfl,rfl,by lia,p,B,λf h1' p B hN _=>?_⟩;have J:f.length<=60:=by lia
  clear h1' h1 hc;obtain⟨⟨T,c2⟩,c3⟩:=p.cur;obtain⟨dl,el⟩:=BN h f;obtain⟨fs,ef,lf⟩:=FU h f;obtain⟨ws,ew,lw⟩:=BZ f;have lb:=Sd f;have hu:∀q∈Xr f,q.1≠q.2:=λq hq=>(c3.2.2 q hq).2;have hw:=c3.1;have hh:=KW (Xn h f);have ev:KR (ExcR.Xq mg "Village") (bkH f) (fsH h f) (wsH f)=KR (ExcR.Xq mg "Village") (bkH f) (fs++[Xn h f]) (ws++[Xr f]):=by rw[←ef,←ew]
  refine⟨_,el,_,rfl,_,el,_,rfl,Xn h f,Xr f,rfl,T,by lia,hh,hu,hN,λo u=>?_⟩;have lo:o.length<=10:=by rw[u.perm.length_eq];exact hh
  have lom:(o.map D.int).length=o.length:=WI ..;refine⟨_,rfl,?_⟩;refine⟨rfl,?_⟩;refine⟨bkH f,fs,ws,Xn h f,Xr f,o,by rw[←ev];rfl,by lia,by lia,T,c2,by lia,hu,hN,u.perm,λo1 A ms y E Q hT M e1=>?_⟩;obtain rfl:=K5.uniq u Q;obtain⟨r1,r2⟩:=Zhq (os:=o) p B J u hT M;have rim:=Zoi (bkH f) (Xn h f) (Xr f) o o A ms;have dl:∀cs:List (Addr×List D),cs.map (·.2)=Pp (bkH f) (Xn h f) (Xr f) o o A ms->(cs.map λc=>D.lst c.2)=(Pp (bkH f) (Xn h f) (Xr f) o o A ms).map D.lst:=λcs e=>by rw[←e,Qy];rfl
  refine⟨_,Q4 (λz=>[D.lst z]) (dl E e1),(by show 11<=1000;decide),rim,λy2 s e2=>?_⟩;have k6:atI (s.map λc=>D.lst c.2) 6=some (.lst<|o.map D.int):=by rw[dl s e2];rfl
  have emp:(s.map λc=>D.lst c.2).isEmpty=false:=by rw[dl s e2];rfl
  refine⟨by simp,?_⟩;show if (s.map λc=>D.lst c.2).isEmpty=true then _ else _;rw[emp];refine XI ⟨_,k6,_,rfl,o,rfl,by lia,XI ⟨_,rfl,o,rfl,by lia,XI ?_⟩⟩;have l1:E.length=11:=by have:=Q4 List.length e1;rwa[WI]at this
  have b1':∀c∈E,c.2.length<=100000:=λc hc=>A4 p J u hT M _ (by rw[←e1];exact VB hc);refine⟨H,1,rfl,by decide,y,E,_,rfl,rfl,by lia,b1',λcs1'=>?_⟩;refine⟨rfl,rfl,bkH f,fs,wsH f,Xn h f,o,by rw[←ef];rfl,T,by lia,by lia,?_⟩;rw[Fj u.perm];refine⟨by lia,?_⟩;refine⟨_,rfl,rfl,bkH f,fs,ws,Xn h f,Xr f,o,by rw[←ev];rfl,by lia,by lia,T,c2,by lia,hu,hN,u.perm,λo1 vs1 ms1 y3 C Q hT1 hM1 e3=>?_⟩;obtain rfl:=K5.uniq u Q;obtain rfl:=TabV.uniq hT hT1;obtain rfl:=M.uniq hM1;have d2:(S.view<|O.nsl y2 s).d=.lst ((Pp (bkH f) (Xn h f) (Xr f) o o A ms).map D.lst):=Q4 D.lst (dl s e2);have d3:(S.view<|O.nsl y3 C).d=.lst ((Pp (bkH f) (Xn h f) (Xr f) o o A ms).map D.lst):=Q4 D.lst (dl C e3);refine⟨by rw[d3];exact r1,⟨_,d3⟩,by rw[d3];exact r2,by rw[d2];exact r1,⟨_,d2⟩,by rw[d2];exact r2,?_⟩;refine TL (by rw[d2,d3]) ?_;refine⟨h,f,rfl,by lia,p.len.1,p.len.2,XI ?_⟩;refine⟨rfl,rfl,bkH f,fs,ws,Xn h f,Xr f,by rw[←ev];rfl,T,by lia,by lia,hu,hN,λv hL=>?_⟩;have hLo:KA (Xr f) (pcc<|Xn h f) (Xj<|Xn h f) (oc (pcc<|Xn h f) o):=⟨⟨o,u.perm,u.keeps,rfl⟩,u.le⟩;obtain rfl:=hL.uniq hLo;obtain⟨t0,tl⟩:=Zc1 hT;obtain⟨lv,el2,hLv⟩:=TabV.last hT;obtain rfl:=hLv.uniq hLo;have k7:atI (C.map λc=>D.lst c.2) 7=some (.lst<|A.map D.int):=by rw[dl C e3];rfl
  have lvm:(A.map D.int).length=A.length:=WI ..;generalize oc (pcc<|Xn h f) o=v at *;refine⟨_,k7,_,t0,_,k7,_,el2,by simp,_,rfl,_,rfl,by simp,[v,0,v],rfl,by simp,XI ?_⟩;refine⟨_,k7,_,rfl,?_⟩;refine⟨⟨by lia,by lia,by decide⟩,?_⟩
  have eL:(((A.map D.int).length:Nat):Int)=1*2 ^ (((o.map D.int).length:Nat):Int).toNat:=by
   rw[lvm,tl,←u.perm.length_eq,Q6,lom,Int.one_mul];exact Int.natCast_pow 2 _
  show R (.sh<|.bl<|decide ((((A.map D.int).length:Nat):Int)=1*2 ^ (((o.map D.int).length:Nat):Int).toNat));rw[WL eL];exact hR
end
end T
namespace T
open L2 Own M
def Zcy{l:PySem.W.OpenLaw}{w:World}{K:ZW}{h:Heap}{g:Ya}{fa:Addr}(X:K.In h)(f:h.Ns mainGlobals g)(hfa:g "law"=some (.ref fa)){n:Addr}(JV:PySem.W.nsIn K mainGlobals "Village"=some (some<|.ref n))(Uo:PySem.W.plainGet K n Str.empty=true)(Up:PySem.W.hasDictIn K n=true)(Uq:PySem.W.plainOver K n=true)(Ur:PySem.W.findIn K (.ref n) "__setattr__"=some (some<|.builtin "object.__setattr__"))(Us:PySem.W.makesIn K n=true)(Ut:PySem.W.keepIn K (.ref n)=true)(Uu:PySem.W.findIn K (.ref n) "book"=some none)(Uv:PySem.W.findIn K (.ref n) "fields"=some none)(Uw:PySem.W.findIn K (.ref n) "wished"=some none)(a0:Pu.DI K "check_holder" Co)(a1:Pu.DI K "check_width" Cz)(a2:Pu.DI K "check_strips" DB)(a3:Pu.DI K "holders_of" AZ)(a4:Pu.DI K "check_order" AA)(a5:Pu.DI K "gathered" Ep)(a6:Pu.DI K "pair_cost" Cg)(a7:Pu.DI K "order_cost" Dt)(a8:Pu.DI K "own_numbers" AR)(a9:Pu.DI K "exchange_cost" AU)(a10:Pu.DI K "exchanged" Dw)(a11:Pu.DI K "first_wrong_place" E1)(a12:Pu.DI K "told_moves" Dn)(a13:Pu.DI K "check_neighbours" DR)(a14:Pu.DI K "broken_wishes" Cj)(a15:Pu.DI K "longer_paths" Df)(a16:Pu.DI K "ring_from" DN)(a17:Pu.DI K "find_ring" Ek)(a18:Pu.DI K "check_no_ring" DP)(a19:Pu.DI K "check_place" D6)(a20:Pu.DI K "sold" Dx)(a21:Pu.DI K "parted" Ef)(a22:Pu.DI K "united" Cf)(a23:Pu.DI K "with_wish" EY)(a24:Pu.DI K "without_wish" D7)(a25:Pu.DI K "pair_costs" Au)(a26:Pu.DI K "sets_of" Aq)(a27:Pu.DI K "without" Eh)(a28:Pu.DI K "may_lie_last" Ao)(a29:Pu.DI K "may_lie_first" DE)(a30:Pu.DI K "cost_with_last" A9)(a31:Pu.DI K "cost_with_first" Ay)(a32:Pu.DI K "least_costs" Dl)(a33:Pu.DI K "cost_table" Da)(a34:Pu.DI K "best_order" DY)(a35:Pu.DI K "least_cost" EU)(a36:Pu.MI K n "__init__" "Village.__init__" Eo)(a37:Pu.MI K n "strips" "Village.strips" CC)(a38:Pu.MI K n "wishes" "Village.wishes" CL)(a39:Pu.MI K n "deeds" "Village.deeds" EF)(a40:Pu.MI K n "check_room" "Village.check_room" Dp)(a41:Pu.MI K n "enter" "Village.enter" DX)(a42:Pu.MI K n "sell" "Village.sell" DZ)(a43:Pu.MI K n "part" "Village.part" DG)(a44:Pu.MI K n "unite" "Village.unite" Ee)(a45:Pu.MI K n "wish" "Village.wish" Ez)(a46:Pu.MI K n "drop" "Village.drop" Dc)(a47:Pu.MI K n "take_back" "Village.take_back" DL)(a48:Pu.MI K n "stood" "Village.stood" DW)(a49:Pu.MI K n "ring" "Village.ring" E5)(a50:Pu.MI K n "order" "Village.order" E6)(a51:Pu.MI K n "cost" "Village.cost" ET)(a52:Pu.MI K n "table" "Village.table" A6)(a53:Pu.MI K n "moves" "Village.moves" E2)(a54:Pu.MI K n "melded" "Village.melded" Cq)(a55:Pu.MI K n "price" "Village.price" Cs)(a56:Pu.MI K n "broken" "Village.broken" DK)(a57:Pu.DI K "_law_at" Dh)(a58:Pu.DI K "_law_whole" A5)(a59:Pu.DI K "_law_mix" EV)(a60:Pu.DI K "_law_draw" EG)(a61:Pu.DI K "_law_menu" Er)(a62:Pu.DI K "_law_holder" ER)(a63:Pu.DI K "_law_row" Dq)(a64:Pu.DI K "_law_tuples" Dg)(a65:Pu.DI K "_law_deed_is" D3)(a66:Pu.DI K "_law_book_is" Dk)(a67:Pu.DI K "_law_present" EH)(a68:Pu.DI K "_law_price" AH)(a69:Pu.DI K "_law_kept" Eg)(a70:Pu.DI K "_law_orders" E3)(a71:Pu.DI K "_law_best" An)(a72:Pu.DI K "_law_no_ring" EA)(a73:Pu.DI K "_law_no_rings" Ga)(a74:Pu.DI K "_law_field_step" Cb)(a75:Pu.DI K "_law_wish_step" Eb)(a76:Pu.DI K "_law_step" Ci)(a77:Pu.DI K "_law_call" EL)(a78:Pu.DI K "_law_stands" AN)(a79:Pu.DI K "_law_go" A2)(a80:Pu.DI K "_law_start" Dj)(a81:Pu.DI K "_law_days" Ck)(a82:Pu.DI K "_law_odd" DF)(a83:Pu.DI K "_law_place" DT)(a84:Pu.DI K "_law_pair" Ax)(a85:Pu.DI K "_law_opening" A1)(a86:Pu.DI K "_law_width" Di)(a87:Pu.DI K "_law_deed" Ca)(a88:Pu.DI K "_law_lists" Ex)(a89:Pu.DI K "_law_copied" D2)(a90:Pu.DI K "_law_spoil" Ds){Q:Addr}{od91 N:Yj}{sl91:Array (Yi)}{oc91 J L H u M:Value}(a91:PySem.W.nsIn K mainGlobals "law"=some (some<|.ref Q))(l91:K.lookup Q=some ⟨oc91,od91,.func (PySem.W.fnOf "law" "law" (Py Ts) (XS Ts) (Xg Ts) .none J L H N u M),sl91⟩)(c91:PySem.W.codeIn K u "law"=true)(k91:PySem.W.keepIn K (.ref Q)=true)(Ux:PySem.W.nsIn K mainGlobals "any"=some none)(Uy:PySem.W.nsIn K mainGlobals "bool"=some none)(U0:PySem.W.nsIn K mainGlobals "enumerate"=some none)(U1:PySem.W.nsIn K mainGlobals "int"=some none)(U2:PySem.W.nsIn K mainGlobals "isinstance"=some none)(U3:PySem.W.nsIn K mainGlobals "len"=some none)(U4:PySem.W.nsIn K mainGlobals "list"=some none)(U5:PySem.W.nsIn K mainGlobals "max"=some none)(U6:PySem.W.nsIn K mainGlobals "min"=some none)(U7:PySem.W.nsIn K mainGlobals "range"=some none)(U8:PySem.W.nsIn K mainGlobals "repr"=some none)(U9:PySem.W.nsIn K mainGlobals "set"=some none)(UA:PySem.W.nsIn K mainGlobals "sorted"=some none)(UB:PySem.W.nsIn K mainGlobals "str"=some none)(UC:PySem.W.nsIn K mainGlobals "sum"=some none)(UD:PySem.W.nsIn K mainGlobals "tuple"=some none){UJ:Tok}(UE:PySem.W.nsIn K mainGlobals "HOLDERS"=some (some<|.int 10 UJ)){UK:Tok}(UF:PySem.W.nsIn K mainGlobals "STRIPS"=some (some<|.int 40 UK)){UL:Tok}(UG:PySem.W.nsIn K mainGlobals "WIDEST"=some (some<|.int 1000 UL)){UM:Tok}(UH:PySem.W.nsIn K mainGlobals "MOST_WISHES"=some (some<|.int 20 UM)){UN:Tok}(UI:PySem.W.nsIn K mainGlobals "MOST_DEEDS"=some (some<|.int 100 UN)){UO:Addr}(JW:Pu.EI K "TooManyStrips" UO){UP:Addr}(JX:Pu.EI K "BadHolder" UP){UQ:Addr}(JY:Pu.EI K "BadWidth" UQ){UR:Addr}(JZ:Pu.EI K "NoStrip" UR){US:Addr}(Ua:Pu.EI K "BadOrder" US){UT:Addr}(Ub:Pu.EI K "OwnStrip" UT){UU:Addr}(Uc:Pu.EI K "BadPart" UU){UV:Addr}(Ud:Pu.EI K "UnlikeHolders" UV){UW:Addr}(Ue:Pu.EI K "TooWide" UW){UX:Addr}(Ug:Pu.EI K "LikeHolders" UX){UY:Addr}(Uh:Pu.EI K "WishStands" UY){UZ:Addr}(Ui:Pu.EI K "TooManyWishes" UZ){Xa:Addr}(Uj:Pu.EI K "NoWish" Xa){Xb:Addr}(Uk:Pu.EI K "BookFull" Xb){Xc:Addr}(Ul:Pu.EI K "NothingDone" Xc){Xd:Addr}(Um:Pu.EI K "NoSuchDeed" Xd)
  : ∃fd:FuncData,(∀(s:Shared) (v:Value),BindsTo s fd ⟨[v],[]⟩ [("_law_script",v)])/\∀base:Heap,K.In base->base.Ns mainGlobals g->KL l.prog w K g base CX0 9 fa fd ["_law_script"] (Pu.D1 K):=by
 have e:=hfa.symm.trans (QO X f a91);cases e
 have p:=ExcR.Mi (QO X f JV);have G:Glob K g:=⟨Q2 X f Ux,Q2 X f Uy,Q2 X f U0,Q2 X f U1,Q2 X f U2,Q2 X f U3,Q2 X f U4,Q2 X f U5,Q2 X f U6,Q2 X f U7,Q2 X f U8,Q2 X f U9,Q2 X f UA,Q2 X f UB,Q2 X f UC,Q2 X f UD,⟨_,QO X f UE,⟨_,rfl⟩⟩,⟨_,QO X f UF,⟨_,rfl⟩⟩,⟨_,QO X f UG,⟨_,rfl⟩⟩,⟨_,QO X f UH,⟨_,rfl⟩⟩,⟨_,QO X f UI,⟨_,rfl⟩⟩,(JW.m X f),(JW.k X f),(JX.m X f),(JX.k X f),(JY.m X f),(JY.k X f),(JZ.m X f),(JZ.k X f),(Ua.m X f),(Ua.k X f),(Ub.m X f),(Ub.k X f),(Uc.m X f),(Uc.k X f),(Ud.m X f),(Ud.k X f),(Ue.m X f),(Ue.k X f),(Ug.m X f),(Ug.k X f),(Uh.m X f),(Uh.k X f),(Ui.m X f),(Ui.k X f),(Uj.m X f),(Uj.k X f),(Uk.m X f),(Uk.k X f),(Ul.m X f),(Ul.k X f),(Um.m X f),(Um.k X f),(by rw[p];exact QO X f JV),(by rw[p];exact⟨Uo,Up,Uq,Ur⟩),(by rw[p];exact Uu),(by rw[p];exact Uv),(by rw[p];exact Uw)⟩;have T:=Fu (st:=Ts) l91 c91 k91;have b91:=T.binds (ps:=["_law_script"]) λ_ _ _ _ _ _ us hl=>by obtain⟨_,rfl⟩:=Pu.Be hl;rfl
 have D91:Def K g "law" Ts ["_law_script"]:=⟨_,_,T,QO X f a91,b91⟩;refine⟨PySem.W.fnOf "law" "law" (Py Ts) (XS Ts) (Xg Ts) .none J L H N u M,λs v=>.of_eq rfl,λbase _ _=>?_⟩;have C0:=@Zn2 l.prog w K g base ⟨⟩ G (a0.e X f);have C1:=@Zph l.prog w K g base ⟨⟩ G (a1.e X f);have C3:=@Zkg l.prog w K g base G (a3.e X f);have C6:=@Zb9 l.prog w K g base ⟨⟩ (a6.e X f);have C8:=@Zh7 l.prog w K g base ⟨⟩ G (a8.e X f);have C9:=@Zbc l.prog w K g base ⟨⟩ (a9.e X f);have C10:=@Zkv l.prog w K g base ⟨⟩ (a10.e X f);have C11:=@Zno l.prog w K g base ⟨⟩ G (a11.e X f);have C13:=@Zm0 l.prog w K g base ⟨⟩ G (a13.e X f);have C14:=@Zjp l.prog w K g base ⟨⟩ G (a14.e X f);have C15:=@Zp2 l.prog w K g base ⟨⟩ (a15.e X f);have C19:=@Zh8 l.prog w K g base ⟨⟩ G (a19.e X f);have C24:=@Zdl l.prog w K g base ⟨⟩ G (a24.e X f);have C26:=@Zar l.prog w K g base ⟨⟩ (a26.e X f);have Y:=@Zbd l.prog w K g base ⟨⟩ G (a27.e X f);have C28:=@Zky l.prog w K g base ⟨⟩ G (a28.e X f);have C29:=@Zbv l.prog w K g base ⟨⟩ G (a29.e X f);have o:=@Zj1 l.prog w K g base ⟨⟩ G (a37.e p);have r:=@Zdr l.prog w K g base ⟨⟩ G (a38.e p);have C39:=@Zmh l.prog w K g base ⟨⟩ G (a39.e p);have A:=@Zdv l.prog w K g base ⟨⟩ G (a40.e p);have y:=@Zgt l.prog w K g base ⟨⟩ G (a41.e p);have C47:=@Zm9 l.prog w K g base ⟨⟩ G (a47.e p);have C48:=@Zj7 l.prog w K g base ⟨⟩ G (a48.e p);have x:=@Zsh l.prog w K g base ⟨⟩ G (a57.e X f);have E:=@Zqb l.prog w K g base ⟨⟩ G (a58.e X f);have C:=@Zl7 l.prog w K g base ⟨⟩ (a59.e X f);have C61:=@Zdd l.prog w K g base ⟨⟩ (a61.e X f);have B:=@Zkd l.prog w K g base ⟨⟩ (a62.e X f);have C67:=@Zco l.prog w K g base ⟨⟩ G (a67.e X f);have C68:=@Zku l.prog w K g base ⟨⟩ G (a68.e X f);have C69:=@Zqy l.prog w K g base ⟨⟩ (a69.e X f);have C70:=@Zqs l.prog w K g base ⟨⟩ (a70.e X f);have C72:=@Zf4 l.prog w K g base ⟨⟩ G (a72.e X f);have C74:=@Zov l.prog w K g base ⟨⟩ G (a74.e X f);have C75:=@Zd7 l.prog w K g base ⟨⟩ G (a75.e X f);have C82:=@Zpm l.prog w K g base ⟨⟩ (a82.e X f);have C83:=@Zi4 l.prog w K g base ⟨⟩ G (a83.e X f);have C86:=@Zcq l.prog w K g base ⟨⟩ G (a86.e X f);have C89:=@Zeb l.prog w K g base ⟨⟩ G (a89.e X f);have C90:=@Zp8 l.prog w K g base ⟨⟩ G (a90.e X f);have C2:=Zaf ⟨⟩ G C0 C1 (a2.e X f);have C4:=Zhi ⟨⟩ G (Sh C3) (a4.e X f);have C16:=Zjj ⟨⟩ G C15 (a16.e X f);have C20:=Zlh ⟨⟩ G C0 C19 (a20.e X f);have C21:=Zaz ⟨⟩ G C19 (a21.e X f);have C22:=Zpg ⟨⟩ G C13 (a22.e X f);have C23:=Zoj ⟨⟩ G C0 (a23.e X f);have C25:=Zmk ⟨⟩ (Sh C3) C6 (a25.e X f);have C30:=Zdn ⟨⟩ G Y (a30.e X f);have C31:=Zlp ⟨⟩ G Y (a31.e X f);have C46:=Zdw ⟨⟩ G C24 o r A y (a46.e p);have C60:=Znt ⟨⟩ x C (a60.e X f);have C63:=Zso ⟨⟩ G E (a63.e X f);have C64:=Zpy ⟨⟩ G E (a64.e X f);have C65:=Zgi ⟨⟩ G E (a65.e X f);have C71:=Zee ⟨⟩ C67 C68 C69 C70 (a71.e X f);have C76:=Ziv ⟨⟩ C74 C75 (a76.e X f);have C80:=Zes ⟨⟩ G x C B (a80.e X f);have C81:=Zcx ⟨⟩ G x C (a81.e X f);have C84:=Zi8 ⟨⟩ G B C82 (a84.e X f);have C5:=Zsi ⟨⟩ C4 (a5.e X f);have C7:=Zav ⟨⟩ G C6 C4 (a7.e X f);have C12:=Zk8 ⟨⟩ C8 C9 C10 C11 C4 (a12.e X f);have C17:=Zqa ⟨⟩ G C16 (a17.e X f);have C32:=Zgc ⟨⟩ G (Sh C3) C26 C28 C30 (a32.e X f);have C36:=Zdm ⟨⟩ G C2 (a36.j p Us Ut);have C42:=Zra ⟨⟩ G o r A y C20 (a42.e p);have C43:=Zmd ⟨⟩ G o r A y C21 (a43.e p);have C44:=Zas ⟨⟩ G o r A y C22 (a44.e p);have C45:=Zo3 ⟨⟩ G o r A y C23 (a45.e p);have C56:=Zey ⟨⟩ G C14 o r C4 (a56.e p);have C66:=Zc9 ⟨⟩ G C65 (a66.e X f);have C85:=Zg5 ⟨⟩ G x C B C84 (a85.e X f);have C87:=Zm4 ⟨⟩ G B C82 C83 C86 C84 (a87.e X f);have C18:=Zks ⟨⟩ (Sh C3) C17 (a18.e X f);have C49:=Zdz ⟨⟩ G (Sh C3) o r C17 (a49.e p);have C55:=Zi5 ⟨⟩ G o C7 (a55.e p);have C77:=Zj0 ⟨⟩ G C46 C42 C43 C44 C45 (a77.e X f);have C78:=Zo6 ⟨⟩ G o r C39 C64 C66 (a78.e X f);have C33:=Zqe ⟨⟩ G C25 C32 C18 (a33.e X f);have C34:=Zos ⟨⟩ G (Sh C3) Y C29 C25 C31 C32 C18 (a34.e X f)
 have C79:=Zoz ⟨⟩ G C47 E C76 C77 (a79.e X f);have C35:=Zom ⟨⟩ C33 (a35.e X f);have U:=Zel ⟨⟩ G o r C34 (a50.e p);have C52:=Zq1 ⟨⟩ G o r C33 (a52.e p);have C73:=Zdo ⟨⟩ C67 C72 C79 (a73.e X f);have C51:=Zoh ⟨⟩ G o r C35 (a51.e p);have C53:=Zil ⟨⟩ G o C12 U (a53.e p);have C54:=Zok ⟨⟩ G o C5 U (a54.e p);have C88:=Zgr ⟨⟩ G o r C39 C48 C56 C49 U C52 C53 C54 (a88.e X f);have C91:=Zjh ⟨⟩ G x C61 C89 C90 C60 C63 C71 C80 C81 C36 C85 C87 C55 C78 C79 C73 C51 C88 D91;exact(C91.at (QO X f a91) T D91).imp λ_ _ _ _ z=>Pu.Zm3 z
end T
namespace PySem.W.Fast
def I:True:=⟨⟩
def tw6014649621122688073:=I
def tw14221834257380395040:=I
def tw15760611184227714112:=I
def tw11364045941018829888:=I
def tw5763316882758450240:=I
def tw14217479305365374016:=I
def tw16020161783455868992:=I
def tw1018431244918918240:=I
def tw3159365023519430752:=I
def tw11364315361165828224:=I
def tw8645855101529246880:=I
def tw17467044322045971616:=I
def tw3204166556097814784:=I
def tw1465258480900953376:=I
def tw8353996995863735616:=I
def tw4724357388033122656:=I
def tw2286812087505518048:=I
def tw15872933667357769312:=I
def tw12292571376989786720:=I
def tw11309090948982670976:=I
def tw58316271258148544:=I
def tw3656594343789505216:=I
def tw13640840076411621056:=I
def tw525682870603474656:=I
def tw7239603681926156032:=I
def tw11004489143519196928:=I
def tw3200764117507464960:=I
def tw13667958218491059008:=I
def tw16724825946264835968:=I
def tw17017492684800216960:=I
def tw250920821669431200:=I
def tw6250314161625279392:=I
def tw4712663867501196224:=I
def tw6104996740814734304:=I
def tw9609399462656212993:=I
def tw11791429444111872001:=I
def tw12143399768252529697:=I
def tw8606551827749677121:=I
def tw2466205675893468225:=I
def tw7754526668062905441:=I
def tw12765774666551603329:=I
def tw1244053452854427809:=I
def tw7044175516056167585:=I
def tw3690949815515963553:=I
def tw18043995238678438081:=I
def tw13770760136171438273:=I
def tw13005822854020422849:=I
def tw17849671129978237121:=I
def tw5969240537612857569:=I
def tw11006440951783477473:=I
def tw16001295212373695777:=I
def tw2361533220110601537:=I
def tw351067934879408449:=I
def tw3012533729599001953:=I
def tw7449255554111807841:=I
def tw8585925102804908417:=I
def tw16524940141922289153:=I
def tw9777793582258153985:=I
def tw11258160354591600129:=I
def tw7050859778288189985:=I
def tw17587278563748945441:=I
def tw5892992131422826017:=I
def tw14570082756733025825:=I
def tw504063888220077601:=I
def tw10531324040245828161:=I
def tw8141050963115338337:=I
def tw5563389412042922625:=I
def tw17216868118208148097:=I
def tw14910754968082668193:=I
def tw1639164853642189473:=I
def tw8130066463181237921:=I
def tw5025703603733545665:=I
def tw3183126898445483713:=I
def tw13059050709720644321:=I
def tw3037463755177377505:=I
def tw2768806894503741217:=I
def tw6308280485757439809:=I
def tw8804224709911787393:=I
def tw5226772752409315297:=I
def tw551388406684145633:=I
def tw5762513654745186306:=I
def tw6994245514288596066:=I
def tw881365097465031778:=I
def tw6712930963339106402:=I
def tw7863595605851921506:=I
def tw10554704093741376610:=I
def tw6021034394051223682:=I
def tw9547616542046279810:=I
def tw13348572001275142274:=I
def tw15536840298642956418:=I
def tw11757349382042467522:=I
def tw3087384748118254850:=I
def tw5205366086168382786:=I
def tw6184261704030297442:=I
def tw8758104098881772898:=I
def tw12075511506603513218:=I
def tw5838834535513775522:=I
def tw5829680852895034786:=I
def tw6855516762874755618:=I
def tw3809721748770480674:=I
def tw3361486863575547426:=I
def tw14995521182865819202:=I
def tw16698594143288467010:=I
def tw16213274088698245698:=I
def tw11360755329322667618:=I
def tw12080823489324667490:=I
def tw1068278086661245570:=I
def tw18097805464915966626:=I
def tw7920427095282347714:=I
def tw4865899002619307746:=I
def tw12598822875155085026:=I
def tw15034563900631707362:=I
def tw14269666885797553922:=I
def tw6788178080733047586:=I
def tw16253449222989728546:=I
def tw14651419044752573250:=I
def tw5398173304489614210:=I
def tw14671080735797026690:=I
def tw18398093335717850018:=I
def tw6795120325502541794:=I
def tw4206165231328430147:=I
def tw384109896986495107:=I
def tw12850995569678136451:=I
def tw13496485020262626435:=I
def tw3374017586601665763:=I
def tw18286579800953465059:=I
def tw6051582137544401123:=I
def tw8522539380201710819:=I
def tw16063116345553383651:=I
def tw9438229854317432067:=I
def tw17917496349611255043:=I
def tw3128691361183559939:=I
def tw15271702459828500739:=I
def tw10777926234478117155:=I
def tw61500337618009379:=I
def tw9156447890636915011:=I
def tw15566291714600301059:=I
def tw11021049373393777155:=I
def tw6374308914315322915:=I
def tw13957025414594203235:=I
def tw17282032581841011299:=I
def tw8378001536356515427:=I
def tw17069638648880785027:=I
def tw3116300623651236547:=I
def tw6866183284915438307:=I
def tw13087222653787709155:=I
def tw136890405169355523:=I
def tw7743973187693572867:=I
def tw12712906569352582947:=I
def tw2194003924107904803:=I
def tw1565127898014928675:=I
def tw8966225434797237059:=I
def tw14069105659493389155:=I
def tw13941376066780633987:=I
def tw2983540963739577219:=I
def tw8954012205981355907:=I
def tw11501020601444661219:=I
def tw7857124730605169668:=I
def tw11143827001465611300:=I
def tw10326221179218947108:=I
def tw9024203409430786116:=I
def tw6996120130104046756:=I
def tw3112428262076458180:=I
def tw11232742984370073860:=I
def tw482630166214567172:=I
def tw2563341697472724260:=I
def tw16975986524810262852:=I
def tw7766379944449068388:=I
def tw4868011252350448004:=I
def tw8432372214226442660:=I
def tw6389002051053606372:=I
def tw18386430677083681252:=I
def tw11476854801098837540:=I
def tw7845910605251341892:=I
def tw3180550603606924964:=I
def tw14622584373898564292:=I
def tw17839601112175109828:=I
def tw12506605040958492388:=I
def tw734585074278521572:=I
def tw15170709009084537668:=I
def tw18078221057155155812:=I
def tw8894395751130700676:=I
def tw9184785859783384964:=I
def tw18177038698459746212:=I
def tw3460241170086027172:=I
def tw17790636761730046916:=I
def tw9865655976642408388:=I
def tw16085551909415052260:=I
def tw5738313645840132068:=I
def tw12806609795575451685:=I
def tw16017971088454961221:=I
def tw9191684379770707013:=I
def tw15593897235920588901:=I
def tw14815073044656771205:=I
def tw16478961500672087205:=I
def tw840346601707556037:=I
def tw461825202024877285:=I
def tw11975453138452333861:=I
def tw7801999042777572645:=I
def tw10862045862857950533:=I
def tw10933275275844326853:=I
def tw15655131725558566341:=I
def tw6899104168384334309:=I
def tw1786659927406058981:=I
def tw9347399316470331909:=I
def tw14586800046933531205:=I
def tw4421558295692644005:=I
def tw17240812461089898181:=I
def tw12506025675236392677:=I
def tw3047830930370111237:=I
def tw2165377895586606885:=I
def tw5430229645723794213:=I
def tw9516421101813819237:=I
def tw12143958440312503141:=I
def tw14802918063876190085:=I
def tw18195525513083119525:=I
def tw1190882974645810085:=I
def tw8908364930918837221:=I
def tw6122894727259365382:=I
def tw5600856663189365766:=I
def tw694149652069482534:=I
def tw1135142152974397478:=I
def tw12494784162700988582:=I
def tw1950138458824564902:=I
def tw6238088749757879494:=I
def tw11240491042645222630:=I
def tw3644842856783347974:=I
def tw4090867012820717830:=I
def tw2218747024945098054:=I
def tw12161057639995015558:=I
def tw1879357428696846790:=I
def tw7781496095462975942:=I
def tw1940620675562974694:=I
def tw7271326219000334886:=I
def tw1950203167001371206:=I
def tw6100463368698413734:=I
def tw4224205625294026502:=I
def tw4646928175033549670:=I
def tw979683399110545286:=I
def tw13504812780587199430:=I
def tw17636105347233563622:=I
def tw10049149630410397703:=I
def tw7716371236974935047:=I
def tw15577723837608052743:=I
def tw9082035650551566503:=I
def tw2991066467482362055:=I
def tw16889570573009726695:=I
def tw12285677169839683815:=I
def tw3586195294721970439:=I
def tw7312697161507937543:=I
def tw5002674505375065351:=I
def tw10106741988552245575:=I
def tw4131955441122738503:=I
def tw8957495400721921351:=I
def tw13267497477472237895:=I
def tw658755699073736039:=I
def tw15540013381020836231:=I
def tw10830341351186851271:=I
def tw16773845180233699815:=I
def tw7645101597195685383:=I
def tw3815034115223678471:=I
def tw9908521067351096903:=I
def tw2089238004013207143:=I
def tw5617212892723024487:=I
def tw1006385711247305383:=I
def tw10886753919016380135:=I
def tw11800970140081943271:=I
def tw16625619029645146887:=I
def tw12733111150418123559:=I
def tw13700303296757506887:=I
def tw14213749466403653479:=I
def tw17959877459784038247:=I
def tw15194080603393120167:=I
def tw18289381110771121095:=I
def tw15277529735052371943:=I
def tw16182901858222356455:=I
def tw10425185839174132744:=I
def tw13018585849432216680:=I
def tw5056526726599660680:=I
def tw13436445977159966952:=I
def tw5918530706932983016:=I
def tw17815029014204334344:=I
def tw17955770648814488872:=I
def tw5869957916569700680:=I
def tw13179039252491407720:=I
def tw13393951301839235432:=I
def tw4496856248282024360:=I
def tw1233878148482201160:=I
def tw14931530276250807976:=I
def tw7080802904156140200:=I
def tw247230559065441992:=I
def tw9321562328042687176:=I
def tw14387481171943654120:=I
def tw12534016053847771944:=I
def tw11373660048093841256:=I
def tw16531251635162230632:=I
def tw16424240115737967464:=I
def tw16817961103083113384:=I
def tw4885663474341912488:=I
def tw16494904657870175241:=I
def tw7924505523178070057:=I
def tw15654685078550727753:=I
def tw11598803624024219785:=I
def tw7467762894689830089:=I
def tw9978439748688079049:=I
def tw7966197846709581033:=I
def tw5122622067656537321:=I
def tw8612937178531494121:=I
def tw822728802527190313:=I
def tw17627475052264055081:=I
def tw15575491501340149193:=I
def tw8866931005862301129:=I
def tw16562209202388583913:=I
def tw3939871204435617289:=I
def tw13911510574022170153:=I
def tw4625964114262991401:=I
def tw6553663423701726953:=I
def tw10794489791586690825:=I
def tw7880709520218196777:=I
def tw9852442906733588265:=I
def tw7843520437755260777:=I
def tw18405335416182198153:=I
def tw8825149650833863593:=I
def tw2323018384614520809:=I
def tw2303781983811416074:=I
def tw18027355814750019594:=I
def tw15717216997519828010:=I
def tw4672433936964082730:=I
def tw18215491754741608522:=I
def tw10424740760702551210:=I
def tw16104529009007648938:=I
def tw14108328871507865866:=I
def tw13513030553379406122:=I
def tw5668287984344012106:=I
def tw5185599476557100362:=I
def tw17087703661921861994:=I
def tw3696387084292594026:=I
def tw9389966887470375306:=I
def tw18024514988419002858:=I
def tw13051225205852848618:=I
def tw10745580541297381898:=I
def tw14444990247333195274:=I
def tw1102707399606650506:=I
def tw2116697998362143370:=I
def tw3567439480633432746:=I
def tw9898804802499641002:=I
def tw1763255228568640202:=I
def tw481396849082056458:=I
def tw947480880404579114:=I
def tw18205109128696493866:=I
def tw7650078592805412682:=I
def tw14124284500453921642:=I
def tw10371427848402166634:=I
def tw16309265667244288874:=I
def tw17080063662986400650:=I
def tw3214997158129523594:=I
def tw9642343587473138666:=I
def tw5261290626891763690:=I
def tw6099309580123449483:=I
def tw12575707579283167371:=I
def tw2368333685260807339:=I
def tw13265340947159973131:=I
def tw7424649660894084363:=I
def tw3238680563159461227:=I
def tw8214411415181492619:=I
def tw16780374096385738155:=I
def tw6967023752153610667:=I
def tw2855669592743686635:=I
def tw10189393886497954283:=I
def tw9075729637307246059:=I
def tw13942536416410017291:=I
def tw5972133872690196107:=I
def tw16556115797444793003:=I
def tw6094788418307662507:=I
def tw6567186563332320939:=I
def tw8252991856748190411:=I
def tw380751312364261099:=I
def tw15729495884994927339:=I
def tw10869460218046340843:=I
def tw17640857644320295691:=I
def tw12076685269480967947:=I
def tw5508049223782404043:=I
def tw8972340142318680011:=I
def tw2283297202051915755:=I
def tw7898135908595024875:=I
def tw8123589074419153899:=I
def tw2820635810284184588:=I
def tw4266503269468061708:=I
def tw5821790047817493548:=I
def tw15927302116075621484:=I
def tw14451729000058417260:=I
def tw8638114632420401292:=I
def tw11276055775038551180:=I
def tw6694491921508447372:=I
def tw18202203745309147276:=I
def tw14457374927226790060:=I
def tw12292962247184333068:=I
def tw7910509789685245196:=I
def tw4983969631600570636:=I
def tw5824759165909862700:=I
def tw17120709013260277036:=I
def tw11883187376121734476:=I
def tw15669753405711623532:=I
def tw17194733027761139052:=I
def tw18031646456088370572:=I
def tw6991987842747852172:=I
def tw270781847840380332:=I
def tw14612681014883915244:=I
def tw2362769465246604780:=I
def tw18440937305494028812:=I
def tw15251670342136221196:=I
def tw1249309092514158092:=I
def tw3862350787522363980:=I
def tw5091342104467443276:=I
def tw1065325636103545420:=I
def tw13779571851656803916:=I
def tw2992399433450567276:=I
def tw3585652554597447276:=I
def tw17769449019236572780:=I
def tw17282812709293355628:=I
def tw13227962181453521548:=I
def tw3466238174383516300:=I
def tw11670659139462994604:=I
def tw9869164801139917484:=I
def tw15308900630915310284:=I
def tw3716009959753162476:=I
def tw4449675210710560492:=I
def tw14874024395218890508:=I
def tw5109411426562447148:=I
def tw10391517705961774956:=I
def tw6764174648004555660:=I
def tw7630983910221541260:=I
def tw1263545160322326444:=I
def tw14283438665223716780:=I
def tw4451253997355919308:=I
def tw1231741097378705356:=I
def tw8581135791072180172:=I
def tw4498969199872820204:=I
def tw1558204399961659405:=I
def tw9499630276670793773:=I
def tw16139437330029303853:=I
def tw4847872558607012941:=I
def tw8685034711716542541:=I
def tw15013358823429304429:=I
def tw813565641015043213:=I
def tw15686876589745865901:=I
def tw6545684644257588429:=I
def tw15465374865273323821:=I
def tw5088333880439594285:=I
def tw7565388593212815661:=I
def tw17701782312797404461:=I
def tw2218787562143022381:=I
def tw14061291795065304493:=I
def tw2473113777532112333:=I
def tw7965682035080783373:=I
def tw13406365343187446317:=I
def tw12138844055159633485:=I
def tw5893156419744438893:=I
def tw785335354402661997:=I
def tw11268807246318844557:=I
def tw9453159169206672013:=I
def tw8104985728582256333:=I
def tw12189092550108875469:=I
def tw11094255357639713485:=I
def tw4945307709971885805:=I
def tw15157164168246667021:=I
def tw8082258510742442797:=I
def tw5730350544897538861:=I
def tw3696953069106245485:=I
def tw12528937083537952653:=I
def tw7813984395180605325:=I
def tw15195660265028832205:=I
def tw14433314813295810509:=I
def tw9457029018238331885:=I
def tw4029824399232761998:=I
def tw11906936957167062158:=I
def tw11705008767022750862:=I
def tw13572167586498120942:=I
def tw15467521579072390414:=I
def tw5904168525915604270:=I
def tw3878641764510018894:=I
def tw12929667311486088526:=I
def tw13405945015905584526:=I
def tw4429215581202375054:=I
def tw868598518176555502:=I
def tw3966640884937684462:=I
def tw2367583258800060910:=I
def tw9157743493112217102:=I
def tw702565546639601198:=I
def tw16136911960957838926:=I
def tw3698217628171535982:=I
def tw13166447228634046062:=I
def tw4876013689831879278:=I
def tw4739343467229157038:=I
def tw9890325817909540558:=I
def tw12508776464523956974:=I
def tw9043547309255412494:=I
def tw15123363704792517422:=I
def tw3572819043283376974:=I
def tw6849986686990657390:=I
def tw4640014917107102574:=I
def tw3254504263172783982:=I
def tw11948422430148023278:=I
def tw1312326171623199855:=I
def tw11491650547469764719:=I
def tw8499123512437089487:=I
def tw15263663061252231375:=I
def tw2477609500339309807:=I
def tw16745020484650596591:=I
def tw5099458290104517007:=I
def tw11631814594555190703:=I
def tw18223200748747494863:=I
def tw17464642797504515535:=I
def tw2614155654366262735:=I
def tw6606477704272818671:=I
def tw2640166287701024271:=I
def tw1301928187952349743:=I
def tw1692435733566704207:=I
def tw3588208503263534735:=I
def tw5640597463311609487:=I
def tw11066949192926578351:=I
def tw14883547536053166799:=I
def tw5779175236914551599:=I
def tw5342533987807793103:=I
def tw7395721863360068656:=I
def tw7279283793415351376:=I
def tw14877878473776383120:=I
def tw13257880196839864464:=I
def tw13444954272979282096:=I
def tw11563854746735416528:=I
def tw17159179824114797840:=I
def tw9383188344620621200:=I
def tw16240807335942201744:=I
def tw14542106430345506192:=I
def tw14692351320546031056:=I
def tw4767194430988034576:=I
def tw7796805204203495952:=I
def tw9155540000629170736:=I
def tw15645877096644470320:=I
def tw11975817234885037648:=I
def tw386519465101962864:=I
def tw10782724543380158128:=I
def tw9873384926264317712:=I
def tw2634910694352936912:=I
def tw3432446009535700976:=I
def tw8214397826457639953:=I
def tw4324698808692678673:=I
def tw351022131125266481:=I
def tw8980891001777074257:=I
def tw12520783997182467153:=I
def tw10631212997382045841:=I
def tw18293710509736729809:=I
def tw11375421779259672785:=I
def tw16401450740598134001:=I
def tw8636452214555507953:=I
def tw2345968795667803409:=I
def tw17581181369702248753:=I
def tw8275941927428768081:=I
def tw14530909396188711281:=I
def tw10175233948748078449:=I
def tw6092379500350169553:=I
def tw5929014241718564337:=I
def tw15331130545814042161:=I
def tw18004670772298301009:=I
def tw10786836031578673777:=I
def tw10270367552192013937:=I
def tw3099488465416386161:=I
def tw17759892657813833361:=I
def tw7870522197260157713:=I
def tw15311157683787303793:=I
def tw10247584082480183153:=I
def tw1530794258929040241:=I
def tw322917229277135729:=I
def tw1931974527665696625:=I
def tw2200880028758292401:=I
def tw1647070944031356849:=I
def tw8218400174181473201:=I
def tw8589941787677819857:=I
def tw10917084629256254417:=I
def tw1632751653485131729:=I
def tw2745690075657830353:=I
def tw542229437027481585:=I
def tw5841964429081230354:=I
def tw9530180680945634386:=I
def tw12121647456983039186:=I
def tw16706144631271070962:=I
def tw7658140765195834642:=I
def tw12050792700486478098:=I
def tw6753707671188019538:=I
def tw7271074260911831378:=I
def tw1900113466720292242:=I
def tw9508899864924035474:=I
def tw2940736889473973682:=I
def tw8556774952358301106:=I
def tw8414138732635631058:=I
def tw13621466678458940914:=I
def tw1876922700757005842:=I
def tw2227977284094493298:=I
def tw13554086957353109106:=I
def tw14216498788066846322:=I
def tw17490627067658998418:=I
def tw14201402013900577426:=I
def tw10325937982687205010:=I
def tw6583370976542468786:=I
def tw6476166125075162834:=I
def tw14327245530665292626:=I
def tw13064691302319801170:=I
def tw3411051011191284594:=I
def tw11914590596241352562:=I
def tw17172235073279318930:=I
def tw130317273434320786:=I
def tw1493254326800743314:=I
def tw16087922170193314738:=I
def tw6260804095825646514:=I
def tw1137513659584678866:=I
def tw459156969692345298:=I
def tw4155010684177500114:=I
def tw5179877999726952434:=I
def tw5442668278861368339:=I
def tw1741087035396493331:=I
def tw14800161513377529939:=I
def tw6257812428655156307:=I
def tw11869145112408835251:=I
def tw16499486193415551155:=I
def tw7232409148525498579:=I
def tw17689514045538723059:=I
def tw12303933177454913811:=I
def tw6344660959199655219:=I
def tw2368661365218602323:=I
def tw14394345271967577427:=I
def tw2135433315100109171:=I
def tw15207223827332836723:=I
def tw5407785779825520019:=I
def tw12699214910062803379:=I
def tw9042189668349162995:=I
def tw17466406553736955411:=I
def tw17669159512250509939:=I
def tw8454464011271240307:=I
def tw1926752154386536083:=I
def tw11400885508378995347:=I
def tw9256161221869746867:=I
def tw10599631285775154867:=I
def tw15248141461556387507:=I
def tw13006596211209322227:=I
def tw3310618768582722387:=I
def tw13435802756429091699:=I
def tw8184721548867038067:=I
def tw9393806568401239923:=I
def tw17439489203502488467:=I
def tw2851094677804822419:=I
def tw17920237164763427731:=I
def tw10686152485481107347:=I
def tw10006354979624476563:=I
def tw14121676153283290035:=I
def tw2366244343325341651:=I
def tw5929884790121096212:=I
def tw12577863936808789044:=I
def tw4765769145207457876:=I
def tw8768969028486353044:=I
def tw16997385445014644980:=I
def tw5281233917515293972:=I
def tw8809124173369100628:=I
def tw17457081457595224436:=I
def tw10343167915943215476:=I
def tw1854585450616520052:=I
def tw3976476247849850292:=I
def tw798545140810910164:=I
def tw561027064537821652:=I
def tw1345521541866779092:=I
def tw8800154144430302740:=I
def tw13070484856129109524:=I
def tw10371167206094269972:=I
def tw6336559163770583604:=I
def tw13787428198572225076:=I
def tw6762184966113965716:=I
def tw14068626888904078996:=I
def tw6755022038290174644:=I
def tw8984515656010922708:=I
def tw17785855070742346452:=I
def tw17833089567193373428:=I
def tw11278057528456164084:=I
def tw1361591130112619252:=I
def tw17416933270939836180:=I
def tw17519381035833323284:=I
def tw8951370107936677748:=I
def tw14971339414747721620:=I
def tw3050863988422029204:=I
def tw2749139293447060404:=I
def tw5860773957910561813:=I
def tw9130101443264482325:=I
def tw10354900277544327189:=I
def tw17103468730739695669:=I
def tw16874828118233975925:=I
def tw2841265146803654773:=I
def tw8654838302474351733:=I
def tw13807878373703806069:=I
def tw5180012645948719253:=I
def tw7323313796230890709:=I
def tw13882305830547379413:=I
def tw17111183184031806677:=I
def tw3347081634503169269:=I
def tw14594987286068552021:=I
def tw2845578687737991541:=I
def tw11813341501775269269:=I
def tw860325867175642613:=I
def tw10248181659984550453:=I
def tw10783384669568633429:=I
def tw11254246378751468149:=I
def tw9776913208180890229:=I
def tw16002583666907752085:=I
def tw14971393397889057461:=I
def tw6244248205719594677:=I
def tw6263900936480537301:=I
def tw14237289897622015893:=I
def tw16432185643422697397:=I
def tw5548565094891441109:=I
def tw14568312082580627413:=I
def tw2419513744079860725:=I
def tw9127404821329701877:=I
def tw13352464126327127029:=I
def tw12321791812695557206:=I
def tw16206267864436836438:=I
def tw12282457888702298198:=I
def tw10001918349710588022:=I
def tw11071651788527211734:=I
def tw775975545171376342:=I
def tw15831852091164141814:=I
def tw15834909396724775158:=I
def tw15996273826522274070:=I
def tw15833596745154531638:=I
def tw16373801964465961270:=I
def tw1561726561701016918:=I
def tw2941850332913880534:=I
def tw604391624996549078:=I
def tw17249033292342795766:=I
def tw14686973529245517334:=I
def tw8497585812216786454:=I
def tw17518717268223154710:=I
def tw11482997661201470006:=I
def tw6429762555300693558:=I
def tw2024095841532352150:=I
def tw6242440358886843030:=I
def tw6102082823900223126:=I
def tw17326731109800407734:=I
def tw17106257103927539382:=I
def tw10411956497332248278:=I
def tw7353830560199075542:=I
def tw9472333465723861750:=I
def tw884265718217900822:=I
def tw7697644847511966486:=I
def tw9850077098441968438:=I
def tw11739334023208572758:=I
def tw6191643713628559190:=I
def tw3047885955958230902:=I
def tw3199370472379074454:=I
def tw5150368329134359542:=I
def tw8031307307713283095:=I
def tw1826971147792220215:=I
def tw10793933555325177911:=I
def tw1279651451827838007:=I
def tw5736162129135711319:=I
def tw4987199171404909655:=I
def tw3642942314078338135:=I
def tw14591062780638601367:=I
def tw9213683317967569111:=I
def tw16740363755971144951:=I
def tw15685356430545350935:=I
def tw1122539677267439959:=I
def tw15792471041189640567:=I
def tw15888764333432391095:=I
def tw4930935445157012951:=I
def tw15722886669568643575:=I
def tw5900152028444063223:=I
def tw11776410283876590135:=I
def tw4028857091147329079:=I
def tw275877329325665879:=I
def tw15041309349377486423:=I
def tw2142300477875873527:=I
def tw13812055522752546615:=I
def tw1354341079041176407:=I
def tw17251311895562063735:=I
def tw10769080497779841911:=I
def tw11240617336695427991:=I
def tw9214393745402957751:=I
def tw10816064404147750839:=I
def tw2553383979959105495:=I
def tw10119207085037764632:=I
def tw9680824882540332088:=I
def tw7854723509969393752:=I
def tw9981067405287470168:=I
def tw17131046647286861944:=I
def tw11564677784018495608:=I
def tw4592835851476091000:=I
def tw5797814730213344376:=I
def tw6511207122411147384:=I
def tw485186006284587160:=I
def tw17944511889550091512:=I
def tw3365303574832818456:=I
def tw715485502047954264:=I
def tw6709862750266408344:=I
def tw1450076645737512344:=I
def tw9067967542462530968:=I
def tw12204949368966762904:=I
def tw1009414212651913720:=I
def tw3402810375348494840:=I
def tw5068931523075810808:=I
def tw9030524707101101560:=I
def tw5259375181950906872:=I
def tw16489083397555889688:=I
def tw7546042100528035352:=I
def tw15722313775012035096:=I
def tw5954317091726852664:=I
def tw733857644354248248:=I
def tw3850229207323024984:=I
def tw6218537812910318168:=I
def tw3972683885740525176:=I
def tw8107130812392728184:=I
def tw9371153523351979672:=I
def tw17028330378817210008:=I
def tw12846245735662422712:=I
def tw14961459891463763672:=I
def tw14198428033890604792:=I
def tw10795062247584303992:=I
def tw7920165266766874552:=I
def tw2838647789542997944:=I
def tw14818645049564302296:=I
def tw15204125623440160728:=I
def tw13806484052624039961:=I
def tw17867164749940209753:=I
def tw12039274652642963577:=I
def tw13005414389614202009:=I
def tw1725895536764087449:=I
def tw7695098826199356665:=I
def tw5145360643846643993:=I
def tw10886675694493580569:=I
def tw15903707999982058777:=I
def tw18229834021943230777:=I
def tw14270904021966032313:=I
def tw13937975959321579961:=I
def tw18100681860290681305:=I
def tw16826126608499363321:=I
def tw839688873412988441:=I
def tw14513565673496353337:=I
def tw9517757009506396729:=I
def tw1308743277967935065:=I
def tw12067949265618087545:=I
def tw13677197464994415257:=I
def tw11722577162801048217:=I
def tw15956551319680789273:=I
def tw4047741580727893785:=I
def tw7275159276198102841:=I
def tw12543560048495876921:=I
def tw17760377082469818265:=I
def tw7478255847340458905:=I
def tw15924555887178473401:=I
def tw6194312052744816666:=I
def tw11347358952707302426:=I
def tw929590749273173018:=I
def tw14857825579882955802:=I
def tw14883667029471227994:=I
def tw10943706924841820282:=I
def tw17650038613968352378:=I
def tw13587242782280047802:=I
def tw11637703829772936506:=I
def tw15942258107009987898:=I
def tw17243135912843955546:=I
def tw2394240000768400730:=I
def tw14513287887268184570:=I
def tw15814004508202492442:=I
def tw14336202849658797626:=I
def tw3169444326705726042:=I
def tw588175741441120858:=I
def tw4854602745874757210:=I
def tw7373639025071877722:=I
def tw17193689556496767674:=I
def tw12197806049153183418:=I
def tw15517510365769626362:=I
def tw11702282333247691546:=I
def tw10770708734194716474:=I
def tw5816861374286083898:=I
def tw14746343962636498746:=I
def tw2690729604170429306:=I
def tw13568422818797073306:=I
def tw4496775050489402362:=I
def tw15794737545081464826:=I
def tw14868495844550789114:=I
def tw3933948706721477723:=I
def tw7858554823202390139:=I
def tw14533406192219901051:=I
def tw5174116806000558235:=I
def tw6574597928350121147:=I
def tw5593253446702649563:=I
def tw13847908692446192955:=I
def tw5348324726672622939:=I
def tw9171738982828813659:=I
def tw14842539091393266075:=I
def tw53920955030973883:=I
def tw14119418577685535195:=I
def tw12605811674770564571:=I
def tw17451612262532425211:=I
def tw10586168241945070107:=I
def tw619559662534879771:=I
def tw3233946310202065467:=I
def tw17205825063885848123:=I
def tw448787343409726011:=I
def tw4817143460011902587:=I
def tw7477095764011806331:=I
def tw3598699159427097339:=I
def tw16106029991150045947:=I
def tw8003379438609460987:=I
def tw10392537535340707579:=I
def tw12313608395576455963:=I
def tw8177736899256334107:=I
def tw4512581713163977531:=I
def tw1204458851575600955:=I
def tw15134158710872069947:=I
def tw8943888191268526939:=I
def tw14441393033267106651:=I
def tw3345894179834577787:=I
def tw4019768804402831259:=I
def tw10805748665781730203:=I
def tw9030743238991734683:=I
def tw16950329828117442459:=I
def tw8720685948475811996:=I
def tw7392409523732172988:=I
def tw3938810359882412284:=I
def tw3378720418118383932:=I
def tw16227612280013200732:=I
def tw17516936562004967772:=I
def tw4184408132405641564:=I
def tw13580477243578852796:=I
def tw17629107322200108476:=I
def tw5286527114688240124:=I
def tw16797803645641247228:=I
def tw100428659561687580:=I
def tw2184320273005686332:=I
def tw8152013875444537948:=I
def tw13250940761049164380:=I
def tw6311280555342868092:=I
def tw17643554558293629564:=I
def tw13970511979860843196:=I
def tw3511032195300985564:=I
def tw7763714370207484636:=I
def tw131033644731193052:=I
def tw13362676940814192380:=I
def tw6325328827394866940:=I
def tw3102033192788027164:=I
def tw13453166026688649020:=I
def tw10081302777724597052:=I
def tw5764381153202868060:=I
def tw13151569755311543132:=I
def tw4140138894823334780:=I
def tw10593245276239239068:=I
def tw12459916125569302428:=I
def tw780669207386750908:=I
def tw1568807600553513980:=I
def tw2127422608378367037:=I
def tw10282273899014220861:=I
def tw12968394959522809981:=I
def tw9952939886131641469:=I
def tw13826883528503679165:=I
def tw14641264800063417533:=I
def tw3513672567285554397:=I
def tw12795579297558951133:=I
def tw18279042232238572829:=I
def tw9725145503695616285:=I
def tw5800023285573630269:=I
def tw17486352851284676925:=I
def tw78242701001325949:=I
def tw6521032845206863261:=I
def tw14525648297982570941:=I
def tw5939636655150078429:=I
def tw14469149156526969309:=I
def tw3963484452463877629:=I
def tw76742857929274877:=I
def tw15852480074691958269:=I
def tw10421398158470482461:=I
def tw13024250861348468317:=I
def tw5634406248381807229:=I
def tw3789570705085348541:=I
def tw16809297652307062461:=I
def tw7038009278805411549:=I
def tw2064306511107770109:=I
def tw16155552252608597757:=I
def tw977656481275074301:=I
def tw16758702492924231453:=I
def tw5578993178960204605:=I
def tw10943482298047781693:=I
def tw11987256683533910877:=I
def tw5674222148583821181:=I
def tw7453606138867916733:=I
def tw5270184596299401181:=I
def tw1879081189383728093:=I
def tw5005383235595939837:=I
def tw15472548859111369725:=I
def tw16954268495898659870:=I
def tw10427396045547656222:=I
def tw685994912452719678:=I
def tw4011939247272234078:=I
def tw16705500249719148638:=I
def tw5255246523009380478:=I
def tw13139526175690718334:=I
def tw6808861263914841246:=I
def tw227855346910407870:=I
def tw15174161776334679262:=I
def tw12429945900365253886:=I
def tw17721066840658382078:=I
def tw10583060697441571070:=I
def tw9539194334680649022:=I
def tw15282031328389411134:=I
def tw14232637422440512862:=I
def tw5448585885889636734:=I
def tw12455407966153871774:=I
def tw15933968868377992606:=I
def tw17539767628777353662:=I
def tw11703561544496973310:=I
def tw7733184096004183550:=I
def tw14436481632534179358:=I
def tw863795915587468830:=I
def tw286470283966937630:=I
def tw16838122968949649022:=I
def tw10694675421331358366:=I
def tw3083174167983232670:=I
def tw9381897249630456542:=I
def tw3228412501053611774:=I
def tw13190222002656884510:=I
def tw18041096912784544574:=I
def tw5360971340440579998:=I
def tw2388634716954721214:=I
def tw6223258965546066910:=I
def tw12383805307536299039:=I
def tw4510056178300678175:=I
def tw18091144062041321535:=I
def tw10013567804990756959:=I
def tw133188981674146911:=I
def tw15902229394794528895:=I
def tw17117806929374799039:=I
def tw18060096721206293727:=I
def tw16348739122677194015:=I
def tw7580849111434280223:=I
def tw8847880693878896959:=I
def tw9668272836328638783:=I
def tw2465004416819818815:=I
def tw4218372914859026783:=I
def tw16929859227119475103:=I
def tw16664275811238492607:=I
def tw14844032522570058207:=I
def tw12558042283302073855:=I
def tw500766637376588287:=I
def tw9643537382582341151:=I
def tw5489238959542346335:=I
def tw18363385169315766911:=I
def tw986905546710230655:=I
def tw4276639344559939199:=I
def tw9928443902859007647:=I
def tw16576998321523355391:=I
def tw5867971016640182047:=I
def tw8044478167540536127:=I
def tw13706061685477837663:=I
def tw5908028683087910751:=I
def tw8172601333928631167:=I
def tw10964254542077645695:=I
def tw17730985336041664383:=I
def tw4410204073139788703:=I
def tw7353222379280023551:=I
end PySem.W.Fast
open PySem PySem.W PyProof.Rows
set_option maxRecDepth 100000 in
set_option maxHeartbeats 0 in
theorem PySem.Challenge.cw_stripmeld_k32_lists_are_its_own_holds : PySem.Challenge.rw_stripmeld_k32_lists_are_its_own.Holds := by
 w_on;o_law;k_head;(case hw=>w_witness2)
 k_fill
 refine L2.Zlu (l:=PySem.Challenge.rw_stripmeld_k32_lists_are_its_own) (n:=63) (k:=9) (x:="_law_script") (CX:=L2.CX0) (sp:=Pu.D1) rfl (by decide) rfl ⟨rfl,by decide,by decide,rfl⟩ (fun w h Y=>PySem.W.kIn_of Y) ?F ?S ?C
 case F=>
  intro w mg fa h KX G hmg
  refine' T.Zcy KX G hmg ?JV ?Uo ?Up ?Uq ?Ur ?Us ?Ut ?Uu ?Uv ?Uw ?a0 ?a1 ?a2 ?a3 ?a4 ?a5 ?a6 ?a7 ?a8 ?a9 ?a10 ?a11 ?a12 ?a13 ?a14 ?a15 ?a16 ?a17 ?a18 ?a19 ?a20 ?a21 ?a22 ?a23 ?a24 ?a25 ?a26 ?a27 ?a28 ?a29 ?a30 ?a31 ?a32 ?a33 ?a34 ?a35 ?a36 ?a37 ?a38 ?a39 ?a40 ?a41 ?a42 ?a43 ?a44 ?a45 ?a46 ?a47 ?a48 ?a49 ?a50 ?a51 ?a52 ?a53 ?a54 ?a55 ?a56 ?a57 ?a58 ?a59 ?a60 ?a61 ?a62 ?a63 ?a64 ?a65 ?a66 ?a67 ?a68 ?a69 ?a70 ?a71 ?a72 ?a73 ?a74 ?a75 ?a76 ?a77 ?a78 ?a79 ?a80 ?a81 ?a82 ?a83 ?a84 ?a85 ?a86 ?a87 ?a88 ?a89 ?a90 ?a91 ?l91 ?c91 ?k91 ?Ux ?Uy ?U0 ?U1 ?U2 ?U3 ?U4 ?U5 ?U6 ?U7 ?U8 ?U9 ?UA ?UB ?UC ?UD ?UE ?UF ?UG ?UH ?UI ?JW ?JX ?JY ?JZ ?Ua ?Ub ?Uc ?Ud ?Ue ?Ug ?Uh ?Ui ?Uj ?Uk ?Ul ?Um
  (case JV|Uo|Up|Uq|Ur|Us|Ut|Uu|Uv|Uw=>k_is)
  (case a0|a1|a2|a3|a4|a5|a6|a7|a8|a9|a10|a11|a12|a13|a14|a15|a16|a17|a18|a19|a20|a21|a22|a23|a24|a25|a26|a27|a28|a29|a30|a31|a32|a33|a34|a35=>apply Pu.di<;>k_is)
  (case a36|a37|a38|a39|a40|a41|a42|a43|a44|a45|a46|a47|a48|a49|a50|a51|a52|a53|a54|a55|a56=>apply Pu.mi<;>k_is)
  (case a57|a58|a59|a60|a61|a62|a63|a64|a65|a66|a67|a68|a69|a70|a71|a72|a73|a74|a75|a76|a77|a78|a79|a80|a81|a82|a83|a84|a85|a86|a87|a88|a89|a90=>apply Pu.di<;>k_is)
  (case a91|l91|c91|k91|Ux|Uy|U0|U1|U2|U3|U4|U5|U6|U7|U8|U9|UA|UB|UC|UD|UE|UF|UG|UH|UI=>k_is)
  (case JW|JX|JY|JZ|Ua|Ub|Uc|Ud|Ue|Ug|Uh|Ui|Uj|Uk|Ul|Um=>apply Pu.ei<;>first|(k_is;done)|k_exc)
 case S=>exact fun K H a ns hl hO hS=>⟨a,ns,rfl,hS,fun _=>rfl⟩
 case C=>exact fun _ _ _ _ z=>z
