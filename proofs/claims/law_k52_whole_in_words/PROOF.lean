import PyProof.Rows.All
import Wide.All
import OpenK.AllK
import Wide.FinOn
import Lean
import PyProof.EqAt
import PyProof.EqKinds
import PyProof.TupleCall
import PySem.Challenge.RW_stripmeld_k52_whole_in_words
set_option Elab.async false
set_option linter.all false
set_option compiler.extract_closed false
set_option genSizeOf false
set_option maxRecDepth 100000
def bu_0(h:True:=by rfl):True:=h
def au_0:Lean.Syntax:=bu_0._auto_1
def bu_1(h:True:=by decide):True:=h
def au_1:Lean.Syntax:=bu_1._auto_1
def bu_2(h:True:=by first | exact .inl rfl | exact .inr rfl | assumption):True:=h
def au_2:Lean.Syntax:=bu_2._auto_1
def bu_3(h:True:=by intro _; rfl):True:=h
def au_3:Lean.Syntax:=bu_3._auto_1
def bu_4(h:True:=by first | exact Or.inl rfl | exact Or.inr (Or.inl rfl) | exact Or.inr (Or.inr rfl)):True:=h
def au_4:Lean.Syntax:=bu_4._auto_1
def bu_5(h:True:=by decide +kernel):True:=h
def au_5:Lean.Syntax:=bu_5._auto_1
def bu_6(h:True:=by first | exact Or.inl rfl | exact Or.inr rfl):True:=h
def au_6:Lean.Syntax:=bu_6._auto_1
def bu_7(h:True:=by intro _ _; rfl):True:=h
def au_7:Lean.Syntax:=bu_7._auto_1
def bu_8(h:True:=by size_fits):True:=h
def au_8:Lean.Syntax:=bu_8._auto_1
def bu_9(h:True:=by kernel_rfl):True:=h
def au_9:Lean.Syntax:=bu_9._auto_1
def bu_10(h:True:=by intro _; first | exact Or.inl rfl | exact Or.inr (Or.inl rfl) | exact Or.inr (Or.inr rfl)):True:=h
def au_10:Lean.Syntax:=bu_10._auto_1
def bu_11(h:True:=by intro _; exact ⟨rfl, rfl, rfl⟩):True:=h
def au_11:Lean.Syntax:=bu_11._auto_1
def bu_12(h:True:=by with_unfolding_all rfl):True:=h
def au_12:Lean.Syntax:=bu_12._auto_1
def bu_13(h:True:=by intro _; first | exact Or.inl rfl | exact Or.inr rfl):True:=h
def au_13:Lean.Syntax:=bu_13._auto_1
def bu_14(h:True:=by intro _; first | exact .inl rfl | exact .inr rfl | assumption):True:=h
def au_14:Lean.Syntax:=bu_14._auto_1
def bu_15(h:True:=by intro _; kernel_rfl):True:=h
def au_15:Lean.Syntax:=bu_15._auto_1
noncomputable section
def W8:=@PySem.wpAny_bind
def W9:=@List.length_map
def WA:=@List.getElem?_eq_getElem
def WB:=@PySem.Heap.get?_push_of_some
def WC:=@List.mem_singleton
def WD:=@PySem.wpAny_pure
def WE:=@List.getD_eq_getElem?_getD
def WG:=@Nat.le_refl
def WH:=@decide_eq_true
def WI:=@if_neg
def WJ:=@of_decide_eq_true
def WK:=@if_pos
def WL:=@List.mem_cons
def WM:=@PySem.Heap.lt_size
def WN:=@PySem.Heap.get?_push_size
def WO:=@List.mem_map
def WQ:=@Nat.le_trans
def WR:=@List.getElem?_map
def WS:=@List.take_succ_eq_append_getElem
def WT:=@Option.some.inj
def WU:=@List.getElem_mem
def WV:=@List.mem_cons_of_mem
def WW:=@List.length_take
def WX:=@List.map_append
def WY:=@List.map_map
def WZ:=@Bool.false_ne_true
def Qa:=@List.length_append
def Qb:=@Bool.and_eq_true
def Qc:=@decide_eq_false
def Qd:=@List.mem_append
def Qe:=@List.map_cons
def Qf:=@List.getElem?_eq_some_iff
def Qg:=@Nat.ne_of_lt
def Qh:=@List.mem_cons_self
def Qi:=@List.mem_filter
def Qj:=@Nat.lt_of_lt_of_le
def Qk:=@List.mem_iff_getElem
def Ql:=@PySem.PassesOwn.never
def Qm:=@List.mem_append_right
def Qn:=@List.length_cons
def Qo:=@List.size_toArray
def Qp:=@List.mem_of_getElem?
def Qq:=@List.filterMap_eq_map'
def Qr:=@PySem.wpAny_mono
def Qs:=@congrArg
def Qt:=@PySem.F.plainAttrs_list
def Qu:=@List.drop_eq_getElem_cons
def Qv:=@PySem.W.mg_none_of
def Qw:=@Array.length_toList
def Qx:=@PySem.W.mg_of
def Qy:=@List.take_length
def Qz:=@List.append_nil
def Q0:=@List.pairwise_iff_getElem
def Q1:=@List.nodup_cons
def Q2:=@List.all_eq_true
def Q3:=@Int.toNat_natCast
def Q4:=@PySem.Heap.get?_update_self
def Q5:=@List.length_filter_le
def Q6:=@PySem.wpAny_newObj_type
def Q7:=@List.getElem_take
def Q8:=@List.getElem?_append_left
def Q9:=@Array.getElem?_eq_getElem
def QA:=@Classical.byContradiction
def QB:=@PySem.Heap.get?_update_other
def QC:=@PySem.F.slot_list_index
def QD:=@List.getElem?_append_right
def QE:=@PySem.Obj.data_mapFields
def QF:=@PySem.W.KT.empty_app
def QG:=@Int.le_refl
def QH:=@PySem.Heap.SameBut.update
def QI:=@PySem.W.kia_one
def QJ:=@Nat.lt_of_le_of_lt
def QK:=@PySem.wpAny_holding
def QL:=@Nat.zero_le
def QM:=@List.nodup_append
def QN:=@List.length_set
def QO:=@Array.getElem?_toList
def QP:=@List.getElem?_take_of_lt
def QR:=@List.lookup_cons
def QS:=@List.idxOf_lt_length_iff
def QT:=@List.pairwise_append
def QU:=@PySem.F.type_list_index
def QV:=@Bool.eq_false_iff
def QW:=@beq_eq_false_iff_ne
def QX:=@PySem.F.plainAttrs_str
def QY:=@Nat.lt_irrefl
def QZ:=@PySem.wpAny_call_entry
def Va:=@List.pairwise_cons
def Vb:=@PySem.wpAny_setField
def Vc:=@PySem.Obj.isFreed_of_fields
def Vd:=@List.length_singleton
def Ve:=@List.mem_append_left
def Vf:=@PySem.F.slot_dict_valueiterator_next
def Vg:=@PySem.wpAny_truthy_bool
def Vh:=@PySem.wpAny_typeNameOfWhole_valiter
def Vi:=@List.filterMap_cons
def Vj:=@PySem.mem_of_lookup
def Vk:=@List.map_congr_left
def Vl:=@List.mem_range
def Vm:=@List.cons_append
def Vn:=@Nat.le_succ
def Vo:=@PyProof.Rows.callWith_type1
def Vp:=@Nat.le_of_eq
def Vq:=@PySem.codeAny_mono
def Vr:=@List.getElem_idxOf
def Vs:=@Int.ne_of_lt
def Vt:=@PySem.wpAny_passesOwn
def Vu:=@List.find?_cons
def Vv:=@List.getElem?_eq_none
def Vw:=@PySem.F.excBase_ValueError
def Vx:=@PySem.wpAny_setState_of
def Vy:=@decide_eq_true_eq
def Vz:=@PySem.Heap.get?_none_of_le
def V0:=@List.mem_of_mem_take
def V1:=@List.not_mem_nil
def V2:=@PySem.wpAny_typeNameOf_valiter
def V3:=@PySem.F.slot_list_append
def V4:=@PySem.F.type_list_append
def V5:=@List.length_eq_zero_iff
def V6:=@PySem.wpAny_standAt
def V7:=@Bool.eq_iff_iff
def V8:=@PySem.wpAny_Call_Name_kw
def V9:=@PySem.codeAny_builtin
def VA:=@Array.getElem?_eq_none
def VB:=@PySem.wpAny_pyIter_list
def VC:=@List.take_sublist
def VD:=@List.pairwise_map
def VE:=@List.append_assoc
def VF:=@PySem.wpAny_loadPart_at
def VG:=@PySem.Heap.size_push
def VH:=@Nat.lt_trans
def VI:=@List.nodup_nil
def VJ:=@List.filterMap_append
def VL:=@List.dropLast_concat_getLast
def VM:=@List.take_append_drop
def VN:=@Bool.false_and
def VO:=@PySem.F.slot_str_join
def VP:=@PySem.F.type_str_join
def VQ:=@PySem.call_meets
def VR:=@PySem.Around.under_plainId
def VS:=@PySem.StrLaws.joinFits
def VT:=@List.any_cons
def VU:=@Bool.true_and
def VW:=@Array.getElem?_eq_some_iff
def VX:=@List.filter_sublist
def VY:=@List.mem_map_of_mem
def VZ:=@List.map_eq_nil_iff
def Ja:=@Nat.le_of_lt
def Jb:=@PySem.W.callWith_K
def Jc:=@PySem.F.args_tuple_add_2
def Jd:=@PySem.tupleKind_room_in1
def Je:=@PyProof.Rows.F.entry_set_update_loop
def Jf:=@PyProof.Rows.F.plain_set_update_loop
def Jg:=@Bool.false_eq_true
def Jh:=@Nat.add_sub_cancel
def Ji:=@List.map_singleton
def Jj:=@Int.add_zero
def Jk:=@Int.emod_lt_of_pos
def Jl:=@List.take_zero
def Jm:=@List.getElem?_replicate
def Jn:=@PySem.F.entry_tuple_add
def Jo:=@PySem.wpAny_callSpecial?_slot
def Jp:=@List.getElem?_cons_succ
def Jq:=@Option.isSome_map
def Jr:=@PySem.fits_of_scanBound
def Js:=@Nat.lt_succ_of_lt
def Jt:=@PySem.Obj.cls_mapFields
def Ju:=@PySem.wpAny_pyIter_slot
def Jv:=@Array.size_append
def Jw:=@PySem.F.slot_tuple_add
def Jx:=@List.not_of_lt_findIdx
def Jy:=@PyProof.Rows.boot_sorted
def Jz:=@PySem.StrLaws.join_length_le
def J0:=@List.all_cons
def J1:=@Nat.lt_succ_self
def J2:=@if_false
def J6:=@List.drop_length
def J7:=@Nat.succ_le_succ
def J8:=@List.getElem_map
def J9:=@PySem.W.methodCall_KW
def JA:=@PySem.wpAny_isOneOf_valiter
def JB:=@List.getElem?_reverse
def JC:=@PySem.StrLaws.glued_eq_join
def JD:=@List.getElem?_set_ne
def JE:=@PySem.wpAny_execs_nil
def JF:=@Nat.ne_of_gt
def JG:=@PySem.wpAny_call
def JH:=@PySem.Calls.evalArgs_plain
def JI:=@Option.map_some
def JJ:=@Nat.not_lt
def JK:=@List.cons.injEq
def JL:=@Int.emod_nonneg
def JM:=@PySem.W.plainGet_of
def JN:=@PySem.W.looks_clsIn
def JO:=@List.length_pos_iff
def JP:=@List.length_reverse
def JQ:=@List.getElem_of_mem
def JR:=@PySem.length_partsBetween
def JS:=@ne_true_of_eq_false
def JT:=@Bool.and_false
def JU:=@Int.mul_le_mul
def JV:=@Nat.add_le_add
def JW:=@PySem.sizeLine_eq
def JX:=@PySem.wpAny_field
def JY:=@List.mem_filterMap
def JZ:=@PySem.W.Looks.here
def Ua:=@PySem.W.isNs_of_in
def Ub:=@List.ext_getElem?
def Uc:=@List.length_range
def Ud:=@List.Pairwise.map
def Ue:=@List.getElem_inj
abbrev Ye:=List (Int×Int)
abbrev Yf:=List Int
abbrev Yg:=List (PySem.Addr×PySem.Obj)
abbrev Yh:=PySem.Str->Option PySem.Value
abbrev Yi:=PySem.Value->PySem.Shared->Prop
abbrev Yj:=List (Option Nat)
abbrev Yk:=List Nat
abbrev Yl:=List PySem.Value
abbrev Ym:=List PySem.Str
abbrev Yn:=List PySem.Expr
abbrev Yo:=List PySem.Stmt
abbrev Yp:=Option PySem.Value
abbrev Yq:=Option PySem.Addr
abbrev Yr:=Array PySem.Value
abbrev Ys:=List (PySem.Str×PySem.Addr)
abbrev Yt:=Array (Int×PySem.Value)
abbrev Yd:=PySem.W.Frag
namespace L2
open PySem PySem.Spec PyProof.Rows
abbrev Key:=Sum Int Str
noncomputable def Bl:Key->Value->Bool
 | .inl k,v=>Value.isInt k v
 | .inr x,v=>Value.isStrOf x v
noncomputable def Zd1(w:World):Key->Int
 | .inl k=>hashInt k
 | .inr x=>hashStr w x
def Nb:∀{k}{v:Value},Bl k v=true->(∃i t,k=Sum.inl i/\v=Value.int i t)\/(∃x t,k=Sum.inr x/\v=Value.str x t)
 | .inl i,v,h=>by
  obtain⟨t,e⟩:=Value.isInt_shape h
  grind
 | .inr x,v,h=>by
  obtain⟨t,e⟩:=Value.isStrOf_shape h
  grind
def Zgj(i:Int)(t:Tok):Bl (.inl i) (.int i t)=true:=by simp[Bl,Value.isInt]
def Zmn(x:Str)(t:Tok):Bl (.inr x) (.str x t)=true:=by simp[Bl,Value.isStrOf]
def Zlr(a b:Int):decide ((Sum.inl a:Key)=Sum.inl b)=(a==b):=by grind
def Zns(a b:Str):decide ((Sum.inr a:Key)=Sum.inr b)=decide (a=b):=by simp
def Zic(a:Int)(b:Str):decide ((Sum.inl a:Key)=Sum.inr b)=false:=Qc (λq=>nomatch q)
def Zja(a:Str)(b:Int):decide ((Sum.inr a:Key)=Sum.inl b)=false:=Qc (λq=>nomatch q)
noncomputable def PM(prog:Program)(w:World):PySem.KeyKind prog w Key where
 is:=Bl
 hash:=Zd1 w
 inj:=λv a b ha hb=>by
  rcases Nb ha with⟨i,t,rfl,rfl⟩|⟨x,t,rfl,rfl⟩
  ·rcases Nb hb with⟨j,u,rfl,e⟩|⟨y,u,rfl,e⟩
   ·injection e with e1 _;rw[e1]
   ·exact nomatch e
  ·rcases Nb hb with⟨j,u,rfl,e⟩|⟨y,u,rfl,e⟩
   ·exact nomatch e
   ·injection e with e1 _;rw[e1]
 byValue:=λk v h=>by
  rcases Nb h with⟨i,t,rfl,rfl⟩|⟨x,t,rfl,rfl⟩<;>rfl
 pyHash:=λhv h=>by
  rcases Nb hv with⟨i,t,rfl,rfl⟩|⟨x,t,rfl,rfl⟩
  ·exact wpAny_pyHash_int h
  ·exact wpAny_pyHash_str h
 eqBool:=λhu hv h=>by
  rcases Nb hu with⟨i,t,rfl,rfl⟩|⟨x,t,rfl,rfl⟩
  ·rcases Nb hv with⟨j,u,rfl,rfl⟩|⟨y,u,rfl,rfl⟩
   ·rw[Zlr]at h;exact wpAny_eqBool_int h
   ·rw[Zic]at h;exact SeqAt.EqAt.int_str i t y u _ _ _ _ h
  ·rcases Nb hv with⟨j,u,rfl,rfl⟩|⟨y,u,rfl,rfl⟩
   ·rw[Zja]at h;exact SeqAt.EqAt.str_int x t j u _ _ _ _ h
   ·rw[Zns]at h;exact wpAny_eqBool_str h
 «strs»:=λk x t v h=>by
  rcases Nb h with⟨i,u,rfl,e⟩|⟨y,u,rfl,e⟩
  ·exact nomatch e
  ·injection e with e1 _;subst e1;cases v<;>rfl
def Zmu(prog:Program)(w:World)(i:Int)(t:Tok):(PM prog w).is (.inl i) (.int i t)=true:=Zgj i t
def Zg2(prog:Program)(w:World)(x:Str)(t:Tok):(PM prog w).is (.inr x) (.str x t)=true:=Zmn x t
inductive V where
 |non|bl (b:Bool)|int (i:Int)|str (x:Str)|byt (b:Array UInt8)|flt (b:UInt64)|ref (a:Addr)|ty (n:String)
 deriving DecidableEq
def RelV:V->Value->Prop
 | .non,u=>u=Value.none
 | .bl b,u=>u=Value.bool b
 | .int i,u=>∃t,u=Value.int i t
 | .str x,u=>∃t,u=Value.str x t
 | .byt b,u=>∃t,u=Value.bytes b t
 | .flt b,u=>∃t,u=Value.float b t
 | .ref a,u=>u=Value.ref a
 | .ty n,u=>u=Value.type n
abbrev Vals:List V->Yl->Prop:=Paired RelV
def Vals.length (r:Vals xs us):xs.length=us.length:=Paired.length r
def Vals.get:∀{xs us}{i:Nat}{x:V},Vals xs us->xs[i]?=some x->∃u,us[i]?=some u/\RelV x u:=by
 intro l
 induction l with
 |nil=>
  intro _ i _ h e;simp at e
 |cons _ _ b=>
  intro _ i d h e;cases h with
  |cons h r=>
   cases i with
   |zero=>
    simp at e;subst e;exact⟨_,rfl,h⟩
   |succ i=>
    obtain⟨v,g,f⟩:=b r (by simpa using e);exact⟨v,by simpa using g,f⟩
theorem Vals.set (r:RelV x u):∀{xs us} i,Vals xs us->Vals (xs.set i x) (us.set i u)
 |_,_,_,.nil=>.nil
 |_,_,0,.cons _ t=>.cons r t
 |_,_,i+1,.cons q t=>.cons q (Vals.set r i t)
def Vals.append:∀{xs b}{us f:Yl},Vals xs us->Vals b f->Vals (xs++b) (us++f):=by
 intro l
 induction l with
 |nil=>
  intro _ _ _ h s;cases h
  exact s
 |cons _ _ g=>
  intro _ _ _ h s;cases h with
  |cons h r=>
   exact .cons h (g r s)
theorem Vals.take:∀{xs us} n,Vals xs us->Vals (xs.take n) (us.take n)
 |_,_,0,_|_,_,_+1,.nil=>.nil
 |_,_,n+1,.cons r t=>.cons r (Vals.take n t)
theorem Vals.drop:∀{xs us} n,Vals xs us->Vals (xs.drop n) (us.drop n)
 |_,_,0,r=>r
 |_,_,_+1,.nil=>.nil
 |_,_,n+1,.cons _ t=>Vals.drop n t
def RelO:Option V->Yp->Prop
 |some v,some u=>RelV v u
 |none,none=>True
 |_,_=>False
def KV{b:Type}:List (b×V)->List (b×Value)->Prop:=Paired λ(p:b×V) (q:b×Value)=>p.1=q.1/\RelV p.2 q.2
noncomputable def kV:Key->V
 | .inl i=>.int i
 | .inr x=>.str x
inductive HO where
 |lst (xs:List V)
 |tup (xs:List V)
 |dK (kvs:List (Key×V))|dT (kvs:List (List Key×V))
 |set (S:Int->Bool) (n:Nat)
 |ins (C dx:Addr) (fs:List (Str×V))
 |own (x:Addr)
 |xd (fs:List (Str×V))
 |met (f x:Addr)
 |rng (lo hi:Int)
 |frz (o:Obj) (u:HO)
 |tbl (ps:Yr)
 |ext (φ:Heap->Prop)
abbrev Hp:=Addr->Option HO
noncomputable def upd(H:Hp)(a:Addr)(o:HO):Hp:=λb=>if b=a then some o else H b
def Kb:upd H a o a=some o:=by unfold upd;rw[WK rfl]
def XM{a b o}(h:b≠a):upd H a o b=H b:=by unfold upd;rw[WI h]
def HG:upd (upd H a o) a u=upd H a u:=by
 funext b;unfold upd;split<;>rfl
def AO{H:Hp}{a b}{o u}(h:H a=some o)(f:H b=some u)(d:o≠u):a≠b:=by grind
def K4{H:Hp}{a b}{o}(h:H a=some o)(f:H b=none):a≠b:=by grind
section
variable (P:Program) (w:World)
def ObjOk(H:Hp)(h:Heap)(a:Addr):HO->Prop
 | .lst xs=>xs.length<=sizeLine/\∃(g:Yl) (n:Nat),Vals xs g/\h.get? a=some {cls:=.type "list",data:=.seq g.toArray n}
 | .tup xs=>xs.length<=sizeLine/\∃g:Yl,Vals xs g/\IsTup h a g.toArray
 | .dK b=>b.length<=sizeLine/\(a==sysModules)=false/\∃y,KV b y/\h.DictOf (PM P w) a y
 | .dT b=>b.length<=sizeLine/\(a==sysModules)=false/\∃xs:List (List Key×Addr×Value),
   Paired (λ(p:List Key×V) (q:List Key×Addr×Value)=>p.1=q.1/\H q.2.1=some (.tup<|p.1.map kV)/\RelV p.2 q.2.2) b xs/\
   ∃o B J,h.get? a=some o/\o.ExactDict/\o.data=.dict B J/\B.toList=xs.map (entryOfKey<|tupleKind<|PM P w)/\(xs.map (·.1)).Nodup
 | .set S n=>h.SetOf (intKind P w) a S n
 | .ins C r fs=>H r=some (.own a)/\fs.length<=1000/\r≠a/\h.get? a=some (PySem.W.instObj C r)/\
   ∃l,h.Ns1 r l/\(∀f,RelO (fs.lookup f) (l f))/\PySem.Within l (fs.map (·.1))
 | .own _=>∃o,h.get? a=some o
 | .xd fs=>∃l,h.Ns1 a l/\∀f,RelO (fs.lookup f) (l f)
 | .rng lo G=>∃t u v,h.get? a=some {cls:=.type "range",data:=.fields #[.int lo t,.int G u,.int 1 v]}
 | .frz o u=>h.get? a=some o/\ObjOk H h a u
 | .tbl E=>h.get? a=some {cls:=.none,data:=.fields E}
 | .met f x=>h.get? a=some (PySem.W.methodObj (.ref f)<|.ref x)
 | .ext s=>s h/\(∃o,h.get? a=some o)/\∀A z:Heap,s A->(∀o,A.get? a=some o->z.get? a=some o)->s z
def HOk(H:Hp)(h:Heap):Prop:=∀a o,H a=some o->ObjOk P w H h a o
end
section
variable {P:Program}{w:World}{H H':Hp}{h h':Heap}{a:Addr}{o:HO}
def ObjOk.lt (x:ObjOk P w H h a o):a<h.objs.size:=by
 cases o with
 |lst xs=>obtain⟨_,_,_,_,e⟩:=x;exact WM e
 |tup xs=>obtain⟨_,_,_,p⟩:=x;exact p.lt
 |set S n=>obtain⟨o,_,_,_,e,_⟩:=x;exact WM e
 |ins C r fs=>obtain⟨_,_,_,e,_⟩:=x;exact WM e
 |own y=>obtain⟨_,e⟩:=x;exact WM e
 |xd fs=>obtain⟨_,⟨_,_,_,e,_⟩,_⟩:=x;exact WM e
 |rng lo q=>obtain⟨_,_,_,e⟩:=x;exact WM e
 |frz l u=>obtain⟨e,_⟩:=x;exact WM e
 |tbl g|met f y=>exact WM x
 |ext b=>obtain⟨_,⟨_,e⟩,_⟩:=x;exact WM e
 |_=>obtain⟨_,_,_,_,o,_,_,e,_⟩:=x;exact WM e
def Paired.mapP:∀{l:List s}{g:List q},Paired F l g->(∀a b,F a b->G a b)->Paired G l g:=by
 intro p
 induction p with
 |nil=>
  intro _ h _;cases h
  exact .nil
 |cons _ _ n=>
  intro _ h f;cases h with
  |cons h r=>
   exact .cons (f _ _ h) (n r f)
def ObjOk.stay (x:ObjOk P w H h a o) (k:∀b u,(b=a\/H b=some (.own a))->h.get? b=some u->h'.get? b=some u)
  (Q:∀b,H b=some (.own a)->H' b=some (.own a)) (N:∀b xs,H b=some (.tup xs)->H' b=some (.tup xs)):ObjOk P w H' h' a o:=by
 induction o with
 |lst xs=>obtain⟨z,A,n,r,e⟩:=x;exact⟨z,A,n,r,k _ _ (.inl rfl) e⟩
 |tup xs=>obtain⟨z,A,r,g,e,c⟩:=x;exact⟨z,A,r,g,k _ _ (.inl rfl) e,c⟩
 |dK G=>obtain⟨z,y,J,r,g,l,s,e,c⟩:=x;exact⟨z,y,J,r,g,l,s,k _ _ (.inl rfl) e,c⟩
 |dT G=>
  obtain⟨z,y,xs,r,g,l,s,e,c⟩:=x;exact⟨z,y,xs,Paired.mapP r λp q z=>⟨z.1,N _ _ z.2.1,z.2.2⟩,g,l,s,k _ _ (.inl rfl) e,c⟩
 |set S n=>obtain⟨g,l,s,t,e,c⟩:=x;exact⟨g,l,s,t,k _ _ (.inl rfl) e,c⟩
 |ins C dx fs=>
  obtain⟨d,z,L,e,E,⟨B,l,s,T,c⟩,r⟩:=x;exact⟨Q _ d,z,L,k _ _ (.inl rfl) e,E,⟨B,l,s,k _ _ (.inr d) T,c⟩,r⟩
 |own y=>obtain⟨g,e⟩:=x;exact⟨g,k _ _ (.inl rfl) e⟩
 |xd fs=>obtain⟨E,⟨B,l,s,e,c⟩,r⟩:=x;exact⟨E,⟨B,l,s,k _ _ (.inl rfl) e,c⟩,r⟩
 |rng lo hi=>obtain⟨t,u,v,e⟩:=x;exact⟨t,u,v,k _ _ (.inl rfl) e⟩
 |frz g u M=>obtain⟨e,q⟩:=x;exact⟨k _ _ (.inl rfl) e,M q⟩
 |tbl Y=>
  have e:=x;exact k a _ (.inl rfl) e
 |met f y=>
  have e:=x;exact k a _ (.inl rfl) e
 |ext U=>obtain⟨p,⟨o,e⟩,st⟩:=x;exact⟨st _ _ p λo q=>k _ _ (.inl rfl) q,⟨o,k _ _ (.inl rfl) e⟩,st⟩
def HOk.lt (x:HOk P w H h) (e:H a=some o):a<h.objs.size:=(x a o e).lt
def HOk.fresh (x:HOk P w H h) (e:h.objs.size<=a):H a=none:=by
 cases q:H a with
 |none=>rfl
 |some u=>exact absurd (Qj (x.lt q) e) (QY _)
def HOk.kept (x:HOk P w H h) (k:∀b u,h.get? b=some u->h'.get? b=some u):HOk P w H h':=λa o e=>
 (x a o e).stay (λb u _ q=>k b u q) (λ_ q=>q) λ_ _ q=>q
def HOk.laid (x:HOk P w H h) (k:∀b u,h.get? b=some u->h'.get? b=some u) (l:h.objs.size<=a) (new:ObjOk P w (upd H a o) h' a o):HOk P w (upd H a o) h':=λb u e=>by
 have f:=x.fresh l;by_cases g:b=a
 ·subst g;rw[Kb]at e;cases e;exact new
 ·rw[XM g]at e;exact(x b u e).stay (λc v _ q=>k c v q) (λc q=>by rw[XM (K4 q f)];exact q) λc xs q=>by rw[XM (K4 q f)];exact q
end
def Rd(H:Hp)(a:Addr)(u:HO):Prop:=H a=some u\/∃o,H a=some (.frz o u)
def Rd.ok {H h a u} (r:Rd H a u) (x:HOk P w H h):ObjOk P w H h a u:=by
 rcases r with r|⟨o,r⟩
 ·exact x a u r
 ·obtain⟨_,q⟩:=x a _ r;lia
def Mut:Option HO->Prop
 |some (.lst _)=>True
 |some (.dK _)=>True
 |some (.dT _)=>True
 |some (.set _ _)=>True
 |some (.ins _ _ _)=>True
 |some (.ext _)=>True
 |_=>False
section
variable {P:Program}{w:World}{H:Hp}{h h':Heap}{x e:Addr}{o':HO}
def HOk.write (ok:HOk P w H h) (g:Mut (H x)) (A:e=x\/H e=some (.own x)) (k:∀b u,b≠e->h.get? b=some u->h'.get? b=some u) (l:∃u,h'.get? e=some u)
  (new:ObjOk P w (upd H x o') h' x o'):HOk P w (upd H x o') h':=λb u q=>by
 have nown:∀c y,H c=some (.own y)->c≠x:=λc y r z=>by subst z;rw[r]at g;exact g
 have ntup:∀c xs,H c=some (.tup xs)->c≠x:=λc xs r z=>by subst z;rw[r]at g;exact g
 by_cases p:b=x
 ·subst p;rw[Kb]at q;cases q;exact new
 ·rw[XM p]at q;by_cases f:b=e
  ·have n:H b=some (.own x):=by
    rcases A with z|z
    ·grind
    ·rw[f];exact z
   rw[q]at n;cases n;obtain⟨v,s⟩:=l;exact⟨v,by rw[f];exact s⟩
  ·refine(ok b u q).stay (λc v o r=>k c v ?_ r) (λc r=>by rw[XM (nown c b r)];exact r) λc xs r=>by rw[XM (ntup c xs r)];exact r
   rcases o with rfl|o
   ·exact f
   ·grind
end
structure Un (fs ex:List Addr) (H H':Hp) (h h':Heap):Prop where
 keep:∀b o,h.get? b=some o->H b=none->b∉fs->b∉ex->h'.get? b=some o
 slot:∀b o,h.get? b=some o->H b=none->b∈fs->b∉ex->∃sl,h'.get? b=some {o with slots:=sl}
 free:∀b o,h.get? b=some o->H b=none->b∉ex->H' b=none
 there:∀b o,h.get? b=some o->b∉ex->∃o',h'.get? b=some o'
 tups:∀b xs,H b=some (.tup xs)->H' b=some (.tup xs)
 frzs:∀b o u,H b=some (.frz o u)->H' b=some (.frz o u)
 tbls:∀b ps,H b=some (.tbl ps)->∃more,H' b=some (.tbl (ps++more))
section
variable {fs fs' ex ex':List Addr}{H H1 H2:Hp}{h h1 h2 h':Heap}{a x e:Addr}{o:HO}
def Un.any (u:Un fs ex H H1 h h1) {b ob} (q:h.get? b=some ob) (n:H b=none) (hx:b∉ex):∃sl,h1.get? b=some {ob with slots:=sl}:=by
 by_cases f:b∈fs
 ·exact u.slot b ob q n f hx
 ·exact⟨ob.slots,u.keep b ob q n f hx⟩
def Un.kept (k:∀b u,h.get? b=some u->h'.get? b=some u):Un fs ex H H h h':=
 ⟨λb f q _ _ _=>k b f q,λb f q _ _ _=>⟨f.slots,k b f q⟩,λ_ _ _ n _=>n,λb f q _=>⟨f,k b f q⟩,λ_ _ q=>q,λ_ _ _ q=>q,λ_ g q=>⟨#[],by rw[q];simp⟩⟩
def Un.refl:Un fs ex H H h h:=Un.kept λ_ _ q=>q
def Un.laid (k:∀b u,h.get? b=some u->h'.get? b=some u) (hp:h.objs.size<=a) (hn:H a=none):Un fs ex H (upd H a o) h h' where
 keep:=λb u q _ _ _=>k b u q
 slot:=λb u q _ _ _=>⟨u.slots,k b u q⟩
 free:=λb u q n _=>by rw[XM (Qg<|Qj (WM q) hp)];exact n
 there:=λb u q _=>⟨u,k b u q⟩
 tups:=λb xs q=>by rw[XM (K4 q hn)];exact q
 frzs:=λb u xs q=>by rw[XM (K4 q hn)];exact q
 tbls:=λb ps q=>⟨#[],by rw[XM (K4 q hn),q];simp⟩
def Un.write (f:Mut (H x)) (v:e=x\/H e=some (.own x)) (k:∀b u,b≠e->h.get? b=some u->h'.get? b=some u) (s:∃u,h'.get? e=some u):Un fs ex H (upd H x o) h h':=by
 have hx:∀b,H b=none->b≠x:=λb n z=>by subst z;rw[n]at f;exact f
 have l:∀b,H b=none->b≠e:=λb n z=>by
  rcases v with r|r
  ·grind
  ·grind
 have g:∀b u,H b=some u->¬Mut (some u)->b≠x:=λb u q p z=>by subst z;rw[q]at f;exact p f
 refine⟨λb u q n _ _=>k b u (l b n) q,λb u q n _ _=>⟨u.slots,k b u (l b n) q⟩,λb u q n _=>by rw[XM (hx b n)];exact n,λb u q _=>?_,
  λb xs q=>by rw[XM (g b _ q λz=>z)];exact q,λb u xs q=>by rw[XM (g b _ q λz=>z)];exact q,λb y q=>⟨#[],by rw[XM (g b _ q λz=>z),q];simp⟩⟩
 by_cases w:b=e
 ·grind
 ·grind
end
noncomputable def trk(h:Heap)(H:Hp):List Addr:=(List.range h.objs.size).filter λa=>(H a).isSome
noncomputable def Nm(h:Heap)(H:Hp):Heap:=PySem.W.hideAll h (trk h H)
def Zq4(h:Heap)(H:Hp):(Nm h H).objs.size=h.objs.size:=PySem.W.hideAll_size _ _
def Zl7{H b o}(e:h.get? b=some o)(n:H b=none):(Nm h H).get? b=some o:=
 PySem.W.hideAll_get _ e λf=>by
  have q:=(Qi.mp f).2
  grind
def Zo6(e:(Nm h H).get? b=some o):h.get? b=some o/\H b=none:=by
 have f:=PySem.W.of_hideAll (trk h H) e;refine⟨f,?_⟩;cases q:H b with
 |none=>rfl
 |some x=>
  have g:b∈trk h H:=Qi.mpr ⟨Vl.mpr (WM f),by simp[q]⟩;have z:(Nm h H).get? b=none:=PySem.W.hideAll_none (trk h H) g
  grind
noncomputable def Zku(g h:Heap)(L:Addr):Yg:=(List.range h.objs.size).filterMap λa=>if a=L\/(g.get? a).isSome=true then none else(h.get? a).map λo=>(a,o)
noncomputable def rest(g h:Heap)(L d:Addr):Yg:=(Zku g h L).filter λp=>decide (p.1≠d)
structure Mod (K:Yd) (mg:Yh) (base:Heap):Prop where
 kin:K.In base
 glob:base.Ns mainGlobals mg
 blt:∃mb,base.Ns builtinsNs mb/\∀x:Str,x≠"__name__"->mb x=bootBuiltins x
 nolimit:base.NoLimit
structure Cx where
 prog:Program
 w:World
 K:Yd
 mg:Yh
 base:Heap
 A:Around
 N:Ym
 s₀:Shared
 H₀:Hp
 env:Env
 outer:List Env
 stack:List Env
 ex:List Addr
 fn:Str->Bool
 calm:Bool
 pn:Yg
 xe:Yi
noncomputable def frs(l:List Env):List Addr:=l.filterMap (·.frame)
noncomputable abbrev Cx.fs (X:Cx):List Addr:=frs X.outer
def Vis(b:Scope)(x:Str):Prop:=b.names.lookup x=some .local\/b.names.lookup x=some .cell\/b.names.lookup x=some .free
def Loc(b:Scope)(x:Str):Prop:=b.names.lookup x=some .local\/b.names.lookup x=some .cell
def Look(env:Env)(h:Heap)(m:Yh)(x:Str)(u:Value):Prop:=
 (env.kindOf x=some .local/\m x=some u)\/((env.kindOf x=some .cell\/env.kindOf x=some .free)/\∃c,env.cells.lookup x=some c/\h.IsCell c (some u))
structure Cx.Ok (X:Cx):Prop where
 mod:Mod X.K X.mg X.base
 kind:X.env.scope.kind=.function
 glob:X.env.globals=mainGlobals
 blt:X.env.builtins=builtinsNs
 above:X.s₀.heap.objs.size<=X.env.locals
 inj:∀x y c,X.env.cells.lookup x=some c->X.env.cells.lookup y=some c->x=y
 has:∀x,(X.env.kindOf x=some .cell\/X.env.kindOf x=some .free)->∃c,X.env.cells.lookup x=some c
 cab:∀x c,X.fn x=true->X.env.cells.lookup x=some c->X.s₀.heap.objs.size<=c
 hd:X.calm=true->X.A.handled=none
 frames:X.A.frames=some X.stack
 stk:X.stack=X.outer\/(X.stack=X.env::X.outer/\X.env.frame=some X.env.locals)
 exf:∀b∈X.ex,b≠X.env.locals/\∀x c,X.env.cells.lookup x=some c->c≠b
 bs:∀b o,X.base.get? b=some o->X.s₀.heap.get? b=some o/\X.H₀ b=none
 bsz:X.base.objs.size<=X.s₀.heap.objs.size
 noex:∀b o,X.base.get? b=some o->b∉X.ex
 exfs:∀b∈X.ex,b∉X.fs
 funs:X.s₀.heap.FunFrames X.base X.outer
 frf:∀b∈X.fs,X.H₀ b=none
structure Inv (X:Cx) (pins:Yg) (σ:List (Option V)) (H:Hp) (s:Shared):Prop where
 ok:X.Ok
 os:s.os=X.s₀.os
 bare:AllBare s.gens
 base:Un X.fs X.ex X.H₀ H X.s₀.heap s.heap
 loc:∃m,s.heap.Ns X.env.locals m/\∀(i:Nat) (x:Str) (v:V),X.N[i]?=some x->σ[i]?=some (some v)->Vis X.env.scope x->∃u,RelV v u/\Look X.env s.heap m x u
 cell:∀x c,X.env.cells.lookup x=some c->∃v,s.heap.IsCell c v
 free:H X.env.locals=none
 freeC:∀x c,X.env.cells.lookup x=some c->H c=none
 pin:∀p∈X.pn++pins,s.heap.get? p.1=some p.2/\H p.1=none/\p.1≠X.env.locals/\p.1∉X.fs/\∀v,p.2.data≠.cell v
 hok:HOk X.prog X.w H s.heap
 len:σ.length=X.N.length
section
variable {X:Cx}{pins:Yg}{σ:List (Option V)}{H H':Hp}{s:Shared}{h':Heap}
def Cx.Ok.nofr (ok:X.Ok) {b o} (e:X.base.get? b=some o):b∉X.fs:=λf=>by
 have:=(ok.funs.mem f).1
 grind
def Inv.bs (I:Inv X pins σ H s):∀b o,X.base.get? b=some o->s.heap.get? b=some o/\H b=none:=λb o e=>
 ⟨I.base.keep b o (I.ok.bs b o e).1 (I.ok.bs b o e).2 (I.ok.nofr e) (I.ok.noex b o e),I.base.free b o (I.ok.bs b o e).1 (I.ok.bs b o e).2 (I.ok.noex b o e)⟩
def Inv.bk (I:Inv X pins σ H s):∀b o,X.base.get? b=some o->s.heap.get? b=some o:=λb o e=>(I.bs b o e).1
def Inv.mod (I:Inv X pins σ H s):Mod X.K X.mg X.base:=I.ok.mod
def Inv.kIn (I:Inv X pins σ H s):X.K.In s.heap:=I.ok.mod.kin.keeps I.bk
def Inv.lt (I:Inv X pins σ H s):X.env.locals<s.heap.objs.size:=let ⟨_,b,_⟩:=I.loc;b.lt
def Inv.sz (I:Inv X pins σ H s):X.s₀.heap.objs.size<=s.heap.objs.size:=WQ I.ok.above (Ja I.lt)
def Inv.nofs (I:Inv X pins σ H s) {a:Addr} (h:s.heap.objs.size<=a):a∉X.fs:=λf=>by
 obtain⟨_,o,b,_⟩:=I.ok.funs.mem f;exact absurd (Qj (WM b)<|WQ I.sz h) (QY _)
def Inv.cne (I:Inv X pins σ H s):∀x c,X.env.cells.lookup x=some c->c≠X.env.locals:=λx c e z=>by
 obtain⟨v,o,h,l⟩:=I.cell x c e;obtain⟨m,⟨g,n,p,b,f,_⟩,_⟩:=I.loc
 grind
def Inv.funs (I:Inv X pins σ H s):s.heap.FunFrames X.base X.outer:=by
 have all:∀l,(∀b∈frs l,b∈X.fs)->X.s₀.heap.FunFrames X.base l->s.heap.FunFrames X.base l:=by
  intro l
  induction l with
  |nil=>intro _ _;trivial
  |cons A r p=>
   intro n w;obtain⟨x,⟨L,o,f,v,u,y⟩,q⟩:=w;have h:=n L (by unfold frs;rw[Vi,f];exact Qh);obtain⟨sl,e⟩:=I.base.slot L o u (I.ok.frf L h) h λz=>I.ok.exfs L z h;exact⟨x,⟨L,_,f,v,e,y⟩,p (λb g=>n b (by unfold frs;rw[Vi,f];exact WV _ g)) q⟩
 exact all X.outer (λ_ g=>g) I.ok.funs
def Inv.stack (I:Inv X pins σ H s):s.heap.FunFrames X.base X.stack:=by
 rcases I.ok.stk with e|⟨e,f⟩
 ·rw[e];exact I.funs
 ·rw[e];obtain⟨m,b,_⟩:=I.loc;refine .cons (by rw[I.ok.kind];decide) f b ?_ I.funs;exact Vz (WQ I.ok.bsz I.ok.above)
def Inv.stkSub (I:Inv X pins σ H s):∀b∈frs X.stack,b∈X.env.locals::X.fs:=λb f=>by
 rcases I.ok.stk with e|⟨e,g⟩
 ·grind
 ·rw[e]at f;unfold frs at f;rw[Vi,g]at f;trivial
def Inv.stkFree (I:Inv X pins σ H s):∀b∈frs X.stack,H b=none:=λb f=>by
 rcases WL.mp (I.stkSub b f)with e|f
 ·rw[e];exact I.free
 ·obtain⟨_,o,g,_⟩:=I.ok.funs.mem f;exact I.base.free b o g (I.ok.frf b f) λz=>I.ok.exfs b z f
def Inv.step {d'}{ch:List Addr} (I:Inv X pins σ H s)
  (g:∀b∈ch,(b∈X.ex\/X.s₀.heap.objs.size<=b)/\b≠X.env.locals/\(∀x c,X.env.cells.lookup x=some c->c≠b)/\∀p∈X.pn++pins,p.1≠b)
  (keep:∀b o,b≠X.env.locals->b∉X.fs->b∉ch->s.heap.get? b=some o->H b=none->h'.get? b=some o)
  (slot:∀b o,b≠X.env.locals->b∈X.fs->b∉ch->s.heap.get? b=some o->H b=none->∃sl,h'.get? b=some {o with slots:=sl}) (free:∀b o,b∉ch->s.heap.get? b=some o->H b=none->H' b=none)
  (there:∀b o,b∉ch->s.heap.get? b=some o->∃o',h'.get? b=some o')
  (tups:∀b xs,H b=some (.tup xs)->H' b=some (.tup xs)) (frzs:∀b o u,H b=some (.frz o u)->H' b=some (.frz o u)) (tbls:∀b ps,H b=some (.tbl ps)->∃more,H' b=some (.tbl (ps++more)))
  (ns:∀m,s.heap.Ns X.env.locals m->h'.Ns X.env.locals m) (J:HOk X.prog X.w H' h') (hg:AllBare g') :
  Inv X pins σ H' {s with heap:=h',gens:=g',drawn:=d',toks:=t'}:=by
 have B:∀b o,X.s₀.heap.get? b=some o->b≠X.env.locals:=λb o e=>Qg (Qj (WM e) I.ok.above)
 have f:∀b o,X.s₀.heap.get? b=some o->b∉X.ex->b∉ch:=λb o e hx y=>by
  rcases(g b y).1 with z|z
  ·exact hx z
  ·exact absurd (Qj (WM e) z) (QY _)
 have cellK:∀x c,X.env.cells.lookup x=some c->∀v,s.heap.IsCell c v->h'.IsCell c v:=λx c e v ⟨o,A,L⟩=>by
  have C:=λz=>(g c z).2.2.1 x c e rfl;by_cases M:c∈X.fs
  ·obtain⟨sl,q⟩:=slot c o (I.cne x c e) M C A (I.freeC x c e);exact⟨_,q,L⟩
  ·exact⟨o,keep c o (I.cne x c e) M C A (I.freeC x c e),L⟩
 refine⟨I.ok,I.os,hg,⟨λb o e n y hx=>?_,λb o e n y hx=>?_,λb o e n hx=>?_,λb o e hx=>?_,λb xs e=>tups b xs (I.base.tups b xs e),λb o xs e=>frzs b o xs (I.base.frzs b o xs e),λb ps e=>?_⟩,?_,λx c e=>?_,?_,λx c e=>?_,λp T=>?_,J,I.len⟩
 ·exact keep b o (B b o e) y (f b o e hx) (I.base.keep b o e n y hx) (I.base.free b o e n hx)
 ·obtain⟨sl,h⟩:=I.base.slot b o e n y hx;obtain⟨G,E⟩:=slot b _ (B b o e) y (f b o e hx) h (I.base.free b o e n hx);exact⟨G,E⟩
 ·obtain⟨o',h⟩:=I.base.there b o e hx;exact free b o' (f b o e hx) h (I.base.free b o e n hx)
 ·obtain⟨o',h⟩:=I.base.there b o e hx;exact there b o' (f b o e hx) h
 ·obtain⟨Q,h⟩:=I.base.tbls b ps e;obtain⟨N,E⟩:=tbls b _ h;exact⟨Q++N,by rw[E,Array.append_assoc]⟩
 ·obtain⟨m,U,Y⟩:=I.loc;refine⟨m,ns m U,λi x v h E e3=>?_⟩;obtain⟨u,r,l⟩:=Y i x v h E e3;refine⟨u,r,?_⟩;rcases l with l|⟨k,c,e,z⟩
  ·exact .inl l
  ·exact .inr ⟨k,c,e,cellK x c e _ z⟩
 ·obtain⟨v,z⟩:=I.cell x c e;exact⟨v,cellK x c e v z⟩
 ·obtain⟨m,⟨o,_,_,A,_⟩,_⟩:=I.loc;exact free _ o (λz=>(g _ z).2.1 rfl) A I.free
 ·obtain⟨v,o,A,L⟩:=I.cell x c e;exact free c o (λz=>(g c z).2.2.1 x c e rfl) A (I.freeC x c e)
 ·obtain⟨e,n,ne,nf,d⟩:=I.pin p T
  grind
def Inv.un (I:Inv X pins σ H s) (u:Un X.fs [] H H' s.heap h') (g:HOk X.prog X.w H' h'):Inv X pins σ H' {s with heap:=h',toks:=t'}:=by
 obtain⟨m,⟨o,C,E,q,r⟩,_⟩:=id I.loc;obtain⟨sl,y⟩:=u.any q I.free (by simp)
 exact I.step (ch:=[]) (λ_ z=>nomatch z) (λb o _ h _ e n=>u.keep b o e n h (by simp)) (λb o _ h _ e n=>u.slot b o e n h (by simp)) (λb o _ e n=>u.free b o e n (by simp)) (λb o _ e=>u.there b o e (by simp)) u.tups u.frzs u.tbls (λB x=>by
  obtain⟨A,l,p,f,v⟩:=x;rw[q]at f;cases f;exact⟨_,l,p,y,v⟩) g I.bare
def Inv.call {d'}{ch} (I:Inv X pins σ H s) (u:Un (frs X.stack) ch H H' s.heap h') (l:HOk X.prog X.w H' h') (E:AllBare J)
  (h:∀b∈ch,(b∈X.ex\/X.s₀.heap.objs.size<=b)/\b≠X.env.locals/\(∀x c,X.env.cells.lookup x=some c->c≠b)/\∀p∈X.pn++pins,p.1≠b) :
  Inv X pins σ H' {s with heap:=h',gens:=J,drawn:=d',toks:=t'}:=by
 obtain⟨m,⟨o,N,Q,A,r⟩,_⟩:=id I.loc;obtain⟨sl,q⟩:=u.any A I.free λz=>(h _ z).2.1 rfl
 exact I.step h (λb o q G f e n=>u.keep b o e n (λz=>(WL.mp<|I.stkSub b z).elim q G) f) (λb o _ _ f e n=>u.any e n f) (λb o f e n=>u.free b o e n f) (λb o f e=>u.there b o e f) u.tups u.frzs u.tbls (λM C=>by
  obtain⟨L,v,y,g,B⟩:=C;rw[A]at g;cases g;exact⟨_,v,y,q,B⟩) l E
def Inv.turned {it} (I:Inv X pins σ H s) (k:∀b o,b≠it->s.heap.get? b=some o->h'.get? b=some o) (B:H it=none) (l:it≠X.env.locals)
  (J:it∈X.ex\/X.s₀.heap.objs.size<=it) (G:∀x c,X.env.cells.lookup x=some c->c≠it) (E:∀p∈X.pn++pins,p.1≠it):Inv X pins σ H {s with heap:=h',toks:=t'}:=by
 refine I.step (ch:=[it]) (λb C=>?_) (λb o _ _ f e _=>k b o (λz=>f (by simp[z])) e) (λb o _ _ f e _=>⟨o.slots,k b o (λz=>f (by simp[z])) e⟩) (λ_ _ _ _ n=>n)
  (λb o f e=>⟨o,k b o (λz=>f (by simp[z])) e⟩) (λ_ _ e=>e) (λ_ _ _ e=>e) (λb A e=>⟨#[],by rw[e];simp⟩) (λm h=>?_) (λb u e=>?_) I.bare
 ·grind
 ·obtain⟨o,w,y,g,r⟩:=h;exact⟨o,w,y,k _ o (Ne.symm l) g,r⟩
 ·refine(I.hok b u e).stay (λc v f q=>k c v ?_ q) (λ_ q=>q) λ_ _ q=>q;rcases f with z|z
  ·grind
  ·grind
def Inv.tok (I:Inv X pins σ H s) (t:Nat):Inv X pins σ H {s with toks:=t}:=I.un Un.refl I.hok
def Inv.kept (I:Inv X pins σ H s) (k:∀b u,s.heap.get? b=some u->h'.get? b=some u):Inv X pins σ H {s with heap:=h',toks:=t'}:=I.un (Un.kept k) (I.hok.kept k)
def Inv.laid {a:Addr}{o}{t'} (I:Inv X pins σ H s) (k:∀b u,s.heap.get? b=some u->h'.get? b=some u) (f:s.heap.objs.size<=a) (new:ObjOk X.prog X.w (upd H a o) h' a o) :
  Inv X pins σ (upd H a o) {s with heap:=h',toks:=t'}:=I.un (Un.laid k f<|I.hok.fresh f) (I.hok.laid k f new)
def Inv.write (I:Inv X pins σ H s) (g:Mut (H x)) (h:e=x\/H e=some (.own x)) (k:∀b u,b≠e->s.heap.get? b=some u->h'.get? b=some u) (f:∃u,h'.get? e=some u)
  (new:ObjOk X.prog X.w (upd H x o) h' x o):Inv X pins σ (upd H x o) {s with heap:=h',toks:=t'}:=I.un (Un.write g h k f) (I.hok.write g h k f new)
def Inv.weak (I:Inv X pins σ H s) (h:b.length=σ.length) (w:∀(i:Nat) v,b[i]?=some (some v)->σ[i]?=some (some v)):Inv X pins b H s:=
 ⟨I.ok,I.os,I.bare,I.base,let ⟨m,g,f⟩:=I.loc;⟨m,g,λi x v o n l=>f i x v o (w i v n) l⟩,I.cell,I.free,I.freeC,I.pin,I.hok,h.trans I.len⟩
def Inv.pins_of (I:Inv X pins σ H s) (h:∀p∈pins',s.heap.get? p.1=some p.2/\H p.1=none/\p.1≠X.env.locals/\p.1∉X.fs/\∀v,p.2.data≠.cell v):Inv X pins' σ H s:=
 ⟨I.ok,I.os,I.bare,I.base,I.loc,I.cell,I.free,I.freeC,λp b=>(Qd.mp b).elim (λz=>I.pin p (Ve _ z)) (h p),I.hok,I.len⟩
def DW{N:Ym}(f:N.Nodup){i j:Nat}{x}(a:N[i]?=some x)(b:N[j]?=some x):i=j:=by
 obtain⟨n,h⟩:=Qf.mp a;obtain⟨l,g⟩:=Qf.mp b;exact(Ue f).mp (h.trans g.symm)
def Zl2{i x v u Q}(I:Inv X pins σ H s)(hN:X.N.Nodup)(hi:X.N[i]?=some x)(hx:Loc X.env.scope x)(r:RelV v u)(h:∀s',Inv X pins (σ.set i<|some v) H s'->(∃a,Heap.SameBut a s.heap s'.heap/\(a=X.env.locals\/X.env.cells.lookup x=some a))->Q () s')(hf:autoParam (X.fn x=true\/X.env.scope.names.lookup x=some .local) au_2):wpAny M A (storeName X.env x u) Q E s:=by
 obtain⟨m,hn,hl⟩:=id I.loc;have hcls:(X.env.scope.kind == .class || (X.env.scope.kind == .module&&X.env.locals != X.env.globals))=false:=by rw[I.ok.kind];rfl
 have J:i<σ.length:=by rw[I.len];exact(Qf.mp hi).1
 have cne:=I.cne
 have tracked:∀{a:Addr} {h':Heap},(∃o,s.heap.get? a=some o/\H a=none)->Heap.SameBut a s.heap h'->HOk X.prog X.w H h':=λ{a h'} ha f b ob e=>by
  obtain⟨_,_,B⟩:=ha;refine(I.hok b ob e).stay (λc w' l q=>(f.2 c ?_).trans q) (λ_ q=>q) λ_ _ q=>q;rintro rfl;rcases l with rfl|l
  ·rw[B]at e;cases e
  ·rw[B]at l;cases l
 rcases hx with G|G
 ·refine wpAny_storeName_local G hn (λh' hn' f=>?_) hcls;obtain⟨oL,_,_,hoL,_⟩:=id hn;refine h _ ⟨I.ok,I.os,I.bare,⟨λb o e n U hx=>?_,λb o e n U hx=>?_,I.base.free,λb o e hx=>?_,I.base.tups,I.base.frzs,I.base.tbls⟩,⟨_,hn',λj y v' g C e3=>?_⟩,λy c e=>?_,I.free,I.freeC,λp hp=>?_,tracked ⟨oL,hoL,I.free⟩ f,by simpa using I.len⟩ ⟨_,f,.inl rfl⟩
  ·exact(f.2 b<|Qg<|Qj (WM e) I.ok.above).trans (I.base.keep b o e n U hx)
  ·obtain⟨sl,g⟩:=I.base.slot b o e n U hx;exact⟨sl,(f.2 b<|Qg<|Qj (WM e) I.ok.above).trans g⟩
  ·obtain⟨o',g⟩:=I.base.there b o e hx;exact⟨o',(f.2 b<|Qg<|Qj (WM e) I.ok.above).trans g⟩
  ·by_cases L:j=i
   ·subst L;rw[hi]at g;cases g;rw[List.getElem?_set_self J]at C;cases C
    exact⟨u,r,.inl ⟨G,by simp⟩⟩
   ·rw[JD (Ne.symm L)]at C;obtain⟨u',r',q⟩:=hl j y v' g C e3;refine⟨u',r',?_⟩;rcases q with⟨k,e⟩|⟨k,c,e,z⟩
    ·refine .inl ⟨k,?_⟩
     have:y≠x:=λe=>L (DW hN g (e▸hi))
     simp[this,e]
    ·exact .inr ⟨k,c,e,z.sameBut f (cne y c e)⟩
  ·obtain⟨w',z⟩:=I.cell y c e;exact⟨w',z.sameBut f (cne y c e)⟩
  ·obtain⟨e,n,ne,nf,d⟩:=I.pin p hp;exact⟨(f.2 p.1 ne).trans e,n,ne,nf,d⟩
 ·have T:X.fn x=true:=by
   rcases hf with z|z
   ·exact z
   ·rw[z]at G;cases G
  obtain⟨c,l⟩:=I.ok.has x (.inl G);obtain⟨w',z⟩:=I.cell x c l;refine wpAny_storeName_cell I.ok.kind G l z (λh' hc' f=>?_);obtain⟨oc,hoc,Y⟩:=id z;refine h {s with heap:=h'} ⟨I.ok,I.os,I.bare,⟨λb o e n U hx=>?_,λb o e n U hx=>?_,I.base.free,λb o e hx=>?_,I.base.tups,I.base.frzs,I.base.tbls⟩,⟨m,hn.sameBut f (Ne.symm<|cne x c l),λj y v' g C e3=>?_⟩,λy c' e=>?_,I.free,I.freeC,λp hp=>?_,tracked ⟨oc,hoc,I.freeC x c l⟩ f,by simpa using I.len⟩ ⟨c,f,.inr l⟩
  ·exact(f.2 b<|Qg<|Qj (WM e)<|I.ok.cab x c T l).trans (I.base.keep b o e n U hx)
  ·obtain⟨sl,g⟩:=I.base.slot b o e n U hx;exact⟨sl,(f.2 b<|Qg<|Qj (WM e)<|I.ok.cab x c T l).trans g⟩
  ·obtain⟨o',g⟩:=I.base.there b o e hx;exact⟨o',(f.2 b<|Qg<|Qj (WM e)<|I.ok.cab x c T l).trans g⟩
  ·by_cases L:j=i
   ·subst L;rw[hi]at g;cases g;rw[List.getElem?_set_self J]at C;cases C
    exact⟨u,r,.inr ⟨.inl G,c,l,hc'⟩⟩
   ·rw[JD (Ne.symm L)]at C;obtain⟨u',r',q⟩:=hl j y v' g C e3;refine⟨u',r',?_⟩;rcases q with q|⟨k,c',e,z'⟩
    ·exact .inl q
    ·refine .inr ⟨k,c',e,z'.sameBut f ?_⟩;rintro rfl;exact L (DW hN g (I.ok.inj _ _ _ e l▸hi))
  ·by_cases hcc:c'=c
   ·subst hcc;exact⟨_,hc'⟩
   ·obtain⟨w2,z2⟩:=I.cell y c' e;exact⟨w2,z2.sameBut f hcc⟩
  ·obtain⟨e,n,ne,nf,d⟩:=I.pin p hp;refine⟨(f.2 p.1 ?_).trans e,n,ne,nf,d⟩;intro q;rw[q,hoc]at e;exact d w' (by rw[←(WT e)];exact Y)
def NT{i x v u Q}(I:Inv X pins σ H s)(l:X.N.Nodup)(f:X.N[i]?=some x)(hx:Loc X.env.scope x)(r:RelV v u)(h:∀b,Inv X pins (σ.set i<|some v) H b->Q () b)(g:autoParam (X.fn x=true\/X.env.scope.names.lookup x=some .local) au_2):wpAny M A (storeName X.env x u) Q E s:=
 Zl2 I l f hx r (λb n _=>h b n) g
def Inv.call' {ch} (I:Inv X pins σ H s) (l:f.os=s.os) (u:Un (frs X.stack) ch H H' s.heap f.heap) (g:HOk X.prog X.w H' f.heap) (n:AllBare f.gens)
  (h:∀b∈ch,(b∈X.ex\/X.s₀.heap.objs.size<=b)/\b≠X.env.locals/\(∀x c,X.env.cells.lookup x=some c->c≠b)/\∀p∈X.pn++pins,p.1≠b):Inv X pins σ H' f:=by
 obtain⟨h',r,v,o,q⟩:=f;subst l;exact I.call u g n h
end
abbrev XK:=Value->Yq->Hp->Prop
abbrev St:=List (Option V)
abbrev VK:=V->Hp->Prop
abbrev TE:=St->Hp->VK->Prop
abbrev TT:=St->Hp->(Bool->Hp->Prop)->Prop
abbrev TA:=St->Hp->(List V->Hp->Prop)->Prop
structure Ends where
 nx:St->Hp->Prop
 rt:VK
 bk:St->Hp->Prop:=λ_ _=>False
 ct:St->Hp->Prop:=λ_ _=>False
abbrev TS:=Ends->St->Hp->Prop
def EP(X:Cx)(pins:Yg)(f:St)(Q:VK)(u:Value)(g:Shared):Prop:=∃v b,Inv X pins f b g/\RelV v u/\Q v b
def TP(X:Cx)(pins:Yg)(g:St)(Q:Bool->Hp->Prop)(b:Bool)(h:Shared):Prop:=∃f,Inv X pins g f h/\Q b f
def AP(X:Cx)(pins:Yg)(g:St)(Q:List V->Hp->Prop)(us:Yl)(h:Shared):Prop:=∃b f,Inv X pins g f h/\Vals b us/\Q b f
def SP(X:Cx)(pins:Yg)(D:Ends)(f:Flow)(h:Shared):Prop:=
 match f with
 | .next=>∃b g,Inv X pins b g h/\D.nx b g
 | .brk=>∃b g,Inv X pins b g h/\D.bk b g
 | .cont=>∃b g,Inv X pins b g h/\D.ct b g
 | .ret u=>∃v b g,Inv X pins b g h/\RelV v u/\D.rt v g
def PE(X:Cx)(e:Expr)(t:TE):Prop:=
 ∀(pins:Yg) (s:Shared) (b:St) (H:Hp) (Q:VK),Inv X pins b H s->t b H Q->wpAny (model X.prog X.w) X.A (eval e X.env) (EP X pins b Q) X.xe s
def PT(X:Cx)(e:Expr)(t:TT):Prop:=
 ∀(pins:Yg) (s:Shared) (b:St) (H:Hp) (Q:Bool->Hp->Prop),Inv X pins b H s->t b H Q->wpAny (model X.prog X.w) X.A (isTrue e X.env<|eval e X.env) (TP X pins b Q) X.xe s
def PW(X:Cx)(e:Expr)(t:TT):Prop:=
 ∀(whole:Sem Value) (pins:Yg) (s:Shared) (b:St) (H:Hp) (Q:Bool->Hp->Prop),Inv X pins b H s->t b H Q->wpAny (model X.prog X.w) X.A (isTrue e X.env whole) (TP X pins b Q) X.xe s
def PW.pt (h:PW X e t):PT X e t:=h _
def PA(X:Cx)(es:Yn)(t:TA):Prop:=
 ∀(pos:Pos) (pins:Yg) (s:Shared) (b:St) (H:Hp) (Q:List V->Hp->Prop),Inv X pins b H s->t b H Q->wpAny (model X.prog X.w) X.A (spliced<|backTo pos<|starEach es X.env) (AP X pins b Q) X.xe s
def PS(X:Cx)(st:Stmt)(t:TS):Prop:=
 ∀(pins:Yg) (s:Shared) (b:St) (H:Hp) (D:Ends),Inv X pins b H s->t D b H->wpAny (model X.prog X.w) X.A (exec st X.env) (SP X pins D) X.xe s
def PSs(X:Cx)(st:Yo)(t:TS):Prop:=
 ∀(pins:Yg) (s:Shared) (b:St) (H:Hp) (D:Ends),Inv X pins b H s->t D b H->wpAny (model X.prog X.w) X.A (execs st X.env) (SP X pins D) X.xe s
def thn{M A E s}(h:wpAny M A t Q E s)(b:∀a s,Q a s->f a s):wpAny M A t f E s:=Qr h b λ_ _ x=>x
section
variable {X:Cx}
def bin{z r}(G:PE X a z)(E:PE X b r){pins}{s}{g:St}{H}{R:V->V->Hp->Prop}(I:Inv X pins g H s)(h:z g H λx q=>r g q λy o=>R x y o){α}{Q}{f:Value->Value->Sem α}(T:∀v u p x y o,Inv X pins g o p->RelV x v->RelV y u->R x y o->wpAny (model X.prog X.w) X.A (f v u) Q X.xe p) :
  wpAny (model X.prog X.w) X.A (eval a X.env) (λv n=>wpAny (model X.prog X.w) X.A (eval b X.env) (λu l=>wpAny (model X.prog X.w) X.A (f v u) Q X.xe l) X.xe n) X.xe s:=by
 refine thn (G pins s g H _ I h) λv B ⟨x,q,J,M,C⟩=>?_;refine thn (E pins B g q _ J C) λu p ⟨y,o,U,L,N⟩=>?_
 grind
noncomputable def Pa(i:Nat):TE:=λb H Q=>∃v,b[i]?=some (some v)/\Q v H
noncomputable def tC(v:V):TE:=λ_ H Q=>Q v H
def Zjm{pos}(B:X.N[i]?=some x)(w:Vis X.env.scope x)(n:autoParam ((x==("__debug__" : Str))=false) au_1)(o:autoParam ((x==("__classdict__" : Str))=false) au_1):PE X (.Name x pos) (Pa i):=by
 intro pins s q H Q I h;obtain⟨v,e,h⟩:=h;obtain⟨m,y,A⟩:=I.loc;obtain⟨u,r,l⟩:=A i x v B e w;have g:EP X pins q Q u s:=⟨v,H,I,r,h⟩;rcases l with⟨f,z⟩|⟨f,c,p,b⟩
 ·exact wpAny_Name (wpAny_loadName_local I.ok.kind f y z g) n
 ·rcases f with f|f
  ·exact wpAny_Name (wpAny_loadName_cell I.ok.kind f p b g) n
  ·exact wpAny_Name (wpAny_loadName_free I.ok.kind f p b g o) n
def Kv:PE X (.Constant (.int i) j pos) (tC<|.int i):=λ_ _ _ H _ I h=>wpAny_Constant_int ⟨.int i,H,I.tok _,⟨_,rfl⟩,h⟩
def Nc:PE X (.Constant (.bool b) j pos) (tC<|.bl b):=λ_ _ _ H _ I h=>Constant_bool ⟨.bl b,H,I,rfl,h⟩
def Kf:PE X (.Constant (.str x) j pos) (tC<|.str x):=λ_ _ _ H _ I h=>Calls.Constant_str ⟨.str x,H,I.tok _,⟨_,rfl⟩,h⟩
def Gl(X:Cx)(x:Str):Prop:=X.env.kindOf x=some .globalImplicit
def Nq{pins}{s}{b:St}{H}{x}{u}{pos}{Q}(I:Inv X pins b H s)(g:Gl X x)(f:X.mg x=some u)(h:Q u s)(l:autoParam ((x==("__debug__" : Str))=false) au_1):wpAny (model X.prog X.w) X.A (eval (.Name x pos) X.env) Q E s:=
 Calls.Name_function_global I.ok.kind g (Calls.loadGlobal_global (by rw[I.ok.glob];exact I.mod.glob.keeps I.bk) f h) l
def SQ{E}{pins}{s}{b:St}{H}{x}{u}{pos}{Q}(I:Inv X pins b H s)(n:Gl X x)(l:X.mg x=none)(f:bootBuiltins x=some u)(h:Q u s)(g:autoParam (x≠"__name__") au_1)(o:autoParam ((x==("__debug__" : Str))=false) au_1):wpAny (model X.prog X.w) X.A (eval (.Name x pos) X.env) Q E s:=by
 obtain⟨r,q,p⟩:=I.mod.blt;exact Calls.Name_function_global I.ok.kind n (Calls.loadGlobal_builtin (by rw[I.ok.glob];exact I.mod.glob.keeps I.bk) l (by rw[I.ok.blt];exact q.keeps I.bk) ((p x g).trans f) h) o
def Fy{u pos}(f:Gl X x)(b:X.mg x=some u)(r:RelV v u)(g:autoParam ((x==("__debug__" : Str))=false) au_1):PE X (.Name x pos) (tC v):=
 λ_ _ _ H _ I h=>Nq I f b ⟨v,H,I,r,h⟩ g
def AY{u pos}(l:Gl X x)(g:X.mg x=none)(b:bootBuiltins x=some u)(r:RelV v u)(f:autoParam (x≠"__name__") au_1)(n:autoParam ((x==("__debug__" : Str))=false) au_1):PE X (.Name x pos) (tC v):=
 λ_ _ _ H _ I h=>SQ I l g b ⟨v,H,I,r,h⟩ f n
variable {a b:Expr}{ta tb:TE}{pos:Pos}
def PC(X:Cx)(l:CmpOp)(a b:Expr)(t:TE):Prop:=
 ∀(pins:Yg) (s:Shared) (h:St) (H:Hp) (Q:VK),Inv X pins h H s->t h H Q->
  wpAny (model X.prog X.w) X.A (eval a X.env) (λv g=>wpAny (model X.prog X.w) X.A (eval b X.env) (λu f=>wpAny (model X.prog X.w) X.A (compareOp l v u) (EP X pins h Q) X.xe f) X.xe g) X.xe s
def Zax(b:Expr){op}(h:op≠.In)(l:op≠.NotIn):behindInMarks op b=false:=by
 have g:(op==CmpOp.In)=false:=by grind
 have f:(op==CmpOp.NotIn)=false:=by grind
 cases b<;>simp[behindInMarks,g,f]
noncomputable def tB(t:TE):TT:=λf H Q=>t f H λx g=>∃c,x=.bl c/\Q c g
def Zbl(h:PC X f a b t)(l:behindInMarks f b=false:=by first|exact Zax _ (by decide) (by decide)|rfl):PE X (.Compare a [f] [b] pos) t:=λpins s g H Q I hw=>wpAny_Compare1 (h pins s g H Q I hw) l
def SN(h:PC X g a b t)(f:behindInMarks g b=false:=by first|exact Zax _ (by decide) (by decide)|rfl):PT X (.Compare a [g] [b] pos) (tB t):=by
 intro pins s l H Q I hw;refine wpAny_isTrue_Compare1 (thn (h pins s l H _ I hw) λv A f=>thn f λu z p=>thn p ?_) f;rintro c y ⟨x,w,r,n,o⟩;obtain⟨d,rfl,q⟩:=o;cases n
 exact Vg ⟨w,r,q⟩
variable {tA tB':TT}{rest:Yn}
noncomputable def HW(t u:TT):TT:=λf H Q=>t f H λc g=>if c=true then u f g Q else Q false g
noncomputable def tOr(t u:TT):TT:=λf H Q=>t f H λc g=>if c=true then Q true g else u f g Q
noncomputable def A8(t:TT):TT:=λf H Q=>t f H λc g=>Q (!c) g
def Zp0(g:PT X a tA):PW X (.BoolOp .And [a] pos) tA:=by
 intro l pins s f H Q I h;refine isTrue_and (thn (g pins s f H Q I h) λc n e=>?_);cases c with
 |true=>exact isTrue_and_nil e
 |false=>exact e
def AG(g:PT X a tA):PW X (.BoolOp .Or [a] pos) tA:=by
 intro l pins s f H Q I h;refine isTrue_or (thn (g pins s f H Q I h) λc n e=>?_);cases c with
 |false=>exact isTrue_or_nil e
 |true=>exact e
def Zm2(p:PT X a tA)(o:PW X (.BoolOp .And (b::rest) pos) tB'):PW X (.BoolOp .And (a::b::rest) pos) (HW tA tB'):=by
 intro g pins s f H Q I h;refine isTrue_and (thn (p pins s f H _ I h) λc l ⟨r,q,n⟩=>?_);cases c with
 |true=>exact o g pins l f r Q q n
 |false=>trivial
def Cn(p:PT X a tA)(o:PW X (.BoolOp .Or (b::rest) pos) tB'):PW X (.BoolOp .Or (a::b::rest) pos) (tOr tA tB'):=by
 intro g pins s f H Q I h;refine isTrue_or (thn (p pins s f H _ I h) λc l ⟨r,q,n⟩=>?_);cases c with
 |true=>trivial
 |false=>exact o g pins l f r Q q n
def N6(g:PT X a tA):PT X (.UnaryOp .Not a pos) (A8 tA):=by
 intro pins s f H Q I h;exact isTrue_not (g pins s f H (λc l=>Q (!c) l) I h)
noncomputable def A4(ta tb:TE):TE:=λf H Q=>ta f H λx g=>∃c,x=.bl c/\if c=true then tb f g Q else Q (.bl false) g
noncomputable def Mh(ta:TE):TE:=λf H Q=>ta f H λx g=>∃c,x=.bl c/\Q (.bl (!c)) g
def FL{t}(h:PE X a t):PE X (.BoolOp f [a] pos) t:=by trivial
def Ar(r:PE X a ta)(q:PE X (.BoolOp .And (b::rest) pos) tb):PE X (.BoolOp .And (a::b::rest) pos) (A4 ta tb):=by
 intro pins s g H Q I h;refine BoolOp_and (thn (r pins s g H _ I h) ?_);rintro v o ⟨x,n,l,p,f⟩;obtain⟨c,rfl,f⟩:=f;cases p
 refine Vg ?_;cases c with
 |true=>exact q pins o g n Q l f
 |false=>exact⟨.bl false,n,l,rfl,f⟩
def Ze1(n:PE X a ta):PE X (.UnaryOp .Not a pos) (Mh ta):=by
 intro pins s g H Q I h;refine UnaryOp_ (thn (n pins s g H _ I h) ?_);rintro v q ⟨x,p,o,l,f⟩;obtain⟨c,rfl,f⟩:=f;cases l
 exact not_of (Vg ⟨.bl (!c),p,o,rfl,f⟩)
noncomputable def tIf(t:TT)(ta tb:TE):TE:=λf H Q=>t f H λc g=>if c=true then ta f g Q else tb f g Q
def Zi4(p:PT X c tA)(r:PE X a ta)(q:PE X b tb):PE X (.IfExp c a b pos) (tIf tA ta tb):=by
 intro pins s f H Q I h;refine wpAny_IfExp (thn (p pins s f H _ I h) ?_);rintro d g ⟨o,n,l⟩;cases d with
 |true=>exact r pins g f o Q n l
 |false=>exact q pins g f o Q n l
end
def SqL(K:Yd)(H:Hp)(a:Addr)(xs:List V):Prop:=
 Rd H a (.lst xs)\/
  ∃(o:Obj) (b:Yr) (n:Nat),K.lookup a=some o/\o.cls=.type "list"/\o.dict=none/\o.data=.seq b n/\b.size<=sizeLine/\Vals xs b.toList
def SqT(K:Yd)(H:Hp)(a:Addr)(xs:List V):Prop:=
 Rd H a (.tup xs)\/
  ∃(o:Obj) (b:Yr) (n:Nat),K.lookup a=some o/\o.cls=.type "tuple"/\o.data=.seq b n/\b.size<=sizeLine/\Vals xs b.toList
noncomputable def Zp5:Value->Option V
 | .none=>some .non
 | .bool b=>some (.bl b)
 | .int i _=>some (.int i)
 | .str x _=>some (.str x)
 | .bytes b _=>some (.byt b)
 | .float b _=>some (.flt b)
 | .ref a=>some (.ref a)
 | .type n=>some (.ty n)
 |_=>none
def RelV.abs (r:RelV x u):Zp5 u=some x:=by
 cases x with
 |non|bl _|ref _|ty _=>cases r;rfl
 |_=>obtain⟨t,rfl⟩:=r;rfl
def RelV.inj {u} (r:RelV x u) (q:RelV y u):x=y:=WT (r.abs.symm.trans q.abs)
def Vals.inj:∀{xs b}{us:Yl},Vals xs us->Vals b us->xs=b:=by
 intro o
 induction o with
 |nil=>
  intro _ _ h g;cases h
  cases g
  rfl
 |cons _ _ n=>
  intro _ _ h g;cases h with
  |cons h r=>
   cases g with
   |cons l f=>rw[h.inj l,n r f]
section
variable {X:Cx}{pins:Yg}{σ:St}{H:Hp}{s:Shared}{a:Addr}{xs ys:List V}
def SqL.of {K} (h:H a=some (.lst xs)):SqL K H a xs:=.inl (.inl h)
def SqT.of {K} (h:H a=some (.tup xs)):SqT K H a xs:=.inl (.inl h)
def Inv.list (I:Inv X pins σ H s) (h:SqL X.K H a xs):∃b,Vals xs b/\PlainL s.heap a b.toArray/\xs.length<=sizeLine:=by
 rcases h with h|⟨o,b,n,g,p,l,f,q,r⟩
 ·obtain⟨z,b,n,r,e⟩:=h.ok I.hok;exact⟨b,r,⟨_,n,e,rfl,rfl,rfl⟩,z⟩
 ·refine⟨b.toList,r,⟨o,n,I.kIn a o g,p,l,by simpa using f⟩,?_⟩;have e:=r.length
  grind
def Inv.tuple (I:Inv X pins σ H s) (h:SqT X.K H a xs):∃b,Vals xs b/\IsTup s.heap a b.toArray/\xs.length<=sizeLine:=by
 rcases h with h|⟨o,b,n,g,l,f,q,r⟩
 ·obtain⟨z,b,r,p⟩:=h.ok I.hok
  grind
 ·refine⟨b.toList,r,⟨o,I.kIn a o g,l,n,by simpa using f⟩,?_⟩;have e:=r.length
  grind
def Inv.list_inj (I:Inv X pins σ H s) (h:SqL X.K H a xs) (l:SqL X.K H a ys):xs=ys:=by
 obtain⟨f,r,⟨o,n,e,_,_,d⟩,_⟩:=I.list h;obtain⟨b,g,⟨p,q,u,_,_,v⟩,_⟩:=I.list l
 have:f=b:=by grind
 subst this;exact r.inj g
def Inv.tuple_inj (I:Inv X pins σ H s) (h:SqT X.K H a xs) (l:SqT X.K H a ys):xs=ys:=by
 obtain⟨f,r,⟨o,e,_,n,d⟩,_⟩:=I.tuple h;obtain⟨b,g,⟨p,u,_,q,v⟩,_⟩:=I.tuple l
 have:f=b:=by grind
 subst this;exact r.inj g
end
noncomputable abbrev Cx.wish (X:Cx) (E:Yi):Cx:={X with xe:=E}
noncomputable abbrev Cx.nox (X:Cx):Cx:=X.wish λ_ _=>False
def Cx.Ok.wish {X:Cx} (ok:X.Ok) (E:Yi):(X.wish E).Ok:=
 ⟨ok.mod,ok.kind,ok.glob,ok.blt,ok.above,ok.inj,ok.has,ok.cab,ok.hd,ok.frames,ok.stk,ok.exf,ok.bs,ok.bsz,ok.noex,ok.exfs,ok.funs,ok.frf⟩
def Cx.Ok.unwish {X:Cx}{E} (ok:(X.wish E).Ok):X.Ok:=
 ⟨ok.mod,ok.kind,ok.glob,ok.blt,ok.above,ok.inj,ok.has,ok.cab,ok.hd,ok.frames,ok.stk,ok.exf,ok.bs,ok.bsz,ok.noex,ok.exfs,ok.funs,ok.frf⟩
section
variable {X:Cx}{pins:Yg}{σ:St}{H:Hp}{s:Shared}{E:Yi}
def Inv.wish (I:Inv X pins σ H s) (E:Yi):Inv (X.wish E) pins σ H s:=⟨I.ok.wish E,I.os,I.bare,I.base,I.loc,I.cell,I.free,I.freeC,I.pin,I.hok,I.len⟩
def Inv.unwish (I:Inv (X.wish E) pins σ H s):Inv X pins σ H s:=⟨I.ok.unwish,I.os,I.bare,I.base,I.loc,I.cell,I.free,I.freeC,I.pin,I.hok,I.len⟩
def SP.unwish (h:SP (X.wish E) pins D f l):SP X pins D f l:=by
 cases f with
 |ret u=>obtain⟨v,b,g,I,r,q⟩:=h;exact⟨v,b,g,I.unwish,r,q⟩
 |_=>obtain⟨b,g,I,q⟩:=h;exact⟨b,g,I.unwish,q⟩
def PSs.nox {st t} (h:PSs X.nox st t):PSs X st t:=λpins s σ H D I hw=>
 Qr (h pins s σ H D (I.wish _) hw) (λ_ _ q=>q.unwish) λ_ _ z=>False.elim z
end
section
variable {X:Cx}{st:Stmt}{rest:Yo}{t u:TS}{e:Expr}{te:TE}{pos:Pos}
noncomputable def LL:TS:=λD b H=>D.nx b H
noncomputable def RR(t u:TS):TS:=λD b H=>t {D with nx:=u D} b H
def Si:PSs X [] LL:=λ_ _ b H _ I h=>JE ⟨b,H,I,h⟩
def LR(o:PS X st t)(n:PSs X rest u):PSs X (st::rest) (RR t u):=by
 intro pins s g H D I h;refine wpAny_execs_cons (thn (o pins s g H {D with nx:=u D} I h) λf l q=>?_)
 cases f with
 |next=>
  obtain⟨b,r,p,q⟩:=q;exact n pins l b r D p q
 |_=>exact q
def Kx(g:PS X st t):PSs X [st] t:=by
 intro pins s b H D I h;refine wpAny_execs_cons (thn (g pins s b H D I h) λf l q=>?_);cases f with
 |next=>exact JE q
 |_=>lia
def Inv.quiet {b:St}{H}{s} (I:Inv X pins b H s):interactive X.env=false:=by simp[interactive,I.ok.kind]
noncomputable def SR(te:TE):TS:=λD b H=>te b H λ_ f=>D.nx b f
def Nv(l:PE X e te)(g:autoParam (swapsWith e none pos.line X.env=pure false) au_0):PS X (.Expr e pos) (SR te):=by
 intro pins s b H D I h;exact wpAny_Expr_any (thn (l pins s b H _ I h) λv p ⟨x,o,n,q,f⟩=>⟨b,o,n,f⟩) I.quiet g
noncomputable def Sf(te:TE):TS:=λD b H=>te b H D.rt
def Kg(l:PE X e te):PS X (.Return (some e) pos) (Sf te):=by
 intro pins s b H D I h;exact wpAny_Return_some (thn (l pins s b H _ I h) λv p ⟨x,o,n,f,g⟩=>⟨x,b,o,n,f,g⟩)
noncomputable def EW(c:TT)(t u:TS):TS:=λD f H=>c f H λb g=>if b=true then t D f g else u D f g
def Sh{tc}(p:PT X c tc)(r:PSs X a t)(q:PSs X b u):PS X (.If c a b pos) (EW tc t u):=by
 intro pins s f H D I h;refine wpAny_If (thn (p pins s f H _ I h) ?_);rintro d g ⟨o,n,l⟩;cases d with
 |true=>exact r pins g f o D n l
 |false=>exact q pins g f o D n l
noncomputable def Md:TS:=λ_ _ _=>False
def TM:PS X st Md:=λ_ _ _ _ _ _ h=>h.elim
end
abbrev TG:=V->St->Hp->(St->Hp->Prop)->Prop
abbrev TGs:=List V->St->Hp->(St->Hp->Prop)->Prop
def PG(X:Cx)(target:Expr)(t:TG):Prop:=
 ∀(pins:Yg) (s:Shared) (f:St) (H:Hp) (v:V) (u:Value) (Q:St->Hp->Prop),Inv X pins f H s->RelV v u->t v f H Q->
  wpAny (model X.prog X.w) X.A (assign target X.env u) (λ_ h=>∃b g,Inv X pins b g h/\Q b g) X.xe s
def PGs(X:Cx)(ts:Yn)(t:TGs):Prop:=
 ∀(pins:Yg) (s:Shared) (f:St) (H:Hp) (g:List V) (h:Yl) (Q:St->Hp->Prop),Inv X pins f H s->Vals g h->t g f H Q->
  wpAny (model X.prog X.w) X.A (assignInOrder ((assignEach ts X.env).map (·.2)) h) (λ_ n=>∃b l,Inv X pins b l n/\Q b l) X.xe s
abbrev IC:=V->V->V->Hp->(Hp->Prop)->Prop
def MG(X:Cx)(t:IC):Prop:=
 ∀(pins:Yg) (s:Shared) (b:St) (H:Hp) (o i v:V) (f g u:Value) (Q:Hp->Prop),Inv X pins b H s->RelV o f->RelV i g->RelV v u->t o i v H Q->
  wpAny (model X.prog X.w) X.A (setItem f g u) (λ_ l=>∃h,Inv X pins b h l/\Q h) X.xe s
abbrev TIp:=V->V->Hp->VK->Prop
def PIp(X:Cx)(f:Operator)(t:TIp):Prop:=
 ∀(pins:Yg) (s:Shared) (b:St) (H:Hp) (x y:V) (v u:Value) (Q:VK),Inv X pins b H s->RelV x v->RelV y u->t x y H Q->
  wpAny (model X.prog X.w) X.A (inplaceOp f v u) (EP X pins b Q) X.xe s
section
variable {X:Cx}{pos:Pos}
noncomputable def SM(i:Nat):TG:=λv b H Q=>Q (b.set i<|some v) H
def De(g:X.N.Nodup)(b:X.N[i]?=some x)(hx:Loc X.env.scope x)(f:autoParam (X.fn x=true\/X.env.scope.names.lookup x=some .local) au_2):PG X (.Name x pos) (SM i):=by
 intro pins s n H v u Q I r h;exact wpAny_assign_Name (NT I g b hx r (λo l=>⟨_,H,l,h⟩) f)
noncomputable def Ih:TGs:=λf b H Q=>f=[]/\Q b H
noncomputable def LF(t:TG)(u:TGs):TGs:=λg f H Q=>∃v r,g=v::r/\t v f H λb h=>u r b h Q
def Fz:PGs X [] Ih:=by
 intro pins s b H f g Q I r h;obtain⟨e,h⟩:=h;exact assignInOrder_nil ⟨b,H,I,h⟩
def Sm{t u}(q:PG X e t)(p:PGs X es u)(o:autoParam ((assignEach (e::es) X.env).map (·.2)=assign e X.env::(assignEach es X.env).map (·.2)) au_0):PGs X (e::es) (LF t u):=by
 intro pins s f H z B Q I r h;obtain⟨v,A,w,h⟩:=h;subst w;cases r with
 |cons r l=>
  rw[o];refine assignInOrder_cons (thn (q pins s f H _ _ _ I r h) ?_);rintro _ g ⟨b,y,x,n⟩;exact p pins g b y _ _ Q x l n
noncomputable def Eh(K:Yd)(n:Nat)(t:TGs):TG:=λv b H Q=>∃a xs,v=.ref a/\SqT K H a xs/\xs.length=n/\t xs b H Q
def Zo8{k t n}(y:X.calm=true)(h:PGs X es t)(w:autoParam ((assignEach es X.env).length=n) au_0)(f:autoParam ((assignEach es X.env).findIdx? (·.1)=none) au_0):PG X (.Tuple es k pos) (Eh X.K n t):=by
 intro pins s g H v u Q I r hw;obtain⟨a,xs,A,hq,x,hw⟩:=hw;subst A;cases r
 obtain⟨p,l,q,C⟩:=I.tuple hq;refine assign_Tuple_tuple (I.ok.hd y) q (by simp[w,←x,l.length]) f λz hx=>?_;have B:Inv X pins g H {s with heap:=z}:=I.kept λb o e=>hx b o (Qg<|WM e) e
 exact h pins _ g H xs _ Q B (by lia) hw
noncomputable def Zas(f ti:TE)(t:IC):TG:=λv b H Q=>f b H λo l=>ti b l λi h=>t o i v h λg=>Q b g
def Zcc{l ti t}(E:PE X o l)(G:PE X i ti)(C:MG X t)
  (J:autoParam (∀v,assign (.Subscript o i pos) X.env v=(do
   let b ←holding [v] (eval o X.env)
   let f ←holding [v,b] (eval i X.env)
   standAt pos
   holding [v,b,f] (setItem b f v)
   release [v,b,f] [])) au_3):PG X (.Subscript o i pos) (Zas l ti t):=by
 intro pins s g H v u Q I r h;rw[J];refine W8 (QK<|thn (E pins s g H _ I h) ?_);rintro b p ⟨x,Y,N,w,B⟩;refine W8 (QK<|thn (G pins p g Y _ N B) ?_);rintro f n ⟨y,U,M,q,A⟩;refine W8 (V6<|W8<|QK<|thn (C pins n g U x y v b f u _ M w q r A) ?_);rintro _ s3 ⟨T,L,z⟩;exact wpAny_release ⟨g,T,L,z⟩
noncomputable def Se(te:TE)(g:TG):TS:=λD b H=>te b H λx f=>g x b f D.nx
def Zdn{b e te g}(u:PE X e te)(r:PG X b g)(p:autoParam (swapsWithSole [b] e pos.line X.env=pure false) au_0)(hw:autoParam (swappedStores [b] e X.env=pure none) au_0)(w:autoParam ((assignEach [b] X.env).map (·.2)=[assign b X.env]) au_0):PS X (.Assign [b] e pos) (Se te g):=by
 intro pins s f H D I h;refine wpAny_Assign_stores (thn (u pins s f H _ I h) ?_) p hw;rintro v l ⟨x,z,y,n,o⟩;rw[w];exact thn (r pins l f z x v _ y n o) λ_ A q=>q
def Zdo(r:X.N.Nodup)(o:X.N[i]?=some x)(hx:Loc X.env.scope x)(q:PE X e te)(n:autoParam (swapsWith e (some<|.Name x b) pos.line X.env=pure false) au_0)(p:autoParam (X.fn x=true\/X.env.scope.names.lookup x=some .local) au_2) :
  PS X (.Assign [.Name x b] e pos) (Se te<|SM i):=by
 intro pins s f H D I h;refine wpAny_Assign_Name (thn (q pins s f H _ I h) λv B ⟨y,z,w,g,l⟩=>?_) n;exact NT w r o hx g (λA u=>⟨_,z,u,l⟩) p
noncomputable def Zap(i j:Nat)(g:TA):TS:=λD b H=>g b H λf h=>∃v w,f=[v,w]/\D.nx ((b.set i<|some v).set j (some w)) h
def Zj8{x y a b G z py pt A k2 f}(hc:X.calm=true)(L:X.N.Nodup)(hi:X.N[i]?=some x)(hj:X.N[j]?=some y)(C:i≠j)(hx:X.env.scope.names.lookup x=some .local)(J:X.env.scope.names.lookup y=some .local)(ha:PA X [a,b] G)(hw:swappedStores [.Tuple [.Name x z,.Name y py] A pt] (.Tuple [a,b] k2 f) X.env=pure (some [x,y]))(hs:autoParam (swapsWithSole [.Tuple [.Name x z,.Name y py] A pt] (.Tuple [a,b] k2 f) pos.line X.env=pure false) au_0) :
  PS X (.Assign [.Tuple [.Name x z,.Name y py] A pt] (.Tuple [a,b] k2 f) pos) (Zap i j G):=by
 intro pins s E H D I h;refine W8 (V6 ?_);refine W8 (WD ?_);refine W8 (Tuple_<|thn (ha _ pins s E H _ I h) ?_);rintro T n ⟨vs,Q,I1,Y,u⟩;obtain⟨v,w,e1,u⟩:=u;subst e1
 obtain⟨l,g,rfl,U,r⟩:∃l g,T=[l,g]/\RelV v l/\RelV w g:=by
  cases Y with
  |cons p q=>
   cases q with
   |cons p' q'=>
    cases q'
    exact⟨_,_,rfl,p,p'⟩
 refine Q6 ?_ (by show 2<=sizeLine;decide);have I2:Inv X pins E Q {n with heap:=n.heap.push {cls:=.type "tuple",data:=.seq [l,g].toArray}}:=I1.kept λb o e=>WB _ e
 rw[hw];refine W8 (WD ?_);refine W8 (wpAny_rule<|W8 (unpackItems_tuple (items:=#[l,g]) (I.ok.hd hc) (IsTup.new n.heap _) λh' B=>?_));refine W8 (assignInOrder_cons<|wpAny_bindName<|NT (I2.kept (t':=n.toks) λb o e=>B b o (Qg<|WM e) e) L hj (.inl J) r (λs2 I4=>?_)<|.inr J);refine assignInOrder_cons (wpAny_bindName<|NT I4 L hi (.inl hx) U (λs3 M=>assignInOrder_nil (WD ?_))<|.inr hx);rw[List.set_comm _ _ (Ne.symm C)]at M;exact⟨_,Q,M,u⟩
noncomputable def Ld(i:Nat)(te:TE)(ti:TIp):TS:=λD b H=>∃x,b[i]?=some (some x)/\te b H λy g=>ti x y g λz f=>D.nx (b.set i<|some z) f
def Zgd(hN:X.N.Nodup)(C:X.N[i]?=some x)(hx:Loc X.env.scope x)(he:PE X e te)(T:PIp X B ti)(hf:autoParam (X.fn x=true\/X.env.scope.names.lookup x=some .local) au_2) :
  PS X (.AugAssign (.Name x q) B e pos) (Ld i te ti):=by
 intro pins s p H D I h;obtain⟨v,e1,h⟩:=h;obtain⟨m,U,hl⟩:=I.loc;have o:Vis X.env.scope x:=by rcases hx with k|k;exact .inl k;exact .inr (.inl k)
 obtain⟨u,r,l⟩:=hl i x v C e1 o;refine wpAny_AugAssign_Name ?_
 have E:wpAny (model X.prog X.w) X.A (eval e X.env) (λw n=>wpAny (model X.prog X.w) X.A (inplaceOp B u w) (λr g=>wpAny (model X.prog X.w) X.A (storeName X.env x r) (λ_=>SP X pins D .next) X.xe g) X.xe n) X.xe s:=by
  refine thn (he pins s p H _ I h) λw G ⟨y,H1,I1,L,Q⟩=>?_;refine thn (T pins G p H1 v y u w _ I1 r L Q) λz s2 ⟨zv,H2,I2,J,M⟩=>?_;exact NT I2 hN C hx J (λs3 I3=>⟨_,H2,I3,M⟩) hf
 rcases l with⟨b,Y⟩|⟨b,c,hc,f⟩
 ·exact wpAny_loadName_local I.ok.kind b U Y E
 ·rcases b with b|b
  ·exact wpAny_loadName_cell I.ok.kind b hc f E
  ·rcases hx with k|k
   ·have:X.env.scope.names.lookup x=some .free:=b
    grind
   ·have:X.env.scope.names.lookup x=some .free:=b
    rw[k]at this;cases this
noncomputable def ipI(f:Int->Int->Int):TIp:=λx y H Q=>∃i j,x=.int i/\y=.int j/\Q (.int<|f i j) H
def DY:PIp X .Add (ipI λi j=>i+j):=by
 intro pins s n H x y v u Q I f b h;obtain⟨i,j,l,g,q⟩:=h;subst l;subst g;obtain⟨t,rfl⟩:=f;obtain⟨o,rfl⟩:=b;exact iadd_int ⟨.int _,H,I.tok _,⟨_,rfl⟩,q⟩
noncomputable def O9(c:TT)(o:TS):TS:=λD f H=>∃W:Nat->St->Hp->Prop,(∃m,W m f H)/\∀m f H,W m f H->
 c f H λb l=>if b=true then ∃N:St->Hp->Prop,(∀g n,N g n->∃h,h<m/\W h g n)/\o {D with nx:=N,ct:=N,bk:=D.nx} f l else D.nx f l
def Zb1{tc p}(r:PassesOwn (model X.prog X.w) X.A X.env X.xe)(T:PT X c tc)(U:PSs X body p):PS X (.While c body [] pos) (O9 tc p):=by
 intro pins s C H D I h;obtain⟨W,⟨Q,G⟩,turn⟩:=h;refine wpAny_While (codeAny_whileLoop (λn M=>∃l z,Inv X pins l z M/\W n l z) ?_ Q ⟨C,H,I,G⟩);rintro n L ⟨g,y,Y,E⟩;refine Vt r (thn (T pins L g y _ Y<|turn n g y E) λb J ⟨x,u,o⟩=>?_);cases b with
 |true=>
  obtain⟨N,hN,o⟩:=o;refine Vt r (thn (U pins J g x _ u o) λf s3 q=>?_);cases f with
  |brk|ret v=>exact q
  |_=>
   obtain⟨B,H3,I3,n3⟩:=q
   grind
 |false=>
  exact JE ⟨g,x,u,o⟩
end
structure It where
 go:Nat->Hp->Prop
 yld:Nat->Hp->V->Hp->Prop
 stop:Nat->Hp->Prop
def N7(X:Cx)(pins:Yg)(H:Hp)(b:Addr):Prop:=
 H b=none/\b≠X.env.locals/\b∉X.fs/\(b∈X.ex\/X.s₀.heap.objs.size<=b)/\(∀x c,X.env.cells.lookup x=some c->c≠b)/\∀p∈X.pn++pins,p.1≠b
def Inv.fpOk {g:St}{H H'}{s}{b:Addr} (I:Inv X pins g H s) (f:s.heap.objs.size<=b) (l:H' b=none):N7 X pins H' b:=by
 refine⟨l,JF (Qj I.lt f),I.nofs f,.inr (WQ I.sz f),λx c e z=>?_,λp h z=>?_⟩
 ·obtain⟨v,q⟩:=I.cell x c e;exact absurd (Qj q.lt<|by grind) (QY _)
 ·exact absurd (Qj (WM (I.pin p h).1)<|by grind) (QY _)
structure Turn (P:Program) (w:World) (K:Yd) (tg:Expr) (J:It) (fp:List Addr) (it:Addr) (tn:Nat->Heap->Prop):Prop where
 mem:it∈fp
 obj:∀i h,tn i h->∀b∈fp,∃o,h.get? b=some o/\∀v,o.data≠.cell v
 keep:∀i h h',tn i h->(∀b∈fp,∀o,h.get? b=some o->h'.get? b=some o)->tn i h'
 item:∀(X:Cx),X.prog=P->X.w=w->X.K=K->X.calm=true->∀(i:Nat) (pins:Yg) (s:Shared) (σ:St) (H:Hp) (E:Yi),Inv X pins σ H s->(∀b∈fp,N7 X pins H b)->tn i s.heap->J.go i H->
  wpAny (model P w) X.A (pyNext<|.ref it) (λr s1=>∃u,r=some u/\
   wpAny (model P w) X.A (letOwnedTupleGo tg (.ref it) u) (λ_ s2=>∃x H',Inv X pins σ H' s2/\RelV x u/\J.yld i H x H'/\tn (i+1) s2.heap/\∀b∈fp,H' b=none) E s1) E s
 done:∀(X:Cx),X.prog=P->X.w=w->X.K=K->X.calm=true->∀(i:Nat) (pins:Yg) (s:Shared) (σ:St) (H:Hp) (E:Yi),Inv X pins σ H s->(∀b∈fp,N7 X pins H b)->tn i s.heap->J.stop i H->
  wpAny (model P w) X.A (pyNext<|.ref it) (λr s1=>r=none/\Inv X pins σ H s1) E s
 self:∀(A:Around) (i:Nat) (s:Shared) (Q:Yi) (E:Yi),tn i s.heap->Q (.ref it) s->wpAny (model P w) A (pyIter<|.ref it) Q E s
abbrev TI:=St->Hp->(It->Hp->Prop)->Prop
def PIE(X:Cx)(pins:Yg)(o:St)(p:Expr)(R:It->Hp->Prop)(f:Value)(h:Shared):Prop:=
 ∃(l:Addr) (n:List Addr) (tn:Nat->Heap->Prop) (J:It) (g:Hp),f=.ref l/\Inv X pins o g h/\Turn X.prog X.w X.K p J n l tn/\tn 0 h.heap/\(∀b∈n,N7 X pins g b)/\R J g
def PI(X:Cx)(g iter:Expr)(f:TI):Prop:=
 ∀(pins:Yg) (s:Shared) (b:St) (H:Hp) (R:It->Hp->Prop),Inv X pins b H s->f b H R->
  wpAny (model X.prog X.w) X.A (eval iter X.env) (λv h=>wpAny (model X.prog X.w) X.A (pyIter v) (PIE X pins b g R) X.xe h) X.xe s
def FO {s f g u o n vs Q} (h : s.heap.get? g = some o) (p : o.cls = .type n) (l : o.data = .fields vs)
    (q : ["enumerate", "zip", "dict_itemiterator", "dict_reverseitemiterator", "odict_iterator", "itertools.zip_longest", "itertools.pairwise"].contains n = false) (b : Q () s) : wpAny M A (letOwnedTupleGo f (.ref g) u) Q E s := by
  cases f <;> first
    | exact WD b
    | (cases u <;> first
        | exact WD b
        | (refine W8 (wpAny_load h ?_)
           rw [p, l]
           show wpAny M A (if (["enumerate", "zip", "dict_itemiterator", "dict_reverseitemiterator", "odict_iterator", "itertools.zip_longest", "itertools.pairwise"].contains n && vs[0]? == some (rawInt _)) = true then _ else _) Q E s
           rw [WI (by grind)]
           exact WD b))
noncomputable def Itl(K:Yd)(a:Addr):It:=
 ⟨λi H=>∃xs x,SqL K H a xs/\xs[i]?=some x,λi H x b=>b=H/\∀xs,SqL K H a xs->xs[i]?=some x,λi H=>∃xs,SqL K H a xs/\xs.length<=i⟩
noncomputable def Itt(K:Yd)(a:Addr):It:=
 ⟨λi H=>∃xs x,SqT K H a xs/\xs[i]?=some x,λi H x b=>b=H/\∀xs,SqT K H a xs->xs[i]?=some x,λi H=>∃xs,SqT K H a xs/\xs.length<=i⟩
noncomputable def Itr(lo:Int)(n:Nat):It:=⟨λi _=>i<n,λi H x b=>b=H/\x=.int (lo+i),λi _=>n<=i⟩
def Zai{K tg}(a it:Addr):Turn P w K tg (Itl K a) [it] it (λi h=>h.IsListIter it a i) where
 mem:=by simp
 obj:=λi h st b hb=>by
  have e:b=it:=by simpa using hb
  subst e;obtain⟨o,e,c,d⟩:=st;exact⟨o,e,λv z=>by rw[d]at z;cases z⟩
 keep:=λi h h' st k=>st.at λo e=>k it (by simp) o e
 item:=by
  intro X hP hw hK hc i pins s σ H E I hf st hg;subst hP hw hK;obtain⟨xs,x,hq,hx⟩:=hg;obtain⟨its,rv,p,hz⟩:=I.list hq;obtain⟨u,hu,ru⟩:=rv.get hx;obtain⟨f0,f1,f2,f3,f4,f5⟩:=hf it (by simp);refine wpAny_pyNext_list_item st p.isList (by simpa using hu) λh' st' sb=>?_;have I1:Inv X pins σ H {s with heap:=h'}:=I.turned (λb o hb e=>(sb.2 b hb).trans e) f0 f1 f3 f4 f5
  obtain⟨o,e,c,d⟩:=id st';exact⟨u,rfl,FO e c d (by decide) ⟨x,H,I1,ru,⟨rfl,λys hy=>by rw[I.list_inj hy hq];exact hx⟩,st',λb hb=>(hf b hb).1⟩⟩
 done:=by
  intro X hP hw hK hc i pins s σ H E I hf st hg;subst hP hw hK;obtain⟨xs,hq,hx⟩:=hg;obtain⟨its,rv,p,hz⟩:=I.list hq;obtain⟨f0,f1,f2,f3,f4,f5⟩:=hf it (by simp);have hl:=rv.length;exact wpAny_pyNext_list_end (I.ok.hd hc) st p.isList (by simp;lia) λh' eb=>⟨rfl,I.turned (λb o hb e=>eb b o hb e) f0 f1 f3 f4 f5⟩
 self:=λ_ _ _ _ _ st h=>wpAny_pyIter_listiter st h
def GF{K tg}(a it:Addr):Turn P w K tg (Itt K a) [it] it (λi h=>h.IsTupleIter it a i) where
 mem:=by simp
 obj:=λi h st b hb=>by
  have e:b=it:=by simpa using hb
  subst e;obtain⟨o,e,c,d⟩:=st;exact⟨o,e,λv z=>by rw[d]at z;cases z⟩
 keep:=λi h h' st k=>st.at λo e=>k it (by simp) o e
 item:=by
  intro X hP hw hK hc i pins s σ H E I hf st hg;subst hP hw hK;obtain⟨xs,x,hq,hx⟩:=hg;obtain⟨its,rv,p,hz⟩:=I.tuple hq;obtain⟨u,hu,ru⟩:=rv.get hx;obtain⟨f0,f1,f2,f3,f4,f5⟩:=hf it (by simp);refine wpAny_pyNext_tuple_item st p (by simpa using hu) λh' st' sb=>?_;have I1:Inv X pins σ H {s with heap:=h'}:=I.turned (λb o hb e=>(sb.2 b hb).trans e) f0 f1 f3 f4 f5
  obtain⟨o,e,c,d⟩:=id st';exact⟨u,rfl,FO e c d (by decide) ⟨x,H,I1,ru,⟨rfl,λys hy=>by rw[I.tuple_inj hy hq];exact hx⟩,st',λb hb=>(hf b hb).1⟩⟩
 done:=by
  intro X hP hw hK hc i pins s σ H E I hf st hg;subst hP hw hK;obtain⟨xs,hq,hx⟩:=hg;obtain⟨its,rv,p,hz⟩:=I.tuple hq;obtain⟨f0,f1,f2,f3,f4,f5⟩:=hf it (by simp);have hl:=rv.length;exact wpAny_pyNext_tuple_end (I.ok.hd hc) st p (by simp;lia) λh' eb=>⟨rfl,I.turned (λb o hb e=>eb b o hb e) f0 f1 f3 f4 f5⟩
 self:=λ_ _ _ _ _ st h=>wpAny_pyIter_tupleiter st h
def Zkm{K tg}(it:Addr)(lo:Int)(n:Nat):Turn P w K tg (Itr lo n) [it] it (λi h=>IsRangeIter h it (lo+(i:Nat)*1) ((n:Int)-(i:Nat)) 1) where
 mem:=by simp
 obj:=λi h st b hb=>by
  have e:b=it:=by simpa using hb
  subst e
  exact⟨_,st,λv z=>by
   cases z⟩
 keep:=λi h h' st k=>k it (by simp) _ st
 item:=by
  intro X hP hw hK hc i pins s σ H E I hf st hg;subst hP hw hK;obtain⟨f0,f1,f2,f3,f4,f5⟩:=hf it (by simp);refine(Walks.range (prog:=X.prog) (w:=X.w) (I.ok.hd hc) it lo 1 n).item i s _ _ hg st λv h' tk hv st' kk=>?_;obtain⟨t,rfl⟩:=hv;have I1:Inv X pins σ H {s with heap:=h',toks:=tk}:=I.turned (λb o hb e=>kk b o (by simpa using hb) e) f0 f1 f3 f4 f5
  refine⟨_,rfl,FO st' rfl rfl (by decide) ⟨.int (lo+i),H,I1,⟨t,?_⟩,⟨rfl,rfl⟩,st',λb hb=>(hf b hb).1⟩⟩;rw[Int.mul_one]
 done:=by
  intro X hP hw hK hc i pins s σ H E I hf st hg;obtain⟨f0,f1,f2,f3,f4,f5⟩:=hf it (by simp);exact wpAny_pyNext_range_end (I.ok.hd hc) st (by have:n<=i:=hg;lia) λh' eb=>⟨rfl,I.turned (λb o hb e=>eb b o hb e) f0 f1 f3 f4 f5⟩
 self:=λ_ _ _ _ _ st h=>wpAny_pyIter_rangeiter st h
section
variable {X:Cx}{tg:Expr}
noncomputable def FE(K:Yd)(g:TE):TI:=λf H R=>g f H λx b=>∃a,x=.ref a/\(∃xs,SqL K b a xs)/\R (Itl K a) b
noncomputable def EH(K:Yd)(g:TE):TI:=λf H R=>g f H λx b=>∃a,x=.ref a/\(∃xs,SqT K b a xs)/\R (Itt K a) b
def MH(z:PE X l r):PI X tg l (FE X.K r):=by
 intro pins s n H R I h;refine thn (z pins s n H _ I h) λv g ⟨x,A,f,u,w⟩=>?_;obtain⟨a,e,⟨xs,hq⟩,q⟩:=w;subst e;cases u
 obtain⟨y,B,p,C⟩:=f.list hq;refine VB p.isList ?_;refine⟨g.heap.objs.size,[g.heap.objs.size],_,_,A,rfl,f.kept λb o e=>WB _ e,Zai a _,⟨_,WN _ rfl,rfl,rfl⟩,λb E=>?_,q⟩;have e:b=g.heap.objs.size:=by grind
 subst e;exact f.fpOk (WG _) (f.hok.fresh<|WG _)
def Ziy(z:PE X l r):PI X tg l (EH X.K r):=by
 intro pins s n H R I h;refine thn (z pins s n H _ I h) λv g ⟨x,A,f,u,w⟩=>?_;obtain⟨a,e,⟨xs,hq⟩,q⟩:=w;subst e;cases u
 obtain⟨y,B,p,C⟩:=f.tuple hq;refine wpAny_pyIter_tuple p ?_;refine⟨g.heap.objs.size,[g.heap.objs.size],_,_,A,rfl,f.kept λb o e=>WB _ e,GF a _,⟨_,WN _ rfl,rfl,rfl⟩,λb E=>?_,q⟩;have e:b=g.heap.objs.size:=by grind
 subst e;exact f.fpOk (WG _) (f.hok.fresh<|WG _)
def OT{g:St}{H}{s}{R}{E}{lo f}{t u v}{tk}(I:Inv X pins g H s)(x:-(2 ^ 62)<=lo)(r:lo<2 ^ 62)(p:-(2 ^ 62)<=f)(n:f<2 ^ 62)(q:R (Itr lo (f-lo).toNat) H):wpAny (model X.prog X.w) X.A (pyIter<|.ref s.heap.objs.size) (PIE X pins g tg R) E {s with heap:=s.heap.push {cls:=.type "range",data:=.fields #[.int lo t,.int f u,.int 1 v]},toks:=tk}:=by
 refine wpAny_pyIter_range (IsRange.new ..) (small_one x r p n) ?_;have h:Inv X pins g H {s with heap:=s.heap.push {cls:=.type "range",data:=.fields #[.int lo t,.int f u,.int 1 v]},toks:=tk}:=I.kept λb o e=>WB _ e
 refine⟨(s.heap.push {cls:=.type "range",data:=.fields #[.int lo t,.int f u,.int 1 v]}).objs.size,[(s.heap.push {cls:=.type "range",data:=.fields #[.int lo t,.int f u,.int 1 v]}).objs.size],_,_,H,rfl,
  h.kept λb o e=>WB _ e,Zkm _ lo (f-lo).toNat,?_,λb l=>?_,q⟩
 ·have z:lo+((0:Nat):Int)*1=lo:=by simp
  have y:(((f-lo).toNat:Nat):Int)-((0:Nat):Int)=Builtin.Range.rangeSize lo f 1:=by rw[rangeSize_one];split<;>lia
  rw[z,y];exact WN _ rfl
 ·have e:b=(s.heap.push {cls:=.type "range",data:=.fields #[.int lo t,.int f u,.int 1 v]}).objs.size:=by simpa using l
  subst e;exact h.fpOk (WG _) (h.hok.fresh<|WG _)
noncomputable def Rk(g:TA):TI:=λb H R=>g b H λf h=>∃j:Int,f=[.int j]/\-(2 ^ 62)<=j/\j<2 ^ 62/\R (Itr 0 j.toNat) h
noncomputable def OV(g:TA):TI:=λb H R=>g b H λf h=>∃i j:Int,f=[.int i,.int j]/\(-(2 ^ 62)<=i/\i<2 ^ 62/\-(2 ^ 62)<=j/\j<2 ^ 62)/\R (Itr i (j-i).toNat) h
def IV(w:Gl X "range")(v:X.mg "range"=none)(x:PA X [a] g)(u:autoParam (starEach [a] X.env=[(false,eval a X.env)]) au_0):PI X tg (.Call (.Name "range" p) [a] [] pos) (Rk g):=by
 intro pins s f H R I h;refine Call_ (SQ I w v boot_range<|Vo (thn (x pos pins s f H _ I h) λA B ⟨z,C,y,n,b⟩=>?_) u rfl);obtain⟨j,e,b,o,q⟩:=b;subst e;cases n with
 |cons r l=>
  cases l
  obtain⟨t,rfl⟩:=r;exact call_range_1 (OT y (by lia) (by lia) b o<|by grind)
def Zql{p pos}(A:Gl X "range")(z:X.mg "range"=none)(B:PA X [a,b] o)(M:autoParam (starEach [a,b] X.env=[(false,eval a X.env),(false,eval b X.env)]) au_0)(l:autoParam (starEach [b] X.env=[(false,eval b X.env)]) au_0) :
  PI X tg (.Call (.Name "range" p) [a,b] [] pos) (OV o):=by
 intro pins s n H R I h;refine Call_ (SQ I A z boot_range<|Vo (thn (B pos pins s n H _ I h) λG L ⟨E,N,C,u,g⟩=>?_) (by grind)<|by rw[l];rfl);obtain⟨i,j,e,⟨g,y,x,w⟩,q⟩:=g;subst e;cases u with
 |cons r f=>
  cases f with
  |cons v f=>
   cases f
   obtain⟨t,rfl⟩:=r;obtain⟨J,rfl⟩:=v;exact call_range_2 (OT C g y x w q)
noncomputable def Ot(o:TI)(g:TG)(p:TS):TS:=λD b H=>o b H λJ r=>∃W:Nat->Nat->St->Hp->Prop,(∃m,W 0 m b r)/\∀i m b H,W i m b H->
 (J.stop i H/\D.nx b H)\/(J.go i H/\∃N:St->Hp->Prop,(∀f h,N f h->∃n,n<m/\W (i+1) n f h)/\∀x h,J.yld i H x h->g x b h λl q=>p {D with nx:=N,ct:=N,bk:=D.nx} l q)
noncomputable def BI(f:List Addr)(h:Heap):Yg:=f.filterMap λb=>(h.get? b).map λo=>(b,o)
def FV{b o}(f:b∈g)(e:h.get? b=some o):(b,o)∈BI g h:=JY.mpr ⟨b,f,by rw[e];rfl⟩
def Zm5(f:p∈BI g h):p.1∈g/\h.get? p.1=some p.2:=by
 obtain⟨b,l,e⟩:=JY.mp f;cases q:h.get? b with
 |_=>grind
def Inv.pinned {f:St}{H}{s}{fp} (I:Inv X pins f H s) (h:∀b∈fp,N7 X pins H b) (n:∀b∈fp,∃o,s.heap.get? b=some o/\∀v,o.data≠.cell v):Inv X (pins++BI fp s.heap) f H s:=
 I.pins_of λp g=>(Qd.mp g).elim (λz=>I.pin p (Qm _ z)) λz=>by
  obtain⟨l,e⟩:=Zm5 z;obtain⟨f0,f1,q,_⟩:=h p.1 l
  grind
def Inv.unpinned {b:St}{H}{s} (I:Inv X (pins++g) b H s):Inv X pins b H s:=I.pins_of λp f=>I.pin p (Qm _<|Ve _ f)
def Zil{wi g tb pos}(M:PassesOwn (model X.prog X.w) X.A X.env X.xe)(hc:X.calm=true)(hi:PI X tg iter wi)(hg:PG X tg g)(y:PSs X body tb)(hs:autoParam (∀x,foldedSetIterable iter X.env x=pure x) au_3):PS X (.For tg iter body [] pos) (Ot wi g tb):=by
 intro pins s σ H D I h;refine wpAny_For (thn (hi pins s σ H _ I h) λv s1 h1=>thn h1 λitv s2 h2=>?_) hs;obtain⟨it,U,tn,J,H2,e,I2,T,st2,f2,W,⟨m0,w0⟩,turn⟩:=h2;subst e;have stat:∀{B:Hp},(∀b∈U,B b=none)->∀b∈U,N7 X pins B b:=λhn b y=>⟨hn b y,(f2 b y).2⟩;refine codeAny_forLoop_any (λn s'=>∃i q B,Inv X pins q B s'/\tn i s'.heap/\(∀b∈U,B b=none)/\W i n q B) ?_ m0 ⟨0,σ,H2,I2,st2,λb y=>(f2 b y).1,w0⟩;rintro n s3 ⟨i,p,Y,I3,L,Q,w3⟩;rcases turn i n p Y w3 with⟨stop,qn⟩|⟨go,N,hN,step⟩
 ·refine Vt M (thn (T.done X rfl rfl rfl hc i pins s3 p Y X.xe I3 (stat Q) L stop) ?_);rintro r s4 ⟨hr,I4⟩;subst hr;exact JE ⟨p,Y,I4,qn⟩
 ·refine Vt M (thn (T.item X rfl rfl rfl hc i pins s3 p Y X.xe I3 (stat Q) L go) ?_);rintro r s4 ⟨u,hr,h4⟩;subst hr;refine Vt M (thn h4 ?_);rintro _ s5 ⟨x,H5,I5,r5,y5,E,fr5⟩;refine Vt M (thn (hg _ s5 p H5 x u _ (I5.pinned (stat fr5)<|T.obj _ _ E) r5<|step x H5 y5) ?_);rintro _ s6 ⟨σ6,H6,I6,q6⟩;refine Vt M (thn (y _ s6 σ6 H6 _ I6 q6) λf s7 G=>?_)
  have again:∀{l:St} {z:Hp},Inv X (pins++BI U s5.heap) l z s7->N l z->∃m,m<n/\∃i q B,Inv X pins q B s7/\tn i s7.heap/\(∀b∈U,B b=none)/\W i m q B:=λ{l z} C n7=>by
   obtain⟨m',hm,w7⟩:=hN l z n7;refine⟨m',hm,i+1,l,z,C.unpinned,T.keep _ _ _ E λb y o e=>(C.pin (b,o)<|Qm _<|Qm _<|FV y e).1,λb y=>?_,w7⟩;obtain⟨o,e,d⟩:=T.obj _ _ E b y;exact(C.pin (b,o)<|Qm _<|Qm _<|FV y e).2.1
  cases f with
  |brk=>obtain⟨l,z,C,G⟩:=G;exact⟨l,z,C.unpinned,G⟩
  |ret v=>obtain⟨x7,l,z,C,r7,G⟩:=G;exact⟨x7,l,z,C.unpinned,r7,G⟩
  |_=>obtain⟨l,z,C,n7⟩:=G;exact again C n7
end
abbrev R2:=V->V->Hp->VK->Prop
def OpR(X:Cx)(f:Value->Value->Sem Value)(r:R2):Prop:=
 ∀(pins:Yg) (s:Shared) (b:St) (H:Hp) (x y:V) (v u:Value) (Q:VK),Inv X pins b H s->RelV x v->RelV y u->r x y H Q->
  wpAny (model X.prog X.w) X.A (f v u) (EP X pins b Q) X.xe s
def UnR(X:Cx)(f:Value->Sem Value)(r:V->Hp->VK->Prop):Prop:=
 ∀(pins:Yg) (s:Shared) (b:St) (H:Hp) (x:V) (v:Value) (Q:VK),Inv X pins b H s->RelV x v->r x H Q->
  wpAny (model X.prog X.w) X.A (f v) (EP X pins b Q) X.xe s
def K8(X:Cx)(f:Value)(r:List V->Hp->VK->Prop):Prop:=
 ∀(pins:Yg) (s:Shared) (b:St) (H:Hp) (xs:List V) (g:Yl) (Q:VK),Inv X pins b H s->Vals xs g->r xs H Q->
  wpAny (model X.prog X.w) X.A (call f g) (EP X pins b Q) X.xe s
def Zb2(X:Cx)(r:V->Hp->(Bool->Hp->Prop)->Prop):Prop:=
 ∀(pins:Yg) (s:Shared) (b:St) (H:Hp) (x:V) (v:Value) (Q:Bool->Hp->Prop),Inv X pins b H s->RelV x v->r x H Q->
  wpAny (model X.prog X.w) X.A (truthy v) (TP X pins b Q) X.xe s
noncomputable def tOp(r:R2)(g f:TE):TE:=λb H Q=>g b H λx l=>f b l λy h=>r x y h Q
noncomputable def tUn(r:V->Hp->VK->Prop)(f:TE):TE:=λb H Q=>f b H λx g=>r x g Q
noncomputable def rI(C:Int->Int->Prop)(g:Int->Int->V):R2:=λx y H Q=>∃i j,x=.int i/\y=.int j/\C i j/\Q (g i j) H
noncomputable def rI0(g:Int->Int->V):R2:=λx y H Q=>∃i j,x=.int i/\y=.int j/\Q (g i j) H
def rU(g:Int->V):V->Hp->VK->Prop:=λx H Q=>∃i,x=.int i/\Q (g i) H
section
variable {X:Cx}{a b c:Expr}{ta tb tc:TE}{pos:Pos}
def Es(C:PE X a ta)(B:PE X b tb){pins}{s}{g:St}{H}{R:V->V->Hp->Prop}(I:Inv X pins g H s)(h:ta g H λx q=>tb g q λy o=>R x y o){Q}{f:Value->Value->Sem Value}(M:∀v u p x y o,Inv X pins g o p->RelV x v->RelV y u->R x y o->wpAny (model X.prog X.w) X.A (f v u) Q X.xe p) :
  wpAny (model X.prog X.w) X.A (eval a X.env) (λv n=>wpAny (model X.prog X.w) X.A (eval b X.env) (λu l=>wpAny (model X.prog X.w) X.A (f v u) Q X.xe l) X.xe n) X.xe s:=by
 refine thn (C pins s g H _ I h) λv r ⟨x,q,E,J,z⟩=>?_;refine thn (B pins r g q _ E z) λu p ⟨y,o,N,G,L⟩=>?_
 grind
def Pq(p:OpR X (binaryOp o) r)(z:PE X a ta)(w:PE X b tb):PE X (.BinOp a o b pos) (tOp r ta tb):=by
 intro pins s f H Q I h;exact wpAny_BinOp (Es z w I h λv u g x y B A n l q=>p pins g f B x y v u Q A n l q)
def NU(p:UnR X (unaryOp o) r)(q:PE X a ta):PE X (.UnaryOp o a pos) (tUn r ta):=by
 intro pins s f H Q I h;exact UnaryOp_ (thn (q pins s f H _ I h) λv g ⟨x,w,u,l,n⟩=>p pins g f w x v Q u l n)
def opI{C}{g:Int->Int->Int}(rule:∀i j t u s Q E,C i j->Q (.int (g i j) s.toks) {s with toks:=s.toks+1}->wpAny (model X.prog X.w) X.A (f (.int i t)<|.int j u) Q E s) :
  OpR X f (rI C λi j=>.int (g i j)):=by
 intro pins s r H x y v u Q I o n h;obtain⟨i,j,rfl,rfl,p,q⟩:=h;obtain⟨t,rfl⟩:=o;obtain⟨l,rfl⟩:=n;exact rule i j t l s _ _ p ⟨.int (g i j),H,I.tok _,⟨_,rfl⟩,q⟩
def Hk{g:Int->Int->Int}(rule:∀i j t u s Q E,Q (.int (g i j) s.toks) {s with toks:=s.toks+1}->wpAny (model X.prog X.w) X.A (f (.int i t)<|.int j u) Q E s) :
  OpR X f (rI0 λi j=>.int (g i j)):=by
 intro pins s p H x y v u Q I o n h;obtain⟨i,j,rfl,rfl,q⟩:=h;obtain⟨t,rfl⟩:=o;obtain⟨l,rfl⟩:=n;exact rule i j t l s _ _ ⟨.int (g i j),H,I.tok _,⟨_,rfl⟩,q⟩
def Cp{g:Int->Int->Bool}(rule:∀i j t u s Q E,Q (.bool<|g i j) s->wpAny (model X.prog X.w) X.A (f (.int i t)<|.int j u) Q E s) :
  OpR X f (rI0 λi j=>.bl (g i j)):=by
 intro pins s p H x y v u Q I o n h;obtain⟨i,j,rfl,rfl,q⟩:=h;obtain⟨t,rfl⟩:=o;obtain⟨l,rfl⟩:=n;exact rule i j t l s _ _ ⟨.bl (g i j),H,I,rfl,q⟩
def Er(i j:Int):Prop:=0<j/\j<1073741824
def CMul(i j:Int):Prop:=(-(2 ^ 64)<i/\i<2 ^ 64)\/(-(2 ^ 64)<j/\j<2 ^ 64)
def CMul.ok (h:CMul i j):IntMulOk i j:=by
 rcases h with⟨g,f⟩|⟨g,f⟩
 ·exact .of_left (intBits_le_64 g f)
 ·exact .of_right (intBits_le_64 g f)
def K0:OpR X (binaryOp .Add) (rI0 λi j=>.int (i+j)):=Hk λ_ _ _ _ _ _ _ q=>add_int q
def P9:OpR X (binaryOp .Sub) (rI0 λi j=>.int (i-j)):=Hk λ_ _ _ _ _ _ _ q=>sub_int q
def NA:OpR X (binaryOp .Mult) (rI CMul λi j=>.int (i*j)):=opI λ_ _ _ _ _ _ _ f q=>mul_int q f.ok
def Ts:OpR X (binaryOp .FloorDiv) (rI Er λi j=>.int (i / j)):=opI λi j _ _ _ _ _ f q=>by
 have h:=f.1;have g:=f.2;exact floordiv_int (by lia) (by rw[Int.fdiv_eq_ediv_of_nonneg i (by lia)];exact q) (.inl<|PyProof.noPylong_small<|by lia)
def KG:OpR X (binaryOp .Mod) (rI (λ_ j=>0<j) λi j=>.int (i % j)):=opI λi j _ _ _ _ _ f q=>by
 exact mod_int' (by lia) (by grind)
def unI{g:Int->Int}(rule:∀i t s Q E,Q (.int (g i) s.toks) {s with toks:=s.toks+1}->wpAny (model X.prog X.w) X.A (f<|.int i t) Q E s) :
  UnR X f (rU λi=>.int (g i)):=by
 intro pins s n H x v Q I l h;obtain⟨i,rfl,q⟩:=h;obtain⟨t,rfl⟩:=l;exact rule i t s _ _ ⟨.int (g i),H,I.tok _,⟨_,rfl⟩,q⟩
def NO:UnR X (unaryOp .USub) (rU λi=>.int (-i)):=unI λ_ _ _ _ _ q=>neg_int q
end
noncomputable def RK:V->V->Bool
 | .non,.non=>true | .non,.int _=>true | .int _,.non=>true | .non,.bl _=>true | .bl _,.non=>true | .non,.str _=>true | .str _,.non=>true
 | .int _,.int _=>true | .bl _,.bl _=>true | .str _,.str _=>true | .byt _,.byt _=>true
 | .int _,.str _=>true | .str _,.int _=>true | .bl _,.str _=>true | .str _,.bl _=>true
 |_,_=>false
noncomputable def rEq:R2:=λx y H Q=>RK x y=true/\Q (.bl<|decide (x=y)) H
noncomputable def rNe:R2:=λx y H Q=>RK x y=true/\Q (.bl (!decide (x=y))) H
def Rb{i j:Int}:decide (V.int i=V.int j)=(i==j):=by
 rw[V7];simp
def Gm{i j:Bool}:decide (V.bl i=V.bl j)=(i==j):=by
 rw[V7];simp
def Zad{i j:Str}:decide (V.str i=V.str j)=(i==j):=by
 rw[V7];simp
def Ha{i j:Array UInt8}:decide (V.byt i=V.byt j)=(i.toList==j.toList):=by
 rw[V7];cases i
 cases j
 simp
section
variable {X:Cx}{a b c:Expr}{ta tb tc:TE}{pos:Pos}
def Ko{f:St}{H}{s}{Q}{k g}(I:Inv X pins f H s)(q:Q (.bl k) H)(e:k=g):EP X pins f Q (.bool g) s:=by
 subst e;exact⟨.bl k,H,I,rfl,q⟩
def op_eq:OpR X (compareOp .Eq) rEq:=by
 intro pins s o H x y v u Q I n f h;obtain⟨l,q⟩:=h;cases x with
 |non=>
  cases n
  cases y with
  |non=>cases f;exact PySem.EqNone.eq_none_none (Ko I q<|by simp)
  |bl j=>cases f;exact PySem.EqNone.eq_none_bool (Ko I q<|by simp)
  |int j=>obtain⟨g,rfl⟩:=f;exact PySem.EqNone.eq_none_int (Ko I q<|by simp)
  |str j=>obtain⟨g,rfl⟩:=f;exact PySem.EqNone.eq_none_str (Ko I q<|by simp)
  |_=>exact absurd l WZ
 |bl i=>
  cases n
  cases y with
  |non=>cases f;exact PySem.EqNone.eq_bool_none (Ko I q<|by simp)
  |bl j=>cases f;exact eq_bool (Ko I q Gm)
  |str j=>obtain⟨g,rfl⟩:=f;exact PySem.EqMixed.eq_bool_str (Ko I q<|by simp)
  |_=>exact absurd l WZ
 |int i=>
  obtain⟨t,rfl⟩:=n;cases y with
  |non=>cases f;exact PySem.EqNone.eq_int_none (Ko I q<|by simp)
  |int j=>obtain⟨g,rfl⟩:=f;exact eq_int (Ko I q Rb)
  |str j=>obtain⟨g,rfl⟩:=f;exact PySem.EqMixed.eq_int_str (Ko I q<|by simp)
  |_=>exact absurd l WZ
 |str i=>
  obtain⟨t,rfl⟩:=n;cases y with
  |non=>cases f;exact PySem.EqNone.eq_str_none (Ko I q<|by simp)
  |bl j=>cases f;exact PySem.EqMixed.eq_str_bool (Ko I q<|by simp)
  |int j=>obtain⟨g,rfl⟩:=f;exact PySem.EqMixed.eq_str_int (Ko I q<|by simp)
  |str j=>obtain⟨g,rfl⟩:=f;exact eq_str (Ko I q Zad)
  |_=>exact absurd l WZ
 |byt i=>
  obtain⟨t,rfl⟩:=n;cases y with
  |byt j=>obtain⟨g,rfl⟩:=f;exact PySem.W.eq_bytes (Ko I q Ha)
  |_=>exact absurd l WZ
 |_=>cases y<;>exact absurd (show false=true from l) WZ
def op_ne:OpR X (compareOp .NotEq) rNe:=by
 intro pins s o H x y v u Q I n f h;obtain⟨l,q⟩:=h;cases x with
 |non=>
  cases n
  cases y with
  |non=>cases f;exact PySem.EqNone.ne_none_none (Ko I q<|by simp)
  |bl j=>cases f;exact PySem.EqNone.ne_none_bool (Ko I q<|by simp)
  |int j=>obtain⟨g,rfl⟩:=f;exact PySem.EqNone.ne_none_int (Ko I q<|by simp)
  |str j=>obtain⟨g,rfl⟩:=f;exact PySem.EqNone.ne_none_str (Ko I q<|by simp)
  |_=>exact absurd l WZ
 |bl i=>
  cases n
  cases y with
  |non=>cases f;exact PySem.EqNone.ne_bool_none (Ko I q<|by simp)
  |bl j=>cases f;exact ne_bool (Ko I q<|Qs not Gm)
  |str j=>obtain⟨g,rfl⟩:=f;exact PySem.EqMixed.ne_bool_str (Ko I q<|by simp)
  |_=>exact absurd l WZ
 |int i=>
  obtain⟨t,rfl⟩:=n;cases y with
  |non=>cases f;exact PySem.EqNone.ne_int_none (Ko I q<|by simp)
  |int j=>obtain⟨g,rfl⟩:=f;exact ne_int (Ko I q<|Qs not Rb)
  |str j=>obtain⟨g,rfl⟩:=f;exact PySem.EqMixed.ne_int_str (Ko I q<|by simp)
  |_=>exact absurd l WZ
 |str i=>
  obtain⟨t,rfl⟩:=n;cases y with
  |non=>cases f;exact PySem.EqNone.ne_str_none (Ko I q<|by simp)
  |bl j=>cases f;exact PySem.EqMixed.ne_str_bool (Ko I q<|by simp)
  |int j=>obtain⟨g,rfl⟩:=f;exact PySem.EqMixed.ne_str_int (Ko I q<|by simp)
  |str j=>obtain⟨g,rfl⟩:=f;exact ne_str (Ko I q<|Qs not Zad)
  |_=>exact absurd l WZ
 |byt i=>
  obtain⟨t,rfl⟩:=n;cases y with
  |byt j=>obtain⟨g,rfl⟩:=f;exact PySem.W.ne_bytes (Ko I q<|Qs not Ha)
  |_=>exact absurd l WZ
 |_=>cases y<;>exact absurd (show false=true from l) WZ
def NR:OpR X (compareOp .Lt) (rI0 λi j=>.bl (decide (i<j))):=Cp λ_ _ _ _ _ _ _ q=>lt_int q
def Tp:OpR X (compareOp .Gt) (rI0 λi j=>.bl (decide (j<i))):=Cp λ_ _ _ _ _ _ _ q=>gt_int q
def BM:OpR X (compareOp .GtE) (rI0 λi j=>.bl (decide (j<=i))):=Cp λ_ _ _ _ _ _ _ q=>ge_int q
def OpR.or (h:OpR X f r) (p:OpR X f o):OpR X f (λx y H Q=>r x y H Q\/o x y H Q):=by
 intro pins s g H x y v u Q I n l q;rcases q with q|q
 ·exact h pins s g H x y v u Q I n l q
 ·exact p pins s g H x y v u Q I n l q
def Po(b:Expr){op}(h:autoParam (op≠.In) au_1)(l:autoParam (op≠.NotIn) au_1):behindInMarks op b=false:=by
 have g:(op==CmpOp.In)=false:=by grind
 have f:(op==CmpOp.NotIn)=false:=by grind
 cases b<;>simp[behindInMarks,g,f]
def PK(p:OpR X (compareOp f) r)(A:PE X a ta)(z:PE X b tb)(w:behindInMarks f b=false):PE X (.Compare a [f] [b] pos) (tOp r ta tb):=by
 intro pins s g H Q I h;exact wpAny_Compare1 (Es A z I h λv u l x y C B o n q=>p pins l g C x y v u Q B o n q) w
noncomputable def F5(t:TE):TT:=λf H Q=>t f H λx g=>∃k,x=.bl k/\Q k g
def Nj(C:OpR X (compareOp g) r)(J:PE X a ta)(G:PE X b tb)(E:behindInMarks g b=false):PT X (.Compare a [g] [b] pos) (F5<|tOp r ta tb):=by
 intro pins s f H Q I h
 refine wpAny_isTrue_Compare1 (thn (J pins s f H _ I h) λv n ⟨x,Y,N,q,B⟩=>thn (G pins n f Y _ N B) λu l ⟨y,U,M,p,A⟩=>
  thn (C pins l f U x y v u _ M q p A) λc s3 ⟨z,T,L,o,k,e,w⟩=>?_) E
 subst e;cases o
 exact Vg ⟨T,L,w⟩
def AU(K:Yd)(x:V)(H:Hp)(k:Bool):Prop:=
 match x with
 | .non=>k=false
 | .bl b=>k=b
 | .int i=>k=(i != 0)
 | .str y=>y.length<=sizeLine/\k=((y.length:Int) != 0)
 | .byt y=>y.size<=sizeLine/\k=((y.size:Int) != 0)
 | .ref p=>(∃xs,SqL K H p xs/\k=!xs.isEmpty)\/(∃xs,SqT K H p xs/\k=!xs.isEmpty)\/∃f,H p=some (.dK f)/\k=!f.isEmpty
 |_=>False
def Zoh(r:KV f vs):(!vs.isEmpty)=!f.isEmpty:=by
 cases r<;>rfl
def Ip(r:Vals xs f):(!f.toArray.isEmpty)=!xs.isEmpty:=by
 cases r<;>simp
def Fb:(sizeLine:Nat)<2 ^ 63:=by trivial
def Zdc:Zb2 X (λx H Q=>∃k,AU X.K x H k/\Q k H):=by
 intro pins s B H x v Q I l h;obtain⟨k,e,q⟩:=h;have G:=Fb;have E:=JW;cases x with
 |non=>
  cases l
  have f:=e;subst f;exact truthy_none ⟨H,I,q⟩
 |bl b=>
  cases l
  have f:=e;subst f;exact Vg ⟨H,I,q⟩
 |int i=>
  obtain⟨t,rfl⟩:=l;have f:=e;subst f;exact PySem.P.truthy_int ⟨H,I,q⟩
 |str y=>
  obtain⟨t,rfl⟩:=l;obtain⟨z,f⟩:=e;subst f;exact PySem.P.truthy_str (by lia) ⟨H,I.tok _,q⟩
 |byt y=>
  obtain⟨t,rfl⟩:=l;obtain⟨z,f⟩:=e;subst f;exact PySem.W.truthy_bytes (by lia) ⟨H,I.tok _,q⟩
 |ref p=>
  cases l
  have f:=e;rcases f with⟨xs,hx,f⟩|⟨xs,hx,f⟩|⟨w,hx,f⟩
  ·subst f;obtain⟨o,r,n,u⟩:=I.list hx;have g:=r.length;exact wpAny_truthy_list n.isList (by simp only[Qo];lia) ⟨H,I.tok _,by rw[Ip r];exact q⟩
  ·subst f;obtain⟨o,r,n,u⟩:=I.tuple hx;have g:=r.length;exact truthy_tuple n (by simp only[Qo];lia) ⟨H,I.tok _,by rw[Ip r];exact q⟩
  ·subst f;obtain⟨u,A,C,r,m⟩:=I.hok p _ hx;have g:=Paired.length r;exact wpAny_truthy_dict A m (by lia) ⟨H,I.tok _,by rw[Zoh r];exact q⟩
 |_=>exact e.elim
def Zob(p:PE X a ta)(o:∀whole,isTrue a X.env whole=(do let v ←whole;standAt a.pos;holding [v] (truthy v))) :
  PT X a (λf H Q=>ta f H λx H'=>∃k,AU X.K x H' k/\Q k H'):=by
 intro pins s f H Q I h;exact isTrue_plain (thn (p pins s f H _ I h) λv g ⟨x,r,q,l,n⟩=>Zdc pins g f r x v Q q l n) (o _)
def Sl:OpR X (binaryOp .Add) (λx y H Q=>∃i j,x=.str i/\y=.str j/\i.length+j.length<=sizeLine/\Q (.str (i++j)) H):=by
 intro pins s o H x y v u Q I l g h;obtain⟨i,j,rfl,rfl,n,q⟩:=h;obtain⟨t,rfl⟩:=l;obtain⟨f,rfl⟩:=g;exact add_str (λf p=>⟨.str (i++j),H,I.tok _,⟨_,rfl⟩,q⟩) n
def vals1(r:Vals [x] us):∃u,us=[u]/\RelV x u:=by
 cases r with
 |cons g f=>cases f;exact⟨_,rfl,g⟩
def vals2(r:Vals [x,y] us):∃u f,us=[u,f]/\RelV x u/\RelV y f:=by
 cases r with
 |cons n l=>
  cases l with
  |cons h g=>cases g;exact⟨_,_,rfl,n,h⟩
def Zf9(g:X.calm=true):K8 X (.builtin "max") (λxs H Q=>∃i j,xs=[.int i,.int j]/\Q (.int (if j>i then j else i)) H):=by
 intro pins s l H xs o Q I r h;obtain⟨i,j,rfl,q⟩:=h;obtain⟨u,n,rfl,⟨t,rfl⟩,⟨v,rfl⟩⟩:=vals2 r;refine max_two_ints (I.ok.hd g) λw p k=>⟨_,H,I.kept k,?_,q⟩;by_cases f:j>i
 ·rw[WK f,WK f];exact⟨_,rfl⟩
 ·rw[WI f,WI f];exact⟨_,rfl⟩
def Zau:K8 X (.type "int") (λxs H Q=>(∃i,xs=[.int i]/\Q (.int i) H)\/∃k,xs=[.bl k]/\Q (.int (if k then 1 else 0)) H):=by
 intro pins s g H xs l Q I r h;rcases h with⟨i,rfl,q⟩|⟨k,rfl,q⟩
 ·obtain⟨u,rfl,t,rfl⟩:=vals1 r;exact call_int_int ⟨.int i,H,I,⟨_,rfl⟩,q⟩
 ·obtain⟨u,rfl,f⟩:=vals1 r;cases f
  exact call_int_bool ⟨.int (if k then 1 else 0),H,I.tok _,⟨_,rfl⟩,q⟩
def Ta:K8 X (.type "str") (λxs H Q=>∃i,xs=[.int i]/\i.natAbs.log2<1920/\Q (.str<|toString i) H):=by
 intro pins s g H xs l Q I r h;obtain⟨i,rfl,f,q⟩:=h;obtain⟨u,rfl,t,rfl⟩:=vals1 r;exact PySem.P.str_of_int f ⟨.str _,H,I.tok _,⟨_,rfl⟩,q⟩
def FT(K:Yd)(x:V)(H:Hp)(n:Nat):Prop:=
 match x with
 | .str y=>y.length<=sizeLine/\n=y.length
 | .byt y=>y.size<=sizeLine/\n=y.size
 | .ref p=>(∃xs,SqL K H p xs/\n=xs.length)\/∃xs,SqT K H p xs/\n=xs.length
 |_=>False
def Zca:K8 X (.builtin "len") (λxs H Q=>∃x n,xs=[x]/\FT X.K x H n/\Q (.int n) H):=by
 intro pins s B H xs C Q I r h;obtain⟨x,n,rfl,e,q⟩:=h;obtain⟨u,rfl,l⟩:=vals1 r;have E:=JW;cases x with
 |str y=>
  obtain⟨t,rfl⟩:=l;obtain⟨A,g⟩:=e;subst g;exact len_str (by lia) ⟨.int _,H,I.tok _,⟨_,rfl⟩,q⟩
 |byt y=>
  obtain⟨t,rfl⟩:=l;obtain⟨A,g⟩:=e;subst g;exact PySem.W.len_bytes (by lia) ⟨.int _,H,I.tok _,⟨_,rfl⟩,q⟩
 |ref p=>
  cases l
  have g:=e;rcases g with⟨xs,hx,g⟩|⟨xs,hx,g⟩
  ·subst g;obtain⟨w,o,v,z⟩:=I.list hx;have f:=o.length;exact Calls.call_len_list v.isList (by simp only[Qo];lia) ⟨.int xs.length,H,I.tok _,⟨_,by simp only[Qo];rw[f]⟩,q⟩
  ·subst g;obtain⟨w,o,v,z⟩:=I.tuple hx;have f:=o.length;exact len_tuple v (by simp only[Qo];lia) ⟨.int xs.length,H,I.tok _,⟨_,by simp only[Qo];rw[f]⟩,q⟩
 |_=>exact e.elim
end
structure NF (h:Heap) (x dx C:Addr) (mA:Yh):Prop where
 obj:h.get? x=some (PySem.W.instObj C dx)
 ns:h.Ns1 dx mA
 ne:dx≠x
def Zmf{h:Heap}{dx}{mA}(n:h.Ns1 dx mA):∃f,h.get? dx=some f/\∀name,PySem.W.lookIn name f=some (mA name):=by
 obtain⟨o,u,v,l,s,r,_,p⟩:=n;refine⟨o,l,λname=>?_⟩;have e:=p name;unfold nsFind findBy at e;unfold PySem.W.lookIn;rw[s]
 dsimp only
 split
 ·grind
 ·rename_i q
  have a:u.toList.any (·.refKey)=false:=by
   rw[List.any_eq_false];intro y g;obtain⟨z,t,b⟩:=r y (Array.mem_toList_iff.mp g);simp[DictEntry.refKey,b]
  grind
def NF.look (I:NF h x n C f):∃b,PySem.W.InstAt h x (PySem.W.instObj C n) C (some b)/\∀name,PySem.W.lookIn name b=some (f name):=
 let ⟨b,g,l⟩:=Zmf I.ns
 ⟨b,⟨I.obj,rfl,rfl,g⟩,l⟩
section
variable {prog:Program}{w:World}{A:Around}{E:Yi}{s:Shared}{K:Yd}{x dx C f:Addr}{mA:Yh}{name:Str}{v:Value}
def Zj2{Q}(X:K.In s.heap)(I:NF s.heap x dx C mA)(l:PySem.W.plainGet K C name=true)(g:PySem.W.hasDictIn K C=true)(n:PySem.W.findIn K (.ref C) name=some none)(p:mA name=some v)(b:PySem.W.handedIn v=true)(h:Q v {s with toks:=s.toks+1}) :
  wpAny (model prog w) A (getAttr (.ref x) name expr) Q E s:=by
 obtain⟨o,J,q⟩:=I.look;exact PySem.W.get_value X J (JM l).1 (PySem.W.findObj_own g n rfl<|by grind) b h
def Zd3{Q}(X:K.In s.heap)(I:NF s.heap x dx C mA)(b:PySem.W.plainGet K C name=true)(p:PySem.W.findIn K (.ref C) name=some (some<|.ref f))(n:PySem.W.isFn K (.ref f)=true)(l:mA name=none)(h:Q (.ref f,[.ref x]) s) :
  wpAny (model prog w) A (getMethod (.ref x) name q) Q E s:=by
 obtain⟨g,J,o⟩:=I.look;exact PySem.W.method_fn X J (JM b).1 (JM b).2 p (beq_iff_eq.mp n) (by show(PySem.W.lookIn name g).map (·.isSome)=some false;rw[o,l];rfl) h
def Zdg(X:K.In s.heap)(I:NF s.heap x dx C mA)(z:PySem.W.findIn K (.ref C) "__setattr__"=some (some<|.builtin "object.__setattr__"))(B:PySem.W.plainOver K C=true)(u:PySem.W.takerIn K C name=some none)(G:PySem.W.hasDictIn K C=true)(hw:PySem.Within mA ns)(hsz:ns.length<=sizeLine)(h:∀n,NF n x dx C (λy=>if y=name then some v else mA y)->Heap.SameBut dx s.heap n->Q () {s with heap:=n,toks:=s.toks+2}) :
  wpAny (model prog w) A (setAttr (.ref x) name v) Q E s:=by
 obtain⟨N,J,U⟩:=I.look;refine PySem.W.set_plain X J z (PySem.W.osa_open X J B u λb=>?_);obtain⟨Y,H,q⟩:=PySem.W.any_some G;refine W8 (WD<|W8<|W8<|wpAny_loadPart I.obj<|W8<|JZ (JN X H) ?_);rw[q];refine WD (W8<|WD<|W8 ?_);refine wpAny_nsSet1 I.ns λn l g=>?_;obtain⟨T,L,M,o,p,r⟩:=l.count (PySem.Within.cons name v hw);refine W8 (wpAny_lookBehind o (by rw[p];exact pastItsLine_dict (WQ r<|by grind)) ?_);exact WD (h _ ⟨(g.2 _<|Ne.symm I.ne).trans I.obj,l,I.ne⟩ g)
def Zkg{vs b}(X:K.In s.heap)(g:PySem.W.makesIn K C=true)(l:PySem.W.findIn K (.ref C) "__init__"=some (some<|.ref f))(n:PySem.W.typeIn K (.ref f)=some (.type "function"))
  (h:codeAny (model prog w) (A.under<|.builtin "type.__call__" ⟨.ref C::vs,b⟩) (.call (.ref f) ⟨.ref (s.heap.objs.size+1)::vs,b⟩) (PySem.W.InitBack (s.heap.objs.size+1) R)
   {s with heap:=(s.heap.push PySem.W.emptyDict).push (PySem.W.instObj C s.heap.objs.size)}) :
  codeAny (model prog w) A (.call (.ref C) ⟨vs,b⟩) R s:=PySem.W.make_core (PySem.W.makes_of X g) (PySem.W.looks_findIn X l) (λself=>PySem.W.bind_fn X self n) (.inl rfl) h
end
noncomputable def KS(f:Str)(v:V):List (Str×V)->List (Str×V)
 |[]=>[(f,v)]
 |(g,x)::r=>if g=f then(g,v)::r else(g,x)::KS f v r
theorem LK(f g:Str)(v:V):∀fs,(KS f v fs).lookup g=if g=f then some v else fs.lookup g
 |[]=>by
  show List.lookup g [(f,v)]=_;by_cases h:g=f
  ·have b:=beq_iff_eq.mpr h;simp only[List.lookup,b,WK h]
  ·have b:=QW.mpr h;simp only[List.lookup,b,WI h]
 |(k,x)::r=>by
  rw[show KS f v ((k,x)::r)=(if k=f then(k,v)::r else(k,x)::KS f v r)from rfl]
  by_cases l:k=f
  ·rw[WK l];by_cases h:g=k
   ·simp_all
   ·have b:=QW.mpr h;simp only[List.lookup,b,WI (λe:g=f=>h (e.trans l.symm))]
  ·rw[WI l];by_cases h:g=k
   ·simp_all
   ·have b:=QW.mpr h;simp only[List.lookup,b];exact(LK f g v r)
theorem Gc(f:Str)(v:V):∀fs,f∈(KS f v fs).map (·.1)/\∀g,g∈fs.map (·.1)->g∈(KS f v fs).map (·.1)
 |[]=>⟨by simp[KS],λg h=>by simp at h⟩
 |(k,x)::r=>by
  obtain⟨l,b⟩:=Gc f v r;rw[show KS f v ((k,x)::r)=(if k=f then(k,v)::r else(k,x)::KS f v r)from rfl]
  by_cases n:k=f
  ·grind
  ·grind
theorem Rz(f:Str)(v:V):∀fs,(KS f v fs).length<=fs.length+1
 |[]=>by simp[KS]
 |(k,x)::r=>by
  have b:=Rz f v r;rw[show KS f v ((k,x)::r)=(if k=f then(k,v)::r else(k,x)::KS f v r)from rfl]
  by_cases g:k=f
  ·grind
  ·grind
def RelO.some_of (r:RelO (some v) o):∃u,o=some u/\RelV v u:=by
 cases o with
 |none=>trivial
 |some u=>exact⟨u,rfl,r⟩
def RelO.none_of (r:RelO none o):o=none:=by
 cases o with
 |none=>rfl
 |some u=>trivial
def Zf5(r:RelV v u):PySem.W.handedIn u=true:=by
 cases v with
 |non|bl b|ref a|ty n=>cases r;rfl
 |_=>obtain⟨t,e⟩:=r;cases e;rfl
section
variable {P:Program}{w:World}{H H':Hp}{h h':Heap}{a C dx:Addr}{fs fs':List (Str×V)}
def F7(g:HOk P w H h)(e:H a=some (.ins C dx fs)):∃b,NF h a dx C b/\(∀f,RelO (fs.lookup f) (b f))/\PySem.Within b (fs.map (·.1))/\fs.length<=1000/\H dx=some (.own a):=by
 obtain⟨d,z,o,l,b,n,r,q⟩:=(g a _ e);exact⟨b,⟨l,n,o⟩,r,q,z,d⟩
end
structure Cls (K:Yd) (C:Addr):Prop where
 pg:PySem.W.plainGet K C Str.empty=true
 hd:PySem.W.hasDictIn K C=true
 po:PySem.W.plainOver K C=true
 sa:PySem.W.findIn K (.ref C) "__setattr__"=some (some<|.builtin "object.__setattr__")
def Cls.get {K C} (c:Cls K C) (f:Str):PySem.W.plainGet K C f=true:=c.pg
def NoAttr(K:Yd)(C:Addr)(f:Str):Prop:=PySem.W.findIn K (.ref C) f=some none
def NoAttr.taker {K C f} (n:NoAttr K C f):PySem.W.takerIn K C f=some none:=by
 unfold PySem.W.takerIn;rw[show PySem.W.findIn K (.ref C) f=some none from n]
 rfl
structure Ku (K:Yd) (C:Addr) (m:Str) (f:Addr):Prop where
 at_:PySem.W.findIn K (.ref C) m=some (some<|.ref f)
 fn:PySem.W.isFn K (.ref f)=true
 kp:PySem.W.keepIn K (.ref f)=true
section
variable {X:Cx}{pins:Yg}{σ:St}{H:Hp}{s:Shared}{a C dx:Addr}{fs:List (Str×V)}{f:Str}{v:V}{A:Around}{E:Yi}
def Zfm{Q}(I:Inv X pins σ H s)(e:H a=some (.ins C dx fs))(c:Cls X.K C)(n:NoAttr X.K C f)(l:fs.lookup f=some v)(h:∀u g,Inv X pins σ H g->RelV v u->Q u g):wpAny (model X.prog X.w) A (getAttr (.ref a) f b) Q E s:=by
 obtain⟨q,O,r,_,_,_⟩:=F7 I.hok e;obtain⟨u,p,o⟩:=RelO.some_of (by rw[←l];exact r f);exact Zj2 I.kIn O (c.get f) c.hd n p (Zf5 o) (h u _ (I.tok _) o)
def AH{Q}(I:Inv X pins σ H s)(e:H a=some (.ins C dx fs))(c:Cls X.K C)(k:Ku X.K C m g)(l:fs.lookup m=none)(h:Q (.ref g,[.ref a]) s):wpAny (model X.prog X.w) A (getMethod (.ref a) m b) Q E s:=by
 obtain⟨n,O,r,_,_,_⟩:=F7 I.hok e;exact Zd3 I.kIn O (c.get m) k.at_ k.fn (RelO.none_of<|by rw[←l];exact r m) h
def Zma(I:Inv X pins σ H s)(e:H a=some (.ins C dx fs))(c:Cls X.K C)(n:NoAttr X.K C f)(hl:fs.length<1000)(J:RelV y u)(h:∀x,Inv X pins σ (upd H a<|.ins C dx<|KS f y fs) x->Q () x):wpAny (model X.prog X.w) A (setAttr (.ref a) f u) Q E s:=by
 obtain⟨L,O,r,p,_,B⟩:=F7 I.hok e;have M:(fs.map (·.1)).length<=sizeLine:=by rw[W9,JW];lia
 refine Zdg I.kIn O c.sa c.po n.taker c.hd p M λY l G=>h _ ?_;have T:∃o,Y.get? dx=some o:=let ⟨o,_,_,e',_⟩:=l.ns;⟨o,e'⟩;refine I.write (by rw[e];exact True.intro) (.inr B) (λb q U z=>(G.2 b U).trans z) T ?_;refine⟨by rw[XM O.ne];exact B,?_,O.ne,l.obj,_,l.ns,λg=>?_,λg N=>?_⟩
 ·have:=Rz f y fs;lia
 ·show RelO ((KS f y fs).lookup g) (if g=f then some u else L g);rw[LK];by_cases q:g=f
  ·rw[WK q,WK q];exact J
  ·grind
 ·by_cases q:g=f
  ·rw[q];exact(Gc f y fs).1
  ·refine(Gc f y fs).2 g (p g λz=>N ?_)
   grind
def Inv.made (I:Inv X pins σ H s):Inv X pins σ (upd (upd H s.heap.objs.size<|.own (s.heap.objs.size+1)) (s.heap.objs.size+1)<|.ins C s.heap.objs.size [])
  {s with heap:=(s.heap.push PySem.W.emptyDict).push (PySem.W.instObj C s.heap.objs.size)}:=by
 have h:(s.heap.push PySem.W.emptyDict).get? s.heap.objs.size=some PySem.W.emptyDict:=WN s.heap rfl
 have r:((s.heap.push PySem.W.emptyDict).push (PySem.W.instObj C s.heap.objs.size)).get? (s.heap.objs.size+1)=some (PySem.W.instObj C s.heap.objs.size):=by
  have:=WN (s.heap.push PySem.W.emptyDict) (o:=PySem.W.instObj C s.heap.objs.size) rfl
  rwa[VG]at this
 have p:(s.heap.push PySem.W.emptyDict).Ns s.heap.objs.size (λ_=>none):=⟨PySem.W.emptyDict,#[],_,h,rfl,(λe n=>absurd n (by simp)),λ_=>rfl⟩;refine(I.laid (o:=.own (s.heap.objs.size+1)) (t':=s.toks) (λb u q=>WB _ q) (WG _) ⟨_,h⟩).laid (λb u q=>WB _ q) (Vp<|VG _ _) ?_;have g:s.heap.objs.size≠s.heap.objs.size+1:=Qg (J1 _);refine⟨by rw[XM g,Kb],QL _,g,r,λ_=>none,(Heap.Ns1.of_empty p).at λo q=>WB _ q,λ_=>True.intro,λy l=>absurd rfl l⟩
def Zh2{env e f pos s Q}(g:attributeBase e f env (eval e env)=eval e env)(h:wpAny (model prog w) A (eval e env) (λo b=>wpAny (model prog w) A (getAttr o f true) Q E b) E s):wpAny (model prog w) A (eval (.Attribute e f pos) env) Q E s:=
 Attribute_any_ h (by rw[arm_eval_Attribute,g])
end
noncomputable def Co(K:Yd)(h:TE)(f:Str):TE:=λg H Q=>h g H λx b=>∃a C l fs v,x=.ref a/\b a=some (.ins C l fs)/\Cls K C/\NoAttr K C f/\fs.lookup f=some v/\Q v b
noncomputable def MB(K:Yd)(n l:TE)(f:Str):TS:=λD b H=>l b H λy o=>n b o λx h=>∃a C g fs,x=.ref a/\h a=some (.ins C g fs)/\Cls K C/\NoAttr K C f/\fs.length<1000/\
 D.nx b (upd h a<|.ins C g<|KS f y fs)
section
variable {X:Cx}{o e value:Expr}{f:Str}{pos pos' tpos:Pos}{ta tv:TE}
def NX(r:PE X e ta)(w:attributeBase e f X.env (eval e X.env)=eval e X.env):PE X (.Attribute e f pos) (Co X.K ta f):=by
 intro pins s b H Q I h;refine Zh2 w (thn (r pins s b H _ I h) ?_);rintro u L ⟨x,E,B,g,a,C,M,fs,v,y,z,c,n,l,q⟩;subst y;obtain rfl:=g;exact Zfm B z c n l λG J A p=>⟨v,E,A,p,q⟩
def Dy(A:PE X o ta)(w:PE X value tv)(z:swapsWith value (some<|.Attribute o f pos') pos.line X.env=pure false):PS X (.Assign [.Attribute o f pos'] value pos) (MB X.K ta tv f):=by
 intro pins s b H D I h;refine plainObj_wpAny_Assign_Attribute (thn (w pins s b H _ I h) ?_) z;rintro u g ⟨y,M,L,p,q⟩;refine thn (A pins g b M _ L q) ?_;rintro T Q ⟨x,Y,J,r,a,C,U,fs,B,E,c,n,l,v⟩;subst B;obtain rfl:=r;exact Zma J E c n l p λN G=>⟨b,_,G,v⟩
def Zrq{m}{apos}{args}{pins}{s}{b:St}{H}{Q}{te}(E:PE X e te)(I:Inv X pins b H s)
  (h:te b H λx p=>∃a C v fs g,x=.ref a/\p a=some (.ins C v fs)/\Cls X.K C/\Ku X.K C m g/\fs.lookup m=none/\
   ∀n,Inv X pins b p n->wpAny (model X.prog X.w) X.A (callWith pos (.ref g) [.ref a] (backTo pos<|starEach args X.env)<|backToKw pos<|keywordEach [] X.env) Q X.xe n)
  (B:eval (.Call (.Attribute e m apos) args [] pos) X.env=(do
   let r ←eval e X.env
   standAt apos.atName
   let (f,first) ←holding [r] (getMethod r m L)
   callWith pos f first (backTo pos<|starEach args X.env) (backToKw pos<|keywordEach [] X.env))) :
  wpAny (model X.prog X.w) X.A (eval (.Call (.Attribute e m apos) args [] pos) X.env) Q X.xe s:=by
 refine J9 (thn (E pins s b H _ I h) ?_) B;rintro u n ⟨x,p,y,z,a,C,v,fs,g,G,J,c,k,l,q⟩;subst G;obtain rfl:=z;exact AH y J c k l (q n y)
end
section
variable {X:Cx}{pins:Yg}{σ:St}{H:Hp}{s:Shared}{A:Around}{E:Yi}{Q:Yi}{c:Value}{b:Bool}
inductive Pk (K:Yd) (H:Hp):V->Value->Prop where
 |non:Pk K H .non (.type "NoneType")
 |bl (x:Bool):Pk K H (.bl x) (.type "bool")
 |int (i:Int):Pk K H (.int i) (.type "int")
 |str (x:Str):Pk K H (.str x) (.type "str")
 |flt (x:UInt64):Pk K H (.flt x) (.type "float")
 |lst {a:Addr} {xs:List V} (e:H a=some (.lst xs)):Pk K H (.ref a) (.type "list")
 |frz {a:Addr} {o:Obj} {xs:List V} (e:H a=some (.frz o<|.lst xs)):Pk K H (.ref a) (.type "list")
 |tup {a:Addr} {xs:List V} (e:H a=some (.tup xs)):Pk K H (.ref a) (.type "tuple")
 |dK {a:Addr} {kvs:List (Key×V)} (e:H a=some (.dK kvs)):Pk K H (.ref a) (.type "dict")
 |dT {a:Addr} {kvs:List (List Key×V)} (e:H a=some (.dT kvs)):Pk K H (.ref a) (.type "dict")
 |ins {a C dx:Addr} {fs:List (Str×V)} (e:H a=some (.ins C dx fs)) (cl:Cls K C) (ha:PySem.W.findIn K (.ref C) "__class__"=some (some<|.builtin "object.__class__"))
   (hn:PySem.W.specialIn K (.builtin "object.__class__") "__get__"=some (some<|.builtin "getset_descriptor.__get__")) (htk:PySem.W.takesIn K (.builtin "object.__class__")=some true)
   (hm:PySem.W.mroIn K C (.type "object")=some true):Pk K H (.ref a) (.ref C)
def Zqx(I:Inv X pins σ H s)(f:RelV x u)(L:Pk X.K H x t)(e:PySem.W.kitOne X.K t c=some b)(h:∀M,Q (.bool b) {s with toks:=M}) :
  wpAny (model X.prog X.w) A (call (.builtin "isinstance") [u,c]) Q E s:=by
 cases L with
 |non=>cases f;exact QI PySem.W.kitx_none I.kIn True.intro e (λz=>nomatch z) h
 |bl y=>cases f;exact QI PySem.W.kitx_bool I.kIn True.intro e (λz=>nomatch z) h
 |int i=>obtain⟨t,q⟩:=f;cases q;exact QI PySem.W.kitx_int I.kIn True.intro e (λz=>nomatch z) h
 |str y=>obtain⟨t,q⟩:=f;cases q;exact QI PySem.W.kitx_str I.kIn True.intro e (λz=>nomatch z) h
 |flt y=>obtain⟨t,q⟩:=f;cases q;exact QI PySem.W.kitx_float I.kIn True.intro e (λz=>nomatch z) h
 | @lst a xs g=>
  cases f
  obtain⟨_,_,n,_,l⟩:=(I.hok a _ g);exact QI PySem.W.kitx_list I.kIn ⟨_,l,rfl⟩ e (λz=>nomatch z) h
 | @frz a ob xs g=>
  cases f
  obtain⟨_,_,_,n,_,l⟩:=(I.hok a _ g);exact QI PySem.W.kitx_list I.kIn ⟨_,l,rfl⟩ e (λz=>nomatch z) h
 | @tup a xs g=>
  cases f
  obtain⟨_,_,_,p⟩:=(I.hok a _ g);obtain⟨o,l,r,_⟩:=p;exact QI PySem.W.kitx_tuple I.kIn ⟨o,l,r⟩ e (λz=>nomatch z) h
 | @dK a v g=>
  cases f
  obtain⟨_,_,vs,_,p⟩:=(I.hok a _ g);obtain⟨o,Y,ep,l,r,_⟩:=p;exact QI PySem.W.kitx_dict I.kIn ⟨o,l,r.1⟩ e (λz=>nomatch z) h
 | @dT a v g=>
  cases f
  obtain⟨_,_,xs,_,o,Y,ep,l,r,_⟩:=(I.hok a _ g);exact QI PySem.W.kitx_dict I.kIn ⟨o,l,r.1⟩ e (λz=>nomatch z) h
 | @ins a C dx fs g G U N B T=>
  cases f
  obtain⟨mA,O,_⟩:=F7 I.hok g;obtain⟨od,J,_⟩:=O.look;exact QI (PySem.W.kitx_own (G.get _) G.hd U N B T) I.kIn J e (λz=>nomatch z) h
end
structure XS (k:Nat) (A:Around):Prop where
 hd:A.handled=none
 dp:A.depth+3*k+5<recursionLimit
 un:A.units+16*k+200<cLine
 gd:A.guards=some []
def XS.mono {j k A} (r:XS k A) (h:j<=k):XS j A:=⟨r.hd,by have:=r.dp;lia,by have:=r.un;lia,r.gd⟩
def XS.deeper (r:XS (k+1) A) (env:Env):XS k (A.deeper env):=
 ⟨r.hd,by have:=r.dp;show A.depth+1+3*k+5<_;lia,by have:=r.un;show A.units+3+16*k+200<_;lia,r.gd⟩
def Zmt{A:Around}{C}{us}{kw}:(A.under<|.builtin "type.__call__" ⟨.ref C::us,kw⟩).depth=A.depth+1:=by
 rfl
def Zkc{A:Around}{C}{us}{kw}:(A.under<|.builtin "type.__call__" ⟨.ref C::us,kw⟩).units=A.units+1:=rfl
def Zfr{A:Around}{C:Addr}{us:Yl}{b:List (Str×Value)}(h:A.guards=some []):(A.under<|.builtin "type.__call__" ⟨.ref C::us,b⟩).guards=some []:=by
 simpa [Around.under,Code.guards,Code.isGuard,guardIds,pushGuards]using h
def XS.make (r:XS (k+1) A) (C:Addr) (us:Yl) (b:List (Str×Value)):XS k (A.under<|.builtin "type.__call__" ⟨.ref C::us,b⟩):=
 ⟨r.hd,by have:=r.dp;rw[Zmt];lia,by have:=r.un;rw[Zkc];lia,Zfr r.gd⟩
def XS.depth (r:XS k A):A.depth<recursionLimit:=by have:=r.dp;lia
def XS.units (r:XS k A):A.units+64<cLine:=by have:=r.un;lia
def XS.units0 (r:XS k A):A.units<cLine:=by have:=r.un;lia
noncomputable def KH:TA:=λ_ H Q=>Q [] H
noncomputable def Kq(g:TE)(f:TA):TA:=λb H Q=>g b H λx l=>f b l λxs h=>Q (x::xs) h
section
variable {X:Cx}{e:Expr}{es:Yn}{te:TE}{t:TA}{pos:Pos}
def KM:PA X [] KH:=λ_ _ _ _ H Q I h=>Calls.spliced_nil ⟨[],H,I,.nil,h⟩
def KB(r:PE X e te)(q:PA X es t)(p:autoParam (starEach (e::es) X.env=(false,eval e X.env)::starEach es X.env) au_0):PA X (e::es) (Kq te t):=by
 intro pos pins s b H Q I h;rw[p];refine Calls.spliced_cons (thn (r pins s b H _ I h) ?_);rintro u f ⟨x,z,w,l,o⟩;exact thn (q pos pins f b z _ w o) λA B ⟨xs,y,v,g,n⟩=>⟨x::xs,y,v,.cons l g,n⟩
noncomputable def MT(t:TA):TE:=λf H Q=>t f H λxs b=>xs.length<=sizeLine/\∀p,b p=none->Q (.ref p) (upd b p<|.tup xs)
noncomputable def OD(t:TA):TE:=λf H Q=>t f H λxs b=>xs.length<=sizeLine/\∀p,b p=none->Q (.ref p) (upd b p<|.lst xs)
def NI(h:PA X es t):PE X (.Tuple es p pos) (MT t):=by
 intro pins s l H Q I hq;refine wpAny_Tuple_spliced (thn (h pos pins s l H _ I hq) ?_);rintro n f ⟨xs,o,g,r,z,q⟩;refine⟨by rw[←r.length];exact z,?_⟩;refine⟨.ref f.heap.objs.size,upd o f.heap.objs.size (.tup xs),g.laid (λb u e=>WB _ e) (WG _) ?_,rfl,q _ (g.hok.fresh<|WG _)⟩;exact⟨z,n,r,⟨_,WN _ rfl,rfl,_,rfl⟩⟩
def T4(h:PA X es t):PE X (.List es pos) (OD t):=by
 intro pins s l H Q I hq;refine wpAny_List_spliced (thn (h pos pins s l H _ I hq) ?_);rintro n f ⟨xs,o,g,r,z,q⟩;refine⟨by rw[←r.length];exact z,?_⟩;refine⟨.ref f.heap.objs.size,upd o f.heap.objs.size (.lst xs),g.laid (λb u e=>WB _ e) (WG _) ?_,rfl,q _ (g.hok.fresh<|WG _)⟩;exact⟨z,n,0,r,WN _ rfl⟩
end
abbrev Sp:=List V->Hp->VK->XK->Prop
abbrev CXT:=List Env->Hp->Shared->XK->Yi
structure NW (P:Program) (w:World) (K:Yd) (mg:Yh) (base:Heap) (A:Around) (outer:List Env) (s:Shared) (H:Hp):Prop where
 frames:A.frames=some outer
 mod:Mod K mg base
 bs:∀b o,base.get? b=some o->s.heap.get? b=some o/\H b=none
 bsz:base.objs.size<=s.heap.objs.size
 funs:s.heap.FunFrames base outer
 frf:∀b∈frs outer,H b=none
 hok:HOk P w H s.heap
 bare:AllBare s.gens
def CE(outer:List Env)(P:Program)(w:World)(H:Hp)(s:Shared)(Q:VK)(u:Value)(b:Shared):Prop:=
 ∃v f,b.os=s.os/\AllBare b.gens/\Un (frs outer) [] H f s.heap b.heap/\HOk P w f b.heap/\RelV v u/\Q v f
def CR(CX:CXT)(outer:List Env)(P:Program)(w:World)(H:Hp)(s:Shared)(Q:VK)(E:XK)(r:Result)(b:Shared):Prop:=
 match r with
 | .ok (.ret u)=>CE outer P w H s Q u b
 | .ok _=>False
 | .error e=>CX outer H s E e b
structure KU (P:Program) (w:World) (K:Yd) (mg:Yh) (base:Heap) (CX:CXT) (k:Nat) (f:Addr) (fd:FuncData) (ps:Ym) (sp:Sp):Prop where
 len:∀vs H Q E,sp vs H Q E->vs.length=ps.length
 run:∀(A:Around) (outer:List Env) (s:Shared) (H:Hp) (args:Args) (us:Yl) (vs:List V) (Q:VK) (E:XK),XS k A->NW P w K mg base A outer s H->BindsTo s fd args (ps.zip us)->Vals vs us->sp vs H Q E->
  codeAny (model P w) A (.call (.ref f) args) (CR CX outer P w H s Q E) s
def KU.imp {K g base CX k f l ps sp b} (F:KU P w K g base CX k f l ps sp)
  (h:∀vs H Q E,b vs H Q E->sp vs H Q E):KU P w K g base CX k f l ps b:=
 ⟨λvs H Q E q=>F.len vs H Q E (h _ _ _ _ q),λA outer s H args n vs Q E r u v o p=>F.run A outer s H args n vs Q E r u v o (h _ _ _ _ p)⟩
def NW.make {K b base A outer s H} (e:NW P w K b base A outer s H) (C:Addr) (us:Yl) (f:List (Str×Value)) :
  NW P w K b base (A.under<|.builtin "type.__call__" ⟨.ref C::us,f⟩) outer s H:=⟨by first|exact e.frames|(simpa [Around.under,Code.envs,Code.isFrame,pushEnvs]using e.frames),e.mod,e.bs,e.bsz,e.funs,e.frf,e.hok,e.bare⟩
section
variable {X:Cx}{pins:Yg}{σ:St}{H:Hp}{s s':Shared}
def Inv.env0 (I:Inv X pins σ H s):NW X.prog X.w X.K X.mg X.base X.A X.stack s H:=
 ⟨I.ok.frames,I.ok.mod,I.bs,WQ I.ok.bsz I.sz,I.stack,I.stkFree,I.hok,I.bare⟩
def Inv.after (I:Inv X pins σ H s) (h:CE X.stack X.prog X.w H s Q u s'):EP X pins σ Q u s':=by
 obtain⟨v,n,os,bare,un,f,r,q⟩:=h;obtain⟨o,g,d,t,l⟩:=s';obtain rfl:=os;exact⟨v,n,I.call un f bare (λb z=>absurd z (by simp)),r,q⟩
end
noncomputable def SD(sp:Sp)(b:List V)(E:XK)(t:TA):TE:=λf H Q=>t f H λg h=>sp (g++b) h Q E
noncomputable def Sk(C:Addr)(m:Str)(sp:Sp)(b:List V)(E:XK)(l:TE)(t:TA):TE:=λf H Q=>l f H λx g=>∃a n fs,x=.ref a/\g a=some (.ins C n fs)/\fs.lookup m=none/\
 t f g λh o=>sp (x::(h++b)) o Q E
noncomputable def CL(C:Addr)(sp:Sp)(f:List V)(E:XK)(t:TA):TE:=λh H Q=>t h H λl g=>∀x b,g x=none->g b=none->b≠x->
 sp (.ref x::(l++f)) (upd (upd g b<|.own x) x<|.ins C b []) (λv n=>v=.non/\Q (.ref x) n) E
def Binds(K:Yd)(f:FuncData)(ps:Ym)(ds:Yl):Prop:=
 ∀(s:Shared) (b:Yl),K.In s.heap->(b++ds).length=ps.length->BindsTo s f ⟨b,[]⟩ (ps.zip (b++ds))
def Binds.all {K f ps} (h:∀us,us.length=ps.length->bindArgs f ⟨us,[]⟩=pure (ps.zip us)):Binds K f ps []:=λs us _ b=>by
 rw[Qz]at b ⊢;exact .of_eq (h us b)
def P6(CX:CXT)(X:Cx)(E:XK):Prop:=∀(pins:Yg) (f:St) (H:Hp) (s:Shared) (e:Value) (b:Shared),Inv X pins f H s->CX X.stack H s E e b->X.xe e b
section
variable {X:Cx}{CX:CXT}{k:Nat}{f C:Addr}{fd:FuncData}{ps:Ym}{sp:Sp}{dvs:List V}{ds:Yl}{E:XK}{x m:Str}{p pos apos:Pos}{e o:Expr}{es:Yn}{ta:TE}{t:TA}
def D3{b:St}{H}{s}{Q}{us}{vs}(F:KU X.prog X.w X.K X.mg X.base CX k f fd ps sp)(n:XS k X.A)(y:Binds X.K fd ps ds)(v:Vals dvs ds)(hx:P6 CX X E)(I:Inv X pins b H s)(r:Vals vs us)(h:sp (vs++dvs) H Q E):wpAny (model X.prog X.w) X.A (call (.ref f) us) (EP X pins b Q) X.xe s:=by
 have g:=r.append v;have q:(us++ds).length=ps.length:=by rw[←g.length];exact F.len _ _ _ _ h
 refine JG (Vq (F.run X.A X.stack s H ⟨us,[]⟩ (us++ds) (vs++dvs) Q E n I.env0 (y s us I.kIn q) g h) λr l hq=>?_);cases r with
 |error e=>exact hx pins b H s e l I hq
 |ok z=>
  cases z with
  |ret u=>exact I.after hq
  |cont=>exact False.elim hq
  |_=>trivial
def Zb4(F:KU X.prog X.w X.K X.mg X.base CX k f fd ps sp)(u:XS k X.A)(z:Gl X x)(v:X.mg x=some (.ref f))(y:PySem.W.keepIn X.K (.ref f)=true)(J:Binds X.K fd ps ds)(G:Vals dvs ds)(hx:P6 CX X E)(L:PA X (e::es) t)(g:autoParam ((x==("__debug__" : Str))=false) au_1)(B:autoParam (starEach (e::es) X.env=(false,eval e X.env)::starEach es X.env) au_0)(b:autoParam ((backTo pos<|starEach es X.env).any (·.1)=false) au_0) :
  PE X (.Call (.Name x p) (e::es) [] pos) (SD sp dvs E t):=by
 intro pins s n H Q I h;refine V8 (Nq I z v ?_ g);refine Jb I.ok.mod.kin y (thn (L pos pins s n H _ I h) ?_) B b;rintro N T ⟨M,U,l,r,q⟩;refine⟨l.kIn,?_⟩;exact D3 F u J G hx l r q
def Zcb{pl}(T:PE X o ta)(c:Cls X.K C)(y:Ku X.K C m f)(F:KU X.prog X.w X.K X.mg X.base CX k f fd ps sp)(N:XS k X.A)(Y:Binds X.K fd ps ds)(U:Vals dvs ds)(hx:P6 CX X E)(ha:PA X (e::es) t)(b:autoParam (starEach (e::es) X.env=(false,eval e X.env)::starEach es X.env) au_0)(g:autoParam ((backTo pos<|starEach es X.env).any (·.1)=false) au_0)
  (M:autoParam (eval (.Call (.Attribute o m apos) (e::es) [] pos) X.env=(do
   let v ←eval o X.env
   standAt apos.atName
   let (f,first) ←holding [v] (getMethod v m pl)
   callWith pos f first (backTo pos<|starEach (e::es) X.env) (backToKw pos<|keywordEach [] X.env))) au_0) :
  PE X (.Call (.Attribute o m apos) (e::es) [] pos) (Sk C m sp dvs E ta t):=by
 intro pins s n H Q I h;refine J9 (thn (T pins s n H _ I h) ?_) M;rintro u G ⟨x,H1,B,J,a,dx,fs,ex,ea,l,q⟩;subst ex;obtain rfl:=J;refine AH B ea c y l ?_;refine Jb I.ok.mod.kin y.kp (thn (ha pos pins G n H1 _ B q) ?_) b g;rintro us s2 ⟨vs,H2,z,r,L⟩;refine⟨z.kIn,?_⟩;exact D3 (vs:=.ref a::vs) F N Y U hx z (.cons rfl r) L
def Zfg(B:PE X o ta)(c:Cls X.K C)(n:Ku X.K C m f)(F:KU X.prog X.w X.K X.mg X.base CX k f fd ps sp)(z:XS k X.A)(J:Binds X.K fd ps ds)(G:Vals dvs ds)(hx:P6 CX X E)
  (y:autoParam (eval (.Call (.Attribute o m apos) [] [] pos) X.env=(do
   let g ←eval o X.env
   standAt apos.atName
   let (f,first) ←holding [g] (getMethod g m T)
   callWith pos f first (backTo pos<|starEach [] X.env) (backToKw pos<|keywordEach [] X.env))) au_0) :
  PE X (.Call (.Attribute o m apos) [] [] pos) (Sk C m sp dvs E ta KH):=by
 intro pins s r H Q I h;refine J9 (thn (B pins s r H _ I h) ?_) y;rintro u N ⟨x,Y,b,v,a,U,fs,L,M,l,q⟩;subst L;obtain rfl:=v;refine AH b M c n l ?_;exact PySem.W.callWith_K0 b.kIn n.kp (D3 (vs:=[.ref a]) F z J G hx b (.cons rfl .nil) q)
structure Mk (K:Yd) (C f:Addr):Prop where
 makes:PySem.W.makesIn K C=true
 init:PySem.W.findIn K (.ref C) "__init__"=some (some<|.ref f)
 fn:PySem.W.isFn K (.ref f)=true
 kp:PySem.W.keepIn K (.ref C)=true
def Zh8{n:St}{H}{s}{Q}{us}{vs}(M:Mk X.K C f)(F:KU X.prog X.w X.K X.mg X.base CX k f fd ps sp)(G:XS (k+1) X.A)(N:Binds X.K fd ps ds)(L:Vals dvs ds)(hx:P6 CX X E)(I:Inv X pins n H s)(r:Vals vs us)(h:∀x g,H x=none->H g=none->g≠x->sp (.ref x::(vs++dvs)) (upd (upd H g<|.own x) x<|.ins C g []) (λv H2=>v=.non/\Q (.ref x) H2) E) :
  wpAny (model X.prog X.w) X.A (call (.ref C) us) (EP X pins n Q) X.xe s:=by
 have hq:=h (s.heap.objs.size+1) s.heap.objs.size (I.hok.fresh<|Vn _) (I.hok.fresh<|WG _) (Qg<|J1 _);have l:=Inv.made (C:=C) I;have q:Vals (V.ref (s.heap.objs.size+1)::(vs++dvs)) (Value.ref (s.heap.objs.size+1)::(us++ds)):=.cons rfl (r.append L)
 have J:(Value.ref (s.heap.objs.size+1)::us++ds).length=ps.length:=by
  have e:=q.length;rw[F.len _ _ _ _ hq]at e
  grind
 refine JG (Zkg I.kIn M.makes M.init (beq_iff_eq.mp M.fn) (Vq (F.run _ X.stack _ _ ⟨Value.ref (s.heap.objs.size+1)::us,[]⟩ (Value.ref (s.heap.objs.size+1)::(us++ds)) _ _ E (G.make C us [])
  (l.env0.make C us []) (N _ (Value.ref (s.heap.objs.size+1)::us) l.kIn J) q hq) λr y b=>?_))
 cases r with
 |error e=>exact hx pins n _ _ e y l b
 |ok T=>
  cases T with
  |ret u=>
   obtain⟨v,H',Y,z,U,B⟩:=l.after b;subst U;exact⟨z,⟨V.ref (s.heap.objs.size+1),H',Y,rfl,B⟩⟩
  |_=>exact False.elim b
def Zph(M:Mk X.K C f)(F:KU X.prog X.w X.K X.mg X.base CX k f fd ps sp)(u:XS (k+1) X.A)(y:Gl X x)(v:X.mg x=some (.ref C))(G:Binds X.K fd ps ds)(B:Vals dvs ds)(hx:P6 CX X E)(J:PA X (e::es) t)(g:autoParam ((x==("__debug__" : Str))=false) au_1)(z:autoParam (starEach (e::es) X.env=(false,eval e X.env)::starEach es X.env) au_0)(b:autoParam ((backTo pos<|starEach es X.env).any (·.1)=false) au_0) :
  PE X (.Call (.Name x p) (e::es) [] pos) (CL C sp dvs E t):=by
 intro pins s n H Q I h;refine V8 (Nq I y v ?_ g);refine Jb I.ok.mod.kin M.kp (thn (J pos pins s n H _ I h) ?_) z b;rintro N T ⟨L,U,l,r,q⟩;refine⟨l.kIn,?_⟩;exact Zh8 M F u G B hx l r q
end
structure XI (N P:Ym) (sc:Scope):Prop where
 kind:sc.kind=.function
 co:sc.isCoroutine=false
 gen:sc.isGenerator=false
 nd:N.Nodup
 pre:N.take P.length=P
 par:∀x∈P,sc.names.lookup x=some .local\/sc.names.lookup x=some .cell
 nofree:∀y∈sc.names,y.2≠.free
theorem M5{kindOf x}:∀{binds}{m:Yh},(∀v,(x,v)∉binds)->bindL kindOf binds m x=m x
 |[],_,_=>rfl
 |(n,v)::r,m,h=>by
  unfold bindL;rw[M5 λw hw=>h w (WV _ hw)];split
  ·grind
  ·rfl
theorem ML{kindOf x}:∀{binds}{m:Yh},(∀v,(x,v)∉binds)->bindC kindOf binds m x=m x
 |[],_,_=>rfl
 |(n,v)::r,m,h=>by
  unfold bindC;rw[ML λw hw=>h w (WV _ hw)];split
  ·rfl
  ·grind
theorem RG{kindOf}{x}{v}:∀{P:Ym}{vs}{i:Nat}{m:Yh},P.Nodup->P[i]?=some x->vs[i]?=some v->kindOf x=some .local->
  bindL kindOf (P.zip vs) m x=some v
 |[],_,_,_,_,h,_,_|_::_,[],_,_,_,_,h,_=>by simp at h
 |p::P,w::vs,0,m,b,l,g,f=>by
  simp at l g;subst l;subst g;show bindL kindOf ((p,w)::P.zip vs) m p=_;unfold bindL;rw[M5 λv n=>(Q1.mp b).1 (List.of_mem_zip n).1,WK f];simp
 |p::P,w::vs,i+1,m,b,l,g,f=>by
  unfold bindL;exact RG (Q1.mp b).2 (by trivial) (by grind) f
theorem RD{kindOf}{x}{v}:∀{P:Ym}{vs}{i:Nat}{m:Yh},P.Nodup->P[i]?=some x->vs[i]?=some v->kindOf x≠some .local->
  bindC kindOf (P.zip vs) m x=some v
 |[],_,_,_,_,h,_,_|_::_,[],_,_,_,_,h,_=>by simp at h
 |p::P,w::vs,0,m,b,l,g,f=>by
  simp at l g;subst l;subst g;show bindC kindOf ((p,w)::P.zip vs) m p=_;unfold bindC;rw[ML λv n=>(Q1.mp b).1 (List.of_mem_zip n).1,WI f];simp
 |p::P,w::vs,i+1,m,b,l,g,f=>by
  unfold bindC;exact RD (Q1.mp b).2 (by trivial) (by grind) f
noncomputable def start(N:Ym)(vs:List V):St:=vs.map some++List.replicate (N.length-vs.length) none
noncomputable def Ks(CX:CXT)(P:Program)(w:World)(K:Yd)(mg:Yh)(base:Heap)(N:Ym)(qual:Str)(scope:Scope)(f:Addr)(cd:Value)(A:Around)(outer:List Env)(s:Shared)(H:Hp)(E:XK):Cx where
 prog:=P
 w:=w
 K:=K
 mg:=mg
 base:=base
 A:=A.deeper (envOfC qual scope s.heap.objs.size f cd)
 N:=N
 s₀:=s
 H₀:=H
 env:=envOfC qual scope s.heap.objs.size f cd
 outer:=outer
 stack:=envOfC qual scope s.heap.objs.size f cd::outer
 ex:=[]
 calm:=true
 fn:=λ_=>true
 pn:=[]
 xe:=λe s'=>wpAny (model P w) (A.deeper<|envOfC qual scope s.heap.objs.size f cd) (leaving (envOfC qual scope s.heap.objs.size f cd) e) (λ_ s''=>CX outer H s E e s'') (λe' s''=>CX outer H s E e' s'') s'
def L7{b:Scope}{n}{x}(h:b.names.lookup x=some .cell):∃c,(cellsFrom n b.names []).lookup x=some c:=by
 exact Option.isSome_iff_exists.mp (PySem.W.cellsFrom_some b.names n []<|.inl h)
def Zmw{P}{w}{K}{mg}{base}{N ps}{qual}{scope}{f}{cd}{A}{outer}{s L}{H}{E}{us}{vs}(S:XI N ps scope)(Y:A.handled=none)(l:NW P w K mg base A outer s H)(hl:vs.length=ps.length)(r:Vals vs us)(x:InCallC s s.heap.objs.size (bindL (envOfC qual scope s.heap.objs.size f cd).kindOf (ps.zip us) λ_=>none) (cellsFrom (s.heap.objs.size+1) scope.names []) (bindC (envOfC qual scope s.heap.objs.size f cd).kindOf (ps.zip us) λ_=>none) L) :
  Inv (Ks CX P w K mg base N qual scope f cd A outer s H E) [] (start N vs) H L:=by
 have U:ps.length<=N.length:=by have:=Qs List.length S.pre;rw[WW]at this;lia
 obtain⟨J,tk,rfl,Q⟩:=x.done;have n:∀b,b∉(Ks CX P w K mg base N qual scope f cd A outer s H E).ex:=λb z=>absurd (show b∈([]:List Addr)from z) (by simp)
 refine⟨⟨l.mod,S.kind,rfl,rfl,WG _,λy z c J g=>?_,λy o=>?_,λy c _ h=>?_,λ_=>Y,Around.frames_deeper l.frames,.inr ⟨rfl,rfl⟩,λb z=>absurd z (n b),l.bs,l.bsz,λb _ _=>n b,λb z=>absurd z (n b),l.funs,l.frf⟩,
  rfl,l.bare,Un.kept Q,⟨_,x.toInCall.ns,λi y v J g h3=>?_⟩,λy c h=>⟨_,x.cell y c h⟩,l.hok.fresh (WG _),λy c h=>?_,λp C=>absurd (show p∈([]:Yg)from C) (by simp),l.hok.kept Q,?_⟩
 ·exact name_of_addr x.apart (Vj J) (Vj g)
 ·have o:=o;rcases o with o|o
  ·exact L7 o
  ·exact absurd rfl (S.nofree _<|Vj o)
 ·exact Ja (x.above y c<|Vj h)
 ·have G:i<vs.length:=by
   unfold start at g;by_cases G:i<vs.length
   ·exact G
   ·rw[QD (by simpa using G)]at g;rw[Jm]at g;split at g<;>cases g
  have ha:vs[i]?=some v:=by
   unfold start at g;rw[Q8 (by simpa using G),WR]at g;cases e:vs[i]? with
   |none=>rw[e]at g;cases g
   |some a=>rw[e]at g;cases g;rfl
  obtain⟨u,M,T⟩:=r.get ha
  have C:ps[i]?=some y:=by
   rw[←S.pre,QP (by lia)];exact J
  have B:ps.Nodup:=by rw[←S.pre];exact S.nd.sublist (VC _ _)
  refine⟨u,T,?_⟩;rcases S.par y (Qp C)with k|k
  ·exact .inl ⟨k,RG B C M k⟩
  ·obtain⟨c,e⟩:=L7 k;refine .inr ⟨.inl k,c,e,?_⟩;have q:=x.cell y c e;rw[RD B C M (by show scope.names.lookup y≠_;rw[k];decide)]at q;exact q
 ·exact l.hok.fresh (Ja<|x.above y c<|Vj h)
 ·unfold start;show _=N.length;rw[Qa,W9,List.length_replicate];lia
def E9{K M base k f name qual params body scope dV kV L pm g ct oc an od Y N ps sp}(lk:K.lookup f=some ⟨oc,od,.func (PySem.W.fnOf name qual params body scope dV kV L pm an g ct),Y⟩)(hcd:PySem.W.codeIn K g qual=true)(S:XI N ps scope)(len:∀vs H Q E,sp vs H Q E->vs.length=ps.length)
  (p:∀A outer s H vs Q E,XS k (A.deeper<|envOfC qual scope s.heap.objs.size f g)->sp vs H Q E->
   ∃t,PSs (Ks CX P w K M base N qual scope f g A outer s H E) body t/\t {nx:=λ_ H'=>Q .non H',rt:=Q} (start N vs) H) :
  KU P w K M base CX (k+1) f (PySem.W.fnOf name qual params body scope dV kV L pm an g ct) ps sp:=by
 refine⟨len,λA outer s H args us vs Q E hr G hb r z=>?_⟩;have KX:=G.mod.kin.keeps λb o e=>(G.bs b o e).1
 have l:∀y∈ps.zip us,scope.names.lookup y.1=some .local\/(scope.names.lookup y.1=some .cell/\((cellsFrom (s.heap.objs.size+1) scope.names []).lookup y.1).isSome=true):=λ⟨n,v⟩ hy=>by
  rcases S.par n (List.of_mem_zip hy).1 with q|q
  ·exact .inl q
  ·exact .inr ⟨q,PySem.W.cellsFrom_some _ _ _ (.inl q)⟩
 refine codeAny_call_function hr.depth (KX _ _ lk) rfl S.co S.gen rfl (PySem.W.codeRec_of KX hcd) (hb _ _ _ _ ?_);refine wpAny_newFunctionEnv_cells S.kind l λenv he s1 x=>?_;subst he;refine⟨(G.mod.nolimit.keeps λb o e=>(G.bs b o e).1).keeps x.toInCall.keep,codeAny_func ?_⟩;obtain⟨t,ht,hq⟩:=p A outer s H vs Q E (hr.deeper _) z;have I:Inv (Ks CX P w K M base N qual scope f g A outer s H E) [] (start N vs) H s1:=Zmw S hr.hd G (len _ _ _ _ z) r x;refine Qr (ht [] s1 (start N vs) H _ I hq) (λfl T B=>?_) λe T B=>B
 have C:∀{h:St} {H':Hp} {v:V} {u:Value},Inv (Ks CX P w K M base N qual scope f g A outer s H E) [] h H' T->RelV v u->Q v H'->CE outer P w H s Q u T:=
  λ{h H' v u} J U q=>⟨v,H',J.os,J.bare,J.base,J.hok,U,q⟩
 cases fl with
 |ret u=>
  obtain⟨v,h,H',J,U,q⟩:=B;exact C J U q
 |next=>
  obtain⟨h,H',J,q⟩:=B;exact C (v:=V.non) J rfl q
 |_=>
  obtain⟨_,_,_,q⟩:=B;exact False.elim q
section
variable {X:Cx}{x:Str}{p pos:Pos}{e:Expr}{es:Yn}{t:TA}{id T:String}{r:List V->Hp->VK->Prop}
noncomputable def tCB(r:List V->Hp->VK->Prop)(t:TA):TE:=λb H Q=>t b H λf g=>r f g Q
def KR(B:K8 X (.builtin id) r)(z:Gl X x)(y:X.mg x=none)(v:bootBuiltins x=some (.builtin id))(C:PA X (e::es) t)(w:autoParam (x≠"__name__") au_1)(f:autoParam ((x==("__debug__" : Str))=false) au_1)(A:autoParam (starEach (e::es) X.env=(false,eval e X.env)::starEach es X.env) au_0)(b:autoParam ((backTo pos<|starEach es X.env).any (·.1)=false) au_0):PE X (.Call (.Name x p) (e::es) [] pos) (tCB r t):=by
 intro pins s g H Q I h;refine V8 (SQ I z y v ?_ w f);exact PyProof.Rows.callWith_builtin1 (thn (C pos pins s g H _ I h) λn o ⟨l,G,E,q,u⟩=>B pins o g G l n Q E q u) A b
def Kt(B:K8 X (.type T) r)(z:Gl X x)(y:X.mg x=none)(v:bootBuiltins x=some (.type T))(C:PA X (e::es) t)(w:autoParam (x≠"__name__") au_1)(f:autoParam ((x==("__debug__" : Str))=false) au_1)(A:autoParam (starEach (e::es) X.env=(false,eval e X.env)::starEach es X.env) au_0)(b:autoParam ((backTo pos<|starEach es X.env).any (·.1)=false) au_0):PE X (.Call (.Name x p) (e::es) [] pos) (tCB r t):=by
 intro pins s g H Q I h;refine V8 (SQ I z y v ?_ w f);exact Vo (thn (C pos pins s g H _ I h) λn o ⟨l,G,E,q,u⟩=>B pins o g G l n Q E q u) A b
end
end L2
namespace HT
open PySem PyProof.Rows
section
variable {prog:Program}{w:World}{A:Around}{E:Yi}{s:Shared}
def Zoi(B:IsTup s.heap t vs.toArray)(C:IsTup s.heap b g.toArray)(u:vs≠[])(G:g=[]->Q (.ref t) s)(H:g≠[]->Q (.ref s.heap.objs.size) {s with heap:=s.heap.push {cls:=.type "tuple",data:=.seq (vs++g).toArray}})(hsz:vs.length+g.length<=sizeLine):wpAny (model prog w) A (binaryOp .Add (.ref t)<|.ref b) Q E s:=by
 obtain⟨⟨cls,y,data,sl⟩,q,x,n,v⟩:=id B;obtain⟨⟨z,p,data2,h⟩,f,o,r,l⟩:=id C;simp only at x v o l;subst x v o l;by_cases hw:g=[]
 ·exact concat_meets ⟨_,q,rfl⟩ ⟨_,f,rfl⟩ noFill_tuple_add seq_tuple_add Jw Jn (Jc _ _)
   (tuple_addW1 t b vs.toArray g.toArray n r y p sl h (by simpa using u)<|by simp[hw]) ⟨q,f,G hw⟩
 ·refine concat_meets ⟨_,q,rfl⟩ ⟨_,f,rfl⟩ noFill_tuple_add seq_tuple_add Jw Jn (Jc _ _)
   (tuple_addW2 t b vs.toArray g.toArray n r y p sl h (by simpa using u) (by simpa using hw)<|by omega) ⟨q,f,?_⟩
  grind
noncomputable def sIx(n d:Nat):Option Int->Nat
 |none=>d
 |some v=>if v<0 then(v+(n:Int)).toNat else min v.toNat n
def IK(n d:Nat):sIx n d none=d:=rfl
def Hh(n d k:Nat):sIx n d (some (k:Int))=min k n:=rfl
end
end HT
namespace L2
open PySem PySem.Spec PyProof.Rows
abbrev TO:=St->Hp->(Option Int->Hp->Prop)->Prop
def PO(X:Cx)(e:Option Expr)(t:TO):Prop:=
 ∀(pins:Yg) (s:Shared) (b:St) (H:Hp) (Q:Option Int->Hp->Prop),Inv X pins b H s->t b H Q->
  wpAny (model X.prog X.w) X.A (evalPart e X.env) (λu g=>∃o f,Inv X pins b f g/\IsPart u o/\Q o f) X.xe s
noncomputable def Za4:TO:=λ_ H Q=>Q none H
noncomputable def MZ(t:TE):TO:=λb H Q=>t b H λx f=>∃i,x=.int i/\Q (some i) f
def As:∀{us:Yl},Vals (ns.map V.int) us->IntsAre us ns:=by
 induction ns with
 |nil=>intro us r;rw[List.map_nil]at r;cases r;exact .nil
 |cons n ns g=>
  intro us r;cases r with
  |cons f b=>
   obtain⟨t,e⟩:=f;subst e;exact .cons n t (g b)
section
variable {X:Cx}{e:Expr}{te:TE}{lo hi:Option Expr}{tl th:TO}{pos p2:Pos}
def D4:PO X none Za4:=by
 intro pins s b H Q I h;exact WD ⟨none,H,I,.none,h⟩
def Dg(h:PE X e te):PO X (some e) (MZ te):=by
 intro pins s b H Q I hw;refine thn (h pins s b H _ I hw) ?_;rintro u o ⟨x,n,l,f,g⟩;obtain⟨i,rfl,q⟩:=g;obtain⟨t,rfl⟩:=f;exact⟨some i,n,l,.int i t,q⟩
def SlR(X:Cx)(r:V->Option Int->Option Int->Hp->VK->Prop):Prop:=
 ∀(pins:Yg) (s:Shared) (b:St) (H:Hp) (x:V) (v g f:Value) (lo hi:Option Int) (sl:Addr) (Q:VK),Inv X pins b H s->RelV x v->s.heap.IsSliceOf sl g f .none->IsPart g lo->IsPart f hi->r x lo hi H Q->
  ∃T id,typeLookup (.type T) "__getitem__"=pure (some<|.builtin id)/\s.TypeIs v T/\wpAny (model X.prog X.w) X.A (getItem v<|.ref sl) (EP X pins b Q) X.xe s
noncomputable def tSl(r:V->Option Int->Option Int->Hp->VK->Prop)(te:TE)(tl th:TO):TE:=λb H Q=>te b H λx h=>tl b h λl g=>th b g λu f=>r x l u f Q
def D8(M:SlR X r)(Y:PE X e te)(N:PO X lo tl)(J:PO X hi th):PE X (.Subscript e (.Slice lo hi none p2) pos) (tSl r te tl th):=by
 intro pins s f H Q I h;refine Subscript_ (thn (Y pins s f H _ I h) ?_);rintro v y ⟨x,H1,I1,z,C⟩;refine wpAny_Slice (thn (N pins y f H1 _ I1 C) ?_);rintro o w ⟨l,H2,I2,G,B⟩;refine thn (J pins w f H2 _ I2 B) ?_;rintro n g ⟨u,p,I3,E,A⟩;refine WD ?_;have I4:Inv X pins f p {g with heap:=g.heap.push {cls:=.type "slice",data:=.fields #[o,n,.none]}}:=I3.kept λb ob q=>WB _ q
 obtain⟨T,id,hT,L,U⟩:=M pins {g with heap:=g.heap.push {cls:=.type "slice",data:=.fields #[o,n,.none]}} f p x v o n l u g.heap.objs.size Q I4 z (Heap.IsSliceOf.new ..) G E A
 exact tail_any L hT U rfl
noncomputable def Bv(xs:List V)(lo hi:Option Int):List V:=(xs.drop<|HT.sIx xs.length 0 lo).take (HT.sIx xs.length xs.length hi-HT.sIx xs.length 0 lo)
def Zp6(xs:List V)(lo hi:Option Int):(Bv xs lo hi).length<=xs.length:=by
 unfold Bv
 grind
noncomputable def Zce(K:Yd):R2:=λx y H Q=>∃a b xs f,x=.ref a/\y=.ref b/\SqT K H a xs/\SqT K H b f/\xs≠[]/\xs.length+f.length<=sizeLine/\
 (f=[]->Q (.ref a) H)/\(f≠[]->∀p,H p=none->Q (.ref p) (upd H p<|.tup (xs++f)))
def Vals.nil_iff (r:Vals xs us):us=[]↔xs=[]:=by
 cases r with
 |_=>simp
def Zga:OpR X (binaryOp .Add) (Zce X.K):=by
 intro pins s J H x y v u Q I p o h;obtain⟨a,b,xs,L,rfl,rfl,G,E,hx,n,A,r⟩:=h;cases p
 cases o
 obtain⟨C,g,B,_⟩:=I.tuple G;obtain⟨l,f,p2,_⟩:=I.tuple E;refine HT.Zoi B p2 (λz=>hx (g.nil_iff.mp z)) (λz=>⟨.ref a,H,I,rfl,A (f.nil_iff.mp z)⟩) (λz=>?_) (by rw[←g.length,←f.length];exact n);refine⟨.ref s.heap.objs.size,_,I.laid (λb M q=>WB _ q) (WG _) ?_,rfl,r (λw=>z (f.nil_iff.mpr w)) _ (I.hok.fresh<|WG _)⟩;exact⟨by rw[Qa];exact n,_,g.append f,IsTup.new _ _⟩
end
noncomputable def ixN(n:Nat)(i:Int):Option Nat:=if 0<=i then(if i<n then some i.toNat else none)else if -(n:Int)<=i then some (i+n).toNat else none
noncomputable def atI{b:Type}(xs:List b)(i:Int):Option b:=(ixN xs.length i).bind λj=>xs[j]?
def Zac(h:ixN n i=some j):seqIndex? i n=some j/\j<n/\-(n:Int)<=i/\i<n:=by
 unfold ixN at h;by_cases f:0<=i
 ·rw[WK f]at h;by_cases b:i<n
  ·rw[WK b]at h;have e:=WT h;exact⟨by rw[seqIndex_of f b,e],by lia,by lia,b⟩
  ·grind
 ·rw[WI f]at h;by_cases b:-(n:Int)<=i
  ·rw[WK b]at h;have e:=WT h;exact⟨by rw[seqIndex_neg (by lia) b,e],by lia,b,by lia⟩
  ·grind
def Ef(h:atI xs i=some v):∃j,seqIndex? i xs.length=some j/\xs[j]?=some v/\j<xs.length/\-(xs.length:Int)<=i/\i<xs.length:=by
 unfold atI at h;cases e:ixN xs.length i with
 |none=>grind
 |some j=>
  obtain⟨l,g,f,b⟩:=Zac e
  grind
def Tz{j:Nat}{v}(h:xs[j]?=some v):atI xs (j:Int)=some v:=by
 have e:ixN xs.length (j:Int)=some j:=by
  unfold ixN
  grind
 unfold atI;rw[e];exact h
def Cu(b:Expr):Prop:=∀o i,subscripted b false o i=operate [o,i] (getItem o i)
def IxR(X:Cx)(r:R2):Prop:=
 ∀(value slice:Expr) (pins:Yg) (s:Shared) (b:St) (H:Hp) (x y:V) (v u:Value) (Q:VK),Inv X pins b H s->RelV x v->RelV y u->r x y H Q->
  subscripted slice false v u=operate [v,u] (getItem v u)->wpAny (model X.prog X.w) X.A (subscriptTail value slice v u) (EP X pins b Q) X.xe s
def MtR(X:Cx)(id:String)(r:V->List V->Hp->VK->Prop):Prop:=
 ∀(pins:Yg) (s:Shared) (b:St) (H:Hp) (x:V) (xs:List V) (v:Value) (f:Yl) (Q:VK),Inv X pins b H s->RelV x v->Vals xs f->r x xs H Q->
  wpAny (model X.prog X.w) X.A (call (.builtin id) (v::f)) (EP X pins b Q) X.xe s
section
variable {X:Cx}{a b:Expr}{ta tb:TE}{pos:Pos}
def IxR.or (h:IxR X r) (p:IxR X o):IxR X (λx y H Q=>r x y H Q\/o x y H Q):=by
 intro value slice pins s f H x y v u Q I l g q n;rcases q with q|q
 ·exact h value slice pins s f H x y v u Q I l g q n
 ·exact p value slice pins s f H x y v u Q I l g q n
def Od(p:IxR X r)(z:PE X a ta)(w:PE X b tb)(o:Cu b):PE X (.Subscript a b pos) (tOp r ta tb):=by
 intro pins s f H Q I h;exact Subscript_ (Es z w I h λv u g x y B A n l q=>p a b pins g f B x y v u Q A n l q (o _ _))
noncomputable def BE(K:Yd):R2:=λx y H Q=>∃p xs i v,x=.ref p/\y=.int i/\SqL K H p xs/\atI xs i=some v/\Q v H
noncomputable def Fd(K:Yd):R2:=λx y H Q=>∃p xs i v,x=.ref p/\y=.int i/\SqT K H p xs/\atI xs i=some v/\Q v H
noncomputable def Zbd:R2:=λx y H Q=>∃z i c,x=.str z/\y=.int i/\z.length<=sizeLine/\atI z.cps.toList i=some c/\Q (.str ⟨#[c]⟩) H
def ix_list:IxR X (BE X.K):=by
 intro value slice pins s G H x y v u Q I L J h B;obtain⟨p,xs,i,z,rfl,rfl,hq,N,q⟩:=h;cases L
 obtain⟨t,rfl⟩:=J;obtain⟨o,r,n,hz⟩:=I.list hq;obtain⟨j,g,Y,h3,U,T⟩:=Ef N;obtain⟨w,E,l⟩:=r.get Y;have M:=r.length;have hn:=Fb;have f:EP X pins G Q w s:=⟨z,H,I,l,q⟩;by_cases C:0<=i
 ·have A:i.toNat=j:=by
   rw[seqIndex_of C T]at g;exact WT g
  exact item_listR n.isList C (by lia) (by rw[A];simpa using E) f B
 ·have A:(i+(o.toArray.size:Int)).toNat=j:=by
   rw[seqIndex_neg (by lia) U]at g;rw[Qo,←M];exact WT g
  exact subscriptTail_builtinR n.isList.typeIs slot_list_getitem.lookup
   (wpAny_getItem_list_neg n.isList (by lia) (by rw[Qo]<;>lia) (by lia) (by rw[A];simpa using E) ⟨rfl,f⟩) B
def Zgx:IxR X (Fd X.K):=by
 intro value slice pins s n H x y v u Q I A o h C;obtain⟨p,xs,i,z,rfl,rfl,hq,E,q⟩:=h;cases A
 obtain⟨t,rfl⟩:=o;obtain⟨B,r,l,L⟩:=I.tuple hq;obtain⟨j,J,G,U,T,N⟩:=Ef E;obtain⟨w,Y,f⟩:=r.get G;have M:=Fb;have g:EP X pins n Q w s:=⟨z,H,I,f,q⟩
 exact subscriptTail_builtinR l.typeIs slot_tuple_getitem.lookup
  (getItem_tuple l (by lia) (by lia) (by rw[Qo,←r.length];exact J) (by grind) ⟨rfl,g⟩) C
def Zfk:IxR X Zbd:=by
 intro value slice pins s E H x y v u Q I l g h n;obtain⟨z,i,c,rfl,rfl,J,p,q⟩:=h;obtain⟨t,rfl⟩:=l;obtain⟨G,rfl⟩:=g;obtain⟨j,f,A,M,w,r⟩:=Ef p;have o:z.cps.toList.length=z.length:=by simp[Str.length]
 rw[o]at f w r;have L:=Fb
 exact tail_any (typeIs_str s z t) slot_str_getitem.lookup (getItem_str (by
  have C:decide (i < -(2 ^ 63:Int))=false:=Qc (by lia);have B:decide (i>=2 ^ 63)=false:=Qc (by lia);rw[C,B,Bool.or_false]) (by rw[f];simpa using A) ⟨.str ⟨#[c]⟩,H,I.tok _,⟨_,rfl⟩,q⟩) n
def Ze6(f:Yl)(n j:Nat)(u:Value):Obj.mapSeq (·.setIfInBounds j u) {cls:=.type "list",data:=.seq f.toArray n}={cls:=.type "list",data:=.seq (f.set j u).toArray n}:=by
 simp[Obj.mapSeq]
def Inv.lst {g:St}{H}{s}{p}{xs} (I:Inv X pins g H s) (h:H p=some (.lst xs)) :
  ∃f n,Vals xs f/\s.heap.get? p=some {cls:=.type "list",data:=.seq f.toArray n}/\xs.length<=sizeLine:=by
 obtain⟨z,f,n,r,e⟩:=I.hok p _ h
 grind
def Inv.lstUpd {v:St}{H}{s}{p}{xs l}{g its':Yl}{n o}{f} (I:Inv X pins v H s) (h:H p=some (.lst xs))
  (y:s.heap.get? p=some {cls:=.type "list",data:=.seq g.toArray n}) (w:f {cls:=.type "list",data:=.seq g.toArray n}={cls:=.type "list",data:=.seq its'.toArray o}) (r:Vals l its') (x:l.length<=sizeLine) (t:Nat) :
  Inv X pins v (upd H p<|.lst l) {s with heap:=s.heap.update p f,toks:=t}:=by
 have e:(s.heap.update p f).get? p=some {cls:=.type "list",data:=.seq its'.toArray o}:=by
  rw[Q4 f y (by rw[w]<;>rfl),w]
 refine I.write (by rw[h];trivial) (.inl rfl) (λb u z q=>(QB _ _<|Ne.symm z).trans q) ⟨_,e⟩ ?_;exact⟨x,its',o,r,e⟩
def ME:V->V->V->Hp->(Hp->Prop)->Prop:=λo i v H Q=>∃p xs k j,o=.ref p/\i=.int k/\H p=some (.lst xs)/\ixN xs.length k=some j/\Q (upd H p<|.lst<|xs.set j v)
def Zq2:MG X ME:=by
 intro pins s M H o i v N T u Q I G ri E h;obtain⟨p,xs,k,j,rfl,rfl,y,L,q⟩:=h;cases G
 obtain⟨t,rfl⟩:=ri;obtain⟨f,n,r,l,J⟩:=I.lst y;obtain⟨g,Y,A,z⟩:=Zac L;have w:=r.length;have U:=Fb
 have C:=
  I.lstUpd y l (Ze6 f n j u) (r.set E j) (by rw[QN];exact J) s.toks
 by_cases B:0<=k
 ·have x:k.toNat=j:=by
   rw[seqIndex_of B z]at g;exact WT g
  exact PySem.W.ki_setAt l B (by lia) (by rw[Qo,←w];exact z) (by rw[x];exact⟨_,C,q⟩)
 ·have x:(k+(f.toArray.size:Int)).toNat=j:=by
   rw[seqIndex_neg (by lia) A]at g;rw[Qo,←w];exact WT g
  exact PySem.W.ki_setBack l (by lia) (by rw[Qo,←w];exact A) (by lia) (by rw[x];exact⟨_,C,q⟩)
def Zbw(lo f:Option Int)(n:Nat):(sliceBounds lo f none n).1=((HT.sIx n 0 lo:Nat):Int)/\(sliceBounds lo f none n).2.1=((HT.sIx n n f:Nat):Int)/\(sliceBounds lo f none n).2.2=1:=by
 refine⟨?_,?_,rfl⟩
 ·cases lo with
  |none=>simp[sliceBounds,HT.sIx]
  |some i=>
   simp only[sliceBounds,HT.sIx,Option.getD_none,show(1:Int)>0 by decide,if_true];by_cases h:i<0
   ·grind
   ·simp only[h,J2]<;>lia
 ·cases f with
  |none=>simp[sliceBounds,HT.sIx]
  |some i=>
   simp only[sliceBounds,HT.sIx,Option.getD_none,show(1:Int)>0 by decide,if_true];by_cases h:i<0
   ·simp only[h,if_true]<;>lia
   ·simp only[h,J2]<;>lia
def Zrc(f:Yl)(lo g:Option Int):slicePick f.toArray lo g none=((f.drop<|HT.sIx f.length 0 lo).take (HT.sIx f.length f.length g-HT.sIx f.length 0 lo)).toArray:=by
 obtain⟨n,l,h⟩:=Zbw lo g f.toArray.size;unfold slicePick;rw[n,l,h];simp only[sliceRange_one,pick_run,Qo]<;>rfl
def CY(K:Yd):V->Option Int->Option Int->Hp->VK->Prop:=λx lo f H Q=>∃a xs,x=.ref a/\SqL K H a xs/\∀p,H p=none->Q (.ref p) (upd H p<|.lst<|Bv xs lo f)
def Zp4:SlR X (CY X.K):=by
 intro pins s z H x v B A lo l sl Q I n y p o h;obtain⟨a,xs,rfl,hx,q⟩:=h;cases n
 obtain⟨u,r,g,w⟩:=I.list hx;have f:=r.length;refine⟨"list",_,slot_list_getitem.lookup,g.isList.typeIs,?_⟩;refine wpAny_getItem_list_slice g.isList y p o .none (by simp) ?_ (by grind);rw[Zrc,←f];refine⟨.ref s.heap.objs.size,_,I.laid (λb C q=>WB _ q) (WG _) ?_,rfl,q _ (I.hok.fresh<|WG _)⟩;exact⟨WQ (Zp6 xs lo l) w,_,0,(r.drop<|HT.sIx xs.length 0 lo).take (HT.sIx xs.length xs.length l-HT.sIx xs.length 0 lo),WN _ rfl⟩
noncomputable def PD:V->Bool
 | .non=>true
 | .bl _=>true
 | .int _=>true
 | .str _=>true
 |_=>false
noncomputable def eqV:V->V->Bool
 | .non,.non=>true
 | .bl a,.bl b=>a==b
 | .bl a,.int b=>(if a then 1 else 0)==b
 | .int a,.bl b=>a==(if b then 1 else 0)
 | .int a,.int b=>a==b
 | .str a,.str b=>a==b
 |_,_=>false
def Mf{y x u v}(h:RelV y u)(f:RelV x v)(fy:PD y=true)(l:PD x=true):SeqAt.EqAt A s u v (eqV y x):=by
 cases y with
 |non=>
  cases h
  cases x with
  |non=>cases f;exact SeqAt.EqAt.same _
  |bl b=>cases f;exact SeqAt.EqAt.none_bool b
  |int b=>obtain⟨t,rfl⟩:=f;exact SeqAt.EqAt.none_int b t
  |str b=>obtain⟨t,rfl⟩:=f;exact SeqAt.EqAt.none_str b t
  |_=>exact absurd l WZ
 |bl a=>
  cases h
  cases x with
  |non=>cases f;exact SeqAt.EqAt.bool_none a
  |bl b=>cases f;exact SeqAt.EqAt.bool_bool a b
  |int b=>obtain⟨t,rfl⟩:=f;exact SeqAt.EqAt.bool_int a b t
  |str b=>obtain⟨t,rfl⟩:=f;exact SeqAt.EqAt.bool_str a b t
  |_=>exact absurd l WZ
 |int a=>
  obtain⟨g,rfl⟩:=h;cases x with
  |non=>cases f;exact SeqAt.EqAt.int_none a g
  |bl b=>cases f;exact SeqAt.EqAt.int_bool a g b
  |int b=>obtain⟨t,rfl⟩:=f;exact SeqAt.EqAt.int_int a g b t
  |str b=>obtain⟨t,rfl⟩:=f;exact SeqAt.EqAt.int_str a g b t
  |_=>exact absurd l WZ
 |str a=>
  obtain⟨g,rfl⟩:=h;cases x with
  |non=>cases f;exact SeqAt.EqAt.str_none a g
  |bl b=>cases f;exact SeqAt.EqAt.str_bool a g b
  |int b=>obtain⟨t,rfl⟩:=f;exact SeqAt.EqAt.str_int a g b t
  |str b=>obtain⟨t,rfl⟩:=f;exact SeqAt.EqAt.str_str a g b t
  |_=>exact absurd l WZ
 |_=>exact absurd fy WZ
noncomputable def eqU(x:V)(u:Value):Bool:=match u with
 | .none=>eqV .non x
 | .bool b=>eqV (.bl b) x
 | .int i _=>eqV (.int i) x
 | .str z _=>eqV (.str z) x
 |_=>false
def Mr{x y u}(r:RelV y u)(f:PD y=true):eqU x u=eqV y x:=by
 cases y with
 |non|bl b=>cases r;rfl
 |int i|str z=>obtain⟨t,rfl⟩:=r;rfl
 |_=>trivial
theorem Fm:∀{xs}{us:Yl},Vals xs us->xs.all PD=true->us.any (eqU x)=xs.any λy=>eqV y x
 |_,_,.nil,_=>rfl
 |y::xs,u::us,.cons r t,f=>by
  rw[J0,Qb]at f;rw[VT,VT,Mr r f.1,Fm t f.2]
theorem SG{x v}(h:RelV x v)(l:PD x=true):∀{xs}{us:Yl},Vals xs us->xs.all PD=true->∀u∈us,SeqAt.EqAt A s u v (eqU x u)
 |_,_,.nil,_=>λu g=>by cases g
 |y::xs,u::us,.cons r t,f=>λn g=>by
  rw[J0,Qb]at f;rcases WL.mp g with rfl|g
  ·rw[Mr r f.1];exact Mf r h f.1 l
  ·exact SG h l t f.2 n g
noncomputable def inV(x:V)(xs:List V):Bool:=xs.any λy=>eqV y x
noncomputable def rIn(K:Yd)(neg:Bool):R2:=λx y H Q=>∃p xs,y=.ref p/\(SqL K H p xs\/SqT K H p xs)/\PD x=true/\xs.all PD=true/\Q (.bl (if neg then !inV x xs else inV x xs)) H
def On:OpR X (compareOp .In) (rIn X.K false):=by
 intro pins s A H x y v u Q I l o h;obtain⟨p,xs,rfl,hq,n,fs,q⟩:=h;cases o
 rcases hq with hq|hq
 ·obtain⟨f,r,g,z⟩:=I.list hq;refine SeqAt.in_listAt (eqU x) g.isList (λw hw=>SG l n r fs w (by grind)) ⟨.bl _,H,I,rfl,?_⟩;rwa[show f.toArray.any (eqU x)=f.any (eqU x) by simp,Fm r fs]
 ·obtain⟨f,r,g,z⟩:=I.tuple hq;refine SeqAt.in_tupleAt (eqU x) g (λw hw=>SG l n r fs w (by simpa using hw)) ⟨.bl _,H,I,rfl,?_⟩;rwa[show f.toArray.any (eqU x)=f.any (eqU x) by simp,Fm r fs]
def Zkv:OpR X (compareOp .NotIn) (rIn X.K true):=by
 intro pins s A H x y v u Q I l o h;obtain⟨p,xs,rfl,hq,n,fs,q⟩:=h;cases o
 rcases hq with hq|hq
 ·obtain⟨f,r,g,z⟩:=I.list hq;refine SeqAt.notIn_listAt (eqU x) g.isList (λw hw=>SG l n r fs w (by grind)) ⟨.bl _,H,I,rfl,?_⟩;rwa[show f.toArray.any (eqU x)=f.any (eqU x) by simp,Fm r fs]
 ·obtain⟨f,r,g,z⟩:=I.tuple hq;refine SeqAt.notIn_tupleAt (eqU x) g (λw hw=>SG l n r fs w (by grind)) ⟨.bl _,H,I,rfl,?_⟩;rwa[show f.toArray.any (eqU x)=f.any (eqU x) by simp,Fm r fs]
def Lp:K8 X (.type "list") (λxs H Q=>∃p v,xs=[.ref p]/\(SqL X.K H p v\/SqT X.K H p v)/\∀l,H l=none->Q (.ref l) (upd H l<|.lst v)):=by
 intro pins s N H xs U Q I r h;obtain⟨p,v,rfl,hq,q⟩:=h;obtain⟨u,rfl,T⟩:=vals1 r;cases T
 have C:∀f,Vals v f->v.length<=sizeLine->∀g y,(∀b M,s.heap.get? b=some M->g.get? b=some M)->
   g.get? s.heap.objs.size=some {cls:=.type "list",dict:=none,data:=.seq f.toArray y,slots:=#[]}->EP X pins N Q (.ref s.heap.objs.size) {s with heap:=g}:=λf x A g y z e=>
  ⟨.ref s.heap.objs.size,_,I.laid z (WG _) (show ObjOk X.prog X.w _ g _ (.lst v)from⟨A,f,y,x,e⟩),rfl,q _ (I.hok.fresh<|WG _)⟩
 rcases hq with hq|hq
 ·obtain⟨f,x,E,A⟩:=I.list hq;have B:=x.length;obtain⟨o,G,L,n,J⟩:=E.isList;exact call_list_seq p (.inl rfl) G L J (λg y z e=>C f x A g y z e) (by grind)
 ·obtain⟨f,x,E,A⟩:=I.tuple hq;have B:=x.length;obtain⟨o,G,L,n,J⟩:=E;exact call_list_seq p (.inr rfl) G L J (λg y z e=>C f x A g y z e) (by simp only[Qo]<;>lia)
def Zhu:K8 X (.type "tuple") (λxs H Q=>∃p g,xs=[.ref p]/\((SqL X.K H p g/\∀l,H l=none->Q (.ref l) (upd H l<|.tup g))\/(SqT X.K H p g/\Q (.ref p) H))):=by
 intro pins s x H xs G Q I r h;obtain⟨p,g,rfl,h⟩:=h;obtain⟨u,rfl,B⟩:=vals1 r;cases B
 rcases h with⟨hq,q⟩|⟨hq,q⟩
 ·obtain⟨f,v,w,y⟩:=I.list hq;have z:=v.length;refine call_tuple_list w.isList (λn C=>?_) (by grind);have A:Inv X pins x H {s with heap:=n}:=I.kept C
  have E:Inv X pins x (upd H n.objs.size<|.tup g) {s with heap:=n.push {cls:=.type "tuple",data:=.seq f.toArray}}:=
   A.laid (λb o e=>WB _ e) (WG _) (⟨y,f,v,IsTup.new _ _⟩)
  exact⟨.ref n.objs.size,_,E,rfl,q _ (A.hok.fresh<|WG _)⟩
 ·obtain⟨f,v,w,y⟩:=I.tuple hq;exact call_tuple_same w ⟨.ref p,H,I,rfl,q⟩
def tyV(K:Yd)(T:String)(x:V)(H:Hp):Prop:=match x with
 | .str _=>T = "str"
 | .int _=>T = "int"
 | .ref p=>(T = "list"/\∃xs,SqL K H p xs)\/(T = "tuple"/\∃o,K.lookup p=some o/\o.cls=.type "tuple"/\o.dict=none)\/
   (T = "dict"/\((∃f,H p=some (.dK f))\/∃f,H p=some (.dT f)))\/(T = "set"/\∃S n,H p=some (.set S n))
 |_=>False
def Zay{y:St}{H}{s}{T}{x}{v}(I:Inv X pins y H s)(r:RelV x v)(h:tyV X.K T x H) :
  s.TypeIs v T/\∀a,v=.ref a->∃ob,s.heap.get? a=some ob/\ob.dict=none:=by
 cases x with
 |str z=>
  obtain⟨t,rfl⟩:=r;cases h
  exact⟨typeIs_str s z t,λ_ e=>nomatch e⟩
 |int i=>
  obtain⟨t,rfl⟩:=r;cases h
  exact⟨typeIs_int s i t,λ_ e=>nomatch e⟩
 |ref p=>
  cases r
  rcases h with⟨rfl,xs,hq⟩|⟨rfl,o,f,B,q⟩|⟨rfl,f⟩|⟨rfl,S,n,f⟩
  ·obtain⟨A,_,w,_⟩:=I.list hq;refine⟨w.isList.typeIs,λa e=>?_⟩;cases e
   obtain⟨o,n,e,c,q,_⟩:=w;exact⟨o,e,q⟩
  ·refine⟨⟨o,I.kIn p o f,B⟩,λa e=>?_⟩;cases e
   exact⟨o,I.kIn _ o f,q⟩
  ·have z:∃o,s.heap.get? p=some o/\o.ExactDict:=by
    rcases f with⟨l,f⟩|⟨l,f⟩
    ·obtain⟨_,_,_,_,o,_,_,e,g,_⟩:=I.hok p _ f;exact⟨o,e,g⟩
    ·obtain⟨_,_,_,_,o,_,_,e,g,_⟩:=I.hok p _ f;exact⟨o,e,g⟩
   obtain⟨o,e,g⟩:=z;refine⟨⟨o,e,g.1⟩,λa u=>?_⟩;cases u
   exact⟨o,e,g.2.1⟩
  ·obtain⟨o,_,_,_,e,g,_⟩:=I.hok p _ f;refine⟨⟨o,e,g.1⟩,λa u=>?_⟩;cases u
   exact⟨o,e,g.2.1⟩
 |_=>exact False.elim h
noncomputable def Ca(K:Yd)(T:String)(r:V->List V->Hp->VK->Prop)(h:TE):TE:=λg H Q=>h g H λx f=>tyV K T x f/\r x [] f Q
noncomputable def tBM(K:Yd)(T:String)(r:V->List V->Hp->VK->Prop)(h:TE)(t:TA):TE:=λf H Q=>h f H λx g=>tyV K T x g/\t f g λxs l=>r x xs l Q
variable {o e:Expr}{es:Yn}{to:TE}{t:TA}{name:Str}{apos cpos:Pos}{T id:String}{r:V->List V->Hp->VK->Prop}
def Zkw(z:PlainAttrs T)(slot:Slot T name id)(l:typeOf (.builtin id)=pure (.type "method_descriptor"))(B:MtR X id r)(A:PE X o to)(g:autoParam (attributeBase o name X.env (eval o X.env)=eval o X.env) au_0)(f:autoParam ((apos.endLine==cpos.line)=true) au_0):PE X (.Call (.Attribute o name apos) [] [] cpos) (Ca X.K T r to):=by
 intro pins s n H Q I h;refine wpAny_Call_method0_late g f (thn (A pins s n H _ I h) ?_);rintro v w ⟨x,G,q,p,u,y⟩;obtain⟨E,C⟩:=Zay q p u;exact⟨T,id,z,slot,l,E,C,Calls.callWith_builtin rfl (PySem.evalArgs_none<|B pins w n G x [] v [] Q q p .nil y)⟩
def Bi(M:PlainAttrs T)(slot:Slot T name id)(q:typeOf (.builtin id)=pure (.type "method_descriptor"))(Y:MtR X id r)(U:PE X o to)(ha:PA X (e::es) t)(g:autoParam (attributeBase o name X.env (eval o X.env)=eval o X.env) au_0)
  (l:autoParam (((backTo cpos<|starEach (e::es) X.env).all (λx=>!x.1)&&(backToKw cpos<|keywordEach [] X.env).all (λx=>x.1.isSome)
   && decide ((e::es).length+([]:List Keyword).length+(if ([]:List Keyword).isEmpty then 0 else 1)<30))=true) au_0)
  (f:autoParam ((apos.endLine==cpos.line)=true) au_0) (N:autoParam (starEach (e::es) X.env=(false,eval e X.env)::starEach es X.env) au_0) (n:autoParam ((backTo cpos<|starEach es X.env).any (·.1)=false) au_0) :
  PE X (.Call (.Attribute o name apos) (e::es) [] cpos) (tBM X.K T r to t):=by
 intro pins s p H Q I h;refine wpAny_Call_method_late g l f rfl (thn (U pins s p H _ I h) λv E ⟨x,H1,y,u,B,L⟩=>?_);obtain⟨h1,h2⟩:=Zay y u B;refine⟨T,id,M,slot,q,h1,h2,?_⟩;have w:=ha cpos pins E p H1 _ y L;rw[N]at w ⊢;refine Calls.callWith_builtin (by grind) (JH ?_);exact thn w λA C ⟨z,H2,I2,G,J⟩=>Y pins C p H2 x z v A Q I2 u G J
end
def MtM(X:Cx)(id:String)(r:V->List V->Hp->VK->Prop):Prop:=
 ∀(pins:Yg) (s:Shared) (b:St) (H:Hp) (x:V) (xs:List V) (v:Value) (f:Yl) (Q:VK),Inv X pins b H s->RelV x v->Vals xs f->r x xs H Q->
  wpAny (model X.prog X.w) X.A (call (.builtin id) (v::f)) (EP X pins b Q) X.xe s
def Vals.one:∀{x}{us:Yl},Vals [x] us->∃u,us=[u]/\RelV x u:=by
 intro _ _ h;cases h with
 |cons r t=>
  cases t
  exact⟨_,rfl,r⟩
def Vals.zero:∀{us:Yl},Vals [] us->us=[]
 |_,.nil=>rfl
theorem Vals.eraseIdx:∀{xs us} i,Vals xs us->Vals (xs.eraseIdx i) (us.eraseIdx i)
 |_,_,_,.nil=>.nil
 |_,_,0,.cons _ t=>t
 |_,_,i+1,.cons r t=>.cons r (Vals.eraseIdx i t)
section
variable {X:Cx}{pins:Yg}{σ:St}{H:Hp}{s:Shared}{l b:Addr}{xs ys zs:List V}
def Inv.lset {g its':Yl}{n}{f}{t'} (I:Inv X pins σ H s) (w:H l=some (.lst xs))
  (e:s.heap.get? l=some {cls:=.type "list",data:=.seq g.toArray n}) (r:f g.toArray=its'.toArray) (o:Vals ys its') (h:ys.length<=sizeLine) :
  Inv X pins σ (upd H l<|.lst ys) {s with heap:=s.heap.update l (Obj.mapSeq f),toks:=t'}:=by
 have q:=PySem.IsL.update e f;rw[r]at q;refine I.write (by rw[w];exact trivial) (.inl rfl) (λx u v p=>(QB s.heap (Obj.mapSeq f)<|Ne.symm v).trans p) ⟨_,q⟩ ?_;exact⟨h,its',_,o,q⟩
def Inv.lnew (I:Inv X pins σ H s) (h:Vals ys f) (g:ys.length<=sizeLine) :
  Inv X pins σ (upd H s.heap.objs.size<|.lst ys) {s with heap:=s.heap.push {cls:=.type "list",data:=.seq f.toArray},toks:=t'}:=
 I.laid (λ_ _ q=>WB _ q) (WG _) ⟨g,f,0,h,WN _ rfl⟩
def Inv.fresh (I:Inv X pins σ H s):H s.heap.objs.size=none:=I.hok.fresh (WG _)
def Inv.lstM (I:Inv X pins σ H s) (g:H l=some (.lst xs)):xs.length<=sizeLine/\∃f n,Vals xs f/\xs.length=f.length/\s.heap.get? l=some {cls:=.type "list",data:=.seq f.toArray n}:=by
 obtain⟨z,f,n,r,e⟩:=I.hok l _ g;exact⟨z,f,n,r,r.length,e⟩
def Zrp(h:n<=sizeLine):Builtin.List.listTooLong n=false:=by
 unfold Builtin.List.listTooLong
 grind
end
section
variable {X:Cx}
def DK:V->List V->Hp->VK->Prop:=λx b H Q=>∃l xs y,x=.ref l/\b=[y]/\H l=some (.lst xs)/\xs.length<sizeLine/\Q .non (upd H l<|.lst (xs++[y]))
def By:MtM X "list.append" DK:=by
 intro pins s w H x A v B Q I g o h;obtain⟨l,xs,y,rfl,rfl,f,C,q⟩:=h;cases g
 obtain⟨u,rfl,p⟩:=o.one;obtain⟨z,b,n,r,E,e⟩:=I.lstM f;refine VQ F.slot_list_append ⟨_,e,rfl⟩ F.entry_list_append (F.args_list_append_2 _ _) (PySem.list_append l b.toArray n u<|by grind) ⟨e,?_⟩;refine⟨.non,_,I.lset f e (by simp) (r.append<|.cons p .nil) ?_,rfl,q⟩
 grind
def RP:V->List V->Hp->VK->Prop:=λx g H Q=>∃l b xs f,x=.ref l/\g=[.ref b]/\H l=some (.lst xs)/\H b=some (.lst f)/\xs.length+f.length<=sizeLine/\Q .non (upd H l<|.lst (xs++f))
def Zdq:MtM X "list.extend" RP:=by
 intro pins s M H x U v Y Q I y A h;obtain⟨l,b,xs,N,rfl,rfl,w,J,hz,q⟩:=h;cases y
 obtain⟨u,rfl,B⟩:=A.one;cases B
 obtain⟨z,g,n,r,hl,e⟩:=I.lstM w;obtain⟨T,f,E,C,G,L⟩:=I.lstM J;have p:g.toArray.size+f.toArray.size<=sizeLine:=by grind
 have o:¬(!g.toArray.isEmpty&&Builtin.List.listTooLong (g.toArray.size+f.toArray.size))=true:=by
  rw[Zrp p,JT];exact WZ
 refine VQ F.slot_list_extend ⟨_,e,rfl⟩ F.entry_list_extend (F.args_list_extend_2 _ _)
  (AutoSeq1.list_extend_list_list_0 l g.toArray n b f.toArray E o (by lia)<|by lia) ⟨e,L,?_⟩
 refine⟨.non,_,I.lset w e (by simp) (r.append C) ?_,rfl,q⟩
 grind
noncomputable def OZ:R2:=λx y H Q=>∃l b xs f,x=.ref l/\y=.ref b/\H l=some (.lst xs)/\H b=some (.lst f)/\xs.length+f.length<=sizeLine/\∀p,H p=none->Q (.ref p) (upd H p<|.lst (xs++f))
def Sj:OpR X (binaryOp .Add) OZ:=by
 intro pins s J H x y v u Q I p o h;obtain⟨l,b,xs,L,rfl,rfl,B,C,T,q⟩:=h;cases p
 cases o
 obtain⟨z,g,n,r,U,e⟩:=I.lstM B;obtain⟨M,f,N,w,A,G⟩:=I.lstM C;refine PySem.P.add_list e G ?_ (by grind);have E:g.toArray++f.toArray=(g++f).toArray:=by simp
 rw[E];exact⟨.ref _,_,I.lnew (r.append w) (by grind),rfl,q _ I.fresh⟩
end
end L2
namespace Att
open PySem PySem.W PySem.Calls PyProof.Rows
def Zrm:∀ns vs,WellAll P h vs (ns.map WData.int)->IntsAre vs ns:=by
 intro ns
 induction ns with
 |nil=>
  intro vs w;cases w
  exact .nil
 |cons n ns f=>
  intro vs w;cases w with
  |cons a b=>
   cases a
   exact .cons _ _ (f _ b)
def Zl0{l:OpenLaw}{n}(w:l.most=some n){P}{h}{args}{vals}(b:l.row.toRowW.claim.pre args=true)(o:WellAll P h vals args) :
  ∃a vs ns,vals=[Value.ref a]/\args=[WData.list (ns.map WData.int)]/\h.get? a=some {cls:=.type "list",data:=.seq vs.toArray}/\IntsAre vs ns/\ns.length<=n:=by
 have p:WShape.hasAll [] args [.list .int]=true:=(pre_splitW b).1;have x:l.pre.holds [] {args:=args}=true:=(pre_splitW b).2;obtain⟨d,r,rfl,A,z⟩:=hasAllW_cons p;obtain rfl:=hasAllW_nil z;obtain⟨xs,rfl,y⟩:=hasW_list A;obtain⟨ns,rfl⟩:=items_int y
 have f:ns.length<=n:=by
  have q:(WTm.not<|.lt (.lit<|.int (n:Int))<|.len<|.arg 0).holds [] {args:=[.list (ns.map .int)]}=true:=by
   have q:=(holds_andW x).1;rw[w]at q;lia
  have B:=condW_of q (w_not<|w_lt w_lit<|w_len_list<|w_arg rfl);simp_all
 cases o with
 |cons u s=>
  cases s
  cases u with
  |list v g=>exact⟨_,_,ns,rfl,rfl,v,Zrm ns _ g,f⟩
def Zln(l:OpenLaw)(args:List WData):l.row.toRowW.claim.post args (.bool true) args=true:=
 postW_of
  rfl
  (w_eq_bool (w_res rfl) w_lit) rfl
def Zq7{l:OpenLaw}{n}{q}{loose}{XP}{YP}{d}(Q:l.most=some n)(E:d.params.defaults=[])
  (call:∀w s₀ b y A v o z cd h a vs ns,
   Ground q loose [] XP w s₀ y A b.heap->YP w b.heap->
   b.heap.get? v=some o->o.data=.func (docDef d.name d.params d.body d.scope z cd h)->b.heap.CodeRec cd d.name->y d.name=some (.ref v)->
   b.heap.get? a=some {cls:=.type "list",data:=.seq vs.toArray}->IntsAre vs ns->ns.length<=n->b.gens=#[]->
   codeAny (model l.prog w) callerA (.call (.ref v) ⟨[.ref a],[]⟩) (λr x=>r=.ok (.ret<|.bool true)/\OldK b.heap x.heap/\x.os=b.os/\AllBare x.gens) b) :
  WalkO q loose XP YP l.row.toRowW d [] (λf vs=>PySem.call f vs):=by
 intro w s₀ b y A G Y v o z cd h dV kV N hd H L C hg args vals as p J M B U;obtain rfl:=Dflts.none L E;obtain rfl:=Dflts.noKw L;obtain⟨a,vs,ns,rfl,rfl,s,g,u⟩:=Zl0 Q p B;refine enter_call (Vq (call w s₀ b y A v o z cd h a vs ns G Y N (fd_plain hd) H C s g u hg) λr x hq=>?_);obtain⟨rfl,h2,h3,h4⟩:=hq;exact⟨.inl ⟨.bool true,.bool true,[],rfl,λ_=>rfl,.bool true,Zln l _,λ_=>⟨List.Pairwise.nil,λ_ T=>(nomatch T)⟩⟩,h2,h3,h4⟩
end Att
namespace L2
open PySem PySem.Spec PyProof.Rows
theorem Ak:∀{vs}{ns:Yf},IntsAre vs ns->Vals (ns.map V.int) vs
 |_,_,.nil=>.nil
 |_,_,.cons n t h=>.cons ⟨t,rfl⟩ (Ak h)
def FF(H:Hp):Prop:=∀b,H b=none\/∃o xs,H b=some (.frz o<|.lst xs)
def Zpe{K B U CX k fa a fd x sp f vs ns}(KX:K.In f.heap)(G:f.heap.Ns mainGlobals B)(g:f.heap.Ns builtinsNs U)(hbb:∀x:Str,x≠"__name__"->U x=bootBuiltins x)(J:f.heap.NoLimit)(hg:f.gens=#[])(M:f.heap.get? a=some {cls:=.type "list",data:=.seq vs.toArray})(hi:IntsAre vs ns)(hl:ns.length<=sizeLine)(hr:XS k callerA)(F:∀base,K.In base->base.Ns mainGlobals B->KU P w K B base CX k fa fd [x] sp)(y:∀s u,BindsTo s fd ⟨[u],[]⟩ [(x,u)])(Y:∀H,FF H->SqL K H a (ns.map V.int)->sp [.ref a] H (λv _=>v=.bl true) λ_ _ _=>False)(hCX:∀H e l,CX [] H f (λ_ _ _=>False) e l->False) :
  codeAny (model P w) callerA (.call (.ref fa) ⟨[.ref a],[]⟩) (λr l=>r=.ok (.ret<|.bool true)/\OldK f.heap l.heap/\l.os=f.os/\AllBare l.gens) f:=by
 have rv:=Ak hi
 have core:∀H,FF H->SqL K H a (ns.map V.int)->HOk P w H f.heap->(∀b,H b≠none->b=a)->(H a≠none->K.lookup a=none)->
   codeAny (model P w) callerA (.call (.ref fa) ⟨[.ref a],[]⟩) (λr l=>r=.ok (.ret<|.bool true)/\OldK f.heap l.heap/\l.os=f.os/\AllBare l.gens) f:=by
  intro H hO hS E hA hK;have base_of:∀{b:Addr} {o:Obj},f.heap.get? b=some o->H b=none->(Nm f.heap H).get? b=some o:=λe n=>Zl7 e n
  have T:∀{b:Addr} {o:Obj} {N:Array DictEntry} {Q:Nat},f.heap.get? b=some o->o.data=.dict N Q->H b=none:=λ{b o N Q} e d=>by
   cases q:H b with
   |none=>rfl
   |some u=>
    have e':=hA b (by rw[q];simp);subst e';rw[M]at e;cases e;cases d
  have p:∀{b:Addr} {m:Yh},f.heap.Ns b m->(Nm f.heap H).Ns b m:=λ{b m} ⟨o,N,Q,e,d,r⟩=>⟨o,N,Q,base_of e (T e d),d,r⟩
  have L:=λb o e=>base_of (KX b o e) (by
   cases q:H b with
   |none=>rfl
   |some u=>
    have e':=hA b (by rw[q];simp);subst e';rw[hK (by rw[q];simp)]at e;cases e)
  have hM:Mod K B (Nm f.heap H):=⟨L,p G,⟨U,p g,hbb⟩,let ⟨mc,h1,h2⟩:=J;⟨mc,p h1,h2⟩⟩;have e0:NW P w K B (Nm f.heap H) callerA [] f H:=⟨rfl,hM,λb o e=>Zo6 e,Vp (Zq4 _ _),trivial,λb g=>absurd (show b∈([]:List Addr)from g) (by simp),E,.of_eq hg⟩
  refine Vq ((F _ L<|p G).run callerA [] f H ⟨[.ref a],[]⟩ [.ref a] [.ref a] _ _ hr e0 (y f<|.ref a) (.cons rfl .nil) (Y H hO hS)) λr l h=>?_;cases r with
  |error e=>exact(hCX H e l h).elim
  |ok fl=>
   cases fl with
   |ret u=>
    obtain⟨v,H',os,bare,un,C,r',q⟩:=h;subst q;obtain rfl:=r';refine⟨rfl,OldK.of_keep λb o e=>?_,os,bare⟩;cases q:H b with
    |none=>exact un.keep b o e q (by intro z;exact absurd (show b∈([]:List Addr)from z) (by simp)) (by simp)
    |some u=>
     rcases hO b with z|⟨ob,xs,z⟩
     ·rw[q]at z;cases z
     ·have z2:=un.frzs b ob _ z;obtain⟨e1,_⟩:=E b _ z;obtain⟨e2,_⟩:=C b _ z2;rw[e]at e1;cases e1;exact e2
   |_=>exact False.elim h
 cases hk:K.lookup a with
 |some o=>
  have e:=KX a o hk;rw[M]at e;cases e
  refine core (λ_=>none) (λ_=>.inl rfl) (.inr ⟨_,vs.toArray,_,hk,rfl,rfl,rfl,by rw[Qo,hi.length];exact hl,by simpa using rv⟩) (λb u z=>by have A:=z;cases A) (λb z=>absurd rfl z) λz=>absurd rfl z
 |none=>
  refine core (λb=>if b=a then some (.frz {cls:=.type "list",data:=.seq vs.toArray} (.lst<|ns.map V.int))else none) (λb=>?_) (.inl<|.inr ⟨{cls:=.type "list",data:=.seq vs.toArray},WK rfl⟩) (λb u z=>?_) (λb z=>?_) λ_=>hk
  ·by_cases g:b=a
   ·exact .inr ⟨_,_,WK g⟩
   ·exact .inl (WI g)
  ·by_cases g:b=a
   ·have A:=(WK g).symm.trans z;cases A
    subst g;exact⟨M,by rw[W9];exact hl,vs,_,rv,M⟩
   ·have A:=(WI g).symm.trans z;cases A
  ·by_cases g:b=a
   ·exact g
   ·exact absurd (WI g) z
def Zgf{l:PySem.W.OpenLaw}{n k}{q}{loose}{XP}{YP}{d}{K:Params->Yd}{CX:World->CXT}{sp:World->Sp}{x}(hn:l.most=some n)(J:n<=sizeLine)(M:d.params.defaults=[])(hr:XS k callerA)(hY:∀w h,YP w h->(K w.params).In h)
  (F:∀w y B h,(K w.params).In h->h.Ns mainGlobals y->y d.name=some (.ref B)->
   ∃Q,(∀s u,BindsTo s Q ⟨[u],[]⟩ [(x,u)])/\
    ∀base,(K w.params).In base->base.Ns mainGlobals y->KU l.prog w (K w.params) y base (CX w) k B Q [x] (sp w))
  (E:∀w H a (ns:Yf),ns.length<=n->FF H->SqL (K w.params) H a (ns.map V.int)->sp w [.ref a] H (λv _=>v=.bl true) λ_ _ _=>False)
  (N:∀w H s e C,CX w [] H s (λ_ _ _=>False) e C->False) :
  PySem.W.WalkO q loose XP YP l.row.toRowW d [] (λf vs=>PySem.call f vs):=by
 refine Att.Zq7 hn M λw U z y mb B o pm cd doc a vs ns G Y ho hd hcd L A r p hg=>?_;have KX:=hY w _ Y;obtain⟨Q,hb,hF⟩:=F w y B _ KX G.T.g L;exact Zpe KX G.T.g G.T.b G.T.builtins G.T.nolimit hg A r (WQ p J) hr hF hb (λH hO hS=>E w H a ns p hO hS) λH e C=>N w H z e C
def Znc{l:PySem.W.OpenLaw}{n k}{q}{loose}{XP}{YP}{d}{K:Params->Yd}{CX}{sp:Yd->Sp}{x}(C:l.most=some n)(p:n<=sizeLine)(r:d.params.defaults=[])(B:XS k callerA)(E:∀w h,YP w h->(K w.params).In h)
  (F:∀w b A h,(K w.params).In h->h.Ns mainGlobals b->b d.name=some (.ref A)->
   ∃z,(∀s u,BindsTo s z ⟨[u],[]⟩ [(x,u)])/\
    ∀base,(K w.params).In base->base.Ns mainGlobals b->KU l.prog w (K w.params) b base CX k A z [x] (sp<|K w.params))
  (o:∀K H a (ns:Yf),ns.length<=n->FF H->SqL K H a (ns.map V.int)->sp K [.ref a] H (λv _=>v=.bl true) λ_ _ _=>False)
  (y:∀H s e g,CX [] H s (λ_ _ _=>False) e g->False) :
  PySem.W.WalkO q loose XP YP l.row.toRowW d [] (λf vs=>PySem.call f vs):=
 Zgf C p r B E F (λw H a ns L J G=>o (K w.params) H a ns L J G) λ_ H s e g=>y H s e g
noncomputable def inClass(s:Stmt)(j:Nat):Stmt:=match s with
 | .ClassDef _ _ _ body _ _ _ _ _ _ _=>body.getD j (.Pass ⟨0,0,0,0⟩)
 |_=>.Pass ⟨0,0,0,0⟩
noncomputable def P5(s:Stmt):Arguments:=match s with
 | .FunctionDef _ a _ _ _ _ _ _ _ _=>a
 |_=>{posonlyargs:=[],args:=[],vararg:=none,kwonlyargs:=[],kw_defaults:=[],kwarg:=none,defaults:=[]}
noncomputable def Km(s:Stmt):Yo:=match s with
 | .FunctionDef _ _ b _ _ _ _ _ _ _=>b
 |_=>[]
noncomputable def XH(s:Stmt):Scope:=match s with
 | .FunctionDef _ _ _ _ _ _ b _ _ _=>b
 |_=>{kind:=.function,names:=[],isGenerator:=false,isCoroutine:=false}
noncomputable abbrev CX0:CXT:=λ_ _ _ _ _ _=>False
noncomputable abbrev E0:XK:=λ_ _ _=>False
def P4:P6 CX0 X E0:=λ_ _ _ _ _ _ _ h=>h.elim
structure Fun (K:Yd) (x qual:Str) (st:Stmt) (f:Addr) (fd:FuncData):Prop where
 ex:∃(oc:Value) (od:Yq) (kV doc pm:Value) (an:Yq) (cdv ct:Value) (osl:Array (Yp)),
  fd=PySem.W.fnOf x qual (P5 st) (Km st) (XH st) .none kV doc pm an cdv ct/\K.lookup f=some ⟨oc,od,.func fd,osl⟩/\PySem.W.codeIn K cdv qual=true
 kp:PySem.W.keepIn K (.ref f)=true
section
variable {P:Program}{w:World}{K:Yd}{mg:Yh}{base:Heap}
def Fun.ok {st f o N ps k sp} (F:Fun K x qual st f o) (S:XI N ps (XH st)) (len:∀vs H Q E,sp vs H Q E->vs.length=ps.length)
  (g:∀b A outer s H vs Q E,XS k (A.deeper<|envOfC qual (XH st) s.heap.objs.size f b)->sp vs H Q E->
   ∃t,PSs (Ks CX0 P w K mg base N qual (XH st) f b A outer s H E).nox (Km st) t/\t {nx:=λ_ H'=>Q .non H',rt:=Q} (start N vs) H):KU P w K mg base CX0 (k+1) f o ps sp:=by
 obtain⟨oc,z,kV,v,y,C,b,B,p,rfl,r,n⟩:=F.ex;refine E9 r n S len λA outer s H vs Q E u l=>?_;obtain⟨t,h,q⟩:=g b A outer s H vs Q E u l;exact⟨t,h.nox,q⟩
def Fun.binds {st f o ps} (F:Fun K x qual st f o)
  (h:∀kV b l n g ct us,us.length=ps.length->bindArgs (PySem.W.fnOf x qual (P5 st) (Km st) (XH st) .none kV b l n g ct) ⟨us,[]⟩=pure (ps.zip us)):Binds K o ps []:=by
 obtain⟨oc,r,kV,b,l,n,g,ct,p,rfl,s,q⟩:=F.ex;exact .all (h kV b l n g ct)
def F4{st f oc p o h kV g n b ct}(l:K.lookup f=some ⟨oc,p,.func (PySem.W.fnOf x qual (P5 st) (Km st) (XH st) .none kV g n o b ct),h⟩)(c:PySem.W.codeIn K b qual=true)(k:PySem.W.keepIn K (.ref f)=true):Fun K x qual st f (PySem.W.fnOf x qual (P5 st) (Km st) (XH st) .none kV g n o b ct):=⟨⟨oc,p,kV,g,n,o,b,ct,h,rfl,l,c⟩,k⟩
end
def KN{k}(b:XS k A):A.units+1<cLine:=QJ (Nat.add_le_add_left (by simp) _) b.units
def Zkx(h:n<=1000):n<sizeLine:=QJ h (by decide)
section
variable {X:Cx}
def pv(i:Nat){x pos}(h:autoParam (X.N[i]?=some x) au_0)(f:autoParam (Vis X.env.scope x) au_4)(g:autoParam ((x==("__debug__" : Str))=false) au_1)(b:autoParam ((x==("__classdict__" : Str))=false) au_1):PE X (.Name x pos) (Pa i):=Zjm h f g b
end
def Kn{A B:Prop}(h:B):if false=true then A else B:=by grind
def PY{A B:Prop}(h:A):if true=true then A else B:=by grind
def XU{c A B:Prop}[Decidable c](f:c->A)(b:¬c->B):if c then A else B:=by grind
def OW{c A B:Prop}[Decidable c](b:c)(h:B):if (!decide c)=true then A else B:=by grind
def Same(H H':Hp):Prop:=∀b o,H b=some o->H' b=some o
def Same.refl (H:Hp):Same H H:=λ_ _ h=>h
def Same.trans (a:Same H g) (b:Same g f):Same H f:=λc o h=>b c o (a c o h)
def Same.free (e:Same H H') {l} (h:H' l=Option.none):H l=Option.none:=by
 cases q:H l with
 |none=>rfl
 |some o=>
  rw[e l o q]at h;lia
def Same.seq {K H H'}{a xs} (e:Same H H') (h:SqL K H a xs):SqL K H' a xs:=by
 rcases h with(h|⟨o,h⟩)|h
 ·exact .inl (.inl<|e _ _ h)
 ·exact .inl (.inr ⟨o,e _ _ h⟩)
 ·exact .inr h
end L2
set_option maxHeartbeats 4000000
namespace L2
open PySem PySem.Spec PyProof.Rows
section
variable {κ:Type} [DecidableEq κ]
noncomputable def XX(b:List (κ×V))(k:κ):Option V:=(b.find? λf=>decide (f.1=k)).map (·.2)
noncomputable def putK(b:List (κ×V))(k:κ)(v:V):List (κ×V):=
 if (b.any λf=>decide (f.1=k))=true then b.map (λf=>if f.1=k then(f.1,v)else f)else b++[(k,v)]
def Te{p:κ×V}{r:List (κ×V)}{k:κ}(e:p.1=k):XX (p::r) k=some p.2:=by simp[XX,Vu,e]
def PZ{p:κ×V}{r:List (κ×V)}{k:κ}(e:¬p.1=k):XX (p::r) k=XX r k:=by simp[XX,Vu,e]
theorem BU(k:κ):∀b:List (κ×V),(b.any λf=>decide (f.1=k))=(XX b k).isSome
 |[]=>rfl
 |p::r=>by
  rw[VT];by_cases e:p.1=k
  ·simp only[Te e,WH e,Bool.true_or,Option.isSome_some]
  ·rw[PZ e,Qc e,Bool.false_or];exact BU k r
theorem GX(k j:κ)(y:V):∀b:List (κ×V),XX (b.map λf=>if f.1=k then(f.1,y)else f) j=(XX b j).map λx=>if j=k then y else x
 |[]=>rfl
 |p::r=>by
  have g:=GX k j y r;rw[Qe];by_cases h:p.1=k
  ·rw[WK h];by_cases e:p.1=j
   ·rw[Te (p:=(p.1,y)) e,Te e,JI,WK (e.symm.trans h)]
   ·rw[PZ (p:=(p.1,y)) e,PZ e,g]
  ·rw[WI h];by_cases e:p.1=j
   ·rw[Te (p:=p) e,Te e,JI,WI (λz=>h (e.trans z))]
   ·rw[PZ (p:=p) e,PZ e,g]
theorem HE(k j:κ)(y:V):∀b:List (κ×V),XX b k=none->XX (b++[(k,y)]) j=if j=k then some y else XX b j
 |[],_=>by
  by_cases e:k=j
  ·rw[WK e.symm];exact Te (p:=(k,y)) e
  ·rw[WI (λz=>e z.symm)];exact PZ (p:=(k,y)) e
 |p::r,f=>by
  rw[Vm];have g:¬p.1=k:=λz=>by rw[Te z]at f;cases f
  rw[PZ g]at f;have h:=HE k j y r f;by_cases e:p.1=j
  ·rw[Te e,Te e,WI (λz=>g (e.trans z))]
  ·rw[PZ e,PZ e,h]
def B8(b:List (κ×V))(k j:κ)(y:V):XX (putK b k y) j=if j=k then some y else XX b j:=by
 unfold putK;by_cases a:(b.any λf=>decide (f.1=k))=true
 ·rw[WK a,GX];rw[BU]at a;by_cases e:j=k
  ·obtain⟨x,hx⟩:=Option.isSome_iff_exists.mp a;rw[WK e,e,hx,JI,WK rfl]
  ·rw[WI e];cases XX b j with
   |none=>rfl
   |some x=>rw[JI,WI e]
 ·rw[WI a];refine HE k j y b ?_;rw[BU]at a;cases q:XX b k with
  |none=>rfl
  |some x=>rw[q]at a;exact(a rfl).elim
def BS(b:List (κ×V))(k:κ)(v:V):(putK b k v).length<=b.length+1:=by
 unfold putK;split
 ·rw[W9];omega
 ·rw[Qa,Qn,List.length_nil];omega
def Zei{b:List (κ×V)}{k:κ}(v:V)(h:XX b k=none):putK b k v=b++[(k,v)]:=by
 unfold putK;rw[BU,h];exact WI (by decide)
def RelO.isSome_eq {o:Option V}{u:Yp} (r:RelO o u):o.isSome=u.isSome:=by
 cases o with
 |none=>cases u with
  |none=>rfl
  |some _=>exact(show False from r).elim
 |some _=>cases u with
  |none=>exact(show False from r).elim
  |some _=>rfl
def KV.val {f:List (κ×V)}{vs:List (κ×Value)} (r:KV f vs) (k:κ):RelO (XX f k) (valueAt vs k):=by
 unfold KV at r
 induction r with
 |nil=>exact True.intro
 | @cons p q u g h t o=>
  obtain⟨n,s⟩:=h;by_cases e:p.1=k
  ·have l:q.1=k:=n.symm.trans e;have b:valueAt (q::g) k=some q.2:=by simp[valueAt,Vu,l]
   rw[Te e,b];exact s
  ·have l:¬q.1=k:=λz=>e (n.trans z);have b:valueAt (q::g) k=valueAt g k:=by simp[valueAt,Vu,l]
   rw[PZ e,b];exact o
def KV.any {b:List (κ×V)}{vs:List (κ×Value)} (r:KV b vs) (k:κ):(b.any λf=>decide (f.1=k))=vs.any λf=>decide (f.1=k):=by
 unfold KV at r
 induction r with
 |nil=>rfl
 |cons h t g=>rw[VT,VT,g,h.1]
def KV.repl {f:List (κ×V)}{vs:List (κ×Value)} (r:KV f vs) (k:κ) {y:V}{u:Value} (l:RelV y u) :
  KV (f.map λb=>if b.1=k then(b.1,y)else b) (vs.map λb=>if b.1=k then(b.1,u)else b):=by
 unfold KV at r ⊢
 induction r with
 |nil=>exact .nil
 | @cons p q v s h t n=>
  rw[Qe,Qe];refine .cons ?_ n;obtain⟨g,o⟩:=h;by_cases e:p.1=k
  ·rw[WK e,WK (g.symm.trans e)];exact⟨g,l⟩
  ·rw[WI e,WI (λz=>e (g.trans z))];exact⟨g,o⟩
def KV.put {b:List (κ×V)}{vs:List (κ×Value)} (r:KV b vs) (k:κ) {y:V}{u:Value} (f:RelV y u):KV (putK b k y) (stored vs k u):=by
 unfold putK stored;rw[r.any k];by_cases e:(vs.any λg=>decide (g.1=k))=true
 ·rw[WK e,WK e];exact r.repl k f
 ·rw[WI e,WI e];exact Paired.snoc r ⟨rfl,f⟩
def KV.length {b:List (κ×V)}{vs:List (κ×Value)} (r:KV b vs):b.length=vs.length:=Paired.length r
end
def Fk{P:Program}{w:World}{k:Key}{u:Value}(r:RelV (kV k) u):(PM P w).is k u=true:=by
 cases k with
 |inl i=>obtain⟨t,e⟩:=(show ∃t,u=Value.int i t from r);subst e;exact Zmu P w i t
 |inr x=>obtain⟨t,e⟩:=(show ∃t,u=Value.str x t from r);subst e;exact Zg2 P w x t
theorem RV{P:Program}{w:World}:∀{b:List Key}{us:Yl},Vals (b.map kV) us->ItemsAre (PM P w) b us
 |[],_,r=>by rw[List.map_nil]at r;cases r;exact .nil
 |k::b,_,r=>by
  rw[Qe]at r;cases r with
  |cons h t=>exact .cons (Fk h) (RV t)
abbrev KT(H:Hp):List (List Key×V)->List (List Key×Addr×Value)->Prop:=Paired λp q=>p.1=q.1/\H q.2.1=some (.tup<|p.1.map kV)/\RelV p.2 q.2.2
def KT.val {H:Hp}{f:List (List Key×V)}{xs:List (List Key×Addr×Value)} (r:KT H f xs) (k:List Key):RelO (XX f k) ((atKey xs k).map (·.2)):=by
 induction r with
 |nil=>exact True.intro
 | @cons p q u g h t o=>
  obtain⟨n,_,s⟩:=h;by_cases e:p.1=k
  ·have l:q.1=k:=n.symm.trans e;have b:atKey (q::g) k=some q.2:=by simp[atKey,Vu,l]
   rw[Te e,b];exact s
  ·have l:¬q.1=k:=λz=>e (n.trans z);have b:atKey (q::g) k=atKey g k:=by simp[atKey,Vu,l]
   rw[PZ e,b];exact o
def KT.repl {H:Hp}{b:List (List Key×V)}{xs:List (List Key×Addr×Value)} (r:KT H b xs) (k:List Key) {y:V}{u:Value} (n:RelV y u) :
  KT H (b.map λg=>if g.1=k then(g.1,y)else g) (xs.map<|putAt k u):=by
 induction r with
 |nil=>exact .nil
 | @cons p q w v h t o=>
  rw[Qe,Qe];refine .cons ?_ o;obtain⟨f,l,s⟩:=h;unfold putAt;by_cases e:p.1=k
  ·rw[WK e,WK (f.symm.trans e)];exact⟨f,l,n⟩
  ·rw[WI e,WI (λz=>e (f.trans z))];exact⟨f,l,s⟩
def KT.put {H:Hp}{f:List (List Key×V)}{xs:List (List Key×Addr×Value)} (r:KT H f xs) (k:List Key) {b:Addr}{y:V}{u:Value} (l:H b=some (.tup<|k.map kV)) (g:RelV y u) :
  KT H (putK f k y) (storedH xs k b u):=by
 have e:(f.any λh=>decide (h.1=k))=(atKey xs k).isSome:=by
  rw[BU,(r.val k).isSome_eq,Jq]
 unfold putK storedH;rw[e];by_cases q:(atKey xs k).isSome=true
 ·rw[WK q,WK q];exact r.repl k g
 ·rw[WI q,WI q];exact Paired.snoc r ⟨rfl,l,g⟩
def KT.keeps {H H':Hp}{f:List (List Key×V)}{xs:List (List Key×Addr×Value)} (r:KT H f xs) (h:∀b g,H b=some (.tup g)->H' b=some (.tup g)):KT H' f xs:=
 Paired.mapP r λ_ _ z=>⟨z.1,h _ _ z.2.1,z.2.2⟩
section
variable {P:Program}{w:World}{H:Hp}{h:Heap}{a:Addr}
def HH{u:HO}(ok:HOk P w H h)(e:Rd H a u):ObjOk P w H h a u:=e.ok ok
def Bs{b:List (Key×V)}(ok:HOk P w H h)(e:Rd H a (.dK b)):b.length<=sizeLine/\(a==sysModules)=false/\∃vs,KV b vs/\h.DictOf (PM P w) a vs:=
 show ObjOk P w H h a (.dK b)from HH ok e
def Zcq{b:List (Key×V)}(ok:HOk P w H h)(e:H a=some (.dK b)):b.length<=sizeLine/\(a==sysModules)=false/\∃vs,KV b vs/\h.DictOf (PM P w) a vs:=Bs ok (.inl e)
def SK{b:List Key}(ok:HOk P w H h)(e:H a=some (.tup<|b.map kV)):(tupleKind<|PM P w).is h b a:=by
 obtain⟨_,f,r,o,p,l,n,g⟩:=(show ObjOk P w H h a (.tup<|b.map kV)from ok a _ e)
 exact⟨o,f.toArray,n,p,l,g,by simpa using RV r⟩
def Bt{b:List (List Key×V)}(ok:HOk P w H h)(e:Rd H a (.dT b)):b.length<=sizeLine/\(a==sysModules)=false/\
  ∃xs,KT H b xs/\h.DictOfH (tupleKind<|PM P w) a xs:=by
 obtain⟨z,y,xs,r,o,A,B,v,u,s,n,g⟩:=(show ObjOk P w H h a (.dT b)from HH ok e)
 refine⟨z,y,xs,r,o,A,B,v,u,s,n,λx hx=>?_,g⟩
 have all:∀{l:List (List Key×V)} {m:List (List Key×Addr×Value)},KT H l m->∀x∈m,(tupleKind<|PM P w).is h x.1 x.2.1:=by
  intro l m q
  induction q with
  |nil=>intro x hx;exact nomatch hx
  | @cons p q E C hq t f=>
   intro x hx;rcases WL.mp hx with e|hx
   ·subst e;exact SK ok (by rw[←hq.1];exact hq.2.1)
   ·exact f x hx
 exact all r x hx
def FM{b:List (List Key×V)}(ok:HOk P w H h)(e:H a=some (.dT b)):b.length<=sizeLine/\(a==sysModules)=false/\
  ∃xs,KT H b xs/\h.DictOfH (tupleKind<|PM P w) a xs:=Bt ok (.inl e)
end
def DGet(H:Hp)(a:Addr)(y:V)(r:Option V):Prop:=
 (∃f k,Rd H a (.dK f)/\y=kV k/\r=XX f k)\/∃f k b,Rd H a (.dT f)/\y=.ref b/\H b=some (.tup<|k.map kV)/\r=XX f k
def DPut(H:Hp)(a:Addr)(y v:V)(H':Hp):Prop:=
 (∃f k,H a=some (.dK f)/\y=kV k/\f.length<sizeLine/\H'=upd H a (.dK<|putK f k v))\/
 ∃f k b,H a=some (.dT f)/\y=.ref b/\H b=some (.tup<|k.map kV)/\f.length<sizeLine/\H'=upd H a (.dT<|putK f k v)
def DGet.k {H:Hp}{a:Addr}{b:List (Key×V)}{k:Key} (e:H a=some (.dK b)):DGet H a (kV k) (XX b k):=.inl ⟨b,k,.inl e,rfl,rfl⟩
def DGet.t {H:Hp}{a b:Addr}{f:List (List Key×V)}{k:List Key} (e:H a=some (.dT f)) (g:H b=some (.tup<|k.map kV)):DGet H a (.ref b) (XX f k):=.inr ⟨f,k,b,.inl e,rfl,g,rfl⟩
def DPut.k {H:Hp}{a:Addr}{b:List (Key×V)}{k:Key}{v:V} (e:H a=some (.dK b)) (f:b.length<sizeLine):DPut H a (kV k) v (upd H a<|.dK<|putK b k v):=.inl ⟨b,k,e,rfl,f,rfl⟩
def DPut.t {H:Hp}{a b:Addr}{f:List (List Key×V)}{k:List Key}{v:V} (e:H a=some (.dT f)) (h:H b=some (.tup<|k.map kV)) (g:f.length<sizeLine) :
  DPut H a (.ref b) v (upd H a<|.dT<|putK f k v):=.inr ⟨f,k,b,e,rfl,h,g,rfl⟩
section
variable {X:Cx}{pins:Yg}{σ:St}{H:Hp}{s:Shared}{a:Addr}{y v:V}{u r:Value}{o:Option V}{A:Around}{E:Yi}
def Inv.big (I:Inv X pins σ H s):sysModules<s.heap.objs.size:=by
 have h:mainGlobals<s.heap.objs.size:=(I.mod.glob.keeps I.bk).lt;exact VH (by decide) h
def Zcs{Q:Yi}(L:A.units+1<cLine)(I:Inv X pins σ H s)(g:DGet H a y (some v))(G:RelV y u)(h:∀n C,Inv X pins σ H C->RelV v n->Q n C) :
  wpAny (model X.prog X.w) A (getItem (.ref a) u) Q E s:=by
 rcases g with⟨q,k,e,ey,l⟩|⟨q,k,b,e,ey,T,l⟩
 ·subst ey;obtain⟨z,N,J,rel,B⟩:=Bs I.hok e;obtain⟨n,hw,f⟩:=RelO.some_of (v:=v) (o:=valueAt J k) (by rw[l];exact rel.val k);exact wpAny_getItem_of (Fk G) B.mapOf hw (h n _ (I.tok _) f)
 ·subst ey;cases (show u=Value.ref b from G)
  obtain⟨z,N,xs,rel,B⟩:=Bt I.hok e;obtain⟨n,hw,f⟩:=RelO.some_of (v:=v) (o:=(atKey xs k).map (·.2)) (by rw[l];exact rel.val k);obtain⟨p,M,x⟩:=Option.map_eq_some_iff.mp hw;refine wpAny_getItem_heap (Jd L) (SK I.hok T) B M ?_;rw[x];exact h n _ (I.tok _) f
def Zdd{Q:Yi}(C:A.units+1<cLine)(I:Inv X pins σ H s)(g:DGet H a y o)(B:RelV y u)(h:∀x,Inv X pins σ H x->Q (.bool o.isSome) x) :
  wpAny (model X.prog X.w) A (compareOp .In u<|.ref a) Q E s:=by
 rcases g with⟨f,k,e,ey,l⟩|⟨f,k,b,e,ey,G,l⟩
 ·subst ey;obtain⟨z,n,J,rel,p⟩:=Bs I.hok e;refine wpAny_in_of (Fk B) n p.mapOf ?_;rw[←(rel.val k).isSome_eq,←l];exact h _ (I.tok _)
 ·subst ey;cases (show u=Value.ref b from B)
  obtain⟨z,n,xs,rel,p⟩:=Bt I.hok e;refine wpAny_in_heap (Jd C) (SK I.hok G) n p ?_;have q:=(rel.val k).isSome_eq;rw[Jq]at q;rw[←q,←l];exact h _ (I.tok _)
def Zpg{Q:Yi}(C:A.units+1<cLine)(I:Inv X pins σ H s)(g:DGet H a y o)(B:RelV y u)(h:∀x,Inv X pins σ H x->Q (.bool (!o.isSome)) x) :
  wpAny (model X.prog X.w) A (compareOp .NotIn u<|.ref a) Q E s:=by
 rcases g with⟨f,k,e,ey,l⟩|⟨f,k,b,e,ey,G,l⟩
 ·subst ey;obtain⟨z,n,J,rel,p⟩:=Bs I.hok e;refine wpAny_notIn_of (Fk B) n p.mapOf ?_;rw[←(rel.val k).isSome_eq,←l];exact h _ (I.tok _)
 ·subst ey;cases (show u=Value.ref b from B)
  obtain⟨z,n,xs,rel,p⟩:=Bt I.hok e;refine wpAny_notIn_heap (Jd C) (SK I.hok G) n p ?_;have q:=(rel.val k).isSome_eq;rw[Jq]at q;rw[←q,←l];exact h _ (I.tok _)
def Fu{f:Heap}{t':Nat}{ob:HO}(I:Inv X pins σ H s)(g:Mut (H a))(h:Heap.SameBut a s.heap f)(l:∃q,f.get? a=some q)(new:ObjOk X.prog X.w (upd H a ob) f a ob) :
  Inv X pins σ (upd H a ob) {s with heap:=f,toks:=t'}:=
 I.write (x:=a) (e:=a) g (.inl rfl) (λb q n z=>(h.2 b n).trans z) l new
def Zm0{P:Program}{w:World}{H':Hp}{f:Heap}{b:List (Key×V)}{vs:List (Key×Value)}(z:b.length<=sizeLine)(g:(a==sysModules)=false)(rel:KV b vs)(dd:f.DictOf (PM P w) a vs) :
  ObjOk P w H' f a (.dK b):=⟨z,g,vs,rel,dd⟩
def Zew{H':Hp}{Q:Unit->Shared->Prop}(hu:A.units+1<cLine)(I:Inv X pins σ H s)(g:DPut H a y v H')(M:RelV y u)(rv:RelV v r)(h:∀L,Inv X pins σ H' L->Q () L) :
  wpAny (model X.prog X.w) A (setItem (.ref a) u r) Q E s:=by
 rcases g with⟨f,k,e,ey,l,G⟩|⟨f,k,b,e,ey,U,l,G⟩
 ·subst ey G;obtain⟨z,C,Y,rel,J⟩:=Zcq I.hok e;have p:Y.length<=sizeLine:=by rw[←rel.length];exact z
  have B:(putK f k v).length<=sizeLine:=by have:=BS f k v;omega
  refine wpAny_setItem_pairs (hsz:=p) (Fk M) J λN n x=>h _ ?_;have he:∃q,N.get? a=some q:=let ⟨q,_,_,hq,_⟩:=n;⟨q,hq⟩;exact Fu I (by rw[e];exact True.intro) x he (Zm0 B C (rel.put k rv) n)
 ·subst ey G;cases (show u=Value.ref b from M)
  obtain⟨z,C,xs,rel,J⟩:=FM I.hok e;have p:xs.length<=sizeLine:=by rw[←Paired.length rel];exact z
  have B:(putK f k v).length<=sizeLine:=by have:=BS f k v;omega
  refine wpAny_setItem_heap (hsz:=p) (Jd hu) (SK I.hok U) J λN n x=>h _ ?_;obtain⟨q,es,ep,hq,h2,h3,h4,_,h5⟩:=n;refine Fu I (by rw[e];exact True.intro) x ⟨q,hq⟩ ⟨B,C,_,(rel.put k U rv).keeps λc ys T=>?_,q,es,ep,hq,h2,h3,h4,h5⟩;rw[XM (AO T e (λz=>nomatch z))];exact T
end
def DB(i:Expr):Prop:=∀b f,subscripted i false b f=operate [b,f] (getItem b f)
def HI{prog:Program}{w:World}{A:Around}{E:Yi}{s:Shared}{env:Env}{value slice:Expr}{pos:Pos}{T id:String}{Q:Yi}(y:typeLookup (.type T) "__getitem__"=pure (some<|.builtin id))(v:DB slice)(h:wpAny (model prog w) A (eval value env) (λo l=>wpAny (model prog w) A (eval slice env) (λi b=>b.TypeIs o T/\wpAny (model prog w) A (getItem o i) Q E b) E l) E s) :
  wpAny (model prog w) A (eval (.Subscript value slice pos) env) Q E s:=by
 refine Subscript_ (Qr h (λo l q=>Qr q (λi b f=>?_) λ_ _ x=>x) λ_ _ x=>x);obtain⟨u,f⟩:=f;unfold subscriptTail;refine W8 ?_;rw[getitemInPython_of_ne u.not_modules];refine W8 (wpAny_specialOf u y ?_)
 have n:wpAny (model prog w) A (subscripted slice false o i) (λr g=>wpAny (model prog w) A (letTemporaryGo value o r >>= λ_=>pure r) Q E g) E b:=by
  rw[v o i];exact wpAny_operating (Qr f (λr g p=>W8 (wpAny_letTemporaryGo<|WD p)) λ_ _ x=>x)
 first
  |exact WD (W8 n)
  |exact W8 (WD<|W8 n)
  |exact W8 n
def Zfc{X:Cx}{pins:Yg}{l:St}{H:Hp}{s:Shared}{a:Addr}{y:V}{o:Option V}(I:Inv X pins l H s)(g:DGet H a y o):s.TypeIs (.ref a) "dict":=by
 rcases g with⟨f,k,e,_,_⟩|⟨f,k,b,e,_,_,_⟩
 ·obtain⟨_,_,n,_,h⟩:=Bs I.hok e;exact h.typeIs
 ·obtain⟨_,_,xs,_,h⟩:=Bt I.hok e;exact h.typeIs
noncomputable def GC(h g:TE):TE:=λb H Q=>h b H λx l=>g b l λy f=>∃a v,x=.ref a/\DGet f a y (some v)/\Q v f
noncomputable def OQ(g h:TE):TE:=λb H Q=>g b H λy l=>h b l λx f=>∃a o,x=.ref a/\DGet f a y o/\Q (.bl o.isSome) f
noncomputable def Hq(g h:TE):TE:=λb H Q=>g b H λy l=>h b l λx f=>∃a o,x=.ref a/\DGet f a y o/\Q (.bl (!o.isSome)) f
noncomputable def LI(l g h:TE):TS:=λD b H=>h b H λv p=>l b p λx o=>g b o λy n=>∃a f,x=.ref a/\DPut n a y v f/\D.nx b f
section
variable {X:Cx}{o i e value:Expr}{pos pos' tpos:Pos}{td ty tv:TE}
def Ss(z:X.A.units+1<cLine)(C:PE X o td)(E:PE X i ty)(B:DB i):PE X (.Subscript o i pos) (GC td ty):=by
 intro pins s f H Q I h;refine HI PySem.F.slot_dict_getitem.lookup B (thn (C pins s f H _ I h) ?_);rintro u n ⟨x,N,L,q,w⟩;refine thn (E pins n f N _ L w) ?_;rintro iv Y ⟨y,M,l,p,a,v,G,g,r⟩;subst G;obtain rfl:u=Value.ref a:=q;exact⟨Zfc l g,Zcs z l g p λT U J b=>⟨v,M,J,b,r⟩⟩
def Rq(v:X.A.units+1<cLine)(z:PE X i ty)(w:PE X o td):PC X .In i o (OQ ty td):=by
 intro pins s b H Q I h;refine thn (z pins s b H _ I h) ?_;rintro T f ⟨y,L,G,l,q⟩;refine thn (w pins f b L _ G q) ?_;rintro u N ⟨x,J,E,n,a,r,B,g,p⟩;subst B;obtain rfl:u=Value.ref a:=n;exact Zdd v E g l λM C=>⟨.bl r.isSome,J,C,rfl,p⟩
def Ze4(v:X.A.units+1<cLine)(z:PE X i ty)(w:PE X o td):PC X .NotIn i o (Hq ty td):=by
 intro pins s b H Q I h;refine thn (z pins s b H _ I h) ?_;rintro T f ⟨y,L,G,l,q⟩;refine thn (w pins f b L _ G q) ?_;rintro u N ⟨x,J,E,n,a,r,B,g,p⟩;subst B;obtain rfl:u=Value.ref a:=n;exact Zpg v E g l λM C=>⟨.bl (!r.isSome),J,C,rfl,p⟩
def F1(E:X.A.units+1<cLine)(J:PE X o td)(L:PE X i ty)(C:PE X value tv)(G:swapsWith value (some<|.Subscript o i pos') pos.line X.env=pure false) :
  PS X (.Assign [.Subscript o i pos'] value pos) (LI td ty tv):=by
 intro pins s b H D I h;refine wpAny_Assign_Subscript (thn (C pins s b H _ I h) ?_) G;rintro r l ⟨v,H1,U,q,B⟩;refine thn (J pins l b H1 _ U B) ?_;rintro u f ⟨x,H2,T,p,z⟩;refine thn (L pins f b H2 _ T z) ?_;rintro iv s3 ⟨y,H3,Q,n,a,Y,M,g,w⟩;subst M;obtain rfl:u=Value.ref a:=p;exact Zew E Q g n q λs4 N=>⟨b,Y,N,w⟩
end
def Zhf{P:Program}{w:World}{H:Hp}(h:Heap)(b:sysModules<h.objs.size):ObjOk P w H (h.push {cls:=.type "dict",data:=.dict #[]}) h.objs.size (.dK []):=
 ⟨QL _,QW.mpr (Ne.symm<|Qg b),[],.nil,Heap.DictOf.new h⟩
def RJ{P:Program}{w:World}{H:Hp}(h:Heap)(b:sysModules<h.objs.size):ObjOk P w H (h.push {cls:=.type "dict",data:=.dict #[]}) h.objs.size (.dT []):=
 ⟨QL _,QW.mpr (Ne.symm<|Qg b),[],.nil,_,#[],0,WN _ rfl,⟨rfl,rfl,rfl⟩,rfl,rfl,VI⟩
noncomputable def Mi:TE:=λ_ H Q=>∀p,H p=none->Q (.ref p) (upd H p<|.dK [])
noncomputable def Zbb:TE:=λ_ H Q=>∀p,H p=none->Q (.ref p) (upd H p<|.dT [])
section
variable {X:Cx}{pos:Pos}
def GR:PE X (.Dict [] [] pos) Mi:=λpins s b H Q I h=>
 wpAny_Dict_empty ⟨.ref s.heap.objs.size,_,I.laid (a:=s.heap.objs.size) (o:=.dK []) (t':=s.toks) (λ_ _ q=>WB _ q) (WG _) (Zhf s.heap I.big),rfl,h _ (I.hok.fresh<|WG _)⟩
def Zm6:PE X (.Dict [] [] pos) Zbb:=λpins s b H Q I h=>
 wpAny_Dict_empty ⟨.ref s.heap.objs.size,_,I.laid (a:=s.heap.objs.size) (o:=.dT []) (t':=s.toks) (λ_ _ q=>WB _ q) (WG _) (RJ s.heap I.big),rfl,h _ (I.hok.fresh<|WG _)⟩
end
def OY:List (TE×TE)->St->Hp->(List (V×V)->Hp->Prop)->Prop
 |[],_,H,Q=>Q [] H
 |(g,f)::r,b,H,Q=>g b H λx o=>f b o λy n=>OY r b n λh l=>Q ((x,y)::h) l
abbrev VV:List (V×V)->List (Value×Value)->Prop:=Paired λp q=>RelV p.1 q.1/\RelV p.2 q.2
def PPs(X:Cx)(pos:Pos)(keys:List (Option Expr))(values:Yn)(f:List (TE×TE)):Prop:=
 ∀(pins:Yg) (s:Shared) (b:St) (H:Hp) (Q:List (V×V)->Hp->Prop),Inv X pins b H s->OY f b H Q->
  wpAny (model X.prog X.w) X.A (evalPairs<|pairTrees keys values X.env pos) (λl n=>∃g h,Inv X pins b h n/\VV g l/\Q g h) X.xe s
def Zje{X:Cx}{pos:Pos}:PPs X pos [] [] []:=λpins s b H Q I h=>pairTrees_nil_walk ⟨[],H,I,.nil,h⟩
def Zeq{X:Cx}{pos:Pos}{k v:Expr}{n:List (Option Expr)}{vs:Yn}{l g:TE}{b:List (TE×TE)}(G:PE X k l)(C:PE X v g)(E:PPs X pos n vs b) :
  PPs X pos (some k::n) (v::vs) ((l,g)::b):=λpins s f H Q I h=>
 pairTrees_cons_walk (thn (G pins s f H _ I h) λu p ⟨x,U,M,r,A⟩=>thn (C pins p f U _ M A) λw2 o ⟨y,T,L,q,z⟩=>
  thn (E pins o f T _ L z) λY s3 ⟨B,N,J,rel,w⟩=>⟨(x,y)::B,N,J,.cons ⟨r,q⟩ rel,w⟩)
end L2
set_option genInjectivity false
set_option genSizeOfSpec false
namespace Own
open PySem PySem.Spec PyProof.Rows L2
structure Def (K:Yd) (mg:Yh) (x:Str) (st:Stmt) (ps:Ym):Prop where
 ex:∃f fd,Fun K x x st f fd/\mg x=some (.ref f)/\Binds K fd ps []
structure Callee (P:Program) (w:World) (K:Yd) (mg:Yh) (base:Heap) (CX:CXT) (k:Nat) (x:Str) (ps:Ym) (sp:Sp):Prop where
 ex:∃f fd,KU P w K mg base CX k f fd ps sp/\mg x=some (.ref f)/\PySem.W.keepIn K (.ref f)=true/\(∃o:Obj,K.lookup f=some o/\o.data=.func fd)/\Binds K fd ps []
section
variable {P:Program}{w:World}{K:Yd}{mg:Yh}{base:Heap}
def Callee.at {st f b k ps sp} (C:Callee P w K mg base CX k x ps sp) (s:mg x=some (.ref f)) (F:Fun K x x st f b) (_:Def K mg x st ps):KU P w K mg base CX k f b ps sp:=by
 obtain⟨v,l,A,h,_,u,_⟩:=C.ex;obtain⟨oc,q,kV,n,p,z,o,y,g,_,r,_⟩:=F.ex
 grind
def Def.ok {st N ps k sp} (D:Def K mg x st ps) (S:XI N ps (XH st)) (len:∀vs H Q E,sp vs H Q E->vs.length=ps.length)
  (g:∀f b A outer s H vs Q E,XS k (A.deeper<|envOfC x (XH st) s.heap.objs.size f b)->sp vs H Q E->
   ∃t,PSs (Ks CX0 P w K mg base N x (XH st) f b A outer s H E).nox (Km st) t/\t {nx:=λ_ H'=>Q .non H',rt:=Q} (start N vs) H):Callee P w K mg base CX0 (k+1) x ps sp:=by
 obtain⟨f,q,F,o,p⟩:=D.ex;refine⟨f,q,F.ok S len λb A outer s H vs Q E n h=>g f b A outer s H vs Q E n h,o,F.kp,?_,p⟩;obtain⟨oc,v,kV,r,u,B,b,z,l,_,y,_⟩:=F.ex
 grind
end
section
variable {X:Cx}{CX:CXT}{k:Nat}{ps:Ym}{sp:Sp}{E:XK}{x:Str}{p pos:Pos}{e:Expr}{es:Yn}{t:TA}
def Df(C:Callee X.prog X.w X.K X.mg X.base CX k x ps sp)(h:XS k X.A)(hx:P6 CX X E)(s:PA X (e::es) t)(o:autoParam (Gl X x) au_0)(g:autoParam ((x==("__debug__" : Str))=false) au_1)(q:autoParam (starEach (e::es) X.env=(false,eval e X.env)::starEach es X.env) au_0)(b:autoParam ((backTo pos<|starEach es X.env).any (·.1)=false) au_0) :
  PE X (.Call (.Name x p) (e::es) [] pos) (SD sp [] E t):=by
 obtain⟨f,u,F,l,n,_,r⟩:=C.ex;exact Zb4 F h o l n r .nil hx s g q b
def Zjp:K8 X (.builtin "isinstance") (λxs H Q=>∃x n t b,xs=[x,.ty n]/\Pk X.K H x t/\PySem.W.kitOne X.K t (.type n)=some b/\Q (.bl b) H):=by
 intro pins s w H xs y Q I o h;obtain⟨x,n,t,b,rfl,g,e,q⟩:=h;cases o with
 |cons r u=>
  cases u with
  |cons v f=>
   cases f
   obtain rfl:=v;exact Zqx I r g e λl=>⟨.bl b,H,I.tok l,rfl,q⟩
def Zdl:IxR X (λx y H Q=>BE X.K x y H Q\/Fd X.K x y H Q):=ix_list.or Zgx
end
noncomputable def HZ(t u:TS):TS:=λD g H=>∃J:L2.St->Hp->Prop,t {D with nx:=J} g H/\∀b f,J b f->u D b f
def Zin{st rest t u}(p:PS X st t)(o:PSs X rest u):PSs X (st::rest) (HZ t u):=by
 intro pins s l H D I h;obtain⟨J,h,k⟩:=h;refine wpAny_execs_cons (thn (p pins s l H {D with nx:=J} I h) λf n q=>?_)
 cases f with
 |next=>
  obtain⟨b,g,r,q⟩:=q;exact o pins n b g D r (k b g q)
 |_=>exact q
def Zb7(K:Yd)(n:String):PySem.W.kitOne K (.type n) (.type n)=some true:=by
 unfold PySem.W.kitOne;simp
def Ph{xs i v}(h:atI xs i=some v):atI (xs.map f) i=some (f v):=by
 unfold atI at h ⊢;cases e:ixN xs.length i with
 |_=>grind
def EJ{i v}(b:0<=i)(h:xs[i.toNat]?=some v):atI xs i=some v:=by
 have:=Tz h
 grind
def Kp(h:H a=none):Same H (upd H a o):=λb u e=>by rw[XM (K4 e h)];exact e
def Same.upd (S:Same H H') (h:H a=none):Same H (upd H' a o):=λb u e=>by rw[XM (K4 e h)];exact S b u e
def Same.new (S:Same H H') (h:H' a=none):Same H (L2.upd H' a o):=Own.Same.upd S (S.free h)
def Zrf(names:List (Str×NameKind))(f:∀x∈names,x.2=.free->∃c,env.cells.lookup x.1=some c):∀b,(∀x c,b.lookup x=some c->env.cells.lookup x=some c)->
  ∃g,(forIn names b (λx w=>if (x.2 == .free)=true then(do let c ←cellOf env x.1;pure (ForInStep.yield ((x.1,c)::w)))else pure (ForInStep.yield w)):Sem (Ys))=pure g/\
   (∀x c,g.lookup x=some c->env.cells.lookup x=some c)/\(∀x,(∃c,b.lookup x=some c)->∃c,g.lookup x=some c)/\∀x∈names,x.2=.free->∃c,g.lookup x.1=some c:=by
 induction names with
 |nil=>
  intro b p;exact⟨b,rfl,p,λ_ h=>h,λx hx=>by cases hx⟩
 |cons y r z=>
  intro b p;have l:=z λx hx=>f x (WV _ hx);obtain⟨n,k⟩:=y;by_cases u:k=.free
  ·subst u;obtain⟨c,v⟩:=f (n,.free) Qh rfl
   have A:∀x d,List.lookup x ((n,c)::b)=some d->env.cells.lookup x=some d:=λx d e=>by
    rw[QR]at e;by_cases hx:x=n
    ·subst hx;simp at e;subst e;exact v
    ·have:(x==n)=false:=by simpa using hx
     rw[this]at e;exact p x d e
   obtain⟨g,e,s,p2,q⟩:=l ((n,c)::b) A;refine⟨g,?_,s,λx hx=>p2 x ?_,λx hx o=>?_⟩
   ·rw[List.forIn_cons];have B:cellOf env n=pure c:=by unfold cellOf;rw[v]
    rwa[B]
   ·rw[QR];cases (x==n)
    ·exact hx
    ·exact⟨c,rfl⟩
   ·rcases WL.mp hx with rfl|hx
    ·exact p2 n ⟨c,by simp[QR]⟩
    ·exact q x hx o
  ·obtain⟨g,e,s,p2,q⟩:=l b p;refine⟨g,?_,s,p2,λx hx o=>?_⟩
   ·grind
   ·rcases WL.mp hx with rfl|hx
    ·exact absurd o u
    ·exact q x hx o
def Zq1{sc}(b:∀x∈sc.names,x.2=.free->∃c,env.cells.lookup x.1=some c) :
  ∃f,closureFor sc env=pure f/\(∀x c,f.lookup x=some c->env.cells.lookup x=some c)/\∀x∈sc.names,x.2=.free->∃c,f.lookup x.1=some c:=by
 obtain⟨f,e,l,_,g⟩:=Zrf sc.names b [] (λx c h=>by cases h);unfold closureFor
 grind
noncomputable def K9(X:Cx)(N':Ym)(g:Scope)(h:Ys)(C:Addr)(b:Shared)(f:Hp)(ex:List Addr):Cx:=
 {X with N:=N',s₀:=b,H₀:=f,env:=compEnvC g h C X.env,outer:=X.stack,ex:=ex,fn:=λ_=>false,pn:=[],xe:=λ_ _=>False}
structure SO (X:Cx) (N':Ym) (φ:Yj) (sc:Scope):Prop where
 kind:sc.kind=.function
 okind:X.env.scope.kind=.function
 nocell:∀y∈sc.names,y.2≠.cell
 names:∀y∈sc.names,y.2=.local->sc.names.lookup y.1=some .local
 frees:∀y∈sc.names,y.2=.free->X.env.scope.names.lookup y.1=some .cell
 len:φ.length=N'.length
 pick:∀(i:Nat) (x:Str) (j:Nat),N'[i]?=some x->φ[i]?=some (some j)->X.N[j]?=some x/\sc.names.lookup x=some .free
noncomputable def atStart(φ:Yj)(b:L2.St):L2.St:=φ.map λo=>o.bind λj=>(b[j]?).join
def Sub(f b:L2.St):Prop:=b.length=f.length/\∀(i:Nat) (v:V),f[i]?=some (some v)->b[i]?=some (some v)
def Sub.refl:Sub b b:=⟨rfl,λ_ _ h=>h⟩
def Sub.skip (h:Sub f b):Sub (none::f) (x::b):=by
 refine⟨by simp[h.1],λi v e=>?_⟩;cases i with
 |zero=>grind
 |succ i=>simp at e ⊢;exact h.2 i v e
theorem IL{env:Env}(o:env.scope.kind=.function):∀{names:List (Str×NameKind)}{x:Str},names.lookup x=some .free->env.scope.names.lookup x=some .cell->
  (names.map λ(n,k)=>if (k==NameKind.free&&env.scope.kind == .function&&env.kindOf n==some .cell)then(n,NameKind.cell)else(n,k)).lookup x=some .cell
 |[],_,h,_=>by simp at h
 |(n,k)::r,x,h,f=>by
  have g:=@IL env o r x;show List.lookup x ((if (k==NameKind.free&&env.scope.kind == .function&&env.kindOf n==some .cell)=true then(n,NameKind.cell)else(n,k))::_)=_;cases hx:x==n with
  |true=>
   have l:env.kindOf x=some .cell:=f;simp_all
  |false=>
   simp only[QR,hx]at h;by_cases b:(k==NameKind.free&&env.scope.kind == .function&&env.kindOf n==some .cell)=true
   ·rw[WK b];simp only[QR,hx];exact g h f
   ·rw[WI b];simp only[QR,hx];exact g h f
theorem ER{env:Env}:∀{names:List (Str×NameKind)}{x}{q:NameKind},
  (names.map λ(n,k)=>if (k==NameKind.free&&env.scope.kind == .function&&env.kindOf n==some .cell)then(n,NameKind.cell)else(n,k)).lookup x=some q->∃k,(x,k)∈names/\(q=k\/k=.free)
 |[],_,_,h=>by simp at h
 |(n,k)::r,x,q,h=>by
  have f:List.lookup x ((if (k==NameKind.free&&env.scope.kind == .function&&env.kindOf n==some .cell)=true then(n,NameKind.cell)else(n,k))::(r.map λ(n,k)=>if (k==NameKind.free&&env.scope.kind == .function&&env.kindOf n==some .cell)then(n,NameKind.cell)else(n,k)))=some q:=h;cases hx:x==n with
  |true=>
   have e:x=n:=by simpa using hx
   subst e;by_cases b:(k==NameKind.free&&env.scope.kind == .function&&env.kindOf x==some .cell)=true
   ·simp_all
   ·simp_all
  |false=>
   have o:List.lookup x (r.map λ(n,k)=>if (k==NameKind.free&&env.scope.kind == .function&&env.kindOf n==some .cell)then(n,NameKind.cell)else(n,k))=some q:=by
    by_cases b:(k==NameKind.free&&env.scope.kind == .function&&env.kindOf n==some .cell)=true
    ·rw[WK b]at f;simp only[QR,hx]at f;exact f
    ·rw[WI b]at f;simp only[QR,hx]at f;exact f
   obtain⟨g,l,hq⟩:=(@ER env r x q) o;exact⟨g,WV _ l,hq⟩
def Zml{H target iter B scope pos L J env}(I:Nat->Shared->Prop)
  (turn:∀n s,I n s->wpAny (model prog w) A (pyNext L) (λr g=>match r with
   |none=>R (.ok .next) g
   |some v=>wpAny (model prog w) A (letOwnedTupleGo target L v) (λ_ f=>wpAny (model prog w) A (assign target env v) (λ_ q=>
     wpAny (model prog w) A (forIn B true λc r=>if r=true then do let ok ←isTrue c env (eval c env);pure (ForInStep.yield ok)else pure (ForInStep.yield r)) (λok b=>
      if ok=true then wpAny (model prog w) A (eval H env) (λx p=>
       wpAny (model prog w) A (call (.builtin "list.append") [J,x]) (λ_ o=>∃m,m<n/\I m o) (λ_ _=>False) p) (λ_ _=>False) b
      else ∃m,m<n/\I m b) (λ_ _=>False) q) (λ_ _=>False) f) (λ_ _=>False) g) (λ_ _=>False) s)
  (n:Nat) (h:I n s) :
  codeAny (model prog w) A (.compLoop (.ListComp H [⟨target,iter,B,0⟩] scope pos) 0 L J env) R s:=by
 refine codeAny_loop rfl I (λn s M=>?_) n h;refine wpAny_noted ?_;rw[compTurn_list];refine W8 (V6<|W8 (Qr (turn n s M) (λr g y=>?_) λ_ _ l=>l.elim));cases r with
 |none=>exact WD y
 |some v=>
  refine W8 (Qr y (λ_ f z=>?_) λ_ _ l=>l.elim);refine W8 (Qr z (λ_ q G=>W8 (Qr G (λok b u=>?_) λ_ _ l=>l.elim)) λ_ _ l=>l.elim);cases ok with
  |false=>exact WD ⟨rfl,u⟩
  |true=>
   exact W8 (W8 (Qr u (λx p E=>W8 (Qr E (λ_ o C=>WD (WD ⟨rfl,C⟩)) λ_ _ l=>l.elim)) λ_ _ l=>l.elim))
def NL(X:Cx)(f:Yn)(t:TT):Prop:=
 ∀(pins:Yg) (s:Shared) (b:L2.St) (H:Hp) (Q:Bool->Hp->Prop),Inv X pins b H s->t b H Q->
  wpAny (model X.prog X.w) X.A (forIn f true λc r=>if r=true then do let ok ←isTrue c X.env (eval c X.env);pure (ForInStep.yield ok)else pure (ForInStep.yield r)) (TP X pins b Q) X.xe s
noncomputable def Zaj:TT:=λ_ H Q=>Q true H
def PQ:NL X [] Zaj:=λ_ _ _ H _ I h=>WD ⟨H,I,h⟩
def FQ(g:PT X c t):NL X [c] t:=by
 intro pins s f H Q I h;rw[List.forIn_cons];refine W8 ?_;exact W8 (thn (g pins s f H Q I h) λb l q=>WD (WD q))
noncomputable def BH(φ:Yj)(u:TI)(g:TG)(tc:TT)(te:TE):TE:=λo H Q=>u o H λJ s=>∀D,s D=none->∃W:Nat->Nat->List V->Hp->Prop,(∃m,W 0 m [] (upd s D<|.lst []))/\
 ∀i m h n,W i m h n->(J.stop i n/\Q (.ref D) n)\/(J.go i n/\∀x r,J.yld i n x r->g x (atStart φ o) r λf v=>Sub (atStart φ o) f/\tc f v λb q=>
  if b=true then te f q λy p=>p D=some (.lst h)/\h.length<sizeLine/\∃l,l<m/\W (i+1) l (h++[y]) (upd p D<|.lst (h++[y]))else ∃l,l<m/\W (i+1) l h q)
def Inv.weak {f b:L2.St}{H}{s} (I:Inv X pins b H s) (S:Sub f b):Inv X pins f H s:=
 ⟨I.ok,I.os,I.bare,I.base,let ⟨m,g,h⟩:=I.loc;⟨m,g,λi x v o n l=>h i x v o (S.2 i v n) l⟩,I.cell,I.free,I.freeC,I.pin,I.hok,by rw[←S.1];exact I.len⟩
def Om{i:Nat}{v}(h:(atStart φ b)[i]?=some (some v)):∃j,φ[i]?=some (some j)/\b[j]?=some (some v):=by
 unfold atStart at h;cases e:φ[i]? with
 |none=>grind
 |some o=>
  cases o with
  |_=>grind
def CompEnd(X:Cx)(pins:Yg)(g:L2.St)(Q:VK)(use:Option (Value->Sem Unit))(h:Yi):Prop:=
 ∀(D C:Addr) (f:Hp) (b:Shared),Q (.ref D) f->Inv X pins g f b->(∃m,b.heap.Ns C m)->f C=none->C≠X.env.locals->X.s₀.heap.objs.size<=C->(∀x c,X.env.cells.lookup x=some c->c≠C)->(∀p∈X.pn++pins,p.1≠C)->C∉X.fs->
  compPost (model X.prog X.w) X.A X.xe use h (.ref D) C (.ok .next) b
def RM{elt iter tg}{ifs}{pos pos'}{wi}{g}{tc}{te}{use}{QQ}(hcalm:X.calm=true)(S:SO X N' φ G)(hi:PI X tg iter wi)(hin:∀U C s₃ H₃ ex,PG (K9 X N' G U C s₃ H₃ ex) tg g/\NL (K9 X N' G U C s₃ H₃ ex) ifs tc/\PE (K9 X N' G U C s₃ H₃ ex) elt te)(hs:∀x,foldedSetIterable iter X.env x=pure x){pins}{s}{σ:L2.St}{H}{Q}(I:Inv X pins σ H s)(h:BH φ wi g tc te σ H Q)(fin:CompEnd X pins σ Q use QQ) :
  wpAny (model X.prog X.w) X.A (comprehension (.ListComp elt [⟨tg,iter,ifs,0⟩] G pos) G X.env pos' (newList []) false (eval iter X.env) use) QQ X.xe s:=by
 obtain⟨U,hcl,p1,p3⟩:=Zq1 λx hx hf=>I.ok.has x.1 (.inl<|S.frees x hx hf);refine wpAny_comprehension_free rfl hs hcl S.kind S.names ?_;refine thn (hi pins s σ H _ I h) λv s1 h1=>thn h1 λitv s2 h2=>?_;obtain⟨it,L,tn,J,H2,e,I2,T,st2,f2,hR⟩:=h2;subst e;refine Q6 ?_;have hf:=I2.hok.fresh (WG _);obtain⟨W,⟨m0,w0⟩,turn⟩:=hR s2.heap.objs.size hf;generalize eD:s2.heap.objs.size=D at *
 have I3:Inv X pins σ (upd H2 D<|.lst []) {s2 with heap:=s2.heap.push {cls:=.type "list",dict:=none,data:=.seq ([]:Yl).toArray}}:=
  I2.laid (λb u e=>WB _ e) (Vp eD) ⟨QL _,[],0,.nil,by rw[←eD];exact WN _ rfl⟩
 have st3:tn 0 (s2.heap.push {cls:=.type "list",dict:=none,data:=.seq ([]:Yl).toArray}):=T.keep _ _ _ st2 λb _ o e=>WB _ e
 have hfpD:∀b∈L,b≠D:=λb f z=>by
  obtain⟨o,ho,_⟩:=T.obj _ _ st2 b f
  have:=WM ho
  rw[z,←eD]at this;exact QY _ this
 have f3:∀b∈L,N7 X pins (upd H2 D<|.lst []) b:=λb f=>⟨by rw[XM (hfpD b f)];exact(f2 b f).1,(f2 b f).2⟩;generalize es3:({s2 with heap:=s2.heap.push {cls:=.type "list",dict:=none,data:=.seq ([]:Yl).toArray}}:Shared)=l at *
 have st3':tn 0 l.heap:=by rw[←es3];exact st3
 generalize eH3:upd H2 D (.lst [])=H3 at *;refine wpAny_newFunctionEnv S.nocell (by intro y hy;simp at hy) (λh₁ E B=>?_) S.kind;have hh3:l.heap=s2.heap.push {cls:=.type "list",dict:=none,data:=.seq ([]:Yl).toArray}:=by rw[←es3]
 rw[hh3]at E B;rw[←hh3]at E B;have old:=λb o e=>B.extBut b o (Qg<|WM e) (WB _ e)
 have hC0:l.heap.get? l.heap.objs.size=none:=by
  cases e:l.heap.get? l.heap.objs.size with
  |none=>rfl
  |some o=>exact absurd (WM e) (QY _)
 generalize eC:l.heap.objs.size=C at *;have hH3C:=I3.hok.fresh (Vp eC)
 have OK:(K9 X N' G U C l H3 L).Ok:=by
  refine⟨I.ok.mod,?_,I.ok.glob,I.ok.blt,Vp eC,λx y c h1 h2=>I.ok.inj x y c (p1 x c h1) (p1 y c h2),?_,(λx c hx=>by cases hx),I.ok.hd,I.ok.frames,.inl rfl,?_,I3.bs,WQ I.ok.bsz I3.sz,?_,?_,I3.stack,I3.stkFree⟩
  ·exact S.kind
  ·intro x hx;have hx':=hx.imp ER ER
   have hfr:(x,NameKind.free)∈G.names:=by
    rcases hx' with⟨k,hm,rfl|rfl⟩|⟨k,hm,rfl|rfl⟩
    ·exact absurd rfl (S.nocell _ hm)
    ·exact hm
    ·exact hm
    ·exact hm
   exact p3 _ hfr rfl
  ·intro b f;refine⟨λz=>?_,λx c hx=>(f3 b f).2.2.2.2.1 x c (p1 x c hx)⟩;obtain⟨o,ho,_⟩:=T.obj _ _ st3' b f;have z':b=C:=z;rw[z',hC0]at ho;cases ho
  ·intro b o f hx;obtain⟨_,_,_,q,_,_⟩:=f3 b hx;rcases q with q|q
   ·exact I.ok.noex b o f q
   ·have:=Qj (WM f) (WQ I.ok.bsz q)
    exact QY _ this
  ·intro b f hz;rcases WL.mp (I.stkSub b hz)with q|q
   ·exact(f3 b f).2.1 q
   ·exact(f3 b f).2.2.1 q
 have hlen0:(atStart φ σ).length=N'.length:=by unfold atStart;rw[W9];exact S.len
 have I4:Inv (K9 X N' G U C l H3 L) [] (atStart φ σ) H3 {l with heap:=h₁,toks:=l.toks+([]:List (Str×Value)).length}:=by
  refine⟨OK,rfl,I3.bare,Un.kept old,⟨_,E,λi x v h1 h2 h3=>?_⟩,λx c hx=>?_,hH3C,λx c hx=>I3.freeC x c (p1 x c hx),λp hp=>?_,I3.hok.kept old,hlen0⟩
  ·obtain⟨j,hj,hv⟩:=Om h2;obtain⟨hN,hfr⟩:=S.pick i x j h1 hj;obtain⟨m,_,hl⟩:=I3.loc;have hm:=Vj hfr;have M:=S.frees _ hm rfl;obtain⟨u,ru,lk⟩:=hl j x v hN hv (.inr<|.inl M);refine⟨u,ru,.inr ⟨.inl (IL S.okind hfr M),?_⟩⟩;obtain⟨c,hc⟩:=p3 _ hm rfl;rcases lk with⟨hk,_⟩|⟨_,c',hc',hcl'⟩
   ·have hk':X.env.scope.names.lookup x=some .local:=hk;rw[M]at hk';cases hk'
   ·have e:=p1 _ _ hc;rw[hc']at e;cases e
    obtain⟨o,ho,hd⟩:=hcl';exact⟨_,hc,o,old _ o ho,hd⟩
  ·obtain⟨v,hv⟩:=I3.cell x c (p1 x c hx);obtain⟨o,ho,hd⟩:=hv;exact⟨v,o,old _ o ho,hd⟩
  ·exact absurd hp (by simp[K9])
 have st4:=T.keep _ _ _ st3' λb _ o e=>old b o e
 have stat:∀{H':Hp},(∀b∈L,H' b=none)->∀b∈L,N7 (K9 X N' G U C l H3 L) [] H' b:=λhn b f=>
  ⟨hn b f,(OK.exf b f).1,OK.exfs b f,.inl f,(OK.exf b f).2,λp hp=>absurd hp (by simp[K9])⟩
 obtain⟨hPG,hPI,hPE⟩:=hin U C l H3 L
 have loop:codeAny (model X.prog X.w) X.A (.compLoop (.ListComp elt [⟨tg,iter,ifs,0⟩] G pos) 0 (.ref it) (.ref D)<|compEnvC G U C X.env) (compPost (model X.prog X.w) X.A X.xe use QQ (.ref D) C) {l with heap:=h₁,toks:=l.toks+([]:List (Str×Value)).length}:=by
  refine Zml (λn s'=>∃i ys σ' H',Inv (K9 X N' G U C l H3 L) [] σ' H' s'/\Sub (atStart φ σ) σ'/\tn i s'.heap/\(∀b∈L,H' b=none)/\W i n ys H') ?_ m0 ⟨0,[],_,_,I4,Sub.refl,st4,λb f=>(f3 b f).1,w0⟩;rintro n s5 ⟨i,ys,σ5,H5,I5,sub5,st5,fr5,w5⟩;have I5':=Own.Inv.weak I5 sub5;rcases turn i n ys H5 w5 with⟨stop,qn⟩|⟨go,step⟩
  ·refine thn (T.done (K9 X N' G U C l H3 L) rfl rfl rfl hcalm i [] s5 _ H5 _ I5' (stat fr5) st5 stop) ?_;rintro r s6 ⟨hr,I6⟩;subst hr;obtain⟨m,hn,_⟩:=I6.loc;obtain⟨hh,gg,dd,tt,oo⟩:=s6;obtain rfl:=I6.os;have R:Inv X pins σ H5 {l with heap:=hh,gens:=gg,drawn:=dd,toks:=tt}:=I3.call I6.base I6.hok I6.bare λb f=>⟨(f3 b f).2.2.2.1,(f3 b f).2.1,(f3 b f).2.2.2.2.1,(f3 b f).2.2.2.2.2⟩
   have hC3:=Vp eC;obtain⟨q0,q1,q2,q3,q4,q5⟩:=I3.fpOk hC3 hH3C;refine fin D C H5 _ qn R ⟨m,hn⟩ I6.free q1 (WQ I3.sz hC3) q4 q5 q2
  ·refine thn (T.item (K9 X N' G U C l H3 L) rfl rfl rfl hcalm i [] s5 _ H5 _ I5' (stat fr5) st5 go) ?_;rintro r s6 ⟨u,hr,h6⟩;subst hr;refine thn h6 ?_;rintro _ s7 ⟨x,H7,I7,r7,y7,st7,fr7⟩;have I7':=I7.pinned (stat fr7) (T.obj _ _ st7);refine thn (hPG _ s7 _ H7 x u _ I7' r7<|step x H7 y7) ?_;rintro _ s8 ⟨σ8,H8,I8,sub8,q8⟩;refine thn (hPI _ s8 σ8 H8 _ I8 q8) ?_;rintro ok s9 ⟨H9,I9,q9⟩
   have again:∀{Y:Shared} {N:Hp} {ys':List V} {m':Nat},Inv (K9 X N' G U C l H3 L) ([]++BI L s7.heap) σ8 N Y->W (i+1) m' ys' N->∃i ys σ' H',Inv (K9 X N' G U C l H3 L) [] σ' H' Y/\Sub (atStart φ σ) σ'/\tn i Y.heap/\(∀b∈L,H' b=none)/\W i m' ys H':=λ{Y N ys' m'} J10 w10=>by
    refine⟨i+1,ys',σ8,N,J10.unpinned,sub8,T.keep _ _ _ st7 λb f o e=>(J10.pin (b,o)<|Qm _<|Qm _<|FV f e).1,λb f=>?_,w10⟩;obtain⟨o,e,d⟩:=T.obj _ _ st7 b f;exact(J10.pin (b,o)<|Qm _<|Qm _<|FV f e).2.1
   cases ok with
   |false=>
    obtain⟨m',hm,w'⟩:=q9;exact⟨m',hm,again I9 w'⟩
   |true=>
    refine thn (hPE _ s9 σ8 H9 _ I9 q9) ?_;rintro xv Y ⟨y,N,I10,r10,hD,hl,m',hm,w'⟩;refine thn (By _ Y σ8 N (.ref D) [y] (.ref D) [xv] (λ_ H11=>H11=upd N D (.lst (ys++[y]))) I10 rfl (.cons r10 .nil) ⟨D,ys,y,rfl,rfl,hD,hl,rfl⟩) ?_;rintro _ s11 ⟨_,H11,I11,_,e11⟩;subst e11;exact⟨m',hm,again I11 w'⟩
 refine codeAny_compStart_list loop (T.self _ 0 _ _ _ st4 loop)
def Dt{r iter v p pos z g tc te}(n:X.calm=true)(S:SO X N' φ u)(J:PI X v iter z)(w:∀y C f l ex,PG (K9 X N' u y C f l ex) v g/\NL (K9 X N' u y C f l ex) p tc/\PE (K9 X N' u y C f l ex) r te)(B:autoParam (∀x,foldedSetIterable iter X.env x=pure x) au_3):PE X (.ListComp r [⟨v,iter,p,0⟩] u pos) (BH φ z g tc te):=by
 intro pins s σ H Q I h;refine RM n S J w B I h λD C H5 s6 q R G Y U T N M c5=>?_;obtain⟨m,E⟩:=G;exact⟨m,E,λh' A=>⟨.ref D,H5,R.turned (λb o L e=>A.extBut b o L e) Y U (.inr T) N M,rfl,q⟩⟩
def Zfp{u iter A n pos spos py M g tc te i y}(hN:X.N.Nodup)(hy:X.N[i]?=some y)(Q:X.env.scope.names.lookup y=some .local)(r:X.calm=true)(S:SO X N' φ w)(hi:PI X A iter M)(G:∀L C f l ex,PG (K9 X N' w L C f l ex) A g/\NL (K9 X N' w L C f l ex) n tc/\PE (K9 X N' w L C f l ex) u te)(hs:autoParam (∀x,foldedSetIterable iter X.env x=pure x) au_3)(E:autoParam (swapsWith (.ListComp u [⟨A,iter,n,0⟩] w pos) (some<|.Name y py) spos.line X.env=pure true) au_0) :
  PS X (.Assign [.Name y py] (.ListComp u [⟨A,iter,n,0⟩] w pos) spos) (Se (BH φ M g tc te)<|SM i):=by
 intro pins s Y H D0 I h;rw[exec_Assign_Name_used _ _ _ _ E];refine W8 (V6<|W8 ?_);refine W8 (Qr (RM r S hi G hs I h λD C U s6 q R hm c0 c1 c2 c3 c4 c5=>?_) (λ_ s' z=>WD (WD z)) λ_ _ e=>e);obtain⟨m,B,es,ep,hoC,J,rC⟩:=hm
 have R2:Inv X (pins++[(C,B)]) Y U s6:=R.pins_of λp hp=>(Qd.mp hp).elim (λz=>R.pin p (Qm _ z)) λz=>by
  grind
 refine wpAny_assign_Name (NT R2 hN hy (.inl Q) (v:=.ref D) rfl (λs7 T=>?_)<|.inr Q);refine⟨m,⟨B,es,ep,((T.pin (C,B)<|Qm _<|Qm _<|WC.mpr rfl).1),J,rC⟩,λh' sb=>?_⟩;exact⟨_,U,T.unpinned.turned (λb o hb e=>sb.extBut b o hb e) c0 c1 (.inr c2) c3 c4,q⟩
noncomputable def BF(sc b:Scope)(N N':Ym)(φ:Yj):Bool:=
 sc.kind == .function&&b.kind == .function&&(sc.names.all λy=>y.2 != .cell&&(y.2 != .local || sc.names.lookup y.1==some .local)&&(y.2 != .free || b.names.lookup y.1==some .cell)) &&
  φ.length==N'.length&&((N'.zip φ).all λp=>match p.2 with|none=>true|some j=>N[j]? == some p.1&&sc.names.lookup p.1==some .free)
def SO.of {N'}{φ f} (h:BF f X.env.scope X.N N' φ=true):SO X N' φ f:=by
 unfold BF at h;simp only[Qb,beq_iff_eq,Q2,Bool.or_eq_true,bne_iff_ne,ne_eq]at h;obtain⟨⟨⟨⟨s,r⟩,q⟩,p⟩,o⟩:=h;refine⟨s,r,λy b=>(q y b).1.1,λy b u=>?_,λy b v=>?_,p,λi x j n l=>?_⟩
 ·grind
 ·grind
 ·have g:(N'.zip φ)[i]?=some (x,some j):=by rw[List.getElem?_zip_eq_some];exact⟨n,l⟩
  have:=o _ (Qp g)
  grind
end Own
namespace SetR
open PySem PySem.Spec PyProof.Rows L2
def Ris(xs:Array Nat):Prop:=∀i j,i<j->j<xs.size->xs.getD i 0<xs.getD j 0
def IT{xs:Array Nat}{i a b}(h:i<xs.size):xs.getD i a=xs.getD i b:=by grind
def Zd5(R:Ris xs)(j:Nat):∀fuel lo f,f-lo<=fuel->lo<=f->f<=xs.size->(∀k,k<lo->xs.getD k 0<j)->(∀k,f<=k->k<xs.size->j<=xs.getD k 0)->
  let r:=SetTable.below.go xs j fuel lo f
  r<=xs.size/\(∀k,k<r->xs.getD k 0<j)/\∀k,r<=k->k<xs.size->j<=xs.getD k 0:=by
 intro fuel
 induction fuel with
 |zero=>
  intro lo f w v n l h;have e:lo=f:=by lia
  subst e;exact⟨n,l,h⟩
 |succ fuel q=>
  intro lo f w v n l h;show(let r:=(if lo<f then(if xs.getD ((lo+f) / 2) j<j then SetTable.below.go xs j fuel ((lo+f) / 2+1) f else SetTable.below.go xs j fuel lo ((lo+f) / 2))else lo);r<=xs.size/\(∀k,k<r->xs.getD k 0<j)/\∀k,r<=k->k<xs.size->j<=xs.getD k 0);by_cases s:lo<f
  ·rw[WK s];have o:(lo+f) / 2<xs.size:=by lia
   by_cases g:xs.getD ((lo+f) / 2) j<j
   ·rw[WK g];refine q _ _ (by lia) (by lia) n (λk u=>?_) h;rw[IT o]at g;by_cases e:k=(lo+f) / 2
    ·rw[e];exact g
    ·exact VH (R k _ (by lia) o) g
   ·rw[WI g];refine q _ _ (by lia) (by lia) (by lia) l (λk u p=>?_);rw[IT (b:=0) o]at g;by_cases e:k=(lo+f) / 2
    ·rw[e];lia
    ·have:=R _ k (show(lo+f) / 2<k by lia) p
     lia
  ·rw[WI s];have e:lo=f:=by lia
   subst e;exact⟨n,l,h⟩
def M9(R:Ris xs)(j:Nat):SetTable.below xs j<=xs.size/\(∀k,k<SetTable.below xs j->xs.getD k 0<j)/\∀k,SetTable.below xs j<=k->k<xs.size->j<=xs.getD k 0:=
 Zd5 R j xs.size 0 xs.size (by simp) (by simp) (by simp) (λk b=>by lia) (λk g f=>by lia)
def Zg9(R:Ris xs){i}(f:i<=xs.size){slot}(l:∀k,k<i->xs.getD k 0<slot)(g:∀k,i<=k->k<xs.size->slot<=xs.getD k 0):SetTable.below xs slot=i:=by
 obtain⟨a,b,c⟩:=M9 R slot;rcases Nat.lt_trichotomy (SetTable.below xs slot) i with h|h|h
 ·grind
 ·lia
 ·grind
def Rise(xs:Array Nat):Prop:=xs.toList.Pairwise (· < ·)
def Rise.ris (h:Rise xs):Ris xs:=by
 intro i j b f;have g:i<xs.size:=by lia
 have:=(Q0.mp h) i j (by omega) (by omega) b
 simp_all
def Zit(h:Rise xs)(u:xs[SetTable.below xs j]?≠some j):Rise (SetTable.insertAt xs (SetTable.below xs j) j):=by
 obtain⟨a,b,c⟩:=M9 h.ris j;generalize SetTable.below xs j=p at *;unfold Rise;rw[SetTable.toList_insertAt];refine QT.mpr ⟨h.sublist (VC _ _),Va.mpr ⟨λy g=>?_,h.sublist (List.drop_sublist _ _)⟩,λx hx y g=>?_⟩
 ·obtain⟨k,l,e⟩:=List.mem_drop_iff_getElem.mp g
  have f:p+k<xs.size:=by
   simp only[Qw]at l;lia
  have w:=c (p+k) (by lia) f;have s:xs.getD (p+k) 0=y:=by simpa [Array.getD,f]using e
  rcases Nat.lt_or_ge j y with r|r
  ·exact r
  ·have ey:y=j:=by lia
   exfalso;rcases Nat.eq_zero_or_pos k with rfl|v
   ·apply u;rw[Q9 (by lia)]
    have:xs[p]=y:=by simpa using e
    rw[this,ey]
   ·have A:=h.ris p (p+k) (by lia) f;have z:=c p (WG _) (by lia);lia
 ·have n:x<j:=by
   obtain⟨k,l,e⟩:=List.mem_take_iff_getElem.mp hx;have q:k<p:=by lia
   have o:k<xs.size:=by lia
   have:=b k q
   have s:xs.getD k 0=x:=by simpa [Array.getD,o]using e
   lia
  rcases WL.mp g with rfl|g
  ·exact n
  ·obtain⟨k,l,e⟩:=List.mem_drop_iff_getElem.mp g
   have f:p+k<xs.size:=by
    simp only[Qw]at l;lia
   have w:=c (p+k) (by lia) f;have s:xs.getD (p+k) 0=y:=by simpa [Array.getD,f]using e
   lia
structure Tb (b:Bool) (t:SetTable):Prop where
 led:t.led=b
 dum:t.dummies=#[]
 ris:Rise t.place
def Lg(j:Nat):SetTable.has #[] j=false:=rfl
def Tb.fresh (b:Bool):Tb b (.fresh 0 0 b):=⟨rfl,rfl,List.Pairwise.nil⟩
def Zfj(n:Nat):Rise (Array.range n):=by
 unfold Rise;rw[Array.toList_range];exact List.pairwise_lt_range
def Tb.stand (h:Tb b t) (n:Nat):Tb b (t.standIn n):=⟨h.led,rfl,Zfj n⟩
def Tb.orStand (h:Tb b t) (n:Nat):Tb b (t.orStandIn n):=by
 unfold SetTable.orStandIn;split
 ·lia
 ·exact h.stand n
def Tb.plainOff (h:Tb b t):Tb b {t with plain:=false}:=⟨h.led,h.dum,h.ris⟩
def Tb.put (h:Tb b t) {j} (f:t.place[SetTable.below t.place j]?≠some j):Tb b (t.put j).1:=by
 refine⟨h.led,?_,Zit h.ris f⟩;show(if SetTable.has t.dummies j=true then _ else t.dummies)=#[];rw[h.dum,Lg];rfl
def Zhe(h:Tb b t)(f:Nat->Int)(z:Int):∀fuel p j d,p.dummy=none->SetTable.probe.go t f z fuel p=some (.empty j d)->d=none/\t.place[SetTable.below t.place j]?≠some j:=by
 intro fuel
 induction fuel with
 |zero=>intro p j d _ e;cases e
 |succ fuel n=>
  intro p j d o e;unfold SetTable.probe.go at e
  have l:∀q,q.dummy=none->(t.advance q).dummy=none:=λq hq=>by
   unfold SetTable.advance;split
   ·exact hq
   ·exact hq
  cases g:t.slot p.j with
  |empty=>
   rw[g]at e;unfold SetTable.slot at g
   grind
  |dummy=>
   unfold SetTable.slot at g
   dsimp only at g
   split at g
   ·cases g
   ·rw[h.dum,Lg]at g;simp at g
  |live i=>
   rw[g]at e
   dsimp only at e
   split at e
   ·cases e
   ·exact n _ j d (l p o) e
def Tb.layNew (h:Tb b t) (es:Yt) (z:Int) (x:Value):Tb b (PySem.layNew t es z x).2.1:=by
 unfold PySem.layNew;split
 ·rename_i slot wasDummy e
  have f:t.place[SetTable.below t.place slot]?≠some slot:=by
   unfold SetTable.freeSlot SetTable.probe at e;split at e
   ·rename_i j dummy g;obtain⟨n,l⟩:=Zhe h _ _ _ _ _ _ rfl g
    grind
   ·grind
  exact(h.put f).orStand _
 ·exact h.stand _
def Zj1(n:Nat)(f:Nat->Option Nat):((List.range n).filterMap λj=>(f j).map (j,·)).Pairwise (λa b=>a.1<b.1):=by
 refine List.Pairwise.filterMap _ ?_ List.pairwise_lt_range;intro a l h b o q g;cases e:f a with
 |none=>grind
 |some v=>
  cases p:f l with
  |_=>grind
def Tb.relayAll (h:Tb b t) (es:Yt) (n:Nat):Tb b (PySem.relayAll t es n).2.1:=by
 unfold PySem.relayAll;split
 ·rename_i l order e
  dsimp only
  split
  ·unfold SetTable.relaid SetTable.laid at e;cases f:SetTable.layClean (SetTable.sizeAbove n-1) (es.map (·.1))with
   |none=>grind
   |some owner=>
    rw[f]at e;have g:=Qs Prod.fst (WT e);subst g;refine⟨h.led,rfl,?_⟩;show(List.map (λx=>x.fst) ((List.range (SetTable.sizeAbove n-1+1)).filterMap λj=>(owner.getD j none).map (j,·))).toArray.toList.Pairwise (· < ·);rw[List.toList_toArray,VD];exact Zj1 _ _
  ·exact h.stand _
 ·exact h.stand _
noncomputable def keyOf(e:Int×Value):Int:=match e.2 with
 | .int k _=>k
 |_=>0
def Ent(e:Int×Value):Prop:=∃(k:Int) (t:Tok),e=(hashInt k,.int k t)
section
variable (prog:Program) (w:World)
noncomputable def PN(w:World):Bool:=w.params.followText "set-order"
structure KF (h:Heap) (a:Addr) (js:Yf) (es:Yt) (ep:Nat) (t:SetTable):Prop where
 obj:∃o,h.get? a=some o/\o.ExactSet/\o.data=.set es ep t
 ent:∀e∈es.toList,Ent e
 per:(es.toList.map keyOf).Perm js
 nod:js.Nodup
 few:es.size<scanBound
 fit:t.fits es.size=true
 tab:Tb (!PN w) t
def SetB(h:Heap)(a:Addr)(b:Yf):Prop:=∃f g t,KF w h a b f g t
end
section
variable {prog:Program}{w:World}{A:Around}{E:Yi}{s:Shared}
def Ent.elems (h:∀e∈l,Ent e):ElemsOf (intKind prog w) l:=λe b=>by
 obtain⟨k,t,rfl⟩:=h e b;exact⟨⟨k,intKind_is _ _ _ _,rfl⟩,rfl⟩
def Zah(h:Ent e)(k:Int):(intKind prog w).is k e.2=decide (k=keyOf e):=by
 obtain⟨b,t,rfl⟩:=h;show Value.isInt k (.int b t)=decide (k=b);by_cases e:k=b
 ·subst e;simp[Value.isInt]
 ·rw[Qc e];simp[Value.isInt];lia
def SetB.len (S:KF w h a b es f t):es.size=b.length:=by
 have:=S.per.length_eq
 grind
def SetB.at {a l} (S:SetB w h a l) (k:∀o,h.get? a=some o->p.get? a=some o):SetB w p a l:=by
 obtain⟨q,u,t,⟨o,n,r⟩,b,c,d,e,f,g⟩:=S;exact⟨q,u,t,⟨o,k o n,r⟩,b,c,d,e,f,g⟩
def KF.store {es b}{g t t'} (S:KF w h a z es g t) (y:∀e∈b.toList,Ent e) (x:(b.toList.map keyOf).Perm f) (v:f.Nodup) (u:b.size<scanBound)
  (r:t'.fits b.size=true) (p:Tb (!PN w) t'):KF w (h.update a<|Obj.putSet b t') a f b (g+1) t':=by
 obtain⟨o,n,hx,l⟩:=S.obj;refine⟨⟨{o with data:=.set b (g+1) t'},?_,hx,rfl⟩,y,x,v,u,r,p⟩
 have q:=Q4 (Obj.putSet b t') n (by rw[putSet_of b t' l];rfl);rwa[putSet_of b t' l]at q
def Mx{g:Bool->Sem Unit}(Y:∀b C M,M () C->wpAny (model prog w) A (g b) M E C){a Q h}{es f}{ep t t'}(S:KF w s.heap a Q es ep t)(L:∀e∈f.toList,Ent e)(J:(f.toList.map keyOf).Perm h)(H:h.Nodup)(r:f.size<scanBound)(h5:t'.fits f.size=true)(G:Tb (!PN w) t'){d R}(n:∀u,Heap.SameBut a s.heap u->SetB w u a h->R (some true) {s with heap:=u}) :
  wpAny (model prog w) A (do
    storeSet a f t'
    if (!d&&t'.tooFull)=true then do
      g (relayAll t' f<|SetTable.grown f.size).2.2
      storeSet a (relayAll t' f<|SetTable.grown f.size).1 (relayAll t' f<|SetTable.grown f.size).2.1
      pure (some true)
     else pure (some true)) R E s:=by
 obtain⟨o,U,hx,hd⟩:=S.obj;have B:=S.store L J H r h5 G;obtain⟨o1,p,T,q⟩:=B.obj;have N:=QH s.heap a (Obj.putSet f t');refine W8 (wpAny_storeSet_of U hd ?_<|Jr r);split
 ·have l:=relayAll_perm t' f (SetTable.grown f.size);have v:=relayAll_fits t' f (SetTable.grown f.size);have tt:=G.relayAll f (SetTable.grown f.size);generalize relayAll t' f (SetTable.grown f.size)=y at l v tt ⊢;obtain⟨x,t2,g2⟩:=y
  dsimp only at l v tt ⊢
  have z:x.size=f.size:=by rw[←Qw,l.length_eq,Qw]
  refine W8 (Y _ _ _<|W8<|wpAny_storeSet_of p q ?_<|Jr<|by lia);exact WD (n _ (N.trans<|QH _ a _) ⟨_,_,_,B.store (λe he=>L e (l.mem_iff.mp he)) ((l.map keyOf).trans J) H (by rw[z];exact r) v tt⟩)
 ·exact WD (n _ N ⟨_,_,_,B⟩)
noncomputable def KE(b:Yf)(k:Int):Yf:=if k∈b then b else b++[k]
def Zop{R}(S:SetB w s.heap a n)(room:n.length+1<scanBound)(H:∀r g,Heap.SameBut a s.heap g->SetB w g a (KE n k)->R r {s with heap:=g}) :
  wpAny (model prog w) A (setAddHashed a (.int k u)<|hashInt k) R E s:=by
 obtain⟨l,ep,t,S⟩:=S;obtain⟨o,Y,hx,hd⟩:=S.obj;have el:=Ent.elems (prog:=prog) (w:=w) S.ent;have M:=SetB.len S;refine QK (W8<|Vx Y hd S.fit ?_)
 dsimp only
 rw[byScan_of rfl S.few el];simp only[↓reduceIte];unfold setAddByScan;refine W8 (W8<|wpAny_rule<|W8<|wpAny_setScan_of (intKind_is _ _ _ _) Y hd S.fit el ?_);have mem:∀z,z∈n↔∃e∈l.toList,keyOf e=z:=λz=>by rw[←S.per.mem_iff,WO]
 cases q:List.findIdx? (λe=>(intKind prog w).is k e.2) l.toList with
 |some j=>
  dsimp only
  obtain⟨hj,U,_⟩:=List.findIdx?_eq_some_iff_getElem.mp q
  have L:k∈n:=by
   rw[Zah (S.ent _<|WU hj)]at U;exact(mem k).mpr ⟨_,WU hj,(WJ U).symm⟩
  refine WD (WD ?_);have f:=H false s.heap (Heap.SameBut.refl a s.heap);unfold KE at f;rw[WK L]at f;exact f ⟨_,_,_,S⟩
 |none=>
  dsimp only
  have L:¬k∈n:=λM=>by
   obtain⟨e,he,N⟩:=(mem k).mp M
   have:=List.findIdx?_eq_none_iff.mp q e he
   rw[Zah (S.ent e he),WH N.symm]at this;cases this
  have P:=layNew_perm t l (hashInt k) (.int k u);have F:=layNew_fits t l (hashInt k) (.int k u);have T:=S.tab.layNew l (hashInt k) (.int k u);change wpAny (model prog w) A (match layNew t l (hashInt k) (.int k u)with|(l,t,wasDummy,gave)=>_) _ _ _
  generalize layNew t l (hashInt k) (.int k u)=y at P F T ⊢;obtain⟨p,t1,d1,g1⟩:=y
  dsimp only at P F T ⊢
  rw[Array.toList_push]at P
  have e1:∀e∈p.toList,Ent e:=λe he=>by
   rcases Qd.mp (P.mem_iff.mp he)with he|he
   ·exact S.ent e he
   ·rw[WC.mp he];exact⟨k,u,rfl⟩
  have e2:(p.toList.map keyOf).Perm (n++[k]):=by
   refine(P.map keyOf).trans ?_;rw[WX];exact S.per.append_right _
  have e3:(n++[k]).Nodup:=QM.mpr ⟨S.nod,by simp,λx hx y hy=>by rw[WC.mp hy];rintro rfl;exact L hx⟩
  have e4:p.size<scanBound:=by
   rwa[←Qw,P.length_eq,Qa,Qw,M]
  have h:=λg B G=>by
   have f:=H true g B;unfold KE at f;rw[WI L]at f;exact f G
  have Q:∀b {C:Shared} {J:Unit->Shared->Prop},J () C->wpAny (model prog w) A (match b with|true=>rule "set.scan.the-table-gave-way" |false=>pure ()) J E C:=λb C J v=>by cases b<;>first|exact WD v|exact wpAny_rule v
  refine W8 (Q _ ?_);split
  ·refine W8 ?_;rw[hashByValue_scannable 8 rfl];refine WD (Mx (λb C J v=>Q b v) S e1 e2 e3 e4 ?_ ?_ λg B G=>WD (h g B G))
   ·split
    ·exact F
    ·exact SetTable.fits_plain_off F
   ·split
    ·exact T
    ·exact T.plainOff
  ·refine W8 (WD ?_);simp only[↓reduceIte];exact Mx (λb C J v=>Q b v) S e1 e2 e3 e4 F T λg B G=>WD (h g B G)
def Zni{I G x P St}{ns:Yf}(W:Walks prog w A.in1 I G x ns.length P St)(S:Addr)(C:S∉G)(L:∀i v,P i v->∃t,v=.int (ns.getD i 0) t)(room:ns.length+1<scanBound):∀k i s n,ns.length-i=k->i<=ns.length->St i s.heap->SetB w s.heap S n->n.length<=i->
   (∀h p,(∀b o,b∉S::x->s.heap.get? b=some o->h.get? b=some o)->SetB w h S ((ns.drop i).foldl KE n)->R (.ok<|.ret .none) {s with heap:=h,toks:=p})->
   codeAny (model prog w) A (.builtin "set.update.loop" ⟨[.ref S,.ref I],[]⟩) R s:=by
 have q:=λz=>C (W.sub _ z);intro k
 induction k with
 |zero=>
  intro i s n M Q st B N l;have ei:i=ns.length:=by lia
  refine V9 Je ?_;show wpAny _ A.in1 (pyNext (.ref I) >>= _) _ _ s;refine W8 (W.done s _ _ (ei▸st) λh p keep=>?_);show wpAny _ A.in1 (ret Value.none) _ _ _;refine WD (l h p (λb o g e=>keep b o (λz=>g (WV _ z)) e) ?_);rw[ei,J6];exact B.at λo e=>keep S o q e
 |succ k J=>
  intro i s n M Q st B N l;have f:i<ns.length:=by lia
  refine V9 Je ?_;rw[VR Jf _];show wpAny _ A.in1 (pyNext (.ref I) >>= _) _ _ s;refine W8 (W.item i s _ _ f st λv T H pv u keep1=>?_);obtain⟨t,rfl⟩:=L i v pv;have B1:=B.at λo e=>keep1 S o q e;unfold setAdd;refine W8 (QK<|QK<|W8 ((intKind prog w).pyHash (intKind_is _ _ _ _) ?_));refine Zop B1 (by lia) λr h2 y B2=>?_
  have U:(KE n<|ns.getD i 0).length<=i+1:=by
   unfold KE;split
   ·lia
   ·simp;lia
  refine WD ⟨plainId_quiet Jf _,J (i+1) _ _ (by lia) f (W.frame _ T _ u λb g o e=>?_) B2 U λh p keep B'=>?_⟩
  ·rw[y.2 b (λz=>C (by rw[←z];exact g))];exact e
  ·refine l h p (λb o g e=>keep b o g ?_) ?_
   ·rw[y.2 b (λz=>g (by rw[z];exact Qh))];exact keep1 b o (λz=>g (WV _ z)) e
   ·have Y:ns.drop i=ns.getD i 0::ns.drop (i+1):=by
     rw[Qu f,WE,WA f];rfl
    rwa[Y]
def Ze2(a:Value){Q}(b:Q (.ref s.heap.objs.size) {s with heap:=s.heap.push {cls:=.type "set",dict:=none,data:=.set #[] 0 (.fresh 0 0 (!PN w))}}) :
  codeAny (model prog w) A (.call (.builtin "set.__new__") ⟨[.type "set",a],[]⟩) (wants Q E) s:=by
 refine codeAny_of_tree (?_);refine W8 (wpAny_of_eq (F.newCall_set_1 a)<|WD ⟨plainId_quiet F.plain_set_new _,V9 F.entry_set_new ?_⟩);rw[(VR (A:=A) F.plain_set_new ⟨[.type "set",a],[]⟩)];unfold Builtin.«set.__new__» Builtin.Frozenset.newClass;have f:=sub_set_self
 dsimp only
 wp_walk
 refine wpAny_askSetting (WD<|?_)
 dsimp only
 simp only[newObj];exact W8 (wpAny_alloc<|WD<|WD b)
set_option maxHeartbeats 4000000 in
def Zq3{l:Addr}{f:Yr}{ns:Yf}{Q:Yi}(hh:A.handled=none)(hl:s.heap.IsList l f)(hi:IntsAre f.toList ns)(room:ns.length+1<scanBound)(T:∀(h:Heap) (q:Nat),SetB w h s.heap.objs.size (ns.foldl KE [])->(∀b o,b<s.heap.objs.size->s.heap.get? b=some o->h.get? b=some o)->Q (.ref s.heap.objs.size) {s with heap:=h,toks:=q}) :
  wpAny (model prog w) A (call (.type "set") [.ref l]) Q E s:=by
 have hn:f.size=ns.length:=by have:=IntsAre.length hi;simpa using this
 obtain⟨mroC,mroT,mro⟩:=F.called_set.mro;have made:=F.called_set.made;have subs:=F.called_set.sub;refine JG (codeAny_of_tree<|show wpAny _ _ (callAny (.type "set") _) _ _ _ from ?_)
 refine WD ⟨Code.quiet_builtin _ (by decide +kernel),V9 F.entry_type_call ?_⟩;have wt:=Around.under_plain (A:=A) (weight_type_call_type "set" [.ref l] []) rfl;rw[wt];have nt:=F.called_set.notType;have cc:=F.called_set.canCreate;have tc:=F.typeCall_set_1 (.ref l)
 repeat (any_goals (first|assumption|wp_step))
 refine Vq (Ze2 (.ref l) (E:=E) (Q:=λobj Y=>obj=.ref s.heap.objs.size/\Y={s with heap:=s.heap.push {cls:=.type "set",dict:=none,data:=.set #[] 0 (.fresh 0 0 (!PN w))}}) ⟨rfl,rfl⟩) λr Y x=>?_
 cases r with
 |error e=>exact x
 |ok fl=>
  cases fl with
  |next=>exact x.elim
  |brk=>exact x.elim
  |cont=>exact x.elim
  |ret obj=>
   obtain⟨rfl,rfl⟩:=x;generalize H:s.heap.push {cls:=.type "set",dict:=none,data:=.set #[] 0 (.fresh 0 0 (!PN w))}=n;have g1:n.get? s.heap.objs.size=some {cls:=.type "set",dict:=none,data:=.set #[] 0 (.fresh 0 0 (!PN w))}:=by rw[←H];exact WN _ rfl
   have hT:Shared.TypeIs {s with heap:=n} (.ref s.heap.objs.size) "set":=⟨_,g1,rfl⟩
   have ini:=F.called_set.init.lookup;have inb:=F.called_set.init.bind (.ref s.heap.objs.size)
   repeat (any_goals (first|assumption|wp_step))
   refine Vq (codeAny_call_builtin (R:=wants (λr U=>r=.none/\∃h q,U={s with heap:=h,toks:=q}/\SetB w h s.heap.objs.size (ns.foldl KE [])/\(∀b o,b<s.heap.objs.size->s.heap.get? b=some o->h.get? b=some o)) E)
    F.called_set.init.plain F.entry_set_init (check_set_init_1 hT ?_)) λr2 U g=>?_
   ·obtain⟨ob,z,G,nl,C⟩:=hl;obtain⟨c1,d1,dt1,J⟩:=ob;simp only at G C;subst G;subst C;have y:n.get? l=some {cls:=.type "list",dict:=d1,data:=.seq f nl,slots:=J}:=by rw[←H];exact WB _ z
    have p:n.objs.size=s.heap.objs.size+1:=by rw[←H,VG]
    have no1:=F.sub_list_set;have no2:=F.sub_list_frozenset;have no3:(Value.type "list" == Value.type "dict")=false:=by decide
    have L1:n.IsList l f:=⟨_,y,rfl,nl,rfl⟩;unfold Builtin.«set.__init__» noKeywords Builtin.Frozenset.updateFrom;generalize eP:pyIter=PI
    wp_walk
    subst eP;refine VB L1 (W8<|wpAny_runValue ?_);have u:l<s.heap.objs.size:=WM z;have N:A.in1.in1.in1.handled=none:=by simp[hh]
    have M:l≠n.objs.size:=by rw[p];exact Qg (Js u)
    have L:s.heap.objs.size∉[n.objs.size,l]:=by
     rw[p];simp only[WL,V1,or_false,not_or];exact⟨Qg (J1 _),JF u⟩
    have W0:=Walks.list (prog:=prog) (w:=w) N n.objs.size l M f;rw[hn]at W0;refine Zni (ns:=ns) W0 s.heap.objs.size L (λi v hv=>IntsAre.int_at hi i v (by rw[QO];exact hv)) room (ns.length-0) 0 _ [] rfl (QL _) ⟨⟨_,WN _ rfl,rfl,rfl⟩,L1.push _⟩ ?_ (QL _) λh q keep B=>?_
    ·exact⟨#[],0,_,⟨_,WB _ g1,⟨rfl,rfl,rfl⟩,rfl⟩,λe he=>by simp at he,by simp,VI,by show(0:Nat)<4096;decide,rfl,Tb.fresh _⟩
    ·show wpAny _ _ _ _ _ _;refine WD (show wpAny _ _ (ret Value.none) _ _ _ from WD ⟨rfl,h,q,rfl,B,λb o hb e=>?_⟩)
     refine keep b o ?_ (WB _<|by rw[←H];exact WB _ e);rw[p];simp only[WL,V1,or_false,not_or];exact⟨Qg hb,Qg (Js hb)⟩
   ·cases r2 with
    |error e=>exact g
    |ok f2=>
     cases f2 with
     |next=>exact g.elim
     |brk=>exact g.elim
     |cont=>exact g.elim
     |ret r=>
      obtain⟨rfl,h,q,rfl,B,keep⟩:=g
      repeat (any_goals (first|assumption|wp_step))
      exact T _ _ B keep
end
def si_slot:Slot "set_iterator" "__next__" "set_iterator.__next__":=
 Slot.of (owner:="set_iterator") (n:="__next__") (by rw[typeLookup_type,builtinLookup_eq_fast];kernel_rfl) (by decide +kernel) (by decide +kernel) (by decide +kernel)
  (by first|exact Or.inl (by decide +kernel)|exact Or.inr (by decide +kernel)) (by rw[isSubtype_type];kernel_rfl)
def Zdf:entryFor table "set_iterator.__next__"=some Builtin.«set_iterator.__next__»:=entryFor_of_tree rfl
def Zdt(a:Value):argsOk "set_iterator.__next__" ⟨[a],[]⟩:=by trivial
def Zo7:entryFor table "set.__iter__"=some Builtin.«frozenset.__iter__»:=entryFor_alias (id':="frozenset.__iter__") (by kernel_rfl) rfl (by decide +kernel) (by kernel_rfl)
def MN:Slot "set_iterator" "__iter__" "set_iterator.__iter__":=
 Slot.of (owner:="set_iterator") (n:="__iter__") (by rw[typeLookup_type,builtinLookup_eq_fast];kernel_rfl) (by decide +kernel) (by decide +kernel) (by decide +kernel)
  (by first|exact Or.inl (by decide +kernel)|exact Or.inr (by decide +kernel)) (by rw[isSubtype_type];kernel_rfl)
def Zn6:entryFor table "set_iterator.__iter__"=some Builtin.«dict_keyiterator.__iter__»:=entryFor_alias (id':="dict_keyiterator.__iter__") (by kernel_rfl) rfl (by decide +kernel) (by kernel_rfl)
def Zqf(a:Value):argsOk "set_iterator.__iter__" ⟨[a],[]⟩:=by unfold argsOk;kernel_rfl
def SI(h:Heap)(I a:Addr)(first:Value)(i n b:Nat):Prop:=∃o,h.get? I=some o/\o.cls=.type "set_iterator"/\o.data=.fields #[first,.int i 0,.ref a,.int n 0,.int b 0]
section
variable {prog:Program}{w:World}{A:Around}{E:Yi}{s:Shared}{I a:Addr}{first:Value}{i n ep:Nat}{js:Yf}{es:Yt}{t:SetTable}
def SI.typ (h:SI s.heap I a first i n ep):s.TypeIs (.ref I) "set_iterator":=let ⟨o,b,f,_⟩:=h;⟨o,b,f⟩
def SI.at (x:SI h I a first i n ep) (k:∀o,h.get? I=some o->f.get? I=some o):SI f I a first i n ep:=let ⟨o,b,r⟩:=x;⟨o,k o b,r⟩
noncomputable def B0(first:Value)(a I:Addr)(i ep:Int):Sem PySem.Fin:=
 match first with
 |Value.int slot _=>do
  match ←setNext a slot.toNat i.toNat ep.toNat with
  |some (x,next)=>
   setField (.ref I) 0 (rawInt next)
   setField (.ref I) 1 (rawInt (i+1))
   ret x
  |none=>
   setField (.ref I) 2 .none
   raiseNew (←newExc (.type "StopIteration") [])
 |_=>do
  let some places ←seqItems? first|unsupported "internal:set_iterator"
  match places[i.toNat]? with
  |some (.int place _)=>
   let x ←setNextDrawn a place.toNat ep.toNat
   setField (.ref I) 1 (rawInt (i+1))
   ret x
  |some _=>unsupported "internal:set_iterator"
  |none=>
   setField (.ref I) 0 (rawInt 0)
   setField (.ref I) 2 .none
   raiseNew (←newExc (.type "StopIteration") [])
def Ae(f:SI s.heap I a first i es.size ep)(S:KF w s.heap a js es ep t)
  (body:wpAny (model prog w) A.in1 (B0 first a I i ep) (λp l=>∃v,p=.done (.ret v)/\Q (some v) l)
   (λe l=>wpAny (model prog w) A (isInstance e<|.type "StopIteration") (λb g=>b=true/\Q none g) E l) s) :
  wpAny (model prog w) A (pyNext<|.ref I) Q E s:=by
 obtain⟨o,x,G,y⟩:=id f;obtain⟨C,r,hx,u⟩:=S.obj;refine W8 (wpAny_attempt<|Jo f.typ si_slot<|QZ si_slot f.typ Zdf ?_<|Zdt _);refine W8 (WD<|W8<|wpAny_fieldsOf x y ?_);refine W8 (wpAny_setEntries_of r u S.fit ?_);rw[WI (by simp)];refine Qr body (λp l h=>?_) λe l h=>?_
 ·obtain⟨v,e,q⟩:=h;exact⟨v,e,WD q⟩
 ·refine W8 (Qr h (λb g B=>?_) λ_ _ z=>z);obtain⟨rfl,q⟩:=B;exact WD q
def M0{Q:Yp->Shared->Prop}{o}{vs}(q:A.handled=none)(p:s.heap.get? I=some o)(r:o.data=.fields vs)(u:2<vs.size)(g:∀h,Heap.ExtBut I s.heap h->Q none {s with heap:=h}){R:PySem.Fin->Shared->Prop} :
  wpAny (model prog w) A.in1 (do setField (.ref I) 2 .none;raiseNew (←newExc (.type "StopIteration") [])) R (λe l=>wpAny (model prog w) A (isInstance e<|.type "StopIteration") (λb f=>b=true/\Q none f) E l) s:=by
 refine W8 (Vb p r u<|W8 ?_);refine W8 (Q6 ?_<|by size_fits);refine W8 (wpAny_of_eq (by first|rfl|(simp only[firstArgMember];rfl))<|Q6 ?_<|by size_fits)
 simp only[raiseNew];refine W8 (wpAny_handled ?_);rw[q];refine W8 (WD<|wpAny_throw ?_);refine wpAny_isInstance ⟨_,WN _ rfl,rfl⟩ isSubtype_stop ?_;exact⟨rfl,g _ (((QH ..).extBut.push _).push _)⟩
def SI.step1 {x:Value} (f:s.heap.get? I=some o) (g:o.cls=.type "set_iterator") (b:o.data=.fields #[first,.int i 0,.ref a,.int n 0,.int ep 0]) :
  SI (s.heap.update I<|Obj.mapFields (·.setIfInBounds 1 (rawInt ((i:Int)+1)))) I a first (i+1) n ep:=
 ⟨_,Q4 _ f (Vc<|QE b _),(Jt ..).trans g,by rw[QE b];simp[rawInt]⟩
def F3(h:Q (PN w) s):wpAny (model prog w) A setsByText Q E s:=W8 (wpAny_askSetting<|WD h)
def Zqe(S:KF w s.heap a js es ep t)(g:PN w=true)(h:Q (((pickOrder (w.params.setOrder a ep) es)[i]?).map λe=>(e.2,slot)) s) :
  wpAny (model prog w) A (setNext a slot i ep) Q E s:=by
 obtain⟨l,b,hx,f⟩:=S.obj;refine W8 (Vx b f S.fit<|W8<|F3 ?_);rw[g,WK rfl,WI (by simp)];refine W8 ?_;refine W8 (Vx b f S.fit<|W8<|F3 ?_);rw[g,WK rfl];exact W8 (wpAny_askSetting<|WD<|WD h)
def Zp9(S:KF w s.heap a js es ep t)(g:PN w=false)(l:(!t.plain&&decide (es.size>1))=false)(h:Q (match es[SetTable.below t.place slot]?,t.place[SetTable.below t.place slot]? with|some (_,x),some j=>some (x,j+1)|_,_=>none) s):wpAny (model prog w) A (setNext a slot i ep) Q E s:=by
 obtain⟨p,b,hx,f⟩:=S.obj;refine W8 (Vx b f S.fit<|W8<|F3 ?_);rw[g,WI (by decide)];show wpAny _ _ (if (!t.plain&&decide (es.size>1))=true then _ else _) _ _ _;rw[l,WI (by decide)];refine W8 (?_:wpAny _ _ (if (!t.led && !es.isEmpty)=true then unsupported "set:maker-not-led" else pure ()) _ _ _);have o:t.led=true:=by rw[S.tab.led,g];rfl
 rw[o,WI (by simp)];exact WD (WD h)
def Zot{p e}(S:KF w s.heap a js es ep t)(g:es[p]?=some e)(h:Q e.2 s):wpAny (model prog w) A (setNextDrawn a p ep) Q E s:=by
 obtain⟨l,b,hx,f⟩:=S.obj;refine W8 (Vx b f S.fit ?_)
 dsimp only
 rw[WI (by simp),g];exact WD h
def Zlp{m}(b:m≠0)(h:∀k d,k<m->Q k {s with drawn:=d}):wpAny (model prog w) A (choose f m) Q E s:=by
 intro Γ p g;exact⟨b,h _ _ (Nat.mod_lt _<|Nat.pos_of_ne_zero b)⟩
theorem Ce{b:Type}:∀(xs:List b) k h,(xs[k]::xs.eraseIdx k).Perm xs
 |x::r,0,_=>List.Perm.refl _
 |x::r,k+1,h=>by
  have f:k<r.length:=by grind
  exact(List.Perm.swap _ _ _).trans (List.Perm.cons _<|Ce r k f)
def Zjc:∀m xs s {Q:List q->Shared->Prop},xs.length=m->(∀b d,b.Perm xs->Q b {s with drawn:=d})->wpAny (model prog w) A (drawOrder m xs) Q E s:=by
 intro m
 induction m with
 |zero=>
  intro xs s Q f h;have e:=V5.mp f;subst e;exact WD (h [] s.drawn<|List.Perm.refl _)
 |succ m l=>
  intro xs s Q f h;cases xs with
  |nil=>grind
  |cons x r=>
   unfold drawOrder;refine W8 (Zlp (by simp) λk d g=>?_);rw[WA g];refine W8 (l _ _ (by grind) λb p o=>WD ?_);exact h _ p ((List.Perm.cons _ o).trans (Ce _ _ g))
def KF.keep (S:KF w h a js es ep t) (k:∀o,h.get? a=some o->p.get? a=some o):KF w p a js es ep t:=by
 obtain⟨⟨o,l,r⟩,b,c,d,e,f,g⟩:=S;exact⟨⟨o,k o l,r⟩,b,c,d,e,f,g⟩
def Hs(b:SI s.heap I a first i n ep)(h:Q (.ref I) s):wpAny (model prog w) A (pyIter<|.ref I) Q E s:=by
 refine Ju b.typ MN (QZ MN b.typ Zn6 ?_<|Zqf _);exact WD ⟨_,rfl, "set_iterator",_,b.typ,si_slot.lookup,h⟩
def Zag(hh:A.handled=none)(I a:Addr)(hne:a≠I)(vs:Yl)(hl:vs.length=es.size)(sl:Nat->Nat)(nx:∀A E s i Q,i<=es.size->KF w s.heap a js es ep t->Q ((vs[i]?).map λv=>(v,sl (i+1))) s->wpAny (model prog w) A (setNext a (sl i) i ep) Q E s) :
  Walks prog w A I [I,a] [I] es.size (λi v=>vs[i]?=some v) (λi h=>SI h I a (.int (sl i) 0) i es.size ep/\KF w h a js es ep t) where
 sub:=λb hb=>by simp at hb;simp[hb]
 frame:=λ_ _ _ st k=>⟨st.1.at λo e=>k I (by simp) o e,st.2.keep λo e=>k a (by simp) o e⟩
 item:=λi s Q E hi st fin=>by
  obtain⟨o,ho,hc,hd⟩:=id st.1;refine Ae st.1 st.2 ?_;unfold B0
  dsimp only
  rw[Q3,Q3,Q3];refine W8 (nx _ _ s i _ (Ja hi) st.2 ?_);have hi2:i<vs.length:=by lia
  rw[WA hi2];refine W8 (Vb ho hd (by simp) ?_);have g1:=Q4 (Obj.mapFields (·.setIfInBounds 0 (rawInt (sl (i+1):Int)))) ho (Vc<|QE hd _);have d1:(Obj.mapFields (·.setIfInBounds 0 (rawInt (sl (i+1):Int))) o).data=.fields #[.int (sl (i+1)) 0,.int i 0,.ref a,.int es.size 0,.int ep 0]:=by rw[QE hd];simp[rawInt]
  refine W8 (Vb g1 d1 (by simp) ?_);have sb:=(QH s.heap I<|Obj.mapFields (·.setIfInBounds 0 (rawInt (sl (i+1):Int)))).trans (QH _ I<|Obj.mapFields (·.setIfInBounds 1 (rawInt ((i:Int)+1))));refine WD ⟨_,rfl,fin vs[i] _ s.toks (WA hi2) ⟨?_,st.2.keep λo e=>sb.extBut a o hne e⟩ λb o hb e=>sb.extBut b o (λz=>hb (by simp[z])) e⟩;exact SI.step1 (x:=.none) g1 ((Jt ..).trans hc) d1
 done:=λs Q E st fin=>by
  obtain⟨o,ho,hc,hd⟩:=id st.1;refine Ae st.1 st.2 ?_;unfold B0
  dsimp only
  rw[Q3,Q3,Q3];refine W8 (nx _ _ s es.size _ (WG _) st.2 ?_);rw[Vv (by lia)];exact M0 hh ho hd (by simp) λh' eb=>fin h' s.toks λb o hb e=>eb b o (λz=>hb (by simp[z])) e
 self:=λ_ _ _ _ st fin=>Hs st.1 fin
def Zo0(hh:A.handled=none)(I a T:Addr)(hne:a≠I)(hT:T≠I)(ps:Yk)(hl:ps.length=es.size)(hps:∀p∈ps,p<es.size)(vs:Yl)(hvs:vs=ps.map λp=>((es[p]?).map (·.2)).getD .none) :
  Walks prog w A I [I,a,T] [I] es.size (λi v=>vs[i]?=some v) (λi h=>SI h I a (.ref T) i es.size ep/\KF w h a js es ep t/\∃o,h.get? T=some o/\∃c,o.data=.seq (ps.map λ(p:Nat)=>rawInt p).toArray c) where
 sub:=λb hb=>by simp at hb;simp[hb]
 frame:=λ_ _ _ st k=>⟨st.1.at λo e=>k I (by simp) o e,st.2.1.keep λo e=>k a (by simp) o e,let ⟨o,ho,c⟩:=st.2.2;⟨o,k T (by simp) o ho,c⟩⟩
 item:=λi s Q E hi st fin=>by
  obtain⟨o,ho,hc,hd⟩:=id st.1;obtain⟨oT,hoT,c,hdT⟩:=st.2.2;refine Ae st.1 st.2.1 ?_;unfold B0
  dsimp only
  refine W8 (wpAny_seqItems hoT hdT ?_);have hi2:i<ps.length:=by lia
  have e1:(ps.map λ(p:Nat)=>rawInt p).toArray[(i:Int).toNat]?=some (.int ps[i] 0):=by
   rw[Q3,List.getElem?_toArray,WR,WA hi2];rfl
  have hp:=hps _ (WU hi2)
  dsimp only
  rw[e1]
  dsimp only
  have e3:vs[i]?=some (es[ps[i]]).2:=by rw[hvs,WR,WA hi2];simp[hp]
  refine W8 (Zot st.2.1 (Q9 hp)<|W8<|Vb ho hd (by simp) ?_);have sb:=QH s.heap I (Obj.mapFields (·.setIfInBounds 1 (rawInt ((i:Int)+1))));exact WD ⟨_,rfl,fin _ _ s.toks e3 ⟨SI.step1 (x:=.none) ho hc hd,st.2.1.keep λo e=>sb.extBut a o hne e,oT,sb.extBut T oT hT hoT,c,hdT⟩ λb o hb e=>sb.extBut b o (λz=>hb (by simp[z])) e⟩
 done:=λs Q E st fin=>by
  obtain⟨o,ho,hc,hd⟩:=id st.1;obtain⟨oT,hoT,c,hdT⟩:=st.2.2;refine Ae st.1 st.2.1 ?_;unfold B0
  dsimp only
  refine W8 (wpAny_seqItems hoT hdT ?_)
  have e1:(ps.map λ(p:Nat)=>rawInt p).toArray[(es.size:Int).toNat]?=none:=by
   rw[Q3,List.getElem?_toArray,WR,Vv (by lia)];rfl
  dsimp only
  rw[e1]
  dsimp only
  refine W8 (Vb ho hd (by simp) ?_);refine M0 (s:={s with heap:=_}) hh (Q4 (Obj.mapFields (·.setIfInBounds 0 (rawInt 0))) ho<|Vc<|QE hd _) (QE hd _) (by simp) λh' eb=>fin h' s.toks λb o hb e=>eb b o (λz=>hb (by simp[z])) ((QH s.heap I<|Obj.mapFields (·.setIfInBounds 0 (rawInt 0))).extBut b o (λz=>hb (by simp[z])) e)
 self:=λ_ _ _ _ st fin=>Hs st.1 fin
def Zb9(nx:Nat->Nat):∀m k left (b:Array l),left.length=m->(pickOrder.go nx m k left b).toList.Perm (b.toList++left):=by
 intro m
 induction m with
 |zero=>
  intro k left b g;have e:=V5.mp g;subst e;show b.toList.Perm (b.toList++[]);simp
 |succ m h=>
  intro k left b g;have f:nx k % left.length<left.length:=Nat.mod_lt _ (by lia);unfold pickOrder.go;rw[WA f];refine(h _ _ _<|by grind).trans ?_;rw[Array.toList_push,VE];exact(Ce left _ f).append_left _
def O7(nx:Nat->Nat)(xs:Array b):(pickOrder nx xs).toList.Perm xs.toList:=by
 have:=Zb9 nx xs.size 0 xs.toList #[] rfl
 simpa [pickOrder]using this
noncomputable def slotAt(t:SetTable)(i:Nat):Nat:=if i=0 then 0 else t.place.getD (i-1) 0+1
def Os(h:t.fits m=true):t.place.size=m:=by
 simp only[SetTable.fits,Qb,beq_iff_eq]at h
 grind
def Zgc(S:KF w s.heap a js es ep t){i}(l:i<=es.size):SetTable.below t.place (slotAt t i)=i:=by
 have g:=Os S.fit;have R:=S.tab.ris.ris;refine Zg9 R (by lia) (λk h=>?_) λk o b=>?_
 ·unfold slotAt;rw[WI (by lia)];by_cases e:k=i-1
  ·rw[e];lia
  ·have:=R k (i-1) (by lia) (by lia)
   lia
 ·unfold slotAt;by_cases f:i=0
  ·grind
  ·rw[WI f]
   have:=R (i-1) k (by lia) b
   lia
def Zcm{A'}(M:A'.handled=none)(S:KF w s.heap a js es ep t)
  (l:∀I fp (vs:Yl) St N d1,Walks prog w A' I fp [I] es.size (λi v=>vs[i]?=some v) St->St 0 N->(∀b∈fp,b=a\/s.heap.get? b=none)->vs.length=es.size->vs.Perm (es.toList.map (·.2))->
   s.heap.get? I=none->(∀b o,s.heap.get? b=some o->N.get? b=some o)->Q (.ref I) {s with heap:=N,drawn:=d1}) :
  wpAny (model prog w) A (pyIter<|.ref a) Q E s:=by
 obtain⟨ob,g,hx,h⟩:=S.obj;have hT:s.TypeIs (.ref a) "set":=⟨ob,g,hx.1⟩;have ha:=WM g
 have new:∀b,s.heap.objs.size<=b->s.heap.get? b=none:=λb f=>by
  cases e:s.heap.get? b with
  |none=>rfl
  |some o=>exact absurd (WM e) (JJ.mpr f)
 refine Ju hT F.slot_set_iter (QZ F.slot_set_iter hT Zo7 ?_<|F.args_set_iter_1 _);unfold Builtin.«frozenset.__iter__»;show wpAny _ _ (Builtin.Frozenset.sizeOf a >>= _) _ _ s;unfold Builtin.Frozenset.sizeOf;refine W8 (W8<|wpAny_setEntries_of g h S.fit<|WD ?_);refine W8 ?_;unfold setDrawn;refine W8 (Vx g h S.fit<|W8<|F3<|WD ?_)
 dsimp only
 change wpAny _ _ (if (!PN w&&(!t.plain&&decide (es.size>1)))=true then _ else _) _ _ _;cases hd:(!PN w&&(!t.plain&&decide (es.size>1)))with
 |false=>
  rw[WI (by decide)];refine W8 (WD<|W8<|wpAny_setEpoch_of g h S.fit<|W8<|Q6<|WD ⟨_,rfl, "set_iterator",_,⟨_,WN _ rfl,rfl⟩,si_slot.lookup,?_⟩);have B:=Qg ha;have S1:KF w (s.heap.push {cls:=.type "set_iterator",data:=.fields [rawInt 0,rawInt 0,.ref a,rawInt es.size,rawInt ep].toArray}) a js es ep t:=S.keep λo e=>WB _ e
  have lt:∀b∈[s.heap.objs.size,a],b=a\/s.heap.get? b=none:=λb f=>by
   rcases WL.mp f with rfl|f
   ·exact .inr (new _<|WG _)
   ·exact .inl (WC.mp f)
  cases f:PN w with
  |true=>
   have u:((pickOrder (w.params.setOrder a ep) es).toList.map (·.2)).length=es.size:=by
    rw[W9,(O7 _ _).length_eq];simp
   refine l _ _ _ _ _ s.drawn (Zag M s.heap.objs.size a B ((pickOrder (w.params.setOrder a ep) es).toList.map (·.2)) u (λ_=>0) λA E s i Q hi G q=>Zqe G f ?_) ⟨⟨_,WN _ rfl,rfl,rfl⟩,S1⟩ lt u ((O7 _ _).map _) (new _<|WG _) λb o e=>WB _ e;rw[WR]at q;rw[←QO];cases e:(pickOrder (w.params.setOrder a ep) es).toList[i]? with
   |none=>rw[e]at q;exact q
   |some x=>rw[e]at q;exact q
  |false=>
   have y:(!t.plain&&decide (es.size>1))=false:=by rw[f]at hd;simpa using hd
   refine l _ _ _ _ _ s.drawn (Zag M s.heap.objs.size a B (es.toList.map (·.2)) (by simp) (slotAt t) λA E s i Q hi G q=>Zp9 G f y ?_) ⟨⟨_,WN _ rfl,rfl,rfl⟩,S1⟩ lt (by simp) (List.Perm.refl _) (new _<|WG _) λb o e=>WB _ e;rw[Zgc G hi];have hz:=Os G.fit;rw[WR]at q;by_cases L:i<es.size
   ·have C:=Q9 L;have e2:t.place[i]?=some t.place[i]:=Q9 (by lia);have U:es.toList[i]?=some es[i]:=by rw[QO];exact C
    rw[U]at q;rw[C,e2]
    have e4:slotAt t (i+1)=t.place[i]+1:=by
     unfold slotAt;rw[WI (by lia)]
     have:i<t.place.size:=by lia
     simp[Array.getD,this]
    have Y:=q;rw[e4]at Y;exact Y
   ·have C:es[i]?=none:=VA (by lia);have U:es.toList[i]?=none:=by rw[QO];exact C
    rw[U]at q;rwa[C]
 |true=>
  rw[WK rfl];refine W8 (Zjc _ _ s (by simp) λr d y=>?_);have u:r.length=es.size:=by rw[y.length_eq];simp
  have J:∀p∈r,p<es.size:=λp hm=>Vl.mp (y.mem_iff.mp hm);refine W8 (Q6 ?_<|by show(r.map λ(i:Nat)=>rawInt i).toArray.size<=sizeLine;rw[Qo,W9,u];exact Jr S.few);have z:=WB {cls:=.type "tuple",data:=.seq (r.map λ(i:Nat)=>rawInt i).toArray} g;refine W8 (wpAny_setEpoch_of z h S.fit<|W8<|Q6<|WD ⟨_,rfl, "set_iterator",_,⟨_,WN _ rfl,rfl⟩,si_slot.lookup,?_⟩);have H:(s.heap.push {cls:=.type "tuple",data:=.seq (r.map λ(i:Nat)=>rawInt i).toArray}).objs.size=s.heap.objs.size+1:=VG ..
  have T:(List.range es.size).map (λp=>((es[p]?).map (·.2)).getD Value.none)=es.toList.map (·.2):=by
   apply Ub;intro k;by_cases hk:k<es.size
   ·simp[hk]
   ·have:es.size<=k:=by lia
    simp[this]
  refine l _ _ _ _ _ d (Zo0 M _ a s.heap.objs.size ?_ ?_ r u J _ rfl) ⟨⟨_,WN _ rfl,rfl,rfl⟩,S.keep λo e=>WB _ (WB _ e),_,WB _ (WN _ rfl),0,rfl⟩ (λb f=>?_) (by rw[W9];exact u) ?_ (new _ ?_) λb o e=>WB _ (WB _ e)
  ·show a≠_;rw[H];exact Qg (Js ha)
  ·show s.heap.objs.size≠_;rw[H];exact Qg (J1 _)
  ·rcases WL.mp f with rfl|f
   ·refine .inr (new _ ?_);show s.heap.objs.size<=_;rw[H];exact Vn _
   ·rcases WL.mp f with rfl|f
    ·exact .inl rfl
    ·rw[WC.mp f];exact .inr (new _<|WG _)
  ·rw[←T];exact y.map _
  ·show s.heap.objs.size<=_;rw[H];exact Vn _
def Zmi(g:s.TypeIs (.ref a) "set")(h:Q false s):wpAny (model prog w) A (Builtin.List.listLengthHint<|.ref a) Q E s:=by
 refine W8 (wpAny_specialOf g F.slot_set_len.lookup ?_);generalize f:("set.__len__" : String)=z
 wp_delta
 have l:splitId z=some ("set","__len__"):=by subst f;decide +kernel
 rw[l];subst f;refine W8 (wpAny_isInstance (b:=true) g (by rw[isSubtype_type];kernel_rfl) (wpAny_ite_split (λz=>absurd z (by decide)) λ_=>?_));exact wpAny_ite_split (λ_=>W8 (wpAny_typeOf g<|WD h)) λz=>absurd (by decide +kernel) z
def Zi9(hh:A.handled=none)(S:KF w s.heap a js es ep t)(D:Addr)(c:Nat)(g:Value)(Y:s.heap.get? D=some {cls:=.type "list",data:=.seq #[] c})(C:D≠a)(fin:∀h' L d (vs:Yl) x,vs.Perm (es.toList.map (·.2))->h'.get? D=some {cls:=.type "list",dict:=none,data:=.seq vs.toArray x,slots:=#[]}->(∀b o,b≠D->s.heap.get? b=some o->h'.get? b=some o)->R (.ok<|.ret g) {s with heap:=h',toks:=L,drawn:=d}) :
  wpAny (model prog w) A.in1 (Builtin.List.listExtendWith (.ref D) (.ref a) g) (λf u=>match f with | .done f=>R (.ok f) u | .again x=>x.quiet=true/\codeAny (model prog w) A x R u) (λe u=>R (.error e) u) s:=by
 obtain⟨ob,B,hx,hdd⟩:=S.obj;have hT:s.TypeIs (.ref a) "set":=⟨ob,B,hx.1⟩;unfold Builtin.List.listExtendWith;refine W8 (wpAny_typeOf hT ?_);have n1:Builtin.List.listSameRef (.ref D) (.ref a)=false:=by simp[Builtin.List.listSameRef,C]
 have n2:(Value.type "set" == Value.type "list")=false:=by decide
 have n3:(Value.type "set" == Value.type "tuple")=false:=by decide
 simp only[n1,n2,n3,Bool.or_false,Jg,J2];refine W8 (Zcm (A':=A.in1) hh S λI fp vs St h1 d1 W N flt hl hp U keep=>?_);have hDI:D≠I:=λz=>by rw[←z,Y]at U;cases U
 have loop:∀h L c1,St 0 h->(∀b o,b≠D->s.heap.get? b=some o->h.get? b=some o)->h.get? D=some {cls:=.type "list",data:=.seq #[] c1}->D∉fp->
   codeAny (model prog w) A (.builtin "list.extend.loop" ⟨[.ref D,.ref I,g],[]⟩) R {s with heap:=h,toks:=L,drawn:=d1}:=λh L c1 st hk q p=>by
  refine codeAny_extend_loopS W.toS (Jr S.few) D p g es.size 0 _ #[] c1 rfl (QL _) st q (ItemsOf.nil _) λu v x M J r=>?_
  have ev:v.toList=vs:=by
   apply Ub;intro k;by_cases Q:k<v.size
   ·have e1:=Q9 Q;rw[QO,e1];exact(r.2 k _ e1).symm
   ·rw[QO,VA (by lia),Vv (by have:=r.1;lia)]
  have e2:v=vs.toArray:=by rw[←ev]
  rw[e2]at J;rw[Moved.eq_with M];refine fin u.heap u.toks d1 vs x hp J λb o l e=>M.heap b o (λG=>?_) (hk b o l e);rcases WL.mp G with z|z
  ·exact l z
  ·rw[WC.mp z,U]at e;cases e
 have p:D∉fp:=λM=>by
  rcases flt D M with z|z
  ·exact C z
  ·rw[Y]at z;cases z
 have T:Shared.TypeIs {s with heap:=h1,drawn:=d1} (.ref a) "set":=⟨ob,keep _ _ B,hx.1⟩
 refine W8 (QK<|Zmi T ?_);have q:=keep _ _ Y;refine W8 (wpAny_rule<|W8 (?_:wpAny _ _ (updateSeq D (·.push .none) >>= λ_=>updateSeq D (·.pop)) _ _ _));refine W8 (wpAny_updateSeq q rfl ?_);have H:=Q4 (Obj.mapSeq (·.push Value.none)) q rfl;refine wpAny_updateSeq H rfl ?_
 have y:∀b o,b≠D->h1.get? b=some o->((h1.update D<|Obj.mapSeq (·.push Value.none)).update D (Obj.mapSeq (·.pop))).get? b=some o:=λb o l e=>
  (QB _ _<|Ne.symm l).trans ((QB _ _<|Ne.symm l).trans e)
 exact WD ⟨plainId_quiet F.plain_extend_loop _,loop _ _ _ (W.frame 0 _ _ N λb l o e=>y b o (λz=>p (z▸l)) e) (λb o l e=>y b o l (keep b o e)) (Q4 (Obj.mapSeq (·.pop)) H rfl) p⟩
def Znr(G:A.handled=none)(S:KF w s.heap a js es ep t)(u:∀g h d vs,vs.Perm (es.toList.map (·.2))->(∀b o,s.heap.get? b=some o->g.get? b=some o)->s.heap.objs.size<g.objs.size->R vs {s with heap:=g,toks:=h,drawn:=d}) :
  wpAny (model prog w) A (collect<|.ref a) R E s:=by
 obtain⟨Q,C,hx,H⟩:=S.obj;refine W8 (wpAny_runValue<|V9 entry_proto_collect' ?_);have M:=VR (A:=A) PySem.F.plain_proto_collect ⟨[.ref a],[]⟩;refine(W8<|Q6<|WD ⟨plainId_quiet PySem.F.plain_list_iadd _,V9 entry_list_iadd' ?_⟩);rw[(VR (A:=A) PySem.F.plain_list_iadd ⟨[.ref s.heap.objs.size,.ref a],[]⟩)];have J:(s.heap.push {cls:=.type "list",data:=.seq ([]:Yl).toArray}).get? s.heap.objs.size=some {cls:=.type "list",data:=.seq #[]}:=WN _ rfl
 have B:=Zi9 (prog:=prog) (s:={s with heap:=s.heap.push {cls:=.type "list",data:=.seq ([]:Yl).toArray}})
  (R:=λq z=>∃g h d vs v,q=.ok (.ret<|.ref s.heap.objs.size)/\z={s with heap:=g,toks:=h,drawn:=d}/\vs.Perm (es.toList.map (·.2))/\(∀b o,s.heap.get? b=some o->g.get? b=some o)/\
   g.get? s.heap.objs.size=some {cls:=.type "list",dict:=none,data:=.seq vs.toArray v,slots:=#[]}) G (S.keep λo e=>WB _ e) s.heap.objs.size 0 (.ref s.heap.objs.size) J (JF<|WM C)
  λg h d vs v p l r=>⟨g,h,d,vs,v,rfl,rfl,p,λb o e=>r b o (Qg<|WM e) (WB _ e),l⟩
 refine Qr B (λf z x=>?_) λe z x=>?_
 ·cases f with
  |done f=>
   obtain⟨g,h,d,vs,v,e,rfl,p,r,l⟩:=x;cases e
   refine(W8<|wpAny_load l<|WD ?_);exact u g h d vs p r (WM l)
  |again T=>
   refine⟨x.1,Vq x.2 λq N y=>?_⟩;obtain⟨g,h,d,vs,v,rfl,rfl,p,r,l⟩:=y;refine(W8<|wpAny_load l<|WD ?_);exact u g h d vs p r (WM l)
 ·obtain⟨_,_,_,_,_,L,_⟩:=x;cases L
theorem Zbe:∀{l:List (Int×Value)},(∀e∈l,Ent e)->IntsAre (l.map (·.2)) (l.map keyOf)
 |[],_=>.nil
 |e::r,h=>by
  obtain⟨k,t,rfl⟩:=h e Qh;exact .cons k t (Zbe λx hx=>h x (WV _ hx))
def Zc7{vs us}(p:vs.Perm us):∀{ns:Yf},IntsAre us ns->∃b,IntsAre vs b/\b.Perm ns:=by
 induction p with
 |cons x _ q=>
  intro ns h;cases h with
  |cons n t r=>
   obtain⟨b,v,u⟩:=q r;exact⟨n::b,.cons n t v,List.Perm.cons _ u⟩
 |swap x y l=>
  intro ns h;cases h with
  |cons n t r=>
   cases r with
   |cons f g o=>exact⟨f::n::_,.cons f g (.cons n t o),List.Perm.swap _ _ _⟩
 |_=>grind
def Zra(L:A.handled=none)(B:SetB w s.heap a js)(x:js.length<64)
  (C:∀l y u d f ns e,IntsAre f ns->ns.Perm js->ns.Pairwise (·<=·)->s.heap.get? l=none->s.heap.objs.size<=l->y.get? l=some {cls:=.type "list",data:=.seq f.toArray e}->
   (∀b o,s.heap.get? b=some o->y.get? b=some o)->Q (.ref l) {s with heap:=y,toks:=u,drawn:=d}) :
  wpAny (model prog w) A (call (.builtin "sorted") [.ref a]) Q E s:=by
 obtain⟨es,ep,t,S⟩:=B;refine Calls.call_function_entry kind_sorted plain_sorted entry_sorted (args_sorted1 _) ?_;refine W8 (WD<|W8 (Znr L S λp u d r H keep big=>?_));obtain⟨N,G,v⟩:=Zc7 H (Zbe S.ent);have g:=v.trans S.per;have J:r.length<64:=by rw[IntsAre.length G,g.length_eq];exact x
 refine W8 (wpAny_newList ?_<|by have:(64:Nat)<=sizeLine:=(by decide);lia);have z:(p.push<|seqObj "list" r.toArray 0).get? p.objs.size=some (seqObj "list" r.toArray 0):=WN _ rfl;refine W8 (QK<|QZ slot_list_sort ⟨_,z,rfl⟩ entry_list_sort (list_sort_tree z G J λf ns a1 a2 a3=>⟨_,rfl,?_⟩)<|args_list_sort _);obtain⟨e,M⟩:=sortedHeap_at z;refine WD ⟨_,rfl,C p.objs.size _ u d f.toList ns e a1 (a2.trans g) a3 ?_ (Ja big) (by simpa [seqObj]using M) λb o q=>?_⟩
 ·cases q:s.heap.get? p.objs.size with
  |none=>rfl
  |some o=>exact absurd (WM<|keep _ _ q) (QY _)
 ·have h:=WM (keep b o q);rw[sortedHeap_old (Qg h) (by rw[size_push'];exact Js h)];exact WB _ (keep b o q)
end
end SetR
namespace Own
open PySem PySem.Spec PyProof.Rows L2
noncomputable def NV(w:World)(l:Addr)(b:Yf):HO:=.ext λh=>SetR.SetB w h l b
section
variable {X:Cx}
def Zge{w H h l b}(B:SetR.SetB w h l b):ObjOk P w H h l (NV w l b):=by
 refine⟨B,?_,λp n f k=>f.at k⟩;obtain⟨q,r,t,S⟩:=B;obtain⟨o,g,_⟩:=S.obj
 grind
def Zec(y:X.calm=true):K8 X (.type "set") (λxs H Q=>∃(p:Addr) (ns:Yf),xs=[.ref p]/\SqL X.K H p (ns.map V.int)/\ns.length+1<4096/\∀l,H l=none->Q (.ref l) (upd H l<|NV X.w l<|ns.foldl SetR.KE [])):=by
 intro pins s A H xs C Q I f h;obtain⟨p,ns,rfl,z,x,q⟩:=h;obtain⟨u,rfl,g⟩:=f.one;obtain rfl:=g;obtain⟨v,r,n,_⟩:=I.list z;refine SetR.Zq3 (I.ok.hd y) n.isList (by simpa using As r) x λG E B keep=>?_;exact⟨.ref s.heap.objs.size,upd H s.heap.objs.size (NV X.w s.heap.objs.size _),I.laid (λb o e=>keep b o (WM e) e) (WG _) (Zge B),rfl,q _ (I.hok.fresh<|WG _)⟩
def LO(N:X.calm=true):K8 X (.builtin "sorted") (λxs H Q=>∃p g,xs=[.ref p]/\g.length<64/\(SqL X.K H p (g.map V.int)\/H p=some (NV X.w p g))/\
  ∀l (ns:Yf),H l=none->ns.Perm g->ns.Pairwise (·<=·)->Q (.ref l) (upd H l<|.lst<|ns.map V.int)):=by
 intro pins s U H xs Y Q I G h;obtain⟨p,g,rfl,A,v,q⟩:=h;obtain⟨u,rfl,J⟩:=G.one;obtain rfl:=J
 have big:∀{ns:Yf},ns.Perm g->(ns.map V.int).length<=sizeLine:=λM=>by
  rw[W9,M.length_eq]
  have:(64:Nat)<=sizeLine:=by decide
  lia
 rcases v with v|v
 ·obtain⟨n,r,L,_⟩:=I.list v;have E:IntsAre n g:=by simpa using As r
  refine sorted_ints L.isList E (by rw[IntsAre.length E];exact A) λf ns a1 a2 a3=>?_;obtain⟨e,C⟩:=sortedAll_at s.heap n f;have x:=I.hok.fresh (Vn _);refine⟨.ref (s.heap.objs.size+1),upd H (s.heap.objs.size+1) (.lst<|ns.map V.int),I.laid (λb o e=>sortedAll_old e) (Vn _) ⟨big a2,f.toList,e,Ak a1,?_⟩,rfl,q _ ns x a2 a3⟩;omega
 ·have B:=(I.hok p _ v).1;refine SetR.Zra (I.ok.hd N) B A λl T tk d f ns e a1 a2 a3 nl y C keep=>?_;have x:=I.hok.fresh y;refine⟨.ref l,upd H l (.lst<|ns.map V.int),?_,rfl,q l ns x a2 a3⟩;have ok:HOk X.prog X.w (upd H l<|.lst<|ns.map V.int) T:=I.hok.laid keep y ⟨big a2,f,e,Ak a1,C⟩;exact I.call (ch:=[]) (Un.laid keep y x) ok I.bare (λb z=>absurd z (by simp))
end
section
variable {X:Cx}{K:Yd}
def Zow(b:autoParam (X.K=K) au_0):IxR X (λx y H Q=>BE K x y H Q\/Fd K x y H Q):=by subst b;exact Zdl
def Zfi(b:autoParam (X.K=K) au_0):K8 X (.builtin "len") (λxs H Q=>∃x n,xs=[x]/\FT K x H n/\Q (.int n) H):=by subst b;exact Zca
def Znx(b:autoParam (X.K=K) au_0):OpR X (compareOp .In) (rIn K false):=by subst b;exact On
def LX(b:autoParam (X.K=K) au_0):OpR X (compareOp .NotIn) (rIn K true):=by subst b;exact Zkv
def Aa{pos es k t n}(g:X.calm=true)(h:PGs X es t)(l:autoParam (X.K=K) au_0)(f:autoParam ((assignEach es X.env).length=n) au_0)(b:autoParam ((assignEach es X.env).findIdx? (·.1)=none) au_0):PG X (.Tuple es k pos) (Eh K n t):=by subst l;exact Zo8 g h f b
end
section
variable {α:Type}{R:Hp->V->α->Prop}{φ:Yj}{g:TG}{tc:TT}{te:TE}{σ:L2.St}{H1:Hp}{F:Hp->Prop}{D:Addr}
def Zfs{K a xs}{ds:List α}(f:α->Option V)(v:SqL K H1 a xs)(E:xs.length=ds.length)(G:H1 D=none)(J:ds.length<=sizeLine)(turn:∀(i:Nat) x d l,xs[i]?=some x->ds[i]?=some d->Same H1 l->∀k:Option V->Hp->Prop,k (f d) l->g x (atStart φ σ) l λh w=>Sub (atStart φ σ) h/\tc h w λb r=>if b=true then te h r λy u=>k (some y) u else k none r)(done:F (upd H1 D<|.lst<|ds.filterMap f)) :
  ∃W:Nat->Nat->List V->Hp->Prop,(∃m,W 0 m [] (upd H1 D<|.lst []))/\
   ∀i m q l,W i m q l->((Itl K a).stop i l/\F l)\/((Itl K a).go i l/\∀x z,(Itl K a).yld i l x z->g x (atStart φ σ) z λh w=>Sub (atStart φ σ) h/\tc h w λb r=>
    if b=true then te h r λy u=>u D=some (.lst q)/\q.length<sizeLine/\∃n,n<m/\W (i+1) n (q++[y]) (upd u D<|.lst (q++[y]))else ∃n,n<m/\W (i+1) n q r):=by
 refine⟨λi m q l=>m=ds.length-i/\i<=ds.length/\q=(ds.take i).filterMap f/\l=upd H1 D (.lst q),⟨ds.length,by simp,QL _,by simp,rfl⟩,?_⟩;rintro i m q l ⟨rfl,L,rfl,rfl⟩;have s:Same H1 (upd H1 D<|.lst ((ds.take i).filterMap f)):=Kp G;by_cases p:i<ds.length
 ·refine .inr ⟨⟨xs,xs[i]'(by lia),s.seq v,by simp[E,p]⟩,λx z y=>?_⟩;obtain⟨e,y⟩:=y;subst e
  refine turn i x ds[i] _ (y xs<|s.seq v) (WA p) s (λo A=>match o with
   |some y=>A D=some (.lst ((ds.take i).filterMap f))/\((ds.take i).filterMap f).length<sizeLine/\∃n,n<ds.length-i/\(n=ds.length-(i+1)/\i+1<=ds.length/\(ds.take i).filterMap f++[y]=(ds.take (i+1)).filterMap f/\upd A D (.lst ((ds.take i).filterMap f++[y]))=upd H1 D (.lst ((ds.take i).filterMap f++[y])))
   |none=>∃n,n<ds.length-i/\(n=ds.length-(i+1)/\i+1<=ds.length/\(ds.take i).filterMap f=(ds.take (i+1)).filterMap f/\A=upd H1 D (.lst ((ds.take i).filterMap f)))) ?_
  have B:=WS p;cases C:f ds[i]with
  |some y=>
   refine⟨Kb,?_,ds.length-(i+1),by lia,rfl,p,?_,HG⟩
   ·have H:=List.length_filterMap_le f (ds.take i);rw[WW]at H;lia
   ·rw[B,VJ];simp[C]
  |none=>
   refine⟨ds.length-(i+1),by lia,rfl,p,?_,rfl⟩;rw[B,VJ];simp[C]
 ·have e:i=ds.length:=by lia
  subst e;refine .inl ⟨⟨xs,s.seq v,by lia⟩,?_⟩;rwa[Qy]
end
noncomputable def eqL(xs b:List V):Bool:=decide (xs.length=b.length)&&(List.range xs.length).all λj=>eqV (xs.getD j .non) (b.getD j .non)
noncomputable def Ny(K:Yd)(neg:Bool):R2:=λx y H Q=>∃(p q:Addr) (xs b:List V),x=.ref p/\y=.ref q/\SqL K H p xs/\SqL K H q b/\xs.all PD=true/\b.all PD=true/\Q (.bl (if neg then !eqL xs b else eqL xs b)) H
section
variable {X:Cx}
def R3{xs b us f}(l:Vals xs us)(h:Vals b f)(f1:xs.all PD=true)(v:b.all PD=true)(j:Nat)(r:j<us.toArray.size)(q:j<f.toArray.size) :
  SeqAt.EqAt A s us.toArray[j] f.toArray[j] (eqV (xs.getD j .non)<|b.getD j .non):=by
 have E:=l.length;have C:=h.length;have H:j<us.length:=by simpa using r
 have G:j<f.length:=by simpa using q
 have o:xs[j]?=some (xs[j]'(by lia)):=WA _;have n:b[j]?=some (b[j]'(by lia)):=WA _;obtain⟨u,L,p⟩:=l.get o;obtain⟨w,J,g⟩:=h.get n;have y:us.toArray[j]=u:=by grind
 have x:f.toArray[j]=w:=by grind
 have B:xs.getD j .non=xs[j]'(by lia):=by rw[WE,o];rfl
 have z:b.getD j .non=b[j]'(by lia):=by rw[WE,n];rfl
 rw[y,x,B,z];exact Mf p g (Q2.mp f1 _<|WU _) (Q2.mp v _<|WU _)
def Zif(o:X.A.units<cLine):OpR X (compareOp .Eq) (Ny X.K false):=by
 intro pins s G H x y v u Q I w r h;obtain⟨p,q,xs,b,rfl,rfl,z,hq,f1,E,k⟩:=h;obtain rfl:=w;obtain rfl:=r;obtain⟨L,g,l,_⟩:=I.list z;obtain⟨J,f,p2,_⟩:=I.list hq;have N:=g.length;have M:=f.length;have n:=k;by_cases e:xs.length=b.length
 ·refine SeqAt.eq_listAt l.isList p2.isList (by simp;lia) o (λj C B=>R3 g f f1 E j C B) ⟨.bl (eqL xs b),H,I,?_,n⟩;show _=Value.bool (eqL xs b);unfold eqL
  grind
 ·refine SeqAt.eq_list_lengthsAt l.isList p2.isList (by simp;lia) o ⟨.bl (eqL xs b),H,I,?_,n⟩;unfold eqL;rw[Qc e];rfl
def Zlw(o:X.A.units<cLine):OpR X (compareOp .NotEq) (Ny X.K true):=by
 intro pins s G H x y v u Q I w r h;obtain⟨p,q,xs,b,rfl,rfl,z,hq,f1,E,k⟩:=h;obtain rfl:=w;obtain rfl:=r;obtain⟨L,g,l,_⟩:=I.list z;obtain⟨J,f,p2,_⟩:=I.list hq;have N:=g.length;have M:=f.length;have n:=k;by_cases e:xs.length=b.length
 ·refine SeqAt.RcNeAt.lists l.isList p2.isList (by simp;lia) o (λj C B=>R3 g f f1 E j C B) _ _ _ _ ⟨.bl (!eqL xs b),H,I,?_,n⟩;show _=Value.bool (!eqL xs b);unfold eqL
  grind
 ·refine SeqAt.RcNeAt.lists_lengths l.isList p2.isList (by simp;lia) o _ _ _ _ ⟨.bl (!eqL xs b),H,I,?_,n⟩;unfold eqL;rw[Qc e];rfl
def FG{xs:Yf}{us}(r:Vals (xs.map V.int) us)(z:Int):∀j f (b:j<xs.length),Value.isInt z us[j]=(xs[j]==z):=by
 intro j f b;obtain⟨u,g,t,rfl⟩:=r.get (by rw[WR,WA b];rfl);rw[WA f]at g;rw[WT g];rfl
def Ij{xs:Yf}{us}(r:Vals (xs.map V.int) us)(z:Int)(t:Tok):∀y,y∈us.toArray->MeetsSeq.EqGives y (.int z t) (Value.isInt z y):=by
 intro y g;obtain⟨j,h,rfl⟩:=Qk.mp (by simpa using g:y∈us);have f:=r.length;rw[W9]at f;obtain⟨u,b,l,rfl⟩:=r.get (by rw[WR,WA (show j<xs.length by lia)];rfl);rw[WA h]at b;rw[WT b];exact MeetsSeq.EqGives.int _ _ _ _
def DA(K:Yd):V->List V->Hp->VK->Prop:=λx b H Q=>∃(l:Addr) (xs:Yf) (z:Int),x=.ref l/\b=[.int z]/\SqL K H l (xs.map V.int)/\z∈xs/\Q (.int (xs.idxOf z:Nat)) H
def Zo4:MtM X "list.index" (DA X.K):=by
 intro pins s σ H x vs v us Q I L M h;obtain⟨l,xs,z,rfl,rfl,hS,T,q⟩:=h;cases L
 obtain⟨u,rfl,t,rfl⟩:=M.one;obtain⟨b,r,N,f⟩:=I.list hS;obtain⟨o,n,E,J,g,G⟩:=N;obtain⟨c1,d1,dt1,p⟩:=o;simp only at J g G;subst J g G;have C:=r.length;rw[W9]at C;have B:=QS.mpr T;have hb:xs.length<=2 ^ 24:=by rw[W9]at f;exact f
 refine VQ QC ⟨_,E,rfl⟩ PySem.F.entry_list_index (PySem.F.args_list_index_2 _ _)
  (SeqAt.list_indexAt l b.toArray n none p (.int z t) (Value.isInt z) (xs.idxOf z) (by simpa [←C]using B) (by lia) ?_ ?_) ⟨E,λy U=>(Ij r z t y U).at _ _,⟨.int (xs.idxOf z:Nat),H,I.tok _,⟨_,rfl⟩,q⟩⟩
 ·have e:=FG r z (xs.idxOf z) (by lia) B;show Value.isInt z b[xs.idxOf z]=true;rw[e];simpa using Vr B
 ·intro m Y A;have w:m<b.length:=by simpa using Y
  show Value.isInt z b[m]=false;rw[(FG r z m w<|by lia)]
  have:=Jx A
  simpa using this
theorem RO{b g:Type}(f:b->g):∀(xs:List b) k,(xs.eraseIdx k).map f=(xs.map f).eraseIdx k
 |[],_|_::_,0=>rfl
 |x::r,k+1=>by
  show f x::(r.eraseIdx k).map f=f x::(r.map f).eraseIdx k;rw[RO f r k]
def Rn:V->List V->Hp->VK->Prop:=λx b H Q=>∃(l:Addr) (xs:Yf) (z:Int),x=.ref l/\b=[.int z]/\H l=some (.lst<|xs.map V.int)/\z∈xs/\Q .non (upd H l<|.lst ((xs.eraseIdx<|xs.idxOf z).map V.int))
def Zos:MtM X "list.remove" Rn:=by
 intro pins s J H x L v M Q I A B h;obtain⟨l,xs,z,rfl,rfl,y,C,q⟩:=h;cases A
 obtain⟨u,rfl,t,rfl⟩:=B.one;obtain⟨f,b,n,r,G,e⟩:=I.lstM y;have w:=r.length;rw[W9]at w;have p:=QS.mpr C
 refine VQ PySem.F.slot_list_remove ⟨_,e,rfl⟩ PySem.F.entry_list_remove (PySem.F.args_list_remove_2 _ _)
  (MeetsSeq.list_remove l b.toArray n (.int z t) (Value.isInt z) (Ij r z t) (xs.idxOf z) (by simpa [←w]using p) ?_ ?_<|by rw[Qo,←G];exact f) ⟨e,?_⟩
 ·have e:=FG r z (xs.idxOf z) (by lia) p;show Value.isInt z b[xs.idxOf z]=true;rw[e];simpa using Vr p
 ·intro m E o;have g:m<b.length:=by simpa using E
  have e:=FG r z m g (by lia);show Value.isInt z b[m]=false;rw[e]
  have:=Jx o
  simpa using this
 ·refine⟨.non,_,I.lset (its':=b.eraseIdx (xs.idxOf z)) y e ?_ ?_ ?_,rfl,q⟩
  ·show b.toArray.eraseIdxIfInBounds (xs.idxOf z)=_;rw[List.eraseIdxIfInBounds_toArray]
  ·rw[RO];exact r.eraseIdx _
  ·rw[W9,List.length_eraseIdx];split<;>lia
end
noncomputable def Ite(K:Yd)(a:Addr):It:=
 ⟨λi H=>∃xs x,SqL K H a xs/\xs[i]?=some x,λi H x b=>∃T v,H T=none/\(∀xs,SqL K H a xs->xs[i]?=some v)/\x=.ref T/\b=upd H T (.tup [.int i,v]),λi H=>∃xs,SqL K H a xs/\xs.length<=i⟩
def Zqk{K elts k1 tp}(a e it:Addr)(hne:e≠it) :
  Turn P w K (.Tuple elts k1 tp) (Ite K a) [e,it] e (λi h=>∃old,IsEnum h e it i old/\h.IsListIter it a i) where
 mem:=by simp
 obj:=λi h st b hb=>by
  obtain⟨old,h1,o,h2,_,h3⟩:=st;rcases WL.mp hb with rfl|hb
  ·exact⟨_,h1,λv z=>by cases z⟩
  ·rw[WC.mp hb];exact⟨o,h2,λv z=>by rw[h3]at z;cases z⟩
 keep:=λi h h' st k=>by
  obtain⟨old,h1,h2⟩:=st;exact⟨old,k e (by simp) _ h1,h2.at λo q=>k it (by simp) o q⟩
 item:=by
  intro X hP hw hK hc i pins s σ H E I hf st hg;subst hP hw hK;obtain⟨old,he,hit⟩:=st;obtain⟨xs,x,hq,hx⟩:=hg;obtain⟨its,rv,p,hz⟩:=I.list hq;obtain⟨u,hu,ru⟩:=rv.get hx;obtain⟨a0,a1,a2,a3,a4,a5⟩:=hf e (by simp);obtain⟨b0,b1,b2,b3,b4,b5⟩:=hf it (by simp);have hfr:=I.hok.fresh (WG _);have heL:=WM he;have hiL:it<s.heap.objs.size:=by obtain⟨o,ho,_⟩:=hit;exact WM ho
  refine wpAny_pyNext_enum_item he hit p.isList (by simpa using hu) hne λh1 eo it1 ht1 hz1 k1=>⟨_,rfl,?_⟩;refine wpAny_letOwnedTupleGo_enum eo λh2 e2 sb2=>?_;have keep2:∀b o,b∉[e,it]->s.heap.get? b=some o->h2.get? b=some o:=λb o hb q=>sb2.extBut b o (λz=>hb (by simp[z])) (k1 b o (λz=>hb (by simp[z])) (λz=>hb (by simp[z])) q)
  have n0:∀b,b∈[e,it]->H b=none:=λb hb=>by
   rcases WL.mp hb with rfl|hb
   ·exact a0
   ·rw[WC.mp hb];exact b0
  have un:Un (frs X.stack) [e,it] H (upd H s.heap.objs.size<|.tup [.int i,x]) s.heap h2:=by
   refine⟨λb o q _ _ hx'=>keep2 b o hx' q,λb o q _ _ hx'=>⟨o.slots,keep2 b o hx' q⟩,λb o q n _=>by rw[XM (Qg<|WM q)];exact n,λb o q hx'=>⟨o,keep2 b o hx' q⟩,
    λb ys q=>by rw[XM (K4 q hfr)];exact q,λb o ys q=>by rw[XM (K4 q hfr)];exact q,λb ps q=>⟨#[],by rw[XM (K4 q hfr),q];simp⟩⟩
  have ok2:HOk X.prog X.w (upd H s.heap.objs.size<|.tup [.int i,x]) h2:=λb o q=>by
   by_cases hb:b=s.heap.objs.size
   ·subst hb;rw[Kb]at q;cases q
    exact⟨by show 2<=sizeLine;decide,[.int i s.toks,u],.cons ⟨_,rfl⟩ (.cons ru .nil),_,(sb2.extBut _ _ (JF heL) ht1),rfl,_,rfl⟩
   ·rw[XM hb]at q;refine(I.hok b o q).stay (λc v hc' r=>keep2 c v (λz=>?_) r) (λc r=>by rw[XM (K4 r hfr)];exact r) λc ys r=>by rw[XM (K4 r hfr)];exact r
    have hcn:=n0 c z;rcases hc' with rfl|hc'
    ·rw[hcn]at q;cases q
    ·rw[hcn]at hc';cases hc'
  have I2:Inv X pins σ (upd H s.heap.objs.size<|.tup [.int i,x]) {s with heap:=h2,toks:=s.toks+1}:=I.call un ok2 I.bare λb hb=>by
   rcases WL.mp hb with rfl|hb
   ·exact⟨a3,a1,a4,a5⟩
   ·rw[WC.mp hb];exact⟨b3,b1,b4,b5⟩
  refine⟨.ref s.heap.objs.size,_,I2,rfl,⟨_,x,hfr,λys hy=>by rw[I.list_inj hy hq];exact hx,rfl,rfl⟩,⟨u,?_,it1.at λo q=>sb2.extBut it o (Ne.symm hne) q⟩,λb hb=>?_⟩
  ·have:((i+1:Nat):Int)=(i:Int)+1:=by lia
   rwa[this]
  ·rw[XM]
   ·exact n0 b hb
   ·rcases WL.mp hb with rfl|hb
    ·exact Qg heL
    ·rw[WC.mp hb];exact Qg hiL
 done:=by
  intro X hP hw hK hc i pins s σ H E I hf st hg;subst hP hw hK;obtain⟨old,he,hit⟩:=st;obtain⟨xs,hq,hx⟩:=hg;obtain⟨its,rv,p,hz⟩:=I.list hq;obtain⟨b0,b1,b2,b3,b4,b5⟩:=hf it (by simp);have l1:=rv.length;refine wpAny_pyNext_enum_end (I.ok.hd hc) he hit p.isList (by simp;lia) λh' eb=>⟨rfl,?_⟩;exact I.turned (λb o hb q=>eb b o hb q) b0 b1 b3 b4 b5
 self:=by
  intro A i s Q E st q;obtain⟨old,he,hit⟩:=st;have hT:s.TypeIs (.ref e) "enumerate":=⟨_,he,rfl⟩;refine Ju hT F.slot_enumerate_iter (QZ F.slot_enumerate_iter hT F.entry_enumerate_iter ?_<|F.args_enumerate_iter_1 _);exact WD ⟨_,rfl, "enumerate",_,hT,F.slot_enumerate_next.lookup,q⟩
noncomputable def IQ(K:Yd)(h:TA):TI:=λf H R=>h f H λg b=>∃a,g=[.ref a]/\(∃xs,SqL K b a xs)/\R (Ite K a) b
def RN{a z p pos}(U:Gl X "enumerate")(Q:X.mg "enumerate"=none)(ha:PA X [a] z)(N:autoParam (starEach [a] X.env=[(false,eval a X.env)]) au_0) :
  PI X (.Tuple elts k1 tp) (.Call (.Name "enumerate" p) [a] [] pos) (IQ X.K z):=by
 intro pins s y H R I h;refine Call_ (SQ I U Q boot_enumerate<|Vo (thn (ha pos pins s y H _ I h) ?_) N rfl);rintro us f ⟨vs,B,g,E,G⟩;obtain⟨l,e1,⟨xs,hq⟩,q⟩:=G;subst e1;obtain⟨u,rfl,C⟩:=E.one;obtain rfl:=C;obtain⟨L,rv,J,hz⟩:=g.list hq;refine call_enumerate_list J.isList λn Y v M keep=>?_;have I2:Inv X pins y B {f with heap:=n}:=g.kept keep
 have r:f.heap.objs.size+1≠f.heap.objs.size:=Nat.succ_ne_self _;have tn:∃o,IsEnum n (f.heap.objs.size+1) f.heap.objs.size ((0:Nat):Int) o/\n.IsListIter f.heap.objs.size l 0:=⟨_,Y,v⟩;have T:=Zqk (P:=X.prog) (w:=X.w) (K:=X.K) (elts:=elts) (k1:=k1) (tp:=tp) l (f.heap.objs.size+1) f.heap.objs.size r;refine T.self X.A 0 {f with heap:=n} _ _ tn ⟨_,_,_,_,B,rfl,I2,T,tn,λb x=>?_,q⟩
 rcases WL.mp x with rfl|x
 ·exact g.fpOk (Vn _) (g.hok.fresh<|Vn _)
 ·rw[WC.mp x];exact g.fpOk (WG _) (g.hok.fresh<|WG _)
section
variable {X:Cx}{K:Yd}
def BN(b:autoParam (X.K=K) au_0):MtM X "list.index" (DA K):=by subst b;exact Zo4
def PL{n t name apos cpos T id r}(p:PlainAttrs T)(slot:Slot T name id)(l:typeOf (.builtin id)=pure (.type "method_descriptor"))(u:MtM X id r)(s:PE X o n)(v:PA X (e::es) t)(w:autoParam (X.K=K) au_0)(g:autoParam (attributeBase o name X.env (eval o X.env)=eval o X.env) au_0)
  (h:autoParam (((backTo cpos<|starEach (e::es) X.env).all (λx=>!x.1)&&(backToKw cpos<|keywordEach [] X.env).all (λx=>x.1.isSome)
   && decide ((e::es).length+([]:List Keyword).length+(if ([]:List Keyword).isEmpty then 0 else 1)<30))=true) au_0)
  (f:autoParam ((apos.endLine==cpos.line)=true) au_0) (q:autoParam (starEach (e::es) X.env=(false,eval e X.env)::starEach es X.env) au_0) (b:autoParam ((backTo cpos<|starEach es X.env).any (·.1)=false) au_0) :
  PE X (.Call (.Attribute o name apos) (e::es) [] cpos) (tBM K T r n t):=by
 subst w;exact Bi p slot l u s v g h f q b
end
def G4(xs b:Yf):eqL (xs.map V.int) (b.map V.int)=decide (xs=b):=by
 unfold eqL;rw[W9,W9];by_cases e:xs=b
 ·subst e;rw[WH rfl,WH rfl,VU,Q2];intro j n;have g:j<xs.length:=by simpa using n
  rw[WE,WR,WA g];show(xs[j]==xs[j])=true;simp
 ·rw[Qc e];by_cases h:xs.length=b.length
  ·rw[WH h,VU,QV];intro f;apply e;apply List.ext_getElem h;intro j l p
   have:=Q2.mp f j (by simpa using l)
   rw[WE,WR,WA l,WE,WR,WA p]at this;have o:(xs[j]==b[j])=true:=this;simpa using o
  ·grind
def SZ(xs:Yf):(xs.map V.int).all PD=true:=by
 rw[List.all_map];exact Q2.mpr λ_ _=>rfl
end Own
namespace M
open PySem PySem.Spec PyProof.Rows L2 Own
def LV{b:Type}(R:Hp->V->b->Prop)(H:Hp)(vs:List V)(xs:List b):Prop:=
 vs.length=xs.length/\∀(i:Nat) (x:b),xs[i]?=some x->∃v,vs[i]?=some v/\R H v x
def LAt{b:Type}(R:Hp->V->b->Prop)(H:Hp)(l:Addr)(xs:List b):Prop:=∃f,H l=some (.lst f)/\LV R H f xs
def PB(H:Hp)(v:V)(q:Int×Int):Prop:=∃a,v=.ref a/\H a=some (.tup [.int q.1,.int q.2])
section
variable {α:Type}{R:Hp->V->α->Prop}{H H':Hp}{vs:List V}{xs:List α}{l:Addr}
def LV.get {i:Nat}{v} (h:LV R H vs xs) (e:vs[i]?=some v):∃x,xs[i]?=some x/\R H v x:=by
 have f:i<xs.length:=by rw[←h.1];exact(Qf.mp e).1
 obtain⟨b,g,r⟩:=h.2 i xs[i] (by simp)
 grind
end
def Fp(m:Yf):Prop:=∃a b c d e:Int,m=[a,b,c,d,e]/\(1<=a/\a<=10)/\(1<=b/\b<=9/\(b=1\/b=3\/b=7\/b=9))/\(0<=c/\c<=9)/\(1<=d/\d<=1000)/\(1<=e/\e+d<=1001)
def Field(ps:Ye):Prop:=∀q∈ps,1<=q.1/\q.1<=10/\1<=q.2/\q.2<=1000
def Zd9(b:Yf)(k z:Int):z∈SetR.KE b k↔z∈b\/z=k:=by
 unfold SetR.KE;split
 ·grind
 ·simp
theorem O5:∀(ns b:Yf) z,z∈ns.foldl SetR.KE b↔z∈b\/z∈ns
 |[],b,z=>by simp
 |n::r,b,z=>by
  rw[List.foldl_cons,O5 r,Zd9,WL];constructor
  ·grind
  ·grind
def Zi0(k:Int)(h:b.Nodup):(SetR.KE b k).Nodup:=by
 unfold SetR.KE;split
 ·lia
 ·grind
theorem G6:∀(ns:Yf) {b:Yf},b.Nodup->(ns.foldl SetR.KE b).Nodup
 |[],_,h=>h
 |n::r,b,h=>G6 r (Zi0 n h)
theorem Lm:∀(ns b:Yf),(ns.foldl SetR.KE b).length<=b.length+ns.length
 |[],b=>by simp
 |n::r,b=>by
  have g:=Lm r (SetR.KE b n)
  have f:(SetR.KE b n).length<=b.length+1:=by
   unfold SetR.KE;split
   ·simp
   ·simp
  grind
def Ax{l:Yf}(h:l.Pairwise (·<=·))(n:l.Nodup):l.Pairwise (· < ·):=by
 have:=h.and n
 exact this.imp λ{a b} h=>by have:=h.1;have:=h.2;lia
def Mm{g f:Yf}(n:g.Pairwise (· < ·))(l:f.Pairwise (· < ·))(h:∀z,z∈g↔z∈f):g=f:=by
 have p:g.Nodup:=n.imp λ{a b} h=>by lia
 have o:f.Nodup:=l.imp λ{a b} h=>by lia
 exact((List.perm_ext_iff_of_nodup p o).mpr h).eq_of_pairwise (λa b _ _ x y=>by lia) n l
noncomputable def tenL:Yf:=[1,2,3,4,5,6,7,8,9,10]
def Zhz:z∈tenL↔1<=z/\z<=10:=by
 unfold tenL;constructor
 ·intro h;simp only[WL,V1,or_false]at h;omega
 ·rintro⟨f,b⟩;simp only[WL,V1,or_false];lia
noncomputable def XJ(ps:Ye):Yf:=tenL.filter λh=>decide (h∈ps.map (·.1))
def Tv(ps:Ye):(XJ ps).Pairwise (· < ·):=List.Pairwise.filter _ (by trivial)
def NM(b:Field ps){z}:z∈XJ ps↔z∈ps.map (·.1):=by
 unfold XJ;rw[Qi,Vy,Zhz];constructor
 ·grind
 ·intro h;obtain⟨q,hq,rfl⟩:=WO.mp h
  have:=b q hq
  grind
def Pp(ps:Ye):(XJ ps).length<=10:=by
 have:=Q5 (λh=>decide (h∈ps.map (·.1))) tenL
 trivial
def Znn(b:Field ps)(p:ns.Perm ((ps.map (·.1)).foldl SetR.KE []))(h:ns.Pairwise (·<=·)):ns=XJ ps:=by
 refine Mm (Ax h<|p.symm.nodup<|G6 _ VI) (Tv ps) λz=>?_;rw[p.mem_iff,O5,NM b];simp
def Oi(z:Int)(xs:Yf):inV (.int z) (xs.map V.int)=decide (z∈xs):=by
 unfold inV
 induction xs with
 |nil=>rfl
 |cons x r b=>
  show((x==z) || _)=_;by_cases e:x=z
  ·grind
  ·grind
def Zj9:tenL=(List.range 10).map λ(i:Nat)=>(1:Int)+(i:Int):=rfl
def Hm{os ns}(g:os.Perm (XJ ps))(n:ns.Perm os)(l:ns.Pairwise (·<=·)):ns=XJ ps:=by
 have f:(XJ ps).Nodup:=(Tv ps).imp λ{a b} h=>by lia
 have p:=n.trans g;exact Mm (Ax l<|p.symm.nodup f) (Tv ps) λz=>p.mem_iff
section
variable (ps:Ye)
noncomputable def tpM(y:Int):Nat->Int
 | 0=>0
 |j+1=>tpM y j+(if (ps.getD j (0,0)).1=y then(ps.getD j (0,0)).2 else 0)
noncomputable def pcM(x y:Int):Nat->Int
 | 0=>0
 |k+1=>pcM x y k+(if x≠y/\(ps.getD k (0,0)).1=x then tpM ps y k*(ps.getD k (0,0)).2 else 0)
noncomputable def K6(n:Nat):Yf->Int
 |[]=>0
 |a::r=>(r.map λb=>pcM ps a b n).sum+K6 n r
noncomputable def Tf(n:Nat)(h:Int):Yf->Int
 |[]=>0
 |a::r=>if a=h then(r.map λb=>tpM ps b n).sum else Tf n h r
noncomputable def rsM(os:Yf)(h:Int):Nat->Int
 | 0=>0
 |j+1=>rsM os h j+(if os.idxOf h<os.idxOf (ps.getD j (0,0)).1 then(ps.getD j (0,0)).2 else 0)
noncomputable def KL(os:Yf):Nat->Int
 | 0=>0
 |k+1=>KL os k+rsM ps os (ps.getD k (0,0)).1 k*(ps.getD k (0,0)).2
end
def HX{r:Yf}(h:a≠b):(a::r).idxOf b=r.idxOf b+1:=by grind
def Gq(f g:Int->Int)(l:Yf):(l.map λb=>f b+g b).sum=(l.map f).sum+(l.map g).sum:=by
 induction l with
 |nil=>rfl
 |cons b r h=>grind
def Bw{f g:Int->Int}{l:Yf}(h:∀b∈l,f b=g b):(l.map f).sum=(l.map g).sum:=by
 rw[Vk h]
def Io(l:Yf):(l.map λ_=>(0:Int)).sum=0:=by
 induction l with
 |nil=>rfl
 |cons b r f=>grind
def Zg1(f:Int->Int)(w:Int)(l:Yf):(l.map λb=>f b*w).sum=(l.map f).sum*w:=by
 induction l with
 |nil=>simp
 |cons b r g=>grind
def Zqr{l:Yf}(h:Int)(w:Int)(f:l.Nodup):(l.map λb=>if h=b then w else 0).sum=if h∈l then w else 0:=by
 induction l with
 |nil=>rfl
 |cons b r g=>grind
section
variable {ps:Ye}
theorem Zbg:∀{os:Yf},(ps.getD n (0,0)).1∉os->K6 ps (n+1) os=K6 ps n os
 |[],_=>rfl
 |a::r,h=>by
  have b:(ps.getD n (0,0)).1≠a:=λz=>h (by grind);simp only[K6];rw[Zbg (λz=>h (WV _ z))];congr 1;apply Bw;simp only[pcM];lia
theorem Hv:∀{os:Yf},os.Nodup->(ps.getD n (0,0)).1∈os->K6 ps (n+1) os=K6 ps n os+Tf ps n (ps.getD n (0,0)).1 os*(ps.getD n (0,0)).2
 |[],_,h=>by cases h
 |a::r,p,h=>by
  obtain⟨g,o⟩:=Q1.mp p;simp only[K6,Tf];by_cases e:a=(ps.getD n (0,0)).1
  ·rw[WK e];have f:(ps.getD n (0,0)).1∉r:=by rw[←e];exact g
   rw[Zbg f,←Zg1]
   have l:(r.map λb=>pcM ps a b (n+1)).sum=(r.map λb=>pcM ps a b n+tpM ps b n*(ps.getD n (0,0)).2).sum:=by
    apply Bw;intro b q;simp only[pcM];rw[WK ⟨λz=>g (by rw[z];exact q),e.symm⟩]
   rw[l,Gq];lia
  ·rw[WI e];have f:(ps.getD n (0,0)).1∈r:=by grind
   rw[Hv o f]
   have l:(r.map λb=>pcM ps a b (n+1)).sum=(r.map λb=>pcM ps a b n).sum:=by
    apply Bw;simp only[pcM];lia
   lia
theorem O0:∀{os:Yf},(ps.getD n (0,0)).1∉os->Tf ps (n+1) h os=Tf ps n h os
 |[],_=>rfl
 |a::r,f=>by
  simp only[Tf];rw[O0 (λz=>f (WV _ z))]
  have g:(r.map λb=>tpM ps b (n+1)).sum=(r.map λb=>tpM ps b n).sum:=by
   apply Bw;simp only[tpM]
   grind
  lia
theorem R1{h}:∀{os:Yf},os.Nodup->h∈os->(ps.getD n (0,0)).1∈os->
  Tf ps (n+1) h os=Tf ps n h os+(if os.idxOf h<os.idxOf (ps.getD n (0,0)).1 then(ps.getD n (0,0)).2 else 0)
 |[],_,u,_=>by cases u
 |a::r,B,u,y=>by
  obtain⟨x,v⟩:=Q1.mp B;generalize o:(ps.getD n (0,0)).1=g at y ⊢;generalize A:(ps.getD n (0,0)).2=w at ⊢;simp only[Tf];by_cases e:a=h
  ·subst e;rw[WK rfl,WK rfl]
   have G:(r.map λb=>tpM ps b (n+1)).sum=(r.map λb=>tpM ps b n+(if g=b then w else 0)).sum:=by
    apply Bw;intro b _;simp only[tpM];rw[o,A]
   rw[G,Gq,Zqr g w v];have s:(a::r).idxOf a=0:=by simp
   by_cases l:g=a
   ·subst l;rw[s,WI x,WI (by lia)]
   ·grind
  ·rw[WI e,WI e]
   have C:h∈r:=by
    rcases WL.mp u with z|z
    ·exact absurd z.symm e
    ·exact z
   have q:(a::r).idxOf h=r.idxOf h+1:=HX e;by_cases l:g=a
   ·subst l;have s:(g::r).idxOf g=0:=by simp
    rw[O0 (by rw[o];exact x),s,WI (by lia)];lia
   ·have E:g∈r:=by
     rcases WL.mp y with z|z
     ·exact absurd z l
     ·exact z
    have p:(a::r).idxOf g=r.idxOf g+1:=HX (Ne.symm l);rw[R1 v C (by rw[o];exact E),o,A,q,p];by_cases f:r.idxOf h<r.idxOf g
    ·rw[WK f,WK (by lia)]
    ·rw[WI f,WI (by lia)]
theorem Rc{os h}(b:os.Nodup)(g:h∈os):∀n,(∀j,j<n->(ps.getD j (0,0)).1∈os)->Tf ps n h os=rsM ps os h n
 | 0,_=>by
  have:∀l,Tf ps 0 h l=0:=by
   intro l
   induction l with
   |nil=>rfl
   |cons a r o=>
    simp only[Tf,tpM];rw[Io,o];simp
  rw[this];rfl
 |n+1,f=>by
  rw[R1 b g (f n<|by simp),Rc b g n λj p=>f j (by lia)];rfl
theorem LS{os}(f:os.Nodup):∀n,(∀j,j<n->(ps.getD j (0,0)).1∈os)->K6 ps n os=KL ps os n
 | 0,_=>by
  have:∀l,K6 ps 0 l=0:=by
   intro l
   induction l with
   |nil=>rfl
   |cons a r g=>
    simp only[K6,pcM];rw[Io,g];rfl
  rw[this];rfl
 |n+1,b=>by
  rw[Hv f (b n<|by simp),LS f n (λj h=>b j (by lia)),Rc f (b n<|by simp) n λj h=>b j (by lia)];rfl
end
end M
namespace ExcR
open PySem PySem.Spec PyProof.Rows L2
structure KW (fs ex:List Addr) (h h':Heap):Prop where
 keep:∀b o,h.get? b=some o->b∉fs->b∉ex->h'.get? b=some o
 slot:∀b o,h.get? b=some o->b∉ex->∃sl,h'.get? b=some {o with slots:=sl}
 size:h.objs.size<=h'.objs.size
def KW.trans (a:KW fs ex l h) (b:KW fs ex h g):KW fs ex l g:=
 ⟨λc o e n m=>b.keep c o (a.keep c o e n m) n m,λc o e m=>by
  obtain⟨r,q⟩:=a.slot c o e m;obtain⟨f,p⟩:=b.slot c _ q m;exact⟨f,p⟩,WQ a.size b.size⟩
def KW.mono {fs f ex g}{l h} (a:KW fs ex l h) (p:∀b∈fs,b∈f) (hx:∀b∈ex,b∈g):KW f g l h:=
 ⟨λc o e n m=>a.keep c o e (λz=>n (p c z)) (λz=>m (hx c z)),λc o e m=>a.slot c o e λz=>m (hx c z),a.size⟩
def Zhw(o:Obj)(f):(o.mapFields f).dict=o.dict:=by
 obtain⟨c,d,b,sl⟩:=o;cases b<;>rfl
structure Trc (h:Heap) (e T:Addr) (cls:Value×Yq) (fl:Value):Prop where
 ne:T≠e
 exc:∃oe vs,h.get? e=some oe/\(oe.cls,oe.dict)=cls/\oe.data=.fields vs/\vs[1]?=some (.ref T)
 ent:∃oT ts,h.get? T=some oT/\oT.data=.fields ts/\ts[3]?=some fl
section
variable {M:Model}{A:Around}{E:Yi}{s:Shared}{base:Heap}{env:Env}{outer:List Env}{L e:Addr}
def OM{hadNext Q}(B:A.frames=some (env::outer))(U:s.heap.FunFrames base (env::outer))(hf:env.frame=some L)(Y:s.heap.get? e=some v)(C:v.data=.fields vs)(hsz:1<vs.size)(h:∀H T,s.heap.objs.size<=T->Trc H e T (v.cls,v.dict) (rawInt L)->KW (frs (env::outer)) [e] s.heap H->Q () {s with heap:=H}) :
  wpAny M A (do let a ←frameOf env;let u ←entryPlaceOf L hadNext;let b ←EntryCells.newEntry head a .none (rawInt L) .none u;setField (.ref e) 1 b) Q E s:=by
 have n:e∉frs (env::outer):=λhm=>by
  obtain⟨_,o,N,y⟩:=U.mem hm;rw[Y]at N;cases N
  exact y vs C
 refine W8 (wpAny_frameOf_fun B U hf λG g=>W8 (wpAny_entryPlaceOf λu x=>?_));refine W8 (Q6 ?_<|x.sizeOk5 _ _ _ _ _);have r:=(g.2.1 e n).trans Y;generalize eo:({cls:=.type "traceback",dict:=none,data:=.fields ([head,.ref L,.none,rawInt L,.none]++(if u.isEmpty then List.replicate 6 Value.none else u)).toArray}:Obj)=J;have p:=WB J r;refine Vb p C hsz (h _ G.objs.size (Vp g.1.symm) ?_ ?_)
 ·have l:=JF (WM r);have d3:=QE C (·.setIfInBounds 1 (Value.ref G.objs.size));refine⟨l,⟨_,_,Q4 _ p (Vc d3),by rw[Jt,Zhw],d3,by simp[hsz]⟩,J,_,?_,by rw[←eo],?_⟩
  ·exact(QB _ _<|Ne.symm l).trans (WN G<|by rw[←eo];rfl)
  ·rfl
 ·refine⟨λb o q nb w=>?_,λb o q w=>?_,?_⟩
  ·have f:b≠e:=λz=>w (by simp[z]);rw[QB _ _ (Ne.symm f)];exact WB _ ((g.2.1 b nb).trans q)
  ·have f:b≠e:=λz=>w (by simp[z]);obtain⟨sl,q1⟩:=g.2.2 b o q;exact⟨sl,by rw[QB _ _ (Ne.symm f)];exact WB _ q1⟩
  ·rw[Heap.size_update,VG,g.1];exact Vn _
def Zj5(f:A.frames=some (env::outer))(q:s.heap.FunFrames base (env::outer))(l:env.frame=some L)(n:s.heap.get? e=some b)(o:b.data=.fields vs)(p:vs[1]?=some .none)(h:∀g T,s.heap.objs.size<=T->Trc g e T (b.cls,b.dict) (rawInt L)->KW (frs (env::outer)) [e] s.heap g->Q () {s with heap:=g}):wpAny M A (noteFrame (.ref e) env) Q E s:=by
 unfold noteFrame;simp only[l];refine W8 (JX n o p ?_);exact OM f q l n o (VW.mp p).1 h
def IS(x:Trc s.heap e T cls Y)(h:∀g,Trc g e T cls .none->KW [] [T] s.heap g->Q () {s with heap:=g}) :
  wpAny M A (setField (.ref T) 3 .none) Q E s:=by
 obtain⟨n,⟨w,v,J,H,G,C⟩,U,N,r,p,y⟩:=x;have u:=(VW.mp y).1;refine Vb r p u (h _ ?_ ?_)
 ·have d3:=QE p (·.setIfInBounds 3 Value.none);exact⟨n,⟨w,v,(QB _ _ n).trans J,H,G,C⟩,_,_,Q4 _ r (Vc d3),d3,by simp[u]⟩
 ·have l:∀b,b≠T->(s.heap.update T<|Obj.mapFields (·.setIfInBounds 3 Value.none)).get? b=s.heap.get? b:=λb B=>QB _ _ (Ne.symm B);exact⟨λb o q _ f=>(l b λz=>f (by grind)).trans q,λb o q f=>⟨o.slots,(l b λz=>f (by grind)).trans q⟩,Vp (Heap.size_update ..).symm⟩
def Gv(n:A.frames=some (env::outer))(hl:s.heap.FunFrames base (env::outer))(y:env.frame=some L)(x:Trc s.heap e T cls .none)(h:∀r f,s.heap.objs.size<=f->Trc r e f cls (rawInt L)->KW (frs (env::outer)) [e,T] s.heap r->Q () {s with heap:=r}):wpAny M A (noteFrame (.ref e) env) Q E s:=by
 obtain⟨ne,⟨oe,vs,g1,g2,g3,g4⟩,oT,G,w,v,Y⟩:=id x;unfold noteFrame;simp only[y];refine W8 (JX g1 g3 g4 ?_);refine W8 (JX w v Y ?_);refine W8 (IS x λh1 B u=>?_)
 have l:=hl.of_keeps λb o q g=>⟨o,u.keep b o q (by simp) (λz=>by
  rw[WC.mp z,w]at q;cases q
  exact g G v),rfl⟩
 obtain⟨_,⟨U,C,N,p2,J,H⟩,_⟩:=id B;refine OM n l y N J (VW.mp H).1 λh2 f p x2 K2=>h h2 f (WQ u.size p) (by grind) ?_;exact(u.mono (by simp)<|by simp).trans (K2.mono (λ_ z=>z)<|by simp)
def Bo(x:Trc s.heap e T cls r)(h:∀b,Trc b e T cls .none->KW [] [T] s.heap b->Q () {s with heap:=b}) :
  wpAny M A (setFlight (.ref e) none) Q E s:=by
 obtain⟨p,⟨o,n,l,q,g,f⟩,_⟩:=id x;refine W8 (JX l g f ?_);exact IS x h
def Zpa(l:A.frames=some (env::outer))(y:s.heap.FunFrames base (env::outer))(B:env.frame=some L)(C:s.heap.get? e=some f)(G:f.data=.fields vs)(J:vs[1]?=some .none)(h:∀p T,s.heap.objs.size<=T->Trc p e T (f.cls,f.dict) .none->KW (frs (env::outer)) [e] s.heap p->Q () {s with heap:=p}):wpAny M A (leaving env<|.ref e) Q E s:=by
 unfold leaving;refine W8 (Zj5 l y B C G J λN T n x K=>Bo x λH u r=>h H T n u ?_);refine⟨λb o q w g=>r.keep b o (K.keep b o q w g) (by simp) (λz=>?_),λb o q g=>?_,WQ K.size r.size⟩
 ·rw[WC.mp z]at q;exact absurd (WM q) (JJ.mpr n)
 ·obtain⟨sl,v⟩:=K.slot b o q g;exact⟨sl,r.keep b _ v (by simp) (λz=>by rw[WC.mp z]at q;exact absurd (WM q) (JJ.mpr n))⟩
def Zgq(l:A.frames=some (env::outer))(B:s.heap.FunFrames base (env::outer))(C:env.frame=some L)(x:Trc s.heap e T cls .none)(h:∀p f,s.heap.objs.size<=f->Trc p e f cls .none->KW (frs (env::outer)) [e,T] s.heap p->Q () {s with heap:=p}):wpAny M A (leaving env<|.ref e) Q E s:=by
 refine W8 (Gv l B C x λH f n v K=>Bo v λG u r=>h G f n u ?_);refine⟨λb o q y g=>r.keep b o (K.keep b o q y g) (by simp) (λz=>?_),λb o q g=>?_,WQ K.size r.size⟩
 ·rw[WC.mp z]at q;exact absurd (WM q) (JJ.mpr n)
 ·obtain⟨sl,w⟩:=K.slot b o q g;exact⟨sl,r.keep b _ w (by simp) (λz=>by rw[WC.mp z]at q;exact absurd (WM q) (JJ.mpr n))⟩
end
section
variable {P:Program}{w:World}{H H':Hp}{h h':Heap}{a:Addr}{o:HO}{fs ex:List Addr}
def has(x:ObjOk P w H h a o):∃u,h.get? a=some u:=by
 cases o with
 |lst xs=>exact let ⟨_,_,_,_,e⟩:=x;⟨_,e⟩
 |tup xs=>exact let ⟨_,_,_,u,e,_⟩:=x;⟨u,e⟩
 |dK b|dT b=>exact let ⟨_,_,_,_,u,_,_,e,_⟩:=x;⟨u,e⟩
 |set S n=>exact let ⟨u,_,_,_,e,_⟩:=x;⟨u,e⟩
 |ins C p fs=>exact let ⟨_,_,_,e,_⟩:=x;⟨_,e⟩
 |own y=>exact x
 |xd fs=>exact let ⟨_,⟨u,_,_,e,_⟩,_⟩:=x;⟨u,e⟩
 |rng lo l=>exact let ⟨_,_,_,e⟩:=x;⟨_,e⟩
 |frz g u=>exact⟨_,x.1⟩
 |ext f=>exact x.2.1
 |_=>exact⟨_,x⟩
def Gi(ok:HOk P w H h)(e:h.get? a=none):H a=none:=by
 cases q:H a with
 |none=>rfl
 |some o=>
  obtain⟨u,z⟩:=has (ok a o q)
  grind
def SU(ok:HOk P w H h)(k:KW fs ex h h')(g:∀b∈fs,H b=none)(hx:∀b∈ex,H b=none):HOk P w H h':=λa o e=>by
 refine(ok a o e).stay (λb u l q=>?_) (λ_ q=>q) (λ_ _ q=>q);have f:H b≠none:=by grind
 exact k.keep b u q (λz=>f (g b z)) λz=>f (hx b z)
end
structure XAt (P:Program) (w:World) (outer:List Env) (H H':Hp) (s s':Shared) (a T C:Addr) (dx:Yq):Prop where
 os:s'.os=s.os
 bare:AllBare s'.gens
 un:Un (frs outer) [] H H' s.heap s'.heap
 hok:HOk P w H' s'.heap
 na:s.heap.get? a=none
 nT:s.heap.get? T=none
 fa:H' a=none
 fT:H' T=none
 tr:Trc s'.heap a T (.ref C,dx) .none
noncomputable def CXe(P:Program)(w:World):CXT:=λouter H s E e g=>∃a T C b f,e=.ref a/\XAt P w outer H f s g a T C b/\E (.ref C) b f
section
variable {X:Cx}{pins:Yg}{σ:L2.St}{H H':Hp}{s s':Shared}{a T C:Addr}{dx:Yq}
def Za0(I:Inv X pins σ H s)(hex:X.ex=[])(k:KW (frs X.stack) ex s.heap w)(hx:∀b∈ex,X.s₀.heap.get? b=none):Un X.fs [] X.H₀ H X.s₀.heap w:=by
 have B:=I.base;rw[hex]at B;have f:∀b o,X.s₀.heap.get? b=some o->b∉ex:=λb o q z=>by rw[hx b z]at q;cases q
 have u:∀b o,X.s₀.heap.get? b=some o->b∉X.fs->b∉frs X.stack:=λb o q h z=>by
  rcases WL.mp (I.stkSub b z)with e|e
  ·have y:=WM q;have x:=I.ok.above
   grind
  ·exact h e
 refine⟨λb o q n h g=>k.keep b o (B.keep b o q n h g) (u b o q h) (f b o q),λb o q n v g=>?_,λb o q n g=>B.free b o q n g,λb o q g=>?_,B.tups,B.frzs,B.tbls⟩
 ·obtain⟨sl,p⟩:=B.slot b o q n v g;obtain⟨l,r⟩:=k.slot b _ p (f b o q)
  grind
 ·obtain⟨o1,p⟩:=B.there b o q g;obtain⟨l,r⟩:=k.slot b _ p (f b o q);exact⟨_,r⟩
def Fh(I:Inv X pins σ H s)(hex:X.ex=[])(e:s.heap.get? b=none):X.s₀.heap.get? b=none:=by
 cases q:X.s₀.heap.get? b with
 |none=>rfl
 |some o=>
  obtain⟨u,z⟩:=I.base.there b o q (by grind)
  grind
variable {E:Yi}
def Zb8(I:Inv X pins σ H s)(hex:X.ex=[])(g:X.stack=X.env::X.outer)(l:X.env.frame=some X.env.locals)(x:XAt X.prog X.w X.stack H H' s s' a T C dx) :
  wpAny (model X.prog X.w) X.A (leaving X.env<|.ref a) (λ_ r=>∃n,XAt X.prog X.w X.outer X.H₀ H' X.s₀ r a n C dx) E s':=by
 have J:=I.call' x.os x.un x.hok x.bare λb z=>absurd z (by simp);have o:=J.stack;have p:=J.ok.frames;rw[g]at o p;refine Zgq p o l x.tr λu n h q k=>⟨n,J.os,J.bare,?_,?_,Fh I hex x.na,?_,x.fa,x.hok.fresh h,q⟩
 ·exact Za0 J hex (by rw[g];exact k) λb f=>by
   rcases WL.mp f with rfl|f
   ·exact Fh I hex x.na
   ·rw[WC.mp f];exact Fh I hex x.nT
 ·refine SU x.hok k (λb f=>J.stkFree b (by grind)) λb f=>?_;rcases WL.mp f with rfl|f
  ·exact x.fa
  ·rw[WC.mp f];exact x.fT
 ·exact Vz (WQ J.sz h)
def Rf(J:Inv X pins σ H s)(hex:X.ex=[])(f:X.stack=X.env::X.outer)(n:X.env.frame=some X.env.locals)(q:X.s₀.heap.get? a=none)(v:H a=none)(z:s.heap.get? a=some l)(G:l.cls=.ref C)(o:l.dict=dx)(B:l.data=.fields vs)(L:vs[1]?=some .none) :
  wpAny (model X.prog X.w) X.A (leaving X.env<|.ref a) (λ_ y=>∃p,XAt X.prog X.w X.outer X.H₀ H X.s₀ y a p C dx) E s:=by
 have r:=J.stack;have u:=J.ok.frames;rw[f]at r u;refine Zpa u r n z B L λM p g x k=>⟨p,J.os,J.bare,?_,?_,q,?_,v,J.hok.fresh g,by rw[←G,←o];exact x⟩
 ·exact Za0 J hex (by rw[f];exact k) λb h=>by rw[WC.mp h];exact q
 ·exact SU J.hok k (λb h=>J.stkFree b (by grind)) λb h=>by rw[WC.mp h];exact v
 ·exact Vz (WQ J.sz g)
def Zfo{f vs}(I:Inv X pins σ H s)(hex:X.ex=[])(g:X.stack=X.env::X.outer)(h:X.env.frame=some X.env.locals)(keeps:∀b o,s.heap.get? b=some o->n.get? b=some o)(new:s.heap.get? a=none)(q:n.get? a=some f)(u:f.cls=.ref C)(l:f.dict=dx)(r:f.data=.fields vs)(v:vs[1]?=some .none) :
  wpAny (model X.prog X.w) X.A (leaving X.env<|.ref a) (λ_ p=>∃x,XAt X.prog X.w X.outer X.H₀ H X.s₀ p a x C dx) E {s with heap:=n}:=
 Rf (s:={s with heap:=n}) (I.call' (ch:=[]) rfl (Un.kept keeps) (I.hok.kept keeps) I.bare λb z=>absurd z (by simp)) hex g h (Fh I hex new) (Gi I.hok new) q u l r v
end
structure A0 (K:Yd) (C:Addr):Prop where
 q:PySem.W.excIn K C [.type "ValueError",.type "Exception",.type "BaseException",.type "object"] "ValueError.__new__"=true
def A0.obj {K C h} (c:A0 K C) (k:K.In h):∃b N nm q bs hdct sn sub ab col dd k0 k1 k2 k3 k5 o,h.get? C=some (excClassObj nm q C N bs b hdct sn sub ab col dd k0 k1 k2 k3 k5 "ValueError.__new__")/\h.Ns N o/\o "__init__"=none/\
  OwnTail h [.type "ValueError",.type "Exception",.type "BaseException",.type "object"] b:=by
 have e:=c.q;unfold PySem.W.excIn at e;split at e
 next dd J sl z=>
  split at e
  next L b k0 k1 k2 k3 n k5 r p=>
   simp only[Qb,beq_iff_eq,Bool.not_eq_true']at e;obtain⟨⟨⟨⟨⟨G,E⟩,v⟩,B⟩,g⟩,u⟩:=e;subst G E;have s:=k _ _ z;cases J with
   |mk nm bs y x w A sn sub ab col H=>
    simp only at r v g u
    have f:sl=#[k0,k1,k2,k3,some (.builtin "ValueError.__new__"),k5]:=by
     cases sl with
     |mk l=>simp only at p;rw[p]
    rw[r,v,f]at s;exact⟨b,x,nm,w,bs,A,sn,sub,ab,col,dd,k0,k1,k2,k3,k5,_,s,.of_isNs (Ua k g),PySem.W.nsMap_none_of_in k g u,PySem.W.tail_of_in k B⟩
  next=>cases e
 next=>cases e
abbrev TF:=L2.St->Hp->Str->(Str->Hp->Prop)->Prop
def PF(X:Cx)(es:Yn)(t:TF):Prop:=
 ∀(pins:Yg) (s:Shared) (f:L2.St) (H:Hp) (b:Str) (Q:Str->Hp->Prop),Inv X pins f H s->t f H b Q->
  wpAny (model X.prog X.w) X.A (joinParts b<|evalEach es X.env) (λu h=>∃x g,Inv X pins f g h/\RelV (.str x) u/\Q x g) X.xe s
section
variable {X:Cx}{e e1 e2:Expr}{es:Yn}{t:TF}{tv:TE}{pos:Pos}
noncomputable def Za7:TF:=λ_ H b Q=>b.length<=sizeLine/\Q b H
noncomputable def IM(x:Str)(t:TF):TF:=λf H b Q=>(b++x).length<=sizeLine/\t f H (b++x) Q
noncomputable def Zak(tv:TE)(t:TF):TF:=λf H b Q=>tv f H λv g=>(∃i:Int,v=.int i/\i.natAbs.log2<1920/\(b++(Str.ofString<|toString i)).length<=sizeLine/\t f g (b++Str.ofString (toString i)) Q)\/
 ∃x:Str,v=.str x/\x.length<=sizeLine/\(b++x).length<=sizeLine/\t f g (b++x) Q
def Nn:PF X [] Za7:=λpins s f H b Q I h=>joinParts_nilE (joinParts_nil ⟨b,H,I.tok _,⟨_,rfl⟩,h.2⟩ h.1)
def Tt(h:PF X es t):PF X (.Constant (.str x) j pos::es) (IM x t):=λpins s b H f Q I q=>
 joinParts_consE (joinParts_cons<|Calls.Constant_str ⟨q.1,h pins _ b H _ Q (I.tok _) q.2⟩)
def TH(z:PE X e tv)(h:PF X es t):PF X (.FormattedValue e (-1) none pos::es) (Zak tv t):=λpins s b H y Q I q=>by
 refine joinParts_consE (joinParts_cons<|FormattedValue_plain<|thn (z pins s b H _ I q) ?_);rintro u C ⟨v,n,l,r,w⟩;rcases w with⟨i,rfl,A,g,f⟩|⟨x,rfl,hx,g,f⟩
 ·obtain⟨p,rfl⟩:=r;exact formatField_int_small A ⟨g,h pins _ b n _ Q (l.tok _) f⟩
 ·obtain⟨p,rfl⟩:=r;exact formatField_str (λB o=>⟨g,h pins _ b n _ Q (l.tok _) f⟩) hx
noncomputable def tF(t:TF):TE:=λb H Q=>t b H Str.empty λx f=>Q (.str x) f
def N4(h:PF X (e1::e2::es) t):PE X (.JoinedStr (e1::e2::es) pos) (tF t):=λpins s b H Q I q=>
 JoinedStr_many (thn (h pins s b H _ _ I q) λu n ⟨x,l,g,r,f⟩=>⟨.str x,l,g,r,f⟩)
end
def DM(X:Cx)(E:XK):Prop:=∀(pins:Yg) (f:L2.St) (H:Hp) (s:Shared) (C a:Addr) (b:Heap) (args:Yl),Inv X pins f H s->Heap.MadeExcOf s.heap b a (.ref C) args->E (.ref C) none H->X.xe (.ref a) {s with heap:=b}
noncomputable def Mb(C:Addr)(E:XK)(t:TA):TS:=λ_ b H=>t b H λf g=>f.length<=sizeLine/\E (.ref C) none g
section
variable {X:Cx}{x:Str}{C:Addr}{E:XK}{e:Expr}{es:Yn}{t:TA}{p cpos pos:Pos}
def Zff(c:A0 X.K C)(J:X.mg x=some (.ref C))(T:DM X E)(M:X.calm=true)(Q:PA X (e::es) t)(L:autoParam (Gl X x) au_0)(o:autoParam ((x==("__debug__" : Str))=false) au_1)(u:autoParam (starEach (e::es) X.env=(false,eval e X.env)::starEach es X.env) au_0)(g:autoParam ((backTo cpos<|starEach es X.env).any (·.1)=false) au_0):PS X (.Raise (some<|.Call (.Name x p) (e::es) [] cpos) none pos) (Mb C E t):=by
 intro pins s r H D I h;obtain⟨bm,N,nm,q,bs,hdct,sn,sub,ab,col,dd,k0,k1,k2,k3,k5,mN,Y,U,l,v⟩:=c.obj I.ok.mod.kin
 have b:(backTo cpos<|starEach (e::es) X.env).any (·.1)=false:=by
  rw[u];show(false || (backTo cpos<|starEach es X.env).any (·.1))=false;rw[g];rfl
 refine wpAny_Raise_call_subU (nm:=nm) (q:=q) (N:=N) (bs:=bs) (hdct:=hdct) (sn:=sn) (sub:=sub) (ab:=ab) (col:=col) (dd:=dd) (k0:=k0) (k1:=k1) (k2:=k2) (k3:=k3) (k5:=k5)
  Vw (by decide +kernel) Vw (v.hasType<|by decide +kernel) (I.ok.hd M) b l (Nq I L J ⟨rfl,?_⟩ o)
 have w:=Q cpos pins s r H _ I h;rw[u]at w ⊢;refine JH (thn w ?_);rintro y z ⟨vs,H2,f,A,G,B⟩;refine⟨rfl,by rw[←A.length];exact G,f.bk _ _ Y,U.keeps f.bk,v.keeps f.bk,λh' a n=>?_⟩;exact T pins r H2 z C a h' y f n B
end
section
variable {P:Program}{w:World}{K:Yd}{mg:Yh}{base:Heap}{N ps:Ym}{qual x:Str}{scope:Scope}{f:Addr}{cd:Value}{A:Around}{outer:List Env}{s:Shared}{H:Hp}{E:XK}
def NC:DM (Ks (CXe P w) P w K mg base N qual scope f cd A outer s H E) E:=by
 intro pins l h o C a p args I m q;obtain⟨t,b,_,_⟩:=m.there;exact Qr (Zfo I rfl rfl rfl m.keeps m.new b rfl rfl rfl rfl) (λ_ n ⟨g,y⟩=>⟨a,g,C,none,h,rfl,y,q⟩) λ_ _ z=>z
def Pi:P6 (CXe P w) (Ks (CXe P w) P w K mg base N qual scope f cd A outer s H E) E:=by
 rintro pins l r p e o I ⟨a,T,C,b,h,rfl,y,q⟩;exact Qr (Zb8 I rfl rfl rfl y) (λ_ n ⟨g,z⟩=>⟨a,g,C,b,h,rfl,z,q⟩) λ_ _ z=>z
def FH:PassesOwn (model P w) (Ks (CXe P w) P w K mg base N qual scope f cd A outer s H E).A (Ks (CXe P w) P w K mg base N qual scope f cd A outer s H E).env (Ks (CXe P w) P w K mg base N qual scope f cd A outer s H E).xe:=PassesOwn.leaving
def Def.okX {st k sp} (D:Own.Def K mg x st ps) (S:XI N ps (XH st)) (len:∀vs H Q E,sp vs H Q E->vs.length=ps.length)
  (g:∀f b A outer s H vs Q E,XS k (A.deeper<|envOfC x (XH st) s.heap.objs.size f b)->sp vs H Q E->
   ∃t,PSs (Ks (CXe P w) P w K mg base N x (XH st) f b A outer s H E) (Km st) t/\t {nx:=λ_ H'=>Q .non H',rt:=Q} (start N vs) H):Own.Callee P w K mg base (CXe P w) (k+1) x ps sp:=by
 obtain⟨f,z,F,q,r⟩:=D.ex;obtain⟨oc,y,kV,u,v,C,b,B,o,rfl,n,l⟩:=F.ex;exact⟨f,_,E9 n l S len λA outer s H vs Q E p h=>g f b A outer s H vs Q E p h,q,F.kp,⟨_,n,rfl⟩,r⟩
end
end ExcR
namespace ExcR
open PySem PySem.Spec PyProof.Rows L2
open Sem (wp)
structure KO (K:Yd) (C:Addr):Prop where
 c:A0 K C
 ga:PySem.W.findIn K (.ref C) "__getattribute__"=some (some<|.builtin "BaseException.__getattribute__")
 gt:PySem.W.findIn K (.ref C) "__getattr__"=some none
 cl:PySem.W.findIn K (.ref C) "__class__"=some (some<|.builtin "object.__class__")
 is:(PySem.W.clsIn K C).isSome=true
end ExcR
namespace ExcR
open PySem PySem.Spec PyProof.Rows L2
noncomputable def To(a C:Addr)(f:Yq):HO:=.ext λh=>∃o,h.get? a=some o/\(o.cls,o.dict)=(.ref C,f)/\∃b,o.data=.fields b
noncomputable abbrev Zm3(a C:Addr):HO:=To a C none
def Zps{h a T C f p}(x:Trc h a T (.ref C,f) p):ObjOk P w H h a (To a C f):=by
 obtain⟨_,⟨o,g,b,r,q,_⟩,_⟩:=x;exact⟨⟨o,b,r,g,q⟩,⟨o,b⟩,λu s ⟨o1,n,l⟩ k=>⟨o1,k o1 n,l⟩⟩
def FJ{H H'}{h v s}(u:Un fs [] H H' h v)(k:KW fs ex v s)(hx:∀b∈ex,h.get? b=none):Un fs [] H H' h s:=by
 have f:∀b o,h.get? b=some o->b∉ex:=λb o q z=>by rw[hx b z]at q;cases q
 refine⟨λb o q n r g=>k.keep b o (u.keep b o q n r g) r (f b o q),λb o q n x g=>?_,u.free,λb o q g=>?_,u.tups,u.frzs,u.tbls⟩
 ·obtain⟨sl,p⟩:=u.slot b o q n x g;obtain⟨l,w⟩:=k.slot b _ p (f b o q)
  grind
 ·obtain⟨o1,p⟩:=u.there b o q g;obtain⟨l,w⟩:=k.slot b _ p (f b o q)
  grind
noncomputable def T1(X:Cx)(a:Addr):Cx:={X with A:=X.A.mark (some<|.ref a),calm:=false,xe:=λ_ _=>False}
section
variable {X:Cx}{pins pins1:Yg}{σ:L2.St}{H H':Hp}{s s':Shared}{a T C:Addr}{D:Ends}{h0:ExceptHandler}
def Zkp(o:X.Ok):(T1 X a).Ok:=⟨o.mod,o.kind,o.glob,o.blt,o.above,o.inj,o.has,o.cab,(λz=>nomatch z),o.frames,o.stk,o.exf,o.bs,o.bsz,o.noex,o.exfs,o.funs,o.frf⟩
def Ap(I:Inv X pins σ H s):Inv (T1 X a) pins σ H s:=⟨Zkp I.ok,I.os,I.bare,I.base,I.loc,I.cell,I.free,I.freeC,I.pin,I.hok,I.len⟩
def E1(o:X.Ok)(I:Inv (T1 X a) pins σ H s):Inv X pins σ H s:=⟨o,I.os,I.bare,I.base,I.loc,I.cell,I.free,I.freeC,I.pin,I.hok,I.len⟩
def Zg6{h'}{tk}(I:Inv X pins σ H s)(hN:X.N.Nodup)(hi:X.N[i]?=some n)(hk:X.env.scope.names.lookup n=some .local)(hm:∀(i:Nat) x v,X.N[i]?=some x->σ[i]?=some (some v)->Vis X.env.scope x->∃u,RelV v u/\Look X.env s.heap m x u)(hn:s.heap.Ns X.env.locals m)(l:h'.Ns X.env.locals (λx=>if x=n then v else m x))(f:Heap.SameBut X.env.locals s.heap h'):Inv X pins (σ.set i none) H {s with heap:=h',toks:=tk}:=by
 have cne:=I.cne;have h:∀{b o},X.s₀.heap.get? b=some o->b≠X.env.locals:=λe=>Qg (Qj (WM e) I.ok.above);refine⟨I.ok,I.os,I.bare,⟨λb o e n r hx=>(f.2 b<|h e).trans (I.base.keep b o e n r hx),λb o e n r hx=>?_,I.base.free,λb o e hx=>?_,I.base.tups,I.base.frzs,I.base.tbls⟩,⟨_,l,λj y J g E e3=>?_⟩,λy c e=>?_,I.free,I.freeC,λp hp=>?_,λb Q e=>?_,by simpa using I.len⟩
 ·obtain⟨sl,g⟩:=I.base.slot b o e n r hx;exact⟨sl,(f.2 b<|h e).trans g⟩
 ·obtain⟨U,g⟩:=I.base.there b o e hx;exact⟨U,(f.2 b<|h e).trans g⟩
 ·by_cases A:j=i
  ·grind
  ·rw[JD (Ne.symm A)]at E;obtain⟨L,M,q⟩:=hm j y J g E e3;refine⟨L,M,?_⟩;rcases q with⟨k,e⟩|⟨k,c,e,z⟩
   ·have hy:y≠n:=λz=>A (DW hN g (z▸hi));exact .inl ⟨k,by simp[hy,e]⟩
   ·exact .inr ⟨k,c,e,z.sameBut f (cne y c e)⟩
 ·obtain⟨G,z⟩:=I.cell y c e;exact⟨G,z.sameBut f (cne y c e)⟩
 ·obtain⟨e,n,w,Y,d⟩:=I.pin p hp;exact⟨(f.2 p.1 w).trans e,n,w,Y,d⟩
 ·refine(I.hok b Q e).stay (λc u hc q=>(f.2 c ?_).trans q) (λ_ q=>q) λ_ _ q=>q;rintro rfl;have B:=I.free;rcases hc with z|z
  ·rw[←z,B]at e;cases e
  ·rw[B]at z;cases z
end
noncomputable def OB(i:Nat)(D:Ends):Ends:={nx:=λb H=>D.nx (b.set i none) H,rt:=D.rt,bk:=λb H=>D.bk (b.set i none) H,ct:=λb H=>D.ct (b.set i none) H}
noncomputable def hx(K:Yd)(g:Addr)(i:Nat)(ts:TS)(D:Ends):L2.St->XK:=λb c f H=>∃C,c=.ref C/\PySem.W.exmOne K (.ref C) (.ref g)=some true/\
 ∀a,H a=none->ts (OB i D) (b.set i<|some<|.ref a) (upd H a<|To a C f)
def GO(CX:CXT)(X:Cx)(E:L2.St->XK):Prop:=∀(pins:Yg) (b:L2.St) (H:Hp) (s:Shared) (e:Value) (f:Shared),Inv X pins b H s->CX X.stack H s (E b) e f->X.xe e f
noncomputable def Za1(sp:Sp)(E:L2.St->XK)(t:TA):TE:=λb H Q=>t b H λf g=>sp (f++[]) g Q (E b)
section
variable {X:Cx}{CX:CXT}{k:Nat}{ps:Ym}{sp:Sp}{E:L2.St->XK}{x:Str}{p pos:Pos}{e:Expr}{es:Yn}{t:TA}
def Zi3(C:Own.Callee X.prog X.w X.K X.mg X.base CX k x ps sp)(G:XS k X.A)(J:GO CX X E)(ha:PA X (e::es) t)(T:autoParam (Gl X x) au_0)(v:autoParam ((x==("__debug__" : Str))=false) au_1)(U:autoParam (starEach (e::es) X.env=(false,eval e X.env)::starEach es X.env) au_0)(o:autoParam ((backTo pos<|starEach es X.env).any (·.1)=false) au_0) :
  PE X (.Call (.Name x p) (e::es) [] pos) (Za1 sp E t):=by
 obtain⟨f,fd,F,L,N,_,Y⟩:=C.ex;intro pins s l H Q I h;refine V8 (Nq I T L ?_ v);refine Jb I.ok.mod.kin N (thn (ha pos pins s l H _ I h) λg n ⟨z,y,b,r,q⟩=>⟨b.kIn,?_⟩) U o;have M:(g++[]).length=ps.length:=by rw[Qz,←r.length,←F.len _ _ _ _ q,Qz]
 refine JG (Vq (F.run X.A X.stack n y ⟨g,[]⟩ (g++[]) (z++[]) Q (E l) G b.env0 (Y n g b.kIn M) (by grind) q) λr B hq=>?_);cases r with
 |error e=>exact J pins l y n e B b hq
 |ok fl=>
  cases fl with
  |ret u=>exact b.after hq
  |next=>trivial
  |_=>exact False.elim hq
end
noncomputable def XQ(b:Yh)(x:Str):Addr:=match b x with
 |some (.ref C)=>C
 |_=>0
def AQ(h:b x=some (.ref C)):XQ b x=C:=by unfold XQ;rw[h]
def PU{v pos}(h:∃u,X.mg x=some u/\RelV v u)(b:autoParam (Gl X x) au_0)(f:autoParam ((x==("__debug__" : Str))=false) au_1):PE X (.Name x pos) (tC v):=by
 obtain⟨u,l,g⟩:=h;exact Fy b l g f
end ExcR
namespace Own
open PySem PySem.Spec PyProof.Rows L2 M
section
variable {X:Cx}{pins:Yg}{σ:L2.St}{H:Hp}{s:Shared}
def Ml{p:Int×Int}{its}(r:Vals [V.int p.1,V.int p.2] its):∃f b,its=[.int p.1 f,.int p.2 b]:=by
 cases r with
 |cons n g=>
  cases g with
  |cons l h=>
   cases h
   obtain⟨f,rfl⟩:=n;obtain⟨b,rfl⟩:=l
   grind
def Zki{x y p q u v}(I:Inv X pins σ H s)(U:A.units<cLine)(L:RelV x u)(J:RelV y v)(Y:PB H x p)(hq:PB H y q):SeqAt.EqAt A s u v (decide (p=q)):=by
 obtain⟨a,rfl,C⟩:=Y;obtain⟨b,rfl,l⟩:=hq;obtain rfl:=L;obtain rfl:=J;by_cases n:a=b
 ·subst n;rw[C]at l
  have e:p=q:=by
   injection l with l;injection l with l;injection l with g f;injection f with f _;exact Prod.ext (V.int.inj g) (V.int.inj f)
  rw[WH e];exact SeqAt.EqAt.same _
 ·obtain⟨_,T,N,G⟩:=(I.hok a _ C);obtain⟨_,Q,M,E⟩:=(I.hok b _ l);obtain⟨B,w,rfl⟩:=Ml N;obtain⟨r,o,rfl⟩:=Ml M
  have h:=SeqAt.RcAt.tuples (e:=λj=>if j=0 then p.1==q.1 else p.2==q.2) G E U (λj g f=>by
   have hj:j=0\/j=1:=by
    have h1':j<2:=g;lia
   rcases hj with rfl|rfl
   ·exact SeqAt.EqAt.int_int _ _ _ _
   ·exact SeqAt.EqAt.int_int _ _ _ _)
  have e:((List.range (min ([Value.int p.1 B,Value.int p.2 w].toArray).size ([Value.int q.1 r,Value.int q.2 o].toArray).size)).all (λj=>if j=0 then p.1==q.1 else p.2==q.2)&&([Value.int p.1 B,Value.int p.2 w].toArray).size==([Value.int q.1 r,Value.int q.2 o].toArray).size)=decide (p=q):=by
   show((List.range 2).all (λj=>if j=0 then p.1==q.1 else p.2==q.2)&&true)=decide (p=q);rw[Bool.and_true];have e2:(List.range 2).all (λj=>if j=0 then p.1==q.1 else p.2==q.2)=((p.1==q.1)&&(p.2==q.2)):=by simp[List.range,List.range.loop]
   rw[e2];by_cases g:p.1=q.1
   ·by_cases f:p.2=q.2
    ·rw[WH (Prod.ext g f)];simp[g,f]
    ·rw[Qc (λz=>f (by rw[z]))];simp[f]
   ·rw[Qc (λz=>g (by rw[z]))];simp[g]
  rw[e]at h;exact SeqAt.EqAt.of_refs n h
noncomputable def eP(H:Hp)(q:Int×Int)(u:Value):Bool:=match u with
 | .ref a=>(match H a with
  |some (.tup [.int i,.int j])=>decide ((i,j)=q)
  |_=>false)
 |_=>false
def Hz{p q}(h:PB H v p)(r:RelV v u):eP H q u=decide (p=q):=by
 obtain⟨a,rfl,b⟩:=h;obtain rfl:=r;unfold eP;simp_all
theorem D9:∀{vs us}{ps:Ye},Vals vs us->LV PB H vs ps->us.any (eP H q)=decide (q∈ps)
 |_,_,[],.nil,_=>rfl
 |_,_,_::_,.nil,h|v::vs,u::us,[],.cons _ _,h=>absurd h.1 (by simp)
 |v::vs,u::us,p::ps,.cons r t,h=>by
  obtain⟨g,e,b⟩:=h.2 0 p rfl;cases e
  have f:LV PB H vs ps:=⟨by simpa using h.1,λi x e=>h.2 (i+1) x e⟩;rw[VT,Hz b r,D9 t f];by_cases l:p=q
  ·grind
  ·grind
noncomputable def BC(neg:Bool):R2:=λx y H Q=>∃(l:Addr) (b:Ye) (q:Int×Int),y=.ref l/\PB H x q/\LAt PB H l b/\Q (.bl (if neg then !decide (q∈b)else decide (q∈b))) H
theorem EF{x v q}(I:Inv X pins σ H s)(g:A.units<cLine)(f:RelV x v)(hx:PB H x q):∀{vs us}{ps:Ye},Vals vs us->LV PB H vs ps->∀u∈us,SeqAt.EqAt A s u v (eP H q u)
 |_,_,_,.nil,_,u,b=>by cases b
 |w::vs,u::us,[],.cons _ _,h,_,_=>absurd h.1 (by simp)
 |w::vs,u::us,p::ps,.cons r t,h,l,b=>by
  obtain⟨o,e,hw⟩:=h.2 0 p rfl;cases e
  have n:LV PB H vs ps:=⟨by simpa using h.1,λi x e=>h.2 (i+1) x e⟩;rcases WL.mp b with rfl|b
  ·rw[Hz hw r];exact Zki I g r f hw hx
  ·exact EF I g f hx t n l b
def Zjt(p:X.A.in1.units<cLine):OpR X (compareOp .In) (BC false):=by
 intro pins s σ H x y v u Q I n g h;obtain⟨l,C,q,rfl,hx,⟨B,z,f⟩,k⟩:=h;cases g
 obtain⟨b,r,o,E⟩:=I.list (SqL.of z);refine SeqAt.in_listAt (eP H q) o.isList (λw hw=>EF I p n hx r f w (by grind)) ⟨.bl _,H,I,rfl,?_⟩;rwa[show b.toArray.any (eP H q)=b.any (eP H q) by simp,D9 r f]
def Zem(p:X.A.in1.units<cLine):OpR X (compareOp .NotIn) (BC true):=by
 intro pins s σ H x y v u Q I n g h;obtain⟨l,C,q,rfl,hx,⟨B,z,f⟩,k⟩:=h;cases g
 obtain⟨b,r,o,E⟩:=I.list (SqL.of z);refine SeqAt.notIn_listAt (eP H q) o.isList (λw hw=>EF I p n hx r f w (by grind)) ⟨.bl _,H,I,rfl,?_⟩;rwa[show b.toArray.any (eP H q)=b.any (eP H q) by simp,D9 r f]
end
end Own
namespace M
open PySem PySem.Spec PyProof.Rows L2 Own
section
variable {α:Type}{R:Hp->V->α->Prop}{H:Hp}
noncomputable def pick(c:α->Bool)(d:V×α):Option V:=if c d.2=true then some d.1 else none
end
end M
namespace Own
open PySem PySem.Spec PyProof.Rows L2 M
section
variable {X:Cx}
def Zih:K8 X (.type "range") (λxs H Q=>∃i j,xs=[.int i,.int j]/\∀r,H r=none->Q (.ref r) (upd H r<|.rng i j)):=by
 intro pins s p H xs u Q I l h;obtain⟨i,j,rfl,q⟩:=h;cases l with
 |cons r f=>
  cases f with
  |cons n f=>
   cases f
   obtain⟨t,rfl⟩:=r;obtain⟨g,rfl⟩:=n;refine call_range_2 ⟨.ref s.heap.objs.size,upd H s.heap.objs.size (.rng i j),?_,rfl,q _ (I.hok.fresh<|WG _)⟩;exact I.laid (λb o e=>WB _ e) (WG _) ⟨t,g,s.toks,WN _ rfl⟩
noncomputable def Ka(i:Int)(n:Nat):Yf:=(List.range n).map λ(k:Nat)=>i+(k:Int)
def Zg4:∀n us,us.length=n->(∀(j:Nat) v,us[j]?=some v->∃t,v=Value.int (i+(j:Int)*1) t)->Vals ((Ka i n).map V.int) us:=by
 intro n us l h
 have b:∀us o,(∀j v,us[j]?=some v->∃t,v=Value.int (i+((o+j:Nat):Int)) t)->Vals (((List.range' o us.length).map λ(k:Nat)=>i+(k:Int)).map V.int) us:=by
  intro us
  induction us with
  |nil=>intro o _;exact .nil
  |cons u us g=>
   intro o h;obtain⟨t,e⟩:=h 0 u rfl;refine .cons ⟨t,by rw[e];simp⟩ (g (o+1) λj v f=>?_);obtain⟨p,q⟩:=h (j+1) v f
   grind
 have:=b us 0 (λj v f=>by obtain⟨t,e⟩:=h j v f;exact⟨t,by rw[e];congr 1<;>lia⟩)
 unfold Ka;rw[List.range_eq_range',←l];lia
def Zm8(z:X.calm=true):K8 X (.type "list") (λxs H Q=>∃r i j,xs=[.ref r]/\H r=some (.rng i j)/\(-(2 ^ 62)<=i/\i<2 ^ 62/\-(2 ^ 62)<=j/\j<2 ^ 62)/\(j-i).toNat<=1000000/\
  ∀l,H l=none->Q (.ref l) (upd H l<|.lst ((Ka i (j-i).toNat).map V.int))):=by
 intro pins s G H xs J Q I n h;obtain⟨r,i,j,rfl,x,⟨b1,E,C,B⟩,f,q⟩:=h;obtain⟨u,rfl,o⟩:=n.one;obtain rfl:=o;obtain⟨t,u,v,e⟩:=(I.hok r _ x);refine call_list_range (I.ok.hd z) e (small_one b1 E C B) (rangeSize_nat i j) (WQ f<|by simp) λM L b c y A g=>?_;refine⟨.ref s.heap.objs.size,upd H s.heap.objs.size (.lst ((Ka i (j-i).toNat).map V.int)),?_,rfl,q _ (I.hok.fresh<|WG _)⟩;have p:Vals ((Ka i (j-i).toNat).map V.int) b.toList:=Zg4 _ _ (by rw[Qw];exact g.1) λk w hw=>g.2 k w (by grind);refine I.laid y (WG _) ⟨?_,b.toList,c,p,by simpa using A⟩;rw[W9];unfold Ka;rw[W9,Uc];exact WQ f (by decide)
end
end Own
namespace Own
open PySem PySem.Spec PyProof.Rows L2
section
variable {X:Cx}{K:Yd}
def GP(x:X.calm=true)(z:autoParam (X.K=K) au_0):K8 X (.builtin "sum") (λxs H Q=>∃(p:Addr) (ns:Yf),xs=[.ref p]/\SqL K H p (ns.map V.int)/\Q (.int ns.sum) H):=by
 subst z;intro pins s C H xs E Q I n h;obtain⟨p,ns,rfl,y,q⟩:=h;obtain⟨u,rfl,o⟩:=n.one;obtain rfl:=o;obtain⟨f,r,v,_⟩:=I.list y;have l:IntsAre f ns:=by simpa using As r
 obtain⟨b,hx⟩:=l.allInts.items;have g:=v.isList;rw[hx]at g;refine sum_intListG (I.ok.hd x) g λL G J w=>?_
 have B:ns=b.toList.map (·.1):=by
  rw[←nums_intItems,←hx];exact l.numsOf.symm
 have A:preSum (numAt b) b.size=ns.sum:=by
  rw[preSum_eq,List.take_of_length_le (by simp),B]
 rw[A];exact⟨.int ns.sum,H,I.kept w,⟨_,rfl⟩,q⟩
def Zbu(J:X.calm=true)(N:autoParam (X.K=K) au_0):K8 X (.builtin "min") (λxs H Q=>∃(p:Addr) (ns:Yf),xs=[.ref p]/\SqL K H p (ns.map V.int)/\0<ns.length/\∀M,M∈ns->(∀a∈ns,M<=a)->Q (.int M) H):=by
 subst N;intro pins s U H xs Y Q I z h;obtain⟨p,ns,rfl,L,n,q⟩:=h;obtain⟨u,rfl,A⟩:=z.one;obtain rfl:=A;obtain⟨g,r,B,_⟩:=I.list L;have w:IntsAre g ns:=by simpa using As r
 obtain⟨f,e⟩:=w.allInts.items;have o:=B.isList;rw[e]at o;have b:ns=f.toList.map (·.1):=by rw[←w.numsOf,←nums_intItems,←e]
 have l:0<f.size:=by
  have y:=n;rw[b,W9,Qw]at y;exact y
 refine min_intList (I.ok.hd J) o l λv h' tk C E=>?_;obtain⟨t,rfl⟩:=intItems_at C;obtain⟨h1,T⟩:=argBest_lt (numAt f) (f.size-1);refine⟨.int _,H,I.kept E,⟨_,rfl⟩,q _ ?_ λa x=>?_⟩
 ·rw[b,numAt_eq];exact getD_mem (by rw[W9,Qw];lia)
 ·rw[b]at x;obtain⟨j,G,rfl⟩:=Qk.mp x;rw[W9,Qw]at G
  have:=T j (by lia)
  rw[numAt_eq f j]at this
  grind
theorem Cs:∀{bs}{us:Yl},Vals (bs.map V.bl) us->LSm.BoolsAre us bs
 |[],_,.nil=>.nil
 |b::r,_,.cons h t=>by
  cases h
  exact .cons b (Cs t)
def O4(B:X.calm=true)(E:autoParam (X.K=K) au_0):K8 X (.builtin "any") (λxs H Q=>∃(p:Addr) (bs:List Bool),xs=[.ref p]/\SqL K H p (bs.map V.bl)/\Q (.bl<|bs.any id) H):=by
 subst E;intro pins s G H xs J Q I w h;obtain⟨p,bs,rfl,C,q⟩:=h;obtain⟨u,rfl,x⟩:=w.one;obtain rfl:=x;obtain⟨f,r,y,_⟩:=I.list C;have n:=Cs r;have l:=y.isList;have g:p<s.heap.objs.size:=by obtain⟨_,e,_⟩:=l;exact WM e
 refine call_any_walk (VB l ?_)
 refine⟨s.heap.objs.size,[s.heap.objs.size,p],[s.heap.objs.size],f.toArray.size,_,_,λi=>(bs[i]?).getD false,rfl,Walks.list (A:=X.A.in1) (I.ok.hd B) _ p (Qg g) f.toArray,
  ⟨⟨_,WN _ rfl,rfl,rfl⟩,l.push _⟩,λi v M U Y N o=>?_,λT L z=>?_⟩
 ·obtain⟨b,e,rfl⟩:=n.get i v (by grind);simp only[e,Option.getD_some]at o;exact Vg o
 ·have e:((List.range f.toArray.size).any λi=>(bs[i]?).getD false)=bs.any id:=by
   rw[Qo,n.length];exact LSm.range_any bs
  rw[e];exact⟨.bl (bs.any id),H,I.kept (LSm.kept_iter z),rfl,q⟩
noncomputable def D1(K:Yd)(neg:Bool):R2:=λx y H Q=>∃(p q:Addr) (xs:List V),x=.ref p/\y=.ref q/\SqL K H p xs/\SqL K H q []/\Q (.bl (if neg then !xs.isEmpty else xs.isEmpty)) H
def Dv(g:X.A.units<cLine)(C:autoParam (X.K=K) au_0):OpR X (compareOp .Eq) (D1 K false):=by
 subst C;intro pins s G H x y v u Q I o n h;obtain⟨p,q,xs,rfl,rfl,B,hq,k⟩:=h;obtain rfl:=o;obtain rfl:=n;obtain⟨J,z,b,_⟩:=I.list B;obtain⟨l,w,p2,_⟩:=I.list hq;have M:=z.length;have L:0=l.length:=w.length;have f:=k;by_cases e:xs.length=0
 ·refine SeqAt.eq_listAt (e:=λ_=>true) b.isList p2.isList (by simp;lia) g (λj N E=>by simp at E;lia) ⟨.bl xs.isEmpty,H,I,?_,f⟩;show _=Value.bool xs.isEmpty
  grind
 ·refine SeqAt.eq_list_lengthsAt b.isList p2.isList (by simp;lia) g ⟨.bl xs.isEmpty,H,I,?_,f⟩;cases xs with
  |nil=>exact absurd rfl e
  |cons a r=>rfl
def Zbk(g:X.A.units<cLine)(C:autoParam (X.K=K) au_0):OpR X (compareOp .NotEq) (D1 K true):=by
 subst C;intro pins s G H x y v u Q I o n h;obtain⟨p,q,xs,rfl,rfl,B,hq,k⟩:=h;obtain rfl:=o;obtain rfl:=n;obtain⟨J,z,b,_⟩:=I.list B;obtain⟨l,w,p2,_⟩:=I.list hq;have M:=z.length;have L:0=l.length:=w.length;have f:=k;by_cases e:xs.length=0
 ·refine SeqAt.RcNeAt.lists (e:=λ_=>true) b.isList p2.isList (by simp;lia) g (λj N E=>by simp at E;lia) _ _ _ _ ⟨.bl (!xs.isEmpty),H,I,?_,f⟩;show _=Value.bool (!xs.isEmpty)
  grind
 ·refine SeqAt.RcNeAt.lists_lengths b.isList p2.isList (by simp;lia) g _ _ _ _ ⟨.bl (!xs.isEmpty),H,I,?_,f⟩;cases xs with
  |nil=>exact absurd rfl e
  |cons a r=>rfl
end
end Own
namespace M
open PySem PySem.Spec PyProof.Rows L2 Own
noncomputable def TX(f:Ye)(b:Yf):Ye:=f.filter λq=>decide (q.1∈b)&&decide (q.2∈b)
noncomputable def P8(f:Ye)(b:Yf):Yf:=b.filter λh=>decide (h∈(TX f b).map (·.2))
noncomputable def Kl(b:Ye)(f:Yf):Nat->Yf
 | 0=>f
 |n+1=>P8 b (Kl b f n)
def Bu(b:Ye)(r:Yf):Prop:=∀(i:Nat) (x y:Int),r[i]?=some x->r[i+1]?=some y->(x,y)∈b
structure Ring (hs:Yf) (ws:Ye) (r:Yf):Prop where
 two:2<=r.length
 nodup:r.Nodup
 sub:∀x∈r,x∈hs
 chain:Bu ws r
 last:∀x y,r[0]?=some x->r[r.length-1]?=some y->(y,x)∈ws
def Ring.ahead (R:Ring g f r) {x} (hx:x∈r):∃y∈r,(y,x)∈f:=by
 obtain⟨i,h,e⟩:=Qk.mp hx;cases i with
 |zero=>
  have b:r.length-1<r.length:=by lia
  exact⟨r[r.length-1],WU b,R.last x _ (by grind) (WA b)⟩
 |succ i=>
  have b:i<r.length:=by lia
  exact⟨r[i],WU b,R.chain i _ x (WA b) (by grind)⟩
def mem_peel:x∈P8 f b↔x∈b/\∃y∈b,(y,x)∈f:=by
 unfold P8 TX;rw[Qi];constructor
 ·grind
 ·rintro⟨h,y,l,g⟩;refine⟨h,WH (WO.mpr ⟨(y,x),Qi.mpr ⟨g,?_⟩,rfl⟩)⟩
  grind
theorem Et(R:Ring g b r):∀n x,x∈r->x∈Kl b g n
 | 0,x,hx=>R.sub x hx
 |n+1,x,hx=>by
  obtain⟨y,f,h⟩:=R.ahead hx;exact mem_peel.mpr ⟨Et R n x hx,y,Et R n y f,h⟩
def E2(f:Ye)(b:Yf):(P8 f b).Sublist b:=VX
theorem Hj(b:Ye)(f:Yf):∀n,(Kl b f n).Sublist f
 | 0=>List.Sublist.refl _
 |n+1=>(E2 b _).trans (Hj b f n)
theorem RC(b:Ye)(f:Yf):∀n,(∃k,k<n/\P8 b (Kl b f k)=Kl b f k)\/(Kl b f n).length+n<=f.length
 | 0=>.inr (WG _)
 |n+1=>by
  rcases RC b f n with⟨k,o,e⟩|h
  ·grind
  ·by_cases e:P8 b (Kl b f n)=Kl b f n
   ·grind
   ·have l:(P8 b<|Kl b f n).length<(Kl b f n).length:=by
     have p:=(E2 b<|Kl b f n).length_le;rcases Nat.lt_or_ge (P8 b<|Kl b f n).length (Kl b f n).length with g|g
     ·exact g
     ·exact absurd ((E2 b<|Kl b f n).eq_of_length (by lia)) e
    refine .inr ?_;show(P8 b<|Kl b f n).length+(n+1)<=f.length;lia
theorem Ib(b:Ye)(f:Yf){k}(e:P8 b (Kl b f k)=Kl b f k):∀n,Kl b f (k+n)=Kl b f k
 | 0=>rfl
 |n+1=>by
  show P8 b (Kl b f (k+n))=_;rw[Ib b f e n,e]
theorem AJ:∀{xs b:Yf},xs.Nodup->(∀x∈xs,x∈b)->xs.length<=b.length
 |[],_,_,_=>QL _
 |x::xs,b,g,h=>by
  obtain⟨n,l⟩:=Q1.mp g;have o:=AJ l λz f=>(List.mem_erase_of_ne (λe:z=x=>n (e▸f))).mpr (h z<|WV _ f)
  grind
def Eg(G:∀q∈s,q.1≠q.2)(w:g≠[])(h:∀x∈g,∃y∈g,(y,x)∈s):∃r,Ring g s r:=by
 have grow:∀n r,r≠[]->r.Nodup->(∀x∈r,x∈g)->Bu s r->g.length<r.length+n->∃r,Ring g s r:=by
  intro n
  induction n with
  |zero=>
   intro r B u sub A H
   have:=AJ u sub
   lia
  |succ n E=>
   intro r B u sub A H;cases r with
   |nil=>exact absurd rfl B
   |cons x t=>
    obtain⟨y,v,hw⟩:=h x (sub x (Qh ..));by_cases C:y∈x::t
    ·obtain⟨i,M,e⟩:=Qk.mp C
     have L:i≠0:=λz=>by
      subst z;exact G _ hw e.symm
     have p:((x::t).take (i+1)).length=i+1:=by
      rw[WW];lia
     refine⟨(x::t).take (i+1),by lia,u.sublist (VC _ _),λz o=>sub z (V0 o),λk a b l f=>?_,λa b l f=>?_⟩
     ·have J:k+1<i+1:=by
       have:=(Qf.mp f).1
       lia
      rw[QP (by lia)]at l;rw[QP J]at f;exact A k a b l f
     ·rw[p,Jh,QP (by lia),WA M,e]at f;cases l
      cases f
      exact hw
    ·refine E (y::x::t) (by simp) (Q1.mpr ⟨C,u⟩) (λz o=>?_) (λk a b l f=>?_) (by rw[Qn];lia)
     ·rcases WL.mp o with rfl|o
      ·exact v
      ·exact sub z o
     ·cases k with
      |zero=>
       cases l
       cases f
       exact hw
      |succ k=>exact A k a b l f
 obtain⟨x,hx⟩:=List.exists_mem_of_ne_nil g w;exact grow (g.length+1) [x] (by simp) (by simp) (λy v=>by rw[WC.mp v];exact hx) (λi a b l f=>by simp at f) (by show g.length<1+(g.length+1);lia)
def Zer(n:∀q∈f,q.1≠q.2):Kl f b b.length=[]↔¬ ∃r,Ring b f r:=by
 constructor
 ·rintro h ⟨r,R⟩;have two:=R.two;have o:0<r.length:=by lia
  have:=Et R b.length r[0] (WU o)
  grind
 ·intro h;rcases RC f b b.length with⟨k,s,e⟩|p
  ·have l:=Ib f b e (b.length-k);rw[show k+(b.length-k)=b.length by lia]at l;rw[l];by_cases g:Kl f b k=[]
   ·exact g
   ·obtain⟨r,R⟩:=Eg n g (λx hx=>by
     rw[←e]at hx;exact(mem_peel.mp hx).2)
    exact absurd ⟨r,R.two,R.nodup,λx hx=>(Hj f b k).subset (R.sub x hx),R.chain,R.last⟩ h
  ·exact V5.mp (by lia)
end M
namespace M
def sl:Yf->Yf->Prop
 |x::xs,y::b=>x<y\/(x=y/\sl xs b)
 |_,_=>False
def sl_cons:sl (l::a) (l::b)↔sl a b:=by
 show(l<l\/(l=l/\sl a b))↔sl a b;constructor
 ·simp
 ·simp
theorem CZ:∀{a b} x y,sl a b->sl (a++[x]) (b++[y])
 |[],[],_,_,h|[],_::_,_,_,h|_::_,[],_,_,h=>by unfold sl at h;exact h.elim
 |p::a,q::b,x,y,h=>by
  rw[Vm,Vm];unfold sl at h ⊢;rcases h with h|⟨g,f⟩
  ·lia
  ·exact .inr ⟨g,CZ x y f⟩
theorem Ln:∀{a}{x y:Int},x<y->sl (a++[x]) (a++[y])
 |[],x,y,h=>.inl h
 |p::a,x,y,h=>by
  exact .inr ⟨rfl,Ln h⟩
theorem Gf:∀{a b c:Yf},sl a b->sl b c->sl a c
 |[],b,c,h,_|_::_,[],_,h,_|_::_,_::_,[],_,h=>by unfold sl at h;exact h.elim
 |x::a,y::b,z::c,g,f=>by
  unfold sl at g f ⊢;rcases g with g|⟨g,n⟩
  ·lia
  ·rcases f with f|⟨f,l⟩
   ·lia
   ·exact .inr ⟨by lia,Gf n l⟩
noncomputable def XT(g:Int):Yf->Int
 |[]=>g
 |x::t=>XT x t
theorem Px(g:Int):∀a b,XT g (a++b)=XT (XT g a) b
 |[],b=>rfl
 |x::a,b=>Px x a b
theorem Al(g:Int):∀t,(g::t)[t.length]?=some (XT g t)
 |[]=>rfl
 |x::t=>by
  exact Al x t
def Path(C:Int->Prop)(b:Ye):Int->Yf->Prop
 |_,[]=>True
 |g,x::t=>C x/\(g,x)∈b/\Path C b x t
section
variable {C:Int->Prop}{ws:Ye}
theorem path_app:∀{g}{a b:Yf},Path C ws g (a++b)↔Path C ws g a/\Path C ws (XT g a) b
 |g,[],b=>⟨λh=>⟨trivial,h⟩,λh=>h.2⟩
 |g,x::a,b=>by
  constructor
  ·rintro⟨n,l,f⟩
   have:=path_app.mp f
   exact⟨⟨n,l,this.1⟩,this.2⟩
  ·rintro⟨⟨n,l,f⟩,o⟩;exact⟨n,l,path_app.mpr ⟨f,o⟩⟩
theorem DZ:∀{g}{t:Yf},Path C ws g t->∀x∈t,C x
 |g,[],_,x,h=>by cases h
 |g,y::t,⟨f,_,b⟩,x,h=>by
  rcases WL.mp h with rfl|h
  ·lia
  ·exact DZ b x h
theorem Oe:∀{g}{t:Yf},Path C ws g t->Bu ws (g::t)
 |g,[],_=>λi x y n b=>by simp at b
 |g,z::t,⟨n,b,l⟩=>λi x y h f=>by
  cases i with
  |zero=>grind
  |succ i=>exact Oe l i x y h f
theorem Rh:∀{g}{t:Yf},Bu ws (g::t)->(∀x∈t,C x)->Path C ws g t
 |g,[],_,_=>trivial
 |g,z::t,h,b=>⟨b z Qh,h 0 g z rfl rfl,Rh (λi x y l f=>h (i+1) x y l f) λx hx=>b x (WV _ hx)⟩
end
def Gr(b:Yf)(l:Int):Int->Prop:=λx=>x∈b/\l<x
def Pz(f:Yf)(b:Ye)(l:Int)(t:Yf):Prop:=Path (Gr f l) b l t/\(XT l t,l)∈b
def RF(f:Yf)(b:Ye)(l:Int)(r:Yf):Prop:=
 (r=[]/\∀t,¬Pz f b l t)\/∃t,r=l::t/\Pz f b l t/\∀u,Pz f b l u->t.length<u.length\/(t.length=u.length/\(t=u\/sl t u))
structure Lev (hs:Yf) (ws:Ye) (l:Int) (k:Nat) (ps:List (Yf)) (ls:Yf):Prop where
 way:∀p∈ps,p.length=k/\Path (Gr hs l) ws l p
 srt:ps.Pairwise sl
 lin:∀h∈ls,Gr hs l h
 lsrt:ls.Pairwise (· < ·)
 cover:∀t,t.length<=k->Path (Gr hs l) ws l t->XT l t∉ls
 first:∀t,t.length=k->Path (Gr hs l) ws l t->(∃p∈ps,XT l p=XT l t/\(p=t\/sl p t))\/∃u,u.length<k/\Path (Gr hs l) ws l u/\XT l u=XT l t
 none:∀t,t.length<k->¬Pz hs ws l t
 comp:∀h,Gr hs l h->h∉ls->∃t,t.length<=k/\Path (Gr hs l) ws l t/\XT l t=h
section
variable {hs:Yf}{ws:Ye}{l:Int}{k:Nat}{ps:List (Yf)}{ls:Yf}
def Lev.start (q:ls.Pairwise (· < ·)) (f:∀h,h∈ls↔Gr hs l h):Lev hs ws l 0 [[]] ls:=by
 have nil:∀t:Yf,t.length=0->t=[]:=λt h=>V5.mp h;refine⟨λp n=>?_,by simp,λh g=>(f h).mp g,q,λt b _ h=>?_,λt b _=>.inl ⟨[],by simp,by rw[nil t b],.inl (nil t b).symm⟩,λt b=>by lia,λh g o=>absurd ((f h).mpr g) o⟩
 ·rw[WC.mp n];trivial
 ·rw[nil t (by lia)]at h
  have:=((f _).mp h).2
  exact absurd this (by show ¬l<l;lia)
def Lev.found (L:Lev hs ws l k ps ls) {p i} (o:i<ps.length) (r:ps[i]=p) (G:(XT l p,l)∈ws) (E:∀j h,j<i->(XT l ps[j],l)∉ws):RF hs ws l (l::p):=by
 have B:p∈ps:=by rw[←r];exact WU o
 obtain⟨N,w⟩:=L.way p B;refine .inr ⟨p,rfl,⟨w,G⟩,λu f=>?_⟩;by_cases J:u.length<k
 ·exact absurd f (L.none u J)
 ·by_cases H:u.length=k
  ·rcases L.first u H f.1 with⟨q,hq,M,g⟩|⟨v,A,y,x⟩
   ·refine .inr ⟨by lia,?_⟩;obtain⟨j,h,s⟩:=Qk.mp hq;have n:(XT l ps[j],l)∈ws:=by rw[s,M];exact f.2
    have C:=Nat.le_of_not_lt λz=>E j h z n
    have b:p=q\/sl p q:=by
     by_cases e:i=j
     ·grind
     ·have:=Q0.mp L.srt i j o h (by lia)
      rw[r,s]at this;exact .inr this
    rcases b with rfl|b
    ·exact g
    ·rcases g with rfl|g
     ·exact .inr b
     ·exact .inr (Gf b g)
   ·exact absurd ⟨y,by rw[x];exact f.2⟩ (L.none v A)
  ·exact .inl (by lia)
def Lev.none_here (L:Lev hs ws l k ps ls) (h:∀p∈ps,(XT l p,l)∉ws):∀t,t.length<k+1->¬Pz hs ws l t:=λt s b=>by
 by_cases o:t.length<k
 ·exact L.none t o b
 ·rcases L.first t (by lia) b.1 with⟨q,hq,r,u⟩|⟨v,n,g,f⟩
  ·exact h q hq (by rw[r];exact b.2)
  ·exact L.none v n ⟨g,by rw[f];exact b.2⟩
def Lev.over (L:Lev hs ws l k [] ls):RF hs ws l []:=by
 refine .inl ⟨rfl,?_⟩
 have early:∀n t,t.length=n->Path (Gr hs l) ws l t->∃u,u.length<k/\Path (Gr hs l) ws l u/\XT l u=XT l t:=by
  intro n
  induction n with
  |zero=>
   intro t b f;by_cases M:0<k
   ·exact⟨t,by lia,f,rfl⟩
   ·rcases L.first t (by lia) f with⟨q,hq,_⟩|⟨v,p,_⟩
    ·cases hq
    ·lia
  |succ n H=>
   intro t b f;have y:t≠[]:=λz=>by rw[z]at b;cases b
   have o:=(VL y).symm;generalize t.getLast y=x at o;generalize t.dropLast=s at o;subst o;obtain⟨G,p2⟩:=path_app.mp f;obtain⟨u,r,h,g⟩:=H s (by simpa using b) G;have w:=path_app.mpr ⟨h,by rw[g];exact p2⟩;have A:XT l (u++[x])=XT l (s++[x]):=by rw[Px,Px];rfl
   by_cases J:(u++[x]).length<k
   ·exact⟨_,J,w,A⟩
   ·rcases L.first (u++[x]) (by grind) w with⟨q,hq,_⟩|⟨v,p,E,C⟩
    ·cases hq
    ·exact⟨v,p,E,C.trans A⟩
 intro t B;obtain⟨u,r,h,g⟩:=early t.length t rfl B.1;exact L.none u r ⟨h,by rw[g];exact B.2⟩
structure LG (ws:Ye) (l:Int) (P:Yf->Int->Prop) (lg:List (Yf)):Prop where
 mem:∀q∈lg,∃p h,P p h/\q=p++[h]/\(XT l p,h)∈ws
 srt:lg.Pairwise sl
 has:∀p h,P p h->(XT l p,h)∈ws->∃p',p'++[h]∈lg/\(p'=p\/sl p' p)
def Lev.next (L:Lev hs ws l k ps ls) (hn:∀p∈ps,(XT l p,l)∉ws) (G:LG ws l (λp h=>p∈ps/\h∈ls) E)
  (e:y=ls.filter λh=>decide (¬h∈E.map (XT l))):Lev hs ws l (k+1) E y:=by
 have b:∀h,h∈y↔h∈ls/\¬h∈E.map (XT l):=λh=>by rw[e,Qi,Vy]
 have f:∀q∈E,q.length=k+1/\Path (Gr hs l) ws l q:=λq hq=>by
  obtain⟨p,h,⟨g,h2⟩,rfl,h3⟩:=G.mem q hq;obtain⟨w1,N⟩:=L.way p g;exact⟨by simp[w1],path_app.mpr ⟨N,L.lin h h2,h3,trivial⟩⟩
 have reach:∀s x,s.length=k->Path (Gr hs l) ws l s->Gr hs l x->(XT l s,x)∈ws->x∈ls->∃p∈ps,XT l p=XT l s/\(p=s\/sl p s):=λs x g h2 h3 h4 h5=>by
  rcases L.first s g h2 with z|⟨v,v1,v2,v3⟩
  ·exact z
  ·have:=L.cover (v++[x]) (by simp;lia) (path_app.mpr ⟨v2,h3,by rw[v3];exact h4,trivial⟩)
   rw[Px]at this;exact absurd h5 this
 refine⟨f,G.srt,λh hh=>L.lin h ((b h).mp hh).1,?_,λt A J hl=>?_,λt A J=>?_,L.none_here hn,λh hg hnl=>?_⟩
 ·rw[e];exact L.lsrt.filter _
 ·obtain⟨C,m2⟩:=(b _).mp hl;by_cases g:t.length<=k
  ·exact L.cover t g J C
  ·have w:t≠[]:=λz=>by rw[z]at g;simp at g
   have o:=(VL w).symm;generalize t.getLast w=x at o;generalize t.dropLast=s at o;subst o;obtain⟨U,p2,r,_⟩:=path_app.mp J;rw[Px]at C m2;obtain⟨p,n,B,_⟩:=reach s x (by simp at A g;lia) U p2 r C;obtain⟨Y,k1,_⟩:=G.has p x ⟨n,C⟩ (by rw[B];exact r);exact m2 (WO.mpr ⟨_,k1,by rw[Px];rfl⟩)
 ·have w:t≠[]:=λz=>by rw[z]at A;simp at A
  have o:=(VL w).symm;generalize t.getLast w=x at o;generalize t.dropLast=s at o;subst o;obtain⟨U,p2,r,_⟩:=path_app.mp J;have hs':s.length=k:=by simpa using A
  by_cases hx:x∈ls
  ·obtain⟨p,n,B,M⟩:=reach s x hs' U p2 r hx;obtain⟨Y,k1,H⟩:=G.has p x ⟨n,hx⟩ (by rw[B];exact r);refine .inl ⟨_,k1,by rw[Px,Px];rfl,?_⟩
   have:Y=s\/sl Y s:=by
    rcases H with rfl|H
    ·exact M
    ·rcases M with rfl|M
     ·exact .inr H
     ·exact .inr (Gf H M)
   rcases this with rfl|h
   ·exact .inl rfl
   ·exact .inr (CZ x x h)
  ·obtain⟨u,u1,T,Q⟩:=L.comp x p2 hx;exact .inr ⟨u,by lia,T,by rw[Q,Px];rfl⟩
 ·by_cases hx:h∈ls
  ·have:=QA λz=>hnl ((b h).mpr ⟨hx,z⟩)
   obtain⟨q,hq,B⟩:=WO.mp this;obtain⟨w1,N⟩:=f q hq;exact⟨q,by lia,N,B⟩
  ·obtain⟨u,u1,T,Q⟩:=L.comp h hg hx;exact⟨u,by lia,T,Q⟩
end
def FR(b:Yf)(f:Ye)(r:Yf):Prop:=
 (r=[]/\∀l∈b,∀t,¬Pz b f l t)\/∃l t,r=l::t/\l∈b/\Pz b f l t/\∀m∈b,∀u,Pz b f m u->t.length<u.length\/(t.length=u.length/\(l<m\/(l=m/\(t=u\/sl t u))))
theorem Za2:∀(r:Yf),r≠[]->∃i,∃h:i<r.length,∀x∈r,r[i]<=x
 |[],h=>absurd rfl h
 |[a],_=>⟨0,by simp,λx hx=>by rw[WC.mp hx];exact QG _⟩
 |a::b::r,_=>by
  obtain⟨i,f,h⟩:=Za2 (b::r) (by simp);by_cases c:a<=(b::r)[i]
  ·refine⟨0,by simp,λx hx=>?_⟩;rcases WL.mp hx with rfl|hx
   ·exact QG _
   ·grind
  ·refine⟨i+1,by simpa using f,λx hx=>?_⟩;have e:(a::b::r)[i+1]'(by grind)=(b::r)[i]:=rfl;rcases WL.mp hx with rfl|hx
   ·lia
   ·exact h x hx
def Lo(r:Yf){i j}(b:i<=r.length):(r.drop i++r.take i)[j]?=if i+j<r.length then r[i+j]? else if j<r.length then r[i+j-r.length]? else none:=by grind
def Zds(R:Ring v s r):∃l∈v,∃t,Pz v s l t/\t.length+1=r.length:=by
 have two:=R.two;obtain⟨i,p,n⟩:=Za2 r (λz=>by rw[z]at two;simp at two);have erot:r.drop i++r.take i=r[i]::(r.drop (i+1)++r.take i):=by rw[Qu p];rfl
 have o:(r.drop (i+1)++r.take i).length+1=r.length:=by rw[Qa,List.length_drop,WW];lia
 have E:Bu s (r[i]::(r.drop (i+1)++r.take i)):=by
  rw[←erot];intro j x y g b;rw[Lo r (by lia)]at g b;by_cases B:i+(j+1)<r.length
  ·rw[WK B]at b;rw[WK (by lia)]at g;exact R.chain (i+j) x y g b
  ·rw[WI B]at b;by_cases A:j+1<r.length
   ·rw[WK A]at b;by_cases w:i+j<r.length
    ·rw[WK w]at g;have f:i+j=r.length-1:=by lia
     have q:i+(j+1)-r.length=0:=by lia
     rw[f]at g;rw[q]at b;exact R.last y x b g
    ·rw[WI w,WK (by lia)]at g;have e:i+(j+1)-r.length=(i+j-r.length)+1:=by lia
     rw[e]at b;exact R.chain _ x y g b
   ·rw[WI A]at b;cases b
 refine⟨r[i],R.sub _ (WU p),r.drop (i+1)++r.take i,⟨Rh E λx hx=>?_,?_⟩,o⟩
 ·have h:=(Qd.mp hx).elim List.mem_of_mem_drop V0;refine⟨R.sub x h,Int.lt_iff_le_and_ne.mpr ⟨n x h,λz=>?_⟩⟩
  have u:(r.drop i++r.take i).Nodup:=by
   have:(r.take i++r.drop i).Perm (r.drop i++r.take i):=List.perm_append_comm
   rw[←this.nodup_iff,VM];exact R.nodup
  rw[erot]at u;exact(Q1.mp u).1 (by rw[z];exact hx)
 ·have f:=Al r[i] (r.drop (i+1)++r.take i);rw[←erot,Lo r (by lia)]at f;have q:(r.drop (i+1)++r.take i).length=r.length-1:=by lia
  rw[q]at f;by_cases c:i=0
  ·subst c;rw[WK (by lia)]at f;exact R.last _ _ (WA p) (by simpa using f)
  ·rw[WI (by lia),WK (by lia)]at f;have C:i+(r.length-1)-r.length=i-1:=by lia
   rw[C]at f;exact R.chain (i-1) _ _ f (by rw[show i-1+1=i by lia];exact WA p)
theorem Rg:∀{t:Yf},¬t.Nodup->∃a x b c,t=a++x::(b++x::c)
 |[],h=>absurd VI h
 |y::t,h=>by
  by_cases f:y∈t
  ·obtain⟨b,c,e⟩:=List.append_of_mem f;exact⟨[],y,b,c,by rw[e];rfl⟩
  ·obtain⟨a,x,b,c,e⟩:=Rg λz=>h (Q1.mpr ⟨f,z⟩)
   grind
def M2{h l t}(w:∀q∈h,q.1≠q.2)(A:l∈n)(f:Pz n h l t)(r:∀u,Pz n h l u->t.length<=u.length):Ring n h (l::t):=by
 have p:t≠[]:=λz=>by
  have g:=f.2;rw[z]at g;exact w _ g rfl
 have s:=DZ f.1;refine⟨by have:=JO.mpr p;simp;lia,Q1.mpr ⟨λz=>absurd (s l z).2 (by lia),?_⟩,λx hx=>?_,Oe f.1,λx y o g=>?_⟩
 ·refine QA λz=>?_;obtain⟨a,x,b,c,e⟩:=Rg z;have o:=f.1;rw[e]at o;obtain⟨v,p2⟩:=path_app.mp o
  have C:Pz n h l (a++x::c):=by
   refine⟨path_app.mpr ⟨v,p2.1,p2.2.1,((path_app (a:=x::b)).mp p2).2.2.2⟩,?_⟩
   have B:XT l (a++x::c)=XT l t:=by
    rw[e,Px,Px];show XT x c=XT x (b++x::c);rw[Px];rfl
   rw[B];exact f.2
  grind
 ·rcases WL.mp hx with rfl|hx
  ·exact A
  ·exact(s x hx).1
 ·cases o
  simp only[Qn,Jh]at g;rw[(Al l t)]at g;cases g
  exact f.2
def FR.none_iff {b r} (o:∀q∈b,q.1≠q.2) (F:FR p b r):r=[]↔¬ ∃r,Ring p b r:=by
 constructor
 ·rintro rfl ⟨r,R⟩;obtain⟨l,f,t,g,_⟩:=Zds R;rcases F with⟨_,F⟩|⟨_,_,e,_⟩
  ·grind
  ·grind
 ·intro h;rcases F with⟨e,_⟩|⟨l,t,rfl,f,g,s⟩
  ·exact e
  ·refine absurd ⟨_,M2 o f g λu n=>?_⟩ h
   grind
def FR.ring {b r} (n:∀q∈b,q.1≠q.2) (F:FR o b r) (h:r≠[]):Ring o b r/\∃l t,r=l::t/\∀x∈t,l<x:=by
 rcases F with⟨e,_⟩|⟨l,t,rfl,p,f,s⟩
 ·grind
 ·refine⟨M2 n p f λu g=>?_,l,t,rfl,λx hx=>(DZ f.1 x hx).2⟩
  grind
def Pt(b:Ye):Prop:=b.length<=20/\b.Nodup/\∀q∈b,(1<=q.1/\q.1<=10/\1<=q.2/\q.2<=10)/\q.1≠q.2
open Own
noncomputable def exM(ps:Ye)(ns:Yf)(p:Nat):Int:=(ps.getD (ns.getD (p-1) 0-1).toNat (0,0)).2*(ps.getD (ns.getD p 0-1).toNat (0,0)).2
noncomputable def KA(ns:Yf)(p:Nat):Yf:=ns.take (p-1)++[ns.getD p 0,ns.getD (p-1) 0]++ns.drop (p+1)
def Aj{p}(n:1<=p)(g:p<ns.length):(KA ns p).Perm ns:=by
 unfold KA;have l:ns.getD p 0=ns[p]:=by grind
 have h:ns.getD (p-1) 0=ns[p-1]'(by lia):=by grind
 rw[l,h]
 have e:ns=ns.take (p-1)++[ns[p-1]'(by lia),ns[p]]++ns.drop (p+1):=by
  have b:ns.drop (p-1)=ns[p-1]'(by lia)::ns.drop (p-1+1):=Qu (by lia);have f:p-1+1=p:=by lia
  rw[f,(Qu g)]at b
  calc ns=ns.take (p-1)++ns.drop (p-1):=(VM _ _).symm
   _=_:=by rw[b];simp
 refine List.Perm.trans ?_ (List.Perm.of_eq e.symm);exact List.Perm.append_right _ (List.Perm.append_left _<|List.Perm.swap _ _ _)
def runI_mem:x∈Ka 1 n↔1<=x/\x<=n:=by
 unfold Ka;rw[WO];constructor
 ·grind
 ·intro h;exact⟨(x-1).toNat,Vl.mpr (by lia),by lia⟩
def Nf(n:Nat):(Ka 1 n).length=n:=by unfold Ka;rw[W9,Uc]
def Zlf{f:Type}(a b:List f)(x y:f):((a++x::y::b).set a.length y).set (a.length+1) x=a++y::x::b:=by simp
def Zh6{p:Nat}(q:1<=p)(l:p<ns.length):(ns.set (p-1) ns[p]).set p (ns[p-1]'(by lia))=KA ns p:=by
 have h:ns.drop (p-1)=ns[p-1]'(by lia)::ns.drop (p-1+1):=Qu (by lia);have g:p-1+1=p:=by lia
 rw[g,(Qu l)]at h;have e:ns=ns.take (p-1)++ns[p-1]'(by lia)::ns[p]::ns.drop (p+1):=by rw[←h,VM]
 have o:ns.getD p 0=ns[p]:=by rw[WE,WA l];rfl
 have n:ns.getD (p-1) 0=ns[p-1]'(by lia):=by rw[WE,WA (by lia)];rfl
 have f:(ns.take (p-1)).length=p-1:=by rw[WW];lia
 unfold KA;rw[o,n];generalize ns[p-1]'(by lia)=x at e;generalize ns[p]=y at e;generalize ns.take (p-1)=a at e f;generalize ns.drop (p+1)=b at e
 have:=Zlf a b x y
 rw[f,g,←e]at this;rw[this];simp
end M
namespace Pu
open PySem PySem.Spec PyProof.Rows L2 Own
inductive D where
 |int (i:Int)|bl (b:Bool)|non|str (x:Str)|ty (n:String)|tup (ds:List D)|lst (ds:List D)|scr (ns:Yf)|dK (kvs:List (Key×V))|dT (kvs:List (List Key×V))|loc (a:Addr) (d:D)|err (C:Addr)|ref (a:Addr)|ins (C:Addr) (xs:Ym) (ds:List D)|dF (kvs:List (List Key×V))|erM (C:Addr) (r:Yf)|fL (ns:Yf)
mutual
inductive Rp (K:Yd) (H:Hp):D->V->Prop
 |int (i:Int):Rp K H (.int i) (.int i)
 |bl (b:Bool):Rp K H (.bl b) (.bl b)
 |non:Rp K H .non .non
 |str (x:Str):Rp K H (.str x) (.str x)
 |ty (n:String):Rp K H (.ty n) (.ty n)
 |tup {ds:List D} {vs:List V} {a:Addr}:H a=some (.tup vs)->Rps K H ds vs->Rp K H (.tup ds) (.ref a)
 |lst {ds:List D} {vs:List V} {a:Addr}:H a=some (.lst vs)->Rps K H ds vs->Rp K H (.lst ds) (.ref a)
 |scr {ns:Yf} {a:Addr}:SqL K H a (ns.map V.int)->Rp K H (.scr ns) (.ref a)
 |dK {kvs:List (Key×V)} {a:Addr}:H a=some (.dK kvs)->Rp K H (.dK kvs) (.ref a)
 |dT {kvs:List (List Key×V)} {a:Addr}:H a=some (.dT kvs)->Rp K H (.dT kvs) (.ref a)
 |dF {kvs:List (List Key×V)} {o:Obj} {a:Addr}:H a=some (.frz o<|.dT kvs)->Rp K H (.dF kvs) (.ref a)
 |loc {d:D} {a:Addr}:Rp K H d (.ref a)->Rp K H (.loc a d) (.ref a)
 |err {C a:Addr}:H a=some (ExcR.Zm3 a C)->Rp K H (.err C) (.ref a)
 |ref (a:Addr):Rp K H (.ref a) (.ref a)
 |erM {C a dx l:Addr} {o:Obj} {r:Yf}:H a=some (ExcR.To a C<|some dx)->H dx=some (.xd [("members",.ref l)])->H l=some (.frz o<|.lst<|r.map V.int)->Rp K H (.erM C r) (.ref a)
 |fL {a:Addr} {o:Obj} {ns:Yf}:H a=some (.frz o<|.lst<|ns.map V.int)->Rp K H (.fL ns) (.ref a)
 |ins {C a dx:Addr} {xs:Ym} {ds:List D} {vs:List V}:H a=some (.ins C dx<|xs.zip vs)->xs.length=vs.length->Rps K H ds vs->Rp K H (.ins C xs ds) (.ref a)
inductive Rps (K:Yd) (H:Hp):List D->List V->Prop
 |nil:Rps K H [] []
 |cons {d:D} {v:V} {ds:List D} {vs:List V}:Rp K H d v->Rps K H ds vs->Rps K H (d::ds) (v::vs)
end
section
variable {K:Yd}{H H':Hp}
def Rp.mono (S:Same H H') {d:D}{v:V}:Rp K H d v->Rp K H' d v:=
 Rp.rec (motive_1:=λd v _=>Rp K H' d v) (motive_2:=λg f _=>Rps K H' g f) .int .bl .non .str .ty (λh _ r=>.tup (S _ _ h) r) (λh _ r=>.lst (S _ _ h) r) (λh=>.scr (S.seq h)) (λh=>.dK (S _ _ h)) (λh=>.dT (S _ _ h)) (λh=>.dF (S _ _ h)) (λ_ h=>.loc h) (λh=>.err (S _ _ h)) .ref (λa b c=>.erM (S _ _ a) (S _ _ b) (S _ _ c)) (λh=>.fL (S _ _ h)) (λh e _ r=>.ins (S _ _ h) e r) .nil λ_ _=>.cons
def Rps.mono (S:Same H H') {ds:List D}:∀{vs:List V},Rps K H ds vs->Rps K H' ds vs:=by
 induction ds with
 |nil=>intro _ h;cases h;exact .nil
 |cons _ _ f=>intro _ h;cases h with|cons a b=>exact .cons (Rp.mono S a) (f b)
def Rps.len:∀{ds}{vs:List V},Rps K H ds vs->vs.length=ds.length:=by
 intro ds
 induction ds with
 |nil=>
  intro _ h;cases h
  rfl
 |cons _ _ b=>
  intro _ h;cases h with
  |cons h r=>
   exact Qs (· + 1) (b r)
def Rps.get:∀{ds vs}{i:Nat}{d:D},Rps K H ds vs->ds[i]?=some d->∃v,vs[i]?=some v/\Rp K H d v:=by
 intro ds
 induction ds with
 |nil=>
  intro _ i _ h e;simp at e
 |cons _ _ b=>
  intro _ i d h e;cases h with
  |cons h r=>
   cases i with
   |zero=>
    simp at e;subst e;exact⟨_,rfl,h⟩
   |succ i=>
    obtain⟨v,g,f⟩:=b r (by simpa using e);exact⟨v,by simpa using g,f⟩
def Rps.append:∀{ds es}{vs us:List V},Rps K H ds vs->Rps K H es us->Rps K H (ds++es) (vs++us):=by
 intro ds
 induction ds with
 |nil=>
  intro _ _ _ h s;cases h
  exact s
 |cons _ _ b=>
  intro _ _ _ h s;cases h with
  |cons h r=>
   exact .cons h (b r s)
theorem Rps.drop:∀{ds vs} n,Rps K H ds vs->Rps K H (ds.drop n) (vs.drop n)
 |_,_,0,r=>r
 |_,_,_+1,.nil=>.nil
 |_,_,n+1,.cons _ r=>Rps.drop n r
theorem Rps.take:∀{ds vs} n,Rps K H ds vs->Rps K H (ds.take n) (vs.take n)
 |_,_,0,_|_,_,_+1,.nil=>.nil
 |_,_,n+1,.cons h r=>.cons h (Rps.take n r)
end
mutual
noncomputable def imm:D->Bool
 | .tup b=>KI b
 | .lst _=>false
 | .scr _=>false
 | .dK _=>false
 | .dT _=>false
 | .loc _ _=>false
 | .err _=>false
 | .erM _ _=>false
 | .ins _ _ _=>false
 |_=>true
noncomputable def KI:List D->Bool
 |[]=>true
 |d::r=>imm d&&KI r
end
open Classical in
noncomputable def off(Z:Addr->Prop)(H:Hp):Hp:=λb=>if Z b then none else H b
section
variable {K:Yd}{H H':Hp}{Z Z':Addr->Prop}
def T6(h:off Z H b=some o):H b=some o/\¬Z b:=by
 unfold off at h;by_cases z:Z b
 ·grind
 ·grind
def Kz(h:H b=some o)(z:¬Z b):off Z H b=some o:=by
 unfold off
 grind
def XY(S:Same H H')(g:∀b o,H b=some o->¬Z b->¬Z' b):Same (off Z H) (off Z' H'):=λb o h=>by
 obtain⟨f,l⟩:=T6 h;exact Kz (S b o f) (g b o f l)
def off_sub:Same (off Z H) H:=λ_ _ h=>(T6 h).1
def Rp.off (q:∀b,Z b->Mut (H b)) {d:D}{v:V}:Rp K H d v->imm d=true->Rp K (off Z H) d v:=by
 have g:∀{a o},H a=some o->¬Mut (some o)->Pu.off Z H a=some o:=λh n=>Kz h λz=>n (h▸q _ z);have f:∀{d} {P:Prop},imm d=false->imm d=true->P:=λh e=>by rw[h]at e;cases e
 exact Rp.rec (motive_1:=λd v _=>imm d=true->Rp K (Pu.off Z H) d v) (motive_2:=λl p _=>KI l=true->Rps K (Pu.off Z H) l p) (λi _=>.int i) (λb _=>.bl b) (λ_=>.non) (λx _=>.str x) (λn _=>.ty n) (λh _ r e=>.tup (g h id) (r<|by unfold imm at e;exact e)) (λ_ _ _=>f (by unfold imm;rfl)) (λ_=>f (by unfold imm;rfl)) (λ_=>f (by unfold imm;rfl)) (λ_=>f (by unfold imm;rfl)) (λh _=>.dF (g h id)) (λ_ _=>f (by unfold imm;rfl)) (λ_=>f (by unfold imm;rfl)) (λa _=>.ref a) (λ_ _ _=>f (by unfold imm;rfl)) (λh _=>.fL (g h id)) (λ_ _ _ _=>f (by unfold imm;rfl)) (λ_=>.nil) (λ_ _ a b e=>by
  unfold KI at e;rw[Qb]at e;exact .cons (a e.1) (b e.2))
def Rps.off (g:∀b,Z b->Mut (H b)) {ds:List D}:∀{vs:List V},Rps K H ds vs->KI ds=true->Rps K (off Z H) ds vs:=by
 induction ds with
 |nil=>intro _ h _;cases h;exact .nil
 |cons _ _ f=>
  intro _ h e;unfold KI at e;rw[Qb]at e;cases h with|cons a b=>exact .cons (Rp.off g a e.1) (f b e.2)
end
inductive O where
 |lst (ds:List D)|dK (kvs:List (Key×V))|dT (kvs:List (List Key×V))|ins (a C:Addr) (xs:Ym) (cs:List (Addr×List D))|lsA (a:Addr) (ds:List D)|nst (cs:List (Addr×List D))|nsl (a:Addr) (cs:List (Addr×List D))
instance:Coe (List D) O:=⟨O.lst⟩
noncomputable def O.d:O->D
 | .lst g=>.lst g | .dK b=>.dK b | .dT b=>.dT b | .ins _ C xs f=>.ins C xs (f.map λc=>.lst c.2) | .lsA _ g=>.lst g | .nst f=>.tup (f.map λc=>.lst c.2) | .nsl _ f=>.lst (f.map λc=>.lst c.2)
def O.adr (a:Addr):O->Addr->Prop
 | .lst _=>λb=>b=a
 | .dK _=>λb=>b=a
 | .dT _=>λb=>b=a
 | .ins x _ _ f=>λb=>b=x\/∃c∈f,b=c.1
 | .lsA x _=>λb=>b=x
 | .nst f=>λb=>∃c∈f,b=c.1
 | .nsl x f=>λb=>b=x\/∃c∈f,b=c.1
def OR(K:Yd)(F H:Hp)(a:Addr):O->Prop
 | .lst h=>∃b,H a=some (.lst b)/\Rps K F h b
 | .dK g=>H a=some (.dK g)
 | .dT g=>H a=some (.dT g)
 | .lsA x h=>a=x/\∃b,H a=some (.lst b)/\Rps K F h b
 | .ins x C xs f=>a=x/\xs.length=f.length/\(∃l,H a=some (.ins C l<|xs.zip (f.map λc=>V.ref c.1)))/\(∀c∈f,∃b,H c.1=some (.lst b)/\Rps K F c.2 b)/\(f.map (·.1)).Nodup
 | .nsl x f=>a=x/\H a=some (.lst (f.map λc=>V.ref c.1))/\(∀c∈f,∃b,H c.1=some (.lst b)/\Rps K F c.2 b)/\(x::f.map (·.1)).Nodup
 | .nst f=>F a=some (.tup (f.map λc=>V.ref c.1))/\(∀c∈f,∃b,H c.1=some (.lst b)/\Rps K F c.2 b)/\(f.map (·.1)).Nodup
def OR.mono {K F y H H'}{a o} (r:Same F y) (q:∀b,o.adr a b->∀x,H b=some x->H' b=some x) (h:OR K F H a o):OR K y H' a o:=by
 cases o with
 |lst A=>obtain⟨f,n,g⟩:=h;exact⟨f,q _ rfl _ n,Rps.mono r g⟩
 |lsA x A=>obtain⟨rfl,f,n,g⟩:=h;exact⟨rfl,f,q _ rfl _ n,Rps.mono r g⟩
 |nsl x w=>
  obtain⟨e,n,g,v⟩:=h;exact⟨e,q _ (.inl e) _ n,λc p=>let ⟨f,u,s⟩:=g c p;⟨f,q _ (.inr ⟨c,p,rfl⟩) _ u,Rps.mono r s⟩,v⟩
 |nst w=>
  obtain⟨n,g,v⟩:=h;exact⟨r _ _ n,λc p=>let ⟨f,u,s⟩:=g c p;⟨f,q _ ⟨c,p,rfl⟩ _ u,Rps.mono r s⟩,v⟩
 |ins x C xs w=>
  obtain⟨e,l,⟨z,n⟩,g,v⟩:=h;exact⟨e,l,⟨z,q _ (.inl e) _ n⟩,λc p=>let ⟨f,u,s⟩:=g c p;⟨f,q _ (.inr ⟨c,p,rfl⟩) _ u,Rps.mono r s⟩,v⟩
 |_=>exact q _ rfl _ h
theorem Nz{K F}:∀{b:List (Addr×List D)},(∀c∈b,∃vs,F c.1=some (.lst vs)/\Rps K F c.2 vs)->Rps K F (b.map λc=>.lst c.2) (b.map λc=>V.ref c.1)
 |[],_=>.nil
 |c::b,h=>let ⟨_,g,f⟩:=h c Qh;.cons (.lst g f) (Nz λn l=>h n (WV _ l))
def OR.rpIn {K F w H a o} (r:Same F w) (n:∀b,o.adr a b->∀x,H b=some x->w b=some x) (h:OR K F H a o):Rp K w o.d (.ref a):=by
 cases o with
 |lst A=>obtain⟨q,g,f⟩:=h;exact .lst (n _ rfl _ g) (Rps.mono r f)
 |dK v=>exact .dK (n _ rfl _ h)
 |dT v=>exact .dT (n _ rfl _ h)
 |lsA x A=>obtain⟨rfl,q,g,f⟩:=h;exact .lst (n _ rfl _ g) (Rps.mono r f)
 |nsl x z=>
  obtain⟨e,g,f,y⟩:=h;exact .lst (n _ (.inl e) _ g) (Nz λc p=>let ⟨q,u,s⟩:=f c p;⟨q,n _ (.inr ⟨c,p,rfl⟩) _ u,Rps.mono r s⟩)
 |nst z=>
  obtain⟨g,f,y⟩:=h;exact .tup (r _ _ g) (Nz λc p=>let ⟨q,u,s⟩:=f c p;⟨q,n _ ⟨c,p,rfl⟩ _ u,Rps.mono r s⟩)
 |ins x C xs z=>
  obtain⟨e,l,⟨B,g⟩,f,y⟩:=h;exact .ins (n _ (.inl e) _ g) (by grind) (Nz λc p=>let ⟨q,u,s⟩:=f c p;⟨q,n _ (.inr ⟨c,p,rfl⟩) _ u,Rps.mono r s⟩)
def OR.rp {K F H a o} (b:Same F H) (h:OR K F H a o):Rp K H o.d (.ref a):=h.rpIn b λ_ _ _ e=>e
def OR.mut {K F H a o} (h:OR K F H a o):∀b,o.adr a b->Mut (H b):=by
 cases o with
 |lst w=>obtain⟨s,g,p⟩:=h;intro b e;rw[show b=a from e,g];trivial
 |dK n=>intro b e;rw[show b=a from e,show H a=some (.dK n)from h];trivial
 |dT n=>intro b e;rw[show b=a from e,show H a=some (.dT n)from h];trivial
 |lsA x w=>obtain⟨rfl,s,g,p⟩:=h;intro b e;rw[show b=a from e,g];trivial
 |nsl x v=>
  obtain⟨e,g,p,u⟩:=h;intro b f;rcases f with f|⟨c,r,f⟩
  ·rw[show b=a from f.trans e.symm,g];trivial
  ·obtain⟨s,q,_⟩:=p c r;rw[f,q];trivial
 |nst v=>
  obtain⟨g,p,u⟩:=h;rintro b ⟨c,r,f⟩;obtain⟨s,q,_⟩:=p c r;rw[f,q];trivial
 |ins x C xs v=>
  obtain⟨e,l,⟨y,g⟩,p,u⟩:=h;intro b f;rcases f with f|⟨c,r,f⟩
  ·rw[show b=a from f.trans e.symm,g];trivial
  ·obtain⟨s,q,_⟩:=p c r;rw[f,q];trivial
inductive S where
 |bor (d:D)|sh (d:D)|own (o:O)|view (o:O)|tmp (d:D)
abbrev Γ:=List (Option S)
noncomputable def D.strip:D->D
 | .loc _ d=>d|d=>d
def Rp.strip {K H d v} (h:Rp K H d v):Rp K H d.strip v:=by
 cases h with
 |loc h=>exact h
 |int i=>exact .int i
 |bl b=>exact .bl b
 |non=>exact .non
 |str x=>exact .str x
 |ty n=>exact .ty n
 |tup h r=>exact .tup h r
 |lst h r=>exact .lst h r
 |scr h=>exact .scr h
 |dK h=>exact .dK h
 |dT h=>exact .dT h
 |dF h=>exact .dF h
 |err h=>exact .err h
 |ref a=>exact .ref a
 |erM l g f=>exact .erM l g f
 |fL h=>exact .fL h
 |ins h e r=>exact .ins h e r
noncomputable def S.d:S->D
 | .bor d=>d.strip | .sh d=>d | .own o=>o.d | .view o=>o.d | .tmp d=>d
noncomputable def arg(d:D):S:=match imm d with|true=>.sh d|false=>.bor d
noncomputable def KJ(d:D):S:=match imm d with|true=>.sh d|false=>.tmp d
noncomputable def S.sub:S->D->S
 | .bor _,e=>arg e | .tmp _,e=>KJ e | .own (.nst _),e=>KJ e | .view (.nst _),e=>KJ e | .own (.nsl _ _),e=>KJ e | .view (.nsl _ _),e=>KJ e|_,e=>.sh e
noncomputable def S.shd:S->Option D
 | .sh d=>some d | .own o=>some o.d
 | .bor d=>match imm d with|true=>some d|false=>none
 | .tmp d=>match imm d with|true=>some d|false=>none
 | .view _=>none
noncomputable def S.slot:S->Option S
 | .view _=>none | .bor d=>some (.bor d) | .sh d=>some (.sh d) | .own b=>some (.own b)
 | .tmp d=>match imm d with|true=>some (.sh d)|false=>none
def ID(h:Γ)(g:L2.St)(b:Addr):Prop:=∃(i:Nat) (f:O) (a:Addr),h[i]?=some (some<|.own f)/\g[i]?=some (some<|.ref a)/\f.adr a b
def zof(B:Addr->Prop)(g:Γ)(f:L2.St):Addr->Prop:=λb=>B b\/ID g f b
def SV(K:Yd)(Z:Addr->Prop)(f H:Hp):S->V->Prop
 | .bor d,v=>Rp K f d v
 | .sh d,v=>Rp K (off Z H) d v
 | .own o,v=>∃a,v=.ref a/\(∀b,o.adr a b->f b=none)/\OR K (off Z H) H a o
 |_,_=>False
def TV(K:Yd)(Z:Addr->Prop)(f H H':Hp):S->V->Prop
 | .bor d,v=>Rp K f d v
 | .sh d,v=>Rp K (off Z H') d v
 | .own o,v=>∃a,v=.ref a/\(∀b,o.adr a b->H b=none)/\OR K (off (λb=>Z b\/o.adr a b) H') H' a o
 | .view o,v=>∃a,v=.ref a/\OR K (off Z H') H' a o
 | .tmp d,v=>Rp K H' d v
structure XN (K:Yd) (H0:Hp) (B:Addr->Prop) (H:Hp) (σ:L2.St) (γ:Γ):Prop where
 same:Same H0 H
 len:σ.length=γ.length
 bm:∀b,B b->Mut (H b)
 own:∀(i j:Nat) (a a':Addr) (ds es:O) (b:Addr),γ[i]?=some (some<|.own ds)->γ[j]?=some (some<|.own es)->σ[i]?=some (some<|.ref a)->σ[j]?=some (some<|.ref a')->ds.adr a b->es.adr a' b->i=j
 slot:∀(i:Nat) (s:S),γ[i]?=some (some s)->∃v,σ[i]?=some (some v)/\SV K (zof B γ σ) H0 H s v
section
variable {K:Yd}{H0 H H1 H':Hp}{B Z Z':Addr->Prop}{σ:L2.St}{γ:Γ}
def TK(S:Same H H'){b}(h:Mut (H b)):Mut (H' b):=by
 cases e:H b with
 |none=>rw[e]at h;exact h.elim
 |some o=>rw[S b o e,←e];exact h
def Bq(h:Mut (H b)):∃o,H b=some o:=by
 cases e:H b with
 |none=>rw[e]at h;exact h.elim
 |some o=>grind
def XN.grow (E:XN K H0 B H σ γ) (S:Same H H'):XN K H0 B H' σ γ where
 same:=E.same.trans S
 len:=E.len
 bm b h:=TK S (E.bm b h)
 own:=E.own
 slot i s h:=by
  obtain⟨v,h1,h2⟩:=E.slot i s h;refine⟨v,h1,?_⟩;cases s with
  |bor d=>trivial
  |sh d=>exact Rp.mono (XY S λ_ _ _ z=>z) h2
  |own ds=>
   obtain⟨a,e1,e3,e4⟩:=h2;exact⟨a,e1,e3,e4.mono (XY S λ_ _ _ z=>z) λb _ x=>S b x⟩
  |_=>exact h2
def XN.zm (E:XN K H0 B H σ γ):∀b,zof B γ σ b->Mut (H b):=λb h=>by
 rcases h with h|⟨i,r,x,n,l,g⟩
 ·exact E.bm b h
 ·obtain⟨v,f,a,p,q,o⟩:=E.slot i _ n;rw[l]at f;cases f
  cases p
  exact o.mut b g
def TV.rp (b:Same H0 H') (h:TV K Z H0 H H' s v):Rp K H' s.d v:=by
 cases s with
 |bor d=>exact(Rp.mono b h).strip
 |sh d=>exact Rp.mono off_sub h
 |own f=>
  obtain⟨a,rfl,_,r⟩:=h;exact r.rp off_sub
 |view f=>
  obtain⟨a,rfl,r⟩:=h;exact r.rp off_sub
 |tmp d=>exact h
def TV.grow (f:Same H' H1) (h:TV K Z H0 H H' s v):TV K Z H0 H H1 s v:=by
 cases s with
 |bor d=>exact h
 |sh d=>exact Rp.mono (XY f λ_ _ _ z=>z) h
 |own l=>
  obtain⟨a,rfl,g,r⟩:=h;exact⟨a,rfl,g,r.mono (XY f λ_ _ _ z=>z) λb _ x=>f b x⟩
 |view l=>
  obtain⟨a,rfl,r⟩:=h;exact⟨a,rfl,r.mono (XY f λ_ _ _ z=>z) λb _ x=>f b x⟩
 |tmp d=>exact Rp.mono f h
def TV.weak (o:Same H H1) (f:∀b,Z b->Z' b) (h:TV K Z' H0 H1 H' s v):TV K Z H0 H H' s v:=by
 cases s with
 |sh d=>exact Rp.mono (XY (Same.refl _) λb _ _ z y=>z (f b y)) h
 |own n=>
  obtain⟨a,rfl,l,r⟩:=h;exact⟨a,rfl,λb g=>o.free (l b g),r.mono (XY (Same.refl _) λb _ _ z y=>z (y.imp (f b) id)) λ_ _ _ q=>q⟩
 |view n=>
  obtain⟨a,rfl,r⟩:=h;exact⟨a,rfl,r.mono (XY (Same.refl _) λb _ _ z y=>z (f b y)) λ_ _ _ q=>q⟩
 |_=>exact h
def TV.shd (o:Same H0 H') (l:∀b,Z b->Mut (H b)) (w:Same H H') (h:TV K Z H0 H H' s v) (e:s.shd=some d):Rp K (off Z H') d v:=by
 have f:=λb z=>TK w (l b z);cases s with
 |bor g=>
  unfold S.shd at e;cases q:imm g with
  |false=>simp_all
  |true=>
   simp[q]at e;subst e;exact Rp.off f (Rp.mono o h) q
 |sh g=>cases e;exact h
 |own u=>
  cases e
  obtain⟨a,rfl,p,r⟩:=h;exact r.rpIn (XY (Same.refl _) λb _ _ z y=>z (.inl y)) λb n x e=>Kz e λz=>by have:=l _ z;rw[p b n]at this;exact this
 |view u=>cases e
 |tmp g=>
  unfold S.shd at e;cases q:imm g with
  |false=>simp[q]at e
  |true=>
   simp[q]at e;subst e;exact Rp.off f h q
def Ba(f:∀b,Z b->Mut (H' b))(g:Same H0 H')(h:Rp K H0 d v):TV K Z H0 H H' (arg d) v:=by
 unfold arg;cases q:imm d with
 |true=>exact Rp.off f (Rp.mono g h) q
 |false=>exact h
def T9(f:∀b,Z b->Mut (H' b))(h:Rp K H' d v):TV K Z H0 H H' (KJ d) v:=by
 unfold KJ;cases q:imm d with
 |true=>exact Rp.off f h q
 |false=>exact h
def Rp.lst_inv (h:Rp K H (.lst ds) v):∃a vs,v=.ref a/\H a=some (.lst vs)/\Rps K H ds vs:=by
 cases h with
 |lst h r=>grind
def Rp.tup_inv (h:Rp K H (.tup ds) v):∃a vs,v=.ref a/\H a=some (.tup vs)/\Rps K H ds vs:=by
 cases h with
 |tup h r=>grind
def TV.part (C:Same H0 H') (M:∀b,Z b->Mut (H b)) (N:Same H H') (h:TV K Z H0 H H' s v) :
  (∀ds,s.d=.lst ds->∃a vs,v=.ref a/\H' a=some (.lst vs)/\vs.length=ds.length/\∀(i:Nat) d,ds[i]?=some d->∃u,vs[i]?=some u/\TV K Z H0 H H' (s.sub d) u)/\
  (∀ds,s.d=.tup ds->∃a vs,v=.ref a/\H' a=some (.tup vs)/\vs.length=ds.length/\∀(i:Nat) d,ds[i]?=some d->∃u,vs[i]?=some u/\TV K Z H0 H H' (s.sub d) u):=by
 have l:=λb z=>TK N (M b z);cases s with
 |bor d=>
  have h:=Rp.strip h;refine⟨λds e=>?_,λds e=>?_⟩<;>rw[show d.strip=_ from e]at h
  ·obtain⟨a,vs,rfl,h,r⟩:=Rp.lst_inv h;exact⟨_,_,rfl,C _ _ h,r.len,λi d e=>let ⟨u,g,f⟩:=r.get e;⟨u,g,Ba l C f⟩⟩
  ·obtain⟨a,vs,rfl,h,r⟩:=Rp.tup_inv h;exact⟨_,_,rfl,C _ _ h,r.len,λi d e=>let ⟨u,g,f⟩:=r.get e;⟨u,g,Ba l C f⟩⟩
 |sh d=>
  refine⟨λds e=>?_,λds e=>?_⟩<;>(have J:=e;subst J)
  ·obtain⟨a,vs,rfl,h,r⟩:=Rp.lst_inv h;exact⟨_,_,rfl,off_sub _ _ h,r.len,λi d e=>r.get e⟩
  ·obtain⟨a,vs,rfl,h,r⟩:=Rp.tup_inv h;exact⟨_,_,rfl,off_sub _ _ h,r.len,λi d e=>r.get e⟩
 |own q=>
  cases q with
  |lst q=>
   refine⟨λds e=>?_,λds e=>by cases e⟩;cases e
   obtain⟨a,rfl,G,vs,e,r⟩:=h;exact⟨a,vs,rfl,e,r.len,λi d e=>let ⟨u,g,f⟩:=r.get e;⟨u,g,Rp.mono (XY (Same.refl _) λb _ _ z y=>z (.inl y)) f⟩⟩
  |lsA x q=>
   refine⟨λds e=>?_,λds e=>by cases e⟩;cases e
   obtain⟨a,rfl,G,_,vs,e,r⟩:=h;exact⟨a,vs,rfl,e,r.len,λi d e=>let ⟨u,g,f⟩:=r.get e;⟨u,g,Rp.mono (XY (Same.refl _) λb _ _ z y=>z (.inl y)) f⟩⟩
  |nsl x L=>
   refine⟨λds e=>?_,λds e=>by cases e⟩;cases e
   obtain⟨a,rfl,G,_,A,w,E⟩:=h;have r:=Nz λc p=>let ⟨vs,o,n⟩:=w c p;⟨vs,o,Rps.mono off_sub n⟩;exact⟨a,_,rfl,A,r.len,λi d e=>let ⟨u,g,f⟩:=r.get e;⟨u,g,T9 l f⟩⟩
  |nst L=>
   refine⟨(λds e=>by cases e),λds e=>?_⟩;cases e
   obtain⟨a,rfl,G,A,w,E⟩:=h;have r:=Nz λc p=>let ⟨vs,o,n⟩:=w c p;⟨vs,o,Rps.mono off_sub n⟩;exact⟨a,_,rfl,off_sub _ _ A,r.len,λi d e=>let ⟨u,g,f⟩:=r.get e;⟨u,g,T9 l f⟩⟩
  |_=>exact⟨(λds e=>by cases e),(λds e=>by cases e)⟩
 |view q=>
  cases q with
  |lst q=>
   refine⟨λds e=>?_,λds e=>by cases e⟩;cases e
   obtain⟨a,rfl,vs,e,r⟩:=h;exact⟨a,vs,rfl,e,r.len,λi d e=>r.get e⟩
  |lsA x q=>
   refine⟨λds e=>?_,λds e=>by cases e⟩;cases e
   obtain⟨a,rfl,_,vs,e,r⟩:=h;exact⟨a,vs,rfl,e,r.len,λi d e=>r.get e⟩
  |nsl x L=>
   refine⟨λds e=>?_,λds e=>by cases e⟩;cases e
   obtain⟨a,rfl,_,A,w,E⟩:=h;have r:=Nz λc p=>let ⟨vs,o,n⟩:=w c p;⟨vs,o,Rps.mono off_sub n⟩;exact⟨a,_,rfl,A,r.len,λi d e=>let ⟨u,g,f⟩:=r.get e;⟨u,g,T9 l f⟩⟩
  |nst L=>
   refine⟨(λds e=>by cases e),λds e=>?_⟩;cases e
   obtain⟨a,rfl,A,w,E⟩:=h;have r:=Nz λc p=>let ⟨vs,o,n⟩:=w c p;⟨vs,o,Rps.mono off_sub n⟩;exact⟨a,_,rfl,off_sub _ _ A,r.len,λi d e=>let ⟨u,g,f⟩:=r.get e;⟨u,g,T9 l f⟩⟩
  |_=>exact⟨(λds e=>by cases e),(λds e=>by cases e)⟩
 |tmp d=>
  refine⟨λds e=>?_,λds e=>?_⟩<;>(have J:=e;subst J)
  ·obtain⟨a,vs,rfl,h,r⟩:=Rp.lst_inv h;exact⟨_,_,rfl,h,r.len,λi d e=>let ⟨u,g,f⟩:=r.get e;⟨u,g,T9 l f⟩⟩
  ·obtain⟨a,vs,rfl,h,r⟩:=Rp.tup_inv h;exact⟨_,_,rfl,h,r.len,λi d e=>let ⟨u,g,f⟩:=r.get e;⟨u,g,T9 l f⟩⟩
def Fr(B:Addr->Prop)(H:Hp)(σ:L2.St)(γ:Γ)(H':Hp)(f:L2.St)(g:Γ):Prop:=∀b o,H b=some o->¬zof B γ σ b->H' b=some o/\¬zof B g f b
def Fr.refl:Fr B H σ γ H σ γ:=λ_ _ h z=>⟨h,z⟩
def Fr.trans {H1 p g f n l} (a:Fr B H σ γ H1 g n) (b:Fr B H1 g n p f l):Fr B H σ γ p f l:=λx o h z=>let ⟨r,q⟩:=a x o h z;b x o r q
def Fr.grow (b:Same H H'):Fr B H σ γ H' σ γ:=λ_ _ h z=>⟨b _ _ h,z⟩
def Fr.off {H'}{σ'}{γ'} (f:Fr B H σ γ H' σ' γ'):Same (off (zof B γ σ) H) (Pu.off (zof B γ' σ') H'):=λb o h=>by
 obtain⟨p,n⟩:=T6 h;obtain⟨l,g⟩:=f b o p n;exact Kz l g
def Ky{b:Type}{l:List b}{i j}{x y}(h:(l.set i x)[j]?=some y):(j=i/\x=y/\i<l.length)\/(j≠i/\l[j]?=some y):=by grind
def F8{b:Type}{l:List b}{i}{x}(h:i<l.length):(l.set i x)[i]?=some x:=by grind
def PR{b:Type}{l:List b}{i j}{x}(h:j≠i):(l.set i x)[j]?=l[j]?:=by grind
def XN.drop (E:XN K H0 B H σ γ) (i:Nat):XN K H0 B H σ (γ.set i none)/\Fr B H σ γ H σ (γ.set i none):=by
 have p:∀b,zof B (γ.set i none) σ b->zof B γ σ b:=λb z=>z.imp id λ⟨j,l,a,g,f,u⟩=>by
  rcases Ky g with⟨_,e,_⟩|⟨_,e⟩
  ·grind
  ·exact⟨j,l,a,e,f,u⟩
 refine⟨⟨E.same,by rw[QN];exact E.len,E.bm,λk j a G l w b g f=>?_,λk s h=>?_⟩,λb o h z=>⟨h,λy=>z (p b y)⟩⟩
 ·rcases Ky g with⟨_,e,_⟩|⟨_,n⟩
  ·cases e
  ·rcases Ky f with⟨_,e,_⟩|⟨_,C⟩
   ·cases e
   ·exact E.own k j a G l w b n C
 ·rcases Ky h with⟨_,e,_⟩|⟨_,e⟩
  ·cases e
  ·obtain⟨v,g,f⟩:=E.slot k s e;refine⟨v,g,?_⟩;have r:Same (Pu.off (zof B γ σ) H) (Pu.off (zof B (γ.set i none) σ) H):=XY (Same.refl _) λb _ _ z y=>z (p b y);cases s with
   |sh d=>exact Rp.mono r f
   |own l=>
    obtain⟨a,n,A,x⟩:=f;exact⟨a,n,A,x.mono r λ_ _ _ q=>q⟩
   |_=>exact f
def XN.put {s L}{v} (E:XN K H0 B H σ γ) (S1:Same H H') (h:TV K (zof B γ σ) H0 H H' s v) (e:s.slot=some L) (hi:i<γ.length) :
  XN K H0 B H' (σ.set i<|some v) (γ.set i<|some L)/\Fr B H σ γ H' (σ.set i<|some v) (γ.set i<|some L):=by
 have n:i<σ.length:=by rw[E.len];exact hi
 have E':=E.grow S1
 have isown:∀f,L=.own f->s=.own f:=λf q=>by
  subst q;cases s with
  |own J=>cases e;rfl
  |tmp d=>unfold S.slot at e;cases q:imm d<;>simp[q]at e
  |_=>cases e
 have l:∀b,zof B (γ.set i<|some L) (σ.set i<|some v) b->zof B γ σ b\/∃f a,s=.own f/\v=.ref a/\f.adr a b:=λb z=>by
  rcases z with z|⟨j,f,a,h1,G,A⟩
  ·exact .inl (.inl z)
  ·rcases Ky h1 with⟨Y,g,_⟩|⟨T,g⟩
   ·subst Y;rw[F8 n]at G
    have:=WT g
    exact .inr ⟨f,a,isown f this,WT (WT G),A⟩
   ·rw[PR T]at G;exact .inl (.inr ⟨j,f,a,g,G,A⟩)
 have fresh:∀f a b,s=.own f->v=.ref a->f.adr a b->H b=none:=λf a b J ev p=>by
  subst J;obtain⟨a',g,e0,_⟩:=h;rw[ev]at g;cases g
  exact e0 b p
 have hz:∀b o,H b=some o->¬zof B γ σ b->¬zof B (γ.set i<|some L) (σ.set i<|some v) b:=λb o p z y=>by
  rcases l b y with y|⟨f,a,y1,y2,y3⟩
  ·exact z y
  ·rw[fresh f a b y1 y2 y3]at p;cases p
 have So:=XY S1 hz;refine⟨⟨E'.same,by rw[QN,QN];exact E.len,E'.bm,λk j a a' f J b h1 G A M h5 h6=>?_,λk u hk=>?_⟩,λb o p z=>⟨S1 b o p,hz b o p z⟩⟩
 ·have Q:∀(k:Nat) f a b,γ[k]?=some (some<|.own f)->σ[k]?=some (some<|.ref a)->f.adr a b->∃o,H b=some o:=λk f a b g C e3=>by
   obtain⟨u,q1,a',N,_,q3⟩:=E.slot k _ g;rw[C]at q1;cases q1
   cases N
   exact Bq (q3.mut b e3)
  rcases Ky h1 with⟨ek,g,_⟩|⟨nk,g⟩
  ·rcases Ky G with⟨Y,C,_⟩|⟨T,C⟩
   ·rw[ek,Y]
   ·subst ek;rw[F8 n]at A;rw[PR T]at M;obtain⟨o,U⟩:=Q j J a' b C M h6;rw[fresh f a b (isown f<|WT g) (WT<|WT A) h5]at U;cases U
  ·rcases Ky G with⟨Y,C,_⟩|⟨T,C⟩
   ·subst Y;rw[F8 n]at M;rw[PR nk]at A;obtain⟨o,U⟩:=Q k f a b g A h5;rw[fresh J a' b (isown J<|WT C) (WT<|WT M) h6]at U;cases U
   ·rw[PR nk]at A;rw[PR T]at M;exact E.own k j a a' f J b g C A M h5 h6
 ·rcases Ky hk with⟨ek,g,_⟩|⟨nk,g⟩
  ·subst ek
   have:=(WT g).symm
   subst this;refine⟨v,F8 n,?_⟩;cases s with
   |own f=>
    cases e
    obtain⟨a,rfl,e0,r⟩:=h;refine⟨a,rfl,λb p=>E.same.free (e0 b p),r.mono (XY (Same.refl _) λb o _ z y=>?_) λ_ _ _ q=>q⟩;rcases l b y with y|⟨_,_,y1,y,y2⟩
    ·exact z (.inl y)
    ·cases y;cases y1;exact z (.inr y2)
   |sh d=>
    cases e
    refine Rp.mono (XY (Same.refl _) λb o _ z y=>?_) h;rcases l b y with y|⟨_,_,y,_⟩
    ·exact z y
    ·cases y
   |bor d=>cases e;exact h
   |view d=>cases e
   |tmp d=>
    unfold S.slot at e;cases q:imm d with
    |false=>simp[q]at e
    |true=>
     simp[q]at e;subst e;refine Rp.off (λb y=>?_) h q;rcases l b y with y|⟨_,_,y,_⟩
     ·exact TK S1 (E.zm b y)
     ·cases y
  ·obtain⟨w,q1,N⟩:=E.slot k u g;refine⟨w,by rw[PR nk];exact q1,?_⟩;cases u with
   |sh d=>exact Rp.mono So N
   |own f=>
    obtain⟨a,g,e3,e4⟩:=N;exact⟨a,g,e3,e4.mono So λb _ x=>S1 b x⟩
   |_=>exact N
noncomputable def frz(i:Nat)(γ:Γ):Γ:=match γ[i]? with
 |some (some<|.own o)=>γ.set i (some<|.sh o.d)
 |_=>γ
def XN.frz (E:XN K H0 B H σ γ) (hB:∀b,B b->∃o,H0 b=some o) (i:Nat):XN K H0 B H σ (frz i γ)/\Fr B H σ γ H σ (Pu.frz i γ):=by
 unfold Pu.frz;split
 ·rename_i p J
  have G:∀b,zof B (γ.set i<|some<|.sh p.d) σ b->zof B γ σ b:=λb z=>z.imp id λ⟨j,l,a,g,f,L⟩=>by
   rcases Ky g with⟨_,e,_⟩|⟨_,e⟩
   ·cases e
   ·exact⟨j,l,a,e,f,L⟩
  have C:Same (Pu.off (zof B γ σ) H) (Pu.off (zof B (γ.set i<|some<|.sh p.d) σ) H):=XY (Same.refl _) λb _ _ z y=>z (G b y);refine⟨⟨E.same,by rw[QN];exact E.len,E.bm,λk j a A l r b g f=>?_,λk s h=>?_⟩,λb o h z=>⟨h,λy=>z (G b y)⟩⟩
  ·rcases Ky g with⟨_,e,_⟩|⟨_,n⟩
   ·cases e
   ·rcases Ky f with⟨_,e,_⟩|⟨_,w⟩
    ·cases e
    ·exact E.own k j a A l r b n w
  ·rcases Ky h with⟨T,e,_⟩|⟨Y,e⟩
   ·subst T
    have:=WT e
    subst this;obtain⟨v,g,a,rfl,L,Q⟩:=E.slot k _ J;refine⟨_,g,Q.rpIn C λb N x f=>Kz f λz=>?_⟩;rcases z with z|⟨j,l,A,n,w,u⟩
    ·grind
    ·rcases Ky n with⟨_,q,_⟩|⟨M,q⟩
     ·cases q
     ·exact M (E.own j k A a l p b q J w g u N)
   ·obtain⟨v,g,f⟩:=E.slot k s e;refine⟨v,g,?_⟩;cases s with
    |sh d=>exact Rp.mono C f
    |own p=>
     obtain⟨a,n,u,U⟩:=f;exact⟨a,n,u,U.mono C λ_ _ _ q=>q⟩
    |_=>exact f
 ·exact⟨E,Fr.refl⟩
def XN.change {o o'} (E:XN K H0 B H σ γ) (M:γ[i]?=some (some<|.own o)) (A:σ[i]?=some (some<|.ref a))
  (N:∀b x,H b=some x->¬o.adr a b->H' b=some x) (hm:∀b,o.adr a b->Mut (H' b)) (l:∀b,o'.adr a b->o.adr a b\/H b=none) (r:OR K (Pu.off (zof B (γ.set i<|some<|.own o') σ) H') H' a o') :
  XN K H0 B H' σ (γ.set i<|some<|.own o')/\Fr B H σ γ H' σ (γ.set i<|some<|.own o'):=by
 obtain⟨v,h1,a',rfl,h3,h4⟩:=E.slot i _ M;rw[A]at h1;cases h1
 have za:∀b,o.adr a b->zof B γ σ b:=λb C=>.inr ⟨i,o,a,M,A,C⟩
 have hz:∀b x,H b=some x->zof B (γ.set i<|some<|.own o') σ b->zof B γ σ b:=λb x hx z=>by
  rcases z with z|⟨j,fs,a',U,p,n⟩
  ·exact .inl z
  ·rcases Ky U with⟨T,q,_⟩|⟨_,e⟩
   ·subst T;cases q
    rw[A]at p;cases p
    rcases l b n with k|k
    ·exact za b k
    ·rw[k]at hx;cases hx
   ·exact .inr ⟨j,fs,a',e,p,n⟩
 have S1:=λb x h=>by
  obtain⟨g,f⟩:=T6 h;exact Kz (N b x g λk=>f (za b k)) λz=>f (hz b x g z)
 have J:∀(k:Nat) ds a b,γ[k]?=some (some<|.own ds)->σ[k]?=some (some<|.ref a)->ds.adr a b->∃o,H b=some o:=λk ds a b U p n=>by
  obtain⟨u,g,a',f,_,q3⟩:=E.slot k _ U;rw[p]at g;cases g
  cases f
  exact Bq (q3.mut b n)
 refine⟨⟨λb x h=>?_,by rw[QN];exact E.len,λb C=>?_,λk j x x' fs Q b U p n G e5 e6=>?_,λk s h=>?_⟩,λb x h z=>⟨?_,λy=>z (hz b x h y)⟩⟩
 ·exact N b x (E.same b x h) λk=>by rw[h3 b k]at h;cases h
 ·by_cases k:o.adr a b
  ·exact hm b k
  ·have:=E.bm b C
   obtain⟨x,hx⟩:=Bq this;rwa[N b x hx k,←hx]
 ·rcases Ky U with⟨Y,g,_⟩|⟨nk,g⟩
  ·rcases Ky p with⟨T,_,_⟩|⟨nj,f⟩
   ·rw[Y,T]
   ·subst Y;cases g
    rw[A]at n;cases n
    rcases l b e5 with w|w
    ·exact E.own k j _ _ _ _ b M f A G w e6
    ·obtain⟨u,L⟩:=J j Q x' b f G e6;rw[w]at L;cases L
  ·rcases Ky p with⟨T,f,_⟩|⟨nj,f⟩
   ·subst T;cases f
    rw[A]at G;cases G
    rcases l b e6 with w|w
    ·exact E.own k j _ _ _ _ b g M n A e5 w
    ·obtain⟨u,L⟩:=J k fs x b g n e5;rw[w]at L;cases L
   ·exact E.own k j x x' fs Q b g f n G e5 e6
 ·rcases Ky h with⟨Y,e,_⟩|⟨nk,e⟩
  ·subst Y
   have:=WT e
   subst this;exact⟨_,A,a,rfl,λb C=>(l b C).elim (h3 b) λw=>E.same.free w,r⟩
  ·obtain⟨v,g,f⟩:=E.slot k s e;refine⟨v,g,?_⟩;cases s with
   |sh d=>exact Rp.mono S1 f
   |own fs=>
    obtain⟨x,rfl,n,G⟩:=f;exact⟨x,rfl,n,G.mono S1 λb C y p=>N b y p λw=>nk (E.own k i x a fs o b e M g A C w)⟩
   |_=>exact f
 ·exact N b x h λk=>z (za b k)
def XN.mutate {i:Nat}{a:Addr}{ds es:O}{us:HO} (E:XN K H0 B H σ γ) (u:γ[i]?=some (some<|.own ds)) (f:σ[i]?=some (some<|.ref a)) (w:Mut (some us)) (r:∀F H':Hp,Same (Pu.off (zof B γ σ) H) F->H' a=some us->OR K F H' a es)
  (k1:autoParam (ds.adr a=λb=>b=a) au_0) (k2:autoParam (es.adr a=λb=>b=a) au_0) :
  XN K H0 B (upd H a us) σ (γ.set i<|some<|.own es)/\Fr B H σ γ (upd H a us) σ (γ.set i<|some<|.own es):=by
 refine E.change (o:=ds) (o':=es) u f (λb x h n=>by rw[XM (λz=>n (by rw[k1];exact z))];exact h) (λb h=>by rw[k1]at h;rw[show b=a from h,Kb];exact w) (λb h=>.inl (by rw[k1];rw[k2]at h;exact h)) (r _ _ ?_ Kb)
 intro b x h;obtain⟨v,p⟩:=T6 h;have s:b≠a:=λz=>p (.inr ⟨i,ds,a,u,f,by rw[k1];exact z⟩);refine Kz (by rw[XM s];exact v) λz=>p ?_;rcases z with z|⟨j,fs,C,A,l,g⟩
 ·exact .inl z
 ·rcases Ky A with⟨y,q,_⟩|⟨_,e⟩
  ·subst y;cases q
   rw[f]at l;cases l
   rw[k2]at g;exact absurd g s
  ·exact .inr ⟨j,fs,C,e,l,g⟩
end
end Pu
namespace Pu
open PySem PySem.Spec PyProof.Rows L2 Own
abbrev XR:=Str->Prop
noncomputable def eI:Int->Nat
 | .ofNat n=>2*n
 | .negSucc n=>2*n+1
noncomputable def dI(n:Nat):Int:=if n % 2=0 then .ofNat (n / 2)else .negSucc (n / 2)
def Zc3:∀i,dI (eI i)=i
 | .ofNat n=>by
  show dI (2*n)=_;unfold dI;simp
 | .negSucc n=>by
  show dI (2*n+1)=_;unfold dI;lia
noncomputable def NN(r:Yf):Str:=⟨(0::r.map eI).toArray⟩
noncomputable def Zcf:Yk->Option (Yf)
 | 0::t=>some (t.map dI)
 |_=>none
noncomputable def NG(x:Str):Option (Yf):=Zcf x.cps.toList
def RL(r:Yf):NG (NN r)=some r:=by
 show some ((r.map eI).map dI)=some r;rw[WY];congr 1
 conv=>rhs;rw[←List.map_id r]
 exact Vk λi _=>Zc3 i
def XE(b:Yh)(E:XK)(c:Str)(H':Hp):Prop:=match NG c with
 |none=>E (.ref<|ExcR.XQ b c) none H'
 |some r=>∀(f l:Addr) (o:Obj),H' f=some (.xd [("members",.ref l)])->H' l=some (.frz o<|.lst<|r.map V.int)->E (.ref<|ExcR.XQ b "Ringed") (some f) H'
def XE.plain {c H'} (f:NG c=none) (h:XE b E c H'):E (.ref<|ExcR.XQ b c) none H':=by
 unfold XE at h;simp_all
def XE.of {E c H'} (f:NG c=none) (h:E (.ref<|ExcR.XQ b c) none H'):XE b E c H':=by
 unfold XE;simp_all
def XE.mem (h:XE f E (NN r) H') {b l o} (n:H' b=some (.xd [("members",.ref l)])) (g:H' l=some (.frz o<|.lst<|r.map V.int)) :
  E (.ref<|ExcR.XQ f "Ringed") (some b) H':=by
 unfold XE at h;rw[RL]at h
 grind
def XE.ofM {E r H'} (h:∀b l o,H' b=some (.xd [("members",.ref l)])->H' l=some (.frz o<|.lst<|r.map V.int)->E (.ref<|ExcR.XQ f "Ringed") (some b) H'):XE f E (NN r) H':=by
 unfold XE;rw[RL];lia
abbrev PTE:=Γ->(S->Prop)->XR->Prop
abbrev PTT:=Γ->(Bool->Prop)->XR->Prop
abbrev PTA:=Γ->(List S->Prop)->XR->Prop
abbrev PTO:=Γ->(Option Int->Prop)->XR->Prop
structure TB where
 nx:Γ->Prop
 rt:S->Prop
 ex:Γ->Str->Prop
 bk:Γ->Prop:=λ_=>False
 ct:Γ->Prop:=λ_=>False
 rv:Γ->D->Prop:=λ_ _=>False
abbrev PTS:=TB->Γ->Prop
abbrev PTG:=S->Γ->(Γ->Prop)->Prop
abbrev Su:=List S->Γ->(Γ->Prop)->Prop
inductive TVs (K:Yd) (Z:Addr->Prop) (H0 H H':Hp):List S->List V->Prop
 |nil:TVs K Z H0 H H' [] []
 |cons {s:S} {v:V} {ss:List S} {vs:List V}:TV K Z H0 H H' s v->TVs K Z H0 H H' ss vs->TVs K Z H0 H H' (s::ss) (v::vs)
section
variable (K:Yd) (mg:Yh) (E:L2.St->XK)
def XG(t:TE)(p:PTE):Prop:=∀(h:Hp) (B:Addr->Prop) (H:Hp) (f:L2.St) (g:Γ) (R:S->Prop) (X:XR) (Q:VK),XN K h B H f g->p g R X->
 (∀s v b,R s->Same H b->TV K (zof B g f) h H b s v->Q v b)->(∀c b,X c->Same H b->XE mg (E f) c b)->t f H Q
def KD(t:TT)(p:PTT):Prop:=∀(l:Hp) (B:Addr->Prop) (H:Hp) (g:L2.St) (h:Γ) (R:Bool->Prop) (X:XR) (Q:Bool->Hp->Prop),XN K l B H g h->p h R X->
 (∀b f,R b->Same H f->Q b f)->(∀c f,X c->Same H f->XE mg (E g) c f)->t g H Q
def Kc(t:TA)(p:PTA):Prop:=∀(n:Hp) (B:Addr->Prop) (H:Hp) (f:L2.St) (g:Γ) (R:List S->Prop) (X:XR) (Q:List V->Hp->Prop),XN K n B H f g->p g R X->
 (∀l h b,R l->Same H b->TVs K (zof B g f) n H b l h->Q h b)->(∀c b,X c->Same H b->XE mg (E f) c b)->t f H Q
def Bx(t:TO)(p:PTO):Prop:=∀(h:Hp) (B:Addr->Prop) (H:Hp) (f:L2.St) (g:Γ) (R:Option Int->Prop) (X:XR) (Q:Option Int->Hp->Prop),XN K h B H f g->p g R X->
 (∀o b,R o->Same H b->Q o b)->(∀c b,X c->Same H b->XE mg (E f) c b)->t f H Q
structure Bz (H0:Hp) (B:Addr->Prop) (H:Hp) (σ:L2.St) (γ:Γ) (R:TB) (D:Ends):Prop where
 nx:∀σ' γ' H',R.nx γ'->XN K H0 B H' σ' γ'->Fr B H σ γ H' σ' γ'->D.nx σ' H'
 rt:∀s v H',R.rt s->Same H0 H'->TV K B H0 H0 H' s v->D.rt v H'
 ex:∀σ' γ' c H',R.ex γ' c->XN K H0 B H' σ' γ'->Fr B H σ γ H' σ' γ'->XE mg (E σ') c H'
 bk:∀σ' γ' H',R.bk γ'->XN K H0 B H' σ' γ'->Fr B H σ γ H' σ' γ'->D.bk σ' H'
 ct:∀σ' γ' H',R.ct γ'->XN K H0 B H' σ' γ'->Fr B H σ γ H' σ' γ'->D.ct σ' H'
 rv:∀σ' γ' d v H',R.rv γ' d->XN K H0 B H' σ' γ'->Fr B H σ γ H' σ' γ'->Rp K (off (zof B γ' σ') H') d v->D.rt v H'
def XW(t:TS)(p:PTS):Prop:=∀(h:Hp) (B:Addr->Prop) (H:Hp) (f:L2.St) (g:Γ) (R:TB) (D:Ends),(∀b,B b->∃o,h b=some o)->XN K h B H f g->p R g->Bz K mg E h B H f g R D->t D f H
end
section
variable {K:Yd}{mg:Yh}{E:L2.St->XK}{H0 H H1 H':Hp}{B Z Z':Addr->Prop}{σ:L2.St}{γ:Γ}
def TVs.weakG {H1 f}:∀{ss}{vs:List V},Same H H1->TVs K Z H0 H1 f ss vs->TVs K Z H0 H f ss vs:=by
 intro ss
 induction ss with
 |nil=>
  intro _ _ h;cases h
  exact .nil
 |cons _ _ g=>
  intro _ b h;cases h with
  |cons h r=>
   exact .cons (TV.weak b (λ_ z=>z) h) (g b r)
def TVs.rps (f:Same H0 H'):∀{ss}{vs:List V},TVs K Z H0 H H' ss vs->Rps K H' (ss.map S.d) vs:=by
 intro ss
 induction ss with
 |nil=>
  intro _ h;cases h
  exact .nil
 |cons _ _ b=>
  intro _ h;cases h with
  |cons h r=>
   exact .cons (h.rp f) (b r)
theorem TVs.shd {ds:List D} (l:Same H0 H') (g:∀b,Z b->Mut (H b)) (n:Same H H'):∀{f vs}{ds:List D},TVs K Z H0 H H' f vs->f.map S.shd=ds.map some->Rps K (off Z H') ds vs
 |_,_,[],.nil,_=>.nil
 |_,_,_::_,.nil,e|_,_,[],.cons _ _,e=>by cases e
 |_,_,d::ds,.cons h r,e=>by
  rw[Qe,Qe,JK]at e;exact .cons (h.shd l g n e.1) (TVs.shd (ds:=ds) l g n r e.2)
def Rp.int_inv (h:Rp K H (.int i) v):v=.int i:=by cases h;rfl
def Rp.bl_inv (h:Rp K H (.bl b) v):v=.bl b:=by cases h;rfl
def Rp.str_inv (h:Rp K H (.str x) v):v=.str x:=by cases h;rfl
def Rp.non_inv (h:Rp K H .non v):v=.non:=by cases h;rfl
def Rp.ty_inv (h:Rp K H (.ty n) v):v=.ty n:=by cases h;rfl
noncomputable def F0(i:Nat):PTE:=λγ R _=>match γ[i]? with
 |some (some<|.own b)=>R (.view b)
 |some (some s)=>R s
 |_=>False
def XF(i:Nat):XG K mg E (Pa i) (F0 i):=by
 intro H0 B H σ γ R X Q b h q _;unfold F0 at h;split at h
 ·rename_i n e;obtain⟨v,f,a,rfl,p,l⟩:=b.slot i _ e;exact⟨_,f,q _ _ H h (Same.refl _) ⟨a,rfl,l⟩⟩
 ·rename_i s o e;obtain⟨v,f,g⟩:=b.slot i _ e;refine⟨v,f,q _ _ H h (Same.refl _) ?_⟩;cases s with
  |bor d|sh d=>exact g
  |own n=>grind
  |_=>exact g.elim
 ·grind
noncomputable def pC(d:D):PTE:=λ_ R _=>R (.sh d)
def Aq(h:∀H,Rp K H d v):XG K mg E (tC v) (pC d):=by
 intro H0 B H σ γ R X Q b p q _;exact q _ _ H p (Same.refl _) (h _)
def Kh:XG K mg E (tC<|.int i) (pC<|.int i):=Aq λ_=>.int i
def Na:XG K mg E (tC<|.bl b) (pC<|.bl b):=Aq λ_=>.bl b
def Ke:XG K mg E (tC<|.str x) (pC<|.str x):=Aq λ_=>.str x
def CQ:XG K mg E (tC<|.ty n) (pC<|.ty n):=Aq λ_=>.ty n
noncomputable def p2(a b:PTE)(f:S->S->(S->Prop)->Prop):PTE:=λγ R X=>a γ (λx=>b γ (λy=>f x y R) X) X
def Pb{A w a b f}(Y:XG K mg E A a)(U:XG K mg E w b)(N:∀H0 H h Z x y v u R Q,Same H0 h->Same H h->(∀b,Z b->Mut (H b))->TV K Z H0 H h x v->TV K Z H0 H h y u->f x y R->(∀s z H',R s->Same h H'->TV K Z H0 H H' s z->Q z H')->r v u h Q) :
  XG K mg E (tOp r A w) (p2 a b f):=by
 intro H0 B H σ γ R X Q l p q C;refine Y H0 B H σ γ _ X _ l p (λx v H1 h1 n L=>?_) C;have g:=l.grow n;refine U H0 B H1 σ γ _ X _ g h1 (λy u h h2 o J=>?_) λc H' T S'=>C c H' T (n.trans S');exact N H0 H h _ x y v u R Q (g.same.trans o) (n.trans o) l.zm (L.grow o) (TV.weak n (λ_ z=>z) J) h2 λs z H' M S3 G=>q s z H' M ((n.trans o).trans S3) G
def fI0(g:Int->Int->D):S->S->(S->Prop)->Prop:=λx y R=>match x.d,y.d with
 | .int i,.int j=>R (.sh<|g i j)
 |_,_=>False
def fI(C:Int->Int->Prop)(g:Int->Int->D):S->S->(S->Prop)->Prop:=λx y R=>match x.d,y.d with
 | .int i,.int j=>C i j/\R (.sh<|g i j)
 |_,_=>False
def B4{g'}{l f a b}(w:∀H i j,Rp K H (g' i j) (g i j))(A:XG K mg E l a)(z:XG K mg E f b):XG K mg E (tOp (rI0 g) l f) (p2 a b<|fI0 g'):=by
 refine Pb A z λH0 H J Z x y v u R Q n L M s r h q=>?_;unfold fI0 at h;have p:=s.rp n;have o:=r.rp n;split at h
 ·rename_i i j G C;rw[G]at p;rw[C]at o;exact⟨i,j,p.int_inv,o.int_inv,q _ _ J h (Same.refl _) (w _ i j)⟩
 ·grind
def Dq{g r}{l f a b}(z:∀H i j,Rp K H (r i j) (g i j))(G:XG K mg E l a)(A:XG K mg E f b):XG K mg E (tOp (rI C g) l f) (p2 a b<|fI C r):=by
 refine Pb G A λH0 H M Z x y v u R Q n N T w s h q=>?_;unfold fI at h;have p:=w.rp n;have o:=s.rp n;split at h
 ·rename_i i j L J;rw[L]at p;rw[J]at o;exact⟨i,j,p.int_inv,o.int_inv,h.1,q _ _ M h.2 (Same.refl _) (z _ i j)⟩
 ·grind
section
variable {ta tb tc:TE}{a b c:PTE}
def K5(g:XG K mg E ta a)(f:XG K mg E tb b):XG K mg E (tOp (rI0 λi j=>.int (i+j)) ta tb) (p2 a b (fI0 λi j=>.int (i+j))):=B4 (λ_ _ _=>.int _) g f
def P3(g:XG K mg E ta a)(f:XG K mg E tb b):XG K mg E (tOp (rI0 λi j=>.int (i-j)) ta tb) (p2 a b (fI0 λi j=>.int (i-j))):=B4 (λ_ _ _=>.int _) g f
def Np(g:XG K mg E ta a)(f:XG K mg E tb b):XG K mg E (tOp (rI CMul λi j=>.int (i*j)) ta tb) (p2 a b (fI CMul λi j=>.int (i*j))):=Dq (λ_ _ _=>.int _) g f
def Tq(g:XG K mg E ta a)(f:XG K mg E tb b):XG K mg E (tOp (rI Er λi j=>.int (i / j)) ta tb) (p2 a b (fI Er λi j=>.int (i / j))):=Dq (λ_ _ _=>.int _) g f
def KC(g:XG K mg E ta a)(f:XG K mg E tb b):XG K mg E (tOp (rI (λ_ j=>0<j) λi j=>.int (i % j)) ta tb) (p2 a b (fI (λ_ j=>0<j) λi j=>.int (i % j))):=Dq (λ_ _ _=>.int _) g f
def NH(g:XG K mg E ta a)(f:XG K mg E tb b):XG K mg E (tOp (rI0 λi j=>.bl (decide (i<j))) ta tb) (p2 a b (fI0 λi j=>.bl (decide (i<j)))):=B4 (λ_ _ _=>.bl _) g f
def Tr(g:XG K mg E ta a)(f:XG K mg E tb b):XG K mg E (tOp (rI0 λi j=>.bl (decide (j<i))) ta tb) (p2 a b (fI0 λi j=>.bl (decide (j<i)))):=B4 (λ_ _ _=>.bl _) g f
def BJ(g:XG K mg E ta a)(f:XG K mg E tb b):XG K mg E (tOp (rI0 λi j=>.bl (decide (j<=i))) ta tb) (p2 a b (fI0 λi j=>.bl (decide (j<=i)))):=B4 (λ_ _ _=>.bl _) g f
def fEq(neg:Bool):S->S->(S->Prop)->Prop:=λx y R=>match x.d,y.d with
 | .int i,.int j=>R (.sh<|.bl (if neg then !decide (i=j)else decide (i=j)))
 | .str i,.str j=>R (.sh<|.bl (if neg then !decide (i=j)else decide (i=j)))
 | .bl i,.bl j=>R (.sh<|.bl (if neg then !decide (i=j)else decide (i=j)))
 |_,_=>False
def Bj{g h:Type}[DecidableEq g][DecidableEq h]{f:g->h}(l:∀a b,f a=f b->a=b)(a b:g):decide (f a=f b)=decide (a=b):=by grind
def fIx:S->S->(S->Prop)->Prop:=λx y R=>match x.d,y.d with
 | .lst g,.int k=>∃d,atI g k=some d/\R (x.sub d)
 | .tup g,.int k=>∃d,atI g k=some d/\R (x.sub d)
 | .scr f,.int k=>∃i,atI f k=some i/\R (.sh<|.int i)
 | .fL f,.int k=>∃i,atI f k=some i/\R (.sh<|.int i)
 |_,_=>False
def Oh{P:D->V->Prop}(f:vs.length=ds.length)(h:∀(i:Nat) d,ds[i]?=some d->∃u,vs[i]?=some u/\P d u)(e:atI ds k=some d):∃u,atI vs k=some u/\P d u:=by
 unfold atI at e ⊢;cases q:ixN ds.length k with
 |_=>grind
def Pg(ha:XG K mg E ta a)(hb:XG K mg E tb b):XG K mg E (tOp (λx y H Q=>BE K x y H Q\/Fd K x y H Q) ta tb) (p2 a b fIx):=by
 refine Pb ha hb λH0 H s Z x y v u R Q r s1 hm A Y h q=>?_;unfold fIx at h;have f:=Y.rp r;obtain⟨pl,pt⟩:=A.part r hm s1;split at h
 ·rename_i U k o n;rw[n]at f;obtain⟨d,T,g⟩:=h;obtain⟨l,w,rfl,M,L,J⟩:=pl U o;obtain⟨z,C,tz⟩:=Oh L J T;exact .inl ⟨l,w,k,z,rfl,f.int_inv,SqL.of M,C,q _ _ s g (Same.refl _) tz⟩
 ·rename_i U k o n;rw[n]at f;obtain⟨d,T,g⟩:=h;obtain⟨l,w,rfl,M,L,J⟩:=pt U o;obtain⟨z,C,tz⟩:=Oh L J T;exact .inr ⟨l,w,k,z,rfl,f.int_inv,SqT.of M,C,q _ _ s g (Same.refl _) tz⟩
 ·rename_i ns k o n;rw[n]at f;obtain⟨i,N,g⟩:=h;have p:=A.rp r;rw[o]at p;cases p with
  |scr G=>exact .inl ⟨_,_,k,.int i,rfl,f.int_inv,G,Ph N,q _ _ s g (Same.refl _) (.int i)⟩
 ·rename_i ns k o n;rw[n]at f;obtain⟨i,N,g⟩:=h;have p:=A.rp r;rw[o]at p;cases p with
  |fL G=>exact .inl ⟨_,_,k,.int i,rfl,f.int_inv,.inl (.inr ⟨_,G⟩),Ph N,q _ _ s g (Same.refl _) (.int i)⟩
 ·exact h.elim
noncomputable def Zkn(a b:PTE):PTE:=λγ R X=>a γ (λx=>match x.d with | .bl c=>if c=true then b γ R X else R (.sh<|.bl false)|_=>False) X
noncomputable def IG(a:PTE):PTE:=λγ R X=>a γ (λx=>match x.d with | .bl c=>R (.sh<|.bl (!c))|_=>False) X
def EV(C:XG K mg E ta a)(A:XG K mg E tb b):XG K mg E (A4 ta tb) (Zkn a b):=by
 intro H0 B H σ γ R X Q h p q r;refine C H0 B H σ γ _ X _ h p (λx v H1 n l w=>?_) r;have f:=h.grow l;have o:=w.rp f.same;split at n
 ·rename_i c J;rw[J]at o;refine⟨c,o.bl_inv,?_⟩;split at n
  ·rename_i g;rw[WK g];exact A H0 B H1 σ γ _ X _ f n (λy u N G L s=>q y u N G (l.trans L) (TV.weak l (λ_ z=>z) s)) λc H' g M=>r c H' g (l.trans M)
  ·rename_i g;rw[WI g];exact q _ _ H1 n l (.bl _)
 ·grind
def Zj7(r:XG K mg E ta a):XG K mg E (Mh ta) (IG a):=by
 intro H0 B H σ γ R X Q f p q o;refine r H0 B H σ γ _ X _ f p (λx v H1 h l n=>?_) o;have g:=n.rp (f.grow l).same;split at h
 ·rename_i c s;rw[s]at g;exact⟨c,g.bl_inv,q _ _ H1 h l (.bl _)⟩
 ·grind
noncomputable def Zbh(a:PTE):PTE:=λγ R X=>a γ (λx=>match x.d with | .int i=>R (.sh<|.int (-i))|_=>False) X
def ND(r:XG K mg E ta a):XG K mg E (tUn (rU λi=>.int (-i)) ta) (Zbh a):=by
 intro H0 B H σ γ R X Q f p q o;refine r H0 B H σ γ _ X _ f p (λx v H1 h l n=>?_) o;have g:=n.rp (f.grow l).same;split at h
 ·rename_i c s;rw[s]at g;exact⟨c,g.int_inv,q _ _ H1 h l (.int _)⟩
 ·grind
noncomputable def Sn(a:PTE):PTT:=λγ R X=>a γ (λx=>match x.d with | .bl c=>R c|_=>False) X
def Tj(r:XG K mg E ta a):KD K mg E (F5 ta) (Sn a):=by
 intro H0 B H σ γ R X Q f p q o;refine r H0 B H σ γ _ X _ f p (λx v H1 h l n=>?_) o;have g:=n.rp (f.grow l).same;split at h
 ·rename_i c s;rw[s]at g;exact⟨c,g.bl_inv,q _ H1 h l⟩
 ·grind
def Sv(f:XG K mg E ta a):KD K mg E (tB ta) (Sn a):=Tj f
variable {sa sb:TT}{pa pb:PTT}
noncomputable def Ru(a b:PTT):PTT:=λγ R X=>a γ (λc=>if c=true then b γ R X else R false) X
noncomputable def pOr(a b:PTT):PTT:=λγ R X=>a γ (λc=>if c=true then R true else b γ R X) X
noncomputable def GI(a:PTT):PTT:=λγ R X=>a γ (λc=>R (!c)) X
def Zm4(r:KD K mg E sa pa)(o:KD K mg E sb pb):KD K mg E (HW sa sb) (Ru pa pb):=by
 intro H0 B H σ γ R X Q f p q l;refine r H0 B H σ γ _ X _ f p (λc H1 n h=>?_) l;split at n
 ·rename_i g;rw[WK g];exact o H0 B H1 σ γ _ X _ (f.grow h) n (λy w s u=>q y w s (h.trans u)) λc H' g v=>l c H' g (h.trans v)
 ·grind
def Zh5(r:KD K mg E sa pa)(o:KD K mg E sb pb):KD K mg E (tOr sa sb) (pOr pa pb):=by
 intro H0 B H σ γ R X Q f p q l;refine r H0 B H σ γ _ X _ f p (λc H1 n h=>?_) l;split at n
 ·grind
 ·rename_i g;rw[WI g];exact o H0 B H1 σ γ _ X _ (f.grow h) n (λy w s u=>q y w s (h.trans u)) λc H' g v=>l c H' g (h.trans v)
def Ow(h:KD K mg E sa pa):KD K mg E (A8 sa) (GI pa):=by
 intro H0 B H σ γ R X Q f p q g;exact h H0 B H σ γ _ X _ f p (λc H1 l n=>q _ H1 l n) g
noncomputable def IJ(c:PTT)(a b:PTE):PTE:=λγ R X=>c γ (λk=>if k=true then a γ R X else b γ R X) X
def Zqj(h:KD K mg E sa pa)(C:XG K mg E ta a)(A:XG K mg E tb b):XG K mg E (tIf sa ta tb) (IJ pa a b):=by
 intro H0 B H σ γ R X Q g p q n;refine h H0 B H σ γ _ X _ g p (λc H1 s f=>?_) n;split at s
 ·rename_i o;rw[WK o];exact C H0 B H1 σ γ _ X _ (g.grow f) s (λy u x r v l=>q y u x r (f.trans v) (TV.weak f (λ_ z=>z) l)) λc H' h w=>n c H' h (f.trans w)
 ·rename_i o;rw[WI o];exact A H0 B H1 σ γ _ X _ (g.grow f) s (λy u x r v l=>q y u x r (f.trans v) (TV.weak f (λ_ z=>z) l)) λc H' h w=>n c H' h (f.trans w)
end
noncomputable def TZ:PTA:=λ_ R _=>R []
noncomputable def Pn(a:PTE)(r:PTA):PTA:=λγ R X=>a γ (λs=>r γ (λb=>R (s::b)) X) X
def Kw:Kc K mg E KH TZ:=by
 intro H0 B H σ γ R X Q b p q _;exact q _ _ H p (Same.refl _) .nil
def Nr{a r}(x:XG K mg E te a)(u:Kc K mg E l r):Kc K mg E (Kq te l) (Pn a r):=by
 intro H0 B H σ γ R X Q b p q g;refine x H0 B H σ γ _ X _ b p (λs v H1 z f o=>?_) g;refine u H0 B H1 σ γ _ X _ (b.grow f) z (λJ G C y h n=>?_) λc H' w A=>g c H' w (f.trans A);exact q _ _ C y (f.trans h) (.cons (o.grow h)<|TVs.weakG f n)
noncomputable def B7:List S->Option (List D)
 |[]=>some []
 |s::r=>match s.shd,B7 r with
  |some d,some b=>some (d::b)
  |_,_=>none
theorem DV:∀{ss}{ds:List D},B7 ss=some ds->ss.map S.shd=ds.map some
 |[],ds,h=>by cases h;rfl
 |s::r,ds,h=>by
  unfold B7 at h;split at h
  ·rename_i d g f b;cases h
   rw[Qe,Qe,f,DV b]
  ·grind
noncomputable def L3(r:PTA):PTE:=λγ R X=>r γ (λf=>match B7 f with|some b=>b.length<=1000/\R (.sh<|.tup b)|none=>False) X
noncomputable def IX(r:PTA):PTE:=λγ R X=>r γ (λf=>match B7 f with|some b=>b.length<=1000/\R (.own b)|none=>False) X
def Cm(h:n<=1000):n<=sizeLine:=Ja (Zkx h)
def NY(y:Kc K mg E v r):XG K mg E (MT v) (L3 r):=by
 intro H0 B H σ γ R X Q f p q x;refine y H0 B H σ γ _ X _ f p (λA u H1 g h w=>?_) x;split at g
 ·rename_i ds e;have b:=f.grow h;have rp:=w.shd (ds:=ds) b.same f.zm h (DV e);refine⟨by rw[rp.len];exact Cm g.1,λl n=>?_⟩;have s:=Kp (o:=.tup u) n;refine q _ _ _ g.2 (h.trans s) (.tup (Kz Kb λz=>?_)<|Rps.mono (XY s λ_ _ _ z=>z) rp)
  have:=b.zm l z
  rw[n]at this;exact this
 ·grind
def N5{H H1 l vs ds}(h:Same H H1)(f:H1 l=none)(rp:Rps K (off Z H1) ds vs):TV K Z H0 H (upd H1 l<|.lst vs) (.own ds) (.ref l):=
 ⟨l,rfl,(λ_ e=>e▸h.free f),vs,Kb,Rps.mono (XY (Kp f) λb o g z y=>y.elim z λe=>by rw[e,f]at g;cases g) rp⟩
def TN(u:Kc K mg E n r):XG K mg E (OD n) (IX r):=by
 intro H0 B H σ γ R X Q b p q s;refine u H0 B H σ γ _ X _ b p (λw v H1 g f o=>?_) s;split at g
 ·rename_i ds e;have rp:=o.shd (ds:=ds) (b.grow f).same b.zm f (DV e);refine⟨by rw[rp.len];exact Cm g.1,λl h=>?_⟩;exact q _ _ _ g.2 (f.trans<|Kp h) (N5 f h rp)
 ·grind
abbrev Pc:=List D->(S->Prop)->XR->Prop
noncomputable def XO(mg:Yh)(c:Pc)(K:Yd):Sp:=λg H Q E=>∃f R X,Rps K H f g/\c f R X/\(∀s v H',R s->Same H H'->TV K (λb=>Mut (H b)) H H H' s v->Q v H')/\∀e H',X e->Same H H'->XE mg E e H'
noncomputable def S.back:S->S
 | .bor d=>KJ d | .view o=>.tmp o.d|s=>s
def TV.back (env:XN K H0 B H1 σ γ) (o:Same H H1) (f:Same H1 H') (h:TV K (λb=>Mut (H1 b)) H1 H1 H' s v):TV K (zof B γ σ) H0 H H' s.back v:=by
 cases s with
 |bor d=>exact T9 (λb z=>TK f (env.zm b z)) (Rp.mono f h)
 |sh d=>exact Rp.mono (XY (Same.refl _) λb _ _ z y=>z (env.zm b y)) h
 |own n=>
  obtain⟨a,rfl,l,r⟩:=h;exact⟨a,rfl,(λb g=>o.free (l b g)),r.mono (XY (Same.refl _) λb _ _ z y=>z (y.imp (env.zm b) id)) λ_ _ _ q=>q⟩
 |view n=>
  obtain⟨a,rfl,r⟩:=h;exact r.rp off_sub
 |tmp d=>exact h
noncomputable def GV(c:Pc)(r:PTA):PTE:=λγ R X=>r γ (λb=>c (b.map S.d) (λs=>R s.back) λ_=>False) X
noncomputable def IR(c:Pc)(r:PTA):PTE:=λγ R X=>r γ (λb=>c (b.map S.d) (λs=>R s.back) X) X
def P0{h r}(x:Kc K mg E h r):XG K mg E (SD (XO mg c K) [] E0 h) (GV c r):=by
 intro H0 B H σ γ R X Q f p q u;refine x H0 B H σ γ _ X _ f p (λC A H1 y g o=>?_) u;rw[Qz];have b:=f.grow g;exact⟨_,_,_,o.rps b.same,y,λs v H' w l n=>q _ _ H' w (g.trans l) (n.back b g l),λ_ _ z=>z.elim⟩
def Zde{n r l}(y:Kc K mg (λ_=>l) n r):XG K mg (λ_=>l) (SD (XO mg c K) [] l n) (IR c r):=by
 intro H0 B H σ γ R X Q f p q o;refine y H0 B H σ γ _ X _ f p (λG C H1 A h w=>?_) o;rw[Qz];have b:=f.grow h;exact⟨_,_,X,w.rps b.same,A,λs v H' x g u=>q _ _ H' x (h.trans g) (u.back b h g),λe H' z g=>o e H' z (h.trans g)⟩
def XN.set {s b}{v} (g:XN K H0 B H σ γ) (f:Same H H') (h:TV K (zof B γ σ) H0 H H' s v) (e:s.slot=some b) :
  XN K H0 B H' (σ.set i<|some v) (γ.set i<|some b)/\Fr B H σ γ H' (σ.set i<|some v) (γ.set i<|some b):=by
 by_cases l:i<γ.length
 ·exact g.put f h e l
 ·rw[List.set_eq_of_length_le (by rw[g.len];lia),List.set_eq_of_length_le (by lia)];exact⟨g.grow f,Fr.grow f⟩
def Upd(f:Yk)(σ b:L2.St):Prop:=(∀j,j∉f->b[j]?=σ[j]?)/\b.length=σ.length
def N0(K:Yd)(g:Yk)(t:TG)(p:PTG):Prop:=∀(H0:Hp) (B:Addr->Prop) (H H':Hp) (σ:L2.St) (γ:Γ) (s:S) (v:V) (R:Γ->Prop) (Q:L2.St->Hp->Prop),XN K H0 B H σ γ->Same H H'->TV K (zof B γ σ) H0 H H' s v->p s γ R->
 (∀b f,R f->XN K H0 B H' b f->Fr B H σ γ H' b f->Upd g σ b->Q b H')->t v σ H' Q
noncomputable def SY(i:Nat):PTG:=λs γ R=>match s.slot with|some b=>R (γ.set i<|some b)|none=>False
def Kr(i:Nat):N0 K [i] (SM i) (SY i):=by
 intro H0 B H H' σ γ s v R Q b l f p q;unfold SY at p;split at p
 ·rename_i n e;obtain⟨h,f1⟩:=b.set l f e;exact q _ _ p h f1 ⟨λj g=>PR λz=>g (by grind),QN⟩
 ·grind
noncomputable def Zal:Su:=λb γ R=>match b with|[]=>R γ|_=>False
noncomputable def Gs(g:PTG)(r:Su):Su:=λf γ R=>match f with|s::t=>g s γ λb=>r t b R|[]=>False
def TV.notown {σ'}{γ'}{Hb} (f:Fr B H σ γ H' σ' γ') (b:Same H H') (n:∀ds,s≠.own ds) (g:∀ds,s≠.view ds) (h:TV K (zof B γ σ) H0 Hb H s v):TV K (zof B γ' σ') H0 H' H' s v:=by
 cases s with
 |bor d=>exact h
 |sh d=>exact Rp.mono f.off h
 |tmp d=>exact Rp.mono b h
 |_=>grind
def TVs.notown (f:Fr B H σ γ H b g):∀{ss}{vs:List V},(∀s∈ss,∀ds,s≠.own ds/\s≠.view ds)->TVs K (zof B γ σ) H0 p H ss vs->TVs K (zof B g b) H0 H H ss vs:=by
 intro ss
 induction ss with
 |nil=>
  intro _ _ h;cases h
  exact .nil
 |cons _ _ l=>
  intro _ n h;cases h with
  |cons h r=>
   exact .cons (h.notown f (Same.refl _) (λds=>(n _ Qh ds).1) λds=>(n _ Qh ds).2) (l (λs o=>n s (WV _ o)) r)
def AD(d:D):arg d=.sh d\/arg d=.bor d:=by unfold arg;cases imm d<;>simp
def Mu(d:D):KJ d=.sh d\/KJ d=.tmp d:=by unfold KJ;cases imm d<;>simp
def Lb(s:S)(d:D):∀ds,s.sub d≠.own ds/\s.sub d≠.view ds:=λds=>by
 cases s with
 |bor b=>rcases AD d with e|e<;>(show arg d≠_/\arg d≠_;rw[e];exact⟨(λz=>by cases z),(λz=>by cases z)⟩)
 |tmp b=>rcases Mu d with e|e<;>(show KJ d≠_/\KJ d≠_;rw[e];exact⟨(λz=>by cases z),(λz=>by cases z)⟩)
 |sh b=>exact⟨(λz=>by cases z),(λz=>by cases z)⟩
 |own b|view b=>
  cases b with
  |nst f|nsl a f=>rcases Mu d with e|e<;>(show KJ d≠_/\KJ d≠_;rw[e];exact⟨(λz=>by cases z),(λz=>by cases z)⟩)
  |_=>exact⟨(λz=>by cases z),(λz=>by cases z)⟩
def B6(K:Yd)(n:Yk)(t:TGs)(p:Su):Prop:=∀(H0:Hp) (B:Addr->Prop) (H:Hp) (σ:L2.St) (γ:Γ) (g:List S) (h:List V) (R:Γ->Prop) (Q:L2.St->Hp->Prop),XN K H0 B H σ γ->TVs K (zof B γ σ) H0 H H g h->(∀s∈g,∀l,s≠.own l/\s≠.view l)->p g γ R->
 (∀b f,R f->XN K H0 B H b f->Fr B H σ γ H b f->Upd n σ b->Q b H)->t h σ H Q
def CM:B6 K [] Ih Zal:=by
 intro H0 B H σ γ h g R Q b f l p q;cases f with
 |nil=>exact⟨rfl,q _ _ p b Fr.refl ⟨λ_ _=>rfl,rfl⟩⟩
 |cons _ _=>exact p.elim
def Fc{g r w v}(T:N0 K M g w)(N:B6 K L r v):B6 K (M++L) (LF g r) (Gs w v):=by
 intro H0 B H σ γ ss vs R Q u G x p q;cases G with
 |nil=>exact p.elim
 |cons h t=>
  refine⟨_,_,rfl,T H0 B H H σ γ _ _ _ _ u (Same.refl _) h p λf n J e1 f1 A=>?_⟩;refine N H0 B H f n _ _ _ _ e1 (TVs.notown f1 (λs o=>x s (WV _ o)) t) (λs o=>x s (WV _ o)) J λb l p2 Y U y=>?_;exact q b l p2 Y (f1.trans U) ⟨λj C=>(y.1 j λz=>C (Qm _ z)).trans (A.1 j λz=>C (Ve _ z)),y.2.trans A.2⟩
noncomputable def Ge(n:Nat)(r:Su):PTG:=λs γ R=>match s.d with | .tup b=>b.length=n/\r (b.map s.sub) γ R|_=>False
theorem TVs.of_part {ds:List D}{s:S}:∀{vs}{ds:List D},vs.length=ds.length->(∀(i:Nat) d,ds[i]?=some d->∃u,vs[i]?=some u/\TV K Z H0 H H' (s.sub d) u)->TVs K Z H0 H H' (ds.map s.sub) vs
 |[],[],_,_=>.nil
 |[],_::_,e,_|_::_,[],e,_=>by cases e
 |v::vs,d::ds,e,h=>by
  obtain⟨u,f,b⟩:=h 0 d rfl;cases f
  exact .cons b (TVs.of_part (ds:=ds) (by grind) λi g l=>by simpa using h (i+1) g (by grind))
def A6{x r w}(G:B6 K x r w):N0 K x (Eh K n r) (Ge n w):=by
 intro H0 B H H' σ γ s v R Q f o z p q;unfold Ge at p;have b:=f.grow o;obtain⟨_,pt⟩:=z.part b.same f.zm o;split at p
 ·rename_i ds e;obtain⟨a,u,rfl,L,y,J⟩:=pt ds e;refine⟨a,u,rfl,SqT.of L,y.trans p.1,?_⟩;refine G H0 B H' σ γ _ u R Q b (TVs.notown (Fr.refl) (λA l ds=>?_)<|TVs.of_part (ds:=ds) y J) (λA l ds=>?_) p.2 λg h M N f1 C=>q g h M N (Fr.trans (Fr.grow o) f1) C
  ·obtain⟨d,_,rfl⟩:=WO.mp l;exact Lb s d ds
  ·obtain⟨d,_,rfl⟩:=WO.mp l;exact Lb s d ds
 ·grind
def Bz.from {D o p} (e:Bz K mg E H0 B H σ γ R D) (f:Fr B H σ γ H1 o p):Bz K mg E H0 B H1 o p R D:=
 ⟨λb g H' n l h=>e.nx b g H' n l (f.trans h),e.rt,λb g c H' n l h=>e.ex b g c H' n l (f.trans h),λb g H' n l h=>e.bk b g H' n l (f.trans h),λb g H' n l h=>e.ct b g H' n l (f.trans h),λb g d v H' n l h=>e.rv b g d v H' n l (f.trans h)⟩
variable {te:TE}{a:PTE}{tt:TT}{c:PTT}{t u:TS}{p q:PTS}
noncomputable def Ho:PTS:=λR γ=>R.nx γ
def NP:XW K mg E LL Ho:=λ_ _ _ _ _ _ _ _ b h e=>e.nx _ _ _ h b Fr.refl
noncomputable def MJ(p q:PTS):PTS:=λR γ=>p {R with nx:=q R} γ
def GT(n:XW K mg E t p)(hq:XW K mg E u q):XW K mg E (RR t u) (MJ p q):=by
 intro H0 B H σ γ R D l g h e;refine n H0 B H σ γ _ _ l g h ⟨λb f H' o r f1=>?_,e.rt,e.ex,e.bk,e.ct,e.rv⟩;exact hq H0 B H' b f R D l r o (e.from f1)
structure HD (p q:PTS) (R:TB) (γ:Γ):Prop where
 w:∃J:Γ->Prop,p {R with nx:=J} γ/\∀γ',J γ'->q R γ'
noncomputable def R5(p q:PTS):PTS:=λR γ=>HD p q R γ
def Zk7(r:XW K mg E t p)(hq:XW K mg E u q):XW K mg E (HZ t u) (R5 p q):=by
 intro H0 B H σ γ R D o l h e;obtain⟨J,h,k⟩:=h.w;refine⟨λf H'=>∃b,J b/\XN K H0 B H' f b/\Fr B H σ γ H' f b,r H0 B H σ γ _ _ o l h ⟨λf b H' g n f1=>⟨b,g,n,f1⟩,e.rt,e.ex,e.bk,e.ct,e.rv⟩,?_⟩;rintro f H' ⟨b,g,n,f1⟩;exact hq H0 B H' f b R D o n (k b g) (e.from f1)
noncomputable def M3(i:Nat)(p:PTS):PTS:=λR γ=>p R (frz i γ)
def AN(i:Nat)(g:XW K mg E t p):XW K mg E t (M3 i p):=by
 intro H0 B H σ γ R D f b h e;obtain⟨l,f1⟩:=b.frz f i;exact g H0 B H σ _ R D f l h (e.from f1)
noncomputable def Du(a:PTE)(g:PTG):PTS:=λR γ=>a γ (λs=>g s γ R.nx) (R.ex γ)
def Sr(y:XG K mg E te a)(w:N0 K L g r):XW K mg E (Se te g) (Du a r):=by
 intro H0 B H σ γ R D M b h e;refine y H0 B H σ γ _ _ _ b h (λs v H1 A J o=>?_) λc H' x n=>e.ex σ γ c H' x (b.grow n) (Fr.grow n);exact w H0 B H H1 σ γ s v _ _ b J o A λf l z G C _=>e.nx f l H1 z G C
noncomputable def A3(i:Nat)(f:Int->Int->Int)(a:PTE):PTS:=λR γ=>match γ[i]? with
 |some (some<|.sh<|.int x)=>a γ (λy=>match y.d with | .int j=>R.nx (γ.set i<|some<|.sh<|.int<|f x j)|_=>False) (R.ex γ)
 |_=>False
def Zm1(z:XG K mg E te a):XW K mg E (Ld i te<|ipI f) (A3 i f a):=by
 intro H0 B H σ γ R D L b h e;unfold A3 at h;split at h
 ·rename_i x hx;obtain⟨v,C,A⟩:=b.slot i _ hx;refine⟨v,C,z H0 B H σ γ _ _ _ b h (λy u H1 l n r=>?_) λc H' w o=>e.ex σ γ c H' w (b.grow o) (Fr.grow o)⟩;have g:=r.rp (b.grow n).same;split at l
  ·rename_i j G;rw[G]at g;refine⟨x,j,Rp.int_inv A,g.int_inv,?_⟩;obtain⟨J,f1⟩:=b.set (s:=.sh (.int<|f x j)) n (.int _) rfl;exact e.nx _ _ H1 l J f1
  ·grind
 ·grind
noncomputable def Rw(a:PTE):PTS:=λR γ=>a γ R.rt (R.ex γ)
def FU(o:XG K mg E te a):XW K mg E (Sf te) (Rw a):=by
 intro H0 B H σ γ R D x f h e;refine o H0 B H σ γ _ _ _ f h (λs v H1 r w l=>?_) λc H' n g=>e.ex σ γ c H' n (f.grow g) (Fr.grow g);exact e.rt s v H1 r (f.same.trans w) (TV.weak f.same (λb z=>.inl z) l)
noncomputable def EL(i:Nat):PTS:=λR γ=>match γ[i]? with|some (some s)=>R.rt s|_=>False
def Zpc(i:Nat):XW K mg E (Sf<|Pa i) (EL i):=by
 intro H0 B H σ γ R D C f h e;unfold EL at h;split at h
 ·rename_i s n;obtain⟨v,o,g⟩:=f.slot i _ n;refine⟨v,o,e.rt s v H h f.same ?_⟩;cases s with
  |bor d=>exact g
  |sh d=>exact Rp.mono (XY (Same.refl _) λb _ _ z y=>z (.inl y)) g
  |own r=>
   obtain⟨l,rfl,A,x⟩:=g;exact⟨l,rfl,A,x.mono (XY (Same.refl _) λb _ _ z y=>z (y.elim .inl λw=>.inr ⟨i,r,l,n,o,w⟩)) λ_ _ _ q=>q⟩
  |view r=>exact g.elim
  |tmp d=>trivial
 ·grind
noncomputable def GD(c:PTT)(p q:PTS):PTS:=λR γ=>c γ (λb=>if b=true then p R γ else q R γ) (R.ex γ)
def Zmc(l:KD K mg E tt c)(v:XW K mg E t p)(hq:XW K mg E u q):XW K mg E (EW tt t u) (GD c p q):=by
 intro H0 B H σ γ R D r f h e;refine l H0 B H σ γ _ _ _ f h (λb H1 o g=>?_) λc H' l s=>e.ex σ γ c H' l (f.grow s) (Fr.grow s);split at o
 ·rename_i n;rw[WK n];exact v H0 B H1 σ γ R D r (f.grow g) o (e.from<|Fr.grow g)
 ·rename_i n;rw[WI n];exact hq H0 B H1 σ γ R D r (f.grow g) o (e.from<|Fr.grow g)
noncomputable def Zaz(a:PTE):PTS:=λR γ=>a γ (λ_=>R.nx γ) (R.ex γ)
def Re(n:XG K mg E te a):XW K mg E (SR te) (Zaz a):=by
 intro H0 B H σ γ R D w b h e;exact n H0 B H σ γ _ _ _ b h (λs v H1 o f r=>e.nx σ γ H1 o (b.grow f) (Fr.grow f)) λc H' l g=>e.ex σ γ c H' l (b.grow g) (Fr.grow g)
noncomputable def Zf8:PTS:=λ_ _=>False
def T8:XW K mg E Md Zf8:=λ_ _ _ _ _ _ _ _ _ h _=>h
noncomputable def GN(x:Str)(r:PTA):PTS:=λR γ=>r γ (λb=>b.length<=1000/\R.ex γ x) (R.ex γ)
def TVs.len:∀{ss}{vs:List V},TVs K Z H0 H H' ss vs->vs.length=ss.length:=by
 intro ss
 induction ss with
 |nil=>
  intro _ h;cases h
  rfl
 |cons _ _ b=>
  intro _ h;cases h with
  |cons h r=>
   exact Qs (· + 1) (b r)
def Zh1{g r f}(v:Kc K mg (λ_=>f) g r)(hx:autoParam (NG x=none) au_0):XW K mg (λ_=>f) (ExcR.Mb (ExcR.XQ mg x) f g) (GN x r):=by
 intro H0 B H σ γ R D A b h e;refine v H0 B H σ γ _ _ _ b h (λz y H1 l n s=>⟨?_,?_⟩) λc H' w o=>e.ex σ γ c H' w (b.grow o) (Fr.grow o)
 ·rw[s.len];exact Cm l.1
 ·exact(e.ex σ γ x H1 l.2 (b.grow n)<|Fr.grow n).plain hx
def GU(i j:Nat)(γ:Γ)(R:Γ->Prop):List S->Prop
 |[.sh d,.sh e]=>R ((γ.set i<|some<|.sh d).set j (some<|.sh e))
 |_=>False
noncomputable def Zd0(i j:Nat)(r:PTA):PTS:=λR γ=>r γ (GU i j γ R.nx) (R.ex γ)
def Zhm{o r}(N:Kc K mg E o r):XW K mg E (Zap i j o) (Zd0 i j r):=by
 intro H0 B H σ γ R D hB f h e;refine N H0 B H σ γ _ _ _ f h (λss vs H1 n S1 g=>?_) λc H' Q v=>e.ex σ γ c H' Q (f.grow v) (Fr.grow v);unfold GU at n;split at n
 ·rename_i d e';cases g with
  |cons C g=>
   cases g with
   |cons A g=>
    cases g
    rename_i y w;refine⟨_,_,rfl,?_⟩;obtain⟨Y,f1⟩:=f.set S1 C rfl
    have l:TV K (zof B (γ.set i<|some<|.sh d)<|σ.set i<|some y) H0 H1 H1 (.sh e') w:=by
     refine Rp.mono (XY (Same.refl _) λb _ _ M z=>M ?_) A;rcases z with z|⟨k,ds,x,L,s,J⟩
     ·exact .inl z
     ·rcases Ky L with⟨_,q,_⟩|⟨G,q⟩
      ·cases q
      ·rw[PR G]at s;exact .inr ⟨k,ds,x,q,s,J⟩
    obtain⟨U,T⟩:=Y.set (Same.refl _) l rfl;exact e.nx _ _ H1 n U (f1.trans T)
 ·grind
noncomputable def clr:Yk->Γ->Γ
 |[],γ=>γ
 |i::r,γ=>clr r (γ.set i none)
theorem XN.clr:∀b {γ:Γ},XN K H0 B H σ γ->XN K H0 B H σ (clr b γ)/\Fr B H σ γ H σ (Pu.clr b γ)
 |[],_,e=>⟨e,Fr.refl⟩
 |i::r,γ,e=>by
  obtain⟨h,f1⟩:=e.drop i;obtain⟨g,f⟩:=XN.clr r h;exact⟨g,f1.trans f⟩
def Later(H0:Hp)(Z:Addr->Prop)(H1:Hp)(Z':Addr->Prop)(H':Hp):Prop:=Same H0 H'/\(∀b,Z' b->Mut (H' b))/\∀b o,H1 b=some o->¬Z b->H' b=some o/\¬Z' b
def Later.of (e:XN K H0 B H' b g) (f:Fr B H1 σ γ H' b g):Later H0 (zof B γ σ) H1 (zof B g b) H':=⟨e.same,e.zm,f⟩
def Later.off (l:Later H0 Z H1 Z' H'):Same (off Z H1) (Pu.off Z' H'):=λb o h=>by
 obtain⟨r,n⟩:=T6 h;obtain⟨g,f⟩:=l.2.2 b o r n;exact Kz g f
structure Ia (K:Yd) (H0:Hp) (B:Addr->Prop) (H1:Hp) (σ:L2.St) (γ:Γ) (J:It) (n:Nat) (item:Nat->S):Prop where
 go:∀(i:Nat) (H':Hp) (Z':Addr->Prop),i<n->Later H0 (zof B γ σ) H1 Z' H'->J.go i H'/\∀x H'',J.yld i H' x H''->Same H' H''/\TV K Z' H0 H' H'' (item i) x
 stop:∀(H':Hp) (Z':Addr->Prop),Later H0 (zof B γ σ) H1 Z' H'->J.stop n H'
abbrev PTI:=Γ->(Nat->(Nat->S)->Prop)->XR->Prop
def SndI(K:Yd)(mg:Yh)(E:L2.St->XK)(b:TI)(f:PTI):Prop:=∀(H0:Hp) (B:Addr->Prop) (H:Hp) (σ:L2.St) (γ:Γ) (R:Nat->(Nat->S)->Prop) (X:XR) (Q:It->Hp->Prop),XN K H0 B H σ γ->f γ R X->
 (∀n item J H1,R n item->Same H H1->Ia K H0 B H1 σ γ J n item->Q J H1)->(∀c H',X c->Same H H'->XE mg (E σ) c H')->b σ H Q
structure B9 (js:Yk) (γ:Γ) (g:PTG) (body:PTS) (R:TB) (n:Nat) (item:Nat->S):Prop where
 w:∃inv:Nat->Γ->Prop,inv 0 (clr js γ)/\
 (∀i γ',i<n->inv i γ'->g (item i) γ' λγ2=>body {R with nx:=λγ3=>inv (i+1) (clr js γ3),ct:=λγ3=>inv (i+1) (clr js γ3),bk:=R.nx} γ2)/\∀γ',inv n γ'->R.nx γ'
noncomputable def L8(b:Yk)(f:PTI)(g:PTG)(body:PTS):PTS:=λR γ=>f γ (λn item=>B9 b γ g body R n item) (R.ex γ)
def Zo1{wi g it pg}(L:Yk)(hi:SndI K mg E wi it)(hg:N0 K is g pg)(hb:XW K mg E t p):XW K mg E (Ot wi g t) (L8 L it pg p):=by
 intro H0 B H σ γ R D hB N h e;refine hi H0 B H σ γ _ _ _ N h (λn item J H1 h1 Y ok=>?_) λc H' hc S'=>e.ex σ γ c H' hc (N.grow S') (Fr.grow S');obtain⟨inv,h0,hs,hd⟩:=h1.w;have G:=N.grow Y;refine⟨λi m s H'=>m=n-i/\i<=n/\∃b,inv i b/\XN K H0 B H' s b/\Fr B H1 σ γ H' s b,⟨n,by simp,QL _,_,h0,(G.clr L).1,(G.clr L).2⟩,?_⟩;rintro i m s H' ⟨rfl,hin,b,U,e',f'⟩;by_cases M:i<n
 ·obtain⟨go,yl⟩:=ok.go i H' _ M (Later.of e' f');refine .inr ⟨go,λr H2=>∃o,inv (i+1) o/\XN K H0 B H2 r o/\Fr B H1 σ γ H2 r o,λr H2 ⟨o,a1,a2,a3⟩=>⟨n-(i+1),by lia,rfl,M,o,a1,a2,a3⟩,λx T y=>?_⟩;obtain⟨S2,tv⟩:=yl x T y;refine hg H0 B H' T s b _ _ _ _ e' S2 tv (hs i b M U) λr o q2 e2 f2 _=>?_;have fall:=f'.trans f2;refine hb H0 B T r o _ _ hB e2 q2 ⟨λf l Q A z C=>?_,e.rt,λf l c Q A z C=>e.ex f l c Q A z ((Fr.grow Y).trans (fall.trans C)),λf l Q A z C=>e.nx f l Q A z ((Fr.grow Y).trans (fall.trans C)),λf l Q A z C=>?_,λf l d v Q A z C=>e.rv f l d v Q A z ((Fr.grow Y).trans (fall.trans C))⟩
  ·exact⟨_,A,(z.clr L).1,(fall.trans C).trans (z.clr L).2⟩
  ·exact⟨_,A,(z.clr L).1,(fall.trans C).trans (z.clr L).2⟩
 ·have:i=n:=by lia
  subst this;exact .inl ⟨ok.stop H' _ (Later.of e' f'),e.nx s b H' (hd b U) e' ((Fr.grow Y).trans f')⟩
noncomputable def S.fix:S->Bool
 | .bor _=>true | .sh _=>true | .own (.nsl _ _)=>false | .own _=>true|_=>false
noncomputable def pIL(a:PTE):PTI:=λγ R X=>a γ (λs=>match s.d with
 | .lst f=>s.fix=true/\R f.length λi=>s.sub (f.getD i .non)
 | .scr b=>s.fix=true/\R b.length λi=>.sh (.int<|b.getD i 0)
 |_=>False) X
def TV.last (env:XN K H0 B H σ γ) (J:Same H H1) (b:TV K (zof B γ σ) H0 H H1 s v) (A:s.fix=true) (n:s.d=.lst ds):∃l vs,v=.ref l/\vs.length=ds.length/\
  ∀H' Z',Later H0 (zof B γ σ) H1 Z' H'->H' l=some (.lst vs)/\∀(i:Nat) d,ds[i]?=some d->∃u,vs[i]?=some u/\TV K Z' H0 H' H' (s.sub d) u:=by
 have f:∀{s:S},(∀d,s.sub d=.sh d)->Rp K (Pu.off (zof B γ σ) H1) (.lst ds) v->∃l vs,v=.ref l/\vs.length=ds.length/\
   ∀H' Z',Later H0 (zof B γ σ) H1 Z' H'->H' l=some (.lst vs)/\∀i d,ds[i]?=some d->∃u,vs[i]?=some u/\TV K Z' H0 H' H' (s.sub d) u:=λL h=>by
  obtain⟨l,vs,rfl,y,g⟩:=Rp.lst_inv h;refine⟨l,vs,rfl,g.len,λH' Z' lt=>⟨off_sub _ _ (lt.off _ _ y),λi d o=>?_⟩⟩;obtain⟨u,w,r⟩:=g.get o;refine⟨u,w,?_⟩;rw[L];exact Rp.mono lt.off r
 cases s with
 |bor d=>
  have b:=Rp.strip b;rw[show d.strip=.lst ds from n]at b
  obtain⟨l,vs,rfl,y,g⟩:=Rp.lst_inv b;refine⟨l,vs,rfl,g.len,λH' Z' lt=>⟨lt.1 _ _ y,λi d o=>?_⟩⟩;obtain⟨u,w,r⟩:=g.get o;exact⟨u,w,Ba lt.2.1 lt.1 r⟩
 |sh d=>
  have:=n
  subst this;exact f (λ_=>rfl) b
 |own z=>
  cases z with
  |dK z|dT z|ins x C xs G|nst G=>cases n
  |nsl a G=>cases A
  |_=>
   cases n
   exact f (λ_=>rfl) (b.shd (env.grow J).same env.zm J rfl)
 |_=>cases A
def Zd6(ha:XG K mg E te a):SndI K mg E (FE K te) (pIL a):=by
 intro H0 B H σ γ R X Q g h q qx;refine ha H0 B H σ γ _ X _ g h (λs v H1 o L n=>?_) qx;have b:=g.grow L;split at o
 ·rename_i U A;obtain⟨l,C,rfl,hn,f⟩:=n.last g L o.1 A;obtain⟨M,_⟩:=f H1 _ (Later.of b Fr.refl);refine⟨l,rfl,⟨C,SqL.of M⟩,q _ _ _ H1 o.2 L ⟨λi H' Z' J lt=>?_,λH' Z' lt=>?_⟩⟩
  ·obtain⟨r,k2⟩:=f H' Z' lt;have hd:U[i]?=some (U.getD i .non):=by rw[WE,WA J];rfl
   obtain⟨u,w,Y⟩:=k2 i _ hd;refine⟨⟨C,u,SqL.of r,w⟩,λx N y=>?_⟩;obtain⟨rfl,y⟩:=y
   have:=y C (SqL.of r)
   rw[w]at this;cases this
   exact⟨Same.refl _,Y⟩
  ·exact⟨C,SqL.of (f H' Z' lt).1,by lia⟩
 ·rename_i G A
  have z:∃l,v=.ref l/\∀H' Z',Later H0 (zof B γ σ) H1 Z' H'->SqL K H' l (G.map V.int):=by
   cases s with
   |bor d=>
    have n:=Rp.strip n;rw[show d.strip=.scr G from A]at n
    cases n with
    |scr z=>exact⟨_,rfl,λH' Z' lt=>lt.1.seq z⟩
   |sh d=>
    have:=A
    subst this;cases n with
    |scr z=>exact⟨_,rfl,λH' Z' lt=>off_sub.seq (lt.off.seq z)⟩
   |own T|view T=>cases T<;>cases A
   |tmp d=>cases o.1
  obtain⟨l,rfl,f⟩:=z;refine⟨l,rfl,⟨_,f H1 _ (Later.of b Fr.refl)⟩,q _ _ _ H1 o.2 L ⟨λi H' Z' J lt=>?_,λH' Z' lt=>?_⟩⟩
  ·have r:=f H' Z' lt
   have w:(G.map V.int)[i]?=some (.int<|G.getD i 0):=by
    rw[WR,WA J,WE,WA J];rfl
   refine⟨⟨_,_,r,w⟩,λx N y=>?_⟩;obtain⟨rfl,y⟩:=y
   have:=y _ r
   rw[w]at this;cases this
   exact⟨Same.refl _,.int _⟩
  ·exact⟨_,f H' Z' lt,by rw[W9];exact WG _⟩
 ·exact o.elim
def fR1(R:Nat->(Nat->S)->Prop):List D->Prop
 |[.int j]=>(-(2 ^ 62)<=j/\j<2 ^ 62)/\R j.toNat λi=>.sh (.int (0+(i:Int)))
 |_=>False
def fR2(R:Nat->(Nat->S)->Prop):List D->Prop
 |[.int i,.int j]=>(-(2 ^ 62)<=i/\i<2 ^ 62/\-(2 ^ 62)<=j/\j<2 ^ 62)/\R (j-i).toNat λk=>.sh (.int (i+(k:Int)))
 |_=>False
noncomputable def Mn(r:PTA):PTI:=λγ R X=>r γ (λb=>fR1 R (b.map S.d)) X
noncomputable def G1(r:PTA):PTI:=λγ R X=>r γ (λb=>fR2 R (b.map S.d)) X
def Rps.one_inv (h:Rps K H [d] vs):∃v,vs=[v]/\Rp K H d v:=by
 cases h with
 |cons h r=>cases r;exact⟨_,rfl,h⟩
def Rps.two_inv (h:Rps K H [d,e] vs):∃v u,vs=[v,u]/\Rp K H d v/\Rp K H e u:=by
 cases h with
 |cons h r=>cases r with|cons b r=>cases r;exact⟨_,_,rfl,h,b⟩
def Hu{lo n}:Ia K H0 B H1 σ γ (Itr lo n) n λi=>.sh (.int (lo+(i:Int))):=by
 refine⟨λi H' Z' b lt=>⟨b,λx f y=>?_⟩,λH' Z' lt=>WG _⟩;obtain⟨e,y⟩:=y;subst e y;exact⟨Same.refl _,.int _⟩
def O8(x:Kc K mg E n r):SndI K mg E (Rk n) (Mn r):=by
 intro H0 B H σ γ R X Q f h q w;refine x H0 B H σ γ _ X _ f h (λA z H1 b l o=>?_) w;have g:=o.rps (f.grow l).same;unfold fR1 at b;split at b
 ·rename_i j y;rw[y]at g;obtain⟨v,rfl,s⟩:=g.one_inv;rw[s.int_inv];exact⟨j,rfl,b.1.1,b.1.2,q _ _ _ H1 b.2 l Hu⟩
 ·grind
def Zbo(y:Kc K mg E n r):SndI K mg E (OV n) (G1 r):=by
 intro H0 B H σ γ R X Q b h q x;refine y H0 B H σ γ _ X _ b h (λC A H1 f l o=>?_) x;have g:=o.rps (b.grow l).same;unfold fR2 at f;split at f
 ·rename_i i j z;rw[z]at g;obtain⟨v,u,rfl,w,s⟩:=g.two_inv;rw[w.int_inv,s.int_inv];exact⟨i,j,rfl,f.1,q _ _ _ H1 f.2 l Hu⟩
 ·grind
structure Lf (js:Yk) (γ:Γ) (c:PTT) (body:PTS) (R:TB):Prop where
 w:∃(inv:Γ->Prop) (μ:Γ->Nat),inv (clr js γ)/\∀γ',inv γ'->c γ' (λb=>if b=true then
  body {R with nx:=λγ3=>inv (clr js γ3)/\μ (clr js γ3)<μ γ',ct:=λγ3=>inv (clr js γ3)/\μ (clr js γ3)<μ γ',bk:=R.nx} γ' else R.nx γ') (R.ex γ')
noncomputable def GK(b:Yk)(c:PTT)(body:PTS):PTS:=λR γ=>Lf b γ c body R
def Zhh(z:Yk)(J:KD K mg E tt c)(hb:XW K mg E t p):XW K mg E (O9 tt t) (GK z c p):=by
 intro H0 B H σ γ R D hB C h e;obtain⟨inv,G,h0,hs⟩:=h.w;refine⟨λm l H'=>∃f,m=G f/\inv f/\XN K H0 B H' l f/\Fr B H σ γ H' l f,⟨_,_,rfl,h0,(C.clr z).1,(C.clr z).2⟩,?_⟩;rintro m l H' ⟨f,rfl,hi,L,T⟩;refine J H0 B H' l f _ _ _ L (hs f hi) (λb H1 Q Y=>?_) λc N J S'=>e.ex l f c N J (L.grow S') (T.trans<|Fr.grow S');have U:=L.grow Y;have f1:=T.trans (Fr.grow Y);cases b with
 |false=>
  exact e.nx l f H1 Q U f1
 |true=>
  refine⟨λy M=>∃o,G o<G f/\inv o/\XN K H0 B M y o/\Fr B H σ γ M y o,λy M ⟨o,k,a1,a2,a3⟩=>⟨_,k,o,rfl,a1,a2,a3⟩,?_⟩;refine hb H0 B H1 l f _ _ hB U Q ⟨λg n A r s x=>?_,e.rt,λg n c A r s x=>e.ex g n c A r s (f1.trans x),λg n A r s x=>e.nx g n A r s (f1.trans x),λg n A r s x=>?_,λg n d v A r s x=>e.rv g n d v A r s (f1.trans x)⟩
  ·exact⟨_,r.2,r.1,(s.clr z).1,(f1.trans x).trans (s.clr z).2⟩
  ·exact⟨_,r.2,r.1,(s.clr z).1,(f1.trans x).trans (s.clr z).2⟩
end
section
variable {K:Yd}{mg:Yh}{E:L2.St->XK}{H0 H H1 H':Hp}{B Z Z':Addr->Prop}{σ:L2.St}{γ:Γ}
noncomputable def Td(N:Ym)(ds:List D):Γ:=ds.map (λd=>some (arg d))++List.replicate (N.length-ds.length) none
def Zfh{ds vs}(r:Rps K H ds vs)(x:ds.length<=N.length):XN K H (λb=>Mut (H b)) H (start N vs) (Td N ds):=by
 have get:∀i s,(Td N ds)[i]?=some (some s)->∃d,ds[i]?=some d/\s=arg d:=λi s h=>by
  unfold Td at h;by_cases g:i<ds.length
  ·rw[Q8 (by rw[W9];exact g),WR,WA g]at h;exact⟨_,WA g,(WT<|WT h).symm⟩
  ·rw[QD (by rw[W9];lia),Jm]at h;split at h<;>cases h
 have noown:∀(i:Nat) f,(Td N ds)[i]?≠some (some<|.own f):=λi f h=>by
  obtain⟨d,_,e⟩:=get i _ h;rcases AD d with q|q<;>rw[q]at e<;>cases e
 refine⟨Same.refl _,?_,λb h=>h,λi j a y f w b h=>absurd h (noown i f),λi s h=>?_⟩
 ·unfold L2.start Td;simp[r.len]
 ·obtain⟨d,u,rfl⟩:=get i s h;obtain⟨v,n,o⟩:=r.get u;refine⟨v,?_,?_⟩
  ·unfold L2.start;rw[Q8 (by rw[W9];exact(Qf.mp n).1),WR,n];rfl
  ·have l:=Ba (Z:=zof (λb=>Mut (H b)) (Td N ds) (start N vs)) (H:=H) (λb z=>z.elim id λ⟨k,f,_,p,_⟩=>absurd p (noown k f)) (Same.refl _) o;rcases AD d with q|q<;>rw[q]at l ⊢<;>exact l
def Zgm{t p vs Q x n}(h:XO mg c K vs H Q x)(o:XW K mg (λ_=>x) t p)(J:n<=N.length)(q:∀ds R X,c ds R X->ds.length=n/\p {nx:=λ_=>R (.sh .non),rt:=R,ex:=λ_ e=>X e} (Td N ds)):t {nx:=λ_ H'=>Q .non H',rt:=Q} (start N vs) H:=by
 obtain⟨ds,R,X,r,A,w,C⟩:=h;obtain⟨e,q⟩:=q ds R X A;refine o H (λb=>Mut (H b)) H _ _ _ _ (λb z=>Bq z) (Zfh r<|by lia) q ⟨λg l H' f u f1=>w _ _ H' f u.same .non,λs v H' f G y=>w s v H' f G y,λg l c H' f u f1=>C c H' f u.same,λ_ _ _ z=>z.elim,λ_ _ _ z=>z.elim,λ_ _ _ _ _ z=>z.elim⟩
def Zhb(h:XO mg c K vs H Q g)(b:∀ds R X,c ds R X->ds.length=n):vs.length=n:=by
 obtain⟨ds,R,X,r,f,_⟩:=h;rw[r.len]
 grind
noncomputable def atP(φ:Yj)(γ:Γ):Γ:=φ.map λo=>o.bind λj=>(γ[j]?).join
structure Nt (φ:Yj) (γ:Γ) (g:PTG) (c:PTT) (e:PTE) (n:Nat) (item:Nat->S) (R:S->Prop):Prop where
 w:n<=100000/\∃f:Nat->Option D,(∀i,i<n->g (item i) (atP φ γ) λγ2=>c γ2 (λb=>if b=true then e γ2 (λs=>∃d,s.shd=some d/\f i=some d) (λ_=>False)else f i=none) (λ_=>False))/\R (.own ((List.range n).filterMap f))
noncomputable def CK(φ:Yj)(b:PTI)(g:PTG)(c:PTT)(e:PTE):PTE:=λγ R X=>b γ (λn item=>Nt φ γ g c e n item R) X
def FI{i:Nat}{s}(h:(atP φ γ)[i]?=some (some s)):∃j,φ[i]?=some (some j)/\γ[j]?=some (some s):=by
 unfold atP at h;cases e:φ[i]? with
 |none=>grind
 |some o=>
  cases o with
  |_=>grind
theorem E3:∀{φ:Yj},(φ.filterMap id).Nodup->∀(i j k:Nat),φ[i]?=some (some k)->φ[j]?=some (some k)->i=j
 |[],_,i,_,_,h,_=>by simp at h
 |none::r,l,i,j,k,f,b=>by
  cases i with
  |zero=>simp at f
  |succ i=>
   cases j with
   |zero=>simp at b
   |succ j=>exact Qs (· + 1) (E3 (by simpa using l) i j k (by simpa using f)<|by simpa using b)
 |some m::r,l,i,j,k,f,b=>by
  have g:m∉r.filterMap id/\(r.filterMap id).Nodup:=by simpa using l
  have mem:∀{j:Nat},r[j]?=some (some k)->k∈r.filterMap id:=λh=>JY.mpr ⟨some k,Qp h,rfl⟩;cases i with
  |zero=>
   cases j with
   |zero=>rfl
   |succ j=>simp_all
  |succ i=>
   cases j with
   |zero=>simp_all
   |succ j=>exact Qs (· + 1) (E3 g.2 i j k (by simpa using f)<|by simpa using b)
def Ft{i j:Nat}(f:φ[i]?=some (some j)){v}(b:σ[j]?=some (some v)):(atStart φ σ)[i]?=some (some v):=by
 unfold atStart
 grind
def HK{L}(env:XN K H0 B H σ γ)(r:H L=none):∀b o,H b=some o->¬zof B γ σ b->¬zof (λb=>zof B γ σ b\/b=L) (atP φ γ) (atStart φ σ) b:=λb o u z y=>by
 rcases y with(y|y)|⟨s,q,x,n,f,l⟩
 ·grind
 ·grind
 ·obtain⟨m,p,h⟩:=FI n;obtain⟨w,g,_⟩:=env.slot m _ h;rw[Ft p g]at f;exact z (.inr ⟨m,q,x,h,by rw[g];exact Qs some (WT f),l⟩)
def Zk3{L}(env:XN K H0 B H σ γ)(n:Same H H')(M:H L=none)(N:∃r,H' L=some (.lst r))(q:(φ.filterMap id).Nodup) :
  XN K H0 (λb=>zof B γ σ b\/b=L) H' (atStart φ σ) (atP φ γ):=by
 refine⟨env.same.trans n,by unfold atStart atP;simp,λb z=>?_,λi j a a' G es b h1 Y U C T Q=>?_,λi s h=>?_⟩
 ·rcases z with z|rfl
  ·exact TK n (env.zm b z)
  ·obtain⟨r,e⟩:=N;rw[e];trivial
 ·obtain⟨k,g,f⟩:=FI h1;obtain⟨l,A,y⟩:=FI Y;obtain⟨v,p,_⟩:=env.slot k _ f;obtain⟨u,w,_⟩:=env.slot l _ y;rw[Ft g p]at U;rw[Ft A w]at C
  have:=env.own k l a a' G es b f y (by grind) (by rw[w];exact Qs some (WT C)) T Q
  subst this;exact E3 q i j k g A
 ·obtain⟨k,g,f⟩:=FI h;obtain⟨v,p,o⟩:=env.slot k _ f;have J:Same (off (zof B γ σ) H) (off (zof (λb=>zof B γ σ b\/b=L) (atP φ γ)<|atStart φ σ) H'):=XY n (HK env M);refine⟨v,Ft g p,?_⟩;cases s with
  |sh d=>exact Rp.mono J o
  |own G=>
   obtain⟨a,e1,e3,e4⟩:=o;exact⟨a,e1,e3,e4.mono J λb _ x=>n b x⟩
  |_=>exact o
def Sub.of {f:Yk} (g:b.length=σ.length) (l:∀j,j∉f->b[j]?=σ[j]?) (n:∀j∈f,∀v,σ[j]?≠some (some v)):Sub σ b:=⟨g,λi v e=>by
 by_cases h:i∈f
 ·grind
 ·rw[l i h];exact e⟩
structure Zlq (K:Yd) (H0:Hp) (B:Addr->Prop) (H1:Hp) (σ:L2.St) (γ:Γ) (J:It) (n:Nat) (item:Nat->S):Prop where
 go:∀(i:Nat) (H':Hp) (Z':Addr->Prop),i<n->Same H1 H'->Later H0 (zof B γ σ) H1 Z' H'->J.go i H'/\∀x H'',J.yld i H' x H''->Same H' H''/\TV K Z' H0 H' H'' (item i) x
 stop:∀(H':Hp) (Z':Addr->Prop),Same H1 H'->Later H0 (zof B γ σ) H1 Z' H'->J.stop n H'
def Fl(K:Yd)(mg:Yh)(E:L2.St->XK)(b:TI)(f:PTI):Prop:=∀(H0:Hp) (B:Addr->Prop) (H:Hp) (σ:L2.St) (γ:Γ) (R:Nat->(Nat->S)->Prop) (X:XR) (Q:It->Hp->Prop),XN K H0 B H σ γ->f γ R X->
 (∀n item J H1,R n item->Same H H1->Zlq K H0 B H1 σ γ J n item->Q J H1)->(∀c H',X c->Same H H'->XE mg (E σ) c H')->b σ H Q
def SndI.c (h:SndI K mg E f l):Fl K mg E f l:=λH0 B H σ γ R X Q b p q g=>
 h H0 B H σ γ R X Q b p (λn item J H1 r s ok=>q n item J H1 r s ⟨λi H' Z' o _ lt=>ok.go i H' Z' o lt,λH' Z' _ lt=>ok.stop H' Z' lt⟩) g
noncomputable def Hd(a:PTE):PTI:=λγ R X=>a γ (λs=>match s.d with
 | .lst b=>R b.length λi=>s.sub (b.getD i .non)
 | .tup b=>False
 | .scr f=>R f.length λi=>.sh (.int<|f.getD i 0)
 |_=>False) X
def Nh(ha:XG K mg E te a):Fl K mg E (FE K te) (Hd a):=by
 intro H0 B H σ γ R X Q env h q qx;refine ha H0 B H σ γ _ X _ env h (λs v H1 h1 S1 A=>?_) qx;have M:=env.grow S1;split at h1
 ·rename_i ds G;have Y:=A.rp M.same;rw[G]at Y;obtain⟨l,U,rfl,f,r1⟩:=Y.lst_inv;refine⟨l,rfl,⟨U,SqL.of f⟩,q _ _ _ H1 h1 S1 ⟨λi H' Z' hi J lt=>?_,λH' Z' J lt=>⟨U,SqL.of (J _ _ f),by rw[r1.len];exact WG _⟩⟩⟩;have N:ds[i]?=some (ds.getD i .non):=by rw[WE,WA hi];rfl
  have hi':∃u,U[i]?=some u/\TV K Z' H0 H' H' (s.sub<|ds.getD i .non) u:=by
   cases s with
   |bor d=>
    have A:=Rp.strip A;rw[show d.strip=.lst ds from G]at A
    obtain⟨T,o,w,r,p⟩:=Rp.lst_inv A;cases w
    rw[M.same _ _ r]at f;cases f
    obtain⟨u,n,g⟩:=p.get N;exact⟨u,n,Ba lt.2.1 lt.1 g⟩
   |sh d=>
    have:=G
    subst this;obtain⟨T,o,w,r,p⟩:=Rp.lst_inv A;cases w
    rw[off_sub _ _ r]at f;cases f
    obtain⟨u,n,g⟩:=p.get N;exact⟨u,n,Rp.mono lt.off g⟩
   |own L=>
    cases L with
    |dK L|dT L|ins x C xs cs|nst cs=>cases G
    |nsl x cs=>
     obtain⟨u,n,g⟩:=r1.get N;exact⟨u,n,T9 lt.2.1 (Rp.mono J g)⟩
    |lsA x L=>
     cases G
     obtain⟨T,w,h0,_,o,r,p⟩:=A;cases w
     rw[r]at f;cases f
     obtain⟨u,n,g⟩:=p.get N;exact⟨u,n,Rp.mono lt.off (Rp.mono (XY (Same.refl _) λb _ _ z y=>z (.inl y)) g)⟩
    |lst L=>
    cases G
    obtain⟨T,w,h0,o,r,p⟩:=A;cases w
    rw[r]at f;cases f
    obtain⟨u,n,g⟩:=p.get N;exact⟨u,n,Rp.mono lt.off (Rp.mono (XY (Same.refl _) λb _ _ z y=>z (.inl y)) g)⟩
   |view L=>
    cases L with
    |dK L|dT L|ins x C xs cs|nst cs=>cases G
    |nsl x cs=>
     obtain⟨u,n,g⟩:=r1.get N;exact⟨u,n,T9 lt.2.1 (Rp.mono J g)⟩
    |lsA x L=>
     cases G
     obtain⟨T,w,_,o,r,p⟩:=A;cases w
     rw[r]at f;cases f
     obtain⟨u,n,g⟩:=p.get N;exact⟨u,n,Rp.mono lt.off g⟩
    |lst L=>
    cases G
    obtain⟨T,w,o,r,p⟩:=A;cases w
    rw[r]at f;cases f
    obtain⟨u,n,g⟩:=p.get N;exact⟨u,n,Rp.mono lt.off g⟩
   |tmp d=>
    have:=G
    subst this;obtain⟨T,o,w,r,p⟩:=Rp.lst_inv A;cases w
    rw[r]at f;cases f
    obtain⟨u,n,g⟩:=p.get N;exact⟨u,n,T9 lt.2.1 (Rp.mono J g)⟩
  obtain⟨u,hu,tu⟩:=hi';refine⟨⟨U,u,SqL.of (J _ _ f),hu⟩,λx H'' y=>?_⟩;obtain⟨rfl,y⟩:=y
  have:=y U (SqL.of<|J _ _ f)
  rw[hu]at this;cases this
  exact⟨Same.refl _,tu⟩
 ·exact h1.elim
 ·rename_i ns G;have Y:=A.rp M.same;rw[G]at Y;cases Y with
  |scr hs=>
   refine⟨_,rfl,⟨_,hs⟩,q _ _ _ H1 h1 S1 ⟨λi H' Z' hi J lt=>?_,λH' Z' J lt=>⟨_,J.seq hs,by rw[W9];exact WG _⟩⟩⟩
   have hu:(ns.map V.int)[i]?=some (.int<|ns.getD i 0):=by
    rw[WR,WA hi,WE,WA hi];rfl
   refine⟨⟨_,_,J.seq hs,hu⟩,λx H'' y=>?_⟩;obtain⟨rfl,y⟩:=y
   have:=y _ (J.seq hs)
   rw[hu]at this;cases this
   exact⟨Same.refl _,.int _⟩
 ·exact h1.elim
def Pj{φ is wi g tc te it pg c a}(hi:Fl K mg E wi it)(hg:N0 K is g pg)(hc:KD K mg E tc c)(he:XG K mg E te a)(h1:autoParam ((φ.filterMap id).Nodup) au_1)(h2:autoParam (∀j∈is,φ[j]?=some none) au_1):XG K mg E (BH φ wi g tc te) (CK φ it pg c a):=by
 intro H0 B H σ γ R X Q env h q qx;refine hi H0 B H σ γ _ X _ env h (λn item J H1 h1' S1 ok=>?_) qx;obtain⟨hn,f,hf,hR⟩:=h1'.w;have l:=env.grow S1;have hbig:n<=sizeLine:=WQ hn (by decide);intro L U;refine⟨λi m G C=>m=n-i/\i<=n/\Same H1 C/\C L=some (.lst G)/\Rps K (off (λb=>zof B γ σ b\/b=L) C) ((List.range i).filterMap f) G,⟨n,by simp,QL _,Kp U,Kb,.nil⟩,?_⟩;rintro i m G C ⟨rfl,hin,u,hL,p⟩;have A:=l.grow u;by_cases r:i<n
 ·have envI2:=Zk3 l u U ⟨G,hL⟩ h1;obtain⟨go,yl⟩:=ok.go i C _ r u ⟨A.same,envI2.zm,λb o Y z=>⟨u _ _ Y,HK l U b o Y z⟩⟩;refine .inr ⟨go,λx H3 y=>?_⟩;obtain⟨S3,tv⟩:=yl x H3 y;refine hg H0 _ C H3 _ _ _ _ _ _ envI2 S3 tv (hf i r) λN T p2 e2 f2 k2=>⟨?_,?_⟩
  ·refine Sub.of k2.2 k2.1 λj hj v z=>?_;obtain⟨k,k1,_⟩:=Om z;rw[h2 j hj]at k1;cases k1
  ·refine hc H0 _ H3 N T _ _ _ e2 p2 (λb H5 q5 S5=>?_) λ_ _ z=>z.elim;have e5:=e2.grow S5;cases b with
   |false=>
    rw[WI WZ]at q5 ⊢;refine⟨n-(i+1),by lia,rfl,r,(u.trans S3).trans S5,(S3.trans S5) _ _ hL,?_⟩;rw[List.range_succ,VJ];simp only[Vi,q5,List.filterMap_nil,Qz];exact Rps.mono (XY (S3.trans S5) λ_ _ _ z=>z) p
   |true=>
    refine he H0 _ H5 N T _ _ _ e5 q5 (λs v H6 q6 S6 t6=>?_) λ_ _ z=>z.elim;obtain⟨d,hd,hfd⟩:=q6;have M:=(S3.trans S5).trans S6
    have hlen:G.length<=i:=by
     rw[p.len];exact WQ (List.length_filterMap_le _ _) (by rw[Uc];exact WG _)
    refine⟨M _ _ hL,by lia,n-(i+1),by lia,rfl,r,λb o Y=>?_,Kb,?_⟩
    ·rw[XM (K4 Y U)];exact M _ _ (u _ _ Y)
    ·rw[List.range_succ,VJ];have ef:[i].filterMap f=[d]:=by simp[hfd]
     rw[ef]
     have So:Same (off (λb=>zof B γ σ b\/b=L) H6) (off (λb=>zof B γ σ b\/b=L)<|upd H6 L<|.lst (G++[v])):=λb o h=>by
      obtain⟨a1,a2⟩:=T6 h;refine Kz ?_ a2;rwa[XM λz=>a2 (.inr z)]
     refine Rps.append (Rps.mono So<|Rps.mono (XY M λ_ _ _ z=>z) p) (.cons (Rp.mono So<|Rp.mono (XY (Same.refl _) λb _ _ z y=>z (.inl y)) (t6.shd (e5.grow S6).same e5.zm S6 hd)) .nil)
 ·have:i=n:=by lia
  subst this;exact .inl ⟨ok.stop C _ u (Later.of A<|Fr.grow u),q _ _ C hR (S1.trans u) ⟨L,rfl,(λ_ e=>e▸S1.free U),G,hL,p⟩⟩
noncomputable def ED:PTT:=λ_ R _=>R true
def Th:KD K mg E Zaj ED:=λ_ _ H _ _ _ _ _ _ p q _=>q _ H p (Same.refl _)
def Zor{b g:Type}(xs:List b)(f:b->Option g):(List.range xs.length).filterMap (λi=>(xs[i]?).bind f)=xs.filterMap f:=by
 induction xs with
 |nil=>rfl
 |cons x r h=>
  rw[Qn,List.range_succ_eq_map,Vi,List.filterMap_map,Vi];have e:(λi=>((x::r)[i]?).bind f)∘Nat.succ=λi=>(r[i]?).bind f:=rfl;rw[e,h];rfl
end
open M
section
variable {K:Yd}{mg:Yh}{E:L2.St->XK}{H0 H H1 H':Hp}{B Z Z':Addr->Prop}{σ:L2.St}{γ:Γ}
noncomputable def pCB(f:List S->(S->Prop)->Prop)(r:PTA):PTE:=λγ R X=>r γ (λb=>f b R) X
def PJ{f o r}(A:Kc K mg E o r)(h:∀H0 H H1 Z l vs R Q,Same H0 H1->Same H H1->(∀b,Z b->Mut (H b))->TVs K Z H0 H H1 l vs->f l R->(∀s z H',R s->Same H1 H'->TV K Z H0 H H' s z->Q z H')->w vs H1 Q) :
  XG K mg E (tCB w o) (pCB f r):=by
 intro H0 B H σ γ R X Q g p q x;refine A H0 B H σ γ _ X _ g p (λl vs H1 C n v=>?_) x;exact h H0 H H1 _ l vs R Q (g.grow n).same n g.zm v C λs z H' y G u=>q s z H' y (n.trans G) u
noncomputable def S.free:S->List D->Bool
 | .bor _,b=>KI b | .tmp _,b=>KI b | .view (.nst _),b=>KI b | .view (.nsl _ _),b=>KI b|_,_=>true
def TVs.one_inv (h:TVs K Z H0 H H' [s] vs):∃v,vs=[v]/\TV K Z H0 H H' s v:=by
 cases h with
 |cons h r=>cases r;exact⟨_,rfl,h⟩
def TVs.two_inv (h:TVs K Z H0 H H' [s,t] vs):∃v u,vs=[v,u]/\TV K Z H0 H H' s v/\TV K Z H0 H H' t u:=by
 cases h with
 |cons h r=>cases r with|cons b r=>cases r;exact⟨_,_,rfl,h,b⟩
def TV.items (n:Same H0 H') (q:∀b,Z b->Mut (H b)) (A:Same H H') (h:TV K Z H0 H H' s v) (p:s.free ds=true) :
  (s.d=.lst ds->∃a vs,v=.ref a/\H' a=some (.lst vs)/\Rps K (off Z H') ds vs)/\(s.d=.tup ds->∃a vs,v=.ref a/\H' a=some (.tup vs)/\Rps K (off Z H') ds vs):=by
 have g:=λb z=>TK A (q b z);cases s with
 |bor d=>
  have h:=Rp.strip h;refine⟨λe=>?_,λe=>?_⟩<;>rw[show d.strip=_ from e]at h
  ·obtain⟨a,vs,rfl,f,r⟩:=Rp.lst_inv h;exact⟨a,vs,rfl,n _ _ f,Rps.off g (Rps.mono n r) p⟩
  ·obtain⟨a,vs,rfl,f,r⟩:=Rp.tup_inv h;exact⟨a,vs,rfl,n _ _ f,Rps.off g (Rps.mono n r) p⟩
 |sh d=>
  refine⟨λe=>?_,λe=>?_⟩<;>(have u:=e;subst u)
  ·obtain⟨a,vs,rfl,f,r⟩:=Rp.lst_inv h;exact⟨a,vs,rfl,off_sub _ _ f,r⟩
  ·obtain⟨a,vs,rfl,f,r⟩:=Rp.tup_inv h;exact⟨a,vs,rfl,off_sub _ _ f,r⟩
 |own o=>
  cases o with
  |nsl x w=>
   refine⟨λe=>?_,λe=>by cases e⟩;have l:=h.shd n q A rfl;cases e
   obtain⟨a,vs,rfl,f,r⟩:=Rp.lst_inv l;exact⟨a,vs,rfl,off_sub _ _ f,r⟩
  |nst w=>
   refine⟨(λe=>by cases e),λe=>?_⟩;have l:=h.shd n q A rfl;cases e
   obtain⟨a,vs,rfl,f,r⟩:=Rp.tup_inv l;exact⟨a,vs,rfl,off_sub _ _ f,r⟩
  |lst o=>
   refine⟨λe=>?_,λe=>by cases e⟩;cases e
   obtain⟨a,rfl,C,vs,e,r⟩:=h;exact⟨a,vs,rfl,e,Rps.mono (XY (Same.refl _) λb _ _ z y=>z (.inl y)) r⟩
  |lsA x o=>
   refine⟨λe=>?_,λe=>by cases e⟩;cases e
   obtain⟨a,rfl,C,_,vs,e,r⟩:=h;exact⟨a,vs,rfl,e,Rps.mono (XY (Same.refl _) λb _ _ z y=>z (.inl y)) r⟩
  |_=>exact⟨(λe=>by cases e),(λe=>by cases e)⟩
 |view o=>
  cases o with
  |nsl x w=>
   refine⟨λe=>?_,λe=>by cases e⟩;have l:=h.rp n;rw[e]at l;obtain⟨a,vs,rfl,f,r⟩:=Rp.lst_inv l;exact⟨a,vs,rfl,f,Rps.off g r p⟩
  |nst w=>
   refine⟨(λe=>by cases e),λe=>?_⟩;have l:=h.rp n;rw[e]at l;obtain⟨a,vs,rfl,f,r⟩:=Rp.tup_inv l;exact⟨a,vs,rfl,f,Rps.off g r p⟩
  |lst o=>
   refine⟨λe=>?_,λe=>by cases e⟩;cases e
   obtain⟨a,rfl,vs,e,r⟩:=h;exact⟨a,vs,rfl,e,r⟩
  |lsA x o=>
   refine⟨λe=>?_,λe=>by cases e⟩;cases e
   obtain⟨a,rfl,_,vs,e,r⟩:=h;exact⟨a,vs,rfl,e,r⟩
  |_=>exact⟨(λe=>by cases e),(λe=>by cases e)⟩
 |tmp d=>
  refine⟨λe=>?_,λe=>?_⟩<;>(have u:=e;subst u)
  ·obtain⟨a,vs,rfl,f,r⟩:=Rp.lst_inv h;exact⟨a,vs,rfl,f,Rps.off g r p⟩
  ·obtain⟨a,vs,rfl,f,r⟩:=Rp.tup_inv h;exact⟨a,vs,rfl,f,Rps.off g r p⟩
def EO:List S->(S->Prop)->Prop
 |[s],R=>(match s.d with
  | .lst f=>R (.sh<|.int f.length) | .tup f=>R (.sh<|.int f.length) | .scr b=>R (.sh<|.int b.length) | .fL b=>R (.sh<|.int b.length) | .str x=>x.length<=sizeLine/\R (.sh<|.int x.length)|_=>False)
 |_,_=>False
def Bk(A:Kc K mg E u r):XG K mg E (tCB (λxs H Q=>∃x n,xs=[x]/\FT K x H n/\Q (.int n) H) u) (pCB EO r):=by
 refine PJ A λH0 H H1 Z J G R Q y L M p h q=>?_;unfold EO at h;split at h
 ·rename_i s;obtain⟨v,rfl,w⟩:=p.one_inv;have b:=w.rp y;split at h
  ·rename_i C e;rw[e]at b;obtain⟨a,f,rfl,o,g⟩:=b.lst_inv;exact⟨_,_,rfl,.inl ⟨f,SqL.of o,rfl⟩,by rw[g.len];exact q _ _ H1 h (Same.refl _) (.int _)⟩
  ·rename_i C e;rw[e]at b;obtain⟨a,f,rfl,o,g⟩:=b.tup_inv;exact⟨_,_,rfl,.inr ⟨f,SqT.of o,rfl⟩,by rw[g.len];exact q _ _ H1 h (Same.refl _) (.int _)⟩
  ·rename_i z e;rw[e]at b;cases b with
   |scr l=>exact⟨_,_,rfl,.inl ⟨_,l,rfl⟩,by rw[W9];exact q _ _ H1 h (Same.refl _) (.int _)⟩
  ·rename_i z e;rw[e]at b;cases b with
   |fL l=>exact⟨_,_,rfl,.inl ⟨_,.inl (.inr ⟨_,l⟩),rfl⟩,by rw[W9];exact q _ _ H1 h (Same.refl _) (.int _)⟩
  ·rename_i x e;rw[e]at b;rw[b.str_inv];exact⟨_,_,rfl,⟨h.1,rfl⟩,q _ _ H1 h.2 (Same.refl _) (.int _)⟩
  ·exact h.elim
 ·exact h.elim
def Gu:List S->(S->Prop)->Prop
 |[s],R=>(match s.d with
  | .lst b=>s.free b=true/\R (.own b) | .tup b=>s.free b=true/\R (.own b)|_=>False)
 |_,_=>False
def SJ(C:Kc K mg E A r):XG K mg E (tCB (λxs H Q=>∃p g,xs=[.ref p]/\(SqL K H p g\/SqT K H p g)/\∀l,H l=none->Q (.ref l) (upd H l<|.lst g)) A) (pCB Gu r):=by
 refine PJ C λH0 H H1 Z L J R Q x f y z h q=>?_;unfold Gu at h;split at h
 ·rename_i s;obtain⟨v,rfl,w⟩:=z.one_inv;split at h
  ·rename_i G e;obtain⟨a,n,rfl,u,o⟩:=(w.items x y f h.1).1 e;exact⟨a,n,rfl,.inl (SqL.of u),λl b=>q _ _ _ h.2 (Kp b) (N5 f b o)⟩
  ·rename_i G e;obtain⟨a,n,rfl,u,o⟩:=(w.items x y f h.1).2 e;exact⟨a,n,rfl,.inr (SqT.of u),λl b=>q _ _ _ h.2 (Kp b) (N5 f b o)⟩
  ·grind
 ·grind
def Im:List S->(S->Prop)->Prop
 |[s],R=>(match s.d with
  | .lst b=>s.free b=true/\R (.sh<|.tup b) | .tup b=>s.free b=true/\R (.sh<|.tup b)|_=>False)
 |_,_=>False
def OE(L:Kc K mg E J r):XG K mg E (tCB (λxs H Q=>∃p n,xs=[.ref p]/\((SqL K H p n/\∀l,H l=none->Q (.ref l) (upd H l<|.tup n))\/(SqT K H p n/\Q (.ref p) H))) J) (pCB Im r):=by
 refine PJ L λH0 H H1 Z T N R Q C u y G h q=>?_;have f:=λb z=>TK u (y b z);unfold Im at h;split at h
 ·rename_i s;obtain⟨v,rfl,A⟩:=G.one_inv;split at h
  ·rename_i M e;obtain⟨a,o,rfl,g,w⟩:=(A.items C y u h.1).1 e;refine⟨a,o,rfl,.inl ⟨SqL.of g,λl x=>q _ _ _ h.2 (Kp x) (.tup (Kz Kb λz=>?_)<|Rps.mono (XY (Kp x) λ_ _ _ z=>z) w)⟩⟩
   have:=f l z
   rw[x]at this;exact this
  ·rename_i M e;obtain⟨a,o,rfl,g,w⟩:=(A.items C y u h.1).2 e;refine⟨a,o,rfl,.inr ⟨SqT.of g,q _ _ _ h.2 (Same.refl _) (.tup (Kz g λz=>?_) w)⟩⟩
   have:=f a z
   rw[g]at this;exact this
  ·grind
 ·exact h.elim
theorem Rps.ints:∀{b:Yf}{vs:List V},Rps K H (b.map D.int) vs->vs=b.map V.int
 |[],_,.nil=>rfl
 |j::r,_,.cons h t=>by rw[Rp.int_inv h,Rps.ints t];rfl
theorem Rps.of_ints:∀(b:Yf),Rps K H (b.map D.int) (b.map V.int)
 |[]=>.nil
 |j::r=>.cons (.int j) (Rps.of_ints r)
def Zao:List S->(S->Prop)->Prop
 |[s],R=>∃f:Yf,s.d=.lst (f.map D.int)/\f.length<64/\∀b:Yf,b.Perm f->b.Pairwise (·<=·)->R (.own<|b.map D.int)
 |_,_=>False
def BA{f r}(J:Kc K mg E f r):XG K mg E (tCB (λxs H Q=>∃p b,xs=[.ref p]/\b.length<64/\(SqL K H p (b.map V.int)\/H p=some (NV w p b))/\
  ∀l (ns:Yf),H l=none->ns.Perm b->ns.Pairwise (·<=·)->Q (.ref l) (upd H l<|.lst<|ns.map V.int)) f) (pCB Zao r):=by
 refine PJ J λH0 H H1 Z T M R Q z y U u h q=>?_;unfold Zao at h;split at h
 ·rename_i s;obtain⟨v,rfl,x⟩:=u.one_inv;obtain⟨b,e,C,k⟩:=h;have g:=x.rp z;rw[e]at g;obtain⟨a,N,rfl,o,A⟩:=g.lst_inv;rw[A.ints]at o;exact⟨a,b,rfl,C,.inl (SqL.of o),λl ns n L G=>q _ _ _ (k ns L G) (Kp n) (N5 y n<|Rps.of_ints ns)⟩
 ·grind
def Of:List S->(S->Prop)->Prop
 |[s,t],R=>(match s.d,t.d with | .int i,.int j=>R (.sh<|.int (if j>i then j else i))|_,_=>False)
 |_,_=>False
def Zqw(s:Kc K mg E n r):XG K mg E (tCB (λxs H Q=>∃i j,xs=[.int i,.int j]/\Q (.int (if j>i then j else i)) H) n) (pCB Of r):=by
 refine PJ s λH0 H H1 Z z y R Q b A C l h q=>?_;unfold Of at h;split at h
 ·obtain⟨v,u,rfl,p,o⟩:=l.two_inv;have g:=p.rp b;have f:=o.rp b;split at h
  ·rename_i i j x w;rw[x]at g;rw[w]at f;rw[g.int_inv,f.int_inv];exact⟨i,j,rfl,q _ _ H1 h (Same.refl _) (.int _)⟩
  ·grind
 ·grind
def Zrt:List S->(S->Prop)->Prop
 |[s],R=>(match s.d with | .int i=>R (.sh<|.int (if i<0 then -i else i))|_=>False)
 |_,_=>False
noncomputable def tyD:D->Option String
 | .int _=>some "int" | .bl _=>some "bool" | .non=>some "NoneType" | .str _=>some "str" | .tup _=>some "tuple" | .lst _=>some "list" | .fL _=>some "list" | .dK _=>some "dict" | .dT _=>some "dict" |_=>none
inductive KP:String->String->Bool->Prop
 |same (n:String):KP n n true
 |ib:KP "int" "bool" false
 |bi:KP "bool" "int" true
 |tl:KP "tuple" "list" false
 |lt:KP "list" "tuple" false
 |it:KP "int" "tuple" false
 |il:KP "int" "list" false
 |bt:KP "bool" "tuple" false
 |bL:KP "bool" "list" false
 |ti:KP "tuple" "int" false
 |li:KP "list" "int" false
 |si:KP "str" "int" false
 |is:KP "int" "str" false
 |ni:KP "NoneType" "int" false
 |nl:KP "NoneType" "list" false
 |nt:KP "NoneType" "tuple" false
def KP.kit (h:KP m n b):PySem.W.kitOne K (.type m) (.type n)=some b:=by
 cases h with
 |same=>exact Zb7 K _
 |_=>rfl
def Lw:List S->(S->Prop)->Prop
 |[s,t],R=>(match tyD s.d,t.d with|some m,.ty n=>∃b,KP m n b/\R (.sh<|.bl b)|_,_=>False)
 |_,_=>False
def Zgy(h:Rp K H d v)(e:tyD d=some m):Pk K H v (.type m):=by
 cases h with
 |int i=>cases e;exact .int i
 |bl b=>cases e;exact .bl b
 |non=>cases e;exact .non
 |str x=>cases e;exact .str x
 |tup h r=>cases e;exact .tup h
 |lst h r=>cases e;exact .lst h
 |dK h=>cases e;exact .dK h
 |dT h=>cases e;exact .dT h
 |fL h=>cases e;exact .frz h
 |_=>cases e
def Ex(w:Kc K mg E o r):XG K mg E (tCB (λxs H Q=>∃x n t b,xs=[x,.ty n]/\Pk K H x t/\PySem.W.kitOne K t (.type n)=some b/\Q (.bl b) H) o) (pCB Lw r):=by
 refine PJ w λH0 H H1 Z G C R Q f J L l h q=>?_;unfold Lw at h;split at h
 ·obtain⟨v,u,rfl,s,p⟩:=l.two_inv;have g:=p.rp f;split at h
  ·rename_i m n A z;rw[z]at g;rw[g.ty_inv];obtain⟨b,k,y⟩:=h;exact⟨v,n,_,b,rfl,Zgy (s.rp f) A,k.kit,q _ _ H1 y (Same.refl _) (.bl _)⟩
  ·grind
 ·grind
def OL:List S->(S->Prop)->Prop
 |[s,t],R=>(match s.d,t.d with | .int i,.int j=>(-(2 ^ 62)<=i/\i<2 ^ 62/\-(2 ^ 62)<=j/\j<2 ^ 62)/\(j-i).toNat<=1000000/\R (.own ((Ka i (j-i).toNat).map D.int))|_,_=>False)
 |_,_=>False
abbrev Zf0:List V->Hp->VK->Prop:=λxs H Q=>∃(r:Addr) (i j:Int),xs=[.ref r]/\H r=some (.rng i j)/\(-(2 ^ 62)<=i/\i<2 ^ 62/\-(2 ^ 62)<=j/\j<2 ^ 62)/\(j-i).toNat<=1000000/\∀l,H l=none->Q (.ref l) (upd H l<|.lst ((Ka i (j-i).toNat).map V.int))
def Zf7(L:Kc K mg E A r):XG K mg E (tCB Zf0<|Kq (tCB (λxs H Q=>∃i j,xs=[.int i,.int j]/\∀r,H r=none->Q (.ref r) (upd H r<|.rng i j)) A) KH) (pCB OL r):=by
 intro H0 B H σ γ R X Q f p q G;refine L H0 B H σ γ _ X _ f p (λU T H1 b n C=>?_) G;have s:=(f.grow n).same;unfold OL at b;split at b
 ·obtain⟨v,u,rfl,h,g⟩:=C.two_inv;have x:=h.rp s;have w:=g.rp s;split at b
  ·rename_i i j N M;rw[N]at x;rw[M]at w;rw[x.int_inv,w.int_inv];refine⟨i,j,rfl,λa J=>⟨a,i,j,rfl,Kb,b.1,b.2.1,λl y=>?_⟩⟩;have z:=Kp (o:=.rng i j) J;exact q _ _ _ b.2.2 ((n.trans z).trans (Kp y)) (N5 (n.trans z) y<|Rps.of_ints _)
  ·grind
 ·exact b.elim
noncomputable def pBM(f:S->List S->(S->Prop)->Prop)(a:PTE)(r:PTA):PTE:=λγ R X=>a γ (λs=>(∃g,s.d=.lst g)/\r γ (λb=>f s b R) X) X
def RX{f te y a r}(ha:XG K mg E te a)(U:Kc K mg E y r)(h:∀H0 H H1 Z s v u vs R Q,Same H0 H1->Same H H1->(∀b,Z b->Mut (H b))->TV K Z H0 H H1 s v->TVs K Z H0 H H1 u vs->f s u R->(∀s z H',R s->Same H1 H'->TV K Z H0 H H' s z->Q z H')->N v vs H1 Q) :
  XG K mg E (tBM K "list" N te y) (pBM f a r):=by
 intro H0 B H σ γ R X Q n p q G;refine ha H0 B H σ γ _ X _ n p (λs v H1 x o A=>?_) G;have g:=n.grow o;obtain⟨⟨ds,ed⟩,x⟩:=x;have C:=A.rp g.same;rw[ed]at C;obtain⟨l,J,rfl,Y,_⟩:=C.lst_inv;refine⟨.inl ⟨rfl,J,SqL.of Y⟩,U H0 B H1 σ γ _ X _ g x (λu vs H2 h2 w M=>?_) λc H' hc S'=>G c H' hc (o.trans S')⟩;exact h H0 H H2 _ s _ u vs R Q (g.grow w).same (o.trans w) n.zm (A.grow w) (TVs.weakG o M) h2 λs z H' T S3 L=>q s z H' T ((o.trans w).trans S3) L
def O1:S->List S->(S->Prop)->Prop:=λs b R=>match b with
 |[t]=>(match t.d with | .int z=>∃xs:Yf,s.d=.lst (xs.map D.int)/\z∈xs/\R (.sh<|.int (xs.idxOf z:Nat))|_=>False)
 |_=>False
def BZ{a r}(C:XG K mg E te a)(A:Kc K mg E p r):XG K mg E (tBM K "list" (DA K) te p) (pBM O1 a r):=by
 refine RX C A λH0 H H1 Z s v N L R Q g T U x w h q=>?_;unfold O1 at h;split at h
 ·obtain⟨u,rfl,f⟩:=w.one_inv;have n:=f.rp g;split at h
  ·rename_i z e;rw[e]at n;obtain⟨xs,J,y,G⟩:=h;have b:=x.rp g;rw[J]at b;obtain⟨l,M,rfl,o,b⟩:=b.lst_inv;rw[b.ints]at o;exact⟨l,xs,z,rfl,by rw[n.int_inv],SqL.of o,y,q _ _ H1 G (Same.refl _) (.int _)⟩
  ·grind
 ·exact h.elim
noncomputable def prD(p:Int×Int):D:=.tup [.int p.1,.int p.2]
inductive InR:D->D->Bool->Prop
 |li (i:Int) (hs:Yf):InR (.int i) (.lst<|hs.map D.int) (decide (i∈hs))
 |ti (i:Int) (hs:Yf):InR (.int i) (.tup<|hs.map D.int) (decide (i∈hs))
 |lp (q:Int×Int) (ps:Ye):InR (prD q) (.lst<|ps.map prD) (decide (q∈ps))
def fIn(neg:Bool):S->S->(S->Prop)->Prop:=λx y R=>∃b,InR x.d y.d b/\R (.sh<|.bl (if neg then !b else b))
def Rp.pair (h:Rp K H (prD q) v):PB H v q:=by
 obtain⟨a,l,rfl,b,r⟩:=Rp.tup_inv h;obtain⟨x,y,rfl,g,f⟩:=r.two_inv;rw[g.int_inv,f.int_inv]at b;exact⟨a,rfl,b⟩
def Rps.lv {vs} (h:Rps K H (ps.map prD) vs):LV PB H vs ps:=by
 refine⟨by rw[h.len,W9],λi p b=>?_⟩;obtain⟨v,g,f⟩:=h.get (by rw[WR,b];rfl);exact⟨v,g,f.pair⟩
def F6{C A a b}(U:XG K mg E C a)(T:XG K mg E A b):XG K mg E (tOp (λx y H Q=>rIn K neg x y H Q\/BC neg x y H Q) C A) (p2 a b<|fIn neg):=by
 refine Pb U T λH0 H z Z x y v u R Q G Y hm L J h q=>?_;obtain⟨k,s,w⟩:=h;have n:=L.rp G;have g:=J.rp G;generalize ex:x.d=dx at s n;generalize ey:y.d=dy at s g;cases s with
 |li i N=>
  obtain⟨l,o,rfl,f,r⟩:=g.lst_inv;rw[r.ints]at f;rw[n.int_inv];refine .inl ⟨l,_,rfl,.inl (SqL.of f),rfl,SZ _,?_⟩;rw[Oi];exact q _ _ z w (Same.refl _) (.bl _)
 |ti i N=>
  obtain⟨l,o,rfl,f,r⟩:=g.tup_inv;rw[r.ints]at f;rw[n.int_inv];refine .inl ⟨l,_,rfl,.inr (SqT.of f),rfl,SZ _,?_⟩;rw[Oi];exact q _ _ z w (Same.refl _) (.bl _)
 |lp p M=>
  obtain⟨l,o,rfl,f,r⟩:=g.lst_inv;exact .inr ⟨l,M,p,rfl,n.pair,⟨o,f,r.lv⟩,q _ _ z w (Same.refl _) (.bl _)⟩
def SW(neg:Bool):S->S->(S->Prop)->Prop:=λx y R=>match x.d,y.d with
 | .lst g,.lst f=>∃xs b:Yf,g=xs.map D.int/\f=b.map D.int/\R (.sh<|.bl (if neg then !decide (xs=b)else decide (xs=b)))
 |_,_=>fEq neg x y R
def Nu{a b}(T:XG K mg E L a)(N:XG K mg E J b):XG K mg E (tOp (λx y H Q=>rEq x y H Q\/Ny K false x y H Q) L J) (p2 a b<|SW false):=by
 refine Pb T N λH0 H p Z x y v u R Q w s1 s G C h q=>?_;have g:=G.rp w;have f:=C.rp w;unfold SW at h;split at h
 ·rename_i ds es o n;obtain⟨xs,Y,rfl,rfl,U⟩:=h;rw[o]at g;rw[n]at f;obtain⟨l,us,rfl,A,r⟩:=g.lst_inv;obtain⟨m,ws,rfl,s,M⟩:=f.lst_inv;rw[r.ints]at A;rw[M.ints]at s;refine .inr ⟨l,m,_,_,rfl,rfl,SqL.of A,SqL.of s,SZ _,SZ _,?_⟩;rw[G4];exact q _ _ p U (Same.refl _) (.bl _)
 ·refine .inl ?_;unfold fEq at h;split at h
  ·rename_i i j o n;rw[o]at g;rw[n]at f;rw[g.int_inv,f.int_inv];refine⟨rfl,?_⟩;rw[Bj λ_ _ z=>V.int.inj z];exact q _ _ p h (Same.refl _) (.bl _)
  ·rename_i i j o n;rw[o]at g;rw[n]at f;rw[g.str_inv,f.str_inv];refine⟨rfl,?_⟩;rw[Bj λ_ _ z=>V.str.inj z];exact q _ _ p h (Same.refl _) (.bl _)
  ·rename_i i j o n;rw[o]at g;rw[n]at f;rw[g.bl_inv,f.bl_inv];refine⟨rfl,?_⟩;rw[Bj λ_ _ z=>V.bl.inj z];exact q _ _ p h (Same.refl _) (.bl _)
  ·exact h.elim
def Cd{a b}(T:XG K mg E L a)(N:XG K mg E J b):XG K mg E (tOp (λx y H Q=>rNe x y H Q\/Ny K true x y H Q) L J) (p2 a b<|SW true):=by
 refine Pb T N λH0 H p Z x y v u R Q w s1 s G C h q=>?_;have g:=G.rp w;have f:=C.rp w;unfold SW at h;split at h
 ·rename_i ds es o n;obtain⟨xs,Y,rfl,rfl,U⟩:=h;rw[o]at g;rw[n]at f;obtain⟨l,us,rfl,A,r⟩:=g.lst_inv;obtain⟨m,ws,rfl,s,M⟩:=f.lst_inv;rw[r.ints]at A;rw[M.ints]at s;refine .inr ⟨l,m,_,_,rfl,rfl,SqL.of A,SqL.of s,SZ _,SZ _,?_⟩;rw[G4];exact q _ _ p U (Same.refl _) (.bl _)
 ·refine .inl ?_;unfold fEq at h;split at h
  ·rename_i i j o n;rw[o]at g;rw[n]at f;rw[g.int_inv,f.int_inv];refine⟨rfl,?_⟩;rw[Bj λ_ _ z=>V.int.inj z];exact q _ _ p h (Same.refl _) (.bl _)
  ·rename_i i j o n;rw[o]at g;rw[n]at f;rw[g.str_inv,f.str_inv];refine⟨rfl,?_⟩;rw[Bj λ_ _ z=>V.str.inj z];exact q _ _ p h (Same.refl _) (.bl _)
  ·rename_i i j o n;rw[o]at g;rw[n]at f;rw[g.bl_inv,f.bl_inv];refine⟨rfl,?_⟩;rw[Bj λ_ _ z=>V.bl.inj z];exact q _ _ p h (Same.refl _) (.bl _)
  ·exact h.elim
noncomputable abbrev A7(K:Yd)(b:TE):TT:=λσ H Q=>b σ H λx H'=>∃k,AU K x H' k/\Q k H'
noncomputable def Ik(a:PTE):PTT:=λγ R X=>a γ (λx=>match x.d with
 | .bl b=>R b | .lst f=>R (!f.isEmpty) | .tup f=>R (!f.isEmpty) | .int i=>R (i != 0) | .non=>R false|_=>False) X
def Dh{f b:Type}{l:List f}{m:List b}(h:l.length=m.length):l.isEmpty=m.isEmpty:=by
 cases l<;>cases m<;>simp at h ⊢
def Zar(y:XG K mg E te a):KD K mg E (A7 K te) (Ik a):=by
 intro H0 B H σ γ R X Q o p q w;refine y H0 B H σ γ _ X _ o p (λx v H1 g h u=>?_) w;have f:=u.rp (o.grow h).same;split at g
 ·rename_i b e;rw[e]at f;rw[f.bl_inv];exact⟨b,rfl,q _ H1 g h⟩
 ·rename_i z e;rw[e]at f;obtain⟨l,n,rfl,s,r⟩:=f.lst_inv;exact⟨!n.isEmpty,.inl ⟨n,SqL.of s,rfl⟩,by rw[Dh r.len];exact q _ H1 g h⟩
 ·rename_i z e;rw[e]at f;obtain⟨l,n,rfl,s,r⟩:=f.tup_inv;exact⟨!n.isEmpty,.inr (.inl ⟨n,SqT.of s,rfl⟩),by rw[Dh r.len];exact q _ H1 g h⟩
 ·rename_i i e;rw[e]at f;rw[f.int_inv];exact⟨_,rfl,q _ H1 g h⟩
 ·rename_i e;rw[e]at f;rw[f.non_inv];exact⟨_,rfl,q _ H1 g h⟩
 ·exact g.elim
noncomputable def cutD{b:Type}(xs:List b)(lo f:Option Int):List b:=(xs.drop<|HT.sIx xs.length 0 lo).take (HT.sIx xs.length xs.length f-HT.sIx xs.length 0 lo)
noncomputable def RQ:PTO:=λ_ R _=>R none
noncomputable def LU(a:PTE):PTO:=λγ R X=>a γ (λs=>match s.d with | .int i=>R (some i)|_=>False) X
def E6:Bx K mg E Za4 RQ:=λ_ _ H _ _ _ _ _ _ p q _=>q _ H p (Same.refl _)
def Gh(o:XG K mg E te a):Bx K mg E (MZ te) (LU a):=by
 intro H0 B H σ γ R X Q b p q n;refine o H0 B H σ γ _ X _ b p (λx v H1 g h l=>?_) n;have f:=l.rp (b.grow h).same;split at g
 ·rename_i i e;rw[e]at f;exact⟨i,f.int_inv,q _ H1 g h⟩
 ·grind
noncomputable def pSl(a:PTE)(l u:PTO):PTE:=λγ R X=>a γ (λs=>l γ (λlo=>u γ (λf=>match s.d with | .lst b=>s.free b=true/\R (.own<|cutD b lo f)|_=>False) X) X) X
def Rps.cut {lo b} (r:Rps K H ds vs):Rps K H (cutD ds lo b) (Bv vs lo b):=by
 unfold cutD Bv;rw[r.len];exact Rps.take _ (Rps.drop _ r)
def AM{a l u}(U:XG K mg E te a)(N:Bx K mg E G l)(M:Bx K mg E J u):XG K mg E (tSl (CY K) te G J) (pSl a l u):=by
 intro H0 B H σ γ R X Q f p q o;refine U H0 B H σ γ _ X _ f p (λx v H1 h1 h L=>?_) o;refine N H0 B H1 σ γ _ X _ (f.grow h) h1 (λlo H2 Y n=>?_) λc H' s y=>o c H' s (h.trans y);refine M H0 B H2 σ γ _ X _ ((f.grow h).grow n) Y (λhi H3 w A=>?_) λc H' s y=>o c H' s ((h.trans n).trans y);have g:=(h.trans n).trans A;split at w
 ·rename_i ds e;obtain⟨b,C,rfl,T,r⟩:=((L.grow<|n.trans A).items (f.grow g).same f.zm g w.1).1 e;exact⟨b,C,rfl,SqL.of T,λm z=>q _ _ _ w.2 (g.trans<|Kp z) (N5 g z r.cut)⟩
 ·grind
def Rl:S->S->(S->Prop)->Prop:=λx y R=>match x.d,y.d with
 | .lst f,.lst b=>x.free f=true/\y.free b=true/\f.length+b.length<=100000/\R (.own (f++b))
 |_,_=>False
def Sb{a b}(U:XG K mg E L a)(T:XG K mg E J b):XG K mg E (tOp OZ L J) (p2 a b Rl):=by
 refine Pb U T λH0 H H2 Z x y v u R Q s f A G C h q=>?_;unfold Rl at h;split at h
 ·rename_i ds es e1 Y;obtain⟨l,o,rfl,N,r⟩:=(G.items s A f h.1).1 e1;obtain⟨m,n,rfl,g,w⟩:=(C.items s A f h.2.1).1 Y;have M:o.length+n.length<=sizeLine:=by rw[r.len,w.len];exact WQ h.2.2.1 (by decide)
  exact⟨l,m,o,n,rfl,rfl,N,g,M,λp z=>q _ _ _ h.2.2.2 (Kp z) (N5 f z<|r.append w)⟩
 ·grind
noncomputable def Di(i:Nat)(a:PTE):PTS:=λR γ=>match γ[i]? with
 |some (some<|.own<|.lst b)=>a γ (λs=>match s.shd with
  |some d=>b.length<10000000/\R.nx (γ.set i<|some<|.own (b++[d]))
  |none=>False) (R.ex γ)
 |some (some<|.own<|.lsA x b)=>a γ (λs=>match s.shd with
  |some d=>b.length<10000000/\R.nx (γ.set i<|some<|.own<|.lsA x (b++[d]))
  |none=>False) (R.ex γ)
 |_=>False
def Zoe(i:Nat){te a}(Q:XG K mg E te a):XW K mg E (SR<|tBM K "list" DK (Pa i)<|Kq te KH) (Di i a):=by
 intro H0 B H σ γ R D T f h e;unfold Di at h;split at h
 ·rename_i M r;obtain⟨v,q,b,rfl,G,us,w,p⟩:=f.slot i _ r;refine⟨_,q,.inl ⟨rfl,us,SqL.of w⟩,Q H0 B H σ γ _ _ _ f h (λs u H1 n l A=>?_) λc H' C y=>e.ex σ γ c H' C (f.grow y) (Fr.grow y)⟩;have g:=f.grow l;split at n
  ·rename_i d o;refine⟨b,us,u,rfl,rfl,l _ _ w,by rw[p.len];exact VH n.1 (by decide),?_⟩;obtain⟨o,L⟩:=g.mutate (es:=.lst (M++[d])) (us:=.lst (us++[u])) r q trivial λF H' N J=>⟨_,J,Rps.mono N (Rps.append (Rps.mono (XY l λ_ _ _ z=>z) p)<|.cons (A.shd g.same f.zm l o) .nil)⟩;exact e.nx _ _ _ n.2 o ((Fr.grow l).trans L)
  ·exact n.elim
 ·rename_i x M r;obtain⟨v,q,b,rfl,G,rfl,us,w,p⟩:=f.slot i _ r;refine⟨_,q,.inl ⟨rfl,us,SqL.of w⟩,Q H0 B H σ γ _ _ _ f h (λs u H1 n l A=>?_) λc H' C y=>e.ex σ γ c H' C (f.grow y) (Fr.grow y)⟩;have g:=f.grow l;split at n
  ·rename_i d o;refine⟨b,us,u,rfl,rfl,l _ _ w,by rw[p.len];exact VH n.1 (by decide),?_⟩;obtain⟨o,L⟩:=g.mutate (es:=.lsA b (M++[d])) (us:=.lst (us++[u])) r q trivial λF H' N J=>⟨rfl,_,J,Rps.mono N (Rps.append (Rps.mono (XY l λ_ _ _ z=>z) p)<|.cons (A.shd g.same f.zm l o) .nil)⟩;exact e.nx _ _ _ n.2 o ((Fr.grow l).trans L)
  ·exact n.elim
 ·exact h.elim
end
section
variable {X:Cx}{K:Yd}
def A5(b:X.A.in1.units<cLine)(f:autoParam (X.K=K) au_0):OpR X (compareOp .In) (λx y H Q=>rIn K false x y H Q\/BC false x y H Q):=(Znx f).or (Zjt b)
def Znu(b:X.A.in1.units<cLine)(f:autoParam (X.K=K) au_0):OpR X (compareOp .NotIn) (λx y H Q=>rIn K true x y H Q\/BC true x y H Q):=(LX f).or (Zem b)
def NQ(b:X.A.units<cLine)(f:autoParam (X.K=K) au_0):OpR X (compareOp .Eq) (λx y H Q=>rEq x y H Q\/Ny K false x y H Q):=by subst f;exact op_eq.or (Zif b)
def Zjs(b:X.A.units<cLine)(f:autoParam (X.K=K) au_0):OpR X (compareOp .NotEq) (λx y H Q=>rNe x y H Q\/Ny K true x y H Q):=by subst f;exact op_ne.or (Zlw b)
def Nw(f:PE X e te)(g:autoParam (X.K=K) au_0)(b:autoParam (∀whole,isTrue e X.env whole=(do let v ←whole;standAt e.pos;holding [v] (truthy v))) au_3):PT X e (A7 K te):=by
 subst g;exact Zob f b
def SA(f:autoParam (X.K=K) au_0):K8 X (.type "list") (λxs H Q=>∃p b,xs=[.ref p]/\(SqL K H p b\/SqT K H p b)/\∀l,H l=none->Q (.ref l) (upd H l<|.lst b)):=by subst f;exact Lp
def Za6(f:autoParam (X.K=K) au_0):K8 X (.type "tuple") (λxs H Q=>∃p b,xs=[.ref p]/\((SqL K H p b/\∀l,H l=none->Q (.ref l) (upd H l<|.tup b))\/(SqT K H p b/\Q (.ref p) H))):=by subst f;exact Zhu
def E7(f:autoParam (X.K=K) au_0):K8 X (.builtin "isinstance") (λxs H Q=>∃x n t b,xs=[x,.ty n]/\Pk K H x t/\PySem.W.kitOne K t (.type n)=some b/\Q (.bl b) H):=by subst f;exact Zjp
def EB(b:autoParam (X.K=K) au_0):SlR X (CY K):=by subst b;exact Zp4
def BX(f:X.calm=true){w}(g:autoParam (X.K=K) au_0)(hw:autoParam (X.w=w) au_0):K8 X (.builtin "sorted") (λxs H Q=>∃p b,xs=[.ref p]/\b.length<64/\(SqL K H p (b.map V.int)\/H p=some (NV w p b))/\
  ∀l (ns:Yf),H l=none->ns.Perm b->ns.Pairwise (·<=·)->Q (.ref l) (upd H l<|.lst<|ns.map V.int)):=by subst g;subst hw;exact LO f
def TL{f l b}(g:PE X l b)(h:autoParam (X.K=K) au_0):PI X f l (FE K b):=by subst h;exact MH g
end
section
variable {P:Program}{w:World}{K:Yd}{mg:Yh}{base:Heap}{H H':Hp}
def Zqo(C:Callee P w K mg base CX k x ps sp)(h:∀ds R X vs H Q E,Rps K H ds vs->c ds R X->(∀s v H',R s->Same H H'->TV K (λb=>Mut (H b)) H H H' s v->Q v H')->(∀e H',X e->Same H H'->XE mg E e H')->sp vs H Q E) :
  Callee P w K mg base CX k x ps (XO mg c K):=by
 obtain⟨f,o,F,rest⟩:=C.ex;exact⟨f,o,F.imp λvs H Q E ⟨ds,R,X,r,g,n,l⟩=>h ds R X vs H Q E r g n l,rest⟩
def Rp.ints_inv {ns:Yf}{v} (h:Rp K H (.lst<|ns.map D.int) v):∃a,v=.ref a/\H a=some (.lst<|ns.map V.int):=by
 obtain⟨a,f,rfl,b,r⟩:=h.lst_inv;rw[r.ints]at b
 grind
def Rp.pairs_inv {v} (h:Rp K H (.lst<|ps.map prD) v):∃a,v=.ref a/\LAt PB H a ps:=by
 obtain⟨a,b,rfl,f,r⟩:=h.lst_inv;exact⟨a,rfl,b,f,r.lv⟩
def Zp8{ns:Yf}(n:H a=none)(h:H' a=some (.lst<|ns.map V.int)):TV K (λb=>Mut (H b)) H H H' (.own<|ns.map D.int) (.ref a):=⟨a,rfl,(λ_ e=>e▸n),_,h,Rps.of_ints ns⟩
theorem TJ:∀(ns:Yf),KI (ns.map D.int)=true
 |[]=>rfl
 |n::r=>by rw[Qe];unfold KI;rw[TJ r];unfold imm;rfl
def Zn5(p:Int×Int):imm (prD p)=true:=rfl
theorem FZ:∀(ps:Ye),KI (ps.map prD)=true
 |[]=>rfl
 |p::r=>by rw[Qe];unfold KI;rw[FZ r,Zn5];rfl
def Zrr{b:Type}{f:b->D}{xs:List b}{i}(h:i<xs.length):(xs.map f).getD i .non=f xs[i]:=by grind
def TC{b:Type}{f:b->D}{xs:List b}{i}(g:0<=i)(h:i<(xs.length:Int)):atI (xs.map f) i=some (f (xs[i.toNat]'(by lia))):=by
 have l:i.toNat<xs.length:=by lia
 exact Ph (EJ g<|WA l)
def Zko{b:Type}{f:b->D}{xs:List b}{i}(h:i<xs.length):atI (xs.map f) (i:Int)=some (f xs[i]):=Ph (Tz<|WA h)
def Ki{l:Type}{φ}{γ}{g}{c}{e}{s:S}{R}{xs:List l}{emb}(f:l->Option D)(n:xs.length<=100000)(turn:∀x∈xs,g (s.sub<|emb x) (atP φ γ) λh=>c h (λb=>if b=true then e h (λs=>∃d,s.shd=some d/\f x=some d) (λ_=>False)else f x=none) λ_=>False)(done:R (.own<|xs.filterMap f)) :
  Nt φ γ g c e (xs.map emb).length (λi=>s.sub ((xs.map emb).getD i .non)) R:=by
 rw[W9];refine⟨⟨n,λi=>(xs[i]?).bind f,λi o=>?_,by rw[Zor];exact done⟩⟩;simp_all
def BR{g c e item R n}(f:Nat->Option D)(o:n<=100000)(turn:∀i,i<n->g (item i) (atP φ l) λh=>c h (λb=>if b=true then e h (λs=>∃d,s.shd=some d/\f i=some d) (λ_=>False)else f i=none) λ_=>False)(done:R (.own ((List.range n).filterMap f))) :
  Nt φ l g c e n item R:=⟨⟨o,f,turn,done⟩⟩
def Pm{n:Type}{js}{γ}{g}{body}{s:S}{R}{xs:List n}{emb}(inv:Nat->Γ->Prop)(p:inv 0 (clr js γ))(turn:∀i o b,inv i b->g (s.sub (emb xs[i])) b λl=>body {R with nx:=λf=>inv (i+1) (clr js f),ct:=λf=>inv (i+1) (clr js f),bk:=R.nx} l)(done:∀b,inv xs.length b->R.nx b) :
  B9 js γ g body R (xs.map emb).length (λi=>s.sub ((xs.map emb).getD i .non)):=by
 refine⟨⟨inv,p,λi b o h=>?_,λb h=>?_⟩⟩
 ·grind
 ·grind
def Sx{n item}(inv:Nat->Γ->Prop)(p:inv 0 (clr l o))(turn:∀i b,i<n->inv i b->g (item i) b λh=>body {R with nx:=λf=>inv (i+1) (clr l f),ct:=λf=>inv (i+1) (clr l f),bk:=R.nx} h)(done:∀b,inv n b->R.nx b):B9 l o g body R n item:=⟨⟨inv,p,turn,done⟩⟩
def Am(inv:Γ->Prop)(h:Γ->Nat)(o:inv (clr l n))(turn:∀f,inv f->c f (λb=>if b=true then body {R with nx:=λg=>inv (clr l g)/\h (clr l g)<h f,ct:=λg=>inv (clr l g)/\h (clr l g)<h f,bk:=R.nx} f else R.nx f) (R.ex f)):Lf l n c body R:=⟨⟨inv,h,o,turn⟩⟩
def AK(J:Γ->Prop)(h:p {R with nx:=J} f)(g:∀b,J b->q R b):HD p q R f:=⟨⟨J,h,g⟩⟩
theorem Pf{b:Type}(c:b->Bool)(emb:b->D):∀f:List b,f.filterMap (λq=>if c q=true then some (emb q)else none)=(f.filter c).map emb
 |[]=>rfl
 |q::r=>by
  by_cases h:c q=true
  ·rw[List.filterMap_cons_some (by rw[WK h]),List.filter_cons_of_pos h,Qe,Pf c emb r]
  ·rw[List.filterMap_cons_none (by grind),List.filter_cons_of_neg h,Pf c emb r]
def Tg{b:Type}(emb:b->D)(f:List b):f.filterMap (λq=>some (emb q))=f.map emb:=by simp
def Sw(f:g->D)(xs:List g)(lo b:Option Int):cutD (xs.map f) lo b=(cutD xs lo b).map f:=by
 unfold cutD;simp
def EU(xs:List b){n}(h:0<=n):cutD xs none (some n)=xs.take n.toNat:=by
 unfold cutD;have e:n=(n.toNat:Int):=by lia
 rw[HT.IK,e,HT.Hh,List.drop_zero,Nat.sub_zero,Q3];by_cases c:n.toNat<=xs.length
 ·simp
 ·simp
def Ac(xs:List b){n}(h:0<=n):cutD xs (some n) none=xs.drop n.toNat:=by
 unfold cutD;have e:n=(n.toNat:Int):=by lia
 rw[HT.IK,e,HT.Hh,Q3];by_cases c:n.toNat<=xs.length
 ·grind
 ·rw[Nat.min_eq_right (by lia),List.drop_of_length_le (WG _),List.drop_of_length_le (by lia)];simp
noncomputable def A2(K:Yd):Sp:=λb H Q _=>∃(a:Addr) (f:Yf),b=[.ref a]/\SqL K H a (f.map V.int)/\∀H',Q (.bl true) H'
noncomputable def GM:Pc:=λf R _=>∃b:Yf,f=[.scr b]/\R (.sh<|.bl true)
def Zcl(h:A2 K vs H Q l):XO mg GM K vs H Q l:=by
 obtain⟨a,b,rfl,g,q⟩:=h;refine⟨[.scr b],λs=>s=.sh (.bl true),λ_=>False,.cons (.scr g) .nil,⟨b,rfl,rfl⟩,λs v H' e n f=>?_,λ_ _ z=>z.elim⟩;subst e;cases f
 grind
end
section
variable {K:Yd}{mg:Yh}{E:L2.St->XK}{H0 H H1 H':Hp}{B Z Z':Addr->Prop}{σ:L2.St}{γ:Γ}
noncomputable def Ai:D->Option V
 | .int i=>some (.int i) | .bl b=>some (.bl b) | .non=>some .non | .str x=>some (.str x)|_=>none
noncomputable def vD:V->D
 | .int i=>.int i | .bl b=>.bl b | .str x=>.str x|_=>.non
noncomputable def Fw:V->Bool
 | .int _=>true | .bl _=>true | .str _=>true | .non=>true|_=>false
def DH(h:Fw v=true):Rp K H (vD v) v:=by
 cases v with
 |int i=>exact .int i
 |bl b=>exact .bl b
 |str x=>exact .str x
 |non=>exact .non
 |_=>cases h
def AC(h:Rp K H d v)(e:Ai d=some u):v=u:=by
 cases h with
 |int i|bl b|non|str x=>cases e;rfl
 |_=>cases e
noncomputable def BV:D->Option Key
 | .int i=>some (.inl i) | .str x=>some (.inr x)|_=>none
noncomputable def S8:List D->Option (List Key)
 |[]=>some []
 |d::r=>match BV d,S8 r with
  |some k,some b=>some (k::b)
  |_,_=>none
noncomputable def SE:D->Option (List Key)
 | .tup b=>S8 b
 |_=>none
def BP(h:Rp K H d v)(e:BV d=some k):v=kV k:=by
 cases h with
 |int i|str x=>cases e;rfl
 |_=>cases e
def Zjh:∀{ds vs}{b:List Key},Rps K H ds vs->S8 ds=some b->vs=b.map kV:=by
 intro ds
 induction ds with
 |nil=>
  intro _ _ h e;cases h
  cases e
  rfl
 |cons _ _ f=>
  intro _ b h e;cases h with
  |cons h r=>
   unfold S8 at e;split at e
   ·rename_i k n l g;cases e
    rw[BP h l,f r g];rfl
   ·grind
def Fg(h:Rp K H d v)(e:SE d=some f):∃b,v=.ref b/\H b=some (.tup<|f.map kV):=by
 cases h with
 |tup h r=>
  rw[Zjh r e]at h
  grind
 |_=>cases e
def Rp.dK_inv (h:Rp K H (.dK b) v):∃a,v=.ref a/\H a=some (.dK b):=by
 cases h with
 |dK h=>grind
def Rp.dT_inv (h:Rp K H (.dT b) v):∃a,v=.ref a/\H a=some (.dT b):=by
 cases h with
 |dT h=>grind
noncomputable def Zpp:PTE:=λ_ R _=>R (.own<|.dK [])
noncomputable def Zgi:PTE:=λ_ R _=>R (.own<|.dT [])
def IW:XG K mg E Mi Zpp:=by
 intro H0 B H σ γ R X Q f p q _ l b;exact q _ _ _ p (Kp b) ⟨l,rfl,(λ_ e=>e▸b),Kb⟩
def Zbi:XG K mg E Zbb Zgi:=by
 intro H0 B H σ γ R X Q f p q _ l b;exact q _ _ _ p (Kp b) ⟨l,rfl,(λ_ e=>e▸b),Kb⟩
def M8:S->S->(S->Prop)->Prop:=λx y R=>match x.d with
 | .dK b=>∃k v,BV y.d=some k/\XX b k=some v/\Fw v=true/\R (.sh<|vD v)
 | .dT b=>∃k v,SE y.d=some k/\XX b k=some v/\Fw v=true/\R (.sh<|vD v)
 |_=>False
def NJ{a b}(N:XG K mg E M a)(p:XG K mg E g b):XG K mg E (GC M g) (p2 a b M8):=by
 refine Pb N p λH0 H J Z x y v u R Q C T U L g h q=>?_;have f:=L.rp C;have G:=g.rp C;unfold M8 at h;split at h
 ·rename_i n e;rw[e]at f;obtain⟨l,rfl,o⟩:=f.dK_inv;obtain⟨k,w,A,z,s,r⟩:=h;refine⟨l,w,rfl,?_,q _ _ J r (Same.refl _) (DH s)⟩;rw[BP G A,←z];exact DGet.k o
 ·rename_i n e;rw[e]at f;obtain⟨l,rfl,o⟩:=f.dT_inv;obtain⟨k,w,A,z,s,r⟩:=h;obtain⟨b,rfl,p⟩:=Fg G A;refine⟨l,w,rfl,?_,q _ _ J r (Same.refl _) (DH s)⟩;rw[←z];exact DGet.t o p
 ·grind
def FK(neg:Bool):S->S->(S->Prop)->Prop:=λy x R=>match x.d with
 | .dK b=>∃k,BV y.d=some k/\R (.sh<|.bl (if neg then !(XX b k).isSome else(XX b k).isSome))
 | .dT b=>∃k,SE y.d=some k/\R (.sh<|.bl (if neg then !(XX b k).isSome else(XX b k).isSome))
 |_=>False
def ON{w f a b}(J:XG K mg E f a)(p:XG K mg E w b):XG K mg E (OQ f w) (p2 a b<|FK false):=by
 refine Pb J p λH0 H C Z y x u v R Q z L M f G h q=>?_;have g:=G.rp z;have A:=f.rp z;unfold FK at h;split at h
 ·rename_i n e;rw[e]at g;obtain⟨l,rfl,o⟩:=g.dK_inv;obtain⟨k,s,r⟩:=h;refine⟨l,_,rfl,?_,q _ _ C r (Same.refl _) (.bl _)⟩;rw[BP A s];exact DGet.k o
 ·rename_i n e;rw[e]at g;obtain⟨l,rfl,o⟩:=g.dT_inv;obtain⟨k,s,r⟩:=h;obtain⟨b,rfl,p⟩:=Fg A s;exact⟨l,_,rfl,DGet.t o p,q _ _ C r (Same.refl _) (.bl _)⟩
 ·grind
def Zny{w f a b}(J:XG K mg E f a)(p:XG K mg E w b):XG K mg E (Hq f w) (p2 a b<|FK true):=by
 refine Pb J p λH0 H C Z y x u v R Q z L M f G h q=>?_;have g:=G.rp z;have A:=f.rp z;unfold FK at h;split at h
 ·rename_i n e;rw[e]at g;obtain⟨l,rfl,o⟩:=g.dK_inv;obtain⟨k,s,r⟩:=h;refine⟨l,_,rfl,?_,q _ _ C r (Same.refl _) (.bl _)⟩;rw[BP A s];exact DGet.k o
 ·rename_i n e;rw[e]at g;obtain⟨l,rfl,o⟩:=g.dT_inv;obtain⟨k,s,r⟩:=h;obtain⟨b,rfl,p⟩:=Fg A s;exact⟨l,_,rfl,DGet.t o p,q _ _ C r (Same.refl _) (.bl _)⟩
 ·grind
noncomputable def HA(i:Nat)(b a:PTE):PTS:=λR γ=>match γ[i]? with
 |some (some<|.own<|.dK f)=>a γ (λs=>b γ (λy=>∃k u,BV y.d=some k/\Ai s.d=some u/\f.length<100000/\R.nx (γ.set i<|some<|.own<|.dK<|putK f k u)) (R.ex γ)) (R.ex γ)
 |some (some<|.own<|.dT f)=>a γ (λs=>b γ (λy=>∃k u,SE y.d=some k/\Ai s.d=some u/\f.length<100000/\R.nx (γ.set i<|some<|.own<|.dT<|putK f k u)) (R.ex γ)) (R.ex γ)
 |_=>False
def Aw(i:Nat){ty tv a b}(hb:XG K mg E ty b)(ha:XG K mg E tv a):XW K mg E (LI (Pa i) ty tv) (HA i b a):=by
 intro H0 B H σ γ R D hB n h e;have hx:=λc H' C r=>e.ex σ γ c H' C (n.grow r) (Fr.grow r);unfold HA at h;split at h
 ·rename_i o A;obtain⟨v,x,l,rfl,U,T⟩:=n.slot i _ A;refine ha H0 B H σ γ _ _ _ n h (λs u H1 h1 p J=>⟨_,x,?_⟩) hx;have f:=n.grow p;refine hb H0 B H1 σ γ _ _ _ f h1 (λy w H2 h2 q G=>?_) λc H' C r=>hx c H' C (p.trans r);obtain⟨k,z,Q,N,M,L⟩:=h2;have g:=f.grow q;have eu:=AC (J.rp f.same) N;have ew:=BP (G.rp g.same) Q;subst eu ew;refine⟨l,_,rfl,DPut.k (q _ _<|p _ _ T) (VH M<|by decide),?_⟩;obtain⟨e2,f2⟩:=g.mutate (es:=.dK (putK o k u)) (us:=.dK (putK o k u)) A x trivial λF H' SF hF=>hF;exact e.nx _ _ _ L e2 ((Fr.grow<|p.trans q).trans f2)
 ·rename_i o A;obtain⟨v,x,l,rfl,U,T⟩:=n.slot i _ A;refine ha H0 B H σ γ _ _ _ n h (λs u H1 h1 p J=>⟨_,x,?_⟩) hx;have f:=n.grow p;refine hb H0 B H1 σ γ _ _ _ f h1 (λy w H2 h2 q G=>?_) λc H' C r=>hx c H' C (p.trans r);obtain⟨k,z,Q,N,M,L⟩:=h2;have g:=f.grow q;have eu:=AC (J.rp f.same) N;obtain⟨b',rfl,Y⟩:=Fg (G.rp g.same) Q;subst eu;refine⟨l,_,rfl,DPut.t (q _ _<|p _ _ T) Y (VH M<|by decide),?_⟩;obtain⟨e2,f2⟩:=g.mutate (es:=.dT (putK o k u)) (us:=.dT (putK o k u)) A x trivial λF H' SF hF=>hF;exact e.nx _ _ _ L e2 ((Fr.grow<|p.trans q).trans f2)
 ·exact h.elim
noncomputable def G3(a:PTE):PTS:=λR γ=>a γ (λs=>match s.shd with|some d=>R.rt (.sh d)|none=>False) (R.ex γ)
def Zkt(r:XG K mg E te a):XW K mg E (Sf te) (G3 a):=by
 intro H0 B H σ γ R D u f h e;refine r H0 B H σ γ _ _ _ f h (λs v H1 l g o=>?_) λc H' q n=>e.ex σ γ c H' q (f.grow n) (Fr.grow n);split at l
 ·rename_i d p;exact e.rt (.sh d) v H1 l (f.same.trans g) (Rp.mono (XY (Same.refl _) λb _ _ z y=>z (.inl y)) (o.shd (f.grow g).same f.zm g p))
 ·grind
noncomputable def Cv(i:Nat)(γ:Γ):Nat:=match γ[i]? with
 |some (some<|.own<|.lst b)=>b.length
 |_=>0
noncomputable def pIE(r:PTA):PTI:=λγ R X=>r γ (λf=>match f with
 |[s]=>(match s.d with
  | .lst b=>s.fix=true/\KI b=true/\R b.length λi=>.sh (.tup [.int i,b.getD i .non])
  |_=>False)
 |_=>False) X
theorem GL:∀{ds}{i:Nat}{d:D},KI ds=true->ds[i]?=some d->imm d=true
 |[],i,d,_,e=>by simp at e
 |a::r,0,d,h,e=>by
  unfold KI at h
  grind
 |a::r,i+1,d,h,e=>by
  exact GL (Qb _ _▸h).2 (by trivial)
def Zdr{s:S}{d}(h:imm d=true):(s.sub d).shd=some d:=by
 cases s with
 |bor b=>show(arg d).shd=_;unfold arg;rw[h];rfl
 |tmp b=>show(KJ d).shd=_;unfold KJ;rw[h];rfl
 |sh b=>rfl
 |own b|view b=>
  cases b with
  |nst f|nsl a f=>show(KJ d).shd=_;unfold KJ;rw[h];rfl
  |_=>rfl
def Ov(hr:Kc K mg E N r):SndI K mg E (IQ K N) (pIE r):=by
 intro H0 B H σ γ R X Q f h q Y;refine hr H0 B H σ γ _ X _ f h (λss g H1 b A U=>?_) Y;split at b
 ·rename_i s;obtain⟨v,rfl,n⟩:=U.one_inv;split at b
  ·rename_i L ed;obtain⟨l,g,rfl,hn,w⟩:=n.last f A b.1 ed;obtain⟨p,_⟩:=w H1 _ (Later.of (f.grow A) Fr.refl);refine⟨l,rfl,⟨g,SqL.of p⟩,q _ _ _ H1 b.2.2 A ⟨λi H' Z' hi lt=>?_,λH' Z' lt=>?_⟩⟩
   ·obtain⟨C,k2⟩:=w H' Z' lt;have J:L[i]?=some (L.getD i .non):=by grind
    obtain⟨u,G,M⟩:=k2 i _ J;refine⟨⟨g,u,SqL.of C,G⟩,λx H'' y=>?_⟩;obtain⟨T,v,o,hv,rfl,rfl⟩:=y
    have:=hv g (SqL.of C)
    rw[G]at this;cases this
    refine⟨Kp o,.tup (Kz Kb λz=>?_) (.cons (.int _)<|.cons (Rp.mono (XY (Kp o) λ_ _ _ z=>z)<|M.shd lt.1 lt.2.1 (Same.refl _)<|Zdr<|GL b.2.1 J) .nil)⟩
    have:=lt.2.1 T z
    rw[o]at this;exact this
   ·exact⟨g,SqL.of (w H' Z' lt).1,by lia⟩
  ·exact b.elim
 ·exact b.elim
def LZ{n:Type}{js}{γ}{g}{body}{R}{xs:List n}{emb}(inv:Nat->Γ->Prop)(p:inv 0 (clr js γ))(turn:∀i o b,inv i b->g (.sh<|.tup [.int i,emb xs[i]]) b λl=>body {R with nx:=λf=>inv (i+1) (clr js f),ct:=λf=>inv (i+1) (clr js f),bk:=R.nx} l)(done:∀b,inv xs.length b->R.nx b) :
  B9 js γ g body R (xs.map emb).length (λi=>.sh (.tup [.int i,(xs.map emb).getD i .non])):=by
 refine⟨⟨inv,p,λi b o h=>?_,λb h=>?_⟩⟩
 ·grind
 ·grind
def N9(d:b)(ds:List b):atI (d::ds) 0=some d:=EJ (by simp) rfl
noncomputable def em(l:Int)(p:Yf):D:=.lst ((l::p).map D.int)
def Ey(l:Int)(p:Yf):atI ((l::p).map D.int) (-1)=some (.int<|XT l p):=by
 refine Ph ?_;unfold atI ixN;rw[WI (by lia),WK (by grind)];have e:(-1+((l::p).length:Int)).toNat=p.length:=by grind
 rw[e];exact Al l p
def Lj:List S->(S->Prop)->Prop
 |[s],R=>∃b:Yf,s.d=.lst (b.map D.int)/\R (.sh<|.int b.sum)
 |_,_=>False
def G2(o:Kc K mg E g r):XG K mg E (tCB (λxs H Q=>∃(p:Addr) (ns:Yf),xs=[.ref p]/\SqL K H p (ns.map V.int)/\Q (.int ns.sum) H) g) (pCB Lj r):=by
 refine PJ o λH0 H H1 Z x w R Q n y z f h q=>?_;unfold Lj at h;split at h
 ·obtain⟨v,rfl,l⟩:=f.one_inv;obtain⟨ns,e,u⟩:=h;have b:=l.rp n;rw[e]at b;obtain⟨a,rfl,s⟩:=b.ints_inv;exact⟨a,ns,rfl,SqL.of s,q _ _ H1 u (Same.refl _) (.int _)⟩
 ·grind
def RZ:List S->(S->Prop)->Prop
 |[s],R=>∃b:Yf,s.d=.lst (b.map D.int)/\0<b.length/\∀m,m∈b->(∀a∈b,m<=a)->R (.sh<|.int m)
 |_,_=>False
def Zlc(s:Kc K mg E l r):XG K mg E (tCB (λxs H Q=>∃(p:Addr) (ns:Yf),xs=[.ref p]/\SqL K H p (ns.map V.int)/\0<ns.length/\∀M,M∈ns->(∀a∈ns,M<=a)->Q (.int M) H) l) (pCB RZ r):=by
 refine PJ s λH0 H H1 Z A z R Q o C G g h q=>?_;unfold RZ at h;split at h
 ·obtain⟨v,rfl,n⟩:=g.one_inv;obtain⟨ns,e,b,w⟩:=h;have f:=n.rp o;rw[e]at f;obtain⟨a,rfl,u⟩:=f.ints_inv;exact⟨a,ns,rfl,SqL.of u,b,λm y x=>q _ _ H1 (w m y x) (Same.refl _) (.int _)⟩
 ·grind
def HJ:List S->(S->Prop)->Prop
 |[s],R=>∃bs:List Bool,s.d=.lst (bs.map D.bl)/\R (.sh<|.bl<|bs.any id)
 |_,_=>False
theorem Rps.bls:∀{b:List Bool}{vs:List V},Rps K H (b.map D.bl) vs->vs=b.map V.bl
 |[],_,.nil=>rfl
 |j::r,_,.cons h t=>by rw[Rp.bl_inv h,Rps.bls t];rfl
def GS(u:Kc K mg E l r):XG K mg E (tCB (λxs H Q=>∃(p:Addr) (bs:List Bool),xs=[.ref p]/\SqL K H p (bs.map V.bl)/\Q (.bl<|bs.any id) H) l) (pCB HJ r):=by
 refine PJ u λH0 H H1 Z z x R Q o A C g h q=>?_;unfold HJ at h;split at h
 ·obtain⟨v,rfl,n⟩:=g.one_inv;obtain⟨bs,e,w⟩:=h;have b:=n.rp o;rw[e]at b;obtain⟨a,y,rfl,f,s⟩:=b.lst_inv;rw[s.bls]at f;exact⟨a,bs,rfl,SqL.of f,q _ _ H1 w (Same.refl _) (.bl _)⟩
 ·grind
def OI(neg:Bool):S->S->(S->Prop)->Prop:=λx y R=>match x.d,y.d with
 | .lst b,.lst []=>R (.sh<|.bl (if neg then !b.isEmpty else b.isEmpty))
 |_,_=>False
def Fs{n g a b}(L:XG K mg E n a)(J:XG K mg E g b):XG K mg E (tOp (D1 K neg) n g) (p2 a b<|OI neg):=by
 refine Pb L J λH0 H T Z x y v u R Q o Y hm A z h q=>?_;have s:=A.rp o;have p:=z.rp o;unfold OI at h;split at h
 ·rename_i ds N M;rw[N]at s;rw[M]at p;obtain⟨l,w,rfl,G,r⟩:=s.lst_inv;obtain⟨m,U,rfl,f,C⟩:=p.lst_inv;cases C
  refine⟨l,m,w,rfl,rfl,SqL.of G,SqL.of f,?_⟩;rw[Dh r.len];exact q _ _ T h (Same.refl _) (.bl _)
 ·grind
def Gw(x y:Int){k}(h:k=0\/k=1):atI [D.int x,D.int y] k=some (.int (if k=0 then x else y)):=by
 rcases h with rfl|rfl
 ·rfl
 ·rfl
def MD(xs:List f)(lo b:Option Int):(cutD xs lo b).Sublist xs:=(VC _ _).trans (List.drop_sublist _ _)
def XN.gone (N:XN K H0 B H σ γ) (i:Nat):XN K H0 B H (σ.set i none) (γ.set i none)/\Fr B H σ γ H (σ.set i none) (γ.set i none):=by
 obtain⟨l,f1⟩:=N.drop i
 have f:∀j s,(γ.set i none)[j]?=some (some s)->j≠i:=λj s h=>by
  rcases Ky h with⟨_,e,_⟩|⟨n,_⟩
  ·cases e
  ·exact n
 have C:∀b,zof B (γ.set i none) (σ.set i none) b↔zof B (γ.set i none) σ b:=λb=>by
  constructor
  ·rintro(z|⟨j,p,x,g,q,r⟩)
   ·exact .inl z
   ·rw[PR (f j _ g)]at q;exact .inr ⟨j,p,x,g,q,r⟩
  ·rintro(z|⟨j,p,x,g,q,r⟩)
   ·exact .inl z
   ·exact .inr ⟨j,p,x,g,by rw[PR (f j _ g)];exact q,r⟩
 have ez:=funext λb=>propext (C b);refine⟨⟨l.same,by rw[QN];exact l.len,l.bm,λk j a M p L b w u A y J G=>?_,λj s h=>?_⟩,λb o h z=>?_⟩
 ·rw[PR (f k _ w)]at A;rw[PR (f j _ u)]at y;exact l.own k j a M p L b w u A y J G
 ·obtain⟨v,w,u⟩:=l.slot j s h
  grind
 ·rw[ez];exact f1 b o h z
noncomputable def DF(i:Nat)(b a:PTE):PTS:=λR γ=>match γ[i]? with
 |some (some<|.own<|.lst f)=>a γ (λs=>b γ (λy=>match y.d with
   | .int k=>∃j d,ixN f.length k=some j/\s.shd=some d/\R.nx (γ.set i<|some<|.own<|.lst<|f.set j d)
   |_=>False) (R.ex γ)) (R.ex γ)
 |some (some<|.own<|.lsA x f)=>a γ (λs=>b γ (λy=>match y.d with
   | .int k=>∃j d,ixN f.length k=some j/\s.shd=some d/\R.nx (γ.set i<|some<|.own<|.lsA x<|f.set j d)
   |_=>False) (R.ex γ)) (R.ex γ)
 |_=>False
theorem Rps.set (h:Rp K H d v):∀{ds vs} j,Rps K H ds vs->Rps K H (ds.set j d) (vs.set j v)
 |_,_,_,.nil=>.nil
 |_,_,0,.cons _ r=>.cons h r
 |_,_,j+1,.cons k r=>.cons k (Rps.set h j r)
def Zee(i:Nat){tb te a b}(hb:XG K mg E tb b)(ha:XG K mg E te a):XW K mg E (Se te<|Zas (Pa i) tb ME) (DF i b a):=by
 intro H0 B H σ γ R D hB g h e;have hx:=λc H' L r=>e.ex σ γ c H' L (g.grow r) (Fr.grow r);unfold DF at h;split at h
 ·rename_i ds J;obtain⟨v,G,l,rfl,U,us,T,C⟩:=g.slot i _ J;refine ha H0 B H σ γ _ _ _ g h (λs u H1 h1 o N=>⟨_,G,?_⟩) hx;have f:=g.grow o;refine hb H0 B H1 σ γ _ _ _ f h1 (λy w H2 q p M=>?_) λc H' L r=>hx c H' L (o.trans r);have n:=f.grow p;have A:=M.rp n.same;split at q
  ·rename_i k ek;rw[ek]at A;obtain⟨j,d,h3,h4,h5⟩:=q;have Q:=Rp.mono (XY p λ_ _ _ z=>z) (N.shd f.same g.zm o h4);refine⟨l,us,k,j,rfl,A.int_inv,(o.trans p) _ _ T,by rw[C.len];exact h3,?_⟩;obtain⟨e2,f2⟩:=n.mutate (es:=.lst (ds.set j d)) (us:=.lst (us.set j u)) J G trivial λF H' SF Y=>⟨_,Y,Rps.mono SF (Rps.set Q j<|Rps.mono (XY (o.trans p) λ_ _ _ z=>z) C)⟩;exact e.nx _ _ _ h5 e2 ((Fr.grow<|o.trans p).trans f2)
  ·exact q.elim
 ·rename_i x ds J;obtain⟨v,G,l,rfl,U,rfl,us,T,C⟩:=g.slot i _ J;refine ha H0 B H σ γ _ _ _ g h (λs u H1 h1 o N=>⟨_,G,?_⟩) hx;have f:=g.grow o;refine hb H0 B H1 σ γ _ _ _ f h1 (λy w H2 q p M=>?_) λc H' L r=>hx c H' L (o.trans r);have n:=f.grow p;have A:=M.rp n.same;split at q
  ·rename_i k ek;rw[ek]at A;obtain⟨j,d,h3,h4,h5⟩:=q;have Q:=Rp.mono (XY p λ_ _ _ z=>z) (N.shd f.same g.zm o h4);refine⟨l,us,k,j,rfl,A.int_inv,(o.trans p) _ _ T,by rw[C.len];exact h3,?_⟩;obtain⟨e2,f2⟩:=n.mutate (es:=.lsA l (ds.set j d)) (us:=.lst (us.set j u)) J G trivial λF H' SF Y=>⟨rfl,_,Y,Rps.mono SF (Rps.set Q j<|Rps.mono (XY (o.trans p) λ_ _ _ z=>z) C)⟩;exact e.nx _ _ _ h5 e2 ((Fr.grow<|o.trans p).trans f2)
  ·exact q.elim
 ·exact h.elim
end
end Pu
namespace PySem
open Sem (wp)
structure Zk5 {K:Type} (es:List DictEntry) (kvs:List (K×Value)):Prop where
 length:es.length=kvs.length
 get?:∀{i:Nat} {e:DictEntry} {k:K} {v:Value},es[i]?=some e->kvs[i]?=some (k,v)->True/\e.val=v
def VDict{K:Type}(h:Heap)(a:Addr)(b:List (K×Value))(g:Nat):Prop:=
 ∃o f,h.get? a=some o/\o.ExactDict/\o.data=.dict f g/\True/\Zk5 f.toList b/\True
section
variable {prog:Program}{w:World}{K:Type}{A:Around}{E:Yi}{s:Shared}
def Zg8(d:Addr)(f:(d==sysModules)=false) :
  MeetsIn prog w (Builtin.«dict.values» ⟨[.ref d],[]⟩) (λ_ R s=>s.TypeIs (.ref d) "dict"/\
   R (.ok<|.ret<|.ref s.heap.objs.size) {s with heap:=s.heap.push {cls:=.type "dict_values",data:=.fields #[.ref d]}}):=
 .of_wp λA R s ⟨b,h⟩=>by
  refine W8 ?_;unfold Builtin.Dict.noArgs;refine W8 (wpAny_notOrdered_dict b ?_);show wpAny _ _ (pure d) _ _ s;refine WD ?_;show wpAny _ _ (Builtin.Dict.showsAll d >>= _) _ _ s;unfold Builtin.Dict.showsAll;rw[WI (by rw[f];exact WZ)];refine W8 (WD ?_);exact W8 (Q6<|WD ⟨_,rfl,h⟩)
def Zeh{v d:Addr}{f:List (K×Value)}{r:Nat}{Q:Yi}(h:s.heap.IsValuesView v d)(y:VDict s.heap d f r)(B:Q (.ref s.heap.objs.size) {s with heap:=s.heap.push {cls:=.type "dict_valueiterator",data:=.fields #[.ref d,.int 0 0,.int f.length 0,.int r 0]}}) :
  wpAny (model prog w) A (pyIter<|.ref v) Q E s:=by
 obtain⟨G,n,z,p⟩:=id h;obtain⟨o,C,q,L,b,J,u,H⟩:=id y;refine Ju h.typeIs F.slot_dict_values_iter (QZ F.slot_dict_values_iter h.typeIs F.entry_dict_values_iter ?_<|F.args_dict_values_iter_1 _);unfold Builtin.«dict_values.__iter__»;refine W8 (WD ?_);refine W8 ?_;unfold Builtin.Dict_items.dictOf;refine W8 (JX n p (x:=.ref d) rfl<|WD ?_);refine W8 ?_;unfold Builtin.Dict_items.newIterator;refine W8 (wpAny_dictEntries q b ?_);refine W8 (wpAny_dictEpoch q b ?_);have l:C.size=f.length:=by rw[←u.length];simp
 have g:Builtin.Dict_items.ownsTuple "dict_valueiterator"=false:=by decide
 simp only[g,Jg,J2];refine Q6 (WD ⟨_,rfl, "dict_valueiterator",_,⟨_,WN _ rfl,rfl⟩,F.slot_dict_valueiterator_next.lookup,?_⟩);simpa [rawInt,l]using B
def Zpx{l d:Addr}{i B:Nat}{b:List (K×Value)}{k:K}{v:Value}{Q:Yp->Shared->Prop}(f:s.heap.IsValIter l d i b.length B)(L:VDict s.heap d b B)(hx:b[i]?=some (k,v))(T:∀H,H.IsValIter l d (i+1) b.length B->Heap.SameBut l s.heap H->Q (some v) {s with heap:=H}) :
  wpAny (model prog w) A (pyNext<|.ref l) Q E s:=by
 obtain⟨o,C,N,z⟩:=id f;obtain⟨U,y,u,M,x,hk,J,Y⟩:=id L;unfold pyNext
 refine W8 (wpAny_attempt (Jo (name:=Str.ofString "__next__") f.typeIs Vf
  (QZ Vf f.typeIs F.entry_dict_valueiterator_next ?_<|F.args_dict_valueiterator_next_1 _)))
 refine W8 (WD ?_);refine W8 ?_;refine W8 ?_
 first|refine W8 (Vh f.typeIs<|WD ?_)|refine W8 (V2 f.typeIs<|WD ?_)
 refine W8 (wpAny_fieldsOf C z ?_);have r:Builtin.Dict_items.ownsTuple "dict_valueiterator"=false:=by decide
 simp only[r,Jg,J2];show wpAny _ _ (if (Value.ref d==Value.none)=true then _ else _) _ _ s;rw[WI (show ¬((Value.ref d==Value.none)=true)from WZ)]
 refine W8 (WD ?_);refine W8 (wpAny_dictEntries u x ?_);have q:y.size=b.length:=by rw[←J.length];simp
 rw[WI (by rw[q];simp)];refine W8 (WD ?_);refine W8 (wpAny_dictEpoch u x ?_);rw[WI (by simp)];refine WD ?_
 have G:i<b.length:=by
  rcases Nat.lt_or_ge i b.length with h|h
  ·exact h
  ·simp[Vv h]at hx
 have n:i<y.size:=by rw[q];exact G
 have p:y[i].val=v:=(J.get? (e:=y[i]) (by simp[n]) hx).2;simp only[show ¬((i:Int)<0)from by omega,J2,Q3,Q9 n]
 refine W8 ?_
 first|refine W8 (Vh f.typeIs<|WD ?_)|refine W8 (V2 f.typeIs<|WD ?_)
 refine W8 (JA f.typeIs ?_);show wpAny _ _ (setField (.ref l) 1 (rawInt ((i:Int)+1)) >>= _) _ _ s;refine W8 (Vb C z (by simp) ?_)
 have g:(s.heap.update l<|Obj.mapFields (·.setIfInBounds 1 (rawInt ((i:Int)+1)))).IsValIter l d (i+1) b.length B:=
  ⟨_,Q4 _ C (Vc<|QE z _),(Jt ..).trans N,by rw[QE z];simp[rawInt]⟩
 refine W8 (QK ?_);refine W8 (JA (s:={s with heap:=s.heap.update l (Obj.mapFields (·.setIfInBounds 1 (rawInt ((i:Int)+1))))}) g.typeIs ?_)
 refine W8 (JA (s:={s with heap:=s.heap.update l (Obj.mapFields (·.setIfInBounds 1 (rawInt ((i:Int)+1))))}) g.typeIs ?_)
 show wpAny _ _ (pure y[i].val) _ _ _;exact WD (WD ⟨_,rfl,WD (p▸T _ g (QH ..))⟩)
def Zms{q d:Addr}{i z:Nat}{g:List (K×Value)}{Q:Yp->Shared->Prop}(G:A.handled=none)(f:s.heap.IsValIter q d i g.length z)(C:VDict s.heap d g z)(hx:g[i]?=none)(J:∀x,Heap.ExtBut q s.heap x->Q none {s with heap:=x}):wpAny (model prog w) A (pyNext<|.ref q) Q E s:=by
 obtain⟨o,u,U,v⟩:=id f;obtain⟨L,y,n,H,p,N,B,M⟩:=id C;unfold pyNext
 refine W8 (wpAny_attempt (Jo (name:=Str.ofString "__next__") f.typeIs Vf
  (QZ Vf f.typeIs F.entry_dict_valueiterator_next ?_<|F.args_dict_valueiterator_next_1 _)))
 refine W8 (WD ?_);refine W8 ?_;refine W8 ?_
 first|refine W8 (Vh f.typeIs<|WD ?_)|refine W8 (V2 f.typeIs<|WD ?_)
 refine W8 (wpAny_fieldsOf u v ?_);have l:Builtin.Dict_items.ownsTuple "dict_valueiterator"=false:=by decide
 simp only[l,Jg,J2];show wpAny _ _ (if (Value.ref d==Value.none)=true then _ else _) _ _ s;rw[WI (show ¬((Value.ref d==Value.none)=true)from WZ)]
 refine W8 (WD ?_);refine W8 (wpAny_dictEntries n p ?_);have h:y.size=g.length:=by rw[←B.length];simp
 rw[WI (by rw[h];simp)];refine W8 (WD ?_);refine W8 (wpAny_dictEpoch n p ?_);rw[WI (by simp)];refine WD ?_;have r:y.size<=i:=by rw[h];simpa using hx
 simp only[show ¬((i:Int)<0)from by omega,J2,Q3,VA r]
 refine W8 ?_
 first|refine W8 (Vh f.typeIs<|WD ?_)|refine W8 (V2 f.typeIs<|WD ?_)
 show wpAny _ _ (setField (.ref q) 0 .none >>= _) _ _ s;refine W8 (Vb u v (by simp) ?_);show wpAny _ _ (newExc (.type "StopIteration") [] >>= _) _ _ _;refine W8 ?_;simp only[newExc,newTuple];refine W8 (Q6 ?_<|by size_fits);refine W8 (m:=firstArgMember _ _) (wpAny_of_eq (a:=Value.none) (by first|rfl|(simp only[firstArgMember];rfl)) ?_)
 refine Q6 ?_ (by size_fits);simp only[raiseNew];refine W8 (wpAny_handled ?_);rw[show A.in1.handled=none from G]
 refine W8 (WD<|wpAny_throw ?_);refine W8 (wpAny_isInstance (T:="StopIteration") (b:=true) ⟨_,WN _ rfl,rfl⟩ isSubtype_stop ?_);exact WD (J _ (((QH ..).extBut.push _).push _))
end
end PySem
open PySem PySem.Spec PyProof.Rows
namespace Own
open L2
noncomputable def Zav(K:Yd):R2:=λx y H Q=>∃a b xs f,x=.ref a/\y=.ref b/\SqT K H a xs/\SqT K H b f/\xs.length+f.length<=sizeLine/\
 (xs=[]->Q (.ref b) H)/\(xs≠[]->f=[]->Q (.ref a) H)/\(xs≠[]->f≠[]->∀p,H p=none->Q (.ref p) (upd H p<|.tup (xs++f)))
section
variable {X:Cx}{K:Yd}
def Zrk(hK:autoParam (X.K=K) au_0):OpR X (binaryOp .Add) (Zav K):=by
 subst hK;intro pins s G H x y v u Q I M L h;obtain⟨a,b,xs,J,rfl,rfl,C,B,hz,Y,U,T⟩:=h;cases M
 cases L
 by_cases hx:xs=[]
 ·obtain⟨q,N,p1,_⟩:=I.tuple C;obtain⟨f,r2,p2,_⟩:=I.tuple B;have e:=N.nil_iff.mpr hx;obtain⟨⟨cls,dd,data,sl⟩,w,A,n,z⟩:=id p1;obtain⟨⟨E,r,data2,p⟩,g,o,n2,l⟩:=id p2;simp only at A z o l;subst A z o l
  exact concat_meets ⟨_,w,rfl⟩ ⟨_,g,rfl⟩ noFill_tuple_add seq_tuple_add Jw Jn (Jc _ _)
   (tuple_addW0 a b q.toArray f.toArray n n2 dd r sl p<|by grind) ⟨w,g,⟨.ref b,H,I,rfl,Y hx⟩⟩
 ·exact Zga pins s G H (.ref a) (.ref b) _ _ Q I rfl rfl ⟨a,b,xs,J,rfl,rfl,C,B,hx,hz,U hx,T hx⟩
def Zfd(h:VV [(.ref b,x)] f):∃r,f=[(.ref b,r)]/\RelV x r:=by
 cases h with
 |cons h t=>
  cases t
  rename_i y;obtain⟨u,r⟩:=y;obtain⟨g,l⟩:=h;cases g
  grind
noncomputable def RT(n l:TE):TE:=λg H Q=>∀p,H p=none->n g (upd H p<|.dT []) λy o=>l g o λx f=>f p=some (.dT [])/\∃b h,y=.ref b/\f b=some (.tup<|h.map kV)/\Q (.ref p) (upd f p<|.dT [(h,x)])
def Zjq{r p pos}(M:X.A.units+1<cLine)(T:PE X k r)(L:PE X v p):PE X (.Dict [some k] [v] pos) (RT r p):=by
 intro pins s C H Q I q
 refine wpAny_Dict_any rfl rfl (by simp) (by simp) (thn ((Zeq T L Zje) pins _ C _ (λw l=>match w with
  |[(y,x)]=>l s.heap.objs.size=some (.dT [])/\∃b g,y=.ref b/\l b=some (.tup<|g.map kV)/\Q (.ref s.heap.objs.size) (upd l s.heap.objs.size<|.dT [(g,x)])
  |_=>False) (I.laid (t':=s.toks) (λ_ _ q=>WB _ q) (WG _)<|RJ s.heap I.big)<|q _<|I.hok.fresh<|WG s.heap.objs.size) λws s2 ⟨w,l,o,rel,h⟩=>?_)
 split at h
 ·rename_i y x;obtain⟨e,b,g,ey,B,J⟩:=h;subst ey;obtain⟨E,ew,G⟩:=Zfd rel;subst ew;obtain⟨z,U,xs,f,dd⟩:=FM o.hok e;cases f
  unfold storeAll;rw[List.forIn_cons];refine W8 (W8 (wpAny_dictSet_heap (Nat.lt_of_succ_lt M) (SK o.hok B) dd λh' n N=>WD ?_))
  dsimp only
  refine WD ?_;obtain⟨u,es,ep,hq,h,h3,h4,_,Y⟩:=n;refine⟨.ref s.heap.objs.size,_,Fu (ob:=.dT [(g,x)]) o (by rw[e];exact True.intro) N ⟨u,hq⟩ ⟨(by show 1<=sizeLine;decide),U,[(g,b,E)],?_,u,es,ep,hq,h,h3,h4,Y⟩,rfl,J⟩;refine .cons ⟨rfl,?_,G⟩ .nil;rwa[XM (AO B e (λz=>nomatch z))]
 ·exact h.elim
end
section
variable {prog:Program}{w:World}{A:Around}{K:Type}{d r:Addr}{kvs:List (K×Value)}{ep:Nat}{h h':Heap}
def VDict.at (x:VDict h d kvs ep) (e:∀o,h.get? d=some o->h'.get? d=some o):VDict h' d kvs ep:=let ⟨o,f,b,r⟩:=x;⟨o,f,e _ b,r⟩
def VDict.lt (x:VDict h d kvs ep):d<h.objs.size:=let ⟨_,_,b,_⟩:=x;WM b
def Zm7(hh:A.handled=none)(I d:Addr)(hne:d≠I)(kvs:List (K×Value))(ep:Nat) :
  Walks prog w A I [I,d] [I] kvs.length (λi v=>∃k,kvs[i]?=some (k,v)) (λi h=>h.IsValIter I d i kvs.length ep/\VDict h d kvs ep) where
 sub:=λb hb=>by simp at hb;simp[hb]
 frame:=λ_ _ _ st hk=>⟨st.1.at λo e=>hk I (by simp) o e,VDict.at st.2 λo e=>hk d (by simp) o e⟩
 item:=λi s Q E hi st hQ=>by
  refine Zpx (k:=(kvs[i]).1) (v:=(kvs[i]).2) st.1 st.2 (by grind) λh' hit' hs'=>?_;exact hQ _ h' s.toks ⟨(kvs[i]).1,by simp[hi]⟩ ⟨hit',VDict.at st.2 λo e=>hs'.extBut d o hne e⟩ λb o hb e=>hs'.extBut b o (λh=>hb (by grind)) e
 done:=λs Q E st hQ=>Zms hh st.1 st.2 (by simp) λh' he'=>hQ h' s.toks λb o hb e=>he' b o (λh=>hb (by grind)) e
 self:=λ_ _ _ _ st hQ=>wpAny_pyIter_valiter st.1 hQ
def Zez:PySem.W.KdlSrc prog w "dict_values" r d kvs.length (λi v=>∃k,kvs[i]?=some (k,v)) (λh=>h.IsValuesView r d/\VDict h d kvs ep) where
 type:=λ_ hm=>hm.1.typeIs
 there:=λ_ hm=>⟨let ⟨_,ho,_⟩:=hm.1;WM ho,VDict.lt hm.2⟩
 keep:=λ_ _ hm hk=>⟨let ⟨o,ho,x⟩:=hm.1;⟨o,hk r (.inl rfl) o ho,x⟩,VDict.at hm.2 λo e=>hk d (.inr rfl) o e⟩
 notList:=by decide
 notTuple:=by decide
 hint:=λ_ _ _ _ hm hq=>PySem.W.kdl_hint_values hm.1.typeIs hq
 iter:=λ_ _ hh hm=>⟨_,_,(λ_ _ hq=>Zeh hm.1 hm.2 hq),Zm7 hh _ d (Qg<|VDict.lt hm.2) kvs ep,⟨⟨_,WN _ rfl,rfl,rfl⟩,VDict.at hm.2 λo e=>WB _ e⟩⟩
end
noncomputable def Ff(v d:Addr):HO:=.ext λh=>h.IsValuesView v d
def EN:V->List V->Hp->VK->Prop:=λx f H Q=>∃d b,x=.ref d/\f=[]/\H d=some (.dT b)/\∀v,H v=none->Q (.ref v) (upd H v<|Ff v d)
section
variable {X:Cx}
def Zoq:MtR X "dict.values" EN:=by
 intro pins s w H x xs v y Q I g l h;obtain⟨d,n,rfl,rfl,p,q⟩:=h;cases g
 have f:=l.zero;subst f;obtain⟨z,lo,xs,rel,u⟩:=FM I.hok p;obtain⟨o,C,E,b,hx,_⟩:=id u;refine call_meetsIn PySem.F.slot_dict_values ⟨o,b,hx.1⟩ PySem.F.entry_dict_values (PySem.F.args_dict_values_1 _) (Zg8 d lo) ⟨⟨o,b,hx.1⟩,?_⟩;refine⟨.ref s.heap.objs.size,_,I.laid (o:=Ff s.heap.objs.size d) (λ_ _ q=>WB _ q) (WG _) ⟨⟨_,WN _ rfl,rfl,rfl⟩,⟨_,WN _ rfl⟩,λB A ⟨o,b,r⟩ e=>⟨o,e o b,r⟩⟩,rfl,q _ (I.hok.fresh<|WG _)⟩
def Ziv{K}{o}{to}{name:Str}{apos cpos}(g:PE X o to)(l:autoParam (X.K=K) au_0)(h:autoParam (name = "values") au_0)(f:autoParam (attributeBase o name X.env (eval o X.env)=eval o X.env) au_0)(b:autoParam ((apos.endLine==cpos.line)=true) au_0):PE X (.Call (.Attribute o name apos) [] [] cpos) (Ca K "dict" EN to):=by
 subst l h;exact Zkw PySem.F.plainAttrs_dict PySem.F.slot_dict_values PySem.F.type_dict_values Zoq g f b
def OX:∀{kvs}{xs:List (List Key×Addr×Value)},KT H kvs xs->Vals (kvs.map (·.2)) (xs.map (·.2.2)):=by
 intro f
 induction f with
 |nil=>
  intro _ h;cases h
  exact .nil
 |cons _ _ b=>
  intro _ h;cases h with
  |cons h r=>
   exact .cons h.2.2 (b r)
def Znq(N:X.calm=true):K8 X (.type "list") (λxs H Q=>∃v d b,xs=[.ref v]/\H v=some (Ff v d)/\H d=some (.dT b)/\∀l,H l=none->Q (.ref l) (upd H l<|.lst<|b.map (·.2))):=by
 intro pins s σ H xs us Q I B h;obtain⟨v,d,b,rfl,E,M,q⟩:=h;obtain⟨u,rfl,C⟩:=B.one;obtain rfl:=C;obtain⟨z,lo,xs,rel,dd⟩:=FM I.hok M;obtain⟨o,U,Y,J,hx,n,y,w,hn⟩:=id dd;have hl:xs.length=b.length:=by simpa using(OX rel).length.symm
 have A:VDict s.heap d (xs.map λx=>((),x.2.2)) Y:=by
  refine⟨o,U,J,hx,n,trivial,⟨by rw[y,W9,W9],λ{i e k v} r p=>⟨trivial,?_⟩⟩,trivial⟩;rw[y,WR]at r;rw[WR]at p;cases L:xs[i]? with
  |none=>grind
  |some x=>
   rw[L]at r p;cases r
   cases p
   rfl
 refine PySem.W.kdl_call Zez (I.ok.hd N) ⟨((I.hok v _ E).1),A⟩ (by rw[W9];lia) λh' tk g c' w T f=>?_;refine⟨.ref s.heap.objs.size,upd H s.heap.objs.size (.lst<|b.map (·.2)),?_,rfl,q _ (I.hok.fresh<|WG _)⟩;refine I.laid w (WG _) ⟨by rw[W9];exact z,g.toList,c',?_,by simpa using T⟩;rw[(PySem.W.kdl_vals_eq g.toList (by rw[Qw];exact f.1) λj u G=>f.2 j u (by rw[←G,QO])),WY];exact OX rel
end
end Own
namespace Pu
open L2 Own M
section
variable {K:Yd}{mg:Yh}{E:L2.St->XK}{H0 H H1 H':Hp}{B Z Z':Addr->Prop}{σ:L2.St}{γ:Γ}
noncomputable def Sy:Option D->Option (List D)
 |some (.tup b)=>some b|_=>none
def CP(h:Sy o=some ds):o=some (.tup ds):=by
 unfold Sy at h;split at h
 ·grind
 ·grind
def Zc1:S->S->(S->Prop)->Prop:=λx y R=>∃f b,Sy x.shd=some f/\Sy y.shd=some b/\f.length+b.length<=100000/\R (.sh<|.tup (f++b))
def Zlz{a b}(Y:XG K mg E M a)(U:XG K mg E L b):XG K mg E (tOp (Zav K) M L) (p2 a b Zc1):=by
 refine Pb Y U λH0 H H2 Z x y v u R Q s f r J G h q=>?_;obtain⟨ds,es,e1,e2,T,h⟩:=h;have N:=J.shd s r f (CP e1);have w:=G.shd s r f (CP e2);obtain⟨l,C,rfl,h1,o⟩:=Rp.tup_inv N;obtain⟨m,A,rfl,h2,n⟩:=Rp.tup_inv w;refine⟨l,m,C,A,rfl,rfl,SqT.of (off_sub _ _ h1),SqT.of (off_sub _ _ h2),by rw[o.len,n.len];exact WQ T (by decide),λe=>?_,λ_ e=>?_,λ_ _ p g=>?_⟩
 ·subst e;cases o
  exact q _ _ _ h (Same.refl _) w
 ·subst e;cases n
  refine q _ _ _ h (Same.refl _) ?_;rw[Qz];trivial
 ·refine q _ _ _ h (Kp g) (.tup (Kz Kb λz=>?_)<|Rps.mono (XY (Kp g) λ_ _ _ z=>z)<|o.append n)
  have:=(λb z=>TK f (r b z)) p z
  rw[g]at this;exact this
noncomputable def pIT(a:PTE):PTI:=λγ R X=>a γ (λs=>∃b,Sy s.shd=some b/\R b.length λi=>.sh (b.getD i .non)) X
def BB(L:XG K mg E te a):SndI K mg E (EH K te) (pIT a):=by
 intro H0 B H σ γ R X Q b h q C;refine L H0 B H σ γ _ X _ b h (λs v H1 n o A=>?_) C;obtain⟨w,M,n⟩:=n;obtain⟨l,f,rfl,g,p⟩:=Rp.tup_inv (A.shd (b.grow o).same b.zm o (CP M));refine⟨l,rfl,⟨f,SqT.of (off_sub _ _ g)⟩,q _ _ _ H1 n o ⟨λi H' Z' G lt=>?_,λH' Z' lt=>?_⟩⟩
 ·have J:w[i]?=some (w.getD i .non):=by rw[WE,WA G];rfl
  obtain⟨u,r,z⟩:=p.get J;have k:=off_sub _ _ (lt.off _ _ g);refine⟨⟨f,u,SqT.of k,r⟩,λx N y=>?_⟩;obtain⟨rfl,y⟩:=y
  have:=y f (SqT.of k)
  rw[r]at this;cases this
  exact⟨Same.refl _,Rp.mono lt.off z⟩
 ·exact⟨f,SqT.of (off_sub _ _<|lt.off _ _ g),by rw[p.len];exact WG _⟩
noncomputable def My(i:Nat)(a:PTE):PTS:=λR γ=>match γ[i]? with
 |some (some<|.own<|.lst b)=>a γ (λs=>match s.d with
  | .int z=>∃xs:Yf,b=xs.map D.int/\z∈xs/\R.nx (γ.set i<|some<|.own ((xs.eraseIdx<|xs.idxOf z).map D.int))
  |_=>False) (R.ex γ)
 |_=>False
def Zgk(i:Nat){te a}(L:XG K mg E te a):XW K mg E (SR<|tBM K "list" Rn (Pa i)<|Kq te KH) (My i a):=by
 intro H0 B H σ γ R D T f h e;unfold My at h;split at h
 ·rename_i U r;obtain⟨v,q,b,rfl,J,us,w,A⟩:=f.slot i _ r;refine⟨_,q,.inl ⟨rfl,us,SqL.of w⟩,L H0 B H σ γ _ _ _ f h (λs u H1 l o y=>?_) λc H' G x=>e.ex σ γ c H' G (f.grow x) (Fr.grow x)⟩;have g:=f.grow o;split at l
  ·rename_i z n;have p:=y.rp g.same;rw[n]at p;obtain⟨xs,rfl,C,l⟩:=l;have Q:=A.ints;subst Q;refine⟨b,xs,z,rfl,by rw[p.int_inv],o _ _ w,C,?_⟩;obtain⟨n,N⟩:=g.mutate (es:=.lst ((xs.eraseIdx<|xs.idxOf z).map Pu.D.int)) (us:=.lst ((xs.eraseIdx<|xs.idxOf z).map V.int)) r q trivial λF H' Y M=>⟨_,M,Rps.of_ints _⟩;exact e.nx _ _ _ l n ((Fr.grow o).trans N)
  ·grind
 ·exact h.elim
noncomputable def S4:List (List Key×V)->Bool
 |[]=>true
 |p::r=>Fw p.2&&S4 r
theorem Ii:∀{b:List (List Key×V)},S4 b=true->Rps K H (b.map λp=>vD p.2) (b.map (·.2))
 |[],_=>.nil
 |p::r,h=>by
  unfold S4 at h;rw[Qb]at h;exact .cons (DH h.1) (Ii h.2)
def Znf:List V->Hp->VK->Prop:=λxs H Q=>∃(v d:Addr) (b:List (List Key×V)),xs=[.ref v]/\H v=some (Ff v d)/\H d=some (.dT b)/\∀l,H l=none->Q (.ref l) (upd H l<|.lst<|b.map (·.2))
noncomputable def Zfl(a:PTE):PTE:=λγ R X=>a γ (λs=>∃b,s.d=.dT b/\S4 b=true/\R (.own<|.lst (b.map λp=>vD p.2))) X
def Zjo(A:XG K mg E te a):XG K mg E (tCB Znf<|Kq (Ca K "dict" EN te) KH) (Zfl a):=by
 intro H0 B H σ γ R X Q f h q y;refine A H0 B H σ γ _ X _ f h (λs v H1 G n x=>?_) y;obtain⟨b,e,z,C⟩:=G;have o:=x.rp (f.grow n).same;rw[e]at o;obtain⟨l,rfl,g⟩:=o.dT_inv;refine⟨.inr (.inr<|.inl ⟨rfl,.inr ⟨b,g⟩⟩),l,b,rfl,rfl,g,λp r=>?_⟩;refine⟨p,l,b,rfl,Kb,by rw[XM (K4 g r)];exact g,λm u=>?_⟩;have w:Same H1 (upd H1 p<|Ff p l):=Kp r;exact q _ _ _ C ((n.trans w).trans (Kp u)) ⟨m,rfl,(λ_ e=>e▸(n.trans w).free u),_,Kb,Ii z⟩
noncomputable def Zh4(a b:PTE):PTE:=λγ R X=>a γ (λy=>b γ (λx=>∃f u,SE y.d=some f/\Ai x.d=some u/\R (.own<|.dT [(f,u)])) X) X
def Zc6{a b}(ha:XG K mg E L a)(hb:XG K mg E J b):XG K mg E (RT L J) (Zh4 a b):=by
 intro H0 B H σ γ R X Q A h q G p s;have r:Same H (upd H p<|.dT []):=Kp s;have env0:=A.grow r;refine ha H0 B _ σ γ _ X _ env0 h (λy v H1 h1 n N=>?_) λc H' g C=>G c H' g (r.trans C);have f:=env0.grow n;refine hb H0 B H1 σ γ _ X _ f h1 (λx w H2 h2 l M=>?_) λc H' g C=>G c H' g ((r.trans n).trans C);obtain⟨T,u,k1,Y,U⟩:=h2;have eu:=AC (M.rp (f.grow l).same) Y;obtain⟨b',rfl,z⟩:=Fg (Rp.mono l<|N.rp f.same) k1;subst eu;refine⟨l _ _ (n _ _ Kb),b',T,rfl,z,q _ _ _ U (λc o g=>?_) ⟨p,rfl,(λ_ e=>e▸s),Kb⟩⟩
 have:c≠p:=λe=>by subst e;rw[s]at g;cases g
 rw[XM this];exact l _ _ (n _ _<|r _ _ g)
end
section
variable {X:Cx}{K:Yd}
def Bm{f l b}(g:PE X l b)(h:autoParam (X.K=K) au_0):PI X f l (EH K b):=by subst h;exact Ziy g
end
end Pu
namespace M
open L2 Own Pu
noncomputable def tD(b:Yf):D:=.tup (b.map D.int)
noncomputable def kT(b:Yf):List Key:=b.map Sum.inl
def Gp(b:Yf):arg (tD b)=.sh (tD b):=by
 unfold arg tD imm;rw[TJ]
def BW:Td N (tD b::ds)=some (.sh<|tD b)::(ds.map (λd=>some (arg d))++List.replicate (N.length-(ds.length+1)) none):=by
 unfold Td;rw[Qe,Gp];rfl
def Au(b:Yf):SE (tD b)=some (kT b):=by
 show S8 (b.map D.int)=some (b.map Sum.inl)
 induction b with
 |nil=>rfl
 |cons m r f=>
  rw[Qe,Qe];unfold S8;rw[f];rfl
def Zmy(b:Yf):Sy (some<|tD b)=some (b.map D.int):=rfl
noncomputable def XZ(b:Yf)(h:Int):Yf:=b.filter λm=>decide (m≠h)
noncomputable def Ni(b:Ye)(f:Yf)(h:Int):Bool:=!(b.any λq=>decide (q.1=h)&&decide (q.2∈f))
noncomputable def firstM(b:Ye)(f:Yf)(h:Int):Bool:=!(b.any λq=>decide (q.2=h)&&decide (q.1∈f))
noncomputable def Kj(b:Yf):List (Yf):=b.foldl (λS h=>S++S.map (·++[h])) [[]]
def NK(b:Yf)(h:Int):Kj (b++[h])=Kj b++(Kj b).map (·++[h]):=by
 unfold Kj;simp
def SL{P:Yf->Prop}(g:P [])(f:∀r h,P r->P (r++[h]))(l:Yf):P l:=by
 have b:∀r:Yf,P r.reverse:=λr=>by
  induction r with
  |_=>grind
 rw[←List.reverse_reverse l]
 grind
def HU(b:Yf):(Kj b).length=2 ^ b.length:=by
 refine SL (P:=λb=>(Kj b).length=2 ^ b.length) rfl (λr h f=>?_) b;rw[NK,Qa,W9,f,Qa,Vd,Nat.pow_succ];lia
def Fj(f:Yf):∀b∈Kj f,b.Sublist f:=by
 refine SL (P:=λf=>∀b∈Kj f,b.Sublist f) (λb h=>?_) (λr h g b hm=>?_) f
 ·have:b=[]:=by simpa [Kj]using h
  grind
 ·rw[NK,Qd]at hm;rcases hm with hm|hm
  ·grind
  ·grind
noncomputable def oc(c:Int->Int->Int):Yf->Int
 |[]=>0
 |a::r=>(r.map<|c a).sum+oc c r
def Keeps(f:Ye)(o:Yf):Prop:=o.Pairwise λa b=>(b,a)∉f
structure KQ (ws:Ye) (c:Int->Int->Int) (ms:Yf) (v:Int):Prop where
 is:∃o:Yf,o.Perm ms/\Keeps ws o/\oc c o=v
 le:∀o:Yf,o.Perm ms->Keeps ws o->v<=oc c o
def KQ.uniq (h:KQ b c l v) (k:KQ b c l u):v=u:=by
 obtain⟨o,o1,g,q⟩:=h.is;obtain⟨p,f,p2,n⟩:=k.is
 have:=h.le p f p2
 have:=k.le o o1 g
 lia
theorem Ag(c:Int->Int->Int)(l:Int):∀o,oc c (o++[l])=oc c o+(o.map (c · l)).sum
 |[]=>by simp[oc]
 |a::r=>by
  rw[Vm];unfold oc;rw[Ag c l r]
  grind
def Sz{f:Int->Int}{xs b:Yf}(h:xs.Perm b):(xs.map f).sum=(b.map f).sum:=by
 induction h with
 |nil=>rfl
 |trans _ _ l g=>lia
 |_=>grind
def Ng{b:Yf}{h}(f:b.Nodup)(g:h∈b):b.Perm (h::XZ b h):=by
 have e:XZ b h=b.erase h:=by
  unfold XZ;rw[f.erase_eq_filter]
  grind
 grind
def less_sub:(XZ b h).Sublist b:=VX
def lastM_iff:Ni f g h=true↔∀b∈g,(h,b)∉f:=by
 unfold Ni;constructor
 ·grind
 ·grind
def firstM_iff:firstM f g h=true↔∀b∈g,(b,h)∉f:=by
 unfold firstM;constructor
 ·grind
 ·grind
def Zi6{ms}{vs:Int->Int}{M}(s:ms.Nodup)(hw:∀q∈h,q.1≠q.2)(w:∀l∈ms,KQ h c (XZ ms l) (vs l))(E:∃l∈ms,Ni h ms l=true/\M=vs l+((XZ ms l).map (c · l)).sum)(C:∀l∈ms,Ni h ms l=true->M<=vs l+((XZ ms l).map (c · l)).sum):KQ h c ms M:=by
 constructor
 ·obtain⟨l,g,f,e⟩:=E;obtain⟨o,o1,n,x⟩:=(w l g).is;refine⟨o++[l],?_,?_,?_⟩
  ·exact(List.perm_append_singleton l o).trans (((List.Perm.cons l o1)).trans (Ng s g).symm)
  ·refine QT.mpr ⟨n,List.pairwise_singleton _ _,λa B b v=>?_⟩;rw[WC.mp v];exact lastM_iff.mp f a (less_sub.subset<|o1.mem_iff.mp B)
  ·rw[Ag,x,e,Sz o1]
 ·intro o o1 n;rcases List.eq_nil_or_concat o with rfl|⟨p,l,rfl⟩
  ·grind
  ·rw[List.concat_eq_append]at o1 n ⊢;have g:l∈ms:=o1.mem_iff.mp (by simp);obtain⟨A,_,y⟩:=QT.mp n
   have r:p.Perm (XZ ms l):=by
    have:=((List.perm_append_singleton l p).symm.trans o1).trans (Ng s g)
    exact this.cons_inv
   have f:=lastM_iff.mpr λb v=>by
    rcases WL.mp ((Ng s g).mem_iff.mp v)with e|u
    ·subst e;exact λz=>hw _ z rfl
    ·exact y b (r.mem_iff.mpr u) l (WC.mpr rfl)
   have a1:=C l g f;have a2:=(w l g).le p r A;rw[Ag,Sz r];lia
def GW(a b:Yf)(l:Int):XZ (a++b) l=XZ a l++XZ b l:=List.filter_append ..
def MO(h:l∉a):XZ a l=a:=List.filter_eq_self.mpr λm b=>WH λe=>h (e▸b)
def Zh9(b:Yf):∃T,Kj b=[]::T:=by
 refine SL (P:=λb=>∃T,Kj b=[]::T) ⟨[],rfl⟩ (λr h ⟨T,e⟩=>?_) b;rw[NK,e]
 grind
def Iq(b:Yf):(Kj b).getLast?=some b:=by
 refine SL (P:=λb=>(Kj b).getLast?=some b) rfl (λr h e=>?_) b;rw[NK,List.getLast?_append,List.getLast?_map,e];rfl
def MF:f.Nodup->(Kj f).Nodup:=by
 refine SL (P:=λf=>f.Nodup->(Kj f).Nodup) (λ_=>by simp[Kj]) (λr h n o=>?_) f;obtain⟨l,_,p⟩:=QM.mp o;rw[NK];refine QM.mpr ⟨n l,?_,λa s b q e=>?_⟩
 ·exact Ud _ (λa b g e=>g (List.append_cancel_right e)) (n l)
 ·obtain⟨c,u,rfl⟩:=WO.mp q;subst e;exact p h ((Fj r _ s).subset (by simp)) h (by simp) rfl
def Ro:f.Nodup->∀k b,(Kj f)[k]?=some b->∀l∈b,∃j:Nat,j<k/\(Kj f)[j]?=some (XZ b l):=by
 refine SL (P:=λf=>f.Nodup->∀k b,(Kj f)[k]?=some b->∀l∈b,∃j,j<k/\(Kj f)[j]?=some (XZ b l)) (λ_ k b e l p=>?_) (λr h x y k b e l p=>?_) f
 ·have:b=[]:=by
   have:=Qp e
   simpa [Kj]using this
  subst this;cases p
 ·obtain⟨w,_,A⟩:=QM.mp y;rw[NK]at e ⊢;by_cases B:k<(Kj r).length
  ·rw[Q8 B]at e;obtain⟨j,g,o⟩:=x w k b e l p;exact⟨j,g,by rw[Q8 (by lia)];exact o⟩
  ·rw[QD (by lia),WR]at e;cases q:(Kj r)[k-(Kj r).length]? with
   |none=>rw[q]at e;cases e
   |some n=>
    rw[q]at e;cases e
    have C:=λz=>A h ((Fj r n<|Qp q).subset z) h (by simp) rfl;by_cases u:l=h
    ·subst u
     have v:XZ (n++[l]) l=n:=by
      rw[GW,MO C];simp[XZ]
     obtain⟨j,g,o⟩:=Qk.mp (Qp q);refine⟨j,by lia,?_⟩;rw[Q8 g,v,WA g,o]
    ·have s:l∈n:=by
      rcases Qd.mp p with z|z
      ·exact z
      ·exact absurd (WC.mp z) u
     have v:XZ (n++[h]) l=XZ n l++[h]:=by
      rw[GW];congr 1;exact MO λz=>u (WC.mp z)
     obtain⟨j,g,o⟩:=x w _ n q l s;refine⟨(Kj r).length+j,by lia,?_⟩;rw[QD (by lia),WR,Nat.add_sub_cancel_left,o,v];rfl
def FS(h:kT a=kT b):a=b:=List.map_inj_right (λ_ _=>Sum.inl.inj) |>.mp h
def Iv(h:Yf)(g:Ye):Prop:=∀f:Yf,f.Sublist h->f≠[]->∃l∈f,∀b∈f,(l,b)∉g
structure Tab (ws:Ye) (c:Int->Int->Int) (S:List (Yf)) (kvs:List (List Key×V)):Prop where
 keys:kvs.map (·.1)=S.map kT
 val:∀ms∈S,∃v,XX kvs (kT ms)=some (.int v)/\KQ ws c ms v
def Zfn(b:Ye)(c:Int->Int->Int):Tab b c [[]] [([],.int 0)]:=by
 refine⟨rfl,λh g=>?_⟩;rw[WC.mp g];refine⟨0,rfl,⟨[],.refl _,.nil,rfl⟩,λo f _=>?_⟩;rw[f.eq_nil];exact QG _
def Tab.put {S b g v} (T:Tab h c S b) (r:g∉S) (L:KQ h c g v):Tab h c (S++[g]) (putK b (kT g)<|.int v):=by
 have o:XX b (kT g)=none:=by
  cases e:XX b (kT g)with
  |none=>rfl
  |some u=>
   unfold XX at e;cases q:b.find? (λp=>decide (p.1=kT g))with
   |none=>rw[q]at e;cases e
   |some x=>
    have s:=List.find?_some q;have l:x.1∈b.map (·.1):=WO.mpr ⟨x,(List.mem_of_find?_eq_some q),rfl⟩;rw[T.keys,WJ s]at l;obtain⟨n,f,w⟩:=WO.mp l;rw[FS w]at f;exact absurd f r
 constructor
 ·rw[Zei _ o,WX,WX,T.keys];rfl
 ·intro n f;rw[B8];by_cases e:n=g
  ·grind
  ·rw[WI λz=>e (FS z)];rcases Qd.mp f with z|z
   ·exact T.val n z
   ·exact absurd (WC.mp z) e
open Classical in
def Oc{g:Yf}{P:Int->Int->Prop}(h:∀l∈g,∃v,P l v):∃f:Int->Int,∀l∈g,P l (f l):=
 ⟨λl=>if b:l∈g then Classical.choose (h l b)else 0,λl b=>by
  simp only[dif_pos b];exact Classical.choose_spec (h l b)⟩
def Zof{r}(R:Ring n (g.map λq=>(q.2,q.1)) r):Ring n g r.reverse:=by
 have l:∀{x y:Int},(x,y)∈(g.map λq=>(q.2,q.1))->(y,x)∈g:=λh=>by
  obtain⟨q,hq,e⟩:=WO.mp h;cases e
  exact hq
 refine⟨by rw[JP];exact R.two,List.pairwise_reverse.mpr (R.nodup.imp λh=>Ne.symm h),λx hx=>R.sub x (List.mem_reverse.mp hx),λi x y f b=>?_,λx y f b=>?_⟩
 ·have o:i+1<r.length:=by
   have:=(Qf.mp b).1
   rw[JP]at this;exact this
  rw[JB (by lia)]at f b;exact l (R.chain (r.length-1-(i+1)) y x b<|by rw[←f];congr 1;lia)
 ·have two:=R.two;rw[JB (by lia)]at f;rw[JP,JB (by lia)]at b;exact l (R.last y x (by rw[←b];congr 1;lia)<|by rw[←f];congr 1)
def RY{ws}(g:∀q∈ws,q.1≠q.2)(h:¬ ∃r,Ring l ws r):Iv l ws:=λf o b=>by
 refine QA λz=>h ?_
 have s:∀x∈f,∃y∈f,(y,x)∈(ws.map λq=>(q.2,q.1)):=λx hx=>by
  grind
 obtain⟨r,R⟩:=Eg (λq hq=>by
  obtain⟨p,n,e⟩:=WO.mp hq;subst e;exact λe=>g p n e.symm) b s
 have F:=Zof R;exact⟨_,F.two,F.nodup,λx hx=>o.subset (F.sub x hx),F.chain,F.last⟩
theorem GH:∀{b:List (List Key×V)},(b.map (·.1)).Nodup->∀p∈b,XX b p.1=some p.2
 |[],_,p,h=>by cases h
 |q::r,f,p,h=>by
  rw[Qe,Q1]at f;rcases WL.mp h with e|h
  ·rw[e];exact Te rfl
  ·rw[PZ λe=>f.1 (WO.mpr ⟨p,h,e.symm⟩)];exact GH f.2 p h
def OJ(f:Ye)(c:Int->Int->Int)(S:List (Yf))(vs:Yf):Prop:=vs.length=S.length/\∀(i:Nat) (b:Yf) (v:Int),S[i]?=some b->vs[i]?=some v->KQ f c b v
def Tab.vals {S f} (T:Tab s c S f) (z:S.Nodup):∃vs,f.map (·.2)=vs.map V.int/\OJ s c S vs:=by
 have y:(f.map (·.1)).Nodup:=by
  rw[T.keys];exact Ud _ (λa b r e=>r (FS e)) z
 have x:∀p∈f,∃g∈S,p.1=kT g/\∃v,p.2=.int v/\KQ s c g v:=λp l=>by
  have o:p.1∈f.map (·.1):=WO.mpr ⟨p,l,rfl⟩;rw[T.keys]at o;obtain⟨g,w,e⟩:=WO.mp o;obtain⟨v,h,n⟩:=T.val g w;rw[e,GH y p l]at h;exact⟨g,w,e.symm,v,WT h,n⟩
 have C:f.length=S.length:=by
  have:=Qs List.length T.keys
  rw[W9,W9]at this;exact this
 refine⟨f.map λp=>match p.2 with | .int v=>v|_=>0,?_,by rw[W9,C],λi g v o h=>?_⟩
 ·rw[WY];refine Vk λp l=>?_;obtain⟨g,_,_,v,e,_⟩:=x p l;show p.2=V.int (match p.2 with | .int v=>v|_=>0)
  rw[e]
 ·rw[WR]at h;cases q:f[i]? with
  |none=>rw[q]at h;cases h
  |some p=>
   obtain⟨A,B,E,u,H,L⟩:=x p (Qp q);have n:(f.map (·.1))[i]?=some p.1:=by rw[WR,q];rfl
   rw[T.keys,WR,o]at n;have G:=FS ((WT n).trans E);simp_all
theorem IZ:∀{kvs}{vs:Yf},kvs.map (·.2)=vs.map V.int->S4 kvs=true/\kvs.map (λp=>vD p.2)=vs.map D.int
 |[],[],_=>⟨rfl,rfl⟩
 |p::r,v::vs,h=>by
  rw[Qe,Qe,JK]at h;obtain⟨f,b⟩:=IZ h.2;unfold S4;rw[f,Qe,Qe,b,h.1];trivial
structure Pv (ws:Ye) (c:Int->Int->Int) (ms o:Yf):Prop where
 perm:o.Perm ms
 keeps:Keeps ws o
 le:∀p:Yf,p.Perm ms->Keeps ws p->oc c o<=oc c p
 first:∀p:Yf,p.Perm ms->Keeps ws p->oc c p=oc c o->o=p\/sl o p
def Zhn(f:Ye)(c:Int->Int->Int):Pv f c [] []:=by
 refine⟨.refl _,.nil,λp b _=>?_,λp b _ _=>.inl b.eq_nil.symm⟩;simp_all
def GJ{ms}{vs:Int->Int}{V g}{p}(r:ms.Nodup)(A:∀q∈n,q.1≠q.2)(v:∀l∈ms,KQ n c (XZ ms l) (vs l))(G:KQ n c ms V)(w:(g::p).Perm ms)(B:Keeps n (g::p))(e:oc c (g::p)=V):g∈ms/\firstM n ms g=true/\vs g+((XZ ms g).map (c g)).sum=V/\p.Perm (XZ ms g)/\oc c p=vs g:=by
 have h:=w.mem_iff.mp (Qh ..);have u:=(w.trans<|Ng r h).cons_inv;obtain⟨M,y⟩:=Va.mp B
 have C:=firstM_iff.mpr λb s=>by
  rcases WL.mp ((Ng r h).mem_iff.mp s)with e|E
  ·subst e;exact λz=>A _ z rfl
  ·grind
 have a1:=(v g h).le p u y;obtain⟨o,o1,x,L⟩:=(v g h).is;have a2:=G.le (g::o) ((List.Perm.cons g o1).trans (Ng r h).symm) (Va.mpr ⟨λb s=>firstM_iff.mp C b (less_sub.subset<|o1.mem_iff.mp s),x⟩);have Q:oc c (g::p)=(p.map<|c g).sum+oc c p:=rfl;have N:oc c (g::o)=(o.map<|c g).sum+oc c o:=rfl;have J:=Sz (f:=c g) u;have H:=Sz (f:=c g) o1
 grind
def Zed{h o}{vs:Int->Int}{V f}(w:h.Nodup)(H:∀q∈n,q.1≠q.2)(s:∀l∈h,KQ n c (XZ h l) (vs l))(x:KQ n c h V)(u:f∈h)(N:firstM n h f=true)(U:vs f+((XZ h f).map (c f)).sum=V)(M:∀g∈h,firstM n h g=true->vs g+((XZ h g).map (c g)).sum=V->f<=g)(B:Pv n c (XZ h f) o):Pv n c h (f::o):=by
 have Q:oc c o=vs f:=by
  obtain⟨p,r,p2,v⟩:=(s f u).is
  have:=(s f u).le o B.perm B.keeps
  have:=B.le p r p2
  lia
 have Y:=Sz (f:=c f) B.perm
 have e:oc c (f::o)=V:=by
  show(o.map<|c f).sum+oc c o=V;lia
 refine⟨(List.Perm.cons f B.perm).trans (Ng w u).symm,Va.mpr ⟨λb L=>firstM_iff.mp N b (less_sub.subset<|B.perm.mem_iff.mp L),B.keeps⟩,λp r p2=>?_,λp r p2 v=>?_⟩
 ·rw[e];exact x.le p r p2
 ·cases p with
  |nil=>grind
  |cons g p=>
   obtain⟨G,E,C,A,y⟩:=GJ w H s x r p2 (v.trans e);have J:=M g G E C;by_cases T:f=g
   ·subst T;rcases B.first p A (Va.mp p2).2 (y.trans Q.symm)with z|z
    ·exact .inl (by rw[z])
    ·exact .inr (sl_cons.mpr z)
   ·exact .inr (.inl<|by lia)
end M
namespace Pu
open L2 Own
section
variable {K:Yd}{mg:Yh}{E:L2.St->XK}{H0 H H1 H':Hp}{B Z Z':Addr->Prop}{σ:L2.St}{γ:Γ}
def O.from:O->O->Prop
 | .ins x _ _ g,.ins f _ _ b=>f=x/\∀c∈g,∃h∈b,h.1=c.1
 | .lsA x _,.lsA f _=>f=x
 | .nsl x g,.nsl f b=>f=x/\b.map (·.1)=g.map (·.1)
 |_,_=>False
def O.from_adr {o o':O}{a} (h:o.from o'):∀b,o.adr a b->o'.adr a b:=by
 unfold O.from at h
 split at h
 ·intro b g;rcases g with g|⟨c,p,g⟩
  ·exact .inl (g.trans h.1.symm)
  ·obtain⟨q,n,l⟩:=h.2 c p;exact .inr ⟨q,n,g.trans l.symm⟩
 ·intro b g;exact g.trans h.symm
 ·intro b g;rcases g with g|⟨c,p,g⟩
  ·exact .inl (g.trans h.1.symm)
  ·have m:=VY (f:=(·.1)) p;rw[←h.2]at m;obtain⟨q,n,l⟩:=WO.mp m;exact .inr ⟨q,n,g.trans l.symm⟩
 ·grind
def O.from_at {a g}{F l H H'} (h:o.from o') (f:OR K F H a o) (b:OR K l H' g o'):g=a:=by
 unfold O.from at h
 split at h
 ·exact b.1.trans (h.1.trans f.1.symm)
 ·exact b.1.trans (h.trans f.1.symm)
 ·exact b.1.trans (h.1.trans f.1.symm)
 ·grind
abbrev Pw:=O->List S->(O->D->Prop)->(O->Str->Prop)->Prop
noncomputable def S.pass:S->Option S
 | .sh d=>some (.sh d) | .own o=>some (.sh o.d)
 | .bor d=>match imm d with|true=>some (.sh d)|false=>some (.bor d)
 | .tmp d=>match imm d with|true=>some (.sh d)|false=>none
 | .view _=>none
def S.flat:S->Prop
 | .sh _=>True | .bor _=>True|_=>False
noncomputable def passes:List S->Option (List S)
 |[]=>some []
 |s::r=>match s.pass,passes r with|some b,some f=>some (b::f)|_,_=>none
structure After (K:Yd) (B:Addr->Prop) (H:Hp) (a:Addr) (o o':O) (H':Hp):Prop where
 same:Same (off (o.adr a) H) H'
 old:∀b,o.adr a b->o'.adr a b
 new:∀b,o'.adr a b->o.adr a b\/H b=none
 at_:OR K (off (λb=>B b\/o'.adr a b) H') H' a o'
noncomputable def spW(mg:Yh)(c:Pw)(K:Yd):Sp:=λl H Q E=>∃(o:O) (a:Addr) (g:List S) (h:List V) (B:Addr->Prop) (R:O->D->Prop) (X:O->Str->Prop),
 l=.ref a::h/\(∀b,B b->Mut (H b)/\¬o.adr a b)/\OR K (off (λb=>B b\/o.adr a b) H) H a o/\TVs K (λb=>B b\/o.adr a b) (off (o.adr a) H) H H g h/\(∀s∈g,s.flat)/\c o g R X/\
 (∀f d v H',R f d->After K B H a o f H'->Rp K (off (λb=>B b\/f.adr a b) H') d v->Q v H')/\∀f e H',X f e->After K B H a o f H'->XE mg E e H'
def TVs.get:∀{b vs}{i:Nat}{s:S},TVs K Z H0 H H' b vs->b[i]?=some s->∃v,vs[i]?=some v/\TV K Z H0 H H' s v:=by
 intro n
 induction n with
 |nil=>
  intro _ i _ h e;simp at e
 |cons _ _ f=>
  intro _ i d h e;cases h with
  |cons h r=>
   cases i with
   |zero=>
    simp at e;subst e;exact⟨_,rfl,h⟩
   |succ i=>
    obtain⟨v,l,g⟩:=f r (by simpa using e);exact⟨v,by simpa using l,g⟩
noncomputable def N8(N:Ym)(o:O)(b:List S):Γ:=some (.own o)::(b.map some++List.replicate (N.length-(b.length+1)) none)
def Zrg{o a f us}(T:∀b,B b->Mut (H b)/\¬o.adr a b)(M:OR K (off (λb=>B b\/o.adr a b) H) H a o)(r:TVs K (λb=>B b\/o.adr a b) (off (o.adr a) H) H H f us)(L:∀s∈f,s.flat)(hn:f.length+1<=N.length) :
  XN K (off (o.adr a) H) B H (start N (.ref a::us)) (N8 N o f):=by
 have get:∀i s,(N8 N o f)[i+1]?=some (some s)->f[i]?=some s:=λi s h=>by
  unfold N8 at h;rw[Jp]at h;by_cases p:i<f.length
  ·rw[Q8 (by rw[W9];exact p),WR,WA p]at h;rw[WA p];exact Qs some (WT<|WT h)
  ·rw[QD (by rw[W9];lia),Jm]at h;split at h<;>cases h
 have noown:∀i g,(N8 N o f)[i+1]?≠some (some<|.own g):=λi g h=>L _ (Qp<|get i _ h)
 have n:(start N (V.ref a::us))[0]?=some (some<|.ref a):=by
  unfold L2.start;rfl
 have C:∀b,zof B (N8 N o f) (start N (V.ref a::us)) b->B b\/o.adr a b:=λb z=>by
  rcases z with z|⟨i,g,a',l,u,U⟩
  ·exact .inl z
  ·cases i with
   |zero=>
    cases u
    have:o=g:=by
     cases l
     rfl
    subst this;exact .inr U
   |succ i=>exact absurd l (noown i g)
 refine⟨off_sub,?_,λb h=>(T b h).1,λi j x Y g w b l u _ _ _ _=>?_,λi s h=>?_⟩
 ·unfold L2.start N8;simp[r.len]
 ·cases i with
  |succ i=>exact absurd l (noown i g)
  |zero=>
   cases j with
   |zero=>rfl
   |succ j=>exact absurd u (noown j w)
 ·cases i with
  |zero=>
   have h:=h;cases h
   refine⟨_,n,a,rfl,λb Q=>?_,M.mono (XY (Same.refl _) λb _ _ z y=>z (C b y)) λ_ _ _ q=>q⟩;unfold off;rw[WK Q]
  |succ i=>
   have J:=get i s h;obtain⟨v,G,A⟩:=r.get J;refine⟨v,?_,?_⟩
   ·unfold L2.start;rw[Q8 (by rw[W9,Qn];have:=(Qf.mp G).1;lia),WR,Jp,G];rfl
   ·have:=L s (Qp J)
    cases s with
    |bor d=>exact A
    |sh d=>exact Rp.mono (XY (Same.refl _) λb _ _ z y=>z (C b y)) A
    |_=>exact this.elim
def MA(o:O)(R:O->D->Prop)(γ:Γ)(d:D):Prop:=∃b,γ[0]?=some (some<|.own b)/\o.from b/\R b d
def Zmv(o:O)(X:O->Str->Prop)(γ:Γ)(e:Str):Prop:=∃b,γ[0]?=some (some<|.own b)/\o.from b/\X b e
noncomputable def MX(o:O)(R:O->D->Prop)(X:O->Str->Prop):TB:={nx:=λγ=>MA o R γ .non,rt:=λ_=>False,ex:=Zmv o X,rv:=MA o R}
def CH{σ'}{γ'}(n:OR K (off (λb=>B b\/o.adr a b) H) H a o)(e:XN K (off (o.adr a) H) B H' σ' γ')(h:γ'[0]?=some (some<|.own o'))(k:o.from o'):After K B H a o o' H'/\∀b,B b\/o'.adr a b->zof B γ' σ' b:=by
 obtain⟨v,s,f,rfl,r,l⟩:=e.slot 0 _ h;have u:=O.from_at k n l;subst u;have g:∀b,B b\/o'.adr f b->zof B γ' σ' b:=λb z=>z.imp id λz=>⟨0,o',f,h,s,z⟩;refine⟨⟨e.same,O.from_adr k,λb p=>?_,l.mono (XY (Same.refl _) λb _ _ z y=>z (g b y)) λ_ _ _ q=>q⟩,g⟩
 have:=r b p
 unfold off at this;by_cases q:o.adr f b
 ·exact .inl q
 ·grind
def Zqu{t p vs Q U n}(h:spW mg c K vs H Q U)(J:XW K mg (λ_=>U) t p)(hn:n+1<=N.length)(L:∀o s R X,c o s R X->s.length=n/\p (MX o R X) (N8 N o s)):t {nx:=λ_ H'=>Q .non H',rt:=Q} (start N vs) H:=by
 obtain⟨o,a,s,us,B,R,X,rfl,T,G,r,hf,hc,M,hX⟩:=h;obtain⟨e,L⟩:=L o s R X hc;refine J _ B H _ _ _ _ (λb z=>?_) (Zrg T G r hf<|by rw[e];exact hn) L ⟨λl q H' A C f1=>?_,λ_ _ _ z=>z.elim,λl q c H' A C f1=>?_,λ_ _ _ z=>z.elim,λ_ _ _ z=>z.elim,λl q d v H' A C f1 Y=>?_⟩
 ·obtain⟨g,f⟩:=T b z;obtain⟨x,hx⟩:=Bq g;exact⟨x,Kz hx f⟩
 ·obtain⟨w,g,f,u⟩:=A;exact M w .non .non H' u (CH G C g f).1 .non
 ·obtain⟨w,g,f,u⟩:=A;exact hX w c H' u (CH G C g f).1
 ·obtain⟨w,g,f,u⟩:=A;obtain⟨k1,k2⟩:=CH G C g f;exact M w d v H' u k1 (Rp.mono (XY (Same.refl _) λb _ _ z y=>z (k2 b y)) Y)
def Zdu(h:spW mg c K vs H Q p)(f:∀o b R X,c o b R X->b.length=n):vs.length=n+1:=by
 obtain⟨o,a,b,l,B,R,X,rfl,_,_,r,_,g,_⟩:=h;rw[Qn,r.len,f o b R X g]
abbrev PTW:=Γ->(Γ->D->Prop)->(Γ->Str->Prop)->Prop
def Tc(K:Yd)(mg:Yh)(E:L2.St->XK)(t:TE)(p:PTW):Prop:=∀(H0:Hp) (B:Addr->Prop) (H:Hp) (σ:L2.St) (γ:Γ) (R:Γ->D->Prop) (X:Γ->Str->Prop) (Q:VK),(∀b,B b->∃o,H0 b=some o)->XN K H0 B H σ γ->p γ R X->
 (∀f d v H',R f d->XN K H0 B H' σ f->Fr B H σ γ H' σ f->Rp K (off (zof B f σ) H') d v->Q v H')->(∀f c H',X f c->XN K H0 B H' σ f->Fr B H σ γ H' σ f->XE mg (E σ) c H')->t σ H Q
variable {te:TE}{w:PTW}
noncomputable def Zbv(w:PTW)(g:PTG):PTS:=λR γ=>w γ (λb d=>g (.sh d) b R.nx) R.ex
def Ao(hw:Tc K mg E te w)(q:N0 K J g p):XW K mg E (Se te g) (Zbv w p):=by
 intro H0 B H σ γ R D s n h e;refine hw H0 B H σ γ _ _ _ s n h (λb d v H1 x C f1 o=>?_) λb c H' r G z=>e.ex σ b c H' r G z;exact q H0 B H1 H1 σ b (.sh d) v _ _ C (Same.refl _) o x λf l u A y _=>e.nx f l H1 u A (f1.trans y)
noncomputable def Zpj(w:PTW):PTS:=λR γ=>w γ (λb _=>R.nx b) R.ex
def DN(hw:Tc K mg E te w):XW K mg E (SR te) (Zpj w):=by
 intro H0 B H σ γ R D l f h e;exact hw H0 B H σ γ _ _ _ l f h (λb d v H1 n p f1 _=>e.nx σ b H1 n p f1) λb c H' g q o=>e.ex σ b c H' g q o
noncomputable def Zpk(w:PTW):PTS:=λR γ=>w γ R.rv R.ex
def Bg(hw:Tc K mg E te w):XW K mg E (Sf te) (Zpk w):=by
 intro H0 B H σ γ R D n f h e;exact hw H0 B H σ γ _ _ _ n f h (λb d v H1 o q f1 g=>e.rv σ b d v H1 o q f1 g) λb c H' l r p=>e.ex σ b c H' l r p
noncomputable def Zoy(a:PTE):PTS:=λR γ=>a γ (λs=>match s.shd with|some d=>R.rv γ d|none=>False) (R.ex γ)
def K7(p:XG K mg E te a):XW K mg E (Sf te) (Zoy a):=by
 intro H0 B H σ γ R D r b h e;refine p H0 B H σ γ _ _ _ b h (λs v H1 g f n=>?_) λc H' o l=>e.ex σ γ c H' o (b.grow l) (Fr.grow l);split at g
 ·rename_i d q;exact e.rv σ γ d v H1 g (b.grow f) (Fr.grow f) (n.shd (b.grow f).same b.zm f q)
 ·grind
noncomputable def Zci(w:PTW):PTS:=λR γ=>w γ (λ_ d=>R.rt (.sh d)) R.ex
def Zll(hw:Tc K mg E te w):XW K mg E (Sf te) (Zci w):=by
 intro H0 B H σ γ R D o g h e;exact hw H0 B H σ γ _ _ _ o g h (λf d v H1 p r f1 l=>e.rt (.sh d) v H1 p r.same (Rp.mono (XY (Same.refl _) λb _ _ z y=>z (.inl y)) l)) λf c H' n s q=>e.ex σ f c H' n s q
def Zg5{s b:S}(h:s.pass=some b):b.flat:=by
 cases s with
 |bor d=>unfold S.pass at h;cases q:imm d<;>simp[q]at h<;>subst h<;>trivial
 |tmp d=>
  unfold S.pass at h;cases q:imm d<;>simp[q]at h
  subst h;trivial
 |view o=>cases h
 |_=>cases h;trivial
theorem Ej:∀{f b:List S},passes f=some b->∀s∈b,s.flat
 |[],_,h=>by cases h;simp
 |s::r,_,h=>by
  unfold passes at h;split at h
  ·rename_i n o l g;cases h
   intro x hx;rcases WL.mp hx with rfl|hx
   ·exact Zg5 l
   ·exact Ej g x hx
  ·grind
def TV.pass {v P W f} (r:Same H0 H') (n:∀b,Z b->Mut (H b)) (x:Same H H') (p:Same H0 (off P f)) (l:Same (off Z H') (off W f)) (h:TV K Z H0 H H' s v) (e:s.pass=some g):TV K W (off P f) f f g v:=by
 have shd:∀d,s.shd=some d->Rp K (off W f) d v:=λd u=>Rp.mono l (h.shd r n x u);cases s with
 |view o=>cases e
 |tmp d=>
  unfold S.pass at e;cases q:imm d with
  |false=>simp_all
  |true=>simp[q]at e;subst e;exact shd d (by unfold S.shd;simp[q])
 |bor d=>
  unfold S.pass at e;cases q:imm d with
  |false=>simp[q]at e;subst e;exact Rp.mono p h
  |true=>simp[q]at e;subst e;exact shd d (by unfold S.shd;simp[q])
 |_=>cases e;exact shd _ rfl
theorem TVs.pass {HB} (p:Same H0 H') (n:∀b,Z b->Mut (H b)) (q:Same H H') (o:Same H0 (off P HB)) (l:Same (off Z H') (off W HB)):∀{g f}{vs:List V},TVs K Z H0 H H' g vs->passes g=some f->TVs K W (off P HB) HB HB f vs
 |_,_,_,.nil,e=>by cases e;exact .nil
 |_,_,_,.cons h r,e=>by
  unfold passes at e;split at e
  ·rename_i v x u s;cases e
   exact .cons (h.pass p n q o l u) (TVs.pass p n q o l r s)
  ·grind
def D5{c:Pw}{i:Nat}{o:O}{a:Addr}{ss l:List S}{us:List V}{R:Γ->D->Prop}{X:Γ->Str->Prop}{Q:VK}{Ec:XK}(env:XN K H0 B H σ γ)(hB:∀b,B b->∃o,H0 b=some o)(U:Same H H1)(L:γ[i]?=some (some<|.own o))(G:σ[i]?=some (some<|.ref a))(t1:TVs K (zof B γ σ) H0 H H1 ss us)(hp:passes ss=some l)(hc:c o l (λo' d=>R (γ.set i<|some<|.own o') d) (λo' e=>X (γ.set i<|some<|.own o') e))(q:∀f d v H',R f d->XN K H0 B H' σ f->Fr B H σ γ H' σ f->Rp K (off (zof B f σ) H') d v->Q v H')(qx:∀f c H',X f c->XN K H0 B H' σ f->Fr B H σ γ H' σ f->XE mg Ec c H'):spW mg c K (.ref a::us) H1 Q Ec:=by
 have g:=env.grow U;obtain⟨v,h1,T,ev,h3,h4⟩:=g.slot i _ L;rw[G]at h1;cases h1
 cases ev
 have Y:∀b,o.adr a b->zof B γ σ b:=λb p=>.inr ⟨i,o,a,L,G,p⟩
 have J:∀o' H',After K (λb=>zof B γ σ b/\¬o.adr a b) H1 a o o' H'->XN K H0 B H' σ (γ.set i<|some<|.own o')/\Fr B H σ γ H' σ (γ.set i<|some<|.own o')/\∀b x,H' b=some x->¬((zof B γ σ b/\¬o.adr a b)\/o'.adr a b)->¬zof B (γ.set i<|some<|.own o') σ b:=λo' H' A=>by
  have C:∀b x,H' b=some x->¬((zof B γ σ b/\¬o.adr a b)\/o'.adr a b)->¬zof B (γ.set i<|some<|.own o') σ b:=λb x _ n z=>by
   rcases z with z|⟨j,fs,T,e1,M,N⟩
   ·refine n (.inl ⟨.inl z,λw=>?_⟩);obtain⟨u,hu⟩:=hB b z;rw[h3 b w]at hu;cases hu
   ·rcases Ky e1 with⟨ej,q,_⟩|⟨nj,q⟩
    ·subst ej;cases q
     rw[G]at M;cases M
     exact n (.inr N)
    ·exact n (.inl ⟨.inr ⟨j,fs,T,q,M,N⟩,λw=>nj (env.own j i T a fs o b q L M G N w)⟩)
  obtain⟨s,r⟩:=g.change (o':=o') (H':=H') L G (λb x hx n=>A.same b x (Kz hx n)) (λb p=>A.at_.mut b (A.old b p)) A.new (A.at_.mono (XY (Same.refl _) λb x hx z=>C b x hx z) λ_ _ _ q=>q);exact⟨s,(Fr.grow U).trans r,C⟩
 refine⟨o,a,l,us,λb=>zof B γ σ b/\¬o.adr a b,_,_,rfl,λb p=>⟨g.zm b p.1,p.2⟩,h4.mono (XY (Same.refl _) λb _ _ z y=>z (y.elim (λy=>y.1)<|Y b)) λ_ _ _ q=>q,?_,Ej hp,hc,λo' d v H' hR A rd=>?_,λo' e H' hX A=>?_⟩
 ·refine t1.pass g.same env.zm U (λb x hx=>Kz (g.same b x hx) λw=>?_) (XY (Same.refl _) λb _ _ z y=>z (y.elim (λy=>y.1)<|Y b)) hp;rw[h3 b w]at hx;cases hx
 ·obtain⟨s,r,k3⟩:=J o' H' A;exact q _ d v H' hR s r (Rp.mono (λb x h=>let ⟨p1,p2⟩:=T6 h;Kz p1 (k3 b x p1 p2)) rd)
 ·obtain⟨s,r,_⟩:=J o' H' A;exact qx _ e H' hX s r
noncomputable def Dw(i:Nat)(c:Pw)(r:PTA):PTW:=λγ R X=>match γ[i]? with
 |some (some<|.own o)=>r γ (λg=>match passes g with|some b=>c o b (λf d=>R (γ.set i<|some<|.own f) d) (λf e=>X (γ.set i<|some<|.own f) e)|none=>False) (X γ)
 |_=>False
def Zbr(i:Nat){c g r}(A:Kc K mg E g r){f:L2.St->XK}(G:∀σ,f σ=E σ):Tc K mg E (λσ H Q=>Kq (Pa i) g σ H λvs H1=>spW mg c K (vs++[]) H1 Q (f σ)) (Dw i c r):=by
 intro H0 B H σ γ R X Q J b h q l;unfold Dw at h;split at h
 ·rename_i o p;obtain⟨v,n,a,rfl,_,_⟩:=b.slot i _ p;refine⟨_,n,A H0 B H σ γ _ _ _ b h (λN x H1 s M y=>?_) λc H' C u=>l γ c H' C (b.grow u) (Fr.grow u)⟩;show spW mg c K ((V.ref a::x)++[]) H1 Q (f σ);rw[Qz,G];split at s
  ·rename_i z L;exact D5 b J M p n y L s q l
  ·grind
 ·grind
def Zne(i:Nat){c b r}(f:Kc K mg E b r):Tc K mg E (ExcR.Za1 (spW mg c K) E<|Kq (Pa i) b) (Dw i c r):=Zbr i f λ_=>rfl
noncomputable def RA(i:Nat)(c:Pw)(r:PTA):PTW:=λγ R X=>match γ[i]? with
 |some (some<|.own o)=>r γ (λf=>match passes f with|some b=>c o b (λg d=>R (γ.set i<|some<|.own g) d) (λ_ _=>False)|none=>False) (X γ)
 |_=>False
def P2(i:Nat){c f r}(A:Kc K mg E f r):Tc K mg E (SD (spW mg c K) [] E0<|Kq (Pa i) f) (RA i c r):=by
 intro H0 B H σ γ R X Q G b h q y;unfold RA at h;split at h
 ·rename_i o l;obtain⟨v,g,a,rfl,_,_⟩:=b.slot i _ l;refine⟨_,g,A H0 B H σ γ _ _ _ b h (λM s H1 n L u=>?_) λc H' C p=>y γ c H' C (b.grow p) (Fr.grow p)⟩;show spW mg c K ((V.ref a::s)++[]) H1 Q E0;rw[Qz];split at n
  ·rename_i x J;exact D5 (X:=λ_ _=>False) b G L l g u J n q λ_ _ _ z=>z.elim
  ·grind
 ·grind
def Hl(C:Addr)(xs:Ym)(j:Nat):S->(S->Prop)->Prop
 | .view (.ins _ f b h),R=>f=C/\b=xs/\∃c,h[j]?=some c/\R (.view<|.lst c.2)
 | .bor (.ins f b g),R=>f=C/\b=xs/\∃d,g[j]?=some d/\R (arg d)
 |_,_=>False
noncomputable def Zhq(C:Addr)(xs:Ym)(j:Nat)(a:PTE):PTE:=λγ R X=>a γ (λs=>Hl C xs j s R) X
def Rp.ins_inv (h:Rp K H (.ins C xs ds) v):∃a b vs,v=.ref a/\H a=some (.ins C b<|xs.zip vs)/\xs.length=vs.length/\Rps K H ds vs:=by
 cases h with
 |ins h e r=>grind
def FldAt(f:Str)(xs:Ym)(j:Nat):Prop:=∀b:List V,xs.length=b.length->(xs.zip b).lookup f=b[j]?
def F9(j:Nat){a}(L:Cls K C)(G:NoAttr K C f)(J:FldAt f xs j)(ha:XG K mg E te a):XG K mg E (Co K te f) (Zhq C xs j a):=by
 intro H0 B H σ γ R X Q l p q qx;refine ha H0 B H σ γ _ X _ l p (λs v H1 h z A=>?_) qx;have g:=l.grow z;unfold Hl at h;split at h
 ·rename_i x C' n cs;obtain⟨rfl,rfl,c,M,o⟩:=h;obtain⟨b,rfl,T,N,⟨y,r⟩,e4,e5⟩:=A;obtain⟨U,u1,Y⟩:=e4 c (Qp M);refine⟨b,_,y,_,_,rfl,r,L,G,?_,q _ _ H1 o z ⟨c.1,rfl,U,u1,Y⟩⟩;rw[J _ (by grind),WR,M];rfl
 ·rename_i C' n ds;obtain⟨rfl,rfl,d,ed,o⟩:=h;obtain⟨b,y,vs,rfl,T,N,r⟩:=Rp.ins_inv A;obtain⟨u,hu,ru⟩:=r.get ed;refine⟨b,_,y,_,u,rfl,g.same _ _ T,L,G,by rw[J _ N];exact hu,q _ _ H1 o z (Ba g.zm g.same ru)⟩
 ·exact h.elim
noncomputable def Ox(C:Addr)(xs:Ym)(c:Pc)(a:PTE)(r:PTA):PTE:=λγ R X=>a γ (λs=>match s.d with
 | .ins f b h=>f=C/\b=xs/\r γ (λg=>c (.ins f b h::g.map S.d) (λs=>R s.back) X) X
 |_=>False) X
def NoFld(m:Str)(xs:Ym):Prop:=∀b:List V,(xs.zip b).lookup m=none
noncomputable def Zmj(C:Addr)(m:Str)(sp:Sp)(E:L2.St->XK)(f:TE)(t:TA):TE:=λσ H Q=>f σ H λx H1=>∃a g fs,x=.ref a/\H1 a=some (.ins C g fs)/\fs.lookup m=none/\t σ H1 λb h=>sp (x::(b++[])) h Q (E σ)
def Zg3{m xs c z a r}(hx:NoFld m xs)(ha:XG K mg E te a)(T:Kc K mg E z r):XG K mg E (Zmj C m (XO mg c K) E te z) (Ox C xs c a r):=by
 intro H0 B H σ γ R X Q h p q y;refine ha H0 B H σ γ _ X _ h p (λs v H1 o n M=>?_) y;have f:=h.grow n;split at o
 ·rename_i C' A ds ed;obtain⟨rfl,rfl,o⟩:=o;have x:=M.rp f.same;rw[ed]at x;obtain⟨b,dx,G,rfl,e1,e2,e3⟩:=Rp.ins_inv x;refine⟨b,dx,_,rfl,e1,hx G,T H0 B H1 σ γ _ X _ f o (λss us H2 h2 l L=>?_) λc H' Y S'=>y c H' Y (n.trans S')⟩;have g:=f.grow l;rw[Qz];refine⟨_,_,X,Rps.cons (Rp.mono l x) (L.rps g.same),h2,λs v H' N u J=>q _ _ H' N ((n.trans l).trans u) (J.back g (n.trans l) u),λe H' U u=>y e H' U ((n.trans l).trans u)⟩
 ·grind
def HQ{m xs c f a r b}(hx:NoFld m xs)(h:XG K mg (λ_=>b) te a)(g:Kc K mg (λ_=>b) f r):XG K mg (λ_=>b) (Sk C m (XO mg c K) [] b te f) (Ox C xs c a r):=Zg3 hx h g
noncomputable def Zfq(C:Addr)(xs:Ym)(c:Pc)(a:PTE)(r:PTA):PTE:=λγ R X=>a γ (λs=>match s.d with
 | .ins f b h=>f=C/\b=xs/\r γ (λg=>c (.ins f b h::g.map S.d) (λs=>R s.back) λ_=>False) X
 |_=>False) X
def KY{m xs c x a r}(hx:NoFld m xs)(ha:XG K mg E te a)(U:Kc K mg E x r):XG K mg E (Sk C m (XO mg c K) [] E0 te x) (Zfq C xs c a r):=by
 intro H0 B H σ γ R X Q h p q y;refine ha H0 B H σ γ _ X _ h p (λs v H1 l o N=>?_) y;have f:=h.grow o;split at l
 ·rename_i C' G ds ed;obtain⟨rfl,rfl,l⟩:=l;have u:=N.rp f.same;rw[ed]at u;obtain⟨b,dx,J,rfl,e1,e2,e3⟩:=Rp.ins_inv u;refine⟨b,dx,_,rfl,e1,hx J,U H0 B H1 σ γ _ X _ f l (λss us H2 h2 n M=>?_) λc H' Y S'=>y c H' Y (o.trans S')⟩;have g:=f.grow n;rw[Qz];exact⟨_,_,_,Rps.cons (Rp.mono n u) (M.rps g.same),h2,λs v H' T A L=>q _ _ H' T ((o.trans n).trans A) (L.back g (o.trans n) A),λ_ _ z=>z.elim⟩
 ·grind
noncomputable def Zrs(i:Nat)(C:Addr)(xs:Ym)(c:Pw)(r:PTA):PTW:=λγ R X=>match γ[i]? with
 |some (some<|.own<|.ins x h b n)=>h=C/\b=xs/\r γ (λl=>match passes l with|some f=>c (.ins x h b n) f (λg d=>R (γ.set i<|some<|.own g) d) (λg e=>X (γ.set i<|some<|.own g) e)|none=>False) (X γ)
 |_=>False
noncomputable def Lr(i:Nat)(C:Addr)(xs:Ym)(c:Pw)(r:PTA):PTW:=λγ R X=>match γ[i]? with
 |some (some<|.own<|.ins x g b n)=>g=C/\b=xs/\r γ (λh=>match passes h with|some f=>c (.ins x g b n) f (λl d=>R (γ.set i<|some<|.own l) d) (λ_ _=>False)|none=>False) (X γ)
 |_=>False
def HP(i:Nat){C m xs c f r}(hx:NoFld m xs)(A:Kc K mg E f r):Tc K mg E (Sk C m (spW mg c K) [] E0 (Pa i) f) (Lr i C xs c r):=by
 intro H0 B H σ γ R X Q J b h q y;unfold Lr at h;split at h
 ·rename_i x C' p cs l;obtain⟨rfl,rfl,h⟩:=h;obtain⟨v,g,a,rfl,_,e1,e2,⟨N,M⟩,e4⟩:=b.slot i _ l;refine⟨_,g,a,N,_,rfl,M,hx _,A H0 B H σ γ _ _ _ b h (λY U H1 n T s=>?_) λc H' G o=>y γ c H' G (b.grow o) (Fr.grow o)⟩;rw[Qz];split at n
  ·rename_i u L;exact D5 (X:=λ_ _=>False) b J T l g s L n q λ_ _ _ z=>z.elim
  ·grind
 ·grind
theorem Rt{f:Type}:∀{l:List f}{i j:Nat}{x:f},l.Nodup->l[i]?=some x->l[j]?=some x->i=j
 |[],_,_,_,_,h,_=>by simp at h
 |y::r,0,0,_,_,_,_=>rfl
 |y::r,0,j+1,x,b,n,g|y::r,i+1,0,x,b,n,g=>by
  grind
 |y::r,i+1,j+1,x,b,n,g=>Qs (· + 1) (Rt (Q1.mp b).2 (by trivial)<|by grind)
def XN.cell {f b ds es us} (env:XN K H0 B H σ γ) (L:γ[i]?=some (some<|.own<|.ins x C xs f)) (s:f[j]?=some (b,ds)) (r:Rps K (off (zof B γ σ) H) es us) :
  XN K H0 B (upd H b<|.lst us) σ (γ.set i<|some<|.own<|.ins x C xs<|f.set j (b,es))/\Fr B H σ γ (upd H b<|.lst us) σ (γ.set i<|some<|.own<|.ins x C xs<|f.set j (b,es)):=by
 obtain⟨v,Y,a,rfl,e0,e1,e2,⟨dx,e3⟩,e4,e5⟩:=env.slot i _ L;subst e1;have l:=Qp s
 have M:a≠b:=λz=>by
  obtain⟨T,o,_⟩:=e4 _ l;rw[←show a=b from z,e3]at o
  cases o
 have em:(f.set j (b,es)).map (·.1)=f.map (·.1):=by
  apply Ub;intro k;rw[WR,WR,List.getElem?_set];by_cases e:j=k
  ·subst e;rw[WK rfl,WK ((Qf.mp s).1),s];rfl
  ·rw[WI e]
 have N:(f.set j (b,es)).map (λc=>V.ref c.1)=f.map λc=>V.ref c.1:=by
  have:=Qs (List.map V.ref) em
  rw[WY,WY]at this;exact this
 have adr:∀c,(O.ins a C xs<|f.set j (b,es)).adr a c->(O.ins a C xs f).adr a c:=λc g=>by
  rcases g with g|⟨d,hd,g⟩
  ·exact .inl g
  ·have:d.1∈(f.set j (b,es)).map (·.1):=VY hd
   rw[em]at this;obtain⟨d',A,p⟩:=WO.mp this;exact .inr ⟨d',A,g.trans p.symm⟩
 have y:∀c,(O.ins a C xs f).adr a c->zof B γ σ c:=λc g=>.inr ⟨i,_,a,L,Y,g⟩
 have So:Same (off (zof B γ σ) H) (off (zof B (γ.set i<|some<|.own<|.ins a C xs<|f.set j (b,es)) σ)<|upd H b<|.lst us):=λc u h=>by
  obtain⟨A,p⟩:=T6 h;have G:=λz=>p (y c<|.inr ⟨_,l,z⟩);refine Kz (by rw[XM G];exact A) λz=>p ?_;rcases z with z|⟨k,fs,a',k1,k2,U⟩
  ·exact .inl z
  ·rcases Ky k1 with⟨Q,q,_⟩|⟨_,q⟩
   ·subst Q;cases q
    exact y c (adr c U)
   ·exact .inr ⟨k,fs,a',q,k2,U⟩
 refine env.change L Y (λc u hu n=>?_) (λc g=>?_) (λc g=>.inl (adr c g)) ⟨rfl,by rw[QN];exact e2,⟨dx,?_⟩,λc g=>?_,by rw[em];exact e5⟩
 ·rw[XM λz=>n (.inr ⟨_,l,z⟩)];exact hu
 ·by_cases z:c=b
  ·rw[z,Kb];trivial
  ·rw[XM z];exact env.zm c (y c g)
 ·rw[XM M,N];exact e3
 ·obtain⟨k,hk,Q⟩:=JQ g;have J:(f.set j (b,es))[k]?=some c:=by rw[WA hk,Q]
  rcases Ky J with⟨_,q,_⟩|⟨nk,q⟩
  ·subst q;exact⟨us,Kb,Rps.mono So r⟩
  ·obtain⟨T,o,w2⟩:=e4 c (Qp q)
   have G:=λz=>nk (by
    have h1:(f.map (·.1))[k]?=some b:=by rw[WR,q];exact Qs some z
    have h2:(f.map (·.1))[j]?=some b:=by rw[WR,s];rfl
    exact Rt e5 h1 h2)
   exact⟨T,by rw[XM G];exact o,Rps.mono So w2⟩
noncomputable def Ri(i j:Nat)(C:Addr)(xs:Ym)(a:PTE):PTW:=λγ R X=>match γ[i]? with
 |some (some<|.own<|.ins x g b f)=>g=C/\b=xs/\∃c,f[j]?=some c/\a γ (λs=>match s.shd with
  |some d=>c.2.length<10000000/\R (γ.set i<|some<|.own<|.ins x g b<|f.set j (c.1,c.2++[d])) .non
  |none=>False) (X γ)
 |_=>False
def Em(i j:Nat){C f xs a}(p:Cls K C)(hn:NoAttr K C f)(hj:FldAt f xs j)(ha:XG K mg E te a):Tc K mg E (tBM K "list" DK (Co K (Pa i) f)<|Kq te KH) (Ri i j C xs a):=by
 intro H0 B H σ γ R X Q hB g h q T;unfold Ri at h;split at h
 ·rename_i x C' M cs J;obtain⟨rfl,rfl,c,r,h⟩:=h;obtain⟨v,hv,b,rfl,_,e1,e2,⟨dx,e3⟩,e4,e5⟩:=g.slot i _ J;obtain⟨y,G,A⟩:=e4 c (Qp r);refine⟨_,hv,b,_,dx,_,V.ref c.1,rfl,e3,p,hn,?_,.inl ⟨rfl,y,SqL.of G⟩,ha H0 B H σ γ _ _ _ g h (λs u H1 o n N=>?_) λc H' p L=>T γ c H' p (g.grow L) (Fr.grow L)⟩
  ·rw[hj _ (by grind),WR,r];rfl
  ·have l:=g.grow n;split at o
   ·rename_i d ed;refine⟨c.1,y,u,rfl,rfl,n _ _ G,by rw[A.len];exact VH o.1 (by decide),?_⟩;obtain⟨Y,U⟩:=l.cell J r (Rps.append (Rps.mono (XY n λ_ _ _ z=>z) A)<|.cons (N.shd l.same g.zm n ed) .nil);exact q _ _ _ _ o.2 Y ((Fr.grow n).trans U) .non
   ·exact o.elim
 ·exact h.elim
def PutAt(f:Str)(xs:Ym):Prop:=∀(b:List V) (y:V),xs.length=b.length->KS f y (xs.zip b)=(xs++[f]).zip (b++[y])
noncomputable def Zcv(i:Nat)(C:Addr)(f:Str)(xs:Ym)(a:PTE):PTS:=λR γ=>a γ (λs=>match s with
 | .own (.lst l)=>(match γ[i]? with
  |some (some<|.own<|.ins x h g n)=>h=C/\g=xs/\xs.length<1000/\∀b,R.nx (γ.set i<|some<|.own<|.ins x h (xs++[f]) (n++[(b,l)]))
  |_=>False)
 |_=>False) (R.ex γ)
def Ez(i:Nat){C f xs a}(g:Cls K C)(hn:NoAttr K C f)(hp:PutAt f xs)(ha:XG K mg E te a):XW K mg E (MB K (Pa i) te f) (Zcv i C f xs a):=by
 intro H0 B H σ γ R D hB p h e;refine ha H0 B H σ γ _ _ _ p h (λs v H1 G Q t1=>?_) λc H' g S'=>e.ex σ γ c H' g (p.grow S') (Fr.grow S');split at G
 ·rename_i ds;split at G
  ·rename_i x M o r hi;obtain⟨rfl,rfl,hl,G⟩:=G;obtain⟨u,hv,b,rfl,e0,e1,e2,⟨dx,e3⟩,e4,e5⟩:=p.slot i _ hi;subst e1;obtain⟨l,rfl,L,vs,l1,l2⟩:=t1;have L:=L l rfl;refine⟨_,hv,b,_,dx,_,rfl,Q _ _ e3,g,hn,?_,?_⟩
   ·rw[List.length_zip,W9];lia
   ·rw[hp _ _ (by rw[W9];exact e2)]
    have nl:∀c∈r,c.1≠l:=λc g=>by
     obtain⟨ws,J,_⟩:=e4 c g;exact K4 J L
    have nb:∀c∈r,c.1≠b:=λc g z=>by
     obtain⟨ws,J,_⟩:=e4 c g;rw[z,e3]at J;cases J
    have T:∀c,(O.ins b M o r).adr b c->zof B γ σ c:=λc g=>.inr ⟨i,_,b,hi,hv,g⟩
    have key:∀c u,H1 c=some u->¬(zof B γ σ c\/c=l)->¬zof B (γ.set i<|some<|.own<|.ins b M (o++[f]) (r++[(l,ds)])) σ c:=λc u _ n z=>by
     rcases z with z|⟨k,fs,a',k1,N,A⟩
     ·exact n (.inl<|.inl z)
     ·rcases Ky k1 with⟨ek,q,_⟩|⟨_,q⟩
      ·subst ek;cases q
       rw[hv]at N;cases N
       rcases A with A|⟨d,hd,A⟩
       ·exact n (.inl<|T c<|.inl A)
       ·rcases Qd.mp hd with hd|hd
        ·exact n (.inl<|T c<|.inr ⟨d,hd,A⟩)
        ·rw[WC]at hd;subst hd;exact n (.inr A)
      ·exact n (.inl<|.inr ⟨k,fs,a',q,N,A⟩)
    have So:Same (off (λc=>zof B γ σ c\/c=l) H1) (off (zof B (γ.set i<|some<|.own<|.ins b M (o++[f]) (r++[(l,ds)])) σ)<|upd H1 b<|.ins M dx ((o++[f]).zip ((r.map λc=>V.ref c.1)++[.ref l]))):=λc u h=>by
     obtain⟨Y,U⟩:=T6 h;exact Kz (by rw[XM λz=>U (.inl<|T c<|.inl z)];exact Y) (key c u Y U)
    have S0:Same (off (zof B γ σ) H) (off (λc=>zof B γ σ c\/c=l) H1):=XY Q λc u g z y=>y.elim z λy=>by rw[y,L]at g;cases g
    obtain⟨k1,N⟩:=p.change (o':=.ins b M (o++[f]) (r++[(l,ds)])) (H':=upd H1 b (.ins M dx ((o++[f]).zip ((r.map λc=>V.ref c.1)++[.ref l])))) hi hv
     (λc u hu n=>by rw[XM λz=>n (.inl z)];exact Q _ _ hu)
     (λc g=>by
      by_cases z:c=b
      ·rw[z,Kb];trivial
      ·rw[XM z];exact(p.grow Q).zm c (T c g))
     (λc g=>by
      rcases g with g|⟨d,hd,g⟩
      ·exact .inl (.inl g)
      ·rcases Qd.mp hd with hd|hd
       ·exact .inl (.inr ⟨d,hd,g⟩)
       ·rw[WC]at hd;subst hd;exact .inr (by rw[show c=l from g];exact L))
     ⟨rfl,by rw[Qa,Qa,e2];rfl,⟨dx,by rw[Kb,WX];rfl⟩,λc g=>by
      rcases Qd.mp g with g|g
      ·obtain⟨ws,J,w2⟩:=e4 c g;exact⟨ws,by rw[XM (nb c g)];exact Q _ _ J,Rps.mono So (Rps.mono S0 w2)⟩
      ·rw[WC]at g;subst g;exact⟨vs,by rw[XM (λz=>(K4 e3 L) z.symm)];exact l1,Rps.mono So l2⟩,by
      rw[WX,QM]
      exact⟨e5,by simp,λc g d hd z=>by
       obtain⟨c',Y,U⟩:=WO.mp g
       have:d=l:=by simpa using hd
       exact nl c' Y (U.trans<|z.trans this)⟩⟩
    exact e.nx _ _ _ (G l) k1 N
  ·exact G.elim
 ·exact G.elim
def Zou{c}{M l}{us}{R:S->Prop}{X:XR}{Q:VK}{Ec}(env:XN K H0 B H σ γ)(p:Same H H1)(T:TVs K (zof B γ σ) H0 H H1 M us)(N:passes M=some l)(h1:∀x,c (.ins x C [] []) l (λo' d=>d=.non/\R (.own o')) (λ_ e=>X e))(q:∀s v H',R s->Same H H'->TV K (zof B γ σ) H0 H H' s v->Q v H')(Y:∀c H',X c->Same H H'->XE mg Ec c H') :
  ∀x h,H1 x=none->H1 h=none->h≠x->spW mg c K (.ref x::us) (upd (upd H1 h<|.own x) x<|.ins C h []) (λv H2=>v=.non/\Q (.ref x) H2) Ec:=by
 have f:=env.grow p;intro x h n J nex
 have u:Same H1 (upd (upd H1 h<|.own x) x<|.ins C h []):=λb o e=>by
  rwa[XM (K4 e n),XM (K4 e J)]
 have r:∀o' H',After K (zof B γ σ) (upd (upd H1 h<|.own x) x<|.ins C h []) x (.ins x C [] []) o' H'->Same H1 H'/\∀b,o'.adr x b->H b=none:=λo' H' A=>by
  refine⟨λb o e=>A.same b o (Kz (u b o e) λz=>?_),λb G=>?_⟩
  ·rcases z with z|⟨c,g,_⟩
   ·rw[z,n]at e;cases e
   ·cases g
  ·rcases A.new b G with(z|⟨c,g,_⟩)|z
   ·rw[z];exact p.free n
   ·cases g
   ·exact p.free (u.free z)
 refine⟨.ins x C [] [],x,l,us,zof B γ σ,_,_,rfl,λb G=>⟨TK u (f.zm b G),λz=>?_⟩,⟨rfl,rfl,⟨h,Kb⟩,(λc g=>by cases g),VI⟩,?_,Ej N,h1 x,λo' d v H' L A U=>?_,λo' e H' hX A=>?_⟩
 ·rcases z with z|⟨c,g,_⟩
  ·have:=f.zm b G
   rw[z,n]at this;exact this
  ·cases g
 ·refine T.pass f.same env.zm p (λb o e=>Kz (u _ _<|f.same b o e) λz=>?_) (XY u λb o e z y=>?_) N
  ·rcases z with z|⟨c,g,_⟩
   ·rw[z,(f.same).free n]at e;cases e
   ·cases g
  ·rcases y with y|y|⟨c,g,_⟩
   ·exact z y
   ·rw[y,n]at e;cases e
   ·cases g
 ·obtain⟨rfl,L⟩:=L;obtain⟨k1,k2⟩:=r o' H' A;exact⟨Rp.non_inv U,q _ _ H' L (p.trans k1) ⟨x,rfl,k2,A.at_⟩⟩
 ·exact Y e H' hX (p.trans (r o' H' A).1)
noncomputable def Zlb(C:Addr)(c:Pw)(r:PTA):PTE:=λγ R X=>r γ (λf=>match passes f with|some b=>∀x,c (.ins x C [] []) b (λg d=>d=.non/\R (.own g)) (λ_ _=>False)|none=>False) X
def Zn9{f r}(o:Kc K mg E f r):XG K mg E (CL C (spW mg c K) [] E0 f) (Zlb C c r):=by
 intro H0 B H σ γ R X Q b p q n;refine o H0 B H σ γ _ X _ b p (λx v H1 g u h=>?_) n;split at g
 ·rename_i l s;rw[Qz];exact Zou b u h s g q λ_ _ z=>z.elim
 ·grind
end
def Fq{b:Type}{us:List b}(h:us.length=1):∃a,us=[a]:=List.length_eq_one_iff.mp h
def BL{f:Type}{us:List f}(h:us.length=2):∃a b,us=[a,b]:=by
 cases us with
 |nil=>grind
 |cons a r=>obtain⟨b,rfl⟩:=Fq (by simpa using h);exact⟨a,b,rfl⟩
def FP{f:Type}{us:List f}(h:us.length=3):∃a b c,us=[a,b,c]:=by
 cases us with
 |nil=>grind
 |cons a r=>obtain⟨b,c,rfl⟩:=BL (by simpa using h);exact⟨a,b,c,rfl⟩
def Cg{f:Type}{us:List f}(h:us.length=4):∃a b c d,us=[a,b,c,d]:=by
 cases us with
 |nil=>grind
 |cons a r=>obtain⟨b,c,d,rfl⟩:=FP (by simpa using h);exact⟨a,b,c,d,rfl⟩
def Zhi{f:Type}{us:List f}(h:us.length=5):∃a b c d e,us=[a,b,c,d,e]:=by
 cases us with
 |nil=>grind
 |cons a r=>obtain⟨b,c,d,e,rfl⟩:=Cg (by simpa using h);exact⟨a,b,c,d,e,rfl⟩
structure Kk (K:Yd) (W:Addr->Prop) (x q:Str) (st:Stmt) (ps:Ym):Prop where
 ex:∃f fd,Fun K x q st f fd/\W f/\Binds K fd ps []
structure P7 (P:Program) (w:World) (K:Yd) (mg:Yh) (base:Heap) (CX:CXT) (k:Nat) (W:Addr->Prop) (ps:Ym) (sp:Sp):Prop where
 ex:∃f fd,KU P w K mg base CX k f fd ps sp/\W f/\Binds K fd ps []
section
variable {P:Program}{w:World}{K:Yd}{mg:Yh}{base:Heap}{W:Addr->Prop}
def Kk.ok {st N ps k sp} (D:Kk K W x q st ps) (S:XI N ps (XH st)) (len:∀vs H Q E,sp vs H Q E->vs.length=ps.length)
  (g:∀f b A outer s H vs Q E,XS k (A.deeper<|envOfC q (XH st) s.heap.objs.size f b)->sp vs H Q E->
   ∃t,PSs (Ks CX0 P w K mg base N q (XH st) f b A outer s H E).nox (Km st) t/\t {nx:=λ_ H'=>Q .non H',rt:=Q} (start N vs) H):P7 P w K mg base CX0 (k+1) W ps sp:=by
 obtain⟨f,p,F,n,o⟩:=D.ex;exact⟨f,p,F.ok S len λb A outer s H vs Q E l h=>g f b A outer s H vs Q E l h,n,o⟩
def Kk.okX {st N ps k sp} (D:Kk K W x q st ps) (S:XI N ps (XH st)) (len:∀vs H Q E,sp vs H Q E->vs.length=ps.length)
  (g:∀f b A outer s H vs Q E,XS k (A.deeper<|envOfC q (XH st) s.heap.objs.size f b)->sp vs H Q E->
   ∃t,PSs (Ks (ExcR.CXe P w) P w K mg base N q (XH st) f b A outer s H E) (Km st) t/\t {nx:=λ_ H'=>Q .non H',rt:=Q} (start N vs) H):P7 P w K mg base (ExcR.CXe P w) (k+1) W ps sp:=by
 obtain⟨f,B,F,r,u⟩:=D.ex;obtain⟨oc,z,kV,v,y,G,b,C,n,rfl,o,l⟩:=F.ex;exact⟨f,_,E9 o l S len λA outer s H vs Q E p h=>g f b A outer s H vs Q E p h,r,u⟩
def N2:P6 (ExcR.CXe P w) X E0:=λ_ _ _ _ _ _ _ h=>by
 obtain⟨a,T,C,b,f,_,_,z⟩:=h
 grind
end
section
variable {X:Cx}{CX:CXT}{k:Nat}{Cc:Addr}{ps:Ym}{sp:Sp}{E:XK}{ES:L2.St->XK}{x m:Str}{p pos apos:Pos}{e o:Expr}{es:Yn}{ta:TE}{t:TA}
def F2{pl}(C:P7 X.prog X.w X.K X.mg X.base CX k (Ku X.K Cc m) ps sp)(c:Cls X.K Cc)(n:XS k X.A)(hx:P6 CX X E)(r:PE X o ta)(u:PA X (e::es) t)(b:autoParam (starEach (e::es) X.env=(false,eval e X.env)::starEach es X.env) au_0)(g:autoParam ((backTo pos<|starEach es X.env).any (·.1)=false) au_0)
  (l:autoParam (eval (.Call (.Attribute o m apos) (e::es) [] pos) X.env=(do
   let h ←eval o X.env
   standAt apos.atName
   let (f,first) ←holding [h] (getMethod h m pl)
   callWith pos f first (backTo pos<|starEach (e::es) X.env) (backToKw pos<|keywordEach [] X.env))) au_0) :
  PE X (.Call (.Attribute o m apos) (e::es) [] pos) (Sk Cc m sp [] E ta t):=by
 obtain⟨f,v,F,q,s⟩:=C.ex;exact Zcb r c q F n s .nil hx u b g l
def Pe(C:P7 X.prog X.w X.K X.mg X.base CX k (Ku X.K Cc m) ps sp)(c:Cls X.K Cc)(h:XS k X.A)(hx:P6 CX X E)(n:PE X o ta)
  (g:autoParam (eval (.Call (.Attribute o m apos) [] [] pos) X.env=(do
   let b ←eval o X.env
   standAt apos.atName
   let (f,first) ←holding [b] (getMethod b m r)
   callWith pos f first (backTo pos<|starEach [] X.env) (backToKw pos<|keywordEach [] X.env))) au_0) :
  PE X (.Call (.Attribute o m apos) [] [] pos) (Sk Cc m sp [] E ta KH):=by
 obtain⟨f,s,F,l,q⟩:=C.ex;exact Zfg n c l F h q .nil hx g
def Zqa(C:P7 X.prog X.w X.K X.mg X.base CX k (Mk X.K Cc) ps sp)(l:X.mg x=some (.ref Cc))(h:XS (k+1) X.A)(hx:P6 CX X E)(s:PA X (e::es) t)(n:autoParam (Gl X x) au_0)(g:autoParam ((x==("__debug__" : Str))=false) au_1)(q:autoParam (starEach (e::es) X.env=(false,eval e X.env)::starEach es X.env) au_0)(b:autoParam ((backTo pos<|starEach es X.env).any (·.1)=false) au_0) :
  PE X (.Call (.Name x p) (e::es) [] pos) (CL Cc sp [] E t):=by
 obtain⟨f,u,F,M,r⟩:=C.ex;exact Zph M F h n l r .nil hx s g q b
end
abbrev PTF:=Γ->Str->(Str->Prop)->XR->Prop
section
variable {K:Yd}{mg:Yh}{E:L2.St->XK}{t:ExcR.TF}{p:PTF}{te:TE}{a:PTE}
def SH(K:Yd)(mg:Yh)(E:L2.St->XK)(t:ExcR.TF)(p:PTF):Prop:=∀(l:Hp) (B:Addr->Prop) (H:Hp) (g:L2.St) (h:Γ) (b:Str) (R:Str->Prop) (X:XR) (Q:Str->Hp->Prop),XN K l B H g h->p h b R X->
 (∀x f,R x->Same H f->Q x f)->(∀c f,X c->Same H f->XE mg (E g) c f)->t g H b Q
noncomputable def Zc9:PTF:=λ_ b R _=>b.length<=sizeLine/\R b
def NB:SH K mg E ExcR.Za7 Zc9:=λn B H g l b R X Q f h q _=>⟨h.1,q _ H h.2 (Same.refl _)⟩
noncomputable def Zf3(x:Str)(p:PTF):PTF:=λf b R X=>(b++x).length<=sizeLine/\p f (b++x) R X
def Tu(h:SH K mg E t p):SH K mg E (ExcR.IM x t) (Zf3 x p):=λr B H g l o R X Q b f q n=>⟨f.1,h r B H g l _ R X Q b f.2 q n⟩
noncomputable def Zda(a:PTE)(p:PTF):PTF:=λf b R X=>a f (λs=>match s.d with
 | .int i=>i.natAbs.log2<1920/\(b++(Str.ofString<|toString i)).length<=sizeLine/\p f (b++Str.ofString (toString i)) R X
 | .str x=>x.length<=sizeLine/\(b++x).length<=sizeLine/\p f (b++x) R X
 |_=>False) X
def T7(M:XG K mg E te a)(h:SH K mg E t p):SH K mg E (ExcR.Zak te t) (Zda a p):=λA B H u w J R X Q n L q y=>by
 refine M A B H u w _ X _ n L (λs v C f o G=>?_) y;have b:=n.grow o;have r:=G.rp b.same;split at f
 ·rename_i i ei;rw[ei]at r;exact .inl ⟨i,r.int_inv,f.1,f.2.1,h A B C u w _ R X Q b f.2.2 (λx l hx g=>q x l hx (o.trans g)) λc l z g=>y c l z (o.trans g)⟩
 ·rename_i x N;rw[N]at r;exact .inr ⟨x,r.str_inv,f.1,f.2.1,h A B C u w _ R X Q b f.2.2 (λx l hx g=>q x l hx (o.trans g)) λc l z g=>y c l z (o.trans g)⟩
 ·grind
noncomputable def pF(p:PTF):PTE:=λb R X=>p b Str.empty (λx=>R (.sh<|.str x)) X
def Nx(h:SH K mg E t p):XG K mg E (ExcR.tF t) (pF p):=λr B H f g R X Q b n q l=>
 h r B H f g _ _ X _ b n (λx s hx o=>q _ _ s hx o (.str x)) l
end
open M
noncomputable abbrev plD(f:Ye):D:=.lst (f.map prD)
noncomputable abbrev dD(q:Str×Yf):D:=.tup (.str q.1::q.2.map D.int)
noncomputable abbrev vF:Ym:=["book","fields","wished"]
noncomputable abbrev vO(C x b1 b2 f:Addr)(bk:List (Str×Yf))(fs b:List (Ye)):O:=.ins x C vF [(b1,bk.map dD),(b2,fs.map plD),(f,b.map plD)]
noncomputable abbrev Nd(C:Addr)(bk:List (Str×Yf))(fs b:List (Ye)):D:=.ins C vF [.lst (bk.map dD),.lst (fs.map plD),.lst (b.map plD)]
def FB{b:Type}(f:b->D)(xs:List b)(x:b):atI ((xs++[x]).map f) (-1)=some (f x):=by
 refine Ph ?_;unfold atI ixN;rw[WI (by lia),WK (by grind)];show(xs++[x])[_]?=some x;have e:((-1:Int)+((xs++[x]).length:Int)).toNat=xs.length:=by grind
 rw[e,QD (WG _),Nat.sub_self];rfl
def Tx(e:Option Str)(X:Str->Prop)(R:Prop):Prop:=match e with|some c=>X c|none=>R
noncomputable def BO(h:Int):Option Str:=if 1<=h/\h<=10 then none else some "BadHolder"
noncomputable def Nk:Ye->Option Str
 |[]=>none
 |q::r=>if ¬(1<=q.1/\q.1<=10)then some "BadHolder" else if ¬(1<=q.2/\q.2<=1000)then some "BadWidth" else Nk r
noncomputable def Bf(ps:Ye):Option Str:=if 40<ps.length then some "TooManyStrips" else Nk ps
theorem LW:∀{ps:Ye},Field ps->Nk ps=none
 |[],_=>rfl
 |q::r,h=>by
  obtain⟨l,g,f,b⟩:=h q Qh;unfold Nk;rw[WI (λz=>z ⟨l,g⟩),WI (λz=>z ⟨f,b⟩)];exact LW λx hx=>h x (WV _ hx)
def Zoz(h:Field ps)(b:ps.length<=40):Bf ps=none:=by
 unfold Bf;rw[WI (by lia)];exact LW h
def Zjz(q:Int×Int)(r:Ye):Nk (q::r)=if ¬(1<=q.1/\q.1<=10)then some ("BadHolder" : Str)else if ¬(1<=q.2/\q.2<=1000)then some ("BadWidth" : Str)else Nk r:=rfl
section
variable {K:Yd}{mg:Yh}{E:L2.St->XK}
noncomputable def MR(i:Nat)(a:PTE):PTS:=λR b=>match b[i]? with
 |some (some<|.own<|.lst g)=>a b (λs=>match s.shd with
  |some (.lst f)=>g.length+f.length<=10000000/\R.nx (b.set i<|some<|.own (g++f))
  |_=>False) (R.ex b)
 |_=>False
def Zgl(i:Nat){te a}(T:XG K mg E te a):XW K mg E (SR<|tBM K "list" RP (Pa i)<|Kq te KH) (MR i a):=by
 intro H0 B H r w R D hB f h e;unfold MR at h;split at h
 ·rename_i ds C;obtain⟨v,A,b,rfl,Q,us,G,y⟩:=f.slot i _ C;refine⟨_,A,.inl ⟨rfl,us,SqL.of G⟩,T H0 B H r w _ _ _ f h (λs u H1 p n M=>?_) λc L N J=>e.ex r w c L N (f.grow J) (Fr.grow J)⟩;have g:=f.grow n;split at p
  ·rename_i es q;obtain⟨a',x,rfl,o,l⟩:=Rp.lst_inv (M.shd g.same f.zm n q);refine⟨b,a',us,x,rfl,rfl,n _ _ G,off_sub _ _ o,by rw[y.len,l.len];exact WQ p.1 (by decide),?_⟩;obtain⟨q,Y⟩:=g.mutate (es:=.lst (ds++es)) (us:=.lst (us++x)) C A trivial λF L SF U=>⟨_,U,Rps.mono SF (Rps.append (Rps.mono (XY n λ_ _ _ z=>z) y) l)⟩;exact e.nx _ _ _ p.2 q ((Fr.grow n).trans Y)
  ·grind
 ·exact h.elim
end
theorem Hc:∀{a b:Yf},sl a b->¬sl b a
 |[],_,h,_|_::_,[],h,_=>by cases h
 |a::r,b::t,h,k=>by
  rcases h with h|⟨e,h⟩
  ·rcases k with k|⟨e,_⟩<;>lia
  ·rcases k with k|⟨_,k⟩
   ·lia
   ·exact Hc h k
def Pv.uniq (h:Pv b c f o) (k:Pv b c f p):o=p:=by
 have e:oc c p=oc c o:=by
  have l:=h.le p k.perm k.keeps;have g:=k.le o h.perm h.keeps;lia
 rcases h.first p k.perm k.keeps e with z|z
 ·lia
 ·rcases k.first o h.perm h.keeps e.symm with y|y
  ·grind
  ·exact absurd y (Hc z)
def run_mem:x∈Ka 1 n↔1<=x/\x<=n:=by
 unfold Ka;rw[WO];constructor
 ·grind
 ·rintro⟨f,b⟩;exact⟨(x-1).toNat,Vl.mpr (by lia),by lia⟩
noncomputable def TR(f:Ye)(a b:Int):Option Str:=if ¬(1<=a/\a<=10)then some "BadHolder" else if ¬(1<=b/\b<=10)then some "BadHolder" else if a=b then some "LikeHolders" else if (a,b)∈f then some "WishStands" else if 20<=f.length then some "TooManyWishes" else none
def Zf4(h:Pt f)(e:TR f a b=none):Pt (f++[(a,b)]):=by
 unfold TR at e;split at e
 ·cases e
 split at e
 ·cases e
 split at e
 ·cases e
 split at e
 ·cases e
 split at e
 ·cases e
 rename_i v u s n r;obtain⟨p,l,o⟩:=h;refine⟨by rw[Qa,Vd];lia,?_,λq hq=>?_⟩
 ·rw[QM];exact⟨l,by simp,λx hx y g z=>by rw[WC]at g;subst g;exact n (z▸hx)⟩
 ·grind
def Zp2:Pt []:=by trivial
noncomputable def Dd(m:Yf)(k:Int):Int:=1+(k*m.getD 1 0+m.getD 2 0) % 10
def Zey(f:Fp m){x y}(hx:0<=x/\x<=9)(l:0<=y/\y<=9)(h:x≠y):Dd m x≠Dd m y:=by
 obtain⟨a,b,c,d,e,rfl,r,⟨_,_,q⟩,p,o,n⟩:=f;intro z;have g:1+(x*b+c) % 10=1+(y*b+c) % 10:=z
 grind
def two_ne{o r p:Int}(f:0<=o/\o<p)(b:0<=r/\r<p-1):(0<=(o+1+r) % p/\(o+1+r) % p<p)/\o≠(o+1+r) % p:=by
 by_cases h:o+1+r<p
 ·rw[Int.emod_eq_of_lt (by lia) h];lia
 ·rw[←Int.sub_emod_right,Int.emod_eq_of_lt (by lia) (by lia)];lia
def LM{a b}(o:1<=a/\a<=10)(n:1<=b/\b<=10)(l:a≠b)(h:(a,b)∉f)(g:f.length<20):TR f a b=none:=by
 unfold TR
 grind
noncomputable def T5(ps:Ye)(os:Yf):Option Str:=if os.isPerm (XJ ps)=true then none else some "BadOrder"
def Dn{os}(h:os.Perm (XJ ps)):T5 ps os=none:=by
 unfold T5;rw[WK (List.isPerm_iff.mpr h)]
def Ze8{os ns}(b:ns.Perm os)(f:ns.Pairwise (·<=·)):(ns=XJ ps)↔os.isPerm (XJ ps)=true:=by
 rw[List.isPerm_iff];exact⟨λz=>z▸b.symm,λz=>Hm z b f⟩
def Znd(h:Pt b){i}(g:i<b.length):TR (b.take i) b[i].1 b[i].2=none:=by
 obtain⟨⟨q,p,o,n⟩,l⟩:=h.2.2 b[i] (WU g);refine LM ⟨q,p⟩ ⟨o,n⟩ l (λz=>?_) (by rw[WW];have:=h.1;lia);obtain⟨j,f,e⟩:=Qk.mp z;rw[WW]at f;rw[Q7]at e
 have:=(Ue h.2.1).mp (e.trans rfl)
 lia
noncomputable abbrev d3(k:Str)(a b:Int):D:=.tup [.str k,.int a,.int b]
end Pu
namespace M
open L2 Own Pu
theorem Zq5(c:Int->Int->Int):∀o,oc c o.reverse=oc (λx y=>c y x) o
 |[]=>rfl
 |a::r=>by
  rw[List.reverse_cons,Ag,Zq5 c r,Sz (List.reverse_perm r)];simp only[oc];lia
theorem Lu(ps:Ye):∀o,oc (λx y=>pcM ps x y ps.length) o=K6 ps ps.length o
 |[]=>rfl
 |a::r=>by
  unfold oc K6;rw[Lu ps r]
def Ab(f:Field ps)(h:o.Perm (XJ ps)):oc (λx y=>pcM ps x y ps.length) o=KL ps o ps.length:=by
 rw[Lu];refine LS (h.nodup_iff.mpr ((Tv ps).imp (λh=>Vs h))) ps.length λj b=>?_;rw[WE,WA b];exact h.mem_iff.mpr ((NM f).mpr (WO.mpr ⟨_,WU b,rfl⟩))
def B3{o:Yf}(f:Field ps)(h:o.Perm (XJ ps)):∀p∈ps,p.1∈o:=λp b=>h.mem_iff.mpr ((NM f).mpr (WO.mpr ⟨p,b,rfl⟩))
end M
namespace Pu
open L2 Own
section
variable {K:Yd}{mg:Yh}{E:L2.St->XK}
def OG:List S->(S->Prop)->Prop
 |[s],R=>(match s.d with | .int i=>R (.sh<|.int i) | .bl k=>R (.sh<|.int (if k then 1 else 0))|_=>False)
 |_,_=>False
def Lc(p:Kc K mg E l r):XG K mg E (tCB (λxs H Q=>(∃i,xs=[.int i]/\Q (.int i) H)\/∃k,xs=[.bl k]/\Q (.int (if k then 1 else 0)) H) l) (pCB OG r):=by
 refine PJ p λz H f Z w u R Q o x y g h q=>?_;unfold OG at h;split at h
 ·rename_i s;obtain⟨v,rfl,n⟩:=g.one_inv;have b:=n.rp o;split at h
  ·rename_i i e;rw[e]at b;exact .inl ⟨i,by rw[b.int_inv],q _ _ f h (Same.refl _) (.int _)⟩
  ·rename_i k e;rw[e]at b;exact .inr ⟨k,by rw[b.bl_inv],q _ _ f h (Same.refl _) (.int _)⟩
  ·grind
 ·exact h.elim
end
structure DI (K:Yd) (x:Str) (st:Stmt):Prop where
 ex:∃f fd,PySem.W.nsIn K mainGlobals x=some (some<|.ref f)/\Fun K x x st f fd
structure MI (K:Yd) (C:Addr) (m q:Str) (st:Stmt):Prop where
 ex:∃f fd,PySem.W.findIn K (.ref C) m=some (some<|.ref f)/\PySem.W.isFn K (.ref f)=true/\Fun K m q st f fd
section
variable {K:Yd}{h:Heap}{mg:Yh}
def di{st f oc p q g kV n o b ct}(a:PySem.W.nsIn K mainGlobals x=some (some<|.ref f))(l:K.lookup f=some ⟨oc,p,.func (PySem.W.fnOf x x (P5 st) (Km st) (XH st) .none kV n o q b ct),g⟩)(c:PySem.W.codeIn K b x=true)(k:PySem.W.keepIn K (.ref f)=true):DI K x st:=⟨f,_,a,F4 l c k⟩
def mi{st f oc p r g kV n o b ct}(a:PySem.W.findIn K (.ref C) m=some (some<|.ref f))(i:PySem.W.isFn K (.ref f)=true)(l:K.lookup f=some ⟨oc,p,.func (PySem.W.fnOf m q (P5 st) (Km st) (XH st) .none kV n o r b ct),g⟩)(c:PySem.W.codeIn K b q=true)(k:PySem.W.keepIn K (.ref f)=true):MI K C m q st:=⟨f,_,a,i,F4 l c k⟩
def DI.d {st ps} (D:DI K x st) (X:K.In h) (o:h.Ns mainGlobals mg)
  (b:∀kV f l n g ct us,us.length=ps.length->bindArgs (PySem.W.fnOf x x (P5 st) (Km st) (XH st) .none kV f l n g ct) ⟨us,[]⟩=pure (ps.zip us)):Def K mg x st ps:=
 let ⟨_,_,a,F⟩:=D.ex
 ⟨_,_,F,Qx X o a,F.binds b⟩
def MI.d {m q st ps} (D:MI K C m q st) (e:o=C)
  (b:∀kV f l n g ct us,us.length=ps.length->bindArgs (PySem.W.fnOf m q (P5 st) (Km st) (XH st) .none kV f l n g ct) ⟨us,[]⟩=pure (ps.zip us)):Kk K (Ku K o m) m q st ps:=
 let ⟨_,_,a,i,F⟩:=D.ex
 ⟨_,_,F,by rw[e];exact⟨a,i,F.kp⟩,F.binds b⟩
def MI.i {q st ps} (D:MI K C "__init__" q st) (e:p=C) (mk:PySem.W.makesIn K C=true) (n:PySem.W.keepIn K (.ref C)=true)
  (b:∀kV f l o g ct us,us.length=ps.length->bindArgs (PySem.W.fnOf "__init__" q (P5 st) (Km st) (XH st) .none kV f l o g ct) ⟨us,[]⟩=pure (ps.zip us)):Kk K (Mk K p) "__init__" q st ps:=
 let ⟨_,_,a,i,F⟩:=D.ex
 ⟨_,_,F,by rw[e];exact⟨mk,a,i,n⟩,F.binds b⟩
end
def fs{N P b}(p:autoParam (b.kind=.function) au_0)(o:autoParam (b.isCoroutine=false) au_0)(n:autoParam (b.isGenerator=false) au_0)(l:autoParam (N.Nodup) au_5)(h:autoParam (N.take P.length=P) au_0)(g:autoParam (∀x∈P,b.names.lookup x=some .local\/b.names.lookup x=some .cell) au_5)(f:autoParam (∀y∈b.names,y.2≠.free) au_5):XI N P b:=⟨p,o,n,l,h,g,f⟩
def pz{pos x e te b}(i:Nat)(n:X.N.Nodup)(l:PE X e te)(g:autoParam (X.N[i]?=some x) au_0)(hx:autoParam (Loc X.env.scope x) au_6)(f:autoParam (swapsWith e (some<|.Name x b) pos.line X.env=pure false) au_0)(h:autoParam (X.fn x=true\/X.env.scope.names.lookup x=some .local) au_2) :
  PS X (.Assign [.Name x b] e pos) (Se te<|SM i):=Zdo n g hx l f h
section
variable {K:Yd}{mg:Yh}{E:L2.St->XK}{H0 H H1 H':Hp}{B Z Z':Addr->Prop}{σ:L2.St}{γ:Γ}
def two(o1 f:O)(a1 a2:Addr):Addr->Prop:=λb=>o1.adr a1 b\/f.adr a2 b
abbrev PTV:=Γ->(Γ->Bool->Prop)->(Γ->Str->Prop)->Prop
def N1(K:Yd)(mg:Yh)(E:L2.St->XK)(t:TT)(p:PTV):Prop:=∀(H0:Hp) (B:Addr->Prop) (H:Hp) (σ:L2.St) (γ:Γ) (R:Γ->Bool->Prop) (X:Γ->Str->Prop) (Q:Bool->Hp->Prop),(∀b,B b->∃o,H0 b=some o)->XN K H0 B H σ γ->p γ R X->
 (∀f b H',R f b->XN K H0 B H' σ f->Fr B H σ γ H' σ f->Q b H')->(∀f c H',X f c->XN K H0 B H' σ f->Fr B H σ γ H' σ f->XE mg (E σ) c H')->t σ H Q
noncomputable def pVW(w:PTW):PTV:=λγ R X=>w γ (λb d=>match d with | .bl c=>R b c|_=>False) X
def Bh(hw:Tc K mg E te w):N1 K mg E (A7 K te) (pVW w):=by
 intro H0 B H σ γ R X Q o b h q n;refine hw H0 B H σ γ _ _ _ o b h (λg d v H' f p f1 l=>?_) n;split at f
 ·rw[l.bl_inv];exact⟨_,rfl,q _ _ _ f p f1⟩
 ·grind
noncomputable def pVP(p:PTT):PTV:=λγ R X=>p γ (λb=>R γ b) (X γ)
def GB(n:KD K mg E t p):N1 K mg E t (pVP p):=by
 intro H0 B H σ γ R X Q s f h q l;exact n H0 B H σ γ _ _ _ f h (λb H' r g=>q γ b H' r (f.grow g) (Fr.grow g)) λc H' o g=>l γ c H' o (f.grow g) (Fr.grow g)
noncomputable def Zfu(p:PTV):PTV:=λγ R X=>p γ (λf b=>R f (!b)) X
def Bb(n:N1 K mg E t p):N1 K mg E (A8 t) (Zfu p):=by
 intro H0 B H σ γ R X Q o g h q l;exact n H0 B H σ γ _ _ _ o g h (λf b H' r s f1=>q f (!b) H' r s f1) l
noncomputable def Zmp(p r:PTV):PTV:=λγ R X=>p γ (λf b=>if b=true then R f true else r f R X) X
def OO{p r}(z:N1 K mg E t p)(y:N1 K mg E u r):N1 K mg E (tOr t u) (Zmp p r):=by
 intro H0 B H σ γ R X Q x s h q w;refine z H0 B H σ γ _ _ _ x s h (λf b H' G A f1=>?_) w;cases b with
 |true=>grind
 |false=>
  have n:r f R X:=by grind
  exact y H0 B H' σ f _ _ _ x A n (λg b C l v o=>q _ _ _ l v (f1.trans o)) λg c C l v o=>w _ _ _ l v (f1.trans o)
noncomputable def Zl1(c:PTV)(p q:PTS):PTS:=λR γ=>c γ (λf b=>if b=true then p R f else q R f) R.ex
def SX{p q}(s:N1 K mg E tt c)(r:XW K mg E t p)(hq:XW K mg E u q):XW K mg E (EW tt t u) (Zl1 c p q):=by
 intro H0 B H σ γ R D l n h e;refine s H0 B H σ γ _ _ _ l n h (λf b H' o g f1=>?_) λf c H' o g f1=>e.ex _ _ _ _ o g f1;cases b with
 |true=>
  exact r H0 B H' σ f R D l g (by grind) (e.from f1)
 |false=>
  exact hq H0 B H' σ f R D l g (by grind) (e.from f1)
end
end Pu
namespace M
open L2 Own Pu
noncomputable def ltS(k:Int):Ye->Int
 |[]=>0
 |q::l=>(if q.1<k then q.2 else 0)+ltS k l
noncomputable def Sd:Ye->Int
 |[]=>0
 |p::l=>ltS p.1 l*p.2+Sd l
theorem Iy(k:Int)(a b:Int×Int)(B:Ye):∀A,ltS k (A++a::b::B)=ltS k (A++b::a::B)
 |[]=>by simp only[List.nil_append,ltS];lia
 |q::A=>by simp only[Vm,ltS];rw[Iy k a b B A]
theorem LA(a b:Int×Int)(B:Ye):∀A,Sd (A++a::b::B)+(if a.1<b.1 then a.2*b.2 else 0)=Sd (A++b::a::B)+(if b.1<a.1 then a.2*b.2 else 0)
 |[]=>by
  simp only[List.nil_append,Sd,ltS];by_cases f:a.1<b.1
  ·grind
  ·grind
 |q::A=>by
  simp only[Vm,Sd];rw[Iy q.1 a b B A]
  have:=LA a b B A
  lia
noncomputable def hdN(ps:Ye)(m:Int):Int:=(ps.getD (m-1).toNat (0,0)).1
def IH{p}(n:1<=p)(f:p<ns.length):∃A x y B,ns=A++x::y::B/\A.length+1=p/\KA ns p=A++y::x::B/\ns.getD (p-1) 0=x/\ns.getD p 0=y:=by
 have b:ns.drop (p-1)=ns[p-1]'(by lia)::ns.drop (p-1+1):=Qu (by lia);have l:p-1+1=p:=by lia
 rw[l,(Qu f)]at b;have h:ns.getD p 0=ns[p]:=by rw[WE,WA f];rfl
 have g:ns.getD (p-1) 0=ns[p-1]'(by lia):=by grind
 refine⟨ns.take (p-1),ns[p-1]'(by lia),ns[p],ns.drop (p+1),by rw[←b,VM],by rw[WW];lia,?_,g,h⟩;unfold KA;rw[h,g];simp
def Lv{p}(f:1<=p)(b:p<ns.length):(KA ns p).length=ns.length:=(Aj f b).length_eq
noncomputable def rkN(ps:Ye)(o:Yf)(m:Int):Int:=(o.idxOf (hdN ps m):Nat)
noncomputable def KZ(ps:Ye)(h:Int):Yf:=((List.range ps.length).filter λi=>decide ((ps.getD i (0,0)).1=h)).map λi:Nat=>0+(i:Int)+1
def Zi2:x∈KZ ps h↔(1<=x/\x<=ps.length)/\hdN ps x=h:=by
 unfold KZ hdN;rw[WO];constructor
 ·rintro⟨i,f,rfl⟩
  grind
 ·rintro⟨g,b⟩;exact⟨(x-1).toNat,Qi.mpr ⟨Vl.mpr (by lia),WH b⟩,by lia⟩
def GY(ps:Ye)(h:Int):(KZ ps h).Pairwise (· < ·):=by
 unfold KZ;rw[VD];exact(List.pairwise_lt_range.filter _).imp λ{a b} f=>by lia
def IP(ps:Ye)(h:Int):(KZ ps h).length<=ps.length:=by
 unfold KZ
 grind
def MC(n:Nat):(Ka 1 n).Nodup:=Ud _ (λa b h z=>h (by lia)) List.nodup_range
def Zo3{o G mine:Yf}{i}(g:o.Nodup)(u:i<o.length)(A:G.Nodup)(q:∀x,x∈G↔(1<=x/\x<=ps.length)/\hdN ps x∈o.take i)(s:mine.Perm (KZ ps o[i])) :
  (G++mine).Nodup/\(∀x,x∈G++mine↔(1<=x/\x<=ps.length)/\hdN ps x∈o.take (i+1))/\(∀x∈G,∀y∈mine,rkN ps o x<rkN ps o y)/\∀y∈mine,rkN ps o y=i:=by
 have b:∀x,x∈mine↔(1<=x/\x<=ps.length)/\hdN ps x=o[i]:=λx=>s.mem_iff.trans Zi2
 have l:o[i]∉o.take i:=λz=>by
  obtain⟨j,n,e⟩:=Qk.mp z;rw[WW]at n;rw[Q7]at e
  have:=(Ue g).mp e
  lia
 have r:∀y∈mine,rkN ps o y=i:=λy f=>by
  unfold rkN;rw[((b y).mp f).2,g.idxOf_getElem i u]
 have w:∀x∈G,rkN ps o x<i:=λx hx=>by
  obtain⟨j,n,e⟩:=Qk.mp ((q x).mp hx).2;rw[WW]at n;rw[Q7]at e;unfold rkN;rw[←e,g.idxOf_getElem j (by lia)];lia
 refine⟨QM.mpr ⟨A,s.symm.nodup ((GY ps _).imp λh=>Vs h),λx hx y f z=>?_⟩,λx=>?_,λx hx y f=>?_,r⟩
 ·subst z
  have:=((q x).mp hx).2
  rw[((b x).mp f).2]at this;exact l this
 ·rw[Qd,q x,b x,WS u,Qd,WC];constructor
  ·grind
  ·rintro⟨v,p|p⟩
   ·exact .inl ⟨v,p⟩
   ·exact .inr ⟨v,p⟩
 ·have:=w x hx
  rwa[r y f]
def Zlj(n:Nat):(Ka 1 n).Pairwise (· < ·):=by
 unfold Ka;rw[VD];exact List.pairwise_lt_range.imp λ{a b} h=>by lia
def FW(b:Yf)(p:Nat):Prop:=(∀q,1<=q->q<(if p=0 then b.length else p)->b.getD (q-1) 0<=b.getD q 0)/\(p=0\/(1<=p/\p<b.length/\b.getD p 0<b.getD (p-1) 0))
abbrev Mo:=Int×Int×Int×Int
inductive Mv (ps:Ye) (f:Int->Int):Yf->List Mo->Prop
 |done (ns:Yf):FW (ns.map f) 0->Mv ps f ns []
 |step (ns:Yf) (p:Nat) (ms:List Mo):FW (ns.map f) p->p≠0->Mv ps f (KA ns p) ms->Mv ps f ns (((p:Int),ns.getD (p-1) 0,ns.getD p 0,exM ps ns p)::ms)
def TY{f:Int->Int}{ns:Yf}{i}(h:i<ns.length):(ns.map f).getD i 0=f (ns.getD i 0):=by grind
def Mv.next (h:Mv ps f ns (m::b)):∃p:Nat,m=((p:Int),ns.getD (p-1) 0,ns.getD p 0,exM ps ns p)/\1<=p/\p<ns.length/\Mv ps f (KA ns p) b:=by
 cases h with
 |step _ p _ g l n=>
  obtain⟨q,o,_⟩:=g.2.resolve_left l
  grind
noncomputable def P1(f:Int->Int)(ns:Yf):Int:=Sd (ns.map λm=>(f m,1))
def I0(f:Int->Int){ns p}(g:1<=p)(b:p<ns.length)(h:f (ns.getD p 0)<f (ns.getD (p-1) 0)):P1 f ns=P1 f (KA ns p)+1:=by
 obtain⟨A,x,y,B,e,_,n,l,ey⟩:=IH g b;rw[l,ey]at h;rw[n,e];unfold P1;rw[WX,Qe,Qe,WX,Qe,Qe];have k:=LA (f x,1) (f y,1) (B.map λm=>(f m,1)) (A.map λm=>(f m,1));lia
theorem Gn(f:Int->Int)(k:Int):∀l:Yf,0<=ltS k (l.map λm=>(f m,1))/\ltS k (l.map λm=>(f m,1))<=l.length
 |[]=>⟨QG 0,QG 0⟩
 |m::l=>by
  have:=Gn f k l
  rw[Qe,Qn];unfold ltS;lia
theorem SS(f:Int->Int):∀l,0<=P1 f l/\P1 f l<=(l.length:Int)*l.length
 |[]=>⟨QG 0,QG 0⟩
 |m::l=>by
  have b:=SS f l;have g:=Gn f (f m) l;unfold P1 at b ⊢;rw[Qe,Qn];unfold Sd
  grind
noncomputable def toI:D->Int
 | .int i=>i
 |_=>0
noncomputable def mvN(b:List (Option Pu.S)):Nat:=match b[2]?,b[3]? with
 |some (some<|Pu.S.own<|Pu.O.lst f),some (some<|Pu.S.own<|Pu.O.lst g)=>(P1 (λm=>(f.map toI).getD (m-1).toNat 0)<|g.map toI).toNat
 |_,_=>0
def DU(xs:Yf):(xs.map D.int).map toI=xs:=by
 rw[WY];exact List.map_id _
end M
namespace Pu
open L2 Own M
noncomputable abbrev mvD(m:Mo):D:=.tup [.int m.1,.int m.2.1,.int m.2.2.1,.int m.2.2.2]
end Pu
namespace M
open L2 Own Pu
def Mv.len (h:Mv ps f ns g):(g.length:Int)<=P1 f ns:=by
 induction h with
 |done ns hw=>exact(SS f ns).1
 |step ns p g n q s r=>
  obtain⟨o,b,l⟩:=n.2.resolve_left q;rw[W9]at b;rw[TY b,TY (by lia)]at l
  have:=I0 f o b l
  grind
end M
namespace Pu
open L2 Own
section
variable {X:Cx}{k j:Nat}{x:Str}{ps:Ym}{sp:Sp}{e a b c:Expr}{es:Yn}{t:TA}{te tf tg:TE}{p pos:Pos}
def fz(C:Callee X.prog X.w X.K X.mg X.base CX0 k x ps sp)(h:XS j X.A)(q:PA X (e::es) t)(l:autoParam (k<=j) au_1)(n:autoParam (Gl X x) au_0)(g:autoParam ((x==("__debug__" : Str))=false) au_1)(o:autoParam (starEach (e::es) X.env=(false,eval e X.env)::starEach es X.env) au_0)(f:autoParam ((backTo pos<|starEach es X.env).any (·.1)=false) au_0) :
  PE X (.Call (.Name x p) (e::es) [] pos) (SD sp [] E0 t):=Df C (h.mono l) P4 q n g o f
def jx(K:Yd)(h:PE X a te)(g:PE X b tf)(l:autoParam (X.K=K) au_0)(f:autoParam (Cu b) au_7):PE X (.Subscript a b pos) (tOp (λx y H Q=>BE K x y H Q\/Fd K x y H Q) te tf):=Od (Zow l) h g f
def ln(K:Yd)(h:X.mg "len"=none)(o:PE X a te)(q:autoParam (X.K=K) au_0)(l:autoParam (Gl X "len") au_0)(g:autoParam (starEach [a] X.env=(false,eval a X.env)::starEach [] X.env) au_0)(f:autoParam ((backTo pos<|starEach [] X.env).any (·.1)=false) au_0) :
  PE X (.Call (.Name "len" p) [a] [] pos) (tCB (λxs H Q=>∃x n,xs=[x]/\FT K x H n/\Q (.int (n:Nat)) H)<|Kq te KH):=KR (Zfi q) l h PySem.boot_len (KB o KM g) (by decide) rfl g f
def cq(K:Yd)(f:XS j X.A)(h:PE X a te)(g:PE X b tf)(l:autoParam (X.K=K) au_0):PT X (.Compare a [.Eq] [b] pos) (F5<|tOp (λx y H Q=>rEq x y H Q\/Ny K false x y H Q) te tf):=Nj (NQ f.units0 l) h g (Po _)
def cn(K:Yd)(f:XS j X.A)(h:PE X a te)(g:PE X b tf)(l:autoParam (X.K=K) au_0):PT X (.Compare a [.NotEq] [b] pos) (F5<|tOp (λx y H Q=>rNe x y H Q\/Ny K true x y H Q) te tf):=Nj (Zjs f.units0 l) h g (Po _)
def az(f:PE X a te)(g:autoParam (starEach [a] X.env=(false,eval a X.env)::starEach [] X.env) au_0):PA X [a] (Kq te KH):=KB f KM g
def bz(g:PE X a te)(f:PE X b tf)(l:autoParam (starEach [a,b] X.env=(false,eval a X.env)::starEach [b] X.env) au_0)(h:autoParam (starEach [b] X.env=(false,eval b X.env)::starEach [] X.env) au_0):PA X [a,b] (Kq te<|Kq tf KH):=KB g (KB f KM h) l
def dz(h:PE X a te)(g:PE X b tf)(f:PE X c tg)(o:autoParam (starEach [a,b,c] X.env=(false,eval a X.env)::starEach [b,c] X.env) au_0)(n:autoParam (starEach [b,c] X.env=(false,eval b X.env)::starEach [c] X.env) au_0)(l:autoParam (starEach [c] X.env=(false,eval c X.env)::starEach [] X.env) au_0):PA X [a,b,c] (Kq te<|Kq tf<|Kq tg KH):=KB h (KB g (KB f KM l) n) o
end
section
variable {K:Yd}{mg:Yh}{E:L2.St->XK}{ta tb tc:TE}{a b c:PTE}
def sz(f:XG K mg E ta a):Kc K mg E (Kq ta KH) (Pn a TZ):=Nr f Kw
def tz(g:XG K mg E ta a)(f:XG K mg E tb b):Kc K mg E (Kq ta<|Kq tb KH) (Pn a<|Pn b TZ):=Nr g (sz f)
def uz(h:XG K mg E ta a)(g:XG K mg E tb b)(f:XG K mg E tc c):Kc K mg E (Kq ta<|Kq tb<|Kq tc KH) (Pn a<|Pn b<|Pn c TZ):=Nr h (tz g f)
end
section
variable {K:Yd}{h:Heap}{mg:Yh}{C C':Addr}{x m q:Str}{st:Stmt}{ps:Ym}
abbrev Bd(x q:Str)(st:Stmt)(ps:Ym):Prop:=∀(kV f l:Value) (o:Yq) (g n:Value) (b:Yl),b.length=ps.length->bindArgs (PySem.W.fnOf x q (P5 st) (Km st) (XH st) .none kV f l o g n) ⟨b,[]⟩=pure (ps.zip b)
def DI.e (D:DI K x st) (X:K.In h) (g:h.Ns mainGlobals mg) (b:Bd x x st ps:=by
  intro _ _ _ _ _ _ us f
  first
   |(obtain⟨_,rfl⟩:=Pu.Fq f;rfl)
   |(obtain⟨_,_,rfl⟩:=Pu.BL f;rfl)
   |(obtain⟨_,_,_,rfl⟩:=Pu.FP f;rfl)
   |(obtain⟨_,_,_,_,rfl⟩:=Pu.Cg f;rfl)
   |(obtain⟨_,_,_,_,_,rfl⟩:=Pu.Zhi f;rfl)):Def K mg x st ps:=D.d X g b
def MI.e (D:MI K C m q st) (e:C'=C) (b:Bd m q st ps:=by
  intro _ _ _ _ _ _ us f
  first
   |(obtain⟨_,rfl⟩:=Pu.Fq f;rfl)
   |(obtain⟨_,_,rfl⟩:=Pu.BL f;rfl)
   |(obtain⟨_,_,_,rfl⟩:=Pu.FP f;rfl)
   |(obtain⟨_,_,_,_,rfl⟩:=Pu.Cg f;rfl)):Kk K (Ku K C' m) m q st ps:=D.d e b
def MI.j (D:MI K C "__init__" q st) (e:C'=C) (mk:PySem.W.makesIn K C=true) (g:PySem.W.keepIn K (.ref C)=true) (b:Bd "__init__" q st ps:=by
  intro _ _ _ _ _ _ us f
  first
   |(obtain⟨_,rfl⟩:=Pu.Fq f;rfl)
   |(obtain⟨_,_,rfl⟩:=Pu.BL f;rfl)
   |(obtain⟨_,_,_,rfl⟩:=Pu.FP f;rfl)):Kk K (Mk K C') "__init__" q st ps:=D.i e mk g b
end
section
variable {P:Program}{w:World}{K:Yd}{mg:Yh}{base:Heap}{N ps:Ym}{sp:Sp}{p:PTS}{x q:Str}{st:Stmt}{k:Nat}{W:Addr->Prop}
structure Uz (K:Yd) (mg:Yh) (N ps:Ym) (sp:Sp) (p:PTS):Prop where
 len:∀vs H Q E,sp vs H Q E->vs.length=ps.length
 run:∀vs H Q E t,sp vs H Q E->XW K mg (λ_=>E) t p->t {nx:=λ_ H'=>Q .non H',rt:=Q} (start N vs) H
def Uz.a (b:∀ds R X,c ds R X->ds.length=ps.length/\p {nx:=λ_=>R (.sh .non),rt:=R,ex:=λ_ e=>X e} (Td N ds)) (f:autoParam (ps.length<=N.length) au_1):Uz K mg N ps (XO mg c K) p:=
 ⟨λ_ _ _ _ h=>Zhb h λds R X z=>(b ds R X z).1,λ_ _ _ _ _ h s=>Zgm h s f b⟩
def Uz.c {c y} (f:∀o b R X,c o b R X->b.length=ps.length/\p (MX o R X) (N8 N o b)) (g:autoParam (ps.length+1<=N.length) au_1):Uz K mg N (y::ps) (spW mg c K) p:=
 ⟨λ_ _ _ _ h=>Zdu h λo l R X z=>(f o l R X z).1,λ_ _ _ _ _ h s=>Zqu h s g f⟩
def _root_.Own.Def.oz (D:Def K mg x st ps) (S:XI N ps (XH st))
  (g:∀f b A outer s H E,XS k (A.deeper<|envOfC x (XH st) s.heap.objs.size f b)->
   ∃t,PSs (Ks CX0 P w K mg base N x (XH st) f b A outer s H E).nox (Km st) t/\XW K mg (λ_=>E) t p) (u:Uz K mg N ps sp p):Callee P w K mg base CX0 (k+1) x ps sp:=
 D.ok S u.len λf b A outer s H n Q E l h=>(g f b A outer s H E l).elim λt z=>⟨t,z.1,u.run _ _ _ _ _ h z.2⟩
def _root_.Own.Def.ox (D:Def K mg x st ps) (S:XI N ps (XH st))
  (g:∀f b A outer s H E,XS k (A.deeper<|envOfC x (XH st) s.heap.objs.size f b)->
   ∃t,PSs (Ks (ExcR.CXe P w) P w K mg base N x (XH st) f b A outer s H E) (Km st) t/\XW K mg (λ_=>E) t p) (u:Uz K mg N ps sp p):Callee P w K mg base (ExcR.CXe P w) (k+1) x ps sp:=
 ExcR.Def.okX D S u.len λf b A outer s H n Q E l h=>(g f b A outer s H E l).elim λt z=>⟨t,z.1,u.run _ _ _ _ _ h z.2⟩
def Kk.oz (D:Kk K W x q st ps) (S:XI N ps (XH st))
  (g:∀f b A outer s H E,XS k (A.deeper<|envOfC q (XH st) s.heap.objs.size f b)->
   ∃t,PSs (Ks CX0 P w K mg base N q (XH st) f b A outer s H E).nox (Km st) t/\XW K mg (λ_=>E) t p) (u:Uz K mg N ps sp p):P7 P w K mg base CX0 (k+1) W ps sp:=
 D.ok S u.len λf b A outer s H n Q E l h=>(g f b A outer s H E l).elim λt z=>⟨t,z.1,u.run _ _ _ _ _ h z.2⟩
def Kk.ox (D:Kk K W x q st ps) (S:XI N ps (XH st))
  (g:∀f b A outer s H E,XS k (A.deeper<|envOfC q (XH st) s.heap.objs.size f b)->
   ∃t,PSs (Ks (ExcR.CXe P w) P w K mg base N q (XH st) f b A outer s H E) (Km st) t/\XW K mg (λ_=>E) t p) (u:Uz K mg N ps sp p):P7 P w K mg base (ExcR.CXe P w) (k+1) W ps sp:=
 D.okX S u.len λf b A outer s H n Q E l h=>(g f b A outer s H E l).elim λt z=>⟨t,z.1,u.run _ _ _ _ _ h z.2⟩
end
section
variable {K:Yd}{h:Heap}{mg:Yh}{x:Str}{C:Addr}
structure EI (K:Yd) (x:Str) (C:Addr):Prop where
 a:PySem.W.nsIn K mainGlobals x=some (some<|.ref C)
 g:ExcR.KO K C
def ei(a:PySem.W.nsIn K mainGlobals x=some (some<|.ref C))(q:PySem.W.excIn K C [.type "ValueError",.type "Exception",.type "BaseException",.type "object"] "ValueError.__new__"=true)(f:PySem.W.findIn K (.ref C) "__getattribute__"=some (some<|.builtin "BaseException.__getattribute__"))(b:PySem.W.findIn K (.ref C) "__getattr__"=some none)(g:PySem.W.findIn K (.ref C) "__class__"=some (some<|.builtin "object.__class__"))(i:PySem.W.clsIn K C=some d):EI K x C:=⟨a,⟨⟨q⟩,f,b,g,by rw[i];rfl⟩⟩
def EI.c (y:EI K x C) (X:K.In h) (b:h.Ns mainGlobals mg):ExcR.XQ mg x=C:=ExcR.AQ (Qx X b y.a)
def EI.m (y:EI K x C) (X:K.In h) (b:h.Ns mainGlobals mg):mg x=some (.ref<|ExcR.XQ mg x):=by rw[y.c X b];exact Qx X b y.a
def EI.k (y:EI K x C) (X:K.In h) (b:h.Ns mainGlobals mg):ExcR.KO K (ExcR.XQ mg x):=by rw[y.c X b];exact y.g
end
end Pu
namespace M
open L2 Own Pu
def MK{ns:Yf}(h:FW (ns.map f) 0):ns.Pairwise λx y=>f x<=f y:=by
 have l:∀d i j b (g:i<ns.length),j=i+d->f ns[i]<=f ns[j]:=λd=>by
  induction d with
  |zero=>grind
  |succ d o=>
   intro i j b g e;have n:=h.1 j (by lia) (by grind);rw[TY (by lia),TY b,WE,WA (by lia),WE,WA b]at n;exact Int.le_trans (o i (j-1) (by lia) g<|by lia) n
 rw[Q0];intro i j g b p;exact l (j-i) i j b g (by lia)
def Mv.step_of (h:Mv ps f ns (m::g)):∃p:Nat,m=((p:Int),ns.getD (p-1) 0,ns.getD p 0,exM ps ns p)/\FW (ns.map f) p/\p≠0/\1<=p/\p<ns.length/\f (ns.getD p 0)<f (ns.getD (p-1) 0)/\Mv ps f (KA ns p) g:=by
 cases h with
 |step _ p _ l o q=>
  obtain⟨r,b,n⟩:=l.2.resolve_left o;rw[W9]at b;rw[TY b,TY (by lia)]at n
  grind
def Zd8{A B}{x y:Int}(h:(A++x::y::B).Pairwise R)(f:R y x):(A++y::x::B).Pairwise R:=by
 rw[QT]at h ⊢;obtain⟨n,p,l⟩:=h;refine⟨n,?_,λa g b o=>l a g b ?_⟩
 ·simp_all
 ·grind
noncomputable def endsN(ps:Ye)(o:Yf):Yf:=o.flatMap (KZ ps)
def NS(ps:Ye)(o:Yf)(x y:Int):Prop:=rkN ps o x<rkN ps o y\/(rkN ps o x=rkN ps o y/\x<y)
theorem Mt(f:o.Nodup):∀i,i<=o.length->(endsN ps<|o.take i).Nodup/\(∀x,x∈endsN ps (o.take i)↔(1<=x/\x<=ps.length)/\hdN ps x∈o.take i)/\(endsN ps<|o.take i).Pairwise (NS ps o)
 | 0,_=>by simp[endsN]
 |i+1,v=>by
  obtain⟨s,r,q⟩:=Mt f i (by lia)
  have u:endsN ps (o.take (i+1))=endsN ps (o.take i)++KZ ps o[i]:=by
   unfold endsN;rw[WS (by lia),List.flatMap_append];simp
  rw[u];obtain⟨n,l,g,b⟩:=Zo3 f (by lia) s r (.refl _);refine⟨n,l,QT.mpr ⟨q,?_,λx hx y p=>.inl (g x hx y p)⟩⟩;exact(List.Pairwise.and_mem.mp (GY ps o[i])).imp λ{x y} h=>.inr ⟨by rw[b x h.1,b y h.2.1],h.2.2⟩
def Zjl(l:o.Nodup)(n:∀q∈ps,q.1∈o):(endsN ps o).Perm (Ka 1 ps.length)/\(endsN ps o).Pairwise (NS ps o):=by
 obtain⟨g,f,b⟩:=Mt l o.length (WG _);rw[Qy]at g f b;refine⟨(List.perm_ext_iff_of_nodup g<|MC _).mpr λx=>?_,b⟩;rw[f x,runI_mem];refine⟨λh=>h.1,λh=>⟨h,?_⟩⟩;have hx:(x-1).toNat<ps.length:=by lia
 unfold hdN;rw[WE,WA hx]
 grind
theorem Lk:∀{a b:Yf},a.Perm b->a.Pairwise (NS ps o)->b.Pairwise (NS ps o)->a=b
 |[],b,h,_,_=>(List.nil_perm.mp h).symm
 |x::a,[],h,_,_=>absurd h.length_eq (by simp)
 |x::a,y::b,h,g,f=>by
  rw[Va]at g f
  have e:x=y:=by
   rcases WL.mp (h.mem_iff.mp Qh)with e|e
   ·lia
   ·rcases WL.mp (h.mem_iff.mpr Qh)with l|l
    ·lia
    ·have n:=g.1 y l;have p2:=f.1 x e;unfold NS at n p2;lia
  subst e;rw[Lk (List.Perm.cons_inv h) g.2 f.2]
def Zn4{o ns:Yf}(f:FW (ns.map<|rkN ps o) 0)(b:ns.Pairwise λx y=>rkN ps o x=rkN ps o y->x<y):ns.Pairwise (NS ps o):=
 ((MK f).and b).imp λ{x y} h=>by
  unfold NS;by_cases e:rkN ps o x=rkN ps o y
  ·lia
  ·lia
end M
namespace Pu
open L2 Own
theorem NoFld.of:∀{xs:Ym},(xs.all λx=>!(m==x))=true->NoFld m xs
 |[],_,_|_::_,_,[]=>rfl
 |x::xs,h,v::b=>by
  rw[J0,Qb]at h;show(match m==x with|true=>some v|false=>(xs.zip b).lookup m)=none
  rw[show(m==x)=false by simpa using h.1];exact NoFld.of h.2 b
theorem FldAt.of (g:(f==f)=true):∀{xs}{j:Nat},((xs.take j).all λx=>!(f==x))=true->xs[j]?=some f->FldAt f xs j
 |[],_,_,e,_,_=>by simp at e
 |_::_,_,_,_,[],e=>rfl
 |x::xs,0,_,e,v::b,_=>by
  simp_all
 |x::xs,j+1,h,e,v::b,l=>by
  rw[List.take_succ_cons,J0,Qb]at h;show(match f==x with|true=>some v|false=>(xs.zip b).lookup f)=(v::b)[j+1]?
  rw[show(f==x)=false by simpa using h.1];exact FldAt.of g h.2 (by grind) b (by grind)
theorem PutAt.of:∀{xs:Ym},(xs.all λx=>decide (x≠f))=true->PutAt f xs
 |[],_,[],_,_=>rfl
 |[],_,_::_,_,e|_::_,_,[],_,e=>by cases e
 |x::xs,h,v::b,y,e=>by
  rw[J0,Qb]at h;show(if x=f then(x,y)::xs.zip b else(x,v)::KS f y (xs.zip b))=(x,v)::(xs++[f]).zip (b++[y]);rw[WI (WJ h.1),PutAt.of h.2 b y (by grind)]
end Pu
namespace Lam
open L2 Own
section
variable {X:Cx}{pins:Yg}{σ:L2.St}{H:Hp}{A:Around}{E:Yi}{s:Shared}{kS D:Addr}{vs:Yl}{kz:Yf}{keys:Yr}{e e1:Nat}
def Zia{H h a o}(x:HOk P w H h)(f:H a=none)(new:ObjOk P w (upd H a o) h a o):HOk P w (upd H a o) h:=λb u e=>by
 by_cases g:b=a
 ·subst g;rw[Kb]at e;cases e;exact new
 ·rw[XM g]at e;exact(x b u e).stay (λc v _ q=>q) (λc q=>by rw[XM (K4 q f)];exact q) λc xs q=>by rw[XM (K4 q f)];exact q
variable {P:PySem.Fin->Shared->Prop}
end
end Lam
namespace ExcR
open L2
open Sem (wp)
section
variable {prog:Program}{w:World}{A:Around}{E:Yi}{h:Heap}{g:Array GenState}{d:Drawn}{t:Nat}{os:OsState}
variable {nm q:Str}{C N:Addr}{bs bm bmB:Yl}{hdct:Bool}{sn:Ym}{sub:Yl}{ab:Bool}{col:Option Bool}{dd:Yq}{k0 k1 k2 k3 k5:Yp}{B Bn newId nid initId inN:String}{bmN:Yl}
noncomputable def T3(C t:Addr)(b:Yq):Obj:={cls:=.ref C,dict:=b,data:=.fields #[.ref t,.none,.none,.none,.bool false,.none]}
def Zeo(H:ExcBaseFacts Bn newId inN bmN)(u:bmB.contains (.type Bn)=true)(F:ExcBaseFacts B nid initId bmB)(T:OwnTail h bmB bm){M rest fI L Q}(s:h.get? C=some (excClassObj nm q C N bs bm hdct sn sub ab col dd k0 k1 k2 k3 k5 newId))(hn:h.Ns N M)(hi:M "__init__"=some (.ref fI))(z:h.get? fI=some L)(y:L.cls=.type "function")(hq:∀U e,Heap.MadeExcOf h U e (.ref C) rest->wpAny (model prog w) A (call (.ref fI) (.ref e::rest)) (λr J=>r=.none/\Q (.done<|.ret<|.ref e) J) E ⟨U,g,d,t,os⟩)(hrest:autoParam (rest.length<=sizeLine) au_8) :
  wpAny (model prog w) A (Builtin.«type.__call__» ⟨.ref C::rest,[]⟩) Q E ⟨h,g,d,t,os⟩:=by
 repeat (first|with_reducible refine VF s ?_|with_reducible refine wpAny_madeBy_exc s ?_|wp_step)
 refine codeAny_call_builtin_code (Code.quiet_builtin _ H.quiet) (wpAny_check_new_subU H u T s ?_);refine codeAny_exc_new_subU H u F T s ?_ hrest;show wpAny _ _ _ _ _ _
 have k:∀b o,h.get? b=some o->((h.push {cls:=.type "tuple",data:=.seq rest.toArray}).push {cls:=.ref C,data:=.fields #[.ref h.objs.size,.none,.none,.none,.bool false,.none]}).get? b=some o:=
  λb o e=>WB _ (WB _ e)
 have f:=k _ _ s;have l:=k _ _ z;have p:=hn.keeps k;have v:=T.keeps k
 have n:((h.push {cls:=.type "tuple",data:=.seq rest.toArray}).push
   {cls:=.ref C,data:=.fields #[.ref h.objs.size,.none,.none,.none,.bool false,.none]}).get? (h.objs.size+1)=some
   {cls:=.ref C,data:=.fields #[.ref h.objs.size,.none,.none,.none,.bool false,.none]}:=by heap_get
 have G:(Value.ref C::bm).contains (.ref C)=true:=by simp
 unfold isInstance
 repeat (first|with_reducible refine VF n ?_|(with_reducible refine wpAny_isSubtype_exc f ?_;rw[G])|wp_step)
 show wpAny _ _ (typeLookup (.ref C) _) _ _ _;refine wpAny_typeLookup_tail f p v F.mroIs F.init.lookup ?_;rw[hi];refine QK (W8 ?_);unfold bindSpecial;refine W8 (wpAny_typeOf ⟨_,l,y⟩ ?_);rw[WK (by decide)];refine WD (W8 (Qr (hq _ (h.objs.size+1) ⟨k,Vz (Vn _),h.objs.size,n,Vz (WG _),?_⟩) (λr J Y=>?_) λ_ _ x=>x))
 ·exact WB _ (Heap.get?_push_at rfl rfl)
 ·obtain⟨rfl,hQ⟩:=Y
  wp_walk
  exact hQ
def Zqb(z:ExcBaseFacts Bn newId inN bmN)(o:bmB.contains (.type Bn)=true)(F:ExcBaseFacts B nid initId bmB)(T:OwnTail h bmB bm){s rest fI p Q}(b:h.get? C=some (excClassObj nm q C N bs bm hdct sn sub ab col dd k0 k1 k2 k3 k5 newId))(v:h.Ns N s)(y:s "__init__"=some (.ref fI))(n:h.get? fI=some p)(l:p.cls=.type "function")(hq:∀f e,Heap.MadeExcOf h f e (.ref C) rest->wpAny (model prog w) (A.under<|.builtin "type.__call__" ⟨.ref C::rest,[]⟩) (call (.ref fI) (.ref e::rest)) (λr u=>r=.none/\Q (.ref e) u) E ⟨f,g,d,t,os⟩)(hrest:autoParam (rest.length<=sizeLine) au_8) :
  wpAny (model prog w) A (call (.ref C) rest) Q E ⟨h,g,d,t,os⟩:=by
 have f1:=tc_lookup;have H:=tc_bind (.ref C);have G:(⟨h,g,d,t,os⟩:Shared).TypeIs (.ref C) "type":=⟨_,b,rfl⟩;refine JG (codeAny_of_tree ?_);show wpAny _ _ (callAny (.ref C) _) _ _ _
 repeat (any_goals (first|assumption|with_reducible refine VF b ?_|wp_step))
 refine⟨rfl,?_⟩;refine codeAny_call_builtin_at (Code.quiet_builtin _<|by decide +kernel) entry_typeCall (wpAny_check_type_call_sub b (Zeo (hrest:=hrest) z o F T b v y n l λf e x=>?_));exact hq f e x
end
section
variable {prog:Program}{w:World}{A:Around}{E:Yi}{s:Shared}{env:Env}
variable {nm q:Str}{C N:Addr}{bs bm bmB:Yl}{hdct:Bool}{sn:Ym}{sub:Yl}{ab:Bool}{col:Option Bool}{dd:Yq}{k0 k1 k2 k3 k5:Yp}{B Bn newId nid initId inN:String}{bmN:Yl}
def Zhx(f:bm.contains (.type "BaseException")=true)(u:A.handled=none)(h:wpAny (model prog w) A x (λv b=>∃e t r,v=.ref e/\b.heap.get? C=some (excClassObj nm q C N bs bm hdct sn sub ab col dd k0 k1 k2 k3 k5 newId)/\b.heap.get? e=some (T3 C t r)/\E (.ref e) b) E s) :
  wpAny (model prog w) A (raiseStmt env (some x) none) Q E s:=by
 have n:(Value.ref C::bm).contains (.type "BaseException")=true:=by rw[List.contains_cons,f,Bool.or_true]
 unfold raiseStmt;refine W8 (Qr h (λv b l=>?_) λ_ _ x=>x);obtain⟨e,t,r,rfl,p,o,y⟩:=l;obtain⟨G,g,d,z,os⟩:=b;unfold T3 at o
 repeat (first|with_reducible refine VF o ?_|with_reducible refine VF p ?_|(with_reducible refine wpAny_isSubtype_exc p ?_;rw[n])|wp_step)
 exact wpAny_raiseNew_none u y
def Zgv(Fn:ExcBaseFacts Bn newId inN bmN)(U:bmB.contains (.type Bn)=true)(F:ExcBaseFacts B nid initId bmB){mN x np cpos pos args fI oI Q}(p:bm.contains (.type "BaseException")=true)(hh:A.handled=none)(n:(backTo cpos<|starEach args env).any (·.1)=false)(hi:mN "__init__"=some (.ref fI))(J:oI.cls=.type "function")
  (h:wpAny (model prog w) A (eval (.Name x np) env) (λf o=>f=.ref C/\wpAny (model prog w) A (evalArgs (.ref C) true (backTo cpos<|starEach args env) [])
   (λa b=>a.kw=[]/\a.pos.length<=sizeLine/\b.heap.get? C=some (excClassObj nm q C N bs bm hdct sn sub ab col dd k0 k1 k2 k3 k5 newId)/\b.heap.Ns N mN/\OwnTail b.heap bmB bm/\b.heap.get? fI=some oI/\
    ∀G e,Heap.MadeExcOf b.heap G e (.ref C) a.pos->wpAny (model prog w) (A.under<|.builtin "type.__call__" ⟨.ref C::a.pos,[]⟩) (call (.ref fI) (.ref e::a.pos))
     (λr y=>r=.none/\y.heap.get? C=some (excClassObj nm q C N bs bm hdct sn sub ab col dd k0 k1 k2 k3 k5 newId)/\(∃t Y,y.heap.get? e=some (T3 C t Y))/\E (.ref e) y) E {b with heap:=G}) E o) E s) :
  wpAny (model prog w) A (exec (.Raise (some<|.Call (.Name x np) args [] cpos) none pos) env) Q E s:=by
 refine W8 (V6<|Zhx (C:=C) (nm:=nm) (q:=q) (N:=N) (bs:=bs) (hdct:=hdct) (sn:=sn) (sub:=sub) (ab:=ab) (col:=col) (dd:=dd) (k0:=k0) (k1:=k1) (k2:=k2) (k3:=k3) (k5:=k5) (newId:=newId) p hh<|W8 (Qr (wpAny_Call_ofName (Qr h (λf o l=>?_) λ_ _ x=>x)) (λv s₃ u=>W8 (V6<|WD u)) λ_ _ x=>x));obtain⟨rfl,l⟩:=l;refine W8 (QK (Qr l (λa b g=>W8 (V6 ?_)) λ_ _ x=>x));obtain⟨apos,akw⟩:=a;obtain⟨H,hlen,hC,hn,T,L,g⟩:=g;obtain rfl:=H;simp only[n];refine W8 (wpAny_keeperOf_exc hC ?_);refine W8 (Zqb Fn U F T hC hn hi L J λG e hm=>Qr (g G e hm) (λr y z=>?_) λ_ _ x=>x);obtain⟨rfl,M,⟨t,Y,he⟩,hE⟩:=z;exact⟨rfl,W8 (QK<|wpAny_point<|WD ⟨e,t,Y,rfl,M,he,hE⟩)⟩
end
end ExcR
namespace ExcR
open L2
open Sem (wp)
open Builtin Builtin.ObjectAttr
noncomputable def Bc:Yl:=[.type "ValueError",.type "Exception",.type "BaseException",.type "object"]
noncomputable def BD:Yl->Bool
 | .ref _::r=>BD r
 |l=>l==Bc
theorem RS(self:Value):∀{l:Yl},BD l=true->refuseLoop self "__setattr__" l=pure ()
 | .ref c::r,e=>by rw[refuseLoop_ref];exact RS self e
 |[],e=>rfl
 | .type n::r,e=>by
  have:=beq_iff_eq.mp e
  rw[this];exact PySem.F.store_ValueError.passes self
theorem OS:∀{l:Yl},BD l=true->l.contains (.type "object")=true
 | .ref c::r,e=>by rw[List.contains_cons,OS (l:=r) e,Bool.or_true]
 |[],e=>by cases e
 | .type n::r,e=>by
  have:=beq_iff_eq.mp e
  rw[this];decide
structure FA (K:Yd) (C:Addr):Prop where
 po:(PySem.W.clsIn K C).any (λcd=>BD cd.mro&&cd.hasDict)=true
 sa:PySem.W.findIn K (.ref C) "__setattr__"=some (some<|.builtin "object.__setattr__")
section
variable {prog:Program}{w:World}{A:Around}{E:Yi}{s:Shared}{K:Yd}{x C t:Addr}{name:Str}{v:Value}
def Zol(X:K.In s.heap)(hx:s.heap.get? x=some (T3 C t none))(c:FA K C)(n:NoAttr K C name)
  (h:∀g,g.get? x=some (T3 C t<|some s.heap.objs.size)->g.Ns1 s.heap.objs.size (λy=>if y=name then some v else none)->(∀b o,b≠x->s.heap.get? b=some o->g.get? b=some o)->s.heap.objs.size<=g.objs.size->
   Q () {s with heap:=g,toks:=s.toks+2}):wpAny (model prog w) A (setAttr (.ref x) name v) Q E s:=by
 have u:=PySem.F.store_object;have J:PySem.W.InstAt s.heap x (T3 C t none) C none:=⟨hx,rfl,rfl,True.intro⟩;obtain⟨Y,T,l⟩:=PySem.W.any_some c.po;obtain⟨l,M⟩:=(Qb _ _▸l:_/\_);have ne:Y.mro.isEmpty=false:=by cases q:Y.mro with|nil=>rw[q]at l;cases l|cons _ _=>rfl
 have sub:PySem.W.Looks (model prog w) s.heap (isInstance (.ref x)<|.type "object") true:=J.type.andThen (PySem.W.looks_mroIn X<|by unfold PySem.W.mroIn;rw[T,Option.bind_some,WI (by rw[ne];decide),OS l]);have hm:PySem.W.Looks (model prog w) s.heap (mroOf<|.ref C) Y.mro:=(JN X T).andThen .now;refine PySem.W.set_plain X J c.sa (codeAny_call_builtin u.slot.plain u.entry (@PySem.W.check_slot (model prog w) _ _ {s with toks:=s.toks+1} "object.__setattr__" "object" "__setattr__" (.ref x) [.str name s.toks,v] [] _ u.kind u.split sub (u.args (.ref x) (.str name s.toks) v) ?_))
 rw[PySem.W.osa_eq,refuse_eq];refine W8 (W8<|J.type.here (s:={s with toks:=s.toks+1})<|W8<|hm.here (s:={s with toks:=s.toks+1}) ?_)
 rw[RS _ l];refine WD (W8<|J.type.here (s:={s with toks:=s.toks+1})<|W8<|JZ (PySem.W.looks_findIn X n)<|W8<|WD ?_)
 refine W8 (WD<|W8<|W8<|wpAny_loadPart hx<|W8<|JZ (JN X T) ?_);rw[M];have f:(s.heap.push {cls:=.type "dict",data:=.dict #[]}).get? x=some (T3 C t none):=WB _ hx;have p:=Qg (WM hx);refine W8 (wpAny_alloc' ?_);refine W8 (wpAny_update' f ?_);refine WD ?_
 have H:((s.heap.push {cls:=.type "dict",data:=.dict #[]}).update x λo=>{cls:=o.cls,dict:=some s.heap.objs.size,data:=o.data,slots:=o.slots}).get? s.heap.objs.size
   = some {cls:=.type "dict",data:=.dict #[]}:=
  (Heap.get?_update_ne _ _ _ _ p.symm).trans (Heap.get?_push_at rfl rfl)
 have G:((s.heap.push {cls:=.type "dict",data:=.dict #[]}).update x λo=>{cls:=o.cls,dict:=some s.heap.objs.size,data:=o.data,slots:=o.slots}).Ns s.heap.objs.size (λ_=>none):=
  ⟨_,#[],_,H,rfl,λe he=>absurd he (by simp),λ_=>rfl⟩
 refine W8 (WD<|W8 (wpAny_nsSet1 (Heap.Ns1.of_empty G) λg r z=>?_));obtain⟨oD,esD,epD,B,L,N⟩:=r.count (Within.cons name v Within.nil);refine W8 (wpAny_lookBehind B (by rw[L];exact pastItsLine_dict (WQ N<|by rw[Qn,List.length_nil,JW];lia)) ?_);refine WD (h g ?_ r (λb ob U hb=>?_) ?_)
 ·refine(z.2 x p).trans (Q4 _ f rfl)
 ·exact(z.2 b<|Qg<|WM hb).trans ((Heap.get?_update_ne _ _ _ _ U).trans (WB _ hb))
 ·rw[z.1,Heap.size_update,VG];exact Vn _
end
end ExcR
namespace ExcR
open L2
section
variable {X:Cx}{pins:Yg}{σ:L2.St}{H:Hp}{s:Shared}{a b:Addr}
def L4(I:Inv X pins σ H s)(n:H b=none)(E:b≠X.env.locals)(C:∀x c,X.env.cells.lookup x=some c->c≠b)(B:∀p∈X.pn++pins,p.1≠b)(A:∀c u,X.s₀.heap.get? c=some u->c≠b)(new:ObjOk X.prog X.w (upd H b o) s.heap b o):Inv X pins σ (upd H b o) s:=by
 refine⟨I.ok,I.os,I.bare,⟨λc u g h f r=>I.base.keep c u g h f r,λc u g h f r=>I.base.slot c u g h f r,λc u g h f=>?_,I.base.there,λc y g=>?_,λc u v g=>?_,λc z g=>?_⟩,I.loc,I.cell,?_,λx c g=>?_,λp l=>?_,?_,I.len⟩
 ·rw[XM (A c u g)];exact I.base.free c u g h f
 ·rw[XM (K4 (I.base.tups c y g) n)];exact I.base.tups c y g
 ·rw[XM (K4 (I.base.frzs c u v g) n)];exact I.base.frzs c u v g
 ·obtain⟨m,q⟩:=I.base.tbls c z g;exact⟨m,by rw[XM (K4 q n)];exact q⟩
 ·rw[XM (Ne.symm E)];exact I.free
 ·rw[XM (C x c g)];exact I.freeC x c g
 ·obtain⟨a1,a2,a3,a4,a5⟩:=I.pin p l;exact⟨a1,by rw[XM (B p l)];exact a2,a3,a4,a5⟩
 ·exact Lam.Zia I.hok n new
def Zi5(I:Inv X pins σ H s)(hex:X.ex=[])(h:s.heap.get? b=none)(k:∀c u,s.heap.get? c=some u->l.get? c=some u)(new:ObjOk X.prog X.w (upd H b o) l b o) :
  Inv X pins σ (upd H b o) {s with heap:=l,toks:=t'}:=by
 have g:∀{c u},s.heap.get? c=some u->c≠b:=λ{c u} e z=>by rw[z,h]at e;cases e
 refine L4 (I.kept k) (Gi I.hok h) ?_ (λx c e=>?_) (λp n=>g (I.pin p n).1) (λc u e=>?_) new
 ·obtain⟨m,⟨o1,r,y,f,_⟩,_⟩:=I.loc
  grind
 ·obtain⟨v,o1,f,_⟩:=I.cell x c e
  grind
 ·obtain⟨q,f⟩:=I.base.there c u e (by grind);exact g f
noncomputable def er(H:Hp)(a:Addr):Hp:=λb=>if b=a then none else H b
def Fx:er H a a=none:=by unfold er;rw[WK rfl]
def Nl(h:b≠a):er H a b=H b:=by unfold er;rw[WI h]
def Zls(h:er H a b=some o):H b=some o:=by
 by_cases z:b=a
 ·rw[z,Fx]at h;cases h
 ·rw[Nl z]at h;exact h
def forget(I:Inv X pins σ H s)(G:H a=some (.ext φ)):Inv X pins σ (er H a) s:=by
 have f:∀{c o},H c=some o->(∀B,o≠HO.ext B)->c≠a:=λ{c o} e n z=>by rw[z,G]at e;exact n _ (WT e).symm
 have r:∀{c},H c=none->er H a c=none:=λ{c} e=>by
  by_cases z:c=a
  ·rw[z];exact Fx
  ·rw[Nl z];exact e
 refine⟨I.ok,I.os,I.bare,⟨λc u g l h y=>I.base.keep c u g l h y,λc u g l h y=>I.base.slot c u g l h y,λc u g l h=>r (I.base.free c u g l h),I.base.there,λc C g=>?_,λc u v g=>?_,λc E g=>?_⟩,I.loc,I.cell,r I.free,λx c g=>r (I.freeC x c g),λp A=>?_,λc o e=>?_,I.len⟩
 ·have q:=I.base.tups c C g;rw[Nl (f q λ_ z=>nomatch z)];exact q
 ·have q:=I.base.frzs c u v g;rw[Nl (f q λ_ z=>nomatch z)];exact q
 ·obtain⟨m,q⟩:=I.base.tbls c E g;exact⟨m,by rw[Nl (f q λ_ z=>nomatch z)];exact q⟩
 ·obtain⟨a1,a2,a3,a4,a5⟩:=I.pin p A
  grind
 ·refine(I.hok c o<|Zls e).stay (λ_ _ _ z=>z) (λd z=>?_) λd xs z=>?_
  ·rw[Nl (f z λ_ w=>nomatch w)];exact z
  ·rw[Nl (f z λ_ w=>nomatch w)];exact z
def Zik(I:Inv X pins σ H s)(h:H l=some (.lst xs)):∃o,Inv X pins σ (upd H l<|.frz o<|.lst xs) s:=by
 obtain⟨z,f,n,r,e⟩:=(I.hok l _ h);exact⟨_,Fu I (by rw[h];trivial) ⟨rfl,λ_ _=>rfl⟩ ⟨_,e⟩ ⟨e,z,f,n,r,e⟩⟩
end
def Zeg(K:Yd)(C f:Addr):Prop:=∃(q:Yq) (b:ClassData) (sl:Array (Yp)) (g:Yl) (p o n l h:Yp),K.lookup C=some ⟨.type "type",q,.cls b,sl⟩/\b.mro=.ref C::g/\
 sl.toList=[p,o,n,l,some (.builtin "ValueError.__new__"),h]/\b.hasDel=false/\PySem.W.tailIn K Bc g=true/\PySem.W.nsOkIn K b.ns=true/\PySem.W.nsIn K b.ns "__init__"=some (some<|.ref f)
def Zbt{K h N b n v}(X:K.In h)(G:h.Ns N b)(e:PySem.W.nsIn K N n=some (some v)):b n=some v:=by
 obtain⟨o,u,w,p,s,_,f⟩:=G;unfold PySem.W.nsIn at e;split at e
 ·rename_i c d g l sl q
  have:=X _ _ q
  split at e
  ·rename_i x r;rw[←f];unfold nsFind findBy
   grind
  ·grind
 ·cases e
structure Tw (K:Yd) (C f:Addr):Prop where
 q:Zeg K C f
 fn:PySem.W.typeIn K (.ref f)=some (.type "function")
 st:FA K C
 ga:PySem.W.findIn K (.ref C) "__getattribute__"=some (some<|.builtin "BaseException.__getattribute__")
 gt:PySem.W.findIn K (.ref C) "__getattr__"=some none
 nm:NoAttr K C "members"
 cl:PySem.W.findIn K (.ref C) "__class__"=some (some<|.builtin "object.__class__")
def Tw.obj {K C f h} (c:Tw K C f) (k:K.In h):∃b N nm q bs hdct sn sub ab col dd k0 k1 k2 k3 k5 n,h.get? C=some (excClassObj nm q C N bs b hdct sn sub ab col dd k0 k1 k2 k3 k5 "ValueError.__new__")/\h.Ns N n/\n "__init__"=some (.ref f)/\
  OwnTail h Bc b:=by
 obtain⟨dd,B,sl,b,k0,k1,k2,k3,k5,x,o,E,s,z,l,r⟩:=c.q;have p:=k _ _ x;cases B with
 |mk nm bs w v u y sn sub ab col A=>
  simp only at o s l r;have g:sl=#[k0,k1,k2,k3,some (.builtin "ValueError.__new__"),k5]:=by grind
  rw[o,s,g]at p;exact⟨b,v,nm,u,bs,y,sn,sub,ab,col,dd,k0,k1,k2,k3,k5,_,p,.of_isNs (Ua k l),Zbt k (.of_isNs<|Ua k l) r,PySem.W.tail_of_in k z⟩
noncomputable def PV(a C t:Addr)(b:Yq):HO:=.ext λh=>h.get? a=some (T3 C t b)
def RH{a C t b}(e:h.get? a=some (T3 C t b)):ObjOk P w H h a (PV a C t b):=⟨e,⟨_,e⟩,λ_ _ q k=>k _ q⟩
noncomputable def Lq(K:Yd)(f:Str)(n te:TE):TS:=λD g H=>te g H λy p=>n g p λx b=>∃a C t l xs,x=.ref a/\y=.ref l/\b a=some (PV a C t none)/\FA K C/\NoAttr K C f/\b l=some (.lst xs)/\
 ∀o h,b h=none->D.nx g (upd (upd (upd b l<|.frz o<|.lst xs) a<|PV a C t<|some h) h<|.xd [(f,.ref l)])
def Zfx{pos p}{N M}(ha:PE X o N)(hv:PE X value M)(hs:swapsWith value (some<|.Attribute o f p) pos.line X.env=pure false):PS X (.Assign [.Attribute o f p] value pos) (Lq X.K f N M):=by
 intro pins s w H D I h;refine plainObj_wpAny_Assign_Attribute (thn (hv pins s w H _ I h) ?_) hs;rintro u Y ⟨y,H1,I1,ry,q⟩;refine thn (ha pins Y w H1 _ I1 q) ?_;rintro ov A ⟨x,L,v,rx,a,C,t,l,xs,ex,ey,E,c,n,T,q2⟩;subst ex ey;obtain rfl:=rx;obtain rfl:=ry;obtain⟨B,J⟩:=Zik v T;have G:upd L l (.frz B<|.lst xs) a=some (PV a C t none):=by rw[XM (AO E T λz=>nomatch z)];exact E
 have Q:=v.hok.fresh (WG _);refine Zol v.kIn ((v.hok a _ E).1) c n λh' U h2 h3 h4=>?_;have f0:=J.fpOk (H':=upd (upd L l<|.frz B<|.lst xs) a (PV a C t<|some A.heap.objs.size)) (WG _) (by rw[XM (K4 E Q |>.symm)];exact(J.hok.fresh<|WG _))
 have I4:Inv X pins w (upd (upd L l<|.frz B<|.lst xs) a<|PV a C t<|some A.heap.objs.size) {A with heap:=h',toks:=A.toks+2}:=
  J.write (by rw[G];exact True.intro) (.inl rfl) (λb q r z=>h3 b q r z) ⟨_,U⟩ (RH U)
 have I5:=L4 (o:=.xd [(f,.ref l)]) I4 f0.1 f0.2.1 f0.2.2.2.2.1 f0.2.2.2.2.2 (λc u e z=>by
  have:=WM e
  rw[z]at this
  exact absurd (Qj this v.sz) (QY _)) ⟨_,h2,λg=>by
   by_cases r:g=f
   ·subst r;simp only[List.lookup,beq_self_eq_true];exact rfl
   ·rw[WI r];simp only[List.lookup,QW.mpr r];exact True.intro⟩
 exact⟨w,_,I5,q2 B _ Q⟩
def L5(X:Cx)(E:XK):Prop:=∀(pins:Yg) (f:L2.St) (H:Hp) (s:Shared) (C a t:Addr) (b:Yq),Inv X pins f H s->s.heap.get? a=some (T3 C t b)->H a=none->X.s₀.heap.get? a=none->E (.ref C) b H->X.xe (.ref a) s
noncomputable def B5(K:Yd):Sp:=λf H Q _=>∃(a C t p:Addr) (xs:List V),f=[.ref a,.ref p]/\H a=some (PV a C t none)/\SqL K H p xs/\FA K C/\NoAttr K C "members"/\
 ∀(l b:Addr) (o:Obj),H l=none->H b=none->b≠l->Q .non (upd (upd (upd H l<|.frz o<|.lst xs) a<|PV a C t<|some b) b<|.xd [("members",.ref l)])
noncomputable def O2(K:Yd)(C:Addr)(E:XK)(t:TA):TS:=λ_ g H=>t g H λh f=>∃(p:Addr) (xs:List V),h=[.ref p]/\SqL K f p xs/\
 ∀(l b:Addr) (o:Obj),f l=none->f b=none->b≠l->E (.ref C) (some b) (upd (upd f l<|.frz o<|.lst xs) b<|.xd [("members",.ref l)])
def Zjb{a l f o0 o1 F D}(n:H a=none)(g:l≠a)(h:f≠a):er (upd (upd (upd (upd H a o0) l F) a o1) f D) a=upd (upd H l F) f D:=by
 funext b;by_cases z:b=a
 ·subst z;rw[Fx,XM (Ne.symm h),XM (Ne.symm g),n]
 ·rw[Nl z];by_cases y:b=f
  ·rw[y,Kb,Kb]
  ·rw[XM y,XM y,XM z];by_cases x:b=l
   ·rw[x,Kb,Kb]
   ·rw[XM x,XM x,XM z]
section
variable {X:Cx}{x:Str}{C:Addr}{E:XK}{e:Expr}{t:TA}{p cpos pos:Pos}{k:Nat}{ps:Ym}
def Zgb(Ci:Pu.P7 X.prog X.w X.K X.mg X.base CX0 k (Tw X.K C) ps (B5 X.K))(hr:XS (k+1) X.A)(hm:X.mg x=some (.ref C))(hR:L5 X E)(hex:X.ex=[])(hc:X.calm=true)(ha:PA X [e] t)(hg:autoParam (Gl X x) au_0)(hdb:autoParam ((x==("__debug__" : Str))=false) au_1)(he:autoParam (starEach [e] X.env=[(false,eval e X.env)]) au_0):PS X (.Raise (some<|.Call (.Name x p) [e] [] cpos) none pos) (O2 X.K C E t):=by
 obtain⟨f,fd,F,G,hb⟩:=Ci.ex;intro pins s σ H D I h;obtain⟨bm,N,nm,q,bs,hdct,sn,sub,ab,col,dd,k0,k1,k2,k3,k5,mN,hC,hN,hni,hT⟩:=G.obj I.ok.mod.kin;obtain⟨oI,Y,hcI⟩:=Option.map_eq_some_iff.mp G.fn
 have U:(backTo cpos<|starEach [e] X.env).any (·.1)=false:=by
  rw[he];rfl
 refine Zgv (nm:=nm) (q:=q) (N:=N) (bs:=bs) (hdct:=hdct) (sn:=sn) (sub:=sub) (ab:=ab) (col:=col) (dd:=dd) (k0:=k0) (k1:=k1) (k2:=k2) (k3:=k3) (k5:=k5)
  Vw (by decide +kernel) Vw (hT.hasType<|by decide +kernel) (I.ok.hd hc) U hni hcI (Nq I hg hm ⟨rfl,?_⟩ hdb)
 have hA:=ha cpos pins s σ H _ I h;rw[he]at hA ⊢;refine JH (thn hA ?_);rintro us s2 ⟨vs,T,B,r2,p2,xs,ev,hp,q2⟩;subst ev;obtain⟨u,rfl,ru⟩:=r2.one;obtain rfl:=ru;refine⟨rfl,by show 1<=_;rw[JW];lia,B.bk _ _ hC,hN.keeps B.bk,hT.keeps B.bk,B.bk _ _ (I.ok.mod.kin _ _ Y),λh' a g=>?_⟩;obtain⟨n,ht,_,_⟩:=g.there;have na:=Gi B.hok g.new;have I3:=Zi5 (t':=s2.toks) B hex g.new g.keeps (RH ht)
 have J:B5 X.K [.ref a,.ref p2] (upd T a<|PV a C n none) (λv H3=>v=.non/\∃l b o,T l=none/\T b=none/\b≠l/\l≠a/\b≠a/\H3=upd (upd (upd (upd T a<|PV a C n none) l<|.frz o<|.lst xs) a<|PV a C n<|some b) b (.xd [("members",.ref l)])) (λ_ _ _=>False):=by
  refine⟨a,C,n,p2,xs,rfl,Kb,(Own.Kp na).seq hp,G.st,G.nm,λl b o Q M h3=>⟨rfl,l,b,o,?_⟩⟩;have e1:l≠a:=λz=>by rw[z,Kb]at Q;cases Q
  have e2:b≠a:=λz=>by rw[z,Kb]at M;cases M
  rw[XM e1]at Q;rw[XM e2]at M;exact⟨Q,M,h3,e1,e2,rfl⟩
 have r3:Vals [V.ref a,V.ref p2] [Value.ref a,Value.ref p2]:=.cons rfl (.cons rfl .nil)
 have hl:([Value.ref a,Value.ref p2]++[]).length=ps.length:=by
  have:=F.len _ _ _ _ J
  exact this
 refine JG (Vq (F.run _ X.stack _ _ ⟨[Value.ref a,Value.ref p2],[]⟩ [Value.ref a,Value.ref p2] _ _ (λ_ _ _=>False) (hr.make C [.ref p2] []) (I3.env0.make C [.ref p2] []) (hb _ [Value.ref a,Value.ref p2] I3.kIn hl) r3 J) λr s' y=>?_);cases r with
 |error e=>exact False.elim y
 |ok fl=>
  cases fl with
  |ret u=>
   obtain⟨v,H',I4,rv,ev,l,b,o,n1,n2,n3,n4,n5,eH⟩:=I3.after y;subst ev;obtain rfl:=rv;have ea:H' a=some (PV a C n<|some b):=by rw[eH,XM (Ne.symm n5),Kb]
   have L:=(I4.hok a _ ea).1;refine⟨rfl,I4.bk _ _ hC,⟨n,some b,L⟩,hR pins σ (er H' a) s' C a n (some b) (forget I4 ea) L Fx (Fh B hex g.new) ?_⟩;rw[eH,Zjb na n4 n5];exact q2 l b o n1 n2 n3
  |_=>exact False.elim y
def Zbs{K g base N qual scope f cd A outer s H E} :
  L5 (Ks (CXe P w) P w K g base N qual scope f cd A outer s H E) E:=by
 intro pins u r B C a t n I h l b q;exact Qr (Rf I rfl rfl rfl b l h rfl rfl rfl rfl) (λ_ v ⟨o,y⟩=>⟨a,o,C,n,r,rfl,y,q⟩) λ_ _ z=>z
def Zbm{K vs H Q E D}(h:B5 K vs H Q E)(u:D.nx=λ_ H'=>Q .non H') :
  Lq K "members" (Pa 0) (tCB (λxs H Q=>∃p b,xs=[.ref p]/\(SqL K H p b\/SqT K H p b)/\∀l,H l=none->Q (.ref l) (upd H l<|.lst b))<|Kq (Pa 1) KH) D (start ["self","members"] vs) H:=by
 obtain⟨a,C,t,p,xs,rfl,g,s,c,n,q⟩:=h;refine⟨_,rfl,p,xs,rfl,.inl s,λl r=>⟨_,rfl,a,C,t,l,xs,rfl,rfl,?_,c,n,Kb,λo w f=>?_⟩⟩
 ·rw[XM (K4 g r)];exact g
 ·have v:w≠l:=λz=>by rw[z,Kb]at f;cases f
  rw[XM v]at f;rw[u,HG]
  grind
end
end ExcR
namespace Pu
open L2 Own M
section
variable {K:Yd}{mg:Yh}{E:L2.St->XK}{H0 H H1 H':Hp}{B Z Z':Addr->Prop}{σ:L2.St}{γ:Γ}
theorem HF:∀{ns:Yf}{vs:List V},Rps K H (ns.map D.int) vs->vs=ns.map V.int
 |[],_,h=>by cases h;rfl
 |n::ns,_,h=>by
  cases h with
  |cons h r=>rw[HF r,h.int_inv];rfl
noncomputable def Zn7(r:PTA):PTS:=λR γ=>r γ (λf=>match f with
 |[s]=>(∃b:Yf,s.d=.lst (b.map D.int)/\R.ex γ (NN b))
 |_=>False) (R.ex γ)
def Zdm{Ec}(N:Kc K mg (λ_=>Ec) C r):XW K mg (λ_=>Ec) (ExcR.O2 K (ExcR.XQ mg "Ringed") Ec C) (Zn7 r):=by
 intro H0 B H σ γ R D hB b h e;refine N H0 B H σ γ _ _ _ b h (λss z H1 u x G=>?_) λc H' Q y=>e.ex σ γ c H' Q (b.grow y) (Fr.grow y);split at u
 ·rename_i s;obtain⟨g,U,T⟩:=u;obtain⟨v,rfl,A⟩:=G.one_inv;have f:=A.rp (b.grow x).same;rw[U]at f;obtain⟨p,z,rfl,q,J⟩:=f.lst_inv;rw[HF J]at q;refine⟨p,_,rfl,SqL.of q,λl Y o L M n=>?_⟩;have S2:Same H1 (upd (upd H1 l<|.frz o<|.lst<|g.map V.int) Y<|.xd [("members",.ref l)]):=(Kp L).trans (Kp<|by rw[XM n];exact M);have w:=x.trans S2;exact(e.ex σ γ (NN g) _ T (b.grow w)<|Fr.grow w).mem Kb (by rw[XM (Ne.symm n)];exact Kb)
 ·grind
end
end Pu
namespace Pu
open L2 Own
structure RI (K:Yd) (x:Str) (C:Addr) (q:Str) (st:Stmt):Prop where
 a:PySem.W.nsIn K mainGlobals x=some (some<|.ref C)
 ex:∃f fd,ExcR.Tw K C f/\Fun K "__init__" q st f fd
section
variable {K:Yd}{h:Heap}{mg:Yh}{x q:Str}{st:Stmt}{C M N f:Addr}
def Zjn{cd:ClassData}(m:PySem.W.excIn K M ExcR.Bc "ValueError.__new__"=true):PySem.W.tailIn K ExcR.Bc (.ref M::ExcR.Bc)=true:=by
 unfold PySem.W.excIn at m;split at m
 next z cd sl b=>
  split at m
  next B A u s r p n o w v=>
   simp only[Qb,beq_iff_eq,Bool.not_eq_true']at m;obtain⟨⟨⟨_,y⟩,l⟩,g⟩:=m;unfold PySem.W.tailIn;rw[Bool.or_eq_true];right
   try dsimp only
   rw[b]
   try dsimp only
   rw[l,g];rfl
  grind
 next=>cases m
def ri{cd sl w k0 k1 k2 k3 k5 Q es n oc A T g kV r y b ct}(a:PySem.W.nsIn K mainGlobals x=some (some<|.ref C))(l:K.lookup C=some ⟨.type "type",dd,.cls cd,sl⟩)(s:cd.mro=.ref C :: .ref M::[.type "ValueError",.type "Exception",.type "BaseException",.type "object"])(dl:cd.hasDel=false)(p:cd.hasDict=true)(o:sl.toList=[k0,k1,k2,k3,some (.builtin "ValueError.__new__"),k5])(u:cd.ns=N)(E:K.lookup N=some ⟨Q,U,.dict es n,w⟩)(z:(es.toList.all λe=>match e.key with | .str _ _=>true|_=>false)=true)(i:PySem.W.nsIn K N "__init__"=some (some<|.ref f))(m:PySem.W.excIn K M [.type "ValueError",.type "Exception",.type "BaseException",.type "object"] "ValueError.__new__"=true)(fn:PySem.W.isFn K (.ref f)=true)(v:PySem.W.findIn K (.ref C) "__setattr__"=some (some<|.builtin "object.__setattr__"))(J:PySem.W.findIn K (.ref C) "__getattribute__"=some (some<|.builtin "BaseException.__getattribute__"))(H:PySem.W.findIn K (.ref C) "__getattr__"=some none)(G:PySem.W.findIn K (.ref C) "__class__"=some (some<|.builtin "object.__class__"))(nm:PySem.W.findIn K (.ref C) "members"=some none)(B:K.lookup f=some ⟨oc,A,.func (PySem.W.fnOf "__init__" q (P5 st) (Km st) (XH st) .none kV r y T b ct),g⟩)(c:PySem.W.codeIn K b q=true)(k:PySem.W.keepIn K (.ref f)=true):RI K x C q st:=by
 have L:PySem.W.clsIn K C=some cd:=by unfold PySem.W.clsIn;rw[l]
 refine⟨a,f,_,⟨?_,beq_iff_eq.mp fn,⟨?_,v⟩,J,H,nm,G⟩,F4 B c k⟩
 ·refine⟨dd,cd,sl,_,k0,k1,k2,k3,k5,l,s,o,dl,Zjn (cd:=cd) m,?_,by rw[u];exact i⟩;rw[u];unfold PySem.W.nsOkIn;rw[E];show(es.all _)=true;rw[←Array.all_toList];omega
 ·rw[L];show(ExcR.BD cd.mro&&cd.hasDict)=true;rw[s,p];rfl
def RI.c (y:RI K x C q st) (X:K.In h) (b:h.Ns mainGlobals mg):ExcR.XQ mg x=C:=ExcR.AQ (Qx X b y.a)
def RI.m (y:RI K x C q st) (X:K.In h) (b:h.Ns mainGlobals mg):mg x=some (.ref<|ExcR.XQ mg x):=by rw[y.c X b];exact Qx X b y.a
def RI.i (y:RI K x C q st) (X:K.In h) (b:h.Ns mainGlobals mg):∃g,ExcR.Tw K (ExcR.XQ mg x) g:=by
 obtain⟨f,l,e,_⟩:=y.ex;rw[y.c X b]
 grind
def RI.d (y:RI K x C q st) (e:p=C)
  (b:∀kV g n o l ct us,us.length=ps.length->bindArgs (PySem.W.fnOf "__init__" q (P5 st) (Km st) (XH st) .none kV g n o l ct) ⟨us,[]⟩=pure (ps.zip us)):Kk K (ExcR.Tw K p) "__init__" q st ps:=
 let ⟨_,_,i,F⟩:=y.ex
 ⟨_,_,F,by rw[e];exact i,F.binds b⟩
def RI.j (y:RI K x C q st) (e:l=C) (b:Bd "__init__" q st ps:=by
  intro _ _ _ _ _ _ us g;obtain⟨_,_,rfl⟩:=Pu.BL g;rfl):Kk K (ExcR.Tw K l) "__init__" q st ps:=y.d e b
end
end Pu
namespace M
open L2 Own Pu
def Sq(f:Yf)(b:Ye)(X:Str->Prop)(A:Prop):Prop:=(∀r,FR f b r->r≠[]->X (NN r))/\((¬ ∃r,Ring f b r)->A)
noncomputable def pcc(ps:Ye):Int->Int->Int:=λx y=>pcM ps x y ps.length
end M
namespace ExcR
open L2
noncomputable def hxL(K:Yd):List (Addr×Option Nat×TS)->Ends->L2.St->XK
 |[],_=>λ_ _ _ _=>False
 |(n,l,g)::r,D=>λf c h H=>∃C b,c=.ref C/\PySem.W.exmOne K (.ref C) (.ref n)=some b/\
  if b=true then(match l with
   |some i=>∀a,H a=none->g (OB i D) (f.set i<|some<|.ref a) (upd H a<|To a C h)
   |none=>g D f H)else hxL K r D f c h H
section
variable {X:Cx}{pins pins1:Yg}{σ:L2.St}{H H':Hp}{s s':Shared}{h3:Heap}{a T C C0:Addr}{dx:Yq}{fl:Value}{D:Ends}{hs:List ExceptHandler}{L:List (Addr×Option Nat×TS)}
structure Pre (X:Cx) (pins:Yg) (σ:L2.St) (H H':Hp) (s s':Shared) (h3:Heap) (a T C:Addr) (dx:Yq) (fl:Value):Prop where
 I:Inv X pins σ H s
 os:s'.os=s.os
 bare:AllBare s'.gens
 na:s.heap.get? a=none
 nT:s.heap.get? T=none
 fa:H' a=none
 fT:H' T=none
 tr:Trc h3 a T (.ref C,dx) fl
 u:Un (frs X.stack) [] H H' s.heap h3
 ok:HOk X.prog X.w H' h3
def Pre.inv (p:Pre X pins σ H H' s s' h3 a T C dx fl):Inv X pins σ H' {s' with heap:=h3}:=p.I.call' p.os p.u p.ok p.bare λb z=>absurd z (by simp)
def PH(X:Cx)(hs:List ExceptHandler)(L:List (Addr×Option Nat×TS)):Prop:=∀(pins:Yg) (σ:L2.St) (H H':Hp) (s s':Shared) (h3:Heap) (a T C:Addr) (dx:Yq) (fl:Value) (D:Ends),
 Pre X pins σ H H' s s' h3 a T C dx fl->hxL X.K L D σ (.ref C) dx H'->wpAny (model X.prog X.w) X.A (handleBy (.ref a) X.env hs) (SP X pins D) X.xe {s' with heap:=h3}
def Zhr:PH X [] []:=λ_ _ _ _ _ _ _ _ _ _ _ _ _ _ h=>h.elim
section
variable {x n:Str}{np hpos:Pos}{b0:Stmt}{suite:Yo}{i:Nat}{ts:TS}
def Zlg(hN:X.N.Nodup)(hi:X.N[i]?=some n)(G:X.env.scope.names.lookup n=some .local)(hg:Gl X x)(hm:X.mg x=some (.ref C0))(hdb:(x==("__debug__" : Str))=false)(Y:∀a,PSs (T1 X a) (b0::suite) ts)(hr:PH X hs L):PH X (.ExceptHandler (some<|.Name x np) (some n) (b0::suite) hpos::hs) ((C0,some i,ts)::L):=by
 rintro pins σ H H' s s' h3 a T C dx fl D p ⟨C',b,ec,em,q⟩;obtain rfl:=Value.ref.inj ec;have J3:=p.inv;have S3:Inv (T1 X a) pins σ H' {s' with heap:=h3}:=Ap J3
 refine wpAny_handleBy_cons (codeAny_handlers_test<|Nq S3 hg hm ?_ hdb) (by intro z;cases z);obtain⟨_,⟨oe,vs,g1,g2,g3,g4⟩,_⟩:=id p.tr;refine(PySem.W.exm_one J3.kIn ((show oe.cls=Value.ref C from Qs Prod.fst g2)▸(PySem.W.Looks.ld g1).andThen .now) em).here ?_
 cases b with
 |false=>exact hr pins σ H H' s s' h3 a T C dx fl D p q
 |true=>
 refine codeAny_handlers_suite_as (Bo p.tr λJ M k4=>?_);have h:=FJ p.u (k4.mono (by simp) λ_ z=>z) λb r=>by rw[WC.mp r];exact p.nT
 have u5:Un (frs X.stack) [] H (upd H' a<|To a C dx) s.heap J:=by
  have ne:∀b o,s.heap.get? b=some o->b≠a:=λb o z w=>by rw[w,p.na]at z;cases z
  have l:∀b o,H' b=some o->b≠a:=λb o z w=>by rw[w,p.fa]at z;cases z
  refine⟨h.keep,h.slot,λb o z n m=>by rw[XM (ne b o z)];exact h.free b o z n m,h.there,λb xs z=>?_,λb o u z=>?_,λb ps z=>?_⟩
  ·rw[XM (l b _<|h.tups b xs z)];exact h.tups b xs z
  ·rw[XM (l b _<|h.frzs b o u z)];exact h.frzs b o u z
  ·obtain⟨more,z1⟩:=h.tbls b ps z;exact⟨more,by rw[XM (l b _ z1)];exact z1⟩
 have U:HOk X.prog X.w (upd H' a<|To a C dx) J:=λb ob e=>by
  by_cases r:b=a
  ·subst r;rw[Kb]at e;cases e
   exact Zps M
  ·rw[XM r]at e;refine((SU p.ok k4 (by simp) λb r=>by rw[WC.mp r];exact p.fT) b ob e).stay (λ_ _ _ z=>z) (λc z=>?_) λc xs z=>?_
   ·rw[XM λw=>by rw[w,p.fa]at z;cases z];exact z
   ·rw[XM λw=>by rw[w,p.fa]at z;cases z];exact z
 have J5:Inv X pins σ (upd H' a<|To a C dx) {s' with heap:=J}:=p.I.call' p.os u5 U p.bare λb z=>absurd z (by simp)
 have S5:Inv (T1 X a) pins σ (upd H' a<|To a C dx) {s' with heap:=J}:=Ap J5
 refine NT (X:=T1 X a) S5 hN hi (.inl G) (v:=.ref a) rfl (λs6 S6=>?_) (.inr G);refine Qr (Y a pins s6 _ _ _ S6<|q a p.fa) (λf s7 h7=>?_) λ_ _ z=>z.elim
 have gone:∀{g:L2.St} {B:Hp} {R:Unit->Shared->Prop},Inv (T1 X a) pins g B s7->(∀E,Inv X pins (g.set i none) B E->R () E)->wpAny (model X.prog X.w) X.A (do bindName X.env n .none;unbindBehindTheSuite X.env n hpos) R X.xe s7:=λ{g B R} y hR=>by
  obtain⟨m,hn,hl⟩:=id y.loc;exact wpAny_nameGoes_keeps G hn (by rw[show X.env.scope.kind=.function from J5.ok.kind];rfl) λh8 v hn8 hs8=>hR _ (Zg6 (E1 J5.ok y) hN hi G hl hn hn8 hs8)
 cases f with
 |ret u=>obtain⟨v,g,B,y,rv,Q⟩:=h7;exact gone y λE I8=>⟨v,_,_,I8,rv,Q⟩
 |_=>obtain⟨g,B,y,Q⟩:=h7;exact gone y λE I8=>⟨_,_,I8,Q⟩
def Pr(U:Gl X x)(Q:X.mg x=some (.ref C0))(o:(x==("__debug__" : Str))=false)(l:∀a,PSs (T1 X a) (b0::suite) ts)(N:PH X hs L):PH X (.ExceptHandler (some<|.Name x np) none (b0::suite) hpos::hs) ((C0,none,ts)::L):=by
 rintro pins σ H H' s s' h3 a T C dx fl D p ⟨C',b,ec,em,q⟩;obtain rfl:=Value.ref.inj ec;have E:=p.inv;have S3:Inv (T1 X a) pins σ H' {s' with heap:=h3}:=Ap E
 refine wpAny_handleBy_cons (codeAny_handlers_test<|Nq S3 U Q ?_ o) (by intro z;cases z);obtain⟨_,⟨M,vs,g1,g2,g3,g4⟩,_⟩:=id p.tr;refine(PySem.W.exm_one E.kIn ((show M.cls=Value.ref C from Qs Prod.fst g2)▸(PySem.W.Looks.ld g1).andThen .now) em).here ?_
 cases b with
 |false=>exact N pins σ H H' s s' h3 a T C dx fl D p q
 |true=>
 refine codeAny_handlers_suite (Bo p.tr λY G A=>?_);have y:Inv X pins σ H' {s' with heap:=Y}:=p.I.call' p.os (FJ p.u (A.mono (by simp) λ_ z=>z) λb r=>by rw[WC.mp r];exact p.nT) (SU p.ok A (by simp) λb r=>by rw[WC.mp r];exact p.fT) p.bare λb z=>absurd z (by simp)
 refine Qr (l a pins _ _ _ _ (Ap y) q) (λf s7 B=>?_) λ_ _ z=>z.elim;cases f with
 |ret u=>obtain⟨v,g,H7,w,J,h⟩:=B;exact⟨v,_,_,E1 y.ok w,J,h⟩
 |_=>obtain⟨g,H7,w,h⟩:=B;exact⟨_,_,E1 y.ok w,h⟩
end
noncomputable def Fi(X:Cx)(pins:Yg)(D:Ends)(hs:List ExceptHandler):Cx:=
 {X with pn:=X.pn++pins,xe:=λe g=>wpAny (model X.prog X.w) X.A (noteFrame e X.env) (λ_ f=>wpAny (model X.prog X.w) X.A (setFlight e none) (λ_ b=>wpAny (model X.prog X.w) X.A (handleBy e X.env hs) (SP X pins D) X.xe b) X.xe f) X.xe g}
def Zn2(I:Inv X pins σ H s):Inv (Fi X pins D hs) [] σ H s:=⟨⟨I.ok.mod,I.ok.kind,I.ok.glob,I.ok.blt,I.ok.above,I.ok.inj,I.ok.has,I.ok.cab,I.ok.hd,I.ok.frames,I.ok.stk,I.ok.exf,I.ok.bs,I.ok.bsz,I.ok.noex,I.ok.exfs,I.ok.funs,I.ok.frf⟩,I.os,I.bare,I.base,I.loc,I.cell,I.free,I.freeC,λp b=>I.pin p (by simpa [Fi]using b),I.hok,I.len⟩
def FY(I:Inv (Fi X pins D hs) pins1 σ H s):Inv X pins σ H s:=⟨⟨I.ok.mod,I.ok.kind,I.ok.glob,I.ok.blt,I.ok.above,I.ok.inj,I.ok.has,I.ok.cab,I.ok.hd,I.ok.frames,I.ok.stk,I.ok.exf,I.ok.bs,I.ok.bsz,I.ok.noex,I.ok.exfs,I.ok.funs,I.ok.frf⟩,I.os,I.bare,I.base,I.loc,I.cell,I.free,I.freeC,λp b=>I.pin p (Ve _ b),I.hok,I.len⟩
def Zio(h:X.stack=X.env::X.outer)(x:X.env.frame=some X.env.locals)(Q:PH X hs L):GO (CXe X.prog X.w) (Fi X pins D hs) (hxL X.K L D):=by
 rintro pins1 σ H s e s' I ⟨a,T,C,dx,H',rfl,y,q⟩;have I:=FY I;have J:=I.call' y.os y.un y.hok y.bare λb z=>absurd z (by simp);have E:=J.stack;have G:=J.ok.frames;rw[h]at E G;refine Gv G E x y.tr λU p l u B=>?_
 have g:s.heap.get? p=none:=by
  cases z:s.heap.get? p with
  |none=>rfl
  |some o=>
   obtain⟨o1,M⟩:=y.un.there p o z (by simp);exact absurd (WM M) (JJ.mpr l)
 have n:=y.hok.fresh l
 have N:Un (frs X.stack) [] H H' s.heap U:=FJ y.un (by rw[h];exact B) λb f=>by
  rcases WL.mp f with rfl|f
  ·exact y.na
  ·rw[WC.mp f];exact y.nT
 have v:=SU y.hok B (λb f=>J.stkFree b (by grind)) λb f=>by
  rcases WL.mp f with rfl|f
  ·exact y.fa
  ·rw[WC.mp f];exact y.fT
 refine Bo u λh3 r A=>?_;exact Q pins σ H H' s s' h3 a p C dx _ D ⟨I,y.os,y.bare,y.na,g,y.fa,n,r,FJ N (A.mono (by simp) λ_ z=>z) λb f=>by rw[WC.mp f];exact g,SU v A (by simp) λb f=>by rw[WC.mp f];exact n⟩ q
def Zby{l:Ends->TS}(n:∀pins D,PSs (Fi X pins D (o::hs)) body (l D)):PS X (.Try body (o::hs) [] [] pos) (λD σ H=>l D D σ H):=by
 intro pins s σ H D I h;refine wpAny_Try_except (Qr (n pins D [] s σ H D (Zn2 I) h) (λf p g=>?_) λ_ _ z=>z);cases f with
 |next=>
  obtain⟨b,H',J,q⟩:=g;exact WD ⟨b,H',FY J,q⟩
 |ret u=>obtain⟨v,b,H',J,r,q⟩:=g;exact⟨v,b,H',FY J,r,q⟩
 |_=>obtain⟨b,H',J,q⟩:=g;exact⟨b,H',FY J,q⟩
end
end ExcR
namespace Pu
open L2 Own
noncomputable def BK(c n:Str):Bool:=decide (c=n) || decide (n=("MeldError" : Str))
noncomputable def Zk1(oi:Option Nat)(R:TB):TB:=match oi with
 |some i=>{nx:=λg=>R.nx (g.set i none),rt:=R.rt,ex:=λ_ _=>False,bk:=λg=>R.bk (g.set i none),ct:=λg=>R.ct (g.set i none),rv:=R.rv}
 |none=>{R with ex:=λ_ _=>False}
noncomputable def Zgh(oi:Option Nat)(d:D)(b:Γ):Γ:=match oi with
 |some i=>b.set i (some<|.sh d)
 |none=>b
def pHs:List (Str×Option Nat×PTS)->Str->D->TB->Γ->Prop
 |[],_,_,_,_=>False
 |(n,f,p)::r,c,d,R,b=>if BK c n=true then p (Zk1 f R) (Zgh f d b)else pHs r c d R b
noncomputable def Zlk(f:Yh)(n:Ym)(g:List (Str×Option Nat×PTS))(l:PTS):PTS:=λR h=>l {R with ex:=λb c=>(c∈n/\pHs g c (.err<|ExcR.XQ f c) R b)\/∃r,c=NN r/\pHs g "Ringed" (.erM (ExcR.XQ f "Ringed") r) R b} h
def ExOk(K:Yd)(b:Yh)(f ns:Ym):Prop:=∀c∈f,∀n∈ns,PySem.W.exmOne K (.ref<|ExcR.XQ b c) (.ref<|ExcR.XQ b n)=some (BK c n)
inductive HsS (K:Yd) (mg:Yh) (E:L2.St->XK):List (Addr×Option Nat×TS)->List (Str×Option Nat×PTS)->Prop
 |nil:HsS K mg E [] []
 |cons {n:Str} {oi:Option Nat} {ts:TS} {p:PTS} {L:List (Addr×Option Nat×TS)} {hs:List (Str×Option Nat×PTS)}:XW K mg E ts p->HsS K mg E L hs->HsS K mg E ((ExcR.XQ mg n,oi,ts)::L) ((n,oi,p)::hs)
section
variable {K:Yd}{mg:Yh}{E:L2.St->XK}
theorem AI{B Y w}{γ x}{R D c d C dx}(T:∀b,B b->∃o,M b=some o)(e:Bz K mg E M B H Y γ R D)(U:XN K M B H' w x)(A:Fr B H Y γ H' w x){E'}(hd:∀a,H' a=none->Rp K (off (zof B x w)<|upd H' a<|ExcR.To a C dx) d (.ref a)):∀{L} {N:List (Str×Option Nat×PTS)},HsS K mg E' L N->(∀n∈N.map (·.1),PySem.W.exmOne K (.ref C) (.ref<|ExcR.XQ mg n)=some (BK c n))->pHs N c d R x->ExcR.hxL K L D w (.ref C) dx H'
 |_,_,.nil,_,h=>h
 |_,_,.cons (n:=n) (oi:=oi) hh r,hx,h=>by
  refine⟨C,BK c n,rfl,hx n Qh,?_⟩;unfold pHs at h;split at h
  ·rename_i Q;rw[WK Q];cases oi with
   |none=>exact hh M B H' w x _ _ T U h ⟨λf g u l q p=>e.nx _ _ u l q (A.trans p),e.rt,λ_ _ _ _ z=>z.elim,λf g u l q p=>e.bk _ _ u l q (A.trans p),λf g u l q p=>e.ct _ _ u l q (A.trans p),λf g d v u l q p=>e.rv f g d v u l q (A.trans p)⟩
   |some i=>
    intro a na;obtain⟨e2,f2⟩:=U.set (s:=.sh d) (Kp na) (hd a na) rfl;have y:=A.trans f2;refine hh M B _ _ _ _ _ T e2 h ⟨λf g u l q p=>?_,e.rt,λ_ _ _ _ z=>z.elim,λf g u l q p=>?_,λf g u l q p=>?_,λf g d v u l q p=>e.rv f g d v u l q (y.trans p)⟩
    ·obtain⟨J,G⟩:=q.gone i;exact e.nx _ _ u l J (y.trans<|p.trans G)
    ·obtain⟨J,G⟩:=q.gone i;exact e.bk _ _ u l J (y.trans<|p.trans G)
    ·obtain⟨J,G⟩:=q.gone i;exact e.ct _ _ u l J (y.trans<|p.trans G)
  ·rename_i Q;rw[WI Q];exact AI T e U A hd r (λn hn=>hx n (WV _ hn)) h
def Zkr{w:Ends->TS}{pb}{E'}(v ns:Ym)(hx:ExOk K mg ("Ringed" :: v) ns)(A:HsS K mg E' L x)(hb:∀D,XW K mg (ExcR.hxL K L D) (w D) pb)(T:autoParam (x.map (·.1)=ns) au_0)(U:autoParam (∀c∈v,NG c=none) au_1):XW K mg E (λD p H=>w D D p H) (Zlk mg v x pb):=by
 subst T;intro H0 B H p Q R D s u h e;refine hb D H0 B H p Q _ D s u h ⟨e.nx,e.rt,λM N c H' Y b C=>?_,e.bk,e.ct,e.rv⟩;rcases Y with⟨f,q⟩|⟨r,rfl,q⟩
 ·exact .of (U c f) (AI s e b C (λa n=>.err (Kz Kb λz=>by have:=b.zm a z;rw[n]at this;exact this)) A (hx c<|WV _ f) q)
 ·refine .ofM λG l o g y=>AI s e b C (λa n=>?_) A (hx _ Qh) q;have J:=Kp (o:=ExcR.To a (ExcR.XQ mg "Ringed") (some G)) n;exact .erM (Kz Kb λz=>by have:=b.zm a z;rw[n]at this;exact this) (Kz (J _ _ g) λz=>by have:=b.zm G z;rw[g]at this;exact this) (Kz (J _ _ y) λz=>by have:=b.zm l z;rw[y]at this;exact this)
end
def ExOk.sub {K g l ns f b} (h:ExOk K g l ns) (r:∀c∈f,c∈l) (q:∀n∈b,n∈ns):ExOk K g f b:=λc p n o=>h c (r c p) n (q n o)
noncomputable def Zaf(K:Yd)(b ns:Ys):Bool:=b.all λc=>ns.all λn=>decide (PySem.W.exmOne K (.ref c.2) (.ref n.2)=some (BK c.1 n.1))
def Zir{K b f ns}(h:Zaf K (f.map λc=>(c,ExcR.XQ b c)) (ns.map λn=>(n,ExcR.XQ b n))=true):ExOk K b f ns:=λc l n g=>
 WJ (Q2.mp (Q2.mp h _<|WO.mpr ⟨c,l,rfl⟩) _<|WO.mpr ⟨n,g,rfl⟩)
def hq{A}(h:XS j A)(b:autoParam (k<=j) au_1):XS k A:=h.mono b
section
variable {X:Cx}{sc:Scope}{elt iter tg:Expr}{ifs:Yn}{pos:Pos}{wi:TI}{g:TG}{tc:TT}{te:TE}{x:Str}
def cz(N':Ym)(φ:Yj)(p:PI X tg iter wi)(l:∀{n C b f ex},PG (K9 X N' sc n C b f ex) tg g/\NL (K9 X N' sc n C b f ex) ifs tc/\PE (K9 X N' sc n C b f ex) elt te)(h:autoParam (X.calm=true) au_0)(S:autoParam (BF sc X.env.scope X.N N' φ=true) au_0)(o:autoParam (∀x,foldedSetIterable iter X.env x=pure x) au_3):PE X (.ListComp elt [⟨tg,iter,ifs,0⟩] sc pos) (BH φ wi g tc te):=Dt h (.of S) p (λ_ _ _ _ _=>l) o
def gk(i:Nat)(h:autoParam (decide X.N.Nodup=true) au_9)(b:autoParam (X.N[i]?=some x) au_0)(hx:autoParam (Loc X.env.scope x) au_6)(f:autoParam (X.fn x=true\/X.env.scope.names.lookup x=some .local) au_2):PG X (.Name x pos) (SM i):=De (WJ h) b hx f
end
section
variable {P:Program}{w:World}{K:Yd}{mg:Yh}{base:Heap}{N ps:Ym}{sp:Sp}{p:PTS}{x q:Str}{st:Stmt}{k:Nat}{W:Addr->Prop}
def _root_.Own.Def.ez (D:Def K mg x st ps) (S:XI N ps (XH st))
  (g:∀{f b A outer s H} {E:XK},XS k (A.deeper<|envOfC x (XH st) s.heap.objs.size f b)->
   ∃t,PSs (Ks CX0 P w K mg base N x (XH st) f b A outer s H E).nox (Km st) t/\XW K mg (λ_=>E) t p) (u:Uz K mg N ps sp p):Callee P w K mg base CX0 (k+1) x ps sp:=D.oz S (λ_ _ _ _ _ _ _=>g) u
def _root_.Own.Def.ey (D:Def K mg x st ps) (S:XI N ps (XH st))
  (g:∀{f b A outer s H} {E:XK},XS k (A.deeper<|envOfC x (XH st) s.heap.objs.size f b)->
   ∃t,PSs (Ks (ExcR.CXe P w) P w K mg base N x (XH st) f b A outer s H E) (Km st) t/\XW K mg (λ_=>E) t p) (u:Uz K mg N ps sp p):Callee P w K mg base (ExcR.CXe P w) (k+1) x ps sp:=D.ox S (λ_ _ _ _ _ _ _=>g) u
def Kk.ez (D:Kk K W x q st ps) (S:XI N ps (XH st))
  (g:∀{f b A outer s H} {E:XK},XS k (A.deeper<|envOfC q (XH st) s.heap.objs.size f b)->
   ∃t,PSs (Ks CX0 P w K mg base N q (XH st) f b A outer s H E).nox (Km st) t/\XW K mg (λ_=>E) t p) (u:Uz K mg N ps sp p):P7 P w K mg base CX0 (k+1) W ps sp:=D.oz S (λ_ _ _ _ _ _ _=>g) u
def Kk.ey (D:Kk K W x q st ps) (S:XI N ps (XH st))
  (g:∀{f b A outer s H} {E:XK},XS k (A.deeper<|envOfC q (XH st) s.heap.objs.size f b)->
   ∃t,PSs (Ks (ExcR.CXe P w) P w K mg base N q (XH st) f b A outer s H E) (Km st) t/\XW K mg (λ_=>E) t p) (u:Uz K mg N ps sp p):P7 P w K mg base (ExcR.CXe P w) (k+1) W ps sp:=D.ox S (λ_ _ _ _ _ _ _=>g) u
end
structure Fit {ι:Type} (F:ι->Cx) (K:Yd) (mg:Yh):Prop where
 k:∀j,(F j).K=K
 m:∀j,(F j).mg=mg
section
variable {ι:Type} (F:ι->Cx) (K:Yd) (mg:Yh) (E:L2.St->XK)
structure CE (e:Expr) (p:PTE):Prop where
 h:Fit F K mg->∃t,(∀j,PE (F j) e t)/\XG K mg E t p
structure CT (e:Expr) (p:PTT):Prop where
 h:Fit F K mg->∃t,(∀j,PT (F j) e t)/\KD K mg E t p
structure CW (e:Expr) (p:PTT):Prop where
 h:Fit F K mg->∃t,(∀j,PW (F j) e t)/\KD K mg E t p
structure CA (es:Yn) (p:PTA):Prop where
 h:Fit F K mg->∃t,(∀j,PA (F j) es t)/\Kc K mg E t p
structure CS (s:Stmt) (p:PTS):Prop where
 h:Fit F K mg->∃t,(∀j,PS (F j) s t)/\XW K mg E t p
structure CB (b:Yo) (p:PTS):Prop where
 h:Fit F K mg->∃t,(∀j,PSs (F j) b t)/\XW K mg E t p
structure CI (tg e:Expr) (p:PTI):Prop where
 h:Fit F K mg->∃t,(∀j,PI (F j) tg e t)/\SndI K mg E t p
structure CJ (tg e:Expr) (p:PTI):Prop where
 h:Fit F K mg->∃t,(∀j,PI (F j) tg e t)/\Fl K mg E t p
structure CG (e:Expr) (is:Yk) (p:PTG):Prop where
 h:Fit F K mg->∃t,(∀j,PG (F j) e t)/\N0 K is t p
structure CGs (es:Yn) (is:Yk) (p:Su):Prop where
 h:Fit F K mg->∃t,(∀j,PGs (F j) es t)/\B6 K is t p
structure CF (es:Yn) (p:PTT):Prop where
 h:Fit F K mg->∃t,(∀j,NL (F j) es t)/\KD K mg E t p
end
section
variable {ι:Type}{F:ι->Cx}{K:Yd}{mg:Yh}{E:L2.St->XK}{e f g:Expr}{es:Yn}{a b c:PTE}{r:PTA}{x:Str}{pos p1:Pos}{k n:Nat}{s:Stmt}{d1 d2:Yo}{p q:PTS}{t u:PTT}{is:Yk}{pg:PTG}{it:PTI}
def xv(i:Nat)(v:autoParam (∀j,(F j).N[i]?=some x) au_3)(h:autoParam (∀j,Vis (F j).env.scope x) au_10)(l:autoParam ((x==("__debug__" : Str))=false) au_1)(o:autoParam ((x==("__classdict__" : Str))=false) au_1):CE F K mg E (.Name x pos) (F0 i):=.mk λ_=>⟨_,λj=>pv i (v j) (h j) l o,XF i⟩
def xi:CE F K mg E (.Constant (.int i) k pos) (pC<|.int i):=.mk λ_=>⟨_,λ_=>Kv,Kh⟩
def xb:CE F K mg E (.Constant (.bool i) k pos) (pC<|.bl i):=.mk λ_=>⟨_,λ_=>Nc,Na⟩
def xs:CE F K mg E (.Constant (.str i) k pos) (pC<|.str i):=.mk λ_=>⟨_,λ_=>Kf,Ke⟩
def xe(h:∀{j},PE (F j) e te)(k:XG K mg E te a):CE F K mg E e a:=.mk λ_=>⟨_,λ_=>h,k⟩
def xo{r}(y:∀{X},OpR X (binaryOp l) r)(w:∀{t u},XG K mg E t a->XG K mg E u b->XG K mg E (tOp r t u) c)(A:CE F K mg E e a)(B:CE F K mg E f b):CE F K mg E (.BinOp e l f pos) c:=
 .mk λh=>let ⟨_,C,v⟩:=A.h h;let ⟨_,z,o⟩:=B.h h;⟨_,λj=>Pq y (C j) (z j),w v o⟩
def xx(A:CE F K mg E e a)(B:CE F K mg E f b)(v:autoParam (Cu f) au_7):CE F K mg E (.Subscript e f pos) (p2 a b fIx):=
 .mk λh=>let ⟨_,y,o⟩:=A.h h;let ⟨_,w,l⟩:=B.h h;⟨_,λj=>jx K (y j) (w j) (h.k j) v,Pg o l⟩
def xl(w:mg "len"=none)(A:CE F K mg E e a)(y:autoParam (∀j,Gl (F j) "len") au_3)(v:autoParam (∀j,starEach [e] (F j).env=(false,eval e (F j).env)::starEach [] (F j).env) au_3)(l:autoParam (∀j,(backTo pos (starEach [] (F j).env)).any (·.1)=false) au_3) :
  CE F K mg E (.Call (.Name "len" p1) [e] [] pos) (pCB EO<|Pn a TZ):=
 .mk λh=>let ⟨_,z,o⟩:=A.h h;⟨_,λj=>ln K (by rw[h.m j];exact w) (z j) (h.k j) (y j) (v j) (l j),Bk (sz o)⟩
def xf{ps v}(C:Callee P w K mg base CX0 k x ps (XO mg v K))(H:∀j,XS m (F j).A)(A:CA F K mg E (e::es) r)(N:autoParam (∀j,(F j).prog=P/\(F j).w=w/\(F j).base=base) au_11)(J:autoParam (k<=m) au_1)(L:autoParam (∀j,Gl (F j) x) au_3)(o:autoParam ((x==("__debug__" : Str))=false) au_1)(M:autoParam (∀j,starEach (e::es) (F j).env=(false,eval e (F j).env)::starEach es (F j).env) au_3)(l:autoParam (∀j,(backTo pos (starEach es (F j).env)).any (·.1)=false) au_3) :
  CE F K mg E (.Call (.Name x p1) (e::es) [] pos) (GV v r):=
 .mk λh=>let ⟨_,Q,G⟩:=A.h h;⟨_,λj=>fz (by obtain⟨B,z,y⟩:=N j;rw[B,z,y,h.k j,h.m j];exact C) (H j) (Q j) J (L j) o (M j) (l j),P0 G⟩
def xt(A:CA F K mg E es r):CE F K mg E (.Tuple es k pos) (L3 r):=.mk λh=>let ⟨_,o,l⟩:=A.h h;⟨_,λj=>NI (o j),NY l⟩
def xL(A:CA F K mg E es r):CE F K mg E (.List es pos) (IX r):=.mk λh=>let ⟨_,o,l⟩:=A.h h;⟨_,λj=>T4 (o j),TN l⟩
def a0:CA F K mg E [] TZ:=.mk λ_=>⟨_,λ_=>KM,Kw⟩
def ac(A:CE F K mg E e a)(B:CA F K mg E es r)(y:autoParam (∀j,starEach (e::es) (F j).env=(false,eval e (F j).env)::starEach es (F j).env) au_3):CA F K mg E (e::es) (Pn a r):=
 .mk λh=>let ⟨_,w,o⟩:=A.h h;let ⟨_,v,l⟩:=B.h h;⟨_,λj=>KB (w j) (v j) (y j),Nr o l⟩
def a1(A:CE F K mg E e a)(h:autoParam (∀j,starEach [e] (F j).env=(false,eval e (F j).env)::starEach [] (F j).env) au_3):CA F K mg E [e] (Pn a TZ):=ac A a0 h
def a2(A:CE F K mg E e a)(B:CE F K mg E f b)(l:autoParam (∀j,starEach [e,f] (F j).env=(false,eval e (F j).env)::starEach [f] (F j).env) au_3)(h:autoParam (∀j,starEach [f] (F j).env=(false,eval f (F j).env)::starEach [] (F j).env) au_3):CA F K mg E [e,f] (Pn a<|Pn b TZ):=ac A (a1 B h) l
def a3(A:CE F K mg E e a)(B:CE F K mg E f b)(C:CE F K mg E g c)(o:autoParam (∀j,starEach [e,f,g] (F j).env=(false,eval e (F j).env)::starEach [f,g] (F j).env) au_3)(l:autoParam (∀j,starEach [f,g] (F j).env=(false,eval f (F j).env)::starEach [g] (F j).env) au_3)(h:autoParam (∀j,starEach [g] (F j).env=(false,eval g (F j).env)::starEach [] (F j).env) au_3):CA F K mg E [e,f,g] (Pn a<|Pn b<|Pn c TZ):=ac A (a2 B C l h) o
def te(h:∀{j},PT (F j) e tt)(k:KD K mg E tt t):CT F K mg E e t:=.mk λ_=>⟨_,λ_=>h,k⟩
def tc{r}(y:∀{X},OpR X (compareOp l) r)(w:∀{t u},XG K mg E t a->XG K mg E u b->XG K mg E (tOp r t u) c)(A:CE F K mg E e a)(B:CE F K mg E f b)(z:behindInMarks l f=false:=by exact Po _):CT F K mg E (.Compare e [l] [f] pos) (Sn c):=
 .mk λh=>let ⟨_,G,v⟩:=A.h h;let ⟨_,C,o⟩:=B.h h;⟨_,λj=>Nj y (G j) (C j) z,Tj (w v o)⟩
def tq(v:∀j,XS n (F j).A)(A:CE F K mg E e a)(B:CE F K mg E f b):CT F K mg E (.Compare e [.Eq] [f] pos) (Sn<|p2 a b<|SW false):=
 .mk λh=>let ⟨_,y,o⟩:=A.h h;let ⟨_,w,l⟩:=B.h h;⟨_,λj=>cq K (v j) (y j) (w j) (h.k j),Tj (Nu o l)⟩
def tn(v:∀j,XS n (F j).A)(A:CE F K mg E e a)(B:CE F K mg E f b):CT F K mg E (.Compare e [.NotEq] [f] pos) (Sn<|p2 a b<|SW true):=
 .mk λh=>let ⟨_,y,o⟩:=A.h h;let ⟨_,w,l⟩:=B.h h;⟨_,λj=>cn K (v j) (y j) (w j) (h.k j),Tj (Cd o l)⟩
def ti(v:∀j,XS n (F j).A)(A:CE F K mg E e a)(B:CE F K mg E f b)(w:autoParam (behindInMarks .In f=false) au_12):CT F K mg E (.Compare e [.In] [f] pos) (Sn<|p2 a b<|fIn false):=
 .mk λh=>let ⟨_,z,o⟩:=A.h h;let ⟨_,y,l⟩:=B.h h;⟨_,λj=>Nj (A5 (KN<|v j)<|h.k j) (z j) (y j) w,Tj (F6 o l)⟩
def tI(v:∀j,XS n (F j).A)(A:CE F K mg E e a)(B:CE F K mg E f b)(w:autoParam (behindInMarks .NotIn f=false) au_12):CT F K mg E (.Compare e [.NotIn] [f] pos) (Sn<|p2 a b<|fIn true):=
 .mk λh=>let ⟨_,z,o⟩:=A.h h;let ⟨_,y,l⟩:=B.h h;⟨_,λj=>Nj (Znu (KN<|v j)<|h.k j) (z j) (y j) w,Tj (F6 o l)⟩
def tt(A:CE F K mg E e a)(o:autoParam (∀j whole,isTrue e (F j).env whole=(do let v ←whole;standAt e.pos;holding [v] (truthy v))) au_7):CT F K mg E e (Ik a):=.mk λh=>let ⟨_,w,l⟩:=A.h h;⟨_,λj=>Nw (w j) (h.k j) (o j),Zar l⟩
def tN(A:CT F K mg E e t):CT F K mg E (.UnaryOp .Not e pos) (GI t):=.mk λh=>let ⟨_,o,l⟩:=A.h h;⟨_,λj=>N6 (o j),Ow l⟩
def tp(A:CW F K mg E e t):CT F K mg E e t:=.mk λh=>let ⟨_,o,l⟩:=A.h h;⟨_,λj=>(o j).pt,l⟩
def wa(A:CT F K mg E e t)(B:CW F K mg E (.BoolOp .And (f::es) pos) u):CW F K mg E (.BoolOp .And (e::f::es) pos) (Ru t u):=.mk λh=>let ⟨_,w,o⟩:=A.h h;let ⟨_,v,l⟩:=B.h h;⟨_,λj=>Zm2 (w j) (v j),Zm4 o l⟩
def wo(A:CT F K mg E e t)(B:CW F K mg E (.BoolOp .Or (f::es) pos) u):CW F K mg E (.BoolOp .Or (e::f::es) pos) (pOr t u):=.mk λh=>let ⟨_,w,o⟩:=A.h h;let ⟨_,v,l⟩:=B.h h;⟨_,λj=>Cn (w j) (v j),Zh5 o l⟩
def wA(A:CT F K mg E e t):CW F K mg E (.BoolOp .And [e] pos) t:=.mk λh=>let ⟨_,o,l⟩:=A.h h;⟨_,λj=>Zp0 (o j),l⟩
def wO(A:CT F K mg E e t):CW F K mg E (.BoolOp .Or [e] pos) t:=.mk λh=>let ⟨_,o,l⟩:=A.h h;⟨_,λj=>AG (o j),l⟩
def se(h:∀{j},PS (F j) s ts)(k:XW K mg E ts p):CS F K mg E s p:=.mk λ_=>⟨_,λ_=>h,k⟩
def sS(i:Nat)(y:∀j,(F j).N.Nodup)(A:CE F K mg E e a)(v:autoParam (∀j,(F j).N[i]?=some x) au_3)(hx:autoParam (∀j,Loc (F j).env.scope x) au_13)(o:autoParam (∀j,swapsWith e (some<|.Name x p1) pos.line (F j).env=pure false) au_3)(w:autoParam (∀j,(F j).fn x=true\/(F j).env.scope.names.lookup x=some .local) au_14):CS F K mg E (.Assign [.Name x p1] e pos) (Du a<|SY i):=
 .mk λh=>let ⟨_,z,l⟩:=A.h h;⟨_,λj=>pz i (y j) (z j) (v j) (hx j) (o j) (w j),Sr l (Kr i)⟩
def sR(A:CE F K mg E e a):CS F K mg E (.Return (some e) pos) (Rw a):=.mk λh=>let ⟨_,o,l⟩:=A.h h;⟨_,λj=>Kg (o j),FU l⟩
def sF(i:Nat)(A:CS F K mg E s p):CS F K mg E s (M3 i p):=.mk λh=>let ⟨_,o,l⟩:=A.h h;⟨_,o,AN i l⟩
def sI(A:CT F K mg E e t)(B:CB F K mg E d1 p)(C:CB F K mg E d2 q):CS F K mg E (.If e d1 d2 pos) (GD t p q):=.mk λh=>let ⟨_,z,v⟩:=A.h h;let ⟨_,y,o⟩:=B.h h;let ⟨_,w,l⟩:=C.h h;⟨_,λj=>Sh (z j) (y j) (w j),Zmc v o l⟩
def sE(A:CE F K mg E e a)(o:autoParam (∀j,swapsWith e none pos.line (F j).env=pure false) au_3):CS F K mg E (.Expr e pos) (Zaz a):=.mk λh=>let ⟨_,v,l⟩:=A.h h;⟨_,λj=>Nv (v j) (o j),Re l⟩
def sO(l:Yk)(C:∀{j},PassesOwn (model (F j).prog (F j).w) (F j).A (F j).env (F j).xe)(I:CI F K mg E f e it)(G:CG F K mg f is pg)(B:CB F K mg E d1 p)(H:autoParam (∀j,(F j).calm=true) au_3)(z:autoParam (∀j x,foldedSetIterable e (F j).env x=pure x) au_7) :
  CS F K mg E (.For f e d1 [] pos) (L8 l it pg p):=
 .mk λh=>let ⟨_,M,y⟩:=I.h h;let ⟨_,L,v⟩:=G.h h;let ⟨_,J,o⟩:=B.h h;⟨_,λj=>Zil C (H j) (M j) (L j) (J j) (z j),Zo1 l y v o⟩
def sW(l:Yk)(y:∀{j},PassesOwn (model (F j).prog (F j).w) (F j).A (F j).env (F j).xe)(A:CT F K mg E e t)(B:CB F K mg E d1 p):CS F K mg E (.While e d1 [] pos) (GK l t p):=
 .mk λh=>let ⟨_,C,v⟩:=A.h h;let ⟨_,z,o⟩:=B.h h;⟨_,λj=>Zb1 y (C j) (z j),Zhh l v o⟩
def b0:CB F K mg E [] Ho:=.mk λ_=>⟨_,λ_=>Si,NP⟩
def b1(A:CS F K mg E s p):CB F K mg E [s] p:=.mk λh=>let ⟨_,o,l⟩:=A.h h;⟨_,λj=>Kx (o j),l⟩
def bc(A:CS F K mg E s p)(B:CB F K mg E d1 q):CB F K mg E (s::d1) (MJ p q):=.mk λh=>let ⟨_,w,o⟩:=A.h h;let ⟨_,v,l⟩:=B.h h;⟨_,λj=>LR (w j) (v j),GT o l⟩
def bj(A:CS F K mg E s p)(B:CB F K mg E d1 q):CB F K mg E (s::d1) (R5 p q):=.mk λh=>let ⟨_,w,o⟩:=A.h h;let ⟨_,v,l⟩:=B.h h;⟨_,λj=>Zin (w j) (v j),Zk7 o l⟩
def ie(h:∀{j},PI (F j) f e l)(k:SndI K mg E l it):CI F K mg E f e it:=.mk λ_=>⟨_,λ_=>h,k⟩
def iL(A:CE F K mg E e a):CI F K mg E f e (pIL a):=.mk λh=>let ⟨_,o,l⟩:=A.h h;⟨_,λj=>TL (o j) (h.k j),Zd6 l⟩
def ir(v:mg "range"=none)(A:CA F K mg E [e] r)(w:autoParam (∀j,Gl (F j) "range") au_3)(o:autoParam (∀j,starEach [e] (F j).env=[(false,eval e (F j).env)]) au_3):CI F K mg E f (.Call (.Name "range" p1) [e] [] pos) (Mn r):=
 .mk λh=>let ⟨_,y,l⟩:=A.h h;⟨_,λj=>IV (w j) (by rw[h.m j];exact v) (y j) (o j),O8 l⟩
def iR(w:mg "range"=none)(A:CA F K mg E [e,g] r)(y:autoParam (∀j,Gl (F j) "range") au_3)(v:autoParam (∀j,starEach [e,g] (F j).env=[(false,eval e (F j).env),(false,eval g (F j).env)]) au_3)(l:autoParam (∀j,starEach [g] (F j).env=[(false,eval g (F j).env)]) au_3):CI F K mg E f (.Call (.Name "range" p1) [e,g] [] pos) (G1 r):=
 .mk λh=>let ⟨_,z,o⟩:=A.h h;⟨_,λj=>Zql (y j) (by rw[h.m j];exact w) (z j) (v j) (l j),Zbo o⟩
def je(h:∀{j},PI (F j) f e l)(k:Fl K mg E l it):CJ F K mg E f e it:=.mk λ_=>⟨_,λ_=>h,k⟩
def jL(A:CE F K mg E e a):CJ F K mg E f e (Hd a):=.mk λh=>let ⟨_,o,l⟩:=A.h h;⟨_,λj=>TL (o j) (h.k j),Nh l⟩
def jI(I:CI F K mg E f e it):CJ F K mg E f e it:=.mk λh=>let ⟨_,o,l⟩:=I.h h;⟨_,o,l.c⟩
def gN(i:Nat)(o:autoParam (∀j,decide (F j).N.Nodup=true) au_15)(h:autoParam (∀j,(F j).N[i]?=some x) au_3)(hx:autoParam (∀j,Loc (F j).env.scope x) au_13)(l:autoParam (∀j,(F j).fn x=true\/(F j).env.scope.names.lookup x=some .local) au_14):CG F K mg (.Name x pos) [i] (SY i):=.mk λ_=>⟨_,λj=>gk i (o j) (h j) (hx j) (l j),Kr i⟩
def gT(n:Nat){pr}(G:CGs F K mg es is pr)(w:autoParam (∀j,(F j).calm=true) au_3)(v:autoParam (∀j,(assignEach es (F j).env).length=n) au_3)(l:autoParam (∀j,(assignEach es (F j).env).findIdx? (·.1)=none) au_3):CG F K mg (.Tuple es k pos) is (Ge n pr):=
 .mk λh=>let ⟨_,y,o⟩:=G.h h;⟨_,λj=>Aa (w j) (y j) (h.k j) (v j) (l j),A6 o⟩
def g0:CGs F K mg [] [] Zal:=.mk λ_=>⟨_,λ_=>Fz,CM⟩
def gc(G:CG F K mg e is pg)(B:CGs F K mg es w l)(y:autoParam (∀j,(assignEach (e::es) (F j).env).map (·.2)=assign e (F j).env::(assignEach es (F j).env).map (·.2)) au_3):CGs F K mg (e::es) (is++w) (Gs pg l):=
 .mk λh=>let ⟨_,A,v⟩:=G.h h;let ⟨_,z,o⟩:=B.h h;⟨_,λj=>Sm (A j) (z j) (y j),Fc v o⟩
def f0:CF F K mg E [] ED:=.mk λ_=>⟨_,λ_=>PQ,Th⟩
def f1(A:CT F K mg E e t):CF F K mg E [e] t:=.mk λh=>let ⟨_,o,l⟩:=A.h h;⟨_,λj=>FQ (o j),l⟩
noncomputable abbrev Blk(F:ι->Cx)(N':Ym)(h:Scope):ι×Ys×Addr×Shared×Hp×List Addr->Cx:=λj=>K9 (F j.1) N' h j.2.1 j.2.2.1 j.2.2.2.1 j.2.2.2.2.1 j.2.2.2.2.2
def xC(N':Ym)(φ:Yj)(I:CJ F K mg E f e it)(G:CG (Blk F N' v) K mg f is pg)(T:CF (Blk F N' v) K mg E es t)(A:CE (Blk F N' v) K mg E g a)(hc:autoParam (∀j,(F j).calm=true) au_3)(S:autoParam (∀j,BF v (F j).env.scope (F j).N N' φ=true) au_3)(hs:autoParam (∀j x,foldedSetIterable e (F j).env x=pure x) au_7)(h1:autoParam ((φ.filterMap id).Nodup) au_1)(h2:autoParam (∀j∈is,φ[j]?=some none) au_1) :
  CE F K mg E (.ListComp g [⟨f,e,es,0⟩] v pos) (CK φ it pg t a):=.mk λh=>by
 have w:Fit (Blk F N' v) K mg:=⟨λj=>h.k j.1,λj=>h.m j.1⟩;obtain⟨_,Y,L⟩:=I.h h;obtain⟨_,U,J⟩:=G.h w;obtain⟨_,Q,H⟩:=T.h w;obtain⟨_,M,B⟩:=A.h w;exact⟨_,λj=>Dt (hc j) (.of<|S j) (Y j) (λz C l o y=>⟨U (j,z,C,l,o,y),Q (j,z,C,l,o,y),M (j,z,C,l,o,y)⟩) (hs j),Pj L J H B h1 h2⟩
def sr(A:CE F K mg E e a):CS F K mg E (.Return (some e) pos) (G3 a):=.mk λh=>let ⟨_,o,l⟩:=A.h h;⟨_,λj=>Kg (o j),Zkt l⟩
def sV(i:Nat)(v:autoParam (∀j,(F j).N[i]?=some x) au_3)(h:autoParam (∀j,Vis (F j).env.scope x) au_10)(l:autoParam ((x==("__debug__" : Str))=false) au_1)(o:autoParam ((x==("__classdict__" : Str))=false) au_1):CS F K mg E (.Return (some<|.Name x p1) pos) (EL i):=.mk λ_=>⟨_,λj=>Kg (pv i (v j) (h j) l o),Zpc i⟩
def sA(i:Nat)(A:CE F K mg E e a)(H:autoParam (∀j,(F j).N[i]?=some x) au_3)(B:autoParam (∀j,Vis (F j).env.scope x) au_10)(C:autoParam ((x==("__debug__" : Str))=false) au_1)(G:autoParam ((x==("__classdict__" : Str))=false) au_1){apos cpos}(v:autoParam (∀j,attributeBase (.Name x p1) "append" (F j).env (eval (.Name x p1) (F j).env)=eval (.Name x p1) (F j).env) au_3)(w:autoParam (∀j,((backTo cpos (starEach [e] (F j).env)).all (λx=>!x.1)&&(backToKw cpos (keywordEach [] (F j).env)).all (λx=>x.1.isSome)&&decide ([e].length+([]:List Keyword).length+(if ([]:List Keyword).isEmpty then 0 else 1)<30))=true) au_3)(o:autoParam ((apos.endLine==cpos.line)=true) au_0)(y:autoParam (∀j,starEach [e] (F j).env=(false,eval e (F j).env)::starEach [] (F j).env) au_3)(l:autoParam (∀j,(backTo cpos (starEach [] (F j).env)).any (·.1)=false) au_3)(hw:autoParam (∀j,swapsWith (.Call (.Attribute (.Name x p1) "append" apos) [e] [] cpos) none pos.line (F j).env=pure false) au_3):CS F K mg E (.Expr (.Call (.Attribute (.Name x p1) "append" apos) [e] [] cpos) pos) (Di i a):=
 .mk λh=>let ⟨_,J,z⟩:=A.h h;⟨_,λj=>Nv (PL Qt V3 V4 By (pv i (H j) (B j) C G) (KB (J j) KM<|y j) (h.k j) (v j) (w j) o (y j)<|l j) (hw j),Zoe i z⟩
def sU(i:Nat){l o}(B:∀j,(F j).N.Nodup)(w:∀{X},PIp X l (ipI o))(A:CE F K mg E e a)(y:autoParam (∀j,(F j).N[i]?=some x) au_3)(hx:autoParam (∀j,Loc (F j).env.scope x) au_13)(z:autoParam (∀j,(F j).fn x=true\/(F j).env.scope.names.lookup x=some .local) au_14):CS F K mg E (.AugAssign (.Name x p1) l e pos) (A3 i o a):=
 .mk λh=>let ⟨_,C,v⟩:=A.h h;⟨_,λj=>Zgd (B j) (y j) (hx j) (C j) w (z j),Zm1 v⟩
def sC(i:Nat)(N':Ym)(φ:Yj){y py spos}(hN:∀j,(F j).N.Nodup)(I:CJ F K mg E f e it)(G:CG (Blk F N' v) K mg f is pg)(T:CF (Blk F N' v) K mg E es t)(A:CE (Blk F N' v) K mg E g a)(hy:autoParam (∀j,(F j).N[i]?=some y) au_3)(hl:autoParam (∀j,(F j).env.scope.names.lookup y=some .local) au_3)(hc:autoParam (∀j,(F j).calm=true) au_3)(S:autoParam (∀j,BF v (F j).env.scope (F j).N N' φ=true) au_3)(hs:autoParam (∀j x,foldedSetIterable e (F j).env x=pure x) au_7)(h1:autoParam ((φ.filterMap id).Nodup) au_1)(h2:autoParam (∀j∈is,φ[j]?=some none) au_1)(hw:autoParam (∀j,swapsWith (.ListComp g [⟨f,e,es,0⟩] v pos) (some<|.Name y py) spos.line (F j).env=pure true) au_3) :
  CS F K mg E (.Assign [.Name y py] (.ListComp g [⟨f,e,es,0⟩] v pos) spos) (Du (CK φ it pg t a)<|SY i):=.mk λh=>by
 have w:Fit (Blk F N' v) K mg:=⟨λj=>h.k j.1,λj=>h.m j.1⟩;obtain⟨_,i1,M⟩:=I.h h;obtain⟨_,Y,L⟩:=G.h w;obtain⟨_,U,J⟩:=T.h w;obtain⟨_,Q,H⟩:=A.h w;exact⟨_,λj=>Zfp (hN j) (hy j) (hl j) (hc j) (.of<|S j) (i1 j) (λB C l o z=>⟨Y (j,B,C,l,o,z),U (j,B,C,l,o,z),Q (j,B,C,l,o,z)⟩) (hs j) (hw j),Sr (Pj M L J H h1 h2) (Kr i)⟩
def sX(i:Nat)(B:CE F K mg E f b)(A:CE F K mg E e a)(Q:autoParam (∀j,(F j).N[i]?=some x) au_3)(G:autoParam (∀j,Vis (F j).env.scope x) au_10)(J:autoParam ((x==("__debug__" : Str))=false) au_1)(L:autoParam ((x==("__classdict__" : Str))=false) au_1){q1}(M:autoParam (∀j v,assign (.Subscript (.Name x p1) f q1) (F j).env v=(do
   let l ←holding [v] (eval (.Name x p1) (F j).env)
   let o ←holding [v,l] (eval f (F j).env)
   standAt q1
   holding [v,l,o] (setItem l o v)
   release [v,l,o] [])) au_7)(H:autoParam (∀j,swapsWithSole [.Subscript (.Name x p1) f q1] e pos.line (F j).env=pure false) au_3)(hw:autoParam (∀j,swappedStores [.Subscript (.Name x p1) f q1] e (F j).env=pure none) au_3)(T:autoParam (∀j,(assignEach [.Subscript (.Name x p1) f q1] (F j).env).map (·.2)=[assign (.Subscript (.Name x p1) f q1) (F j).env]) au_3):CS F K mg E (.Assign [.Subscript (.Name x p1) f q1] e pos) (DF i b a):=
 .mk λh=>let ⟨_,C,y⟩:=B.h h;let ⟨_,z,w⟩:=A.h h;⟨_,λj=>Zdn (z j) (Zcc (pv i (Q j) (G j) J L) (C j) Zq2<|M j) (H j) (hw j) (T j),Zee i y w⟩
structure CO {ι:Type} (F:ι->Cx) (K:Yd) (mg:Yh) (E:L2.St->XK) (o:Option Expr) (p:PTO):Prop where
 h:Fit F K mg->∃t,(∀j,PO (F j) o t)/\Bx K mg E t p
def o0:CO F K mg E none RQ:=.mk λ_=>⟨_,λ_=>D4,E6⟩
def o1(A:CE F K mg E e a):CO F K mg E (some e) (LU a):=.mk λh=>let ⟨_,o,l⟩:=A.h h;⟨_,λj=>Dg (o j),Gh l⟩
def xp{lo o l u v}(A:CE F K mg E e a)(L:CO F K mg E lo l)(U:CO F K mg E o u):CE F K mg E (.Subscript e (.Slice lo o none v) pos) (pSl a l u):=
 .mk λh=>let ⟨_,G,z⟩:=A.h h;let ⟨_,C,y⟩:=L.h h;let ⟨_,B,w⟩:=U.h h;⟨_,λj=>D8 (EB<|h.k j) (G j) (C j) (B j),AM z y w⟩
def xI(C:CT F K mg E g t)(A:CE F K mg E e a)(B:CE F K mg E f b):CE F K mg E (.IfExp g e f pos) (IJ t a b):=.mk λh=>let ⟨_,z,v⟩:=C.h h;let ⟨_,y,o⟩:=A.h h;let ⟨_,w,l⟩:=B.h h;⟨_,λj=>Zi4 (z j) (y j) (w j),Zqj v o l⟩
def xn(A:CE F K mg E e a):CE F K mg E (.UnaryOp .Not e pos) (IG a):=.mk λh=>let ⟨_,o,l⟩:=A.h h;⟨_,λj=>Ze1 (o j),Zj7 l⟩
def sQ{cpos v}(B:ExcR.KO K (ExcR.XQ mg x))(y:mg x=some (.ref<|ExcR.XQ mg x))(H:∀{j},ExcR.DM (F j) v)(A:CA F K mg (λ_=>v) (e::es) r)(G:autoParam (∀j,(F j).calm=true) au_3)(z:autoParam (∀j,Gl (F j) x) au_3)(o:autoParam ((x==("__debug__" : Str))=false) au_1)(C:autoParam (∀j,starEach (e::es) (F j).env=(false,eval e (F j).env)::starEach es (F j).env) au_3)(l:autoParam (∀j,(backTo cpos (starEach es (F j).env)).any (·.1)=false) au_3)(hx:autoParam (NG x=none) au_0) :
  CS F K mg (λ_=>v) (.Raise (some<|.Call (.Name x p1) (e::es) [] cpos) none pos) (GN x r):=
 .mk λh=>let ⟨_,J,w⟩:=A.h h;⟨_,λj=>ExcR.Zff (by rw[h.k j];exact B.c) (by rw[h.m j];exact y) H (G j) (J j) (z j) o (C j) (l j),Zh1 w hx⟩
def xg{ps y v}(C:Callee P w K mg base (ExcR.CXe P w) k x ps (XO mg y K))(J:∀j,XS m (F j).A)(hx:∀{j},P6 (ExcR.CXe P w) (F j) v)(A:CA F K mg (λ_=>v) (e::es) r)(Q:autoParam (∀j,(F j).prog=P/\(F j).w=w/\(F j).base=base) au_11)(L:autoParam (k<=m) au_1)(M:autoParam (∀j,Gl (F j) x) au_3)(o:autoParam ((x==("__debug__" : Str))=false) au_1)(N:autoParam (∀j,starEach (e::es) (F j).env=(false,eval e (F j).env)::starEach es (F j).env) au_3)(l:autoParam (∀j,(backTo pos (starEach es (F j).env)).any (·.1)=false) au_3) :
  CE F K mg (λ_=>v) (.Call (.Name x p1) (e::es) [] pos) (IR y r):=
 .mk λh=>let ⟨_,T,H⟩:=A.h h;⟨_,λj=>Df (by obtain⟨G,B,z⟩:=Q j;rw[G,B,z,h.k j,h.m j];exact C) ((J j).mono L) hx (T j) (M j) o (N j) (l j),Zde H⟩
variable {pw:PTW}
end
section
variable {P:Program}{w:World}{K:Yd}{mg:Yh}{base:Heap}{N ps:Ym}{sp:Sp}{p:PTS}{x q:Str}{st:Stmt}{k:Nat}{W:Addr->Prop}
def _root_.Own.Def.fz (D:Def K mg x st ps) (S:XI N ps (XH st))
  (n:∀{f b A outer s H} {E:XK},(∀{g:Type},g->XS k (A.deeper<|envOfC x (XH st) s.heap.objs.size f b))->(Unit->N.Nodup)->
   CB (λ_:Unit=>(Ks CX0 P w K mg base N x (XH st) f b A outer s H E).nox) K mg (λ_=>E) (Km st) p) (u:Uz K mg N ps sp p):Callee P w K mg base CX0 (k+1) x ps sp:=
 D.ez S (λo=>let ⟨t,h,l⟩:=(n (λ_=>o) λ_=>S.nd).h ⟨λ_=>rfl,λ_=>rfl⟩;⟨t,h (),l⟩) u
def _root_.Own.Def.fy (D:Def K mg x st ps) (S:XI N ps (XH st))
  (n:∀{f b A outer s H} {E:XK},(∀{g:Type},g->XS k (A.deeper<|envOfC x (XH st) s.heap.objs.size f b))->(Unit->N.Nodup)->
   CB (λ_:Unit=>Ks (ExcR.CXe P w) P w K mg base N x (XH st) f b A outer s H E) K mg (λ_=>E) (Km st) p) (u:Uz K mg N ps sp p):Callee P w K mg base (ExcR.CXe P w) (k+1) x ps sp:=
 D.ey S (λo=>let ⟨t,h,l⟩:=(n (λ_=>o) λ_=>S.nd).h ⟨λ_=>rfl,λ_=>rfl⟩;⟨t,h (),l⟩) u
def Kk.fz (D:Kk K W x q st ps) (S:XI N ps (XH st))
  (n:∀{f b A outer s H} {E:XK},(∀{g:Type},g->XS k (A.deeper<|envOfC q (XH st) s.heap.objs.size f b))->(Unit->N.Nodup)->
   CB (λ_:Unit=>(Ks CX0 P w K mg base N q (XH st) f b A outer s H E).nox) K mg (λ_=>E) (Km st) p) (u:Uz K mg N ps sp p):P7 P w K mg base CX0 (k+1) W ps sp:=
 D.ez S (λo=>let ⟨t,h,l⟩:=(n (λ_=>o) λ_=>S.nd).h ⟨λ_=>rfl,λ_=>rfl⟩;⟨t,h (),l⟩) u
def Kk.fy (D:Kk K W x q st ps) (S:XI N ps (XH st))
  (n:∀{f b A outer s H} {E:XK},(∀{g:Type},g->XS k (A.deeper<|envOfC q (XH st) s.heap.objs.size f b))->(Unit->N.Nodup)->
   CB (λ_:Unit=>Ks (ExcR.CXe P w) P w K mg base N q (XH st) f b A outer s H E) K mg (λ_=>E) (Km st) p) (u:Uz K mg N ps sp p):P7 P w K mg base (ExcR.CXe P w) (k+1) W ps sp:=
 D.ey S (λo=>let ⟨t,h,l⟩:=(n (λ_=>o) λ_=>S.nd).h ⟨λ_=>rfl,λ_=>rfl⟩;⟨t,h (),l⟩) u
end
mutual
noncomputable def py:D->PyData
 | .int i=>.int i
 | .bl b=>.bool b
 | .str x=>.str x
 | .tup f=>.tuple (pys f)
 | .lst f=>.list (pys f)
 | .fL g=>.list (g.map .int)
 |_=>.none
noncomputable def pys:List D->List PyData
 |[]=>[]
 |d::r=>py d::pys r
end
end Pu
namespace M
open L2 Own Pu
def Af{ps:Ye}(b:Field ps)(j:Nat):0<=(ps.getD j (0,0)).2/\(ps.getD j (0,0)).2<=1000:=by
 rw[WE];by_cases h:j<ps.length
 ·rw[WA h]
  have:=b _ (WU h)
  show 0<=ps[j].2/\ps[j].2<=1000;lia
 ·rw[Vv (by lia)];exact⟨QG 0,by decide⟩
theorem LH{ps:Ye}(b:Field ps)(y:Int):∀n:Nat,0<=tpM ps y n/\tpM ps y n<=1000*n
 | 0=>⟨QG 0,QG 0⟩
 |n+1=>by
  have h:=LH b y n;have w:=Af b n;unfold tpM;split<;>lia
theorem Hg{ps:Ye}(b:Field ps)(f:ps.length<=40)(x y:Int):∀n:Nat,n<=ps.length->0<=pcM ps x y n/\pcM ps x y n<=40000000*n
 | 0,_=>⟨QG 0,QG 0⟩
 |n+1,g=>by
  have h:=Hg b f x y n (by lia);have w:=Af b n;have t:=LH b y n;unfold pcM;split
  ·have o:=Int.mul_nonneg t.1 w.1;have l:tpM ps y n*(ps.getD n (0,0)).2<=40000*1000:=JU (by lia) w.2 w.1 (by decide);lia
  ·lia
theorem Lx{c:Int->Int->Int}(f:∀x y,0<=c x y/\c x y<=1600000000):∀o:Yf,o.length<=10->0<=oc c o/\oc c o<=16000000000*o.length
 |[],_=>⟨QG 0,QG 0⟩
 |a::r,g=>by
  rw[Qn]at g;have h:=Lx f r (by lia)
  have s:∀l:Yf,0<=(l.map<|c a).sum/\(l.map<|c a).sum<=1600000000*l.length:=λl=>by
   induction l with
   |nil=>exact⟨QG 0,QG 0⟩
   |cons b l n=>
    have:=f a b
    rw[Qe,List.sum_cons,Qn];lia
  have s:=s r;unfold oc;rw[Qn];lia
def Zq0{ps:Ye}{f:Int->Int}{ns:Yf}{n:List Mo}(u:Field ps)(y:ps.length<=40)(h:Mv ps f ns n)(o:ns.Perm (Ka 1 ps.length)):∀m∈n,(0<=m.1/\m.1<=40)/\(0<=m.2.1/\m.2.1<=40)/\(0<=m.2.2.1/\m.2.2.1<=40)/\(0<=m.2.2.2/\m.2.2.2<=1000000):=by
 induction h with
 |done=>intro m r;cases r
 |step ns p n hw x r v=>
  obtain⟨w,q,_⟩:=hw.2.resolve_left x;rw[W9]at q;have z:ns.length=ps.length:=by rw[o.length_eq,Nf]
  have g:∀i,i<ns.length->0<=ns.getD i 0/\ns.getD i 0<=40:=λi s=>by
   rw[WE,WA s]
   have:=run_mem.mp (o.mem_iff.mp<|WU s)
   show 0<=ns[i]/\ns[i]<=40;lia
  intro m l;rcases WL.mp l with rfl|l
  ·refine⟨by dsimp only;lia,g _ (by lia),g _ q,?_⟩;have a:=Af u (ns.getD (p-1) 0-1).toNat;have b:=Af u (ns.getD p 0-1).toNat;exact⟨Int.mul_nonneg a.1 b.1,Int.le_trans (JU a.2 b.2 b.1<|by decide) (by decide)⟩
  ·exact v ((Aj w q).trans o) m l
def Ll{ps:Ye}{f:Int->Int}{b:List Mo}(o:ps.length<=40)(h:Mv ps f (Ka 1 ps.length) b):b.length<=1600:=by
 have n:=h.len;have g:=(SS f<|Ka 1 ps.length).2;rw[Nf]at g;have l:(ps.length:Int)*(ps.length:Int)<=40*40:=JU (by lia) (by lia) (by lia) (by lia);lia
end M
namespace Pu
open L2 Own
section
variable {K:Yd}{mg:Yh}{E:L2.St->XK}{H0 H H1 H':Hp}{B Z Z':Addr->Prop}{σ:L2.St}{γ:Γ}
abbrev PTL:=Γ->(List (List D)->Prop)->(Str->Prop)->Prop
noncomputable def pLc(a:PTE)(r:PTL):PTL:=λγ R X=>a γ (λs=>match s with
 | .own (.lst f)=>KI f=true/\r γ (λb=>R (f::b)) X
 |_=>False) X
def Zba(K:Yd)(mg:Yh)(E:L2.St->XK)(g:Bool)(t:TA)(r:PTL):Prop:=∀(H0:Hp) (B:Addr->Prop) (H:Hp) (σ:L2.St) (γ:Γ) (R:List (List D)->Prop) (X:Str->Prop) (Q:List V->Hp->Prop),XN K H0 B H σ γ->r γ R X->
 (∀(b:List (Addr×List D)) (H':Hp),R (b.map (·.2))->Same H H'->(∀c∈b,(H c.1=none\/g=false/\ID γ σ c.1)/\KI c.2=true/\∃f,H' c.1=some (.lst f)/\Rps K H' c.2 f)->(b.map (·.1)).Nodup->Q (b.map λc=>V.ref c.1) H')->
 (∀c H',X c->Same H H'->XE mg (E σ) c H')->t σ H Q
def sl_cons{y:Bool}{te:TE}{a:PTE}{p:TA}{r:PTL}(Y:XG K mg E te a)(U:Zba K mg E y p r):Zba K mg E y (Kq te p) (pLc a r):=by
 intro H0 B H σ γ R X Q f h q u;refine Y H0 B H σ γ _ X _ f h (λs v H1 l n M=>?_) u;have g:=f.grow n;split at l
 ·rename_i ds;obtain⟨a,rfl,a0,L,a1,a2⟩:=M;refine U H0 B H1 σ γ _ X _ g l.2 (λcs H2 T o x N=>?_) λc H' b S'=>u c H' b (n.trans S');refine q ((a,ds)::cs) H2 T (n.trans o) (λc b=>?_) ?_
  ·rcases WL.mp b with rfl|b
   ·exact⟨.inl (a0 a rfl),l.1,L,o _ _ a1,Rps.mono (off_sub.trans o) a2⟩
   ·obtain⟨J,G,C⟩:=x c b;exact⟨J.imp (λz=>n.free z) id,G,C⟩
  ·refine Q1.mpr ⟨λz=>?_,N⟩;obtain⟨c,b,A⟩:=WO.mp z;rcases(x c b).1 with w|⟨_,w⟩
   ·rw[show c.1=a from A,a1]at w
    cases w
   ·rw[show c.1=a from A]at w
    have:=f.zm a (.inr w)
    rw[a0 a rfl]at this;exact this
 ·exact l.elim
end
end Pu
namespace Own
open L2
theorem Za5:∀{ts:Ym}{b:Yl},Vals (ts.map V.str) b->∃l:List (Str×Tok),b=strValues l/\l.map (·.1)=ts
 |[],_,.nil=>⟨[],rfl,rfl⟩
 |t::r,_,.cons h k=>by
  obtain⟨f,rfl⟩:=h;obtain⟨l,rfl,e⟩:=Za5 k;exact⟨(t,f)::l,rfl,by rw[Qe,e]⟩
theorem Mj:∀l:List (Str×Tok),Vals ((l.map (·.1)).map V.str) (strValues l)
 |[]=>.nil
 |_::r=>.cons ⟨_,rfl⟩ (Mj r)
section
variable {X:Cx}{K:Yd}
def Oz(L:X.calm=true)(T:autoParam (X.K=K) au_0):K8 X (.builtin "all") (λxs H Q=>∃(p:Addr) (bs:List Bool),xs=[.ref p]/\SqL K H p (bs.map V.bl)/\Q (.bl<|bs.all id) H):=by
 subst T;intro pins s U H xs Y Q I C h;obtain⟨p,bs,rfl,M,q⟩:=h;obtain⟨u,rfl,E⟩:=C.one;obtain rfl:u=Value.ref p:=E;obtain⟨f,r,G,_⟩:=I.list M;have x:=Cs r;have o:=G.isList;have n:p<s.heap.objs.size:=by obtain⟨_,e,_⟩:=o;exact WM e
 refine call_all_walk (VB o ?_)
 refine⟨s.heap.objs.size,[s.heap.objs.size,p],[s.heap.objs.size],f.toArray.size,_,_,λi=>(bs[i]?).getD true,rfl,Walks.list (A:=X.A.in1) (I.ok.hd L) _ p (Qg n) f.toArray,
  ⟨⟨_,WN _ rfl,rfl,rfl⟩,o.push _⟩,λi v s' Q' E' N y=>?_,λh' B J=>?_⟩
 ·obtain⟨b,e,rfl⟩:=x.get i v (by simpa using N);simp only[e,Option.getD_some]at y;exact Vg y
 ·have e:((List.range f.toArray.size).all λi=>(bs[i]?).getD true)=bs.all id:=by
   rw[Qo,x.length];rw[V7,Q2,Q2];refine⟨λz b w=>?_,λz i l=>?_⟩
   ·obtain⟨i,l,rfl⟩:=JQ w
    have:=z i (Vl.mpr l)
    rw[WA l]at this;exact this
   ·have g:=Vl.mp l;rw[WA g];exact z _ (WU g)
  rw[e];exact⟨.bl (bs.all id),H,I.kept (t':=B) (LSm.kept_iter J),rfl,q⟩
def IF:V->List V->Hp->VK->Prop:=λx b H Q=>∃t y:Str,x=.str t/\b=[.str y]/\(y.length==0)=false/\t.length+2<=sizeLine/\∀p,H p=none->Q (.ref p) (upd H p<|.lst ((Txt.split t y).map V.str))
def Zqz(t y:Str):(Txt.split t y).length<=t.length+2:=by
 unfold Txt.split;split
 ·exact J7 (QL _)
 ·split
  ·exact J7 (QL _)
  ·rw[JR];exact J7 (StrLaws.occ_length_le _ _ _ _ _)
def Ir:MtM X "str.split" IF:=by
 intro pins s A H x G v J Q I B C h;obtain⟨t,y,rfl,rfl,z,w,q⟩:=h;obtain⟨p,rfl⟩:=B;obtain⟨u,rfl,E⟩:=C.one;obtain⟨f,rfl⟩:=E
 have g:∀(l:List (Str×Tok)) (k:Nat),l.map (·.1)=Txt.split t y->EP X pins A Q (.ref s.heap.objs.size) {s with toks:=k,heap:=s.heap.push {cls:=.type "list",data:=.seq (strValues l).toArray}}:=λl k e=>by
  have n:=I.hok.fresh (WG _);refine⟨.ref s.heap.objs.size,upd H s.heap.objs.size (.lst ((Txt.split t y).map V.str)),I.laid (t':=k) (λb u e=>WB _ e) (WG _) ⟨?_,strValues l,0,?_,WN _ rfl⟩,rfl,q _ n⟩
  ·rw[W9];exact WQ (Zqz t y) w
  ·rw[←e];exact Mj l
 have r:t.length<=sizeLine:=by lia
 cases o:(decide (t.length<y.length) || decide (Builtin.Str.strKind t<Builtin.Str.strKind y))
 ·cases n:(Builtin.Str.occurrences t y 0 t.length (t.length+1)).isEmpty
  ·refine VQ F.slot_str_split (typeIs_str _ _ _) F.entry_str_split (F.args_str_split_2 _ _) (meets_str_split_sep t y p f o z n r<|by rw[JR];exact WQ (J7<|StrLaws.occ_length_le _ _ _ _ _) w) ?_;show wants _ _ _ {s with toks:=_,heap:=s.heap.push {cls:=.type "list",data:=.seq (strsFrom s.toks<|Builtin.Str.partsBetween t (Builtin.Str.occurrences t y 0 t.length (t.length+1)) y.length).toArray}}
   rw[strsFrom_eq];exact g (numbered s.toks _) _ ((numbered_texts _ _).trans ((WI<|JS o).trans (WI<|JS n)).symm)
  ·exact VQ F.slot_str_split (typeIs_str _ _ _) F.entry_str_split (F.args_str_split_2 _ _) (meets_str_split_not_found t y p f o z n) (g [(t,p)] _ ((WI<|JS o).trans (WK n)).symm)
 ·exact VQ F.slot_str_split (typeIs_str _ _ _) F.entry_str_split (F.args_str_split_2 _ _) (meets_str_split_cannot_occur t y p f o) (g [(t,p)] _ (WK o).symm)
def rJoin(K:Yd):V->List V->Hp->VK->Prop:=λx g H Q=>∃(b:Str) (a:Addr) (f:Ym),x=.str b/\g=[.ref a]/\SqL K H a (f.map V.str)/\JoinOk b f=true/\Q (.str<|Txt.join b f) H
def An(y:autoParam (X.K=K) au_0):MtM X "str.join" (rJoin K):=by
 subst y;intro pins s z H x A v B Q I f g h;obtain⟨b,a,C,rfl,rfl,w,ok,q⟩:=h;obtain⟨E,rfl⟩:=f;obtain⟨u,rfl,n⟩:=g.one;obtain rfl:u=Value.ref a:=n;obtain⟨p,r,o,_⟩:=I.list w;obtain⟨l,rfl,e⟩:=Za5 r;exact SC.join o.isList e ok λG k=>⟨.str _,H,I.tok k,⟨_,rfl⟩,q⟩
end
def Lits(P:Params):List DictEntry->List (Str×Int)->Prop
 |[],[]=>True
 |e::r,p::q=>(∃t,e.key=.str p.1 t)/\e.hash=PyData.keyHash P p.1/\(∃t,e.val=.int p.2 t)/\Lits P r q
 |_,_=>False
def Lits.keys {P:Params}:∀{l:List DictEntry}{b:List (Str×Int)},Lits P l b->PySem.W.KeysLit P l
 |[],_,_=>trivial
 |_::_,[],h=>h.elim
 |_::_,p::_,⟨⟨t,g⟩,f,_,h⟩=>⟨⟨p.1,t,g,f⟩,h.keys⟩
def Lits.find {P:Params} (x:Str):∀{l:List DictEntry}{b:List (Str×Int)},Lits P l b->RelO ((b.lookup x).map V.int) ((l.find? λd=>Value.isStrOf x d.key).map (·.val))
 |[],[],_=>by trivial
 |[],_::_,h=>h.elim
 |_::_,[],h=>h.elim
 |e::l,p::q,⟨⟨t,n⟩,_,⟨o,g⟩,h⟩=>by
  obtain⟨k,i⟩:=p;rw[Vu,QR,n];by_cases z:x=k
  ·subst z;have f:Value.isStrOf x (.str x t)=true:=by simp[Value.isStrOf]
   simp only[beq_self_eq_true,f];show RelO (some<|V.int i) (some e.val);rw[g];exact⟨_,rfl⟩
  ·have f:Value.isStrOf x (.str k t)=false:=by simp[Value.isStrOf];exact λe=>z e.symm
   simp only[QW.mpr z,f];exact h.find x
structure FX (K:Yd) (P:Params) (mg:Yh) (x:Str) (kvs:List (Str×Int)):Prop where
 ex:∃a es n,mg x=some (.ref a)/\(a==sysModules)=false/\K.lookup a=some ⟨.type "dict",none,.dict es n,#[]⟩/\Lits P es.toList kvs
section
variable {X:Cx}{x:Str}{kvs:List (Str×Int)}{i:Expr}{ty:TE}{pos pos':Pos}
noncomputable def Hf(kvs:List (Str×Int))(ty:TE):TE:=λb H Q=>ty b H λy f=>∃z,y=.str z/\Q (.bl (kvs.lookup z).isSome) f
def E8(C:FX X.K X.w.params X.mg x kvs)(L:PE X i ty)(M:autoParam (Gl X x) au_0)(N:autoParam ((x==("__debug__" : Str))=false) au_1):PC X .In i (.Name x pos) (Hf kvs ty):=by
 intro pins s g H Q I h;obtain⟨a,o,n,Y,U,T,l⟩:=C.ex;refine thn (L pins s g H _ I h) ?_;rintro iv A ⟨y,q,I1,B,J⟩;refine thn (Fy (v:=.ref a) M Y rfl N pins A g q (λv b=>v=.ref a/\b=q) I1 ⟨rfl,rfl⟩) ?_;rintro u s2 ⟨_,b,p,E,e1,e2⟩;subst e1;subst e2;obtain rfl:u=Value.ref a:=E;obtain⟨z,rfl,G⟩:=J;obtain⟨r,rfl⟩:=B;refine wpAny_in_of (strKind_is X.prog X.w z r) U (PySem.W.mapOf_K (prog:=X.prog) p.kIn T l.keys) ?_;have f:=(l.find z).isSome_eq;rw[Jq]at f
 have e:findBy Value.isStrOf o z=(o.toList.find? λd=>Value.isStrOf z d.key).map (·.val):=by
  unfold findBy;rw[←List.find?_toArray]
 rw[e,←f];exact⟨.bl _,b,p.tok _,rfl,G⟩
noncomputable def GE(kvs:List (Str×Int))(ty:TE):TE:=λb H Q=>ty b H λy f=>∃z v,y=.str z/\kvs.lookup z=some v/\Q (.int v) f
def Il(C:FX X.K X.w.params X.mg x kvs)(M:PE X i ty)(L:DB i)(N:autoParam (Gl X x) au_0)(T:autoParam ((x==("__debug__" : Str))=false) au_1):PE X (.Subscript (.Name x pos) i pos') (GE kvs ty):=by
 intro pins s l H Q I h;obtain⟨a,es,n,Y,h2,U,p⟩:=C.ex;refine HI PySem.F.slot_dict_getitem.lookup L (thn (Fy (v:=.ref a) N Y rfl T pins s l H (λv g=>v=.ref a/\g=H) I ⟨rfl,rfl⟩) ?_);rintro u B ⟨_,H',I1,G,e1,e2⟩;subst e1;subst e2;obtain rfl:u=Value.ref a:=G;refine thn (M pins B l H' _ I1 h) ?_;rintro iv s2 ⟨y,g,q,E,z,v,e,ev,J⟩;subst e;obtain⟨A,rfl⟩:=E;have o:=PySem.W.mapOf_K (prog:=X.prog) q.kIn U p.keys;have f:=p.find z;rw[ev]at f;obtain⟨r,hw,b⟩:=RelO.some_of (v:=V.int v) f
 have e:findBy Value.isStrOf es z=some r:=by
  rw[←hw];unfold findBy;rw[←List.find?_toArray]
 exact⟨o.typeIs,wpAny_getItem_of (strKind_is X.prog X.w z A) o e ⟨.int v,g,q.tok _,b,J⟩⟩
end
end Own
namespace Pu
open L2 Own
section
variable {K:Yd}{mg:Yh}{E:L2.St->XK}
theorem Rps.of_strs {H:Hp}:∀ts:Ym,Rps K H (ts.map D.str) (ts.map V.str)
 |[]=>.nil
 |_::r=>.cons (.str _) (Rps.of_strs r)
theorem Rps.strs {H:Hp}:∀{ts:Ym}{vs:List V},Rps K H (ts.map D.str) vs->vs=ts.map V.str
 |[],_,.nil=>rfl
 |t::r,_,.cons h k=>by rw[Rps.strs k];cases h;rfl
def Ds:List S->(S->Prop)->Prop
 |[s],R=>∃bs:List Bool,s.d=.lst (bs.map D.bl)/\R (.sh<|.bl<|bs.all id)
 |_,_=>False
def La{b:TA}{r:PTA}(u:Kc K mg E b r):XG K mg E (tCB (λxs H Q=>∃(p:Addr) (bs:List Bool),xs=[.ref p]/\SqL K H p (bs.map V.bl)/\Q (.bl<|bs.all id) H) b) (pCB Ds r):=by
 refine PJ u λG H x Z A y R Q o B C l h q=>?_;unfold Ds at h;split at h
 ·obtain⟨v,rfl,n⟩:=l.one_inv;obtain⟨bs,e,w⟩:=h;have f:=n.rp o;rw[e]at f;obtain⟨a,z,rfl,g,s⟩:=f.lst_inv;rw[s.bls]at g;exact⟨a,bs,rfl,SqL.of g,q _ _ x w (Same.refl _) (.bl _)⟩
 ·exact h.elim
noncomputable def pBT(f:Str->D->(S->Prop)->Prop)(a b:PTE):PTE:=λg R X=>a g (λs=>match s.d with | .str t=>b g (λu=>f t u.d R) X|_=>False) X
def MU{G:V->List V->Hp->VK->Prop}{f:Str->D->(S->Prop)->Prop}{te C:TE}{a b:PTE}(ha:XG K mg E te a)(hb:XG K mg E C b)(Y:∀(p H l:Hp) (Z:Addr->Prop) (t:Str) (d:D) (u:V) (R:S->Prop) (Q:VK),Same H l->Rp K l d u->f t d R->(∀s v o,R s->Same l o->TV K Z p H o s v->Q v o)->G (.str t) [u] l Q):XG K mg E (tBM K "str" G te<|Kq C KH) (pBT f a b):=by
 intro p B H z A R X Q n h q L;refine ha p B H z A _ X _ n h (λs v H1 x r T=>?_) L;have g:=n.grow r;have J:=T.rp g.same;split at x
 ·rename_i t et;rw[et]at J;cases J
  refine⟨rfl,hb p B H1 z A _ X _ g x (λu w l h2 y N=>?_) λc H' hc S'=>L c H' hc (r.trans S')⟩;exact Y p H l _ t _ _ _ _ (r.trans y) (N.rp (g.grow y).same) h2 λs v o U S3 M=>q s v o U ((r.trans y).trans S3) M
 ·exact x.elim
def MM:Str->D->(S->Prop)->Prop:=λt d R=>match d with
 | .str y=>(y.length==0)=false/\t.length+2<=sizeLine/\R (.own ((Txt.split t y).map D.str))
 |_=>False
def Zat{te f:TE}{a b:PTE}(n:XG K mg E te a)(l:XG K mg E f b):XG K mg E (tBM K "str" IF te<|Kq f KH) (pBT MM a b):=by
 refine MU n l λv H s Z t d u R Q o r h q=>?_;unfold MM at h;split at h
 ·cases r
  exact⟨t,_,rfl,rfl,h.1,h.2.1,λp g=>q _ _ _ h.2.2 (Kp g) (N5 o g<|Rps.of_strs _)⟩
 ·exact h.elim
def Oa:Str->D->(S->Prop)->Prop:=λt d R=>match d with
 | .lst f=>∃b:Ym,f=b.map D.str/\JoinOk t b=true/\R (.sh<|.str<|Txt.join t b)
 |_=>False
def Ah{te f:TE}{a b:PTE}(s:XG K mg E te a)(p:XG K mg E f b):XG K mg E (tBM K "str" (rJoin K) te<|Kq f KH) (pBT Oa a b):=by
 refine MU s p λz H w Z t d u R Q y r h q=>?_;unfold Oa at h;split at h
 ·obtain⟨n,rfl,ok,v⟩:=h;obtain⟨l,x,rfl,g,o⟩:=r.lst_inv;rw[o.strs]at g;exact⟨t,l,n,rfl,rfl,SqL.of g,ok,q _ _ w v (Same.refl _) (.str _)⟩
 ·exact h.elim
noncomputable def Zc8(b:List (Str×Int))(a:PTE):PTE:=λf R X=>a f (λs=>match s.d with | .str z=>R (.sh (.bl (b.lookup z).isSome))|_=>False) X
def Ep{b:List (Str×Int)}{te:TE}{a:PTE}(w:XG K mg E te a):XG K mg E (Hf b te) (Zc8 b a):=by
 intro z B H o p R X Q f h q u;refine w z B H o p _ X _ f h (λs v y g n r=>?_) u;have l:=r.rp (f.grow n).same;split at g
 ·rename_i t x;rw[x]at l;cases l
  exact⟨t,rfl,q _ _ y g n (.bl _)⟩
 ·exact g.elim
noncomputable def Zhg(b:List (Str×Int))(a:PTE):PTE:=λf R X=>a f (λs=>match s.d with | .str z=>∃v,b.lookup z=some v/\R (.sh<|.int v)|_=>False) X
def Mc{b:List (Str×Int)}{te:TE}{a:PTE}(w:XG K mg E te a):XG K mg E (GE b te) (Zhg b a):=by
 intro A B H o p R X Q f h q u;refine w A B H o p _ X _ f h (λs v z g n r=>?_) u;have l:=r.rp (f.grow n).same;split at g
 ·rename_i t y;rw[y]at l;cases l
  obtain⟨v,e,x⟩:=g;exact⟨t,v,rfl,e,q _ _ z x n (.int _)⟩
 ·exact g.elim
end
end Pu
namespace Own
open L2
noncomputable def Its(x:Str):It:=⟨λi _=>i<x.cps.size,λi H v b=>b=H/\∃c,x.cps[i]?=some c/\v=.str ⟨#[c]⟩,λi _=>x.cps.size<=i⟩
def Zgt{P:Program}{w:World}{K:Yd}{tg:Expr}(x:Str)(t:Tok)(it:Addr):Turn P w K tg (Its x) [it] it (λi h=>h.IsStrIter it "str_ascii_iterator" x t i) where
 mem:=by simp
 obj:=λi h st b hb=>by
  have e:b=it:=by simpa using hb
  subst e;obtain⟨o,e,c,d⟩:=st;exact⟨o,e,λv z=>by rw[d]at z;cases z⟩
 keep:=λi h h' st k=>by
  obtain⟨o,e,c,d⟩:=st;exact⟨o,k it (by simp) o e,c,d⟩
 item:=by
  intro X hP hw hK hc i pins s σ H E I hf st hg;subst hP hw hK;have hx:x.cps[i]?=some (x.cps[i]'hg):=Q9 hg;obtain⟨f0,f1,f2,f3,f4,f5⟩:=hf it (by simp);refine wpAny_pyNext_ascii_item st hx λh' st' sb=>?_;have I1:Inv X pins σ H {s with heap:=h',toks:=s.toks+1}:=I.turned (t':=s.toks+1) (λb o hb e=>(sb.2 b hb).trans e) f0 f1 f3 f4 f5
  obtain⟨o,e,c,d⟩:=id st';exact⟨_,rfl,FO (s:={s with heap:=h',toks:=s.toks+1}) e c d (by decide) ⟨.str ⟨#[x.cps[i]'hg]⟩,H,I1,⟨_,rfl⟩,⟨rfl,_,hx,rfl⟩,st',λb hb=>(hf b hb).1⟩⟩
 done:=by
  intro X hP hw hK hc i pins s σ H E I hf st hg;subst hP hw hK;obtain⟨f0,f1,f2,f3,f4,f5⟩:=hf it (by simp);have hx:x.cps[i]?=none:=VA hg;exact wpAny_pyNext_ascii_end (I.ok.hd hc) st hx λh' eb=>⟨rfl,I.turned (t':=s.toks) (λb o hb e=>eb b o hb e) f0 f1 f3 f4 f5⟩
 self:=λ_ _ _ _ _ st h=>wpAny_pyIter_striter_ascii st h
noncomputable def R4(f:TE):TI:=λb H R=>f b H λv g=>∃x:Str,v=.str x/\x.cps.all (· < 128)=true/\R (Its x) g
section
variable {X:Cx}{K:Yd}{tg:Expr}
def Zli{l:Expr}{n:TE}(y:PE X l n):PI X tg l (R4 n):=by
 intro pins s p H R I h;refine thn (y pins s p H _ I h) ?_;rintro v f ⟨x,C,g,u,w⟩;obtain⟨z,e,B,q⟩:=w;subst e;obtain⟨r,rfl⟩:=u;refine wpAny_pyIter_ascii B ?_;refine⟨f.heap.objs.size,[f.heap.objs.size],_,_,C,rfl,g.kept (t':=f.toks) λb o e=>WB _ e,Zgt z r _,⟨_,WN _ rfl,rfl,rfl⟩,λb A=>?_,q⟩;have e:b=f.heap.objs.size:=by simpa using A
 subst e;exact g.fpOk (WG _) (g.hok.fresh<|WG _)
noncomputable def IA:R2:=λx y H Q=>∃(c:Nat) (t:Str),x=.str ⟨#[c]⟩/\y=.str t/\Q (.bl<|decide (c∈t.cps.toList)) H
def Zi7:OpR X (compareOp .In) IA:=by
 intro pins s l H x y v u Q I g f h;obtain⟨c,t,rfl,rfl,q⟩:=h;obtain⟨n,rfl⟩:=g;obtain⟨b,rfl⟩:=f;refine P.in_str ?_;rw[StrLaws.found_one];exact⟨.bl _,H,I,rfl,q⟩
def Zjx:K8 X (.type "int") (λxs H Q=>∃(t:Str) (n:Int),xs=[.str t]/\PySem.intText? t=some n/\t.length<=640/\Q (.int n) H):=by
 intro pins s g H xs l Q I r h;obtain⟨t,n,rfl,f,b,q⟩:=h;obtain⟨u,rfl,o,rfl⟩:=r.one;exact PySem.W.KIN.call_text f b ⟨.int n,H,I.tok _,⟨_,rfl⟩,q⟩
end
end Own
namespace Pu
open L2 Own
section
variable {K:Yd}{mg:Yh}{E:L2.St->XK}
noncomputable def pIS(a:PTE):PTI:=λb R X=>a b (λs=>match s.d with | .str x=>x.cps.all (· < 128)=true/\R x.cps.size (λi=>.sh (.str ⟨#[x.cps.getD i 0]⟩))|_=>False) X
def Zn0{te:TE}{a:PTE}(z:XG K mg E te a):SndI K mg E (R4 te) (pIS a):=by
 intro J B H n o R X Q b h q r;refine z J B H n o _ X _ b h (λs v G f l p=>?_) r;have g:=p.rp (b.grow l).same;split at f
 ·rename_i x A;rw[A]at g;cases g
  refine⟨x,rfl,f.1,q _ _ _ G f.2 l ⟨λi M C u lt=>?_,λM C lt=>WG _⟩⟩;refine⟨u,λv L y=>?_⟩;obtain⟨rfl,c,w,rfl⟩:=y;have e:x.cps.getD i 0=c:=by rw[Array.getD_eq_getD_getElem?,w];rfl
  rw[e];exact⟨Same.refl _,.str _⟩
 ·exact f.elim
def IY:S->S->(S->Prop)->Prop:=λx y R=>match x.d,y.d with
 | .str t,.int i=>t.length<=sizeLine/\∃c,atI t.cps.toList i=some c/\R (.sh<|.str ⟨#[c]⟩)
 |_,_=>False
def Zl9{g f:TE}{a b:PTE}(w:XG K mg E g a)(s:XG K mg E f b):XG K mg E (tOp Zbd g f) (p2 a b IY):=by
 refine Pb w s λN H J Z x y v u R Q l L M r p h q=>?_;have o:=r.rp l;have n:=p.rp l;unfold IY at h;split at h
 ·rename_i t i G C;rw[G]at o;rw[C]at n;cases o
  cases n
  obtain⟨B,c,A,z⟩:=h;exact⟨t,i,c,rfl,rfl,B,A,q _ _ J z (Same.refl _) (.str _)⟩
 ·exact h.elim
def Ei:S->S->(S->Prop)->Prop:=λx y R=>match x.d,y.d with
 | .str s,.str t=>∃c,s=⟨#[c]⟩/\R (.sh<|.bl<|decide (c∈t.cps.toList))
 |_,_=>False
def Zgr{g f:TE}{a b:PTE}(z:XG K mg E g a)(w:XG K mg E f b):XG K mg E (tOp IA g f) (p2 a b Ei):=by
 refine Pb z w λM H G Z x y v u R Q l J L r p h q=>?_;have o:=r.rp l;have n:=p.rp l;unfold Ei at h;split at h
 ·rename_i s t C B;rw[C]at o;rw[B]at n;cases o
  cases n
  obtain⟨c,rfl,A⟩:=h;exact⟨c,t,rfl,rfl,q _ _ G A (Same.refl _) (.bl _)⟩
 ·exact h.elim
def Gy:List S->(S->Prop)->Prop
 |[s],R=>(match s.d with | .str t=>∃n,PySem.intText? t=some n/\t.length<=640/\R (.sh<|.int n)|_=>False)
 |_,_=>False
def Zmh{b:TA}{r:PTA}(p:Kc K mg E b r):XG K mg E (tCB (λxs H Q=>∃(t:Str) (n:Int),xs=[.str t]/\PySem.intText? t=some n/\t.length<=640/\Q (.int n) H) b) (pCB Gy r):=by
 refine PJ p λC H x Z z y R Q o A B g h q=>?_;unfold Gy at h;split at h
 ·obtain⟨v,rfl,l⟩:=g.one_inv;have f:=l.rp o;split at h
  ·rename_i t e;rw[e]at f;cases f
   obtain⟨n,w,u,s⟩:=h;exact⟨t,n,rfl,w,u,q _ _ x s (Same.refl _) (.int _)⟩
  ·exact h.elim
 ·exact h.elim
def Li:List S->(S->Prop)->Prop
 |[s],R=>(match s.d with | .int i=>i.natAbs.log2<1920/\R (.sh<|.str<|toString i)|_=>False)
 |_,_=>False
def Ti{b:TA}{r:PTA}(o:Kc K mg E b r):XG K mg E (tCB (λxs H Q=>∃i,xs=[.int i]/\i.natAbs.log2<1920/\Q (.str<|toString i) H) b) (pCB Li r):=by
 refine PJ o λy H p Z u s R Q n w x g h q=>?_;unfold Li at h;split at h
 ·obtain⟨v,rfl,l⟩:=g.one_inv;have f:=l.rp n;split at h
  ·rename_i i e;rw[e]at f;cases f
   exact⟨i,rfl,h.1,q _ _ p h.2 (Same.refl _) (.str _)⟩
  ·exact h.elim
 ·exact h.elim
def Mp:S->S->(S->Prop)->Prop:=λx y R=>match x.d,y.d with
 | .str s,.str t=>s.length+t.length<=sizeLine/\R (.sh<|.str (s++t))
 |_,_=>False
def Sg{g f:TE}{a b:PTE}(z:XG K mg E g a)(w:XG K mg E f b):XG K mg E (tOp (λx y H Q=>∃i j,x=.str i/\y=.str j/\i.length+j.length<=sizeLine/\Q (.str (i++j)) H) g f) (p2 a b Mp):=by
 refine Pb z w λL H C Z x y v u R Q l G J r p h q=>?_;have o:=r.rp l;have n:=p.rp l;unfold Mp at h;split at h
 ·rename_i s t B A;rw[B]at o;rw[A]at n;cases o
  cases n
  exact⟨s,t,rfl,rfl,h.1,q _ _ C h.2 (Same.refl _) (.str _)⟩
 ·exact h.elim
end
end Pu
namespace M
open L2 Own Pu
noncomputable def spc:Str:=⟨#[32]⟩
def Eu{a b:Str}(h:a.cps.toList=b.cps.toList):a=b:=by
 obtain⟨a⟩:=a;obtain⟨b⟩:=b;rw[show a=b from Array.toList_inj.mp h]
def Dm(a b:Str):(a++b).cps.toList=a.cps.toList++b.cps.toList:=by
 show(a.cps++b.cps).toList=_;rw[Array.toList_append]
def FC(c:Nat)(x y:Str)(r:Ym):(Str.join ⟨#[c]⟩ (x::y::r)).cps.toList=x.cps.toList++c::(Str.join ⟨#[c]⟩ (y::r)).cps.toList:=by
 show(x++⟨#[c]⟩++Str.join ⟨#[c]⟩ (y::r)).cps.toList=_;rw[Dm,Dm,VE];rfl
theorem Gz{c:Nat}:∀{a b r s:Yk},c∉a->c∉b->a++c::r=b++c::s->a=b/\r=s
 |[],[],_,_,_,_,h=>⟨rfl,(List.cons.inj h).2⟩
 |[],y::b,_,_,_,f,h=>absurd ((List.cons.inj h).1▸Qh) f
 |x::a,[],_,_,g,_,h=>absurd ((List.cons.inj h).1.symm▸Qh) g
 |x::a,y::b,r,s,g,f,h=>by
  obtain⟨n,l⟩:=List.cons.inj h;obtain⟨p,o⟩:=Gz (λz=>g (WV _ z)) (λz=>f (WV _ z)) l;exact⟨by rw[n,p],o⟩
theorem Hw(c:Nat):∀{f us:Ym},f≠[]->us≠[]->(∀w∈f,c∉w.cps.toList)->(∀w∈us,c∉w.cps.toList)->(Str.join ⟨#[c]⟩ f).cps.toList=(Str.join ⟨#[c]⟩ us).cps.toList->f=us
 |[],_,h,_,_,_,_=>absurd rfl h
 |_,[],_,h,_,_,_=>absurd rfl h
 |[x],[y],_,_,_,_,h=>by rw[Eu (a:=x) (b:=y) h]
 |[x],y::z::r,_,_,hx,_,h=>by
  rw[FC]at h;have h:x.cps.toList=_:=h;exact absurd (by rw[h];simp) (hx x Qh)
 |x::z::r,[y],_,_,_,g,h=>by
  rw[FC]at h;have h:_=y.cps.toList:=h;exact absurd (by rw[←h];simp) (g y Qh)
 |x::p::r,y::o::s,_,_,hx,g,h=>by
  rw[FC,FC]at h;obtain⟨n,l⟩:=Gz (hx x Qh) (g y Qh) h;rw[Eu n,Hw c (by simp) (by simp) (λw hw=>hx w (WV _ hw)) (λw hw=>g w (WV _ hw)) l]
def Zd4(x y:Str):Txt.split x y≠[]:=by
 unfold Txt.split;split
 ·simp
 ·split
  ·simp
  ·intro z
   have:=Qs List.length z
   rw[JR]at this;cases this
def L0{c:Nat}{b:Ym}(f:b≠[])(g:∀w∈b,c∉w.cps.toList):Txt.split (Str.join ⟨#[c]⟩ b) ⟨#[c]⟩=b:=
 Hw c (Zd4 _ _) f (StrLaws.split_free _ c) g (by rw[StrLaws.join_split])
noncomputable def nS(n:Int):Str:=Str.ofString (toString n)
noncomputable def Tn(x:Str):Bool:=!(decide ((x.length:Int)<1) || decide ((x.length:Int)>4)) && !(decide (x.cps.toList.head?=some 48) && !decide (x=("0" : Str)))&&(x.cps.toList.map λc=>decide (c∈("0123456789" : Str).cps.toList)).all id
def Zcx:((List.range 10000).all λm=>decide ((Nat.toDigits 10 m).length<=4) && !(decide ((Nat.toDigits 10 m).head?=some '0') && !decide (m=0)))=true:=by decide +kernel
def Ad(m:Nat):(nS (m:Int)).cps.toList=(Nat.toDigits 10 m).map Char.toNat:=PySem.W.KIN.signs_num m
def Az{n:Int}(g:0<=n):∀c∈(nS n).cps.toList,48<=c/\c<=57:=by
 obtain⟨m,rfl⟩:=Int.eq_ofNat_of_zero_le g;intro c f;rw[Ad]at f;obtain⟨h,b,e⟩:=WO.mp f;rw[←e];exact digit_range (Nat.isDigit_of_mem_toDigits (by decide) (by decide) b)
def PP{n:Int}(p:0<=n)(q:n<=9999):1<=(nS n).length/\(nS n).length<=4/\((nS n).cps.toList.head?=some 48->n=0):=by
 obtain⟨m,rfl⟩:=Int.eq_ofNat_of_zero_le p;have h:=Q2.mp Zcx m (Vl.mpr<|by lia);rw[Qb]at h;have o:=WJ h.1
 have l:(nS (m:Int)).length=(Nat.toDigits 10 m).length:=by
  have:=Qs List.length (Ad m)
  rw[W9,Qw]at this;exact this
 refine⟨?_,by rw[l];exact o,λz=>?_⟩
 ·rw[l];exact toDigits_len_ge 10 m
 ·rw[Ad,List.head?_map]at z;have b:=h.2;cases e:(Nat.toDigits 10 m).head? with
  |none=>rw[e]at z;cases z
  |some g=>
   rw[e]at z b
   have f:g='0':=Char.ext (by
    have z:g.toNat=48:=WT z;exact UInt32.toNat_inj.mp z)
   rw[f,WH rfl,VU,Bool.not_not]at b
   have:=WJ b
   lia
def Rm{n:Int}(f:0<=n)(o:n<=9999):Tn (nS n)=true:=by
 obtain⟨q,p,g⟩:=PP f o;unfold Tn;rw[Qc (by lia),Qc (by lia)];rw[Qb,Qb];refine⟨⟨rfl,?_⟩,?_⟩
 ·by_cases z:(nS n).cps.toList.head?=some 48
  ·rw[g z];decide +kernel
  ·rw[Qc z];rfl
 ·rw[Q2];intro b l;obtain⟨c,h,rfl⟩:=WO.mp l;obtain⟨s,r⟩:=Az f c h
  have:c=48\/c=49\/c=50\/c=51\/c=52\/c=53\/c=54\/c=55\/c=56\/c=57:=by lia
  rcases this with rfl|rfl|rfl|rfl|rfl|rfl|rfl|rfl|rfl|rfl<;>decide +kernel
def Zb3{n:Int}(f:0<=n):(nS n).cps.all (· < 128)=true:=by
 rw[←Array.all_toList,Q2];intro c b
 have:=Az f c b
 exact WH (by lia)
def Zkz{n:Int}(b:0<=n):32∉(nS n).cps.toList:=λz=>by
 have:=Az b 32 z
 lia
def AX{n:Int}(b:0<=n)(f:n<=9999):PySem.intText? (nS n)=some n:=PySem.W.KIN.num_reads b (by lia)
end M
namespace Own
open L2
def Za8(z:Str)(xs:Ym):inV (.str z) (xs.map V.str)=decide (z∈xs):=by
 unfold inV;rw[List.any_map,V7,List.any_eq_true,decide_eq_true_iff];refine⟨λ⟨x,hx,h⟩=>?_,λh=>⟨z,h,?_⟩⟩
 ·have h:eqV (.str x) (.str z)=true:=h
  have:x=z:=by simpa [eqV]using h
  exact this▸hx
 ·show eqV (.str z) (.str z)=true;simp[eqV]
def D7(xs:Ym):(xs.map V.str).all PD=true:=by
 rw[List.all_map,Q2];intro x _;rfl
structure Zaq (K:Yd) (mg:Yh) (x:Str) (ts:Ym):Prop where
 ex:∃a dd sl its n,mg x=some (.ref a)/\K.lookup a=some ⟨.type "tuple",dd,.seq its n,sl⟩/\its.size<=sizeLine/\Vals (ts.map V.str) its.toList
section
variable {X:Cx}{x:Str}{ts:Ym}{i:Expr}{ty:TE}{pos:Pos}
noncomputable def Rj(ts:Ym)(ty:TE):TE:=λb H Q=>ty b H λy f=>∃z,y=.str z/\Q (.bl<|decide (z∈ts)) f
def Zq9(C:Zaq X.K X.mg x ts)(J:PE X i ty)(L:autoParam (Gl X x) au_0)(M:autoParam ((x==("__debug__" : Str))=false) au_1):PC X .In i (.Name x pos) (Rj ts ty):=by
 intro pins s b H Q I h;obtain⟨a,dd,sl,f,n,T,N,G,r⟩:=C.ex;refine thn (J pins s b H _ I h) ?_;rintro E p ⟨y,l,I1,q,B⟩;refine thn (Fy (v:=.ref a) L T rfl M pins p b l (λv g=>v=.ref a/\g=l) I1 ⟨rfl,rfl⟩) ?_;rintro u o ⟨_,g,I2,w,Y,U⟩;subst Y;subst U;obtain rfl:u=Value.ref a:=w;obtain⟨z,rfl,A⟩:=B;refine On pins o b g (.str z) (.ref a) E _ Q I2 q rfl ⟨a,ts.map V.str,rfl,.inr (.inr ⟨_,f,n,N,rfl,rfl,G,r⟩),rfl,D7 ts,?_⟩;rw[Za8];exact A
end
end Own
namespace Pu
open L2 Own
section
variable {K:Yd}{mg:Yh}{E:L2.St->XK}
noncomputable def Zmr(ts:Ym)(a:PTE):PTE:=λb R X=>a b (λs=>match s.d with | .str z=>R (.sh<|.bl<|decide (z∈ts))|_=>False) X
def Zo9{ts:Ym}{te:TE}{a:PTE}(u:XG K mg E te a):XG K mg E (Rj ts te) (Zmr ts a):=by
 intro y B H n o R X Q b h q r;refine u y B H n o _ X _ b h (λs v x f l p=>?_) r;have g:=p.rp (b.grow l).same;split at f
 ·rename_i t w;rw[w]at g;cases g
  exact⟨t,rfl,q _ _ x f l (.bl _)⟩
 ·exact f.elim
end
end Pu
namespace Own
open L2
section
variable {X:Cx}
def R6:OpR X (binaryOp .Mult) (λx y H Q=>∃i n,x=.str i/\y=.int n/\MulOk i n/\Q (.str<|Txt.mul i n) H):=by
 intro pins s o H x y v u Q I g f h;obtain⟨i,n,rfl,rfl,l,q⟩:=h;obtain⟨t,rfl⟩:=g;obtain⟨b,rfl⟩:=f;exact SB.mul l λb p=>⟨.str (Txt.mul i n),H,I.tok _,⟨_,rfl⟩,q⟩
end
end Own
namespace Pu
open L2 Own M
section
variable {K:Yd}{mg:Yh}{E:L2.St->XK}
def Za3:S->S->(S->Prop)->Prop:=λx y R=>match x.d,y.d with
 | .str s,.int n=>MulOk s n/\R (.sh<|.str<|Txt.mul s n)
 |_,_=>False
def He{g f:TE}{a b:PTE}(A:XG K mg E g a)(z:XG K mg E f b):XG K mg E (tOp (λx y H Q=>∃i n,x=.str i/\y=.int n/\MulOk i n/\Q (.str<|Txt.mul i n) H) g f) (p2 a b Za3):=by
 refine Pb A z λM H G Z x y v u R Q l J L w r h q=>?_;have p:=w.rp l;have o:=r.rp l;unfold Za3 at h;split at h
 ·rename_i s n C B;rw[C]at p;rw[B]at o;cases p
  cases o
  exact⟨s,n,rfl,rfl,h.1,q _ _ G h.2 (Same.refl _) (.str _)⟩
 ·exact h.elim
end
end Pu
namespace M
open L2 Own Pu
def Mz(m:Nat):(nS<|Int.negSucc m).cps.toList=45::(Nat.toDigits 10 (m+1)).map Char.toNat:=by
 show(Str.ofString ("-"++Nat.repr (m+1))).cps.toList=_;rw[signs_ofString,String.toList_append,WX,Nat.toList_repr];rfl
def Zfv(m:Nat):∀c∈(Nat.toDigits 10 m).map Char.toNat,48<=c/\c<=57:=by
 intro c f;obtain⟨g,b,e⟩:=WO.mp f;rw[←e];exact digit_range (Nat.isDigit_of_mem_toDigits (by decide) (by decide) b)
def Zjv(n:Int):∀c∈(nS n).cps.toList,c=45\/(48<=c/\c<=57):=by
 intro c b;cases n with
 |ofNat m=>exact .inr (Az (Int.natCast_nonneg m) c b)
 |negSucc m=>
  rw[Mz]at b;rcases WL.mp b with h|h
  ·exact .inl h
  ·exact .inr (Zfv _ c h)
def Zrn(n:Int):32∉(nS n).cps.toList:=λz=>by
 have:=Zjv n 32 z
 lia
def R7(m:Nat){k:Nat}(b:0<k):(Nat.toDigits 10 m).length<=k↔m<10 ^ k:=by
 rw[←Nat.length_repr_le_iff b,←Nat.toList_repr];exact Iff.rfl
def Og{n:Int}{b:Yk}(h:(nS n).cps.toList=b):(nS n).length=b.length:=by
 rw[←h,Qw];rfl
def HS{n:Int}(h:n.natAbs<=10 ^ 30):1<=(nS n).length/\(nS n).length<=32:=by
 cases n with
 |ofNat m=>
  have e:=Og (Ad m);rw[W9]at e
  have:=(R7 m (k:=31)<|by decide).mpr (QJ h<|by decide)
  have:=toDigits_len_ge 10 m
  exact⟨by rw[show(Int.ofNat m)=((m:Nat):Int)from rfl];lia,by rw[show(Int.ofNat m)=((m:Nat):Int)from rfl];lia⟩
 |negSucc m=>
  have e:=Og (Mz m);rw[Qn,W9]at e
  have:=(R7 (m+1) (k:=31)<|by decide).mpr (QJ h<|by decide)
  exact⟨by lia,by lia⟩
def Be{i:Int}(h:i.natAbs<=10 ^ 30):i.natAbs.log2<1920:=by
 by_cases z:i.natAbs=0
 ·rw[z];decide
 ·exact Qj ((Nat.log2_lt z).mpr (QJ h<|show 10 ^ 30<2 ^ 100 by decide)) (by decide)
def Zep(a b:Str):(a++b).length=a.length+b.length:=by
 show(a.cps++b.cps).size=_;rw[Jv];rfl
end M
namespace Own
open L2
section
variable {X:Cx}{K:Yd}
def OH{xs:Ym}{us:Yl}(r:Vals (xs.map V.str) us)(z:Str):∀(j:Nat) (f:j<us.length) (b:j<xs.length),eqU (.str z) us[j]=(xs[j]==z):=by
 intro j f b;obtain⟨u,g,t,rfl⟩:=r.get (x:=V.str xs[j]) (i:=j) (by rw[WR,WA b];rfl);rw[WA f]at g;rw[WT g];rfl
def Zaw(K:Yd):V->List V->Hp->VK->Prop:=λx b H Q=>∃(l:Addr) (xs:Ym) (z:Str),x=.ref l/\b=[.str z]/\SqL K H l (xs.map V.str)/\z∈xs/\Q (.int (xs.idxOf z:Nat)) H
def Zbx(hK:autoParam (X.K=K) au_0):MtM X "list.index" (Zaw K):=by
 subst hK;intro pins s σ H x vs v us Q I N T h;obtain⟨l,xs,z,rfl,rfl,hS,Y,q⟩:=h;cases N
 obtain⟨u,rfl,M⟩:=T.one;obtain⟨b,r,U,f⟩:=I.list hS;obtain⟨o,n,G,L,g,J⟩:=U;obtain⟨c1,d1,dt1,w⟩:=o;simp only at L g J;subst L g J;have E:=r.length;rw[W9]at E;have C:xs.idxOf z<xs.length:=QS.mpr Y;have hb:xs.length<=2 ^ 24:=by rw[W9]at f;exact f
 refine VQ QC ⟨_,G,rfl⟩ PySem.F.entry_list_index (PySem.F.args_list_index_2 _ _)
  (SeqAt.list_indexAt l b.toArray n none w u (eqU<|.str z) (xs.idxOf z) (by simpa [←E]using C) (by lia) ?_ ?_) ⟨G,λy hy=>SG M rfl r (D7 xs) y (by simpa using hy),⟨.int (xs.idxOf z:Nat),H,I.tok _,⟨_,rfl⟩,q⟩⟩
 ·have e:=OH r z (xs.idxOf z) (by lia) C;show eqU (.str z) b[xs.idxOf z]=true;rw[e];simpa using Vr C
 ·intro m hm B;have A:m<b.length:=by simpa using hm
  have e:=OH r z m A (by lia);show eqU (.str z) b[m]=false;rw[e]
  have:=Jx (p:=(· == z)) (xs:=xs) (i:=m) B
  simpa using this
noncomputable def iLT(K:Yd)(g:TE):TI:=λf H R=>g f H λx b=>∃a,x=.ref a/\((∃xs,SqL K b a xs)/\R (Itl K a) b\/(∃xs,SqT K b a xs)/\R (Itt K a) b)
def Zd2{l A:Expr}{u:TE}(G:PE X l u)(J:autoParam (X.K=K) au_0):PI X A l (iLT K u):=by
 subst J;intro pins s z H R I h;refine thn (G pins s z H _ I h) ?_;rintro v f ⟨x,y,g,w,C⟩;obtain⟨a,e,⟨⟨xs,hq⟩,q⟩|⟨⟨xs,hq⟩,q⟩⟩:=C
 ·subst e;cases w
  obtain⟨n,B,p,E⟩:=g.list hq;refine VB p.isList ?_;refine⟨f.heap.objs.size,[f.heap.objs.size],_,_,y,rfl,g.kept (t':=f.toks) λb o e=>WB _ e,Zai a _,⟨_,WN _ rfl,rfl,rfl⟩,λb r=>?_,q⟩;have e:b=f.heap.objs.size:=by simpa using r
  subst e;exact g.fpOk (WG _) (g.hok.fresh<|WG _)
 ·subst e;cases w
  obtain⟨n,B,p,E⟩:=g.tuple hq;refine wpAny_pyIter_tuple (show f.heap.IsTuple a n.toArray from p) ?_
  refine⟨f.heap.objs.size,[f.heap.objs.size],_,_,y,rfl,g.kept (t':=f.toks) λb o e=>WB _ e,GF a _,⟨_,WN _ rfl,rfl,rfl⟩,λb r=>?_,q⟩;have e:b=f.heap.objs.size:=by simpa using r
  subst e;exact g.fpOk (WG _) (g.hok.fresh<|WG _)
end
end Own
namespace Pu
open L2 Own
section
variable {K:Yd}{mg:Yh}{E:L2.St->XK}{H0 H H1 H':Hp}{B Z Z':Addr->Prop}{σ:L2.St}{γ:Γ}
def Rr(neg:Bool):S->S->(S->Prop)->Prop:=λx y R=>match x.d with
 | .str z=>∃xs:Ym,y.d=.lst (xs.map D.str)/\R (.sh<|.bl (if neg then !decide (z∈xs)else decide (z∈xs)))
 |_=>False
def Zng{neg:Bool}{g f:TE}{a b:PTE}(G:XG K mg E g a)(C:XG K mg E f b):XG K mg E (tOp (rIn K neg) g f) (p2 a b<|Rr neg):=by
 refine Pb G C λH0 H U Z x y v u R Q n N T A w h q=>?_;unfold Rr at h;have p:=A.rp n;have o:=w.rp n;split at h
 ·rename_i z ez;obtain⟨xs,L,J⟩:=h;rw[ez]at p;rw[L]at o;cases p
  obtain⟨l,M,rfl,s,r⟩:=o.lst_inv;rw[r.strs]at s;refine⟨l,xs.map V.str,rfl,.inl (SqL.of s),rfl,D7 xs,?_⟩;rw[Za8];exact q _ _ _ J (Same.refl _) (.bl _)
 ·exact h.elim
def HR:S->List S->(S->Prop)->Prop:=λs b R=>match b with
 |[t]=>(match t.d with | .str z=>∃xs:Ym,s.d=.lst (xs.map D.str)/\z∈xs/\R (.sh<|.int (xs.idxOf z:Nat))|_=>False)
 |_=>False
def Zod{te:TE}{g:TA}{a:PTE}{r:PTA}(C:XG K mg E te a)(A:Kc K mg E g r):XG K mg E (tBM K "list" (Zaw K) te g) (pBM HR a r):=by
 refine RX C A λH0 H H1 Z s v N L R Q n T U x w h q=>?_;unfold HR at h;split at h
 ·obtain⟨u,rfl,f⟩:=w.one_inv;have o:=f.rp n;split at h
  ·rename_i z e;rw[e]at o;obtain⟨xs,J,y,G⟩:=h;have b:=x.rp n;rw[J]at b;obtain⟨l,M,rfl,p,b⟩:=b.lst_inv;rw[b.strs]at p;cases o
   exact⟨l,xs,z,rfl,rfl,SqL.of p,y,q _ _ H1 G (Same.refl _) (.int _)⟩
  ·exact h.elim
 ·exact h.elim
noncomputable def Ziq(a:PTE):PTI:=λγ R X=>a γ (λs=>match s with
 | .bor d=>(match d.strip with | .lst b=>R b.length (λi=>arg (b.getD i .non))|_=>False)
 | .sh (.tup b)=>R b.length λi=>.sh (b.getD i .non)
 |_=>False) X
def Zh7{te:TE}{a:PTE}(U:XG K mg E te a):SndI K mg E (iLT K te) (Ziq a):=by
 intro H0 B H σ γ R X Q g h q N;refine U H0 B H σ γ _ X _ g h (λs v H1 n z M=>?_) N;have w:=g.grow z;split at n
 ·rename_i d;split at n
  ·rename_i o Y;obtain⟨l,b,rfl,hn,f⟩:=TV.last (s:=.bor d) g z M rfl Y;obtain⟨C,_⟩:=f H1 _ (Later.of w Fr.refl);refine⟨l,rfl,.inl ⟨⟨b,SqL.of C⟩,q _ _ _ H1 n z ⟨λi H' Z' G lt=>?_,λH' Z' lt=>?_⟩⟩⟩
   ·obtain⟨p,T⟩:=f H' Z' lt;have J:o[i]?=some (o.getD i .non):=by rw[WE,WA G];rfl
    obtain⟨u,r,A⟩:=T i _ J;refine⟨⟨b,u,SqL.of p,r⟩,λx L y=>?_⟩;obtain⟨rfl,y⟩:=y
    have:=y b (SqL.of p)
    rw[r]at this;cases this
    exact⟨Same.refl _,A⟩
   ·exact⟨b,SqL.of (f H' Z' lt).1,by omega⟩
  ·exact n.elim
 ·rename_i o;obtain⟨l,b,rfl,f,p⟩:=Rp.tup_inv (show Rp K (off (zof B γ σ) H1) (.tup o) v from M)
  refine⟨l,rfl,.inr ⟨⟨b,SqT.of (off_sub _ _ f)⟩,q _ _ _ H1 n z ⟨λi H' Z' G lt=>?_,λH' Z' lt=>?_⟩⟩⟩
  ·have J:o[i]?=some (o.getD i .non):=by rw[WE,WA G];rfl
   obtain⟨u,r,A⟩:=p.get J;have k:=off_sub _ _ (lt.off _ _ f);refine⟨⟨b,u,SqT.of k,r⟩,λx L y=>?_⟩;obtain⟨rfl,y⟩:=y
   have:=y b (SqT.of k)
   rw[r]at this;cases this
   exact⟨Same.refl _,Rp.mono lt.off A⟩
  ·exact⟨b,SqT.of (off_sub _ _<|lt.off _ _ f),by rw[p.len];exact WG _⟩
 ·exact n.elim
noncomputable def Znh(a:PTE)(w:PTW):PTW:=λγ R X=>a γ (λs=>match s.d with | .bl c=>if c=true then w γ R X else R γ (.bl false)|_=>False) (X γ)
def Zon{te y:TE}{a:PTE}{w:PTW}(J:XG K mg E te a)(hw:Tc K mg E y w):Tc K mg E (A4 te y) (Znh a w):=by
 intro H0 B H σ γ R X Q L l h q A;refine J H0 B H σ γ _ _ _ l h (λs v H1 g n C=>?_) λc H1 g n=>A γ c H1 g (l.grow n) (Fr.grow n);have b:=l.grow n;have z:=C.rp b.same;split at g
 ·rename_i c M;rw[M]at z;refine⟨c,z.bl_inv,?_⟩;split at g
  ·rename_i o;rw[WK o];exact hw H0 B H1 σ γ _ _ _ L b g (λf d v x p u r G=>q f d v x p u ((Fr.grow n).trans r) G) λf c x p u r=>A f c x p u ((Fr.grow n).trans r)
  ·rename_i o;rw[WI o];exact q γ _ _ H1 g b (Fr.grow n) (.bl _)
 ·exact g.elim
end
end Pu
namespace M
open PySem
noncomputable def Py(ns:Yf):Str:=if ns=[]then "none" else Txt.join spc (ns.map nS)
end M
namespace T
open L2
noncomputable def top(i:Nat):Stmt:=PySem.Challenge.pw_stripmeld_k52_whole_in_words.main.body.getD i (.Pass ⟨0,0,0,0⟩)
noncomputable abbrev Gj:Stmt:=inClass (top 19) 0
def Zhk:XI ["self","members"] ["self","members"] (XH Gj):=Pu.fs
noncomputable abbrev Ea:Stmt:=top 24
def Zqh:XI ["holder"] ["holder"] (XH Ea):=Pu.fs
noncomputable abbrev Cj:Stmt:=top 25
def Zqc:XI ["width"] ["width"] (XH Cj):=Pu.fs
noncomputable abbrev Ed:Stmt:=top 26
def Znb:XI ["strips","holder","width"] ["strips"] (XH Ed):=Pu.fs
noncomputable abbrev AF:Stmt:=top 27
def Zno:XI ["strips"] ["strips"] (XH AF):=Pu.fs
noncomputable abbrev Dl:Stmt:=top 28
def Zl5:XI ["strips","order"] ["strips","order"] (XH Dl):=Pu.fs
noncomputable abbrev Gd:Stmt:=top 30
def Zld:XI ["strips","ahead","behind","to_pass","cost","holder","width"] ["strips","ahead","behind"] (XH Gd):=Pu.fs
noncomputable abbrev Dc:Stmt:=top 31
def Zcg:XI ["strips","order","cost","index","ahead","behind"] ["strips","order"] (XH Dc):=Pu.fs
noncomputable abbrev EC:Stmt:=top 33
def Zme:XI ["strips"] ["strips"] (XH EC):=Pu.fs
noncomputable abbrev CN:Stmt:=top 34
def Zoj:XI ["strips","numbers","place","left","right"] ["strips","numbers","place"] (XH CN):=Pu.fs
noncomputable abbrev DJ:Stmt:=top 35
def Zea:XI ["numbers","place"] ["numbers","place"] (XH DJ):=Pu.fs
noncomputable abbrev Do:Stmt:=top 36
def Zj0:XI ["numbers","ranks","place"] ["numbers","ranks"] (XH Do):=Pu.fs
noncomputable abbrev DO:Stmt:=top 37
def Zdw:XI ["strips","order","ranks","numbers","moves","place"] ["strips","order"] (XH DO):=Pu.fs
noncomputable abbrev Ga:Stmt:=top 41
def Ic:XI ["order","wishes","index_of","index","holder","between"] ["order","wishes"] (XH Ga):=Pu.fs
noncomputable abbrev Eb:Stmt:=top 42
def Gx:XI ["paths","left","wishes","longer","reached","path","holder"] ["paths","left","wishes"] (XH Eb):=Pu.fs
noncomputable abbrev Da:Stmt:=top 43
def Zpw:XI ["least","holders","wishes","paths","left","rings","reached"] ["least","holders","wishes"] (XH Da):=Pu.fs
noncomputable abbrev Dr:Stmt:=top 44
def Zqt:XI ["holders","wishes","ring","least","found"] ["holders","wishes"] (XH Dr):=Pu.fs
noncomputable abbrev Cf:Stmt:=top 45
def Zii:XI ["strips","wishes","ring"] ["strips","wishes"] (XH Cf):=Pu.fs
noncomputable abbrev AB:Stmt:=top 51
def Zct:XI ["wishes","ahead","behind"] ["wishes","ahead","behind"] (XH AB):=Pu.fs
noncomputable abbrev AE:Stmt:=top 54
def Zaa:XI ["strips","holders","costs","ahead","behind"] ["strips"] (XH AE):=Pu.fs
noncomputable abbrev Dk:Stmt:=top 55
def Zlu:XI ["holders","sets","holder"] ["holders"] (XH Dk):=Pu.fs
noncomputable abbrev AS:Stmt:=top 56
def Zrl:XI ["members","holder"] ["members","holder"] (XH AS):=Pu.fs
noncomputable abbrev Cy:Stmt:=top 57
def Zpl:XI ["members","holder","wishes"] ["members","holder","wishes"] (XH Cy):=Pu.fs
noncomputable abbrev Dj:Stmt:=top 58
def Zjy:XI ["members","holder","wishes"] ["members","holder","wishes"] (XH Dj):=Pu.fs
noncomputable abbrev CV:Stmt:=top 59
def Zid:XI ["members","last","least","pairs","others"] ["members","last","least","pairs"] (XH CV):=Pu.fs
noncomputable abbrev D6:Stmt:=top 60
def Zgo:XI ["members","first","least","pairs","others"] ["members","first","least","pairs"] (XH D6):=Pu.fs
noncomputable abbrev Cr:Stmt:=top 61
def LP:XI ["strips","wishes","pairs","least","members","lasts"] ["strips","wishes","pairs"] (XH Cr):=Pu.fs
noncomputable abbrev D2:Stmt:=top 62
def Zj4:XI ["strips","wishes","least"] ["strips","wishes"] (XH D2):=Pu.fs
noncomputable abbrev Ck:Stmt:=top 63
def Ie:XI ["strips","wishes","pairs","least","members","order","firsts","best"] ["strips","wishes"] (XH Ck):=Pu.fs
noncomputable abbrev EA:Stmt:=top 64
def Zkd:XI ["strips","wishes"] ["strips","wishes"] (XH EA):=Pu.fs
noncomputable abbrev A9:Stmt:=inClass (top 67) 0
def Zc2:XI ["self","strips"] ["self","strips"] (XH A9):=Pu.fs
noncomputable abbrev AV:Stmt:=inClass (top 67) 1
def Zig:XI ["self"] ["self"] (XH AV):=Pu.fs
noncomputable abbrev EY:Stmt:=inClass (top 67) 2
def Ze5:XI ["self"] ["self"] (XH EY):=Pu.fs
noncomputable abbrev CD:Stmt:=inClass (top 67) 4
def Zji:XI ["self"] ["self"] (XH CD):=Pu.fs
noncomputable abbrev CU:Stmt:=inClass (top 67) 5
def Zhp:XI ["self","deed","field","wishes"] ["self","deed","field","wishes"] (XH CU):=Pu.fs
noncomputable abbrev Dx:Stmt:=inClass (top 67) 9
def Zqn:XI ["self","ahead","behind","wishes"] ["self","ahead","behind"] (XH Dx):=Pu.fs
noncomputable abbrev Dz:Stmt:=inClass (top 67) 14
def Zis:XI ["self"] ["self"] (XH Dz):=Pu.fs
noncomputable abbrev Ew:Stmt:=inClass (top 67) 15
def Zk6:XI ["self"] ["self"] (XH Ew):=Pu.fs
noncomputable abbrev DE:Stmt:=inClass (top 67) 17
def Zqv:XI ["self"] ["self"] (XH DE):=Pu.fs
noncomputable abbrev En:Stmt:=inClass (top 67) 19
def Zjj:XI ["self","order"] ["self","order"] (XH En):=Pu.fs
noncomputable abbrev AZ:Stmt:=inClass (top 67) 20
def Zpv:XI ["self","order"] ["self","order"] (XH AZ):=Pu.fs
noncomputable abbrev DC:Stmt:=top 74
def Zmq:XI ["text"] ["text"] (XH DC):=Pu.fs
noncomputable abbrev DS:Stmt:=top 75
def Zb5:XI ["word","texts"] ["word","texts"] (XH DS):=Pu.fs
noncomputable abbrev CC:Stmt:=top 76
def Ze0:XI ["texts"] ["texts"] (XH CC):=Pu.fs
noncomputable abbrev El:Stmt:=top 77
def Zn1:XI ["numbers"] ["numbers"] (XH El):=Pu.fs
noncomputable abbrev EZ:Stmt:=top 78
def Zn8:XI ["strips"] ["strips"] (XH EZ):=Pu.fs
noncomputable abbrev Gg:Stmt:=top 79
def Zrj:XI ["wishes"] ["wishes"] (XH Gg):=Pu.fs
noncomputable abbrev ET:Stmt:=top 82
def Zrb:XI ["village","word","numbers"] ["village","word","numbers"] (XH ET):=Pu.fs
noncomputable abbrev EX:Stmt:=top 83
def Zf6:XI ["village","word","numbers"] ["village","word","numbers"] (XH EX):=Pu.fs
noncomputable abbrev AW:Stmt:=top 84
def L9:XI ["village","word","numbers","many"] ["village","word","numbers"] (XH AW):=Pu.fs
noncomputable abbrev AR:Stmt:=top 85
def LJ:XI ["village","word","numbers","e","members"] ["village","word","numbers"] (XH AR):=Pu.fs
noncomputable abbrev DT:Stmt:=top 86
def Zpi:XI ["village","row","words"] ["village","row"] (XH DT):=Pu.fs
noncomputable abbrev Ek:Stmt:=top 88
def Zdi:XI ["_law_script","_law_k"] ["_law_script","_law_k"] (XH Ek):=Pu.fs
noncomputable abbrev Cb:Stmt:=top 89
def Zna:XI ["_law_cell","_law_place","_law_first"] ["_law_cell","_law_place"] (XH Cb):=Pu.fs
noncomputable abbrev DG:Stmt:=top 90
def Zqs:XI ["_law_script","_law_k"] ["_law_script","_law_k"] (XH DG):=Pu.fs
noncomputable abbrev EK:Stmt:=top 91
def Zkh:XI ["_law_script"] ["_law_script"] (XH EK):=Pu.fs
noncomputable abbrev A1:Stmt:=top 92
def Zel:XI ["_law_cell","_law_wide","_law_least"] ["_law_cell"] (XH A1):=Pu.fs
noncomputable abbrev Cw:Stmt:=top 93
def Zg0:XI ["_law_menu_here","_law_k"] ["_law_menu_here","_law_k"] (XH Cw):=Pu.fs
noncomputable abbrev DR:Stmt:=top 94
def Zkj:XI ["_law_script","_law_menu_here","_law_many","_law_strips_here","_law_k","_law_cell","_law_width"] ["_law_script","_law_menu_here","_law_many"] (XH DR):=Pu.fs
noncomputable abbrev AA:Stmt:=top 95
def Zae:XI ["_law_script","_law_menu_here","_law_how","_law_pool","_law_wishes_here","_law_k","_law_cell","_law_one","_law_two","_law_pair"] ["_law_script","_law_menu_here"] (XH AA):=Pu.fs
noncomputable abbrev Cz:Stmt:=top 96
def Zh0:XI ["_law_strips_here","_law_owners"] ["_law_strips_here"] (XH Cz):=Pu.fs
noncomputable abbrev DP:Stmt:=top 97
def Zks:XI ["_law_strips_here","_law_order","_law_ranks","_law_total","_law_k","_law_j"] ["_law_strips_here","_law_order"] (XH DP):=Pu.fs
noncomputable abbrev Dp:Stmt:=top 98
def Znt:XI ["_law_order","_law_wishes_here","_law_one","_law_two"] ["_law_order","_law_wishes_here"] (XH Dp):=Pu.fs
noncomputable abbrev E4:Stmt:=top 99
def Zqm:XI ["_law_holders","_law_wishes_here","_law_left","_law_turn","_law_inside","_law_behind"] ["_law_holders","_law_wishes_here"] (XH E4):=Pu.fs
noncomputable abbrev AL:Stmt:=top 100
def Zcp:XI ["_law_holders","_law_wishes_here","_law_cell","_law_left","_law_order","_law_rest","_law_behind","_law_free"] ["_law_holders","_law_wishes_here","_law_cell"] (XH AL):=Pu.fs
noncomputable abbrev DX:Stmt:=top 101
def Zkl:XI ["_law_strips_here","_law_order","_law_numbers","_law_holder_here"] ["_law_strips_here","_law_order"] (XH DX):=Pu.fs
noncomputable abbrev E5:Stmt:=top 102
def Zjk:XI ["_law_wishes_here","_law_holders","_law_kept_here","_law_pair"] ["_law_wishes_here","_law_holders"] (XH E5):=Pu.fs
noncomputable abbrev Eo:Stmt:=top 103
def Zim:XI ["_law_text","_law_most","_law_good","_law_found","_law_word"] ["_law_text","_law_most"] (XH Eo):=Pu.fs
noncomputable abbrev Gb:Stmt:=top 104
def Zpt:XI ["_law_places","_law_strips_here","_law_order","_law_ranks","_law_numbers","_law_place","_law_row","_law_one"] ["_law_places","_law_strips_here","_law_order"] (XH Gb):=Pu.fs
noncomputable abbrev EE:Stmt:=top 105
def GZ:XI ["_law_village","_law_row","_law_due","_law_found"] ["_law_village","_law_row","_law_due"] (XH EE):=Pu.fs
noncomputable abbrev EG:Stmt:=top 106
def Zgp:XI ["_law_word","_law_order"] ["_law_word","_law_order"] (XH EG):=Pu.fs
noncomputable abbrev Ct:Stmt:=top 107
def Znm:XI ["_law_village","_law_strips_here","_law_wishes_here","_law_field","_law_wanted"] ["_law_village","_law_strips_here","_law_wishes_here"] (XH Ct):=Pu.fs
noncomputable abbrev Cq:Stmt:=top 108
def Hx:XI ["_law_village","_law_strips_here","_law_wishes_here","_law_order","_law_cost","_law_moves"] ["_law_village","_law_strips_here","_law_wishes_here","_law_order"] (XH Cq):=Pu.fs
noncomputable abbrev TQ:Stmt:=top 109
def Mq:XI ["_law_script","_law_menu_here","_law_strips_here","_law_holders","_law_wishes_here","_law_village","_law_k","_law_told","_law_order","_law_counted","_law_rival","_law_price_here"] ["_law_script"] (XH TQ):=Pu.fs
structure Glob (w:World) (K:Yd) (mg:Yh):Prop where
 ZM:mg "all"=none
 ZN:mg "any"=none
 Zs:mg "enumerate"=none
 ZF:mg "int"=none
 Zi:mg "isinstance"=none
 len:mg "len"=none
 Zg:mg "list"=none
 ZQ:mg "max"=none
 ZR:mg "min"=none
 Zc:mg "range"=none
 ZS:mg "set"=none
 Zh:mg "sorted"=none
 Zf:mg "str"=none
 ZO:mg "sum"=none
 Z8:mg "tuple"=none
 Zy:∃u,mg "HOLDERS"=some u/\RelV (.int 10) u
 Z1:∃u,mg "STRIPS"=some u/\RelV (.int 40) u
 Z2:∃u,mg "WIDEST"=some u/\RelV (.int 1000) u
 Zn:∃u,mg "MOST_WISHES"=some u/\RelV (.int 20) u
 Zp:∃u,mg "MOST_DEEDS"=some u/\RelV (.int 100) u
 ZL:∃u,mg "FIGURES"=some u/\RelV (.str "0123456789") u
 Z3:∃u,mg "MOST_FIGURES"=some u/\RelV (.int 4) u
 Zu:Own.FX K w.params mg "DEEDS" [("sell",2),("part",2),("unite",1),("wish",2),("drop",2)]
 Z4:Own.FX K w.params mg "OTHERS" [("back",0),("field",0),("wishes",0),("stood",1),("ring",0),("order",0),("cost",0),("moves",0),("offer",2)]
 ZP:Own.Zaq K mg "ORDERS" ["price","broken"]
 Zj:mg "TooManyStrips"=some (.ref<|ExcR.XQ mg "TooManyStrips")
 Zv:ExcR.KO K (ExcR.XQ mg "TooManyStrips")
 Zo:mg "BadHolder"=some (.ref<|ExcR.XQ mg "BadHolder")
 Z7:ExcR.KO K (ExcR.XQ mg "BadHolder")
 Z9:mg "BadWidth"=some (.ref<|ExcR.XQ mg "BadWidth")
 ZA:ExcR.KO K (ExcR.XQ mg "BadWidth")
 ZG:mg "NoStrip"=some (.ref<|ExcR.XQ mg "NoStrip")
 ZT:ExcR.KO K (ExcR.XQ mg "NoStrip")
 Zq:mg "BadOrder"=some (.ref<|ExcR.XQ mg "BadOrder")
 ZC:ExcR.KO K (ExcR.XQ mg "BadOrder")
 ZD:mg "OwnStrip"=some (.ref<|ExcR.XQ mg "OwnStrip")
 ZU:ExcR.KO K (ExcR.XQ mg "OwnStrip")
 ZH:mg "BadPart"=some (.ref<|ExcR.XQ mg "BadPart")
 ZV:ExcR.KO K (ExcR.XQ mg "BadPart")
 Zw:mg "UnlikeHolders"=some (.ref<|ExcR.XQ mg "UnlikeHolders")
 ZW:ExcR.KO K (ExcR.XQ mg "UnlikeHolders")
 ZI:mg "TooWide"=some (.ref<|ExcR.XQ mg "TooWide")
 ZX:ExcR.KO K (ExcR.XQ mg "TooWide")
 Zl:mg "LikeHolders"=some (.ref<|ExcR.XQ mg "LikeHolders")
 Zz:ExcR.KO K (ExcR.XQ mg "LikeHolders")
 Zm:mg "WishStands"=some (.ref<|ExcR.XQ mg "WishStands")
 Z5:ExcR.KO K (ExcR.XQ mg "WishStands")
 Zk:mg "TooManyWishes"=some (.ref<|ExcR.XQ mg "TooManyWishes")
 Zx:ExcR.KO K (ExcR.XQ mg "TooManyWishes")
 ZK:mg "NoWish"=some (.ref<|ExcR.XQ mg "NoWish")
 ZY:ExcR.KO K (ExcR.XQ mg "NoWish")
 Zr:mg "BookFull"=some (.ref<|ExcR.XQ mg "BookFull")
 ZE:ExcR.KO K (ExcR.XQ mg "BookFull")
 Z0:mg "NothingDone"=some (.ref<|ExcR.XQ mg "NothingDone")
 ZZ:ExcR.KO K (ExcR.XQ mg "NothingDone")
 Z6:mg "NoSuchDeed"=some (.ref<|ExcR.XQ mg "NoSuchDeed")
 Ya:ExcR.KO K (ExcR.XQ mg "NoSuchDeed")
 Zt:mg "Ringed"=some (.ref<|ExcR.XQ mg "Ringed")
 Yb:∃g,ExcR.Tw K (ExcR.XQ mg "Ringed") g
 Yc:PySem.W.exmOne K (.ref<|ExcR.XQ mg "Ringed") (.ref<|ExcR.XQ mg "Ringed")=some true
 ex:Pu.ExOk K mg ["Ringed","BadOrder"] ["TooManyStrips","BadHolder","NoStrip","OwnStrip","BadPart","UnlikeHolders","TooWide","LikeHolders","WishStands","TooManyWishes","NoWish","BookFull","NothingDone","NoSuchDeed","BadOrder","Ringed"]
 ZJ:mg "Village"=some (.ref<|ExcR.XQ mg "Village")
 Za:Cls K (ExcR.XQ mg "Village")
 Zb:NoAttr K (ExcR.XQ mg "Village") "book"
 Zd:NoAttr K (ExcR.XQ mg "Village") "fields"
 Ze:NoAttr K (ExcR.XQ mg "Village") "wished"
def DL:Pu.FldAt "book" ["book","fields","wished"] 0:=.of (by decide +kernel) (by decide +kernel) rfl
def Zly:Pu.PutAt "book" []:=.of (by decide +kernel)
def Iw:Pu.FldAt "fields" ["book","fields","wished"] 1:=.of (by decide +kernel) (by decide +kernel) rfl
def Zcz:Pu.PutAt "fields" ["book"]:=.of (by decide +kernel)
def RU:Pu.FldAt "wished" ["book","fields","wished"] 2:=.of (by decide +kernel) (by decide +kernel) rfl
def Zex:Pu.PutAt "wished" ["book","fields"]:=.of (by decide +kernel)
def NZ:Pu.NoFld "strips" ["book","fields","wished"]:=.of (by decide +kernel)
def BG:Pu.NoFld "wishes" ["book","fields","wished"]:=.of (by decide +kernel)
def Zqp:Pu.NoFld "check_room" ["book","fields","wished"]:=.of (by decide +kernel)
def Znk:Pu.NoFld "enter" ["book","fields","wished"]:=.of (by decide +kernel)
def Zev:Pu.NoFld "wish" ["book","fields","wished"]:=.of (by decide +kernel)
def Lz:Pu.NoFld "order" ["book","fields","wished"]:=.of (by decide +kernel)
def Zjr:Pu.NoFld "cost" ["book","fields","wished"]:=.of (by decide +kernel)
def Zfb:Pu.NoFld "moves" ["book","fields","wished"]:=.of (by decide +kernel)
def Zj6:Pu.NoFld "price" ["book","fields","wished"]:=.of (by decide +kernel)
def Zie:Pu.NoFld "broken" ["book","fields","wished"]:=.of (by decide +kernel)
end T
namespace M
open L2 Own Pu
noncomputable def Znp:Pc:=λb R X=>∃h:Int,b=[.int h]/\Tx (BO h) X (R<|.sh .non)
noncomputable def DQ(h:Int):Option Str:=if 1<=h/\h<=1000 then none else some "BadWidth"
noncomputable def Zhv:Pc:=λb R X=>∃h:Int,b=[.int h]/\Tx (DQ h) X (R<|.sh .non)
noncomputable def Ra(_:Yd):Sp:=λg H Q _=>∃(l:Addr) (b:Ye),g=[.ref l]/\LAt PB H l b/\Field b/\b.length<=50/\
 ∀(q:Addr) (f:Hp),H q=none->Same H f->f q=some (.lst ((XJ b).map V.int))->Q (.ref q) f
noncomputable def Ry:Pc:=λf R _=>∃b:Ye,f=[.lst (b.map prD)]/\Field b/\b.length<=50/\R (.own ((XJ b).map D.int))
def Fe{P:Program}{w:World}{K:Yd}{b:Yh}{base:Heap}(C:Callee P w K b base CX0 1 "holders_of" ["strips"] (Ra K)):Callee P w K b base CX0 1 "holders_of" ["strips"] (XO b Ry K):=Zqo C λB R X z H Q E r o u A=>by
 obtain⟨g,rfl,x,n,s⟩:=o;obtain⟨v,rfl,f⟩:=r.one_inv;obtain⟨a,rfl,p⟩:=f.pairs_inv;exact⟨a,g,rfl,p,x,n,λq y l S h=>u _ _ y s S (Zp8 l h)⟩
noncomputable def Zp3:Pc:=λf R _=>∃(b:Ye) (x y:Int),f=[.lst (b.map prD),.int x,.int y]/\Field b/\R (.sh<|.int<|pcM b x y b.length)
noncomputable def Zcd:Pc:=λf R _=>∃b:Ye,f=[.lst (b.map prD)]/\b.length<=1000/\R (.own ((Ka 1 b.length).map D.int))
noncomputable def Zi1:Pc:=λg R _=>∃(b:Ye) (f:Yf) (p:Int),g=[.lst (b.map prD),.lst (f.map D.int),.int p]/\Field b/\(∀n∈f,1<=n/\n<=b.length)/\1<=p/\p<f.length/\R (.sh<|.int<|exM b f p.toNat)
noncomputable def Zef:Pc:=λf R _=>∃(b:Yf) (p:Int),f=[.lst (b.map D.int),.int p]/\1<=p/\p<b.length/\b.length<=1000/\R (.own ((KA b p.toNat).map D.int))
noncomputable def Zpy:Pc:=λg R _=>∃b f:Yf,g=[.lst (b.map D.int),.lst (f.map D.int)]/\(∀m∈b,1<=m/\m<=f.length)/\b.length<=1000/\∀p:Nat,FW (b.map λm=>f.getD (m-1).toNat 0) p->R (.sh<|.int p)
noncomputable def TU(os:Yf)(q:Int×Int):Bool:=decide (q.1∈os)&&decide (q.2∈os.take (os.idxOf q.1))
noncomputable def Zoo:Pc:=λf R _=>∃(os:Yf) (b:Ye),f=[.lst (os.map D.int),.lst (b.map prD)]/\os.Nodup/\os.length<=50/\b.length<=50/\R (.own ((b.filter<|TU os).map prD))
noncomputable def Zlo:Pc:=λo R _=>∃(l:Int) (f:List (Yf)) (b:Yf) (n:Ye),o=[.lst (f.map<|em l),.lst (b.map D.int),.lst (n.map prD)]/\f.Pairwise sl/\b.Pairwise (· < ·)/\(∀p∈f,p.length<=100)/\b.length<=100/\
 ∀g,LG n l (λp h=>p∈f/\h∈b) g->g.length<=b.length->R (.own<|g.map<|em l)
noncomputable def Zc0:Pc:=λf R _=>∃b:Yf,f=[.lst (b.map D.int)]/\b.length<=10/\R (.own ((Kj b).map tD))
noncomputable def Zb6:Pc:=λf R _=>∃(b:Yf) (h:Int),f=[tD b,.int h]/\b.length<=1000/\R (.sh<|tD<|XZ b h)
noncomputable def Zl8:Pc:=λg R _=>∃(f:Yf) (h:Int) (b:Ye),g=[tD f,.int h,.lst (b.map prD)]/\b.length<=50/\R (.sh<|.bl<|Ni b f h)
noncomputable def Zcw:Pc:=λg R _=>∃(f:Yf) (h:Int) (b:Ye),g=[tD f,.int h,.lst (b.map prD)]/\b.length<=50/\R (.sh<|.bl<|firstM b f h)
noncomputable def Znl(C:Addr):Pc:=λg R _=>∃(bk:List (Str×Yf)) (fs b:List (Ye)) (f:Ye),g=[Nd C bk (fs++[f]) b]/\R (.own<|f.map prD)
noncomputable def Zm9(C:Addr):Pc:=λg R _=>∃(bk:List (Str×Yf)) (fs b:List (Ye)) (f:Ye),g=[Nd C bk fs (b++[f])]/\R (.own<|f.map prD)
noncomputable def Ee(bk:List (Str×Yf)):Option Str:=if 100<=bk.length then some "BookFull" else none
noncomputable def Zhc(C:Addr):Pc:=λf R X=>∃(bk:List (Str×Yf)) (fs b:List (Ye)),f=[Nd C bk fs b]/\Tx (Ee bk) X (R<|.sh .non)
noncomputable def Zes(C:Addr):Pw:=λo l R _=>∃(x b1 h g:Addr) (bk:List (Str×Yf)) (fs b:List (Ye)) (q:Str×Yf) (f w:Ye),o=vO C x b1 h g bk fs b/\l=[.sh (dD q),.sh (plD f),.sh (plD w)]/\bk.length<=1000/\fs.length<=1000/\b.length<=1000/\
 R (vO C x b1 h g (bk++[q]) (fs++[f]) (b++[w])) (.int (bk.length+1))
noncomputable def Zpm:Pc:=λb R _=>∃x:Str,b=[.str x]/\x.length<=sizeLine/\x.cps.all (· < 128)=true/\R (.sh<|.bl<|Tn x)
noncomputable def Zgz:Pc:=λf R _=>∃b:Ym,f=[.lst (b.map D.str)]/\JoinOk spc b=true/\R (.sh<|.str (if b=[]then "none" else Txt.join spc b))
noncomputable def Zbp:Pc:=λf R _=>∃(b:Yf) (k:Int),f=[.scr b,.int k]/\0<=k/\∀v:Int,R (.sh<|.int v)
noncomputable def Zcy:Pc:=λb R _=>∃c p:Int,b=[.int c,.int p]/\∀v:Int,R (.sh<|.int v)
noncomputable def Zeb:Pc:=λb R _=>∃c:Int,b=[.int c]/\∀m,Fp m->R (.own<|m.map D.int)
noncomputable def Zka:Pc:=λb R _=>∃(m:Yf) (k:Int),b=[.lst (m.map D.int),.int k]/\Fp m/\∀h:Int,1<=h->h<=10->h=Dd m k->R (.sh<|.int h)
noncomputable def Zdx:Pc:=λf R _=>∃b:Ye,f=[.lst (b.map prD)]/\b.length<=50/\R (.own ((XJ b).map D.int))
noncomputable def Zlt:Pc:=λf R _=>∃(b:Ye) (os:Yf),f=[.lst (b.map prD),.lst (os.map D.int)]/\Field b/\b.length<=50/\(∀p∈b,p.1∈os)/\R (.sh<|.int<|KL b os b.length)
noncomputable def PX(os:Yf)(q:Int×Int):Bool:=decide (q.1∈os)&&(decide (q.2∈os)&&decide (os.idxOf q.2<os.idxOf q.1))
noncomputable def Zjw:Pc:=λf R _=>∃(os:Yf) (b:Ye),f=[.lst (os.map D.int),.lst (b.map prD)]/\((∀q∈b,PX os q=false)->R (.sh<|.bl true))/\((∃q∈b,PX os q=true)->R (.sh<|.bl false))
noncomputable def Zfz:Pc:=λg R _=>∃(b:Yf) (f:Ye),g=[.lst (b.map D.int),.lst (f.map prD)]/\b.length<=50/\f.length<=50/\R (.sh<|.bl<|decide (Kl f b b.length=[]))
noncomputable def Zpd:Pc:=λg R _=>∃(f:Yf) (b:Ye) (c:Int),g=[.lst (f.map D.int),.lst (b.map prD),.int c]/\f.Nodup/\f.length<=50/\b.length<=50/\(∀q∈b,q.1≠q.2)/\(¬ ∃r,Ring f b r)/\
 ∀o,o.Perm f->Keeps b o->R (.own<|o.map D.int)
noncomputable def Zdb:Pc:=λf R _=>∃(b:Ye) (o:Yf),f=[plD b,.lst (o.map D.int)]/\b.length<=50/\o.length<=50/\R (.own ((o.flatMap<|KZ b).map D.int))
noncomputable def Zho:Pc:=λf R _=>∃(b:Yf) (m:Int),f=[.str (Py b),.int m]/\(∀n∈b,1<=n/\n<=m)/\0<=m/\m<=100/\b.length<=2000/\R (.own<|b.map D.int)
noncomputable def Zix:Pc:=λb R _=>∃(word:Str) (os:Yf),(∃d:D,b=[.str word,d]/\(d=.lst (os.map D.int)\/d=.tup (os.map D.int)))/\word.length<=6/\(∀n∈os,0<=n/\n<=9999)/\os.length<=60/\R (.sh<|.str<|Str.join spc (word::os.map nS))
noncomputable def Zqq:Pc:=λf R X=>∃b:Ye,f=[plD b]/\b.length<=1000/\Tx (Bf b) X (R<|.sh .non)
noncomputable def Zhl:Pc:=λf R X=>∃(b:Ye) (os:Yf),f=[plD b,.lst (os.map D.int)]/\Field b/\b.length<=50/\os.length<64/\Tx (T5 b os) X (R<|.sh .non)
noncomputable def Zro:Pc:=λg R _=>∃(l:Int) (b:Yf) (f:Ye),g=[.int l,.lst (b.map D.int),.lst (f.map prD)]/\b.Nodup/\b.length<=50/\∀r,RF b f l r->r.length<=60->R (.sh<|.lst<|r.map D.int)
noncomputable def Zqy:Pc:=λg R X=>∃(f:Ye) (a b:Int),g=[plD f,.int a,.int b]/\f.length<=1000/\Tx (TR f a b) X (R<|.own ((f++[(a,b)]).map prD))
noncomputable def Zla:Pc:=λg R _=>∃b:Ye,g=[.lst (b.map prD)]/\Field b/\b.length<=50/\
 ∀f:List (List Key×V),(∀x∈XJ b,∀y∈XJ b,XX f [.inl x,.inl y]=some (.int<|pcM b x y b.length))->R (.own<|.dT f)
noncomputable def Zk2:Pc:=λg R _=>∃(b:Yf) (l:Int) (le f:List (List Key×V)) (c:Int->Int) (v:Int),g=[tD b,.int l,.dT le,.dT f]/\b.length<=1000/\XX le (kT<|XZ b l)=some (.int v)/\
 (∀m∈XZ b l,XX f [.inl m,.inl l]=some (.int<|c m))/\R (.sh<|.int (v+((XZ b l).map c).sum))
noncomputable def Zog:Pc:=λg R _=>∃(b:Yf) (l:Int) (le f:List (List Key×V)) (c:Int->Int) (v:Int),g=[tD b,.int l,.dT le,.dT f]/\b.length<=1000/\XX le (kT<|XZ b l)=some (.int v)/\
 (∀m∈XZ b l,XX f [.inl l,.inl m]=some (.int<|c m))/\R (.sh<|.int (v+((XZ b l).map c).sum))
noncomputable def Zqd:Pc:=λb R _=>∃(w:Str) (os:Yf),b=[.str w,.lst (os.map λn=>D.str (nS n))]/\((w,os.length)∈[(("wish" : Str),2),("field",0),("wishes",0),("order",0),("cost",0),("moves",0)]\/w=("price" : Str)\/w=("broken" : Str))/\(∀n∈os,0<=n/\n<=9999)/\os.length<=100/\R (.sh<|.bl true)
noncomputable def Zpu:Pc:=λf R _=>∃b:Yf,f=[.lst (b.map D.int)]/\b.length<=2000/\(∀n∈b,0<=n/\n<=9999)/\R (.sh<|.str<|Py b)
noncomputable def txS(q:Int×Int):Str:=nS q.1++":"++nS q.2
noncomputable def BQ(b:Ye):Str:=if b=[]then "none" else Txt.join spc (b.map txS)
noncomputable def Zkk:Pc:=λf R _=>∃b:Ye,f=[.lst (b.map prD)]/\b.length<=50/\(∀q∈b,(0<=q.1/\q.1<=1000)/\(0<=q.2/\q.2<=1000))/\R (.sh<|.str<|BQ b)
noncomputable def wS(q:Int×Int):Str:=nS q.1++">"++nS q.2
noncomputable def S9(b:Ye):Str:=if b=[]then "none" else Txt.join spc (b.map wS)
noncomputable def Zdk:Pc:=λf R _=>∃b:Ye,f=[.lst (b.map prD)]/\b.length<=50/\(∀q∈b,(0<=q.1/\q.1<=10)/\(0<=q.2/\q.2<=10))/\R (.sh<|.str<|S9 b)
noncomputable def Zg7:Pc:=λf R _=>∃(b:Yf) (k:Int),f=[.scr b,.int k]/\0<=k/\∀v:Int,R (.sh<|.int v)
noncomputable def Zom:Pc:=λf R _=>∃b:Yf,f=[.scr b]/\∀v:Int,R (.sh<|.int v)
noncomputable def Zf1:Pc:=λh R _=>∃(f:Ye) (b:Yf),h=[.lst (f.map prD),.lst (b.map D.int)]/\f.length<=40/\b.length<=50/\
 ∀g:Ye,g.Sublist f->Kl g b b.length=[]->R (.own<|g.map prD)
noncomputable def Znj:Pc:=λg R _=>∃(f:Ye) (o:Yf) (b:List Mo),g=[.lst ((b.map (·.1)).map D.int),plD f,.lst (o.map D.int)]/\Field f/\f.length<=40/\o.Perm (XJ f)/\Mv f (rkN f o) (Ka 1 f.length) b/\R (.sh<|.bl true)
noncomputable def Zrd:Pc:=λf R X=>∃(b:Ye) (os:Yf),f=[plD b,.lst (os.map D.int)]/\Field b/\b.length<=50/\os.length<64/\Tx (T5 b os) X (R<|.sh<|.int<|K6 b b.length os)
noncomputable def Zk4:Pc:=λg R _=>∃(b:Ye) (o:Yf),g=[plD b,.lst (o.map D.int)]/\Field b/\b.length<=40/\o.Perm (XJ b)/\∀f:List Mo,Mv b (rkN b o) (Ka 1 b.length) f->R (.own<|f.map mvD)
noncomputable def Zpq:Pc:=λg R _=>∃(b:Yf) (f:Ye),g=[.lst (b.map D.int),.lst (f.map prD)]/\b.Nodup/\b.length<=50/\∀r,FR b f r->r.length<=60->R (.sh<|.lst<|r.map D.int)
noncomputable def Zet:Pc:=λl R _=>∃(b f:Ye) (h:List (List Key×V)) (c:Int->Int->Int),l=[.lst (b.map prD),.lst (f.map prD),.dT h]/\Field b/\b.length<=50/\f.length<=50/\(∀q∈f,q.1≠q.2)/\
 (∀x∈XJ b,∀y∈XJ b,XX h [.inl x,.inl y]=some (.int<|c x y))/\Iv (XJ b) f/\∀g,Tab f c (Kj<|XJ b) g->R (.own<|.dT g)
noncomputable def Zo5(C:Addr):Pw:=λo f R X=>∃(x:Addr) (b:Ye),o=.ins x C [] []/\f=[.sh (plD b)]/\b.length<=1000/\Tx (Bf b) (X<|.ins x C [] []) (∀b1 h g,R (vO C x b1 h g [] [b] [[]]) .non)
noncomputable def Br(bk:List (Str×Yf))(w:Ye)(a b:Int):Option Str:=if 100<=bk.length then some "BookFull" else TR w a b
noncomputable def Zoc(C:Addr):Pw:=λo n R X=>∃(x b1 l g:Addr) (bk:List (Str×Yf)) (fs b:List (Ye)) (f w:Ye) (p h:Int),o=vO C x b1 l g bk (fs++[f]) (b++[w])/\n=[.sh (.int p),.sh (.int h)]/\bk.length<=1000/\fs.length<=900/\b.length<=900/\w.length<=1000/\
 Tx (Br bk w p h) (X<|vO C x b1 l g bk (fs++[f]) (b++[w])) (R (vO C x b1 l g (bk++[(("wish" : Str),[p,h])]) (fs++[f]++[f]) (b++[w]++[w++[(p,h)]]))<|.int (bk.length+1))
noncomputable def Zk9(C:Addr):Pc:=λg R X=>∃(bk:List (Str×Yf)) (fs b:List (Ye)) (f w:Ye) (os:Yf),g=[Nd C bk (fs++[f]) (b++[w]),.lst (os.map D.int)]/\Field f/\f.length<=50/\os.length<64/\w.length<=50/\Tx (T5 f os) X (R<|.own ((w.filter<|TU os).map prD))
noncomputable def Zch:Pc:=λg R _=>∃(f m:Yf) (n:Int),g=[.scr f,.lst (m.map D.int),.int n]/\Fp m/\0<=n/\n<=1000/\∀b:Ye,Field b->b.length=n.toNat->R (.own<|b.map prD)
noncomputable def Zcu:Pc:=λg R _=>∃(f m:Yf),g=[.scr f,.lst (m.map D.int)]/\Fp m/\∀b,Pt b->R (.own<|b.map prD)
noncomputable def Zq8:Pc:=λg R X=>∃(b f:Ye),g=[.lst (b.map prD),.lst (f.map prD)]/\Field b/\b.length<=50/\(∀q∈f,q.1≠q.2)/\Sq (XJ b) f X (R<|.sh .non)
noncomputable def Zq6(C:Addr):Pc:=λg R X=>∃(bk:List (Str×Yf)) (fs b:List (Ye)) (f:Ye) (os:Yf),g=[Nd C bk (fs++[f]) b,.lst (os.map D.int)]/\Field f/\f.length<=50/\os.length<64/\Tx (T5 f os) X (R<|.sh<|.int<|K6 f f.length os)
noncomputable def Ziw(C:Addr):Pw:=λo n R _=>∃(x b1 l g:Addr) (bk:List (Str×Yf)) (fs b:List (Ye)) (f w:Ye) (p h:Int),o=vO C x b1 l g bk (fs++[f]) (b++[w])/\n=[.sh (.str ("wish" : Str)),.sh (.lst ([p,h].map D.int))]/\bk.length<=1000/\fs.length<=900/\b.length<=900/\w.length<=1000/\
 Br bk w p h=none/\R (vO C x b1 l g (bk++[(("wish" : Str),[p,h])]) (fs++[f]++[f]) (b++[w]++[w++[(p,h)]])) (.int (bk.length+1))
noncomputable def Zmk:Pc:=λh R X=>∃(b f:Ye),h=[.lst (b.map prD),.lst (f.map prD)]/\Field b/\b.length<=50/\f.length<=50/\(∀q∈f,q.1≠q.2)/\Sq (XJ b) f X (∀g,OJ f (pcc b) (Kj<|XJ b) g->R (.own<|g.map D.int))
noncomputable def Zgw:Pc:=λg R X=>∃(b f:Ye),g=[.lst (b.map prD),.lst (f.map prD)]/\Field b/\b.length<=50/\f.length<=50/\(∀q∈f,q.1≠q.2)/\Sq (XJ b) f X (∀o,Pv f (pcc b) (XJ b) o->R (.own<|o.map D.int))
noncomputable def Zbn:Pc:=λg R X=>∃(b f:Ye),g=[.lst (b.map prD),.lst (f.map prD)]/\Field b/\b.length<=50/\f.length<=50/\(∀q∈f,q.1≠q.2)/\Sq (XJ b) f X (∀v,KQ f (pcc b) (XJ b) v->R (.sh<|.int v))
noncomputable def Zo2(C:Addr):Pc:=λg R X=>∃(bk:List (Str×Yf)) (fs b:List (Ye)) (f w:Ye),g=[Nd C bk (fs++[f]) (b++[w])]/\Field f/\f.length<=50/\w.length<=50/\(∀q∈w,q.1≠q.2)/\Sq (XJ f) w X (∀o,Pv w (pcc f) (XJ f) o->R (.own<|o.map D.int))
noncomputable def Zb0(C:Addr):Pc:=λg R X=>∃(bk:List (Str×Yf)) (fs b:List (Ye)) (f w:Ye),g=[Nd C bk (fs++[f]) (b++[w])]/\Field f/\f.length<=50/\w.length<=50/\(∀q∈w,q.1≠q.2)/\Sq (XJ f) w X (∀v,KQ w (pcc f) (XJ f) v->R (.sh<|.int v))
noncomputable def Zkq(C:Addr):Pc:=λh R X=>∃(bk:List (Str×Yf)) (fs g:List (Ye)) (f w:Ye),h=[Nd C bk (fs++[f]) (g++[w])]/\Field f/\f.length<=40/\w.length<=50/\(∀q∈w,q.1≠q.2)/\Sq (XJ f) w X (∀o b,Pv w (pcc f) (XJ f) o->Mv f (rkN f o) (Ka 1 f.length) b->R (.own<|b.map mvD))
theorem Bp(ps:Ye):∀o:Yf,oc (pcc ps) o=K6 ps ps.length o
 |[]=>rfl
 |a::r=>by
  unfold oc K6;rw[Bp ps r];rfl
def Av{f:Ye}{os:Yf}(h:Field f)(b:f.length<=40)(g:os.length<=10):0<=K6 f f.length os/\K6 f f.length os<=160000000000:=by
 have:=Lx (c:=pcc f) (λx y=>by have:=Hg h b x y f.length (WG _);unfold pcc;lia) os g
 rw[Bp]at this;lia
def FN{i:Int}(h:0<=i/\i<=160000000000):i.natAbs.log2<1920:=by
 by_cases z:i.natAbs=0
 ·rw[z];decide
 ·exact Qj ((Nat.log2_lt z).mpr (QJ (show i.natAbs<=160000000000 by lia)<|show 160000000000<2 ^ 40 by decide)) (by decide)
def BY(f w:Ye)(word:Str)(os:Yf)(R:Str->Prop):Prop:=
 word=("field" : Str)/\os=[]/\R (BQ f)\/word=("wishes" : Str)/\os=[]/\R (S9 w)\/
 word=("order" : Str)/\os=[]/\(∀o,Pv w (pcc f) (XJ f) o->R (Py o))\/word=("cost" : Str)/\os=[]/\(∀v,KQ w (pcc f) (XJ f) v->R (nS v))\/
 word=("moves" : Str)/\os=[]/\(∀o b,Pv w (pcc f) (XJ f) o->Mv f (rkN f o) (Ka 1 f.length) b->R (Py<|b.map (·.1)))\/
 word=("price" : Str)/\os.Perm (XJ f)/\R (nS<|K6 f f.length os)\/word=("broken" : Str)/\os.Perm (XJ f)/\R (S9<|w.filter<|TU os)
def Zke{f w:Ye}{word:Str}{os:Yf}{R:Str->Prop}(h:BY f w word os R):word∈[("field" : Str), "wishes","order","cost","moves","price","broken"]/\(os=[]\/(word=("price" : Str)\/word=("broken" : Str))/\os.Perm (XJ f)):=by
 rcases h with⟨rfl,h,_⟩|⟨rfl,h,_⟩|⟨rfl,h,_⟩|⟨rfl,h,_⟩|⟨rfl,h,_⟩|⟨rfl,h,_⟩|⟨rfl,h,_⟩
 iterate 5 exact⟨by simp,.inl h⟩
 ·exact⟨by simp,.inr ⟨.inl rfl,h⟩⟩
 ·exact⟨by simp,.inr ⟨.inr rfl,h⟩⟩
def Oq{f w:Ye}{word:Str}{os:Yf}{R g:Str->Prop}(h:∀t,R t->g t)(q:BY f w word os R):BY f w word os g:=
 q.imp (λz=>⟨z.1,z.2.1,h _ z.2.2⟩) (.imp (λz=>⟨z.1,z.2.1,h _ z.2.2⟩)<|.imp (λz=>⟨z.1,z.2.1,λo b=>h _ (z.2.2 o b)⟩)<|.imp (λz=>⟨z.1,z.2.1,λo b=>h _ (z.2.2 o b)⟩)<|.imp (λz=>⟨z.1,z.2.1,λo l b n=>h _ (z.2.2 o l b n)⟩) (.imp (λz=>⟨z.1,z.2.1,h _ z.2.2⟩) λz=>⟨z.1,z.2.1,h _ z.2.2⟩))
noncomputable def Zcr(C:Addr):Pc:=λg R _=>∃(bk:List (Str×Yf)) (fs b:List (Ye)) (f w:Ye) (os:Yf) (word:Str),g=[Nd C bk (fs++[f]) (b++[w]),.str word,.lst (os.map D.int)]/\Field f/\f.length<=40/\Pt w/\(¬ ∃r,Ring (XJ f) w r)/\BY f w word os λt=>R (.sh<|.str t)
def Sa(C x b1 b2 g:Addr)(bk:List (Str×Yf))(fs b:List (Ye))(f w:Ye)(word:Str)(os:Yf)(R:O->D->Prop):Prop:=
 (word=("wish" : Str)/\∃p h,os=[p,h]/\Br bk w p h=none/\R (vO C x b1 b2 g (bk++[(("wish" : Str),[p,h])]) (fs++[f]++[f]) (b++[w]++[w++[(p,h)]])) (.str (("done " : Str)++nS (bk.length+1))))\/
 (¬ ∃r,Ring (XJ f) w r)/\BY f w word os λt=>R (vO C x b1 b2 g bk (fs++[f]) (b++[w])) (.str t)
def EM{C x b1 b2 n:Addr}{bk:List (Str×Yf)}{fs o:List (Ye)}{f w:Ye}{word:Str}{os:Yf}{R s:O->D->Prop}(h:∀l g b d,R (vO C x b1 b2 n l g b) d->s (vO C x b1 b2 n l g b) d)(q:Sa C x b1 b2 n bk fs o f w word os R):Sa C x b1 b2 n bk fs o f w word os s:=
 q.imp (λ⟨e,p,k,v,u,r⟩=>⟨e,p,k,v,u,h _ _ _ _ r⟩) λz=>⟨z.1,Oq (λ_ r=>h _ _ _ _ r) z.2⟩
def LC{C x b1 b2 g:Addr}{bk:List (Str×Yf)}{fs b:List (Ye)}{f w:Ye}{word:Str}{os:Yf}{R:O->D->Prop}(q:Sa C x b1 b2 g bk fs b f w word os R):word∈[("wish" : Str), "field","wishes","order","cost","moves","price","broken"]/\((word,os.length)∈[(("wish" : Str),2),("field",0),("wishes",0),("order",0),("cost",0),("moves",0)]\/word=("price" : Str)\/word=("broken" : Str)):=by
 rcases q with⟨rfl,p,k,rfl,_⟩|⟨_,h⟩
 ·exact⟨by simp,.inl (by simp)⟩
 ·rcases h with⟨rfl,rfl,_⟩|⟨rfl,rfl,_⟩|⟨rfl,rfl,_⟩|⟨rfl,rfl,_⟩|⟨rfl,rfl,_⟩|⟨rfl,_⟩|⟨rfl,_⟩
  iterate 5 exact⟨by simp,.inl (by simp)⟩
  ·exact⟨by simp,.inr (.inl rfl)⟩
  ·exact⟨by simp,.inr (.inr rfl)⟩
noncomputable def Zft(C:Addr):Pw:=λo l R _=>∃(x b1 h g:Addr) (bk:List (Str×Yf)) (fs b:List (Ye)) (f w:Ye) (word:Str) (os:Yf),o=vO C x b1 h g bk (fs++[f]) (b++[w])/\l=[.sh (.str word),.sh (.lst<|os.map D.int)]/\bk.length<=800/\fs.length<=800/\b.length<=800/\Field f/\f.length<=40/\Pt w/\Sa C x b1 h g bk fs b f w word os R
noncomputable def Ze3(C:Addr):Pw:=λo l R _=>∃(x b1 h g:Addr) (bk:List (Str×Yf)) (fs b:List (Ye)) (f w:Ye) (word:Str) (os:Yf),o=vO C x b1 h g bk (fs++[f]) (b++[w])/\l=[.sh (.str word),.sh (.lst<|os.map D.int)]/\bk.length<=800/\fs.length<=800/\b.length<=800/\Field f/\f.length<=40/\Pt w/\Sa C x b1 h g bk fs b f w word os R
noncomputable def Zfa(C:Addr):Pw:=λo l R _=>∃(x b1 h g:Addr) (bk:List (Str×Yf)) (fs b:List (Ye)) (f w:Ye) (word:Str) (os:Yf),o=vO C x b1 h g bk (fs++[f]) (b++[w])/\l=[.sh (.str<|Str.join spc (word::os.map nS))]/\(∀n∈os,0<=n/\n<=9999)/\os.length<=60/\bk.length<=800/\fs.length<=800/\b.length<=800/\Field f/\f.length<=40/\Pt w/\Sa C x b1 h g bk fs b f w word os R
noncomputable def Zc4(C:Addr):Pw:=λo p R _=>∃(x b1 l h:Addr) (bk:List (Str×Yf)) (fs g:List (Ye)) (f w:Ye) (word:Str) (os:Yf) (b:Str),o=vO C x b1 l h bk (fs++[f]) (g++[w])/\p=[.sh (.str<|Str.join spc (word::os.map nS)),.sh (.str b)]/\(∀n∈os,0<=n/\n<=9999)/\os.length<=60/\bk.length<=800/\fs.length<=800/\g.length<=800/\Field f/\f.length<=40/\Pt w/\Sa C x b1 l h bk fs g f w word os λq d=>d=.str b/\R q (.bl true)
noncomputable def Zpf(C:Addr):Pw:=λo l R _=>∃(x b1 h g:Addr) (bk:List (Str×Yf)) (fs b:List (Ye)) (f w:Ye),o=vO C x b1 h g bk (fs++[f]) (b++[w])/\l=[.sh (plD f),.sh (plD w)]/\bk.length<=800/\fs.length<=800/\b.length<=800/\Field f/\f.length<=40/\Pt w/\(¬ ∃r,Ring (XJ f) w r)/\R (vO C x b1 h g bk (fs++[f]) (b++[w])) (.bl true)
noncomputable def Zdh(C:Addr):Pw:=λo l R _=>∃(x b1 h g:Addr) (bk:List (Str×Yf)) (fs b:List (Ye)) (f w:Ye) (os:Yf),o=vO C x b1 h g bk (fs++[f]) (b++[w])/\l=[.sh (plD f),.sh (plD w),.sh (.lst<|os.map D.int)]/\bk.length<=800/\fs.length<=800/\b.length<=800/\Field f/\f.length<=40/\Pt w/\(¬ ∃r,Ring (XJ f) w r)/\Pv w (pcc f) (XJ f) os/\R (vO C x b1 h g bk (fs++[f]) (b++[w])) (.bl true)
structure Fv (P:Program) (w:World) (K:Yd) (mg:Yh) (base:Heap):Type
variable {P:Program}{w:World}{K:Yd}{mg:Yh}{base:Heap}
abbrev Cal(_:Fv P w K mg base):=Callee P w K mg base
abbrev Cam(_:Fv P w K mg base):=P7 P w K mg base
abbrev Cxe(_:Fv P w K mg base):=ExcR.CXe P w
abbrev Kd(_:Fv P w K mg base):=ExcR.XQ mg "Village"
variable (ζ:Fv P w K mg base)
abbrev Zp7:Prop:=Cam ζ CX0 1 (ExcR.Tw K<|ExcR.XQ mg "Ringed") ["self","members"] (ExcR.B5 K)
abbrev Ob:Prop:=Cal ζ (Cxe ζ) 1 "check_holder" ["holder"] (XO mg Znp K)
abbrev G7:Prop:=Cal ζ (Cxe ζ) 1 "check_width" ["width"] (XO mg Zhv K)
abbrev Zi8:Prop:=Cal ζ CX0 1 "holders_of" ["strips"] (XO mg Ry K)
abbrev LQ:Prop:=Cal ζ CX0 1 "pair_cost" ["strips","ahead","behind"] (XO mg Zp3 K)
abbrev Mw:Prop:=Cal ζ CX0 1 "own_numbers" ["strips"] (XO mg Zcd K)
abbrev Ms:Prop:=Cal ζ CX0 1 "exchange_cost" ["strips","numbers","place"] (XO mg Zi1 K)
abbrev HC:Prop:=Cal ζ CX0 1 "exchanged" ["numbers","place"] (XO mg Zef K)
abbrev MS:Prop:=Cal ζ CX0 1 "first_wrong_place" ["numbers","ranks"] (XO mg Zpy K)
abbrev Ly:Prop:=Cal ζ CX0 1 "broken_wishes" ["order","wishes"] (XO mg Zoo K)
abbrev M1:Prop:=Cal ζ CX0 1 "longer_paths" ["paths","left","wishes"] (XO mg Zlo K)
abbrev Zan:Prop:=Cal ζ CX0 1 "sets_of" ["holders"] (XO mg Zc0 K)
abbrev Ls:Prop:=Cal ζ CX0 1 "without" ["members","holder"] (XO mg Zb6 K)
abbrev Rx:Prop:=Cal ζ CX0 1 "may_lie_last" ["members","holder","wishes"] (XO mg Zl8 K)
abbrev IE:Prop:=Cal ζ CX0 1 "may_lie_first" ["members","holder","wishes"] (XO mg Zcw K)
abbrev HV:Prop:=Cam ζ CX0 1 (Ku K (Kd ζ) "strips") ["self"] (XO mg (Znl<|Kd ζ) K)
abbrev Hi:Prop:=Cam ζ CX0 1 (Ku K (Kd ζ) "wishes") ["self"] (XO mg (Zm9<|Kd ζ) K)
abbrev OF:Prop:=Cam ζ (Cxe ζ) 1 (Ku K (Kd ζ) "check_room") ["self"] (XO mg (Zhc<|Kd ζ) K)
abbrev RE:Prop:=Cam ζ CX0 1 (Ku K (Kd ζ) "enter") ["self","deed","field","wishes"] (Pu.spW mg (Zes<|Kd ζ) K)
abbrev Oy:Prop:=Cal ζ CX0 1 "is_number" ["text"] (XO mg Zpm K)
abbrev M4:Prop:=Cal ζ CX0 1 "told_texts" ["texts"] (XO mg Zgz K)
abbrev HM:Prop:=Cal ζ CX0 1 "_law_at" ["_law_script","_law_k"] (XO mg Zbp K)
abbrev Oj:Prop:=Cal ζ CX0 1 "_law_mix" ["_law_cell","_law_place"] (XO mg Zcy K)
abbrev OC:Prop:=Cal ζ CX0 1 "_law_menu" ["_law_cell"] (XO mg Zeb K)
abbrev Oo:Prop:=Cal ζ CX0 1 "_law_holder" ["_law_menu_here","_law_k"] (XO mg Zka K)
abbrev Gk:Prop:=Cal ζ CX0 1 "_law_present" ["_law_strips_here"] (XO mg Zdx K)
abbrev O6:Prop:=Cal ζ CX0 1 "_law_price" ["_law_strips_here","_law_order"] (XO mg Zlt K)
abbrev L6:Prop:=Cal ζ CX0 1 "_law_kept" ["_law_order","_law_wishes_here"] (XO mg Zjw K)
abbrev IB:Prop:=Cal ζ CX0 1 "_law_no_ring" ["_law_holders","_law_wishes_here"] (XO mg Zfz K)
abbrev IU:Prop:=Cal ζ CX0 1 "_law_lined" ["_law_holders","_law_wishes_here","_law_cell"] (XO mg Zpd K)
abbrev OA:Prop:=Cal ζ CX0 1 "_law_ends" ["_law_strips_here","_law_order"] (XO mg Zdb K)
abbrev MY:Prop:=Cal ζ CX0 1 "_law_read" ["_law_text","_law_most"] (XO mg Zho K)
abbrev Rv:Prop:=Cal ζ CX0 1 "_law_named" ["_law_word","_law_order"] (XO mg Zix K)
abbrev HY:Prop:=Cal ζ (Cxe ζ) 2 "check_strips" ["strips"] (XO mg Zqq K)
abbrev OP:Prop:=Cal ζ (Cxe ζ) 2 "check_order" ["strips","order"] (XO mg Zhl K)
abbrev MP:Prop:=Cal ζ CX0 2 "ring_from" ["least","holders","wishes"] (XO mg Zro K)
abbrev Hy:Prop:=Cal ζ (Cxe ζ) 2 "with_wish" ["wishes","ahead","behind"] (XO mg Zqy K)
abbrev MW:Prop:=Cal ζ CX0 2 "pair_costs" ["strips"] (XO mg Zla K)
abbrev Ht:Prop:=Cal ζ CX0 2 "cost_with_last" ["members","last","least","pairs"] (XO mg Zk2 K)
abbrev Ig:Prop:=Cal ζ CX0 2 "cost_with_first" ["members","first","least","pairs"] (XO mg Zog K)
abbrev Zam:Prop:=Cal ζ CX0 2 "is_row" ["word","texts"] (XO mg Zqd K)
abbrev Zbc:Prop:=Cal ζ CX0 2 "told_numbers" ["numbers"] (XO mg Zpu K)
abbrev GA:Prop:=Cal ζ CX0 2 "told_strips" ["strips"] (XO mg Zkk K)
abbrev M6:Prop:=Cal ζ CX0 2 "told_wishes" ["wishes"] (XO mg Zdk K)
abbrev LN:Prop:=Cal ζ CX0 2 "_law_draw" ["_law_script","_law_k"] (XO mg Zg7 K)
abbrev HN:Prop:=Cal ζ CX0 2 "_law_spare" ["_law_script"] (XO mg Zom K)
abbrev M7:Prop:=Cal ζ CX0 2 "_law_keepable" ["_law_wishes_here","_law_holders"] (XO mg Zf1 K)
abbrev LY:Prop:=Cal ζ CX0 2 "_law_places_lead" ["_law_places","_law_strips_here","_law_order"] (XO mg Znj K)
abbrev R9:Prop:=Cal ζ (Cxe ζ) 3 "order_cost" ["strips","order"] (XO mg Zrd K)
abbrev Le:Prop:=Cal ζ CX0 3 "told_moves" ["strips","order"] (XO mg Zk4 K)
abbrev Lh:Prop:=Cal ζ CX0 3 "find_ring" ["holders","wishes"] (XO mg Zpq K)
abbrev OU:Prop:=Cal ζ CX0 3 "least_costs" ["strips","wishes","pairs"] (XO mg Zet K)
abbrev Me:Prop:=Cam ζ (Cxe ζ) 3 (Mk K<|Kd ζ) ["self","strips"] (Pu.spW mg (Zo5<|Kd ζ) K)
abbrev R0:Prop:=Cam ζ (Cxe ζ) 3 (Ku K (Kd ζ) "wish") ["self","ahead","behind"] (Pu.spW mg (Zoc<|Kd ζ) K)
abbrev Ol:Prop:=Cam ζ (Cxe ζ) 3 (Ku K (Kd ζ) "broken") ["self","order"] (XO mg (Zk9<|Kd ζ) K)
abbrev RW:Prop:=Cal ζ CX0 3 "_law_strips" ["_law_script","_law_menu_here","_law_many"] (XO mg Zch K)
abbrev Mg:Prop:=Cal ζ CX0 3 "_law_wishes" ["_law_script","_law_menu_here"] (XO mg Zcu K)
abbrev R8:Prop:=Cal ζ (Cxe ζ) 4 "check_no_ring" ["strips","wishes"] (XO mg Zq8 K)
abbrev G8:Prop:=Cam ζ (Cxe ζ) 4 (Ku K (Kd ζ) "price") ["self","order"] (XO mg (Zq6<|Kd ζ) K)
abbrev Zbf:Prop:=Cal ζ CX0 4 "do_deed" ["village","word","numbers"] (Pu.spW mg (Ziw<|Kd ζ) K)
abbrev Zab:Prop:=Cal ζ (Cxe ζ) 5 "cost_table" ["strips","wishes"] (XO mg Zmk K)
abbrev Hn:Prop:=Cal ζ (Cxe ζ) 5 "best_order" ["strips","wishes"] (XO mg Zgw K)
abbrev Ou:Prop:=Cal ζ (Cxe ζ) 6 "least_cost" ["strips","wishes"] (XO mg Zbn K)
abbrev Ma:Prop:=Cam ζ (Cxe ζ) 6 (Ku K (Kd ζ) "order") ["self"] (XO mg (Zo2<|Kd ζ) K)
abbrev G9:Prop:=Cam ζ (Cxe ζ) 7 (Ku K (Kd ζ) "cost") ["self"] (XO mg (Zb0<|Kd ζ) K)
abbrev II:Prop:=Cam ζ (Cxe ζ) 7 (Ku K (Kd ζ) "moves") ["self"] (XO mg (Zkq<|Kd ζ) K)
abbrev HL:Prop:=Cal ζ CX0 8 "told_question" ["village","word","numbers"] (XO mg (Zcr<|Kd ζ) K)
abbrev LD:Prop:=Cal ζ (Cxe ζ) 9 "told_row" ["village","word","numbers"] (Pu.spW mg (Zft<|Kd ζ) K)
abbrev Iu:Prop:=Cal ζ CX0 10 "told_or_refused" ["village","word","numbers"] (Pu.spW mg (Ze3<|Kd ζ) K)
abbrev RB:Prop:=Cal ζ CX0 11 "answer" ["village","row"] (Pu.spW mg (Zfa<|Kd ζ) K)
abbrev MQ:Prop:=Cal ζ CX0 12 "_law_says" ["_law_village","_law_row","_law_due"] (Pu.spW mg (Zc4<|Kd ζ) K)
abbrev G5:Prop:=Cal ζ CX0 13 "_law_stand_told" ["_law_village","_law_strips_here","_law_wishes_here"] (Pu.spW mg (Zpf<|Kd ζ) K)
abbrev Hr:Prop:=Cal ζ CX0 13 "_law_way_told" ["_law_village","_law_strips_here","_law_wishes_here","_law_order"] (Pu.spW mg (Zdh<|Kd ζ) K)
abbrev Zpb:Prop:=Cal ζ CX0 14 "law" ["_law_script"] (XO mg GM K)
end M
namespace M
open L2 Own Pu
def Ay{b:Type}{xs:List b}{i:Nat}{d:b}(h:i<xs.length):xs.getD i d=xs[i]:=by rw[WE,WA h];rfl
def Za9{b:Type}{xs:List b}{i:Nat}{d:b}(h:i<xs.length):xs.getD i d=xs[i]:=by rw[WE,WA h];rfl
def Zlv{ns:Yf}{p:Int}(h:1<=p)(g:p<ns.length){b1:p.toNat<ns.length}{b2:(p-1).toNat<ns.length}:cutD (ns.map D.int) none (some (p-1))++[D.int ns[p.toNat],D.int ns[(p-1).toNat]]++cutD (ns.map D.int) (some (p+1)) none=(KA ns p.toNat).map D.int:=by
 unfold KA;rw[Sw,Sw,EU ns (by lia),Ac ns (by lia),WX,WX];have f:p.toNat-1=(p-1).toNat:=by lia
 have b:p.toNat+1=(p+1).toNat:=by lia
 rw[f,b,Za9 b1,Za9 b2];rfl
def FD{os:Yf}(b:os.Nodup){j:Nat}(f:j<os.length):os.idxOf os[j]=j:=b.idxOf_getElem j f
def GQ{os:Yf}{j:Nat}{z:Int}(b:j<os.length):z∈os.take (j+1)↔z∈os.take j\/z=os[j]:=by
 rw[WS b,Qd,WC]
def Zlx{os:Yf}(b:os.Nodup){x:Int}{j:Nat}(hx:x∈os):x∈os.take j↔os.idxOf x<j:=by
 obtain⟨k,f,rfl⟩:=Qk.mp hx;rw[FD b f];constructor
 ·intro h;obtain⟨m,g,e⟩:=Qk.mp h;rw[WW]at g;rw[Q7]at e;have a1:=FD b (j:=m) (by lia);rw[e,FD b f]at a1;lia
 ·intro h;exact Qk.mpr ⟨k,by rw[WW];lia,by rw[Q7]⟩
def Zbq{os:Yf}(g:os.Nodup)(q:Int×Int):TU os q=(decide (q.1∈os)&&decide (q.2∈os)&&decide (os.idxOf q.2<os.idxOf q.1)):=by
 unfold TU;by_cases f:q.1∈os
 ·by_cases b:q.2∈os
  ·simp only[f,b,decide_true,VU,Zlx g b]
  ·have:¬q.2∈os.take (os.idxOf q.1):=λz=>b (V0 z)
   simp[f,b,this]
 ·simp[f]
def Pd(ps:List (Yf))(b:Yf)(i j:Nat)(p:Yf)(h:Int):Prop:=(p∈ps.take i/\h∈b)\/(ps[i]?=some p/\h∈b.take j)
structure LGs (ws:Ye) (l:Int) (P:Yf->Int->Prop) (ls:Yf) (lg:List (Yf)) (kvs:List (Key×V)):Prop where
 g:LG ws l P lg
 nd:(lg.map<|XT l).Nodup
 sub:∀h∈lg.map (XT l),h∈ls
 rc:∀h:Int,(XX kvs<|.inl h).isSome=true↔h∈lg.map (XT l)
 len:kvs.length<=lg.length
def LGs.len_le {h:Ye}{l:Int}{P:Yf->Int->Prop}{f:Yf}{g:List (Yf)}{b:List (Key×V)} (L:LGs h l P f g b):g.length<=f.length:=by
 have:=AJ L.nd L.sub
 rwa[W9]at this
def LG.congr {f:Ye}{l:Int}{P n:Yf->Int->Prop}{g:List (Yf)} (h:∀p x,P p x↔n p x) (G:LG f l P g):LG f l n g:=
 ⟨λq hq=>let ⟨p,x,a,b⟩:=G.mem q hq;⟨p,x,(h p x).mp a,b⟩,G.srt,λp x a b=>G.has p x ((h p x).mpr a) b⟩
def LGs.congr {f:Ye}{l:Int}{P q:Yf->Int->Prop}{n:Yf}{o:List (Yf)}{b:List (Key×V)} (h:∀p x,P p x↔q p x) (G:LGs f l P n o b):LGs f l q n o b:=⟨G.g.congr h,G.nd,G.sub,G.rc,G.len⟩
def LGs.start {ps:List (Yf)}{b:Yf}{f:Ye}{l:Int}:LGs f l (Pd ps b 0 0) b [] []:=by
 refine⟨⟨(λq hq=>by cases hq),List.Pairwise.nil,λp h a=>?_⟩,VI,(λh g=>by cases g),(λh=>by simp[XX]),WG _⟩;rcases a with⟨a,_⟩|⟨_,a⟩
 ·rw[Jl]at a;cases a
 ·rw[Jl]at a;cases a
def LGs.skip {ps:List (Yf)}{f:Yf}{u:Ye}{l:Int}{A:List (Yf)}{n:List (Key×V)}{i j:Nat}{p:Yf}{h:Int} (w:ps[i]?=some p) (L:f[j]?=some h) (C:ps.Pairwise sl)
  (G:LGs u l (Pd ps f i j) f A n) (no:(XX n<|.inl h).isSome=true\/(XT l p,h)∉u):LGs u l (Pd ps f i (j+1)) f A n:=by
 obtain⟨H,N⟩:=Qf.mp L;obtain⟨J,ei⟩:=Qf.mp w;have y:∀x,x∈f.take (j+1)↔x∈f.take j\/x=h:=λx=>by rw[WS H,Qd,WC,N]
 refine⟨⟨λq hq=>?_,G.g.srt,λs x a b=>?_⟩,G.nd,G.sub,G.rc,G.len⟩
 ·obtain⟨s,x,a,b⟩:=G.g.mem q hq;exact⟨s,x,a.imp id λz=>⟨z.1,(y x).mpr (.inl z.2)⟩,b⟩
 ·rcases a with a|⟨a1,a2⟩
  ·exact G.g.has s x (.inl a) b
  ·rcases(y x).mp a2 with a2|rfl
   ·exact G.g.has s x (.inr ⟨a1,a2⟩) b
   ·rw[w]at a1;cases a1
    rcases no with no|no
    ·obtain⟨q,hq,e⟩:=WO.mp ((G.rc x).mp no);obtain⟨v,B,o,rfl,Q⟩:=G.g.mem q hq;have M:B=x:=by rw[Px]at e;exact e
     subst M;refine⟨v,hq,?_⟩;rcases o with⟨o,_⟩|⟨o,_⟩
     ·obtain⟨m,E,r⟩:=Qk.mp o;rw[WW]at E;rw[Q7]at r
      have:=Q0.mp C m i (by lia) J (by lia)
      rw[r,ei]at this;exact .inr this
     ·rw[w]at o;cases o
      exact .inl rfl
    ·exact absurd b no
def LGs.put {ps:List (Yf)}{r:Yf}{v:Ye}{l:Int}{y:List (Yf)}{s:List (Key×V)}{i j:Nat}{p:Yf}{h:Int} (A:ps[i]?=some p) (hh:r[j]?=some h) (T:ps.Pairwise sl) (U:r.Pairwise (· < ·))
  (G:LGs v l (Pd ps r i j) r y s) (new:(XX s<|.inl h).isSome=false) (hw:(XT l p,h)∈v):LGs v l (Pd ps r i (j+1)) r (y++[p++[h]]) (putK s (.inl h)<|.bl true):=by
 obtain⟨J,L⟩:=Qf.mp hh;obtain⟨Y,ei⟩:=Qf.mp A;have B:∀x,x∈r.take (j+1)↔x∈r.take j\/x=h:=λx=>by rw[WS J,Qd,WC,L]
 have C:XT l (p++[h])=h:=by rw[Px];rfl
 have M:h∉y.map (XT l):=λz=>by rw[(G.rc h).mpr z]at new;cases new
 refine⟨⟨λq hq=>?_,?_,λf x a b=>?_⟩,?_,λx hx=>?_,λx=>?_,?_⟩
 ·rcases Qd.mp hq with hq|hq
  ·obtain⟨f,x,a,b⟩:=G.g.mem q hq;exact⟨f,x,a.imp id λz=>⟨z.1,(B x).mpr (.inl z.2)⟩,b⟩
  ·rw[WC.mp hq];exact⟨p,h,.inr ⟨A,(B h).mpr (.inr rfl)⟩,rfl,hw⟩
 ·refine QT.mpr ⟨G.g.srt,by simp,λq hq q' E=>?_⟩;rw[WC.mp E];obtain⟨f,x,a,rfl,b⟩:=G.g.mem q hq;rcases a with⟨a,_⟩|⟨a1,a2⟩
  ·obtain⟨m,H,o⟩:=Qk.mp a;rw[WW]at H;rw[Q7]at o
   have:=Q0.mp T m i (by lia) Y (by lia)
   rw[o,ei]at this;exact CZ x h this
  ·rw[A]at a1;cases a1
   obtain⟨m,H,o⟩:=Qk.mp a2;rw[WW]at H;rw[Q7]at o
   have:=Q0.mp U m j (by lia) J (by lia)
   rw[o,L]at this;exact Ln this
 ·have u:∀f x,Pd ps r i j f x->(XT l f,x)∈v->∃n,n++[x]∈y++[p++[h]]/\(n=f\/sl n f):=λf x a b=>let ⟨n,Q,N⟩:=G.g.has f x a b;⟨n,Ve _ Q,N⟩;rcases a with a|⟨a1,a2⟩
  ·exact u f x (.inl a) b
  ·rcases(B x).mp a2 with a2|rfl
   ·exact u f x (.inr ⟨a1,a2⟩) b
   ·rw[A]at a1;cases a1
    exact⟨p,Qm _ (WC.mpr rfl),.inl rfl⟩
 ·rw[WX,Ji,C];refine QM.mpr ⟨G.nd,by simp,λa ha b hb=>?_⟩;rw[WC.mp hb];rintro rfl;exact M ha
 ·rw[WX,Ji,C]at hx;rcases Qd.mp hx with hx|hx
  ·exact G.sub x hx
  ·rw[WC.mp hx,←L];exact WU J
 ·rw[WX,Ji,C,B8,Qd,WC];by_cases e:x=h
  ·subst e;rw[WK rfl];exact⟨λ_=>.inr rfl,λ_=>rfl⟩
  ·rw[WI (λz=>e (Sum.inl.inj z)),G.rc];exact⟨.inl,λz=>z.elim id λw=>absurd w e⟩
 ·rw[Qa]
  have:=BS s (.inl h) (.bl true)
  have:=G.len
  simp;lia
def Zc5(o:Yf)(f:Int):atI ((o++[f]).map D.int) (-1)=some (.int f):=by
 refine Ph ?_;unfold atI ixN;rw[WI (by omega),WK (by rw[Qa,Vd];omega)];have e:(-1+((o++[f]).length:Int)).toNat=o.length:=by rw[Qa,Vd];omega
 rw[e];show(o++[f])[o.length]?=some f;rw[QD (WG _),Nat.sub_self];rfl
noncomputable def N3(b:Ye)(L:Yf):Yf:=L.filter λh=>decide (¬h∈(b.filter λq=>decide (q.1∈L)).map (·.2))
def mem_free{l:Ye}{L:Yf}{h:Int}:h∈N3 l L↔h∈L/\∀b∈L,(b,h)∉l:=by
 unfold N3;rw[Qi];constructor
 ·rintro⟨g,f⟩;refine⟨g,λb p hw=>WJ f (WO.mpr ⟨(b,h),Qi.mpr ⟨hw,WH p⟩,rfl⟩)⟩
 ·rintro⟨g,f⟩;refine⟨g,WH λz=>?_⟩;obtain⟨q,hq,e⟩:=WO.mp z;obtain⟨o,n⟩:=Qi.mp hq;subst e;exact f q.1 (WJ n) o
def Zl3(ps:Ye)(o:Yf):(o.flatMap<|KZ ps).length<=o.length*ps.length:=by
 induction o with
 |nil=>simp
 |cons h r b=>
  rw[List.flatMap_cons,Qa,Qn,Nat.add_mul]
  have:=IP ps h
  omega
theorem Iz{b:Type}{c:b->Bool}:∀{xs:List b}{x:b}{r:List b},xs.filter c=x::r->∃i,∃n:i<xs.length,xs[i]=x/\c x=true/\∀j (g:j<xs.length),j<i->c xs[j]=false
 |[],x,r,h=>by cases h
 |y::s,x,r,h=>by
  by_cases f:c y=true
  ·rw[List.filter_cons_of_pos f]at h;cases h
   exact⟨0,by simp,rfl,f,λj _ g=>by lia⟩
  ·rw[List.filter_cons_of_neg f]at h;obtain⟨i,n,q,p,o⟩:=Iz h;refine⟨i+1,by simp;lia,by simpa using q,p,λj g l=>?_⟩;cases j with
   |zero=>simpa using f
   |succ j=>simpa using o j (by simpa using g) (by lia)
def GG(c:Int->Bool):∀b:Yf,b.filterMap (λq=>if c q=true then some (D.int q)else none)=(b.filter c).map D.int:=Pf c D.int
def Zgs{f:Int->Int}{ns:Yf}{p:Nat}(h:FW (ns.map f) p)(o:1<=p)(n:p<ns.length):((ns.take p).map f).Pairwise (·<=·):=by
 refine VD.mpr (MK (f:=f) (ns:=ns.take p) ⟨λq g b=>?_,.inl rfl⟩);rw[WK rfl,W9,WW]at b
 have:=h.1 q g (by rw[WI (by lia)];lia)
 have e:∀i,i<p->((ns.take p).map f).getD i 0=(ns.map f).getD i 0:=λi l=>by
  rw[WE,WE,List.map_take,QP l]
 rw[e _ (by lia),e _ (by lia)];exact this
def FRi(f:Yf)(b:Ye)(ns:Yf)(r:Yf):Prop:=
 (r=[]/\∀l∈ns,∀t,¬Pz f b l t)\/∃l t,r=l::t/\l∈ns/\Pz f b l t/\∀m∈ns,∀u,Pz f b m u->t.length<u.length\/(t.length=u.length/\(l<m\/(l=m/\(t=u\/sl t u))))
def FRi.keep {o:Yf}{n:Ye}{ns r f:Yf}{l:Int} (h:FRi o n ns r) (w:∀m∈ns,m<l) (b:RF o n l f) (c:f=[]\/(r≠[]/\r.length<=f.length)):FRi o n (ns++[l]) r:=by
 rcases h with⟨rfl,h⟩|⟨q,t,rfl,v,y,x⟩
 ·rcases c with rfl|⟨c,_⟩
  ·rcases b with⟨_,b⟩|⟨t,e,_⟩
   ·refine .inl ⟨rfl,λm hm=>?_⟩;rcases Qd.mp hm with hm|hm
    ·exact h m hm
    ·rw[WC.mp hm];exact b
   ·cases e
  ·exact absurd rfl c
 ·refine .inr ⟨q,t,rfl,Ve _ v,y,λm hm u g=>?_⟩;rcases Qd.mp hm with hm|hm
  ·exact x m hm u g
  ·rw[WC.mp hm]at g ⊢;rcases b with⟨rfl,b⟩|⟨s,rfl,_,b⟩
   ·exact absurd g (b u)
   ·rcases c with c|⟨_,c⟩
    ·cases c
    ·have p:=w q v;simp at c;rcases b u g with z|⟨z,_⟩
     ·exact .inl (by lia)
     ·by_cases e:t.length<u.length
      ·exact .inl e
      ·exact .inr ⟨by lia,.inl p⟩
def FRi.take {n:Yf}{g:Ye}{ns r f:Yf}{l:Int} (h:FRi n g ns r) (x:∀m∈ns,m<l) (p:RF n g l f) (c:f≠[]/\(r=[]\/f.length<r.length)):FRi n g (ns++[l]) f:=by
 rcases p with⟨rfl,_⟩|⟨s,rfl,f1,v⟩
 ·exact absurd rfl c.1
 ·refine .inr ⟨l,s,rfl,Qm _ (WC.mpr rfl),f1,λm hm u b=>?_⟩;rcases Qd.mp hm with hm|hm
  ·rcases h with⟨rfl,h⟩|⟨w,t,rfl,A,y,q⟩
   ·exact absurd b (h m hm u)
   ·rcases c.2 with c|c
    ·cases c
    ·simp at c;rcases q m hm u b with z|⟨z,_⟩
     ·exact .inl (by lia)
     ·exact .inl (by lia)
  ·rw[WC.mp hm]at b ⊢;rcases v u b with z|⟨z,o⟩
   ·exact .inl z
   ·exact .inr ⟨z,.inr ⟨rfl,o⟩⟩
def FRi.all {b:Yf}{g:Ye}{ns r:Yf} (f:∀z,z∈ns↔z∈b) (h:FRi b g ns r):FR b g r:=by
 rcases h with⟨rfl,h⟩|⟨l,t,rfl,s,q,p⟩
 ·exact .inl ⟨rfl,λl o=>h l ((f l).mpr o)⟩
 ·exact .inr ⟨l,t,rfl,(f l).mp s,q,λm n=>p m ((f m).mpr n)⟩
noncomputable def Zlm(b:List (Option Pu.S)):Nat:=match b[4]? with
 |some (some<|Pu.S.sh<|Pu.D.tup f)=>f.length
 |_=>0
def FB{b:Type}{xs:List b}{x:b}(h:xs[xs.length-1]?=some x):atI xs (-1)=some x:=by
 have f:=(Qf.mp h).1;unfold atI ixN;rw[WI (by lia),WK (by lia)];show xs[_]?=some x;rw[←h];congr 1;lia
def MV:Txt.mul ("none" : Str) 1 = "none"/\Txt.mul ("none" : Str) 0=Str.empty:=⟨by decide +kernel,by decide +kernel⟩
def O3{b:Type}(emb:b->D)(f:b->Str)(l:List b):Txt.join (" " : Str) (l.map f)++Txt.mul ("none" : Str) (if (l.map emb).isEmpty=true then 1 else 0)=if l=[]then("none" : Str)else Txt.join spc (l.map f):=by
 cases l with
 |nil=>
  rw[WK rfl];show Txt.join (" " : Str) []++Txt.mul ("none" : Str) 1=_;rw[MV.1];decide +kernel
 |cons q r=>
  rw[WI (by simp),show(" " : Str)=spc by decide +kernel];show _++Txt.mul ("none" : Str) 0=_;rw[MV.2];exact Eu (by rw[Dm];exact Qz _)
theorem LB{ps:Ye}{f:Int->Int}:∀{b:List Mo}{ns:Yf},Mv ps f ns b->∀m∈b,1<=m.1/\m.1<ns.length
 |[],_,_,m,hm=>by cases hm
 |m0::b,ns,h,m,hm=>by
  obtain⟨p,e,n,l,g⟩:=h.next;rcases WL.mp hm with rfl|hm
  ·rw[e];show 1<=(p:Int)/\(p:Int)<ns.length;lia
  ·have:=LB g m hm
   rwa[Lv n l]at this
end M
namespace T
open L2 Own M
section
variable {P:Program}{w:World}{K:Yd}{mg:Yh}{base:Heap}
def Zok(G:Glob w K mg)(D:Pu.Kk K (ExcR.Tw K<|ExcR.XQ mg "Ringed") "__init__" "Ringed.__init__" Gj ["self","members"])
  : Pu.P7 P w K mg base CX0 1 (ExcR.Tw K<|ExcR.XQ mg "Ringed") ["self","members"] (ExcR.B5 K):=by
 refine D.ok (k:=0) Zhk (λb H Q E h=>?_) (λf g A outer s H b Q E l h=>?_)
 ·obtain⟨_,_,_,_,_,rfl,_⟩:=h;rfl
 ·exact⟨_,Kx (ExcR.Zfx (pv 0) (Kt Lp (by rfl) G.Zg boot_list<|KB (pv 1) KM)<|by rfl),ExcR.Zbm h rfl⟩
def Zgg(G:Glob w K mg)(D:Def K mg "holders_of" AF ["strips"])
  : Callee P w K mg base CX0 1 "holders_of" ["strips"] (Ra K):=by
 refine D.ok (k:=0) Zno (λp H Q E h=>?_) (λf cdv A outer s H p Q E hr h=>?_)
 ·obtain⟨l,b,rfl,⟨p,v,u⟩,J,C,q⟩:=h;rfl
 ·obtain⟨l,b,rfl,⟨p,v,u⟩,J,C,q⟩:=h;refine⟨_,(Kx<|Kg<|KR (LO rfl) (by rfl) G.Zh Jy<|KB (Kt (Zec rfl) (by rfl) G.ZS boot_set<|KB (Dt (N':=["holder","width"]) (φ:=[none,none]) rfl (SO.of<|by rfl) (MH<|pv 0) (λ_ _ _ _ _=>⟨(Aa (K:=K) (n:=2) rfl<|Sm (De (i:=0) (show(["holder","width"]:Ym).Nodup from by decide +kernel) rfl (by first|exact Or.inl rfl|exact Or.inr rfl))<|Sm (De (i:=1) (show(["holder","width"]:Ym).Nodup from by decide +kernel) rfl (by first|exact Or.inl rfl|exact Or.inr rfl)) Fz),PQ,(pv 0)⟩)) KM) KM),?_⟩
  have e1:=u.1;refine⟨_,rfl,l,rfl,⟨_,SqL.of v⟩,λD z=>Zfs (ds:=b) (λd=>some (V.int d.1)) (SqL.of v) e1 z (WQ C<|by decide) (λi x d H2 hx Y S k U=>?_) ?_⟩
  ·obtain⟨d',g,a,rfl,ha⟩:=u.get hx;rw[Y]at g;cases g
   exact⟨a,_,rfl,SqT.of (S _ _ ha),rfl,_,_,rfl,_,_,rfl,rfl,.skip (.skip .refl),_,rfl,U⟩
  ·have em:b.filterMap (λd=>some (V.int d.1))=(b.map (·.1)).map V.int:=by
    rw[Qq,WY];rfl
   rw[em];have S1:Same H (upd H D<|.lst ((b.map (·.1)).map V.int)):=Kp z;refine⟨D,b.map (·.1),rfl,SqL.of Kb,by rw[W9];lia,λy M=>?_⟩;have L:=Own.Same.new (o:=NV w y ((b.map (·.1)).foldl SetR.KE [])) S1 M;refine⟨y,_,rfl,?_,.inr Kb,λr ns B T N=>?_⟩
   ·have:=Lm (b.map (·.1)) []
    rw[W9]at this;simp at this ⊢;lia
   ·rw[Znn J T N];exact q r _ (L.free B) (Own.Same.new L B) Kb
end
open Pu
section
variable {P:Program}{w:World}{K:Yd}{mg:Yh}{base:Heap} (ζ:Fv P w K mg base)
variable (G:Glob w K mg) (YJ:Zp7 ζ) (Y1:Ob ζ) (YK:G7 ζ) (Yx:Zi8 ζ) (Y8:LQ ζ) (YL:Mw ζ) (YM:Ms ζ) (YN:HC ζ) (YA:MS ζ) (YO:Ly ζ) (YQ:M1 ζ) (YR:Zan ζ) (Y2:Ls ζ) (YS:Rx ζ) (YT:IE ζ) (Yu:HV ζ) (Yy:Hi ζ) (YU:OF ζ) (YV:RE ζ) (YW:Oy ζ) (Y3:M4 ζ) (Yv:HM ζ) (YB:Oj ζ) (YX:OC ζ) (Y4:Oo ζ) (YY:Gk ζ) (Y5:O6 ζ) (YZ:L6 ζ) (Wa:IB ζ) (Wb:IU ζ) (Wc:OA ζ) (YC:MY ζ) (Yz:Rv ζ) (Wd:HY ζ) (Y6:OP ζ) (We:MP ζ) (Wf:Hy ζ) (YD:MW ζ) (Wg:Ht ζ) (Wh:Ig ζ) (Wi:Zam ζ) (YE:Zbc ζ) (Wj:GA ζ) (YF:M6 ζ) (Y0:LN ζ) (Wk:HN ζ) (Wl:M7 ζ) (Wm:LY ζ) (Wn:R9 ζ) (Wo:Le ζ) (Wp:Lh ζ) (YG:OU ζ) (Wq:Me ζ) (Wr:R0 ζ) (Ws:Ol ζ) (Wt:RW ζ) (Wu:Mg ζ) (YH:R8 ζ) (Wv:G8 ζ) (Ww:Zbf ζ) (Wx:Zab ζ) (Wy:Hn ζ) (Wz:Ou ζ) (YI:Ma ζ) (W1:G9 ζ) (W2:II ζ) (W3:HL ζ) (W4:LD ζ) (W5:Iu ζ) (Y7:RB ζ) (Yw:MQ ζ) (W6:G5 ζ) (W7:Hr ζ)
def Zh3(o:Def K mg "check_holder" Ea ["holder"])
  : Ob ζ:=by
 refine o.fy Zqh (λp n=>(b1<|sI (tp<|wo (tc NR NH (xv 0) xi)<|wO<|tc Tp Tr (xv 0)<|xe (ExcR.PU G.Zy) Kh) (b1<|sQ G.Z7 G.Zo ExcR.NC<|a1<|xe (ExcR.N4<|ExcR.Tt<|ExcR.TH (ExcR.PU G.Zy) ExcR.Nn)<|Nx<|Tu<|T7 Kh NB) b0)) (.a ?_)
 ·rintro r R X ⟨h,rfl,b⟩;refine⟨rfl,?_⟩;unfold BO at b;refine XU (λg=>PY ?_) (λg=>?_)
  ·rw[WI (by have:=WJ g;lia)]at b;exact⟨by decide,by decide,by decide,by decide,by simp,b⟩
  ·have q:¬h<1:=λz=>g (WH z);refine XU (λf=>?_) (λf=>?_)
   ·rw[WI (by have:=WJ f;lia)]at b;exact⟨by decide,by decide,by decide,by decide,by simp,b⟩
   ·have l:¬10<h:=λz=>f (WH z);rw[WK (by lia)]at b;exact b
def Zrh(o:Def K mg "check_width" Cj ["width"])
  : G7 ζ:=by
 refine o.fy Zqc (λp n=>(b1<|sI (tp<|wo (tc NR NH (xv 0) xi)<|wO<|tc Tp Tr (xv 0)<|xe (ExcR.PU G.Z2) Kh) (b1<|sQ G.ZA G.Z9 ExcR.NC<|a1<|xe (ExcR.N4<|ExcR.Tt<|ExcR.TH (ExcR.PU G.Z2) ExcR.Nn)<|Nx<|Tu<|T7 Kh NB) b0)) (.a ?_)
 ·rintro r R X ⟨h,rfl,b⟩;refine⟨rfl,?_⟩;unfold DQ at b;refine XU (λg=>PY ?_) (λg=>?_)
  ·rw[WI (by have:=WJ g;lia)]at b;exact⟨by decide,by decide,by decide,by decide,by simp,b⟩
  ·have q:¬h<1:=λz=>g (WH z);refine XU (λf=>?_) (λf=>?_)
   ·rw[WI (by have:=WJ f;lia)]at b;exact⟨by decide,by decide,by decide,by decide,by simp,b⟩
   ·have l:¬1000<h:=λz=>f (WH z);rw[WK (by lia)]at b;exact b
def Zdy(E:Def K mg "pair_cost" Gd ["strips","ahead","behind"])
  : LQ ζ:=by
 refine E.fz Zld (λr n=>(bc (sS 3 n xi)<|bc (sS 4 n xi)<|bc (sF 0<|sO [5,6] Ql (iL<|xv 0) (gT 2<|gc (gN 5)<|gc (gN 6) g0)<|b1<|sI (tq r (xv 5)<|xv 2) (b1<|sU 3 n DY<|xv 6)<|b1<|sI (tq r (xv 5)<|xv 1) (b1<|sU 4 n DY<|xo NA Np (xv 3)<|xv 6) b0)<|b1<|sV 4)) (.a ?_)
 ·rintro H R X ⟨b,x,y,rfl,A,v⟩;refine⟨rfl,rfl,Pm (xs:=b) (emb:=prD) (λi f=>f=[some (.bor<|.lst<|b.map prD),some (.sh<|.int x),some (.sh<|.int y),some (.sh<|.int<|tpM b y i),some (.sh<|.int<|pcM b x y i),none,none]) rfl ?_ ?_⟩
  ·rintro i u f rfl;have s:b.getD i (0,0)=b[i]:=by rw[WE,WA u];rfl
   have hw:=A _ (WU u);have C:tpM b y (i+1)=tpM b y i+(if b[i].1=y then b[i].2 else 0):=by simp only[tpM];rw[s]
   have B:pcM b x y (i+1)=pcM b x y i+(if x≠y/\b[i].1=x then tpM b y i*b[i].2 else 0):=by simp only[pcM];rw[s]
   rw[C,B];generalize b[i]=p at hw;refine⟨rfl,XU (λg=>?_) (λg=>XU (λo=>?_) (λo=>?_))⟩
   ·have e:p.1=y:=WJ g;rw[WK e,WI (by rintro⟨q,l⟩;exact q (l.symm.trans e)),Jj];rfl
   ·have e:¬p.1=y:=λz=>g (WH z);have h:p.1=x:=WJ o;rw[WI e,WK ⟨λz=>e (h.trans z),h⟩,Jj];exact⟨.inr ⟨by show -(2 ^ 64)<p.2;lia,by show p.2<2 ^ 64;lia⟩,rfl⟩
   ·have e:¬p.1=y:=λz=>g (WH z);have h:¬p.1=x:=λz=>o (WH z);rw[WI e,WI (by rintro⟨q,l⟩;exact h l),Jj,Jj];rfl
  ·rintro f rfl;exact v
def Zmm(h:Def K mg "own_numbers" EC ["strips"])
  : Mw ζ:=by
 refine h.fz Zme (λo n=>(b1<|sR<|xC ["index"] [none] (jI<|ir G.Zc<|a1<|xl G.len<|xv 0) (gN 0) f0<|xo K0 K5 (xv 0) xi)) (.a ?_)
 ·rintro p R X ⟨b,rfl,l,g⟩;refine⟨rfl,?_⟩;have f:(b.map prD).length=b.length:=W9 ..;refine⟨⟨by lia,by lia⟩,BR (λi=>some (.int (0+(i:Int)+1))) (by lia) (λi _=>⟨_,rfl,rfl⟩) ?_⟩
  have e:(List.range ((b.map prD).length:Int).toNat).filterMap (λ(i:Nat)=>some (D.int (0+(i:Int)+1)))=(Ka 1 b.length).map D.int:=by
   unfold Ka;rw[Qq,WY,f,Q3];refine Vk λi _=>?_;show D.int (0+(i:Int)+1)=D.int (1+(i:Int));congr 1;lia
  rw[e];exact g
def Zpr(u:Def K mg "exchange_cost" CN ["strips","numbers","place"])
  : Ms ζ:=by
 refine u.fz Zoj (λy n=>(bc (sS 3 n<|xx (xv 0)<|xo P9 P3 (xx (xv 1)<|xo P9 P3 (xv 2) xi) xi)<|bc (sS 4 n<|xx (xv 0)<|xo P9 P3 (xx (xv 1)<|xv 2) xi)<|b1<|sR<|xo NA Np (xx (xv 3) xi)<|xx (xv 4) xi)) (.a ?_)
 ·rintro B R X ⟨f,b,p,rfl,q,g,A,z,h⟩;refine⟨rfl,?_⟩;have b1:(p-1).toNat<b.length:=by omega
  have o:p.toNat<b.length:=by omega
  have x:=g _ (WU b1);have v:=g _ (WU o);refine⟨_,TC (by omega) (by omega),_,TC (by omega) (by omega),_,TC (by omega) (by omega),_,TC (by omega) (by omega),_,rfl,_,rfl,?_⟩;have l:(b[(p-1).toNat]-1).toNat<f.length:=by omega
  have s:(b[p.toNat]-1).toNat<f.length:=by omega
  have f1:=q _ (WU l);refine⟨.inl ⟨by show -(2 ^ 64)<(f[(b[(p-1).toNat]-1).toNat]).2;omega,by show(f[(b[(p-1).toNat]-1).toNat]).2<2 ^ 64;omega⟩,?_⟩
  have e:exM f b p.toNat=(f[(b[(p-1).toNat]-1).toNat]).2*(f[(b[p.toNat]-1).toNat]).2:=by
   unfold exM
   have r:b.getD (p.toNat-1) 0=b[(p-1).toNat]:=by
    rw[show p.toNat-1=(p-1).toNat by omega];exact Ay b1
   rw[r,Ay o,Ay l,Ay s]
  rw[e]at h;exact h
def Zfw(q:Def K mg "exchanged" DJ ["numbers","place"])
  : HC ζ:=by
 refine q.fz Zea (λs n=>(b1<|sR<|xo Sj Sb (xo Sj Sb (xp (xv 0) o0<|o1<|xo P9 P3 (xv 1) xi)<|xL<|a2 (xx (xv 0)<|xv 1)<|xx (xv 0)<|xo P9 P3 (xv 1) xi)<|xp (xv 0) (o1<|xo K0 K5 (xv 1) xi) o0)) (.a ?_)
 ·rintro u R X ⟨b,p,rfl,o,l,r,g⟩;refine⟨rfl,?_⟩;have b1:p.toNat<b.length:=by lia
  have b2:(p-1).toNat<b.length:=by lia
  have f:(cutD (b.map D.int) none<|some (p-1)).length<=1000:=by have:=(MD (b.map D.int) none<|some (p-1)).length_le;rw[W9]at this;lia
  have h:(cutD (b.map D.int) (some (p+1)) none).length<=1000:=by have:=(MD (b.map D.int) (some (p+1)) none).length_le;rw[W9]at this;lia
  refine⟨TJ _,_,TC (by lia) (by lia),_,TC (by lia) (by lia),by simp,rfl,rfl,WQ (JV f<|WG 2) (by decide),TJ _,rfl,rfl,WQ (JV (by rw[Qa];exact JV f (WG 2)) h) (by decide),?_⟩;have e:=Zlv o l (b1:=b1) (b2:=b2);rw[←e]at g;exact g
def Zd7(J:Def K mg "first_wrong_place" Do ["numbers","ranks"])
  : MS ζ:=by
 refine J.fz Zj0 (λM n=>(bc (sO [2] Ql (iR G.Zc<|a2 xi<|xl G.len<|xv 0) (gN 2)<|b1<|sI (tc Tp Tr (xx (xv 1)<|xo P9 P3 (xx (xv 0)<|xo P9 P3 (xv 2) xi) xi)<|xx (xv 1)<|xo P9 P3 (xx (xv 0)<|xv 2) xi) (b1<|sV 2) b0)<|b1<|sR xi)) (.a ?_)
 ·rintro T R X ⟨b,h,rfl,x,L,C⟩;refine⟨rfl,?_⟩;have N:(b.map D.int).length=b.length:=W9 ..
  have B:∀(i:Nat) (k:Int),i<b.length->k=(i:Int)->atI (b.map D.int) k=some (.int<|b.getD i 0):=λi k o e=>by
   rw[e];exact Ph (f:=D.int) (Tz<|by rw[WE,WA o];rfl)
  have y:∀i:Nat,i<b.length->atI (h.map D.int) (b.getD i 0-1)=some (.int (h.getD (b.getD i 0-1).toNat 0)):=λi o=>by
   have H:b.getD i 0∈b:=by
    rw[WE,WA o];exact WU o
   have:=x _ H
   generalize b.getD i 0=z at this;rw[TC (f:=D.int) (xs:=h) (by lia) (by lia),WE,WA (show(z-1).toNat<h.length by lia)];rfl
  have v:∀i:Nat,i<b.length->(b.map λm=>h.getD (m-1).toNat 0).getD i 0=h.getD (b.getD i 0-1).toNat 0:=λi o=>TY o;have A:(b.map λm=>h.getD (m-1).toNat 0).length=b.length:=W9 ..;refine⟨⟨by lia,by lia⟩,Sx (λi p=>(∀q,1<=q->q<1+i->(b.map λm=>h.getD (m-1).toNat 0).getD (q-1) 0<=(b.map λm=>h.getD (m-1).toNat 0).getD q 0)/\p=[some (.bor<|.lst<|b.map D.int),some (.bor<|.lst<|h.map D.int),none]) ⟨λq s Q=>by lia,rfl⟩ ?_ ?_⟩
  ·rintro i p o ⟨s,rfl⟩
   have l:i+1<b.length:=by
    have:i<((((b.map D.int).length:Nat):Int)-1).toNat:=o
    lia
   refine⟨_,B i _ (by lia) (by lia),_,y i (by lia),_,B (i+1) _ l (by lia),_,y (i+1) l,?_⟩;refine XU (λg=>?_) (λg=>?_)
   ·have E:h.getD (b.getD (i+1) 0-1).toNat 0<h.getD (b.getD i 0-1).toNat 0:=WJ g
    have:=C (i+1) ⟨λq r u=>s q r (by rw[WI (by lia)]at u;lia),.inr ⟨by lia,by rw[A];exact l,by rw[v _ l,Jh,v _ (by lia)];exact E⟩⟩
    rw[show((i+1:Nat):Int)=1+(i:Int) by lia]at this;exact this
   ·have E:¬h.getD (b.getD (i+1) 0-1).toNat 0<h.getD (b.getD i 0-1).toNat 0:=λz=>g (WH z);refine⟨λq r u=>?_,rfl⟩;by_cases c:q<1+i
    ·exact s q r c
    ·have:q=i+1:=by lia
     subst this;rw[v _ l,Jh,v _ (by lia)];lia
  ·rintro p ⟨s,rfl⟩;refine C 0 ⟨λq r u=>s q r ?_,.inl rfl⟩;rw[WK rfl,A]at u;lia
def Zmb(H:Def K mg "broken_wishes" Ga ["order","wishes"])
  : Ly ζ:=by
 refine H.fz Ic (λp n=>(bc (se (Pu.pz 2 Ic.nd GR)<|Sr IW<|Kr 2)<|bc (sF 0<|sO [3,4] Ql (ie (RN rfl G.Zs<|az<|pv 0)<|Ov<|sz<|XF 0) (gT 2<|gc (gN 3)<|gc (gN 4) g0)<|b1<|se (F1 (KN<|p ()) (pv 2) (pv 4) (pv 3) rfl)<|Aw 2 (XF 4)<|XF 3)<|bc (sC 5 ["ahead","behind","index_of"] [none,none,some 2] n (jL<|xv 1) (gT 2<|gc (gN 0)<|gc (gN 1) g0) (f1<|tp<|wa (te (SN<|Rq (KN<|p ()) (pv 0)<|pv 2)<|Sv<|ON (XF 0)<|XF 2)<|wA<|te (SN<|Rq (KN<|p ()) (pv 1)<|pv 2)<|Sv<|ON (XF 1)<|XF 2)<|xt<|a2 (xv 0)<|xv 1)<|b1<|sR<|xC ["ahead","behind","index_of"] [none,none,some 2] (jL<|xv 5) (gT 2<|gc (gN 0)<|gc (gN 1) g0) (f1<|tc NR NH (xe (Ss (KN<|p ()) (pv 2) (pv 1) (λ_ _=>rfl))<|NJ (XF 2)<|XF 1)<|xe (Ss (KN<|p ()) (pv 2) (pv 0) (λ_ _=>rfl))<|NJ (XF 2)<|XF 0)<|xt<|a2 (xv 0)<|xv 1)) (.a ?_)
 ·rintro M R X ⟨os,s,rfl,r,L,hw,C⟩;refine⟨rfl,rfl,TJ _,LZ (xs:=os) (emb:=D.int) (λi f=>∃b:List (Key×V),f=[some (.bor<|.lst<|os.map D.int),some (.bor<|.lst<|s.map prD),some (.own<|.dK b),none,none,none]/\b.length<=i/\∀h:Int,XX b (.inl h)=if h∈os.take i then some (.int<|os.idxOf h)else none) ⟨[],rfl,by simp,λh=>by simp[XX]⟩ ?_ ?_⟩
  ·rintro i x f ⟨b,rfl,A,g⟩;refine⟨rfl,.inl os[i],.int i,rfl,rfl,by lia,_,rfl,WQ (BS _ _ _) (by lia),λh=>?_⟩;rw[B8,g];by_cases e:h=os[i]
   ·subst e;rw[WK rfl,WK ((GQ x).mpr (.inr rfl)),FD r x]
   ·rw[WI (λz=>e (Sum.inl.inj z))];simp only[GQ x,e,or_false]
  ·rintro f ⟨b,rfl,A,g⟩;rw[Qy]at g;refine Ki (xs:=s) (emb:=prD) (λq=>if (decide (q.1∈os)&&decide (q.2∈os))=true then some (prD q)else none) (by lia) (λq hq=>⟨rfl,⟨_,rfl,?_⟩⟩) ?_
   ·have v:(XX b<|.inl q.1).isSome=decide (q.1∈os):=by
     rw[g];by_cases e:q.1∈os<;>simp[e]
    have u:(XX b<|.inl q.2).isSome=decide (q.2∈os):=by
     rw[g];by_cases e:q.2∈os<;>simp[e]
    refine XU (λo=>⟨_,rfl,XU (λy=>⟨by simp,_,rfl,WK ?_⟩) (λy=>WI λz=>y ?_)⟩) (λo=>Kn (WI λz=>o ?_))
    ·rw[←v,←u,Qb];exact⟨o,y⟩
    ·rw[←v,←u,Qb]at z;exact z.2
    ·rw[←v,←u,Qb]at z;exact z.1
   rw[Pf (λq=>decide (q.1∈os)&&decide (q.2∈os)) prD];have B:=Q5 (λq:Int×Int=>decide (q.1∈os)&&decide (q.2∈os)) s;refine Ki (xs:=s.filter λq=>decide (q.1∈os)&&decide (q.2∈os)) (emb:=prD) (λq=>if decide (os.idxOf q.2<os.idxOf q.1)=true then some (prD q)else none) (by lia) (λq hq=>?_) ?_
   ·have l:=(Qi.mp hq).2;rw[Qb,Vy,Vy]at l;refine⟨rfl,.inl q.2,.int (os.idxOf q.2),rfl,by rw[g,WK l.2],rfl,.inl q.1,.int (os.idxOf q.1),rfl,by rw[g,WK l.1],rfl,?_⟩;refine XU (λo=>⟨by simp,_,rfl,WK ?_⟩) (λo=>WI λz=>o ?_)
    ·have E:((os.idxOf q.2:Nat):Int)<((os.idxOf q.1:Nat):Int):=WJ o;exact WH (by lia)
    ·have J:=WJ z;exact WH (show((os.idxOf q.2:Nat):Int)<((os.idxOf q.1:Nat):Int) by lia)
   rw[Pf (λq=>decide (os.idxOf q.2<os.idxOf q.1)) prD,List.filter_filter]
   have e:(λq:Int×Int=>decide (os.idxOf q.2<os.idxOf q.1)&&(decide (q.1∈os)&&decide (q.2∈os)))=TU os:=by
    funext q;rw[Zbq r,Bool.and_comm]
   rw[e];exact C
def Zmo(DD:Def K mg "longer_paths" Eb ["paths","left","wishes"])
  : M1 ζ:=by
 refine DD.fz Gx (λC n=>(bc (sS 3 n<|xL a0)<|bc (se (Pu.pz 4 Gx.nd GR)<|Sr IW<|Kr 4)<|bc (sF 1<|sF 0<|sO [5,6] Ql (iL<|xv 0) (gN 5)<|b1<|sF 1<|sO [6] Ql (iL<|xv 1) (gN 6)<|b1<|sI (tp<|wa (te (SN<|Ze4 (KN<|C ()) (pv 6)<|pv 4)<|Sv<|Zny (XF 6)<|XF 4)<|wA<|ti C (xt<|a2 (xx (xv 5)<|xe (NU NO Kv)<|ND Kh)<|xv 6)<|xv 2) (bc (se (F1 (KN<|C ()) (pv 4) (pv 6) Nc rfl)<|Aw 4 (XF 6) Na)<|b1<|sF 6<|sA 3<|xo Sj Sb (xv 5)<|xL<|a1<|xv 6) b0)<|b1<|sV 3)) (.a ?_)
 ·rintro ds R X ⟨l,u,s,y,rfl,B,U,E,T,hR⟩;refine⟨rfl,?_⟩
  refine⟨by simp,rfl,Pm (xs:=u) (emb:=em l) (λi o=>∃q f,o=[some (.bor<|.lst<|u.map<|em l),some (.bor<|.lst<|s.map D.int),some (.bor<|.lst<|y.map prD),some (.own<|q.map<|em l),some (.own<|.dK f),none,none]/\LGs y l (Pd u s i 0) s q f)
   ⟨[],[],rfl,LGs.start⟩ ?_ ?_⟩
  ·rintro i J o ⟨q,f,rfl,r⟩;have v:u[i]?=some u[i]:=WA J;have H:=E u[i] (WU J);generalize u[i]=p at v H ⊢;refine⟨rfl,Pm (xs:=s) (emb:=D.int) (λj o=>∃q f,o=[some (.bor<|.lst<|u.map<|em l),some (.bor<|.lst<|s.map D.int),some (.bor<|.lst<|y.map prD),some (.own<|q.map<|em l),some (.own<|.dK f),some (.bor<|em l p),none]/\LGs y l (Pd u s i j) s q f) ⟨q,f,rfl,r⟩ ?_ ?_⟩
   ·rintro j hj o ⟨q,f,rfl,r⟩;have A:s[j]?=some s[j]:=WA hj;generalize s[j]=h at A ⊢;have N:=r.len_le;have Y:=r.len;refine⟨.inl h,rfl,XU (λg=>?_) (λg=>?_)⟩
    ·have M:(XX f<|.inl h).isSome=false:=by
      cases e:(XX f<|.inl h).isSome with
      |false=>rfl
      |true=>rw[e]at g;cases g
     refine⟨_,Ey l p,by simp,_,.lp (XT l p,h) y,XU (λL=>?_) (λL=>?_)⟩
     ·refine⟨.inl h,.bl true,rfl,rfl,by lia,by simp,TJ _,rfl,by simp;lia,by rw[W9];lia,q++[p++[h]],_,?_,r.put v A B U M (WJ L)⟩;rw[WX]
      have e:em l (p++[h])=.lst ((l::p).map D.int++[.int h]):=by
       unfold em;rw[←Vm,WX];rfl
      rw[Ji,e];rfl
     ·exact⟨q,f,rfl,r.skip v A B (.inr λz=>L (WH z))⟩
    ·have M:(XX f<|.inl h).isSome=true:=by
      cases e:(XX f<|.inl h).isSome with
      |true=>rfl
      |false=>rw[e]at g;exact absurd rfl g
     exact Kn ⟨q,f,rfl,r.skip v A B (.inl M)⟩
   ·rintro o ⟨q,f,rfl,r⟩;refine⟨q,f,rfl,r.congr λQ x=>?_⟩;unfold Pd;rw[Qy,Jl];obtain⟨hi',ei⟩:=Qf.mp v;rw[WS J,Qd,WC,v,ei];constructor
    ·rintro(⟨a,b⟩|⟨a,b⟩)
     ·exact .inl ⟨.inl a,b⟩
     ·exact .inl ⟨.inr (WT a).symm,b⟩
    ·rintro(⟨a|a,b⟩|⟨_,a⟩)
     ·exact .inl ⟨a,b⟩
     ·exact .inr ⟨Qs some a.symm,b⟩
     ·cases a
  ·rintro o ⟨q,f,rfl,r⟩;refine hR q (r.g.congr λQ x=>?_) r.len_le;unfold Pd;rw[Qy,Jl];exact⟨(λz=>z.elim id λw=>by cases w.2),.inl⟩
def Zhd(s:Def K mg "sets_of" Dk ["holders"])
  : Zan ζ:=by
 refine s.fz Zlu (λv n=>(bc (sS 1 n<|xL<|a1<|xt a0)<|bc (sF 0<|sO [2] Ql (iL<|xv 0) (gN 2)<|b1<|sF 2<|sS 1 n<|xo Sj Sb (xv 1)<|xC ["members","holder"] [none,some 2] (jL<|xv 1) (gN 0) f0<|xe (Pq (Zrk (K:=K)) (pv 0)<|NI<|az<|pv 1)<|Zlz (XF 0)<|NY<|sz<|XF 1)<|b1<|sV 1)) (.a ?_)
 ·rintro x R X ⟨g,rfl,u,r⟩;refine⟨rfl,by simp,by simp,rfl,Pm (xs:=g) (emb:=D.int) (λi f=>f=[some (.bor<|.lst<|g.map D.int),some (.own ((Kj<|g.take i).map tD)),none]) rfl ?_ ?_⟩
  ·rintro i q f rfl
   have l:(Kj<|g.take i).length<=1024:=by
    rw[HU,WW];exact Nat.pow_le_pow_right (j:=10) (by decide) (by lia)
   have o:∀b∈Kj (g.take i),b.length<=10:=λb p=>by
    have:=(Fj _ b p).length_le
    rw[WW]at this;lia
   rw[WS q,NK];generalize Kj (g.take i)=S at l o ⊢;generalize g[i]=h;refine Ki (xs:=S) (emb:=tD) (λb=>some (tD (b++[h]))) (by lia) (λb p=>?_) ?_
   ·refine⟨by simp,_,_,Zmy b,rfl,?_,_,rfl,?_⟩
    ·have:=o b p
     rw[W9];show b.length+1<=100000;lia
    ·unfold tD;rw[WX];rfl
   ·rw[Tg];refine⟨rfl,rfl,?_,?_⟩
    ·rw[W9,W9];lia
    ·show[_,_,_]=[_,_,_];rw[WX,WY];rfl
  ·rintro f rfl;rw[Qy];exact r
def Zgu(l:Def K mg "without" AS ["members","holder"])
  : Ls ζ:=by
 refine l.fz Zrl (λf n=>(b1<|sR<|xe (Kt (Za6 (K:=K)) (by rfl) G.Z8 boot_tuple<|az<|cz ["member","holder"] [none,some 1] (Bm (K:=K)<|pv 0) ⟨(gk 0),(FQ<|cn K (f ()) (pv 0)<|pv 1),(pv 0)⟩)<|OE<|sz<|Pj (SndI.c<|BB<|XF 0) (Kr 0) (Tj<|Cd (XF 0)<|XF 1)<|XF 0)) (.a ?_)
 ·rintro q R X ⟨b,h,rfl,o,g⟩;refine⟨rfl,?_⟩;rw[BW];refine⟨_,rfl,Ki (s:=.sh .non) (xs:=b) (emb:=D.int) (λm=>if decide (m≠h)=true then some (.int m)else none) (by lia) (λm p=>?_) ?_⟩
  ·show if (!decide (m=h))=true then _ else _;by_cases e:m=h
   ·rw[WH e];exact Kn (by simp[e])
   ·rw[Qc e];exact PY ⟨_,rfl,WK (WH e)⟩
  ·rw[Pf (λm=>decide (m≠h))];exact⟨rfl,g⟩
def Zf2(p:Def K mg "may_lie_last" Cy ["members","holder","wishes"])
  : Rx ζ:=by
 refine p.fz Zpl (λl n=>(b1<|sR<|xn<|xe (KR (O4 (K:=K) rfl) (by rfl) G.ZN boot_any<|az<|cz ["ahead","behind","holder","members"] [none,none,some 1,some 0] (TL (K:=K)<|pv 2) ⟨(Aa (K:=K) (n:=2) rfl<|Sm (gk 0)<|Sm (gk 1) Fz),PQ,(Ar (PK (NQ (K:=K)<|show _<cLine from(l ()).units0) (pv 0) (pv 2)<|Po _)<|FL<|PK (A5 (K:=K)<|show _<cLine from KN (l ())) (pv 1) (pv 3)<|by with_unfolding_all rfl)⟩)<|GS<|sz<|Pj (Nh<|XF 2) (A6<|Fc (Kr 0)<|Fc (Kr 1) CM) Th<|EV (Nu (XF 0)<|XF 2)<|F6 (XF 1)<|XF 3)) (.a ?_)
 ·rintro s R X ⟨b,h,f,rfl,r,o⟩;refine⟨rfl,?_⟩;rw[BW];refine Ki (xs:=f) (emb:=prD) (λq=>some (.bl (decide (q.1=h)&&decide (q.2∈b)))) (by lia) (λq hq=>?_) ?_
  ·refine⟨rfl,?_⟩;show if true=true then(if decide (q.1=h)=true then _ else _)else(some (D.bl (decide (q.1=h)&&decide (q.2∈b)))=none);refine PY (XU (λg=>⟨_,.ti _ _,?_⟩) (λg=>?_))
   ·refine⟨_,rfl,?_⟩;rw[g,VU];rfl
   ·refine⟨_,rfl,?_⟩;rw[QV.mpr g,VN]
  ·rw[Tg];refine⟨f.map λq=>decide (q.1=h)&&decide (q.2∈b),by rw[WY];rfl,?_⟩;rw[List.any_map];exact o
def Zky(p:Def K mg "may_lie_first" Dj ["members","holder","wishes"])
  : IE ζ:=by
 refine p.fz Zjy (λl n=>(b1<|sR<|xn<|xe (KR (O4 (K:=K) rfl) (by rfl) G.ZN boot_any<|az<|cz ["ahead","behind","holder","members"] [none,none,some 1,some 0] (TL (K:=K)<|pv 2) ⟨(Aa (K:=K) (n:=2) rfl<|Sm (gk 0)<|Sm (gk 1) Fz),PQ,(Ar (PK (NQ (K:=K)<|show _<cLine from(l ()).units0) (pv 1) (pv 2)<|Po _)<|FL<|PK (A5 (K:=K)<|show _<cLine from KN (l ())) (pv 0) (pv 3)<|by with_unfolding_all rfl)⟩)<|GS<|sz<|Pj (Nh<|XF 2) (A6<|Fc (Kr 0)<|Fc (Kr 1) CM) Th<|EV (Nu (XF 1)<|XF 2)<|F6 (XF 0)<|XF 3)) (.a ?_)
 ·rintro s R X ⟨b,h,f,rfl,r,o⟩;refine⟨rfl,?_⟩;rw[BW];refine Ki (xs:=f) (emb:=prD) (λq=>some (.bl (decide (q.2=h)&&decide (q.1∈b)))) (by lia) (λq hq=>?_) ?_
  ·refine⟨rfl,?_⟩;show if true=true then(if decide (q.2=h)=true then _ else _)else(some (D.bl (decide (q.2=h)&&decide (q.1∈b)))=none);refine PY (XU (λg=>⟨_,.ti _ _,?_⟩) (λg=>?_))
   ·refine⟨_,rfl,?_⟩;rw[g,VU];rfl
   ·refine⟨_,rfl,?_⟩;rw[QV.mpr g,VN]
  ·rw[Tg];refine⟨f.map λq=>decide (q.2=h)&&decide (q.1∈b),by rw[WY];rfl,?_⟩;rw[List.any_map];exact o
def Zij(g:Kk K (Ku K (Kd ζ) "strips") "strips" "Village.strips" AV ["self"])
  : HV ζ:=by
 refine g.fz Zig (λl n=>(b1<|sR<|xe (Kt (SA (K:=K)) (by rfl) G.Zg boot_list<|az<|jx K (NX (pv 0) rfl)<|NU NO Kv)<|SJ<|sz<|Pg (F9 1 G.Za G.Zd Iw<|XF 0)<|ND Kh)) (.a ?_)
 ·rintro o R X ⟨bk,fs,h,f,rfl,b⟩;refine⟨rfl,?_⟩;exact⟨rfl,rfl,_,rfl,_,FB plD fs f,FZ _,b⟩
def Zp1(h:Kk K (Ku K (Kd ζ) "wishes") "wishes" "Village.wishes" EY ["self"])
  : Hi ζ:=by
 refine h.fz Ze5 (λl n=>(b1<|sR<|xe (Kt (SA (K:=K)) (by rfl) G.Zg boot_list<|az<|jx K (NX (pv 0) rfl)<|NU NO Kv)<|SJ<|sz<|Pg (F9 2 G.Za G.Ze RU<|XF 0)<|ND Kh)) (.a ?_)
 ·rintro o R X ⟨bk,fs,b,f,rfl,g⟩;refine⟨rfl,?_⟩;exact⟨rfl,rfl,_,rfl,_,FB plD b f,FZ _,g⟩
def Ziu(h:Kk K (Ku K (Kd ζ) "check_room") "check_room" "Village.check_room" CD ["self"])
  : OF ζ:=by
 refine h.fy Zji (λo n=>(b1<|sI (tc BM BJ (xl G.len<|xe (NX (pv 0) rfl)<|F9 0 G.Za G.Zb DL<|XF 0)<|xe (ExcR.PU G.Zp) Kh) (b1<|sQ G.ZE G.Zr ExcR.NC<|a1<|xe (ExcR.N4<|ExcR.Tt<|ExcR.TH (ExcR.PU G.Zp)<|ExcR.Tt ExcR.Nn)<|Nx<|Tu<|T7 Kh<|Tu NB) b0)) (.a ?_)
 ·rintro q R X ⟨bk,fs,l,rfl,b⟩;refine⟨rfl,?_⟩;have p:(bk.map dD).length=bk.length:=W9 ..;unfold Ee at b;refine⟨rfl,rfl,_,rfl,XU (λg=>?_) (λg=>?_)⟩
  ·have f:(100:Int)<=((bk.map dD).length:Int):=WJ g;rw[WK (by lia)]at b;exact⟨by decide,by decide,by decide,by decide,by decide,by simp,b⟩
  ·have f:¬(100:Int)<=((bk.map dD).length:Int):=λz=>g (WH z);rw[WI (by lia)]at b;exact b
def Ze9(z:Kk K (Ku K (Kd ζ) "enter") "enter" "Village.enter" CU ["self","deed","field","wishes"])
  : RE ζ:=by
 refine z.fz Zhp (λB n=>(bc (sF 1<|se (Nv<|Bi Qt V3 V4 By (NX (pv 0) rfl)<|az<|pv 1)<|DN<|Em 0 0 G.Za G.Zb DL<|XF 1)<|bc (sF 2<|se (Nv<|Bi Qt V3 V4 By (NX (pv 0) rfl)<|az<|pv 2)<|DN<|Em 0 1 G.Za G.Zd Iw<|XF 2)<|bc (sF 3<|se (Nv<|Bi Qt V3 V4 By (NX (pv 0) rfl)<|az<|pv 3)<|DN<|Em 0 2 G.Za G.Ze RU<|XF 3)<|b1<|se (Kg<|ln K G.len<|NX (pv 0) rfl)<|K7<|Bk<|sz<|F9 0 G.Za G.Zb DL<|XF 0)) (.c ?_)
 ·rintro o A R X ⟨x,b1,y,v,bk,fs,b,q,f,w,rfl,rfl,H,E,C,p⟩;refine⟨rfl,?_⟩;have l:(bk.map dD).length<10000000:=by rw[W9];lia
  have h:(fs.map plD).length<10000000:=by rw[W9];lia
  have g:(b.map plD).length<10000000:=by rw[W9];lia
  refine⟨rfl,rfl,_,rfl,l,rfl,rfl,_,rfl,h,rfl,rfl,_,rfl,g,rfl,rfl,_,rfl,_,rfl,⟨rfl,by simp⟩,?_⟩;have e:(((bk.map dD++[dD q]).length:Nat):Int)=(bk.length:Int)+1:=by rw[Qa,W9];simp
  show R (.ins x _ vF [(b1,bk.map dD++[dD q]),(y,fs.map plD++[plD f]),(v,b.map plD++[plD w])]) (.int (((bk.map dD++[dD q]).length:Nat):Int));rw[e];have u:bk.map dD++[dD q]=(bk++[q]).map dD:=by rw[WX];rfl
  have s:fs.map plD++[plD f]=(fs++[f]).map plD:=by rw[WX];rfl
  have r:b.map plD++[plD w]=(b++[w]).map plD:=by rw[WX];rfl
  rw[u,s,r];exact p
def Zdv(N:Def K mg "is_number" DC ["text"])
  : Oy ζ:=by
 refine N.fz Zmq (λv n=>(bc (sI (tp<|wo (tc NR NH (xl G.len<|xv 0) xi)<|wO<|tc Tp Tr (xl G.len<|xv 0)<|xe (ExcR.PU G.Z3) Kh) (b1<|sR xb) b0)<|bc (sI (tp<|wa (tq v (xe (Od Zfk (pv 0) Kv (λ_ _=>rfl))<|Zl9 (XF 0) Kh) xs)<|wA<|tn v (xv 0) xs) (b1<|sR xb) b0)<|b1<|sR<|xe (KR (Oz (K:=K) rfl) (by rfl) G.ZM boot_all<|az<|cz ["sign"] [none] (Zli<|pv 0) ⟨(gk 0),PQ,(PK Zi7 (pv 0) (ExcR.PU G.ZL)<|by with_unfolding_all rfl)⟩)<|La<|sz<|Pj (SndI.c<|Zn0<|XF 0) (Kr 0) Th<|Zgr (XF 0) Ke)) (.a ?_)
 ·rintro T R X ⟨x,rfl,l,y,f⟩;refine⟨rfl,l,XU (λg=>?_) (λp=>⟨l,XU (λg=>?_) (λo=>?_)⟩)⟩
  ·have e:Tn x=false:=by
    unfold Tn;have g:decide ((x.length:Int)<1)=true:=g;rw[g];rfl
   rw[←e];exact f
  ·have e:Tn x=false:=by
    unfold Tn;have g:decide ((4:Int)<(x.length:Int))=true:=g;rw[show decide ((x.length:Int)>4)=true from g,Bool.or_true]
    rfl
   rw[←e];exact f
  have p:¬(x.length:Int)<1:=λz=>p (WH z);have o:¬(4:Int)<(x.length:Int):=λz=>o (WH z);have u:x.cps.toList.length=x.length:=Qw
  obtain⟨c,r,B⟩:∃c r,x.cps.toList=c::r:=by
   cases e:x.cps.toList with
   |nil=>rw[e]at u;simp at u;lia
   |cons c r=>exact⟨c,r,rfl⟩
  have E:atI x.cps.toList 0=some c:=by rw[B];exact N9 _ _
  have M:decide ((⟨#[c]⟩:Str) = "0")=decide (x.cps.toList.head?=some 48):=by
   rw[B];by_cases z:c=48
   ·subst z;rw[show(48::r).head?=some 48 from rfl,WH rfl]
    decide +kernel
   ·rw[Qc (λh=>z (by have:=Qs (λs:Str=>s.cps.toList) h;exact(List.cons.inj this).1))];exact(Qc λh=>z (WT h)).symm
  have q:Tn x=(!(decide (x.cps.toList.head?=some 48) && !decide (x=("0" : Str)))&&(x.cps.toList.map λc=>decide (c∈("0123456789" : Str).cps.toList)).all id):=by
   unfold Tn;rw[Qc p,Qc o];rfl
  refine⟨l,c,E,?_⟩;show if decide ((⟨#[c]⟩:Str) = "0")=true then _ else _;rw[M];have C:x.cps.size<=4:=by have:x.cps.size=x.length:=rfl;lia
  have last:∀b:Bool,b=(x.cps.toList.map λc=>decide (c∈("0123456789" : Str).cps.toList)).all id->Tn x=b->Nt [none] [some (.sh<|.str x)] (SY 0) ED (p2 (F0 0) (pC<|.str "0123456789") Ei) x.cps.size (λi=>.sh (.str ⟨#[x.cps.getD i 0]⟩)) λs=>Ds [s] R:=λb J L=>by
   refine BR (λi=>some (.bl<|decide (x.cps.getD i 0∈("0123456789" : Str).cps.toList))) (by lia) (λi Q=>?_) ?_
   ·exact⟨_,rfl,_,rfl,rfl⟩
   ·have e:(List.range x.cps.size).filterMap (λi=>some (D.bl<|decide (x.cps.getD i 0∈("0123456789" : Str).cps.toList)))=(x.cps.toList.map λc=>decide (c∈("0123456789" : Str).cps.toList)).map D.bl:=by
     rw[Qq,WY];refine List.ext_getElem (by simp) λi A H=>?_;simp at A H ⊢;rw[Q9 A];rfl
    rw[e];refine⟨_,rfl,?_⟩;rw[←J,←L];exact f
  refine XU (λg=>?_) (λg=>?_)
  ·show if (!decide (x=("0" : Str)))=true then _ else _;by_cases z:x=("0" : Str)
   ·rw[WH z];refine Kn ⟨y,last _ rfl ?_⟩;rw[q,WH z,Bool.not_true,JT];rfl
   ·rw[Qc z];refine PY ?_;have e:Tn x=false:=by rw[q,g,Qc z];rfl
    rw[←e];exact f
  ·refine Kn ⟨y,last _ rfl ?_⟩;rw[q,QV.mpr g,VN];rfl
def Zk0(l:Def K mg "told_texts" CC ["texts"])
  : M4 ζ:=by
 refine l.fz Ze0 (λo n=>(b1<|sR<|xI (tt<|xv 0) (xe (PL (K:=K) QX VO VP (An (K:=K)) Kf<|az<|pv 0)<|Ah Ke<|XF 0) xs)) (.a ?_)
 ·rintro p R X ⟨b,rfl,h,f⟩;refine⟨rfl,?_⟩;have g:(b.map D.str).isEmpty=decide (b=[]):=by cases b<;>simp
  show if (!(b.map D.str).isEmpty)=true then _ else _;rw[g];by_cases z:b=[]
  ·rw[WH z];rw[WK z]at f;exact Kn f
  ·rw[Qc z];rw[WI z]at f;exact PY ⟨b,rfl,h,f⟩
def Zeu(l:Def K mg "_law_at" Ek ["_law_script","_law_k"])
  : HM ζ:=by
 refine l.fz Zdi (λo n=>(bc (sI (tc NR NH (xv 1)<|xl G.len<|xv 0) (b1<|sR<|xx (xv 0)<|xv 1) b0)<|b1<|sR xi)) (.a ?_)
 ·rintro q R X ⟨b,k,rfl,h,f⟩;refine⟨rfl,?_⟩;refine XU (λg=>?_) (λ_=>f 0);have p:k<(b.length:Int):=WJ g;exact⟨_,EJ h (WA<|show k.toNat<b.length by omega),f _⟩
def Zpz(f:Def K mg "_law_mix" Cb ["_law_cell","_law_place"])
  : Oj ζ:=by
 refine f.fz Zna (λg n=>(bc (sS 2 n<|xo KG KC (xo NA Np (xo K0 K5 (xo K0 K5 (xo KG KC (xv 0) xi)<|xo NA Np xi<|xv 1) xi) xi) xi)<|b1<|sR<|xo KG KC (xo NA Np (xo K0 K5 (xo K0 K5 (xv 2)<|xo NA Np xi<|xv 1) xi) xi) xi)) (.a ?_)
 ·rintro h R X ⟨c,p,rfl,b⟩;refine⟨rfl,?_⟩;exact⟨(by show(0:Int)<2147483647;decide),.inl ⟨by decide,by decide⟩,.inr ⟨by decide,by decide⟩,(by show(0:Int)<2147483647;decide),.inl ⟨by decide,by decide⟩,.inr ⟨by decide,by decide⟩,(by show(0:Int)<2147483647;decide),b _⟩
def Zkf(z:Def K mg "_law_menu" A1 ["_law_cell"])
  : OC ζ:=by
 refine z.fz Zel (λA n=>(bc (sS 1 n<|xx (xL<|ac xi<|ac xi<|ac xi<|ac xi<|ac xi a0)<|xo KG KC (xo Ts Tq (xv 0) xi) xi)<|bc (sS 2 n<|xx (xL<|ac xi<|ac xi<|ac xi<|ac xi<|ac xi a0)<|xo KG KC (xo Ts Tq (xv 0) xi) xi)<|b1<|sF 2<|sF 1<|sR<|xL<|ac (xo K0 K5 xi<|xo KG KC (xv 0) xi)<|ac (xx (xL<|ac xi<|ac xi<|ac xi<|ac xi a0)<|xo KG KC (xo Ts Tq (xv 0) xi) xi)<|ac (xo KG KC (xo Ts Tq (xv 0) xi) xi)<|ac (xv 1)<|ac (xv 2) a0)) (.a ?_)
 ·rintro B R X ⟨c,rfl,u⟩;refine⟨rfl,?_⟩;have p:0<=c / 10 % 4/\c / 10 % 4<4:=by lia
  have o:0<=c / 400 % 5/\c / 400 % 5<5:=by lia
  have s:∀v∈([1,3,7,9]:Yf),1<=v/\v<=9/\(v=1\/v=3\/v=7\/v=9):=by decide
  have g:∀i:Int,0<=i->i<5->∃d e:Int,atI [D.int 1000,.int 3,.int 1,.int 2,.int 3] i=some (.int d)/\atI [D.int 1,.int 1,.int 1,.int 1,.int 998] i=some (.int e)/\(1<=d/\d<=1000)/\1<=e/\e+d<=1001:=λi a b=>by
   have:i=0\/i=1\/i=2\/i=3\/i=4:=by lia
   rcases this with rfl|rfl|rfl|rfl|rfl
   ·exact⟨1000,1,rfl,rfl,by decide,by decide,by decide⟩
   ·exact⟨3,1,rfl,rfl,by decide,by decide,by decide⟩
   ·exact⟨1,1,rfl,rfl,by decide,by decide,by decide⟩
   ·exact⟨2,1,rfl,rfl,by decide,by decide,by decide⟩
   ·exact⟨3,998,rfl,rfl,by decide,by decide,by decide⟩
  obtain⟨d,e,y,x,r,q⟩:=g _ o.1 o.2;have h:=s _ (WU (l:=([1,3,7,9]:Yf)) (n:=(c / 10 % 4).toNat)<|by show(c / 10 % 4).toNat<4;lia);refine⟨by simp,⟨by decide,by decide⟩,(by show(0:Int)<5;decide),_,y,by simp,⟨by decide,by decide⟩,(by show(0:Int)<5;decide),_,x,(by show(0:Int)<10;decide),by simp,⟨by decide,by decide⟩,(by show(0:Int)<4;decide),_,TC (f:=D.int) (xs:=[1,3,7,9]) p.1 p.2,⟨by decide,by decide⟩,(by show(0:Int)<10;decide),by simp,?_⟩;exact u [_,_,_,_,_] ⟨_,_,_,_,_,rfl,by lia,h,by lia,r,q⟩
def Zmd(h:Def K mg "_law_holder" Cw ["_law_menu_here","_law_k"])
  : Oo ζ:=by
 refine h.fz Zg0 (λl n=>(b1<|sR<|xo K0 K5 xi<|xo KG KC (xo K0 K5 (xo NA Np (xv 1)<|xx (xv 0) xi)<|xx (xv 0) xi) xi)) (.a ?_)
 ·rintro u R X ⟨m,k,rfl,g,f⟩;refine⟨rfl,?_⟩;obtain⟨a,b,c,d,e,rfl,s,r,q,p,o⟩:=g;exact⟨_,rfl,.inr ⟨by lia,by lia⟩,_,rfl,(by show(0:Int)<10;decide),f _ (by lia) (by lia) rfl⟩
def Zmx(l:Def K mg "_law_present" Cz ["_law_strips_here"])
  : Gk ζ:=by
 refine l.fz Zh0 (λf n=>(bc (sS 1 n<|xC ["_law_strip"] [none] (jL<|xv 0) (gN 0) f0<|xx (xv 0) xi)<|b1<|sR<|xC ["_law_holder_here","_law_owners"] [none,some 1] (jI<|iR G.Zc<|a2 xi xi) (gN 0) (f1<|ti f (xv 0)<|xv 1)<|xv 0)) (.a ?_)
 ·rintro r R X ⟨b,rfl,o,h⟩;refine⟨rfl,?_⟩;refine Ki (xs:=b) (emb:=prD) (λq=>some (.int q.1)) (by lia) (λq hq=>⟨_,rfl,_,rfl,rfl⟩) ?_;rw[Tg (λq:Int×Int=>D.int q.1),show b.map (λq:Int×Int=>D.int q.1)=(b.map (·.1)).map D.int by rw[WY];rfl];refine⟨⟨by decide,by decide,by decide,by decide⟩,BR (n:=10) (λi=>if decide ((1:Int)+(i:Int)∈b.map (·.1))=true then some (.int (1+(i:Int)))else none) (by decide) (λi p=>?_) ?_⟩
  ·exact⟨_,.li _ _,XU (λg=>⟨_,rfl,WK g⟩) (λg=>WI g)⟩
  rw[Pf (λi:Nat=>decide ((1:Int)+(i:Int)∈b.map (·.1)))]
  have e:((List.range 10).filter λi:Nat=>decide ((1:Int)+(i:Int)∈b.map (·.1))).map (λi:Nat=>D.int (1+(i:Int)))=(XJ b).map D.int:=by
   unfold XJ;rw[Zj9,List.filter_map,WY];rfl
  rw[e];exact h
def Zck(Q:Def K mg "_law_price" DP ["_law_strips_here","_law_order"])
  : O6 ζ:=by
 refine Q.fz Zks (λU n=>(bc (sC 2 ["_law_strip","_law_order"] [none,some 1] n (jL<|xv 0) (gN 0) f0<|xe (PL (K:=K) Qt QC QU (BN (K:=K)) (pv 1)<|az<|jx K (pv 0) Kv)<|BZ (XF 1)<|sz<|Pg (XF 0) Kh)<|bc (sS 3 n xi)<|bc (sO [4,5] Ql (ir G.Zc<|a1<|xl G.len<|xv 0) (gN 4)<|b1<|sO [5] Ql (ir G.Zc<|a1<|xv 4) (gN 5)<|b1<|sI (tc Tp Tr (xx (xv 2)<|xv 5)<|xx (xv 2)<|xv 4) (b1<|sS 3 n<|xo K0 K5 (xv 3)<|xo NA Np (xx (xx (xv 0)<|xv 5) xi)<|xx (xx (xv 0)<|xv 4) xi) b0)<|b1<|sV 3)) (.a ?_)
 ·rintro Y R X ⟨b,os,rfl,B,T,s,L⟩;refine⟨rfl,?_⟩;have H:(b.map prD).length=b.length:=W9 ..;refine Ki (xs:=b) (emb:=prD) (λq=>some (.int (os.idxOf q.1:Nat))) (by lia) (λq hq=>⟨⟨_,rfl⟩,_,rfl,os,rfl,s q hq,_,rfl,rfl⟩) ?_;rw[Tg (λq:Int×Int=>D.int (os.idxOf q.1:Nat)),show b.map (λq:Int×Int=>D.int (os.idxOf q.1:Nat))=(b.map λq:Int×Int=>((os.idxOf q.1:Nat):Int)).map D.int by rw[WY];rfl];generalize x:(b.map λq:Int×Int=>((os.idxOf q.1:Nat):Int))=r
  have y:∀(j:Nat) (p:j<b.length),atI (r.map D.int) (0+(j:Int))=some (.int (os.idxOf b[j].1:Nat)):=λj p=>by
   rw[show(0:Int)+(j:Int)=(j:Int) by lia,←x];exact Ph (f:=D.int) (Tz<|by rw[WR,WA p];rfl)
  have A:∀(j:Nat) (p:j<b.length),atI (b.map prD) (0+(j:Int))=some (prD b[j]):=λj p=>by
   rw[show(0:Int)+(j:Int)=(j:Int) by lia];exact Ph (f:=prD) (Tz<|WA p)
  refine⟨⟨by lia,by lia⟩,Sx (λk h=>h=[some (.bor<|.lst<|b.map prD),some (.bor<|.lst<|os.map D.int),some (.own<|r.map D.int),some (.sh<|.int<|KL b os k),none,none]) rfl ?_ ?_⟩
  ·rintro k h J rfl
   have l:k<b.length:=by
    have:k<(((b.map prD).length:Nat):Int).toNat:=J
    lia
   have u:b.getD k (0,0)=b[k]:=by rw[WE,WA l];rfl
   have N:KL b os (k+1)=KL b os k+rsM b os b[k].1 k*b[k].2:=by simp only[KL];rw[u]
   have C:=B b[k] (WU l);refine⟨⟨by lia,by lia⟩,Sx (λj h=>h=[some (.bor<|.lst<|b.map prD),some (.bor<|.lst<|os.map D.int),some (.own<|r.map D.int),some (.sh<|.int (KL b os k+rsM b os b[k].1 j*b[k].2)),some (.sh<|.int (0+(k:Int))),none]) ?_ ?_ ?_⟩
   ·rw[show rsM b os b[k].1 0=0 from rfl,Int.zero_mul,Jj]
    rfl
   ·rintro j h p rfl
    have o:j<b.length:=by
     have:j<((0:Int)+(k:Int)).toNat:=p
     lia
    have v:b.getD j (0,0)=b[j]:=by rw[WE,WA o];rfl
    have E:=B b[j] (WU o);have step:rsM b os b[k].1 (j+1)=rsM b os b[k].1 j+(if os.idxOf b[k].1<os.idxOf b[j].1 then b[j].2 else 0):=by simp only[rsM];rw[v]
    refine⟨_,y j o,_,y k l,XU (λg=>?_) (λg=>?_)⟩
    ·have M:((os.idxOf b[k].1:Nat):Int)<((os.idxOf b[j].1:Nat):Int):=WJ g;refine⟨_,A j o,_,rfl,_,A k l,_,rfl,.inl ⟨by show -(2 ^ 64)<b[j].2;lia,by show b[j].2<2 ^ 64;lia⟩,?_⟩;rw[step,WK (by lia),Int.add_mul,←Int.add_assoc];rfl
    ·have M:¬((os.idxOf b[k].1:Nat):Int)<((os.idxOf b[j].1:Nat):Int):=λz=>g (WH z);rw[step,WI (by lia),Jj];rfl
   ·rintro h rfl;rw[show((0:Int)+(k:Int)).toNat=k by lia,←N];rfl
  ·rintro h rfl;rw[show(((b.map prD).length:Nat):Int).toNat=b.length by lia];exact L
def Zjf(B:Def K mg "_law_kept" Dp ["_law_order","_law_wishes_here"])
  : L6 ζ:=by
 refine B.fz Znt (λy n=>(bc (sF 1<|sO [2,3] Ql (iL<|xv 1) (gT 2<|gc (gN 2)<|gc (gN 3) g0)<|b1<|sI (tp<|wa (ti y (xv 2)<|xv 0)<|wa (ti y (xv 3)<|xv 0)<|wA<|tc Tp Tr (xe (PL (K:=K) Qt QC QU (BN (K:=K)) (pv 0)<|az<|pv 2)<|BZ (XF 0)<|sz<|XF 2)<|xe (PL (K:=K) Qt QC QU (BN (K:=K)) (pv 0)<|az<|pv 3)<|BZ (XF 0)<|sz<|XF 3) (b1<|sR xb) b0)<|b1<|sR xb)) (.a ?_)
 ·rintro C R X ⟨os,l,rfl,r,p⟩;refine⟨rfl,rfl,Pm (xs:=l) (emb:=prD) (λi g=>g=[some (.bor<|.lst<|os.map D.int),some (.bor<|.lst<|l.map prD),none,none]/\∀q∈l.take i,PX os q=false) ⟨rfl,by simp⟩ ?_ ?_⟩
  ·rintro i A g ⟨rfl,o⟩;have hq:=WU A
   have next:PX os l[i]=false->∀q∈l.take (i+1),PX os q=false:=λh q hq=>by
    rw[WS A,Qd,WC]at hq;rcases hq with hq|hq
    ·exact o q hq
    ·rw[hq];exact h
   generalize l[i]=q at hq next ⊢;refine⟨rfl,_,.li _ _,XU (λx=>⟨_,.li _ _,XU (λv=>?_) (λv=>?_)⟩) (λx=>?_)⟩
   ·have f:decide (q.1∈os)=true:=x;have b:decide (q.2∈os)=true:=v;refine⟨⟨_,rfl⟩,os,rfl,WJ f,⟨_,rfl⟩,os,rfl,WJ b,?_⟩;refine XU (λu=>?_) (λu=>?_)
    ·have s:=WJ u;refine p ⟨q,hq,?_⟩;unfold PX;rw[f,b,WH (by omega)];rfl
    ·have s:¬((os.idxOf q.2:Nat):Int)<((os.idxOf q.1:Nat):Int):=λz=>u (WH z);refine⟨rfl,next ?_⟩;unfold PX;rw[f,b,Qc (by omega)];rfl
   ·refine Kn ⟨rfl,next ?_⟩;have b:decide (q.2∈os)=false:=QV.mpr v;unfold PX;rw[b,VN,JT]
   ·refine Kn ⟨rfl,next ?_⟩;have f:decide (q.1∈os)=false:=QV.mpr x;unfold PX;rw[f,VN]
  ·rintro g ⟨rfl,o⟩;rw[Qy]at o;exact r o
def Zbz(B:Def K mg "_law_no_ring" E4 ["_law_holders","_law_wishes_here"])
  : IB ζ:=by
 refine B.fz Zqm (λs n=>(bc (sS 2 n<|xe (Kt (SA (K:=K)) (by rfl) G.Zg boot_list<|az<|pv 0)<|SJ<|sz<|XF 0)<|bc (sF 0<|sO [3,4,5] Ql (iL<|xv 0) (gN 3)<|bc (sC 4 ["_law_pair","_law_left"] [none,some 2] n (jL<|xv 1) (gN 0) (f1<|tp<|wa (ti s (xx (xv 0) xi)<|xv 1)<|wA<|ti s (xx (xv 0) xi)<|xv 1)<|xv 0)<|bc (sS 5 n<|xC ["_law_pair"] [none] (jL<|xv 4) (gN 0) f0<|xx (xv 0) xi)<|b1<|sS 2 n<|xC ["_law_holder_here","_law_behind"] [none,some 5] (jL<|xv 2) (gN 0) (f1<|ti s (xv 0)<|xv 1)<|xv 0)<|b1<|sR<|xe (PK (Dv (K:=K)<|show _<cLine from(s ()).units0) (pv 2) (T4 KM)<|Po _)<|Fs (XF 2)<|TN Kw)) (.a ?_)
 ·rintro J R X ⟨l,b,rfl,z,hw,A⟩;refine⟨rfl,TJ _,rfl,Pm (xs:=l) (emb:=D.int) (λi o=>o=[some (.bor<|.lst<|l.map D.int),some (.bor<|.lst<|b.map prD),some (.own ((Kl b l i).map D.int)),none,none,none]/\(Kl b l i).length<=50) ⟨rfl,z⟩ ?_ ?_⟩
  ·rintro i E o ⟨rfl,u⟩;generalize e:Kl b l i=f at u;have y:Kl b l (i+1)=P8 b f:=Qs (P8 b) e;have C:(TX b f).length<=50:=WQ (Q5 _ _) hw;refine Ki (xs:=b) (emb:=prD) (λq=>if (decide (q.1∈f)&&decide (q.2∈f))=true then some (prD q)else none) (by lia) (λq hq=>?_) ?_
   ·refine⟨_,rfl,_,.li _ _,XU (λx=>⟨_,rfl,_,.li _ _,XU (λv=>⟨_,rfl,WK ?_⟩) (λv=>WI ?_)⟩) (λx=>Kn (WI ?_))⟩
    ·have r:decide (q.1∈f)=true:=x;have p:decide (q.2∈f)=true:=v;rw[r,p];rfl
    ·have p:decide (q.2∈f)=false:=QV.mpr v;rw[p,JT];exact WZ
    ·have r:decide (q.1∈f)=false:=QV.mpr x;rw[r,VN];exact WZ
   rw[Pf (λq:Int×Int=>decide (q.1∈f)&&decide (q.2∈f))];show _;refine Ki (xs:=TX b f) (emb:=prD) (λq=>some (.int q.2)) (by lia) (λq hq=>⟨_,rfl,_,rfl,rfl⟩) ?_;rw[Tg (λq:Int×Int=>D.int q.2),show(TX b f).map (λq:Int×Int=>D.int q.2)=((TX b f).map (·.2)).map D.int by rw[WY];rfl];refine Ki (xs:=f) (emb:=D.int) (λh=>if decide (h∈(TX b f).map (·.2))=true then some (.int h)else none) (by lia) (λh H=>?_) ?_
   ·exact⟨_,.li _ _,XU (λg=>⟨_,rfl,WK g⟩) (λg=>WI g)⟩
   rw[Pf (λh:Int=>decide (h∈(TX b f).map (·.2)))];exact⟨by rw[y];rfl,by rw[y];exact WQ (Q5 _ _) u⟩
  ·rintro o ⟨rfl,u⟩;refine⟨QL _,?_⟩;have e:((Kl b l l.length).map D.int).isEmpty=decide (Kl b l l.length=[]):=by cases Kl b l l.length<;>simp
   show R (.sh (.bl ((Kl b l l.length).map D.int).isEmpty));rw[e];exact A
def Zri(DD:Def K mg "_law_lined" AL ["_law_holders","_law_wishes_here","_law_cell"])
  : IU ζ:=by
 refine DD.fz Zcp (λY n=>(bc (sS 3 n<|xe (Kt (SA (K:=K)) (by rfl) G.Zg boot_list<|az<|pv 0)<|SJ<|sz<|XF 0)<|bc (sS 4 n<|xL a0)<|bc (sF 2<|sS 5 n<|xv 2)<|bc (sW [6,7] Ql (te (Nj (Zbk (K:=K)<|show _<cLine from(Y ()).units0) (pv 3) (T4 KM)<|Po _)<|Tj<|Fs (XF 3)<|TN Kw)<|bc (sS 6 n<|xC ["_law_pair","_law_left"] [none,some 3] (jL<|xv 1) (gN 0) (f1<|ti Y (xx (xv 0) xi)<|xv 1)<|xx (xv 0) xi)<|bc (sC 7 ["_law_holder_here","_law_behind"] [none,some 6] n (jL<|xv 3) (gN 0) (f1<|tI Y (xv 0)<|xv 1)<|xv 0)<|bc (sA 4<|xx (xv 7)<|xo KG KC (xv 5)<|xl G.len<|xv 7)<|bc (sS 5 n<|xo Ts Tq (xv 5)<|xl G.len<|xv 7)<|b1<|se (Nv<|Bi Qt PySem.F.slot_list_remove PySem.F.type_list_remove Zos (pv 3)<|az<|jx K (pv 4)<|NU NO Kv)<|Zgk 3<|Pg (XF 4)<|ND Kh)<|b1<|sV 4)) (.a ?_)
 ·rintro ds R X ⟨Q,p,c,rfl,nd,hz,hw,hu,hN,hR⟩;refine⟨rfl,TJ Q,by simp,Am (λE=>∃(L o:Yf) (r:Int),E=[some (.bor<|.lst<|Q.map D.int),some (.bor<|.lst<|p.map prD),some (.sh<|.int c),some (.own<|L.map D.int),some (.own<|o.map D.int),some (.sh<|.int r),none,none]/\(o++L).Perm Q/\Keeps p o/\∀a∈o,∀b∈L,(b,a)∉p) (Cv 3) ⟨Q,[],c,rfl,.refl _,.nil,by simp⟩ ?_⟩;rintro E ⟨L,o,r,rfl,C,hk,hb⟩;have J:=C.length_eq;rw[Qa]at J;have ndL:L.Nodup:=(QM.mp<|C.nodup_iff.mpr nd).2.1;refine⟨by simp,?_⟩;show if (!(L.map D.int).isEmpty)=true then _ else _;refine XU (λg=>?_) (λg=>?_)
  ·have hne:L≠[]:=λe=>by subst e;simp at g
   have M:N3 p L≠[]:=λe=>hN <|by
    obtain⟨s,R⟩:=Eg hu hne λx hx=>by
     refine QA λz=>?_
     have:x∈N3 p L:=mem_free.mpr ⟨hx,λb v U=>z ⟨b,v,U⟩⟩
     rw[e]at this;cases this
    exact⟨s,R.two,R.nodup,λx hx=>C.mem_iff.mp (Qm _<|R.sub x hx),R.chain,R.last⟩
   have hfl:(N3 p L).length<=50:=WQ (Q5 _ _) (by omega);refine Ki (xs:=p) (emb:=prD) (λq=>if decide (q.1∈L)=true then some (.int q.2)else none) (by omega) (λq hq=>⟨_,N9 _ _,_,.li _ _,XU (λg=>⟨_,Gw _ _ (.inr rfl),_,rfl,WK g⟩) (λg=>WI g)⟩) ?_;rw[Pf (λq:Int×Int=>decide (q.1∈L)) (λq=>D.int q.2)];have em:(p.filter λq=>decide (q.1∈L)).map (λq=>D.int q.2)=((p.filter λq=>decide (q.1∈L)).map (·.2)).map D.int:=by rw[WY];rfl
   rw[em];refine Ki (xs:=L) (emb:=D.int) (λh=>if decide (¬h∈(p.filter λq=>decide (q.1∈L)).map (·.2))=true then some (.int h)else none) (by omega) (λh hh=>⟨_,.li _ _,?_⟩) ?_
   ·show if (!decide (h∈_))=true then _ else _;by_cases z:h∈(p.filter λq=>decide (q.1∈L)).map (·.2)
    ·rw[WH z];exact Kn (WI λy=>absurd z (WJ y))
    ·rw[Qc z];exact PY ⟨_,rfl,WK (WH z)⟩
   ·rw[Pf (λh=>decide (¬h∈(p.filter λq=>decide (q.1∈L)).map (·.2)))];have eF:(L.filter λh=>decide (¬h∈(p.filter λq=>decide (q.1∈L)).map (·.2)))=N3 p L:=rfl;rw[eF];have H:∀f∈N3 p L,f∈L/\∀b∈L,(b,f)∉p:=λf hf=>mem_free.mp hf;generalize N3 p L=F at M hfl H ⊢;have hpos:0<F.length:=JO.mpr M;have u:(0:Int)<(((F.map D.int).length:Nat):Int):=by rw[W9];omega
    obtain⟨f,hf,hat⟩:∃f∈F,atI (F.map D.int) (r % (((F.map D.int).length:Nat):Int))=some (.int f):=by
     rw[W9];exact⟨_,WU _,TC (JL _<|by omega) (Jk _<|by omega)⟩
    obtain⟨A,hfb⟩:=H f hf;have eo:o.map D.int++[D.int f]=(o++[f]).map D.int:=by rw[WX];rfl
    have T:L.Perm (f::L.eraseIdx (L.idxOf f)):=by
     rw[←List.erase_eq_eraseIdx_of_idxOf (l:=L) (a:=f) rfl];exact List.perm_cons_erase A
    refine⟨u,_,hat,by rw[W9];omega,⟨u,by rw[W9];omega⟩,.int f,by rw[eo];exact Zc5 o f,L,rfl,A,⟨L.eraseIdx (L.idxOf f),o++[f],_,by rw[←eo];rfl,?_,?_,?_⟩,?_⟩
    ·rw[VE];exact(List.Perm.append_left o T.symm).trans C
    ·refine QT.mpr ⟨hk,List.pairwise_singleton _ _,λa B b v=>?_⟩;rw[WC.mp v];exact hb a B f A
    ·intro a B b v;have N:b∈L:=T.mem_iff.mpr (WV _ v);rcases Qd.mp B with B|B
     ·exact hb a B b N
     ·rw[WC.mp B];exact hfb b N
    ·show((L.eraseIdx<|L.idxOf f).map D.int).length<(L.map D.int).length
     have:=T.length_eq
     rw[Qn]at this;rw[W9,W9];omega
  ·have e:L=[]:=by
    cases L with
    |nil=>rfl
    |cons a r=>exact absurd rfl g
   subst e;rw[Qz]at C;exact hR o C hk
def Zcn(z:Def K mg "_law_ends" DX ["_law_strips_here","_law_order"])
  : OA ζ:=by
 refine z.fz Zkl (λu n=>(bc (sS 2 n<|xL a0)<|bc (sF 1<|sO [3] Ql (iL<|xv 1) (gN 3)<|b1<|se (Nv<|Bi Qt PySem.F.slot_list_extend PySem.F.type_list_extend Zdq (pv 2)<|az<|cz ["_law_k","_law_holder_here","_law_strips_here"] [none,some 3,some 0] (IV rfl G.Zc<|az<|ln K G.len<|pv 0) ⟨(gk 0),(FQ<|cq K (u ()) (jx K (jx K (pv 2)<|pv 0) Kv)<|pv 1),(Pq K0 (pv 0) Kv)⟩)<|Zgl 2<|Pj (SndI.c<|O8<|sz<|Bk<|sz<|XF 0) (Kr 0) (Tj<|Nu (Pg (Pg (XF 2)<|XF 0) Kh)<|XF 1)<|K5 (XF 0) Kh)<|b1<|sV 2)) (.a ?_)
 ·rintro J R X ⟨b,o,rfl,r,A,x⟩;refine⟨rfl,?_⟩;have C:(b.map prD).length=b.length:=W9 ..;refine⟨by simp,rfl,Pm (xs:=o) (emb:=D.int) (λi h=>h=[some (.bor<|plD b),some (.bor<|.lst<|o.map D.int),some (.own (((o.take i).flatMap (KZ b)).map D.int)),none]) rfl ?_ ?_⟩
  ·rintro i v h rfl;have H:=Zl3 b (o.take i);have s:(o.take i).length<=50:=by rw[WW];omega
   have B:=Nat.mul_le_mul s r;have ln:=IP b o[i];refine⟨⟨by omega,by omega⟩,BR (λk=>if decide ((b.getD k (0,0)).1=o[i])=true then some (.int (0+(k:Int)+1))else none) (by omega) (λk E=>?_) ?_⟩
   ·have l:k<b.length:=by omega
    have q:atI (b.map prD) (0+(k:Int))=some (prD b[k]):=by
     rw[show(0:Int)+(k:Int)=(k:Int) by omega];exact Ph (f:=prD) (Tz<|WA l)
    have p:b.getD k (0,0)=b[k]:=by rw[WE,WA l];rfl
    rw[p];refine⟨_,q,_,rfl,?_⟩;exact XU (λg=>⟨_,rfl,WK g⟩) (λg=>WI g)
   rw[Pf (λk:Nat=>decide ((b.getD k (0,0)).1=o[i]))]
   have em:((List.range (((b.map prD).length:Nat):Int).toNat).filter (λk:Nat=>decide ((b.getD k (0,0)).1=o[i]))).map (λk:Nat=>D.int (0+(k:Int)+1))=(KZ b o[i]).map D.int:=by
    unfold KZ;rw[WY,show(((b.map prD).length:Nat):Int).toNat=b.length by omega];rfl
   rw[em];refine⟨by rw[W9,W9];omega,?_⟩
   have y:(o.take (i+1)).flatMap (KZ b)=(o.take i).flatMap (KZ b)++KZ b o[i]:=by
    rw[WS v,List.flatMap_append];simp
   rw[y,WX];rfl
  ·rintro h rfl;rw[Qy];exact x
def Zqi(DD:Def K mg "_law_read" Eo ["_law_text","_law_most"])
  : MY ζ:=by
 refine DD.fz Zim (λU n=>(bc (sI (tq U (xv 0) xs) (b1<|sR<|xL a0) b0)<|bc (sC 2 ["_law_k"] [none] n (jI<|iR G.Zc<|a2 xi<|xo K0 K5 (xv 1) xi) (gN 0) f0<|xe (Kt Ta (by rfl) G.Zf boot_str<|az<|pv 0)<|Ti<|sz<|XF 0)<|bc (sS 3 n<|xL a0)<|bc (sO [4] Ql (iL<|xe (PL (K:=K) QX PySem.F.slot_str_split PySem.F.type_str_split Ir (pv 0)<|az Kf)<|Zat (XF 0) Ke) (gN 4)<|bc (sI (te (Nj (LX (K:=K)) (pv 4) (pv 2)<|by with_unfolding_all rfl)<|Tj<|Zng (XF 4)<|XF 2) (b1<|sR<|xL<|a1 xi) b0)<|b1<|sA 3<|xo K0 K5 (xe (PL (K:=K) Qt QC QU (Zbx (K:=K)) (pv 2)<|az<|pv 4)<|Zod (XF 2)<|sz<|XF 4) xi)<|b1<|sV 3)) (.a ?_)
 ·rintro ds R X ⟨f,m,rfl,E,h0,l,hz,J⟩;refine⟨rfl,?_⟩;have r:∀n∈f,0<=n/\n<=9999:=λn h=>by have:=E n h;lia
  have y:(" " : Str)=spc:=by decide +kernel
  by_cases z:f=[]
  ·subst z;exact⟨by simp,J⟩
  have N:Py f=Str.join spc (f.map nS):=by unfold Py;rw[WI z];exact JC _ _
  have u:Txt.split (Py f) " " = f.map nS:=by
   rw[N,y]
   exact L0 (λh=>z (VZ.mp h)) λv x=>by
    obtain⟨n,l,rfl⟩:=WO.mp x;exact Zkz (r n l).1
  have Q:decide (Py f=("none" : Str))=false:=Qc λh=>by
   rw[h]at u;have e1:Txt.split ("none" : Str) " " = [("none" : Str)]:=by decide +kernel
   rw[e1]at u;obtain⟨n,l,e⟩:=WO.mp (show("none" : Str)∈f.map nS by rw[←u];simp)
   have:=Rm (r n l).1 (r n l).2
   rw[e]at this;revert this;decide +kernel
  have Y:(Py f).length+2<=sizeLine:=by
   rw[N];have q:=Jz spc (f.map nS)
   have L:=StrLaws.sumLen_le (B:=4) (f.map nS) λv x=>by
    obtain⟨n,l,rfl⟩:=WO.mp x;exact(PP (r n l).1 (r n l).2).2.1
   have h4:spc.length=1:=rfl;have h5:(100000:Nat)<=sizeLine:=by decide
   rw[W9]at q L;rw[h4]at q;lia
  show if decide (Py f=("none" : Str))=true then _ else _;rw[Q];refine Kn ⟨⟨by lia,by lia⟩,BR (λi=>some (.str<|nS (1+(i:Int)))) (by lia) (λi C=>?_) ?_⟩
  ·exact⟨Be (WQ (show(1+(i:Int)).natAbs<=9999 by lia)<|by decide),_,rfl,rfl⟩
  have em:(List.range (m+1-1).toNat).filterMap (λi:Nat=>some (D.str<|nS (1+(i:Int))))=((Ka 1 m.toNat).map nS).map D.str:=by
   rw[Qq,show m+1-1=m by lia];unfold Ka;rw[WY,WY];rfl
  rw[em]
  have inj:∀{a b:Int},0<=a/\a<=9999->0<=b/\b<=9999->nS a=nS b->a=b:=λs p e=>by
   have q:=AX s.1 s.2;rw[e,AX p.1 p.2]at q;exact(WT q).symm
  have T:((Ka 1 m.toNat).map nS).Nodup:=by
   refine VD.mpr ((MC m.toNat).imp_of_mem λ{a b} s p h e=>h ?_);have q:=runI_mem.mp s;have L:=runI_mem.mp p;exact inj (by lia) (by lia) e
  refine⟨by simp,rfl,Y,?_⟩;rw[u,show(f.map nS).map D.str=f.map (λn=>D.str (nS n)) by rw[WY];rfl];refine⟨rfl,Pm (xs:=f) (emb:=λn=>D.str (nS n)) (λi o=>o=[some (.sh<|.str<|Py f),some (.sh<|.int m),some (.own<|.lst (((Ka 1 m.toNat).map nS).map D.str)),some (.own<|.lst ((f.take i).map D.int)),none]) rfl ?_ ?_⟩
  ·rintro i C o rfl;have p:=E f[i] (WU C);have et:f.take (i+1)=f.take i++[f[i]]:=WS C;rw[et];generalize f[i]=n at p;have H:(n-1).toNat<((Ka 1 m.toNat).map nS).length:=by rw[W9,Nf];lia
   have M:((Ka 1 m.toNat).map nS)[(n-1).toNat]=nS n:=by
    simp only[J8,Ka,List.getElem_range];congr 1;lia
   have g:nS n∈(Ka 1 m.toNat).map nS:=by rw[←M];exact WU H
   have A:((Ka 1 m.toNat).map nS).idxOf (nS n)=(n-1).toNat:=by
    have:=T.idxOf_getElem _ H
    rw[M]at this;exact this
   refine⟨_,rfl,?_⟩;rw[WH g];refine Kn ⟨⟨_,rfl⟩,_,rfl,g,?_,?_⟩
   ·rw[W9,WW];lia
   ·show[_,_,_,some (Pu.S.own<|.lst (List.map D.int (List.take i f)++[D.int ((((Ka 1 m.toNat).map nS).idxOf (nS n):Nat)+1)])),none]=_;rw[A,WX,show(((n-1).toNat:Nat):Int)+1=n by lia];rfl
  ·rintro o rfl;rw[Qy];exact J
def Zhj(x:Def K mg "_law_named" EG ["_law_word","_law_order"])
  : Rv ζ:=by
 refine x.fz Zgp (λA n=>(b1<|sF 0<|sR<|xe (PL (K:=K) QX VO VP (An (K:=K)) Kf<|az<|Pq Sj (T4<|az<|pv 0)<|cz ["_law_number"] [none] (Zd2 (K:=K)<|pv 1) ⟨(gk 0),PQ,(Kt Ta (by rfl) G.Zf boot_str<|az<|pv 0)⟩)<|Ah Ke<|Sb (TN<|sz<|XF 0)<|Pj (SndI.c<|Zh7<|XF 1) (Kr 0) Th<|Ti<|sz<|XF 0)) (.a ?_)
 ·rintro C R X ⟨word,os,⟨d,rfl,r⟩,u,h,y,o⟩;refine⟨rfl,?_⟩;have z:(100000:Nat)<=sizeLine:=by decide
  have s:∀v∈word::os.map nS,v.length<=6:=λv g=>by
   rcases WL.mp g with rfl|g
   ·exact u
   ·obtain⟨n,b,rfl⟩:=WO.mp g
    have:=(PP (h n b).1 (h n b).2).2.1
    lia
  have f:(" " : Str)=spc:=by decide +kernel
  have p:JoinOk (" " : Str) (word::os.map nS)=true:=by
   rw[f];unfold JoinOk;rw[VS (B:=6) s (by rw[Qn,W9,show spc.length=1 from rfl];lia)]
   rfl
  have q:Txt.join (" " : Str) (word::os.map nS)=Str.join spc (word::os.map nS):=by rw[f];exact JC _ _
  have em:os.filterMap (λn=>some (D.str<|nS n))=(os.map nS).map D.str:=by rw[Qq,WY];rfl
  have l:∀n∈os,n.natAbs.log2<1920:=λn b=>Be (WQ (show n.natAbs<=9999 by have:=h n b;lia)<|by decide);rcases r with rfl|rfl
  ·refine⟨by simp,?_⟩;show Nt _ _ _ _ _ (os.map D.int).length (λi=>S.sub (.bor .non) ((os.map D.int).getD i .non)) _;refine Ki (xs:=os) (emb:=D.int) (λn=>some (.str<|nS n)) (by lia) (λn b=>⟨l n b,_,rfl,rfl⟩) ?_;rw[em];refine⟨rfl,rfl,by rw[W9,W9];show 1+_<=100000;lia,?_⟩;refine⟨word::os.map nS,rfl,p,?_⟩;rw[q];exact o
  ·have st:Td ["_law_word","_law_order"] [D.str word,D.tup (os.map D.int)]=[some (.sh<|.str word),some (.sh<|.tup<|os.map D.int)]:=by
    unfold Td;rw[Qe,Qe,show arg (D.tup<|os.map D.int)=.sh (.tup<|os.map D.int)from Gp os]
    rfl
   rw[st];refine⟨by simp,?_⟩;show Nt _ _ _ _ _ (os.map D.int).length (λi=>S.sub (.sh .non) ((os.map D.int).getD i .non)) _;refine Ki (xs:=os) (emb:=D.int) (λn=>some (.str<|nS n)) (by lia) (λn b=>⟨l n b,_,rfl,rfl⟩) ?_;rw[em];refine⟨rfl,rfl,by rw[W9,W9];show 1+_<=100000;lia,?_⟩;refine⟨word::os.map nS,rfl,p,?_⟩;rw[q];exact o
def Zju(v:Def K mg "check_strips" Ed ["strips"])
  : HY ζ:=by
 refine v.fy Znb (λq n=>(bc (sI (tc Tp Tr (xl G.len<|xv 0)<|xe (ExcR.PU G.Z1) Kh) (b1<|sQ G.Zv G.Zj ExcR.NC<|a1<|xe (ExcR.N4<|ExcR.Tt<|ExcR.TH (ExcR.PU G.Z1)<|ExcR.Tt ExcR.Nn)<|Nx<|Tu<|T7 Kh<|Tu NB) b0)<|b1<|sF 0<|sO [1,2] ExcR.FH (iL<|xv 0) (gT 2<|gc (gN 1)<|gc (gN 2) g0)<|bc (sE<|xg Y1 q ExcR.Pi<|a1<|xv 1)<|b1<|sE<|xg YK q ExcR.Pi<|a1<|xv 2)) (.a ?_)
 ·rintro A R X ⟨b,rfl,x,h⟩;refine⟨rfl,?_⟩;have y:(b.map prD).length=b.length:=W9 ..;unfold Bf at h;refine XU (λg=>?_) (λg=>?_)
  ·have s:(40:Int)<((b.map prD).length:Int):=WJ g;rw[WK (by lia)]at h;exact⟨by decide,by decide,by decide,by decide,by decide,by simp,h⟩
  ·have s:¬(40:Int)<((b.map prD).length:Int):=λz=>g (WH z);rw[WI (by lia)]at h;refine⟨rfl,Pm (xs:=b) (emb:=prD) (λi l=>l=[some (.bor<|plD b),none,none]/\Nk (b.drop i)=Nk b) ⟨rfl,rfl⟩ ?_ ?_⟩
   ·rintro i r l ⟨rfl,f⟩;have u:b.drop i=b[i]::b.drop (i+1):=Qu r;rw[u,Zjz]at f;generalize b[i]=p at f ⊢;refine⟨rfl,p.1,rfl,?_⟩;unfold BO;by_cases c:1<=p.1/\p.1<=10
    ·rw[WI (λz=>z c)]at f;rw[WK c];refine⟨p.2,rfl,?_⟩;unfold DQ;by_cases o:1<=p.2/\p.2<=1000
     ·rw[WI (λz=>z o)]at f;rw[WK o];exact⟨rfl,f⟩
     ·rw[WK o]at f;rw[WI o];rw[←f]at h;exact h
    ·rw[WK c]at f;rw[WI c];rw[←f]at h;exact h
   ·rintro l ⟨rfl,f⟩;rw[J6]at f;rw[←f]at h;exact h
def Zdp(v:Def K mg "check_order" Dl ["strips","order"])
  : OP ζ:=by
 refine v.fy Zl5 (λl n=>(b1<|sI (tn l (xe (KR (BX (K:=K) (w:=w) rfl) (by rfl) G.Zh Jy<|az<|pv 1)<|BA<|sz<|XF 1)<|xf Yx l<|a1<|xv 0) (b1<|sQ G.ZC G.Zq ExcR.NC<|a1 xs) b0)) (.a ?_)
 ·rintro x R X ⟨ps,os,rfl,r,o,p,b⟩;refine⟨rfl,os,rfl,p,λh u s=>⟨ps,rfl,r,o,_,_,rfl,rfl,?_⟩⟩;have q:=Ze8 (ps:=ps) u s;unfold T5 at b;refine XU (λg=>?_) (λg=>?_)
  ·have f:¬h=XJ ps:=λz=>by rw[WK rfl,WH z]at g;cases g
   rw[WI (λz=>f (q.mpr z))]at b;exact⟨by simp,b⟩
  ·have f:h=XJ ps:=QA λz=>g (by rw[WK rfl,Qc z];rfl);rw[WK (q.mp f)]at b;exact b
def Zov(DD:Def K mg "ring_from" Da ["least","holders","wishes"])
  : MP ζ:=by
 refine DD.fz Zpw (λT n=>(bc (sF 0<|sS 3 n<|xL<|a1<|xL<|a1<|xv 0)<|bc (sS 4 n<|xe (KR (BX (K:=K) (w:=w) rfl) (by rfl) G.Zh Jy<|az<|cz ["holder","least"] [none,some 0] (TL (K:=K)<|pv 1) ⟨(gk 0),(FQ<|Nj Tp (pv 0) (pv 1)<|Po _),(pv 0)⟩)<|BA<|sz<|Pj (Nh<|XF 1) (Kr 0) (Tj<|Tr (XF 0)<|XF 1)<|XF 0)<|bc (sW [5,6] Ql (tt<|xv 3)<|bc (sF 0<|sC 5 ["path","wishes","least"] [none,some 2,some 0] n (jL<|xv 3) (gN 0) (f1<|ti T (xt<|a2 (xx (xv 0)<|xe (NU NO Kv)<|ND Kh)<|xv 2)<|xv 1)<|xv 0)<|bc (sI (tt<|xv 5) (b1<|sr<|xx (xv 5) xi) b0)<|bc (sS 3 n<|xf YQ T<|a3 (xv 3) (xv 4)<|xv 2)<|bc (sS 6 n<|xC ["path"] [none] (jL<|xv 3) (gN 0) f0<|xx (xv 0)<|xe (NU NO Kv)<|ND Kh)<|b1<|sC 4 ["holder","reached"] [none,some 6] n (jL<|xv 4) (gN 0) (f1<|tI T (xv 0)<|xv 1)<|xv 0)<|b1<|sr<|xL a0)) (.a ?_)
 ·rintro ds R X ⟨l,v,A,rfl,hnd,hz,hR⟩;refine⟨rfl,by simp,by simp,Ki (xs:=v) (emb:=D.int) (λh=>if decide (l<h)=true then some (.int h)else none) (by lia) (λh _=>XU (λg=>⟨_,rfl,WK g⟩) (λg=>WI g)) ?_⟩;rw[GG λh=>decide (l<h)];refine⟨v.filter λh=>decide (l<h),rfl,QJ (Q5 _ _) (by lia),λb s H=>?_⟩;have hlt:b.Pairwise (· < ·):=Ax H (s.nodup_iff.mpr<|hnd.filter _)
  have hm:∀h,h∈b↔Gr v l h:=λh=>by
   rw[s.mem_iff,Qi,Vy];exact Iff.rfl
  have J:b.length<=v.length:=by
   rw[s.length_eq];exact Q5 _ _
  refine Am (λC=>∃k f b,C=[some (.sh<|.int l),some (.bor<|.lst<|v.map D.int),some (.bor<|.lst<|A.map prD),some (.own<|f.map<|em l),some (.own<|b.map D.int),none,none]/\Lev v A l k f b/\f.length<=60/\b.length<=v.length/\(k+b.length<=v.length\/(f=[]/\k<=v.length+1)))
   (λγ=>2*Cv 4 γ+min 1 (Cv 3 γ)) ⟨0,[[]],b,rfl,Lev.start hlt hm,by simp,J,.inl (by lia)⟩ ?_
  rintro C ⟨k,f,b,rfl,L,hpl,hll,hk⟩;have emp:(!(f.map<|em l).isEmpty)=decide (f≠[]):=by cases f<;>simp
  show if (!(f.map<|em l).isEmpty)=true then _ else _;rw[emp];refine XU (λg=>?_) (λg=>?_)
  ·have y:f≠[]:=WJ g;have hk':k+b.length<=v.length:=hk.elim id λz=>absurd z.1 y;have U:∀p∈f,p.length<=60:=λp s=>by rw[(L.way p s).1];lia
   refine Ki (xs:=f) (emb:=em l) (λp=>if decide ((XT l p,l)∈A)=true then some (em l p)else none) (by lia) (λp s=>⟨_,Ey l p,by simp,_,.lp (XT l p,l) A,XU (λg=>⟨_,rfl,WK g⟩) (λg=>WI g)⟩) ?_;rw[Pf λp=>decide ((XT l p,l)∈A)];generalize ef:(f.filter λp=>decide ((XT l p,l)∈A))=fs;have N:(!(fs.map<|em l).isEmpty)=decide (fs≠[]):=by cases fs<;>simp
   show if (!(fs.map<|em l).isEmpty)=true then _ else _;rw[N];refine XU (λg2=>?_) (λg2=>?_)
   ·have B:fs≠[]:=WJ g2;cases fs with
    |nil=>exact absurd rfl B
    |cons p r=>
     obtain⟨i,hi,Q,e2,e3⟩:=Iz ef;have s:p∈f:=by rw[←Q];exact WU hi
     refine⟨em l p,N9 _ _,hR (l::p) (L.found hi Q (WJ e2) λj hj hji z=>?_) (by have:=(L.way p s).1;simp;lia)⟩
     have:=e3 j hj hji
     rw[WH z]at this;cases this
   ·have B:fs=[]:=QA λz=>g2 (WH z)
    have hn:∀p∈f,(XT l p,l)∉A:=λp s z=>by
     have:p∈fs:=by rw[←ef];exact Qi.mpr ⟨s,WH z⟩
     rw[B]at this;cases this
    refine⟨l,f,b,A,rfl,L.srt,L.lsrt,λp s=>WQ (U p s) (by decide),by lia,λo G hlg=>?_⟩;refine Ki (xs:=o) (emb:=em l) (λp=>some (.int<|XT l p)) (by lia) (λp _=>⟨_,Ey l p,_,rfl,rfl⟩) ?_;have Q:o.filterMap (λp=>some (D.int<|XT l p))=(o.map<|XT l).map D.int:=by rw[Qq,WY];rfl
    rw[Q];refine Ki (xs:=b) (emb:=D.int) (λh=>if decide (¬h∈o.map (XT l))=true then some (.int h)else none) (by lia) (λh _=>⟨_,.li h _,?_⟩) ?_
    ·by_cases c:h∈o.map (XT l)
     ·simp only[WH c];exact Kn (WI<|by simp[c])
     ·simp only[Qc c];exact PY ⟨_,rfl,WK (by simp[c])⟩
    rw[GG λh=>decide (¬h∈o.map (XT l))];have L':=L.next hn G rfl
    have E:∀h∈o.map (XT l),h∈b:=λh hh=>by
     obtain⟨q,hq,e⟩:=WO.mp hh;obtain⟨p,x,⟨_,a⟩,rfl,_⟩:=G.mem q hq;rw[Px]at e;rw[←e];exact a
    have M:=Q5 (λh=>decide (¬h∈o.map (XT l))) b
    have u:o≠[]->(b.filter λh=>decide (¬h∈o.map (XT l))).length<b.length:=λy=>by
     obtain⟨q,hq⟩:=List.exists_mem_of_ne_nil o y;have hm:XT l q∈b:=E _ (VY hq);refine Nat.lt_of_le_of_ne M λz=>?_
     have:=List.filter_eq_self.mp (List.Sublist.eq_of_length (VX (l:=b)) z) (XT l q) hm
     rw[Vy]at this;exact this (VY hq)
    refine⟨⟨k+1,o,_,rfl,L',by lia,by lia,?_⟩,?_⟩
    ·by_cases c:o=[]
     ·exact .inr ⟨c,by lia⟩
     ·have:=u c
      exact .inl (by lia)
    ·show 2*((b.filter λh=>decide (¬h∈o.map (XT l))).map D.int).length+min 1 (o.map<|em l).length<2*(b.map D.int).length+min 1 (f.map<|em l).length;rw[W9,W9,W9,W9]
     have:0<f.length:=JO.mpr y
     by_cases c:o=[]
     ·rw[c];rw[c]at M;simp only[List.length_nil];lia
     ·have:=u c
      lia
  ·have Y:f=[]:=QA λz=>g (WH z);subst Y;exact⟨by simp,hR [] L.over (by simp)⟩
def Zcj(x:Def K mg "with_wish" AB ["wishes","ahead","behind"])
  : Hy ζ:=by
 refine x.fy Zct (λl n=>(bc (sE<|xg Y1 l ExcR.Pi<|a1<|xv 1)<|bc (sE<|xg Y1 l ExcR.Pi<|a1<|xv 2)<|bc (sI (tq l (xv 1)<|xv 2) (b1<|sQ G.Zz G.Zl ExcR.NC<|a1 xs) b0)<|bc (sI (ti l (xt<|a2 (xv 1)<|xv 2)<|xv 0) (b1<|sQ G.Z5 G.Zm ExcR.NC<|a1 xs) b0)<|bc (sI (tc BM BJ (xl G.len<|xv 0)<|xe (ExcR.PU G.Zn) Kh) (b1<|sQ G.Zx G.Zk ExcR.NC<|a1<|xe (ExcR.N4<|ExcR.Tt<|ExcR.TH (ExcR.PU G.Zn)<|ExcR.Tt ExcR.Nn)<|Nx<|Tu<|T7 Kh<|Tu NB) b0)<|b1<|sF 2<|sF 1<|sR<|xo Sj Sb (xv 0)<|xL<|a1<|xt<|a2 (xv 1)<|xv 2)) (.a ?_)
 ·rintro y R X ⟨h,a,b,rfl,u,f⟩;refine⟨rfl,?_⟩;have v:(h.map prD).length=h.length:=W9 ..;unfold TR at f;refine⟨a,rfl,?_⟩;unfold BO;by_cases p:1<=a/\a<=10
  ·rw[WI (λz=>z p)]at f;rw[WK p];refine⟨b,rfl,?_⟩;unfold BO;by_cases o:1<=b/\b<=10
   ·rw[WI (λz=>z o)]at f;rw[WK o];refine XU (λg=>?_) (λg=>?_)
    ·rw[WK (WJ g)]at f;exact⟨by simp,f⟩
    ·rw[WI (λz=>g (WH z))]at f;refine⟨by simp,_,.lp (a,b) h,XU (λs=>?_) (λs=>?_)⟩
     ·rw[WK (WJ s)]at f;exact⟨by simp,f⟩
     ·rw[WI (λz=>s (WH z))]at f;refine XU (λr=>?_) (λr=>?_)
      ·have q:(20:Int)<=((h.map prD).length:Int):=WJ r;rw[WK (by lia)]at f;exact⟨by decide,by decide,by decide,by decide,by decide,by simp,f⟩
      ·have q:¬(20:Int)<=((h.map prD).length:Int):=λz=>r (WH z);rw[WI (by lia)]at f;refine⟨by simp,by simp,FZ _,rfl,WQ (JV (WQ (Vp v) u)<|WG 1) (by decide),?_⟩;rw[WX]at f;exact f
   ·rw[WK o]at f;rw[WI o];exact f
  ·rw[WK p]at f;rw[WI p];exact f
def Zgn(B:Def K mg "pair_costs" AE ["strips"])
  : MW ζ:=by
 refine B.fz Zaa (λp n=>(bc (sS 1 n<|xf Yx p<|a1<|xv 0)<|bc (se (Pu.pz 2 Zaa.nd Zm6)<|Sr Zbi<|Kr 2)<|bc (sF 1<|sO [3,4] Ql (iL<|xv 1) (gN 3)<|b1<|sF 1<|sO [4] Ql (iL<|xv 1) (gN 4)<|b1<|sF 4<|sF 3<|se (F1 (KN<|p ()) (pv 2) (NI<|bz (pv 3)<|pv 4) (fz Y8 (p ())<|dz (pv 0) (pv 3)<|pv 4) rfl)<|Aw 2 (NY<|tz (XF 3)<|XF 4)<|P0<|uz (XF 0) (XF 3)<|XF 4)<|b1<|sV 2)) (.a ?_)
 ·rintro C R X ⟨h,rfl,s,u,r⟩;refine⟨rfl,h,rfl,s,u,?_⟩;have A:=Pp h;generalize XJ h=f at A r ⊢
  refine⟨rfl,Pm (xs:=f) (emb:=D.int) (λi g=>∃b:List (List Key×V),g=[some (.bor<|.lst<|h.map prD),some (.sh<|.lst<|f.map D.int),some (.own<|.dT b),none,none]/\b.length<=i*10/\
   ∀x∈f.take i,∀y∈f,XX b [.inl x,.inl y]=some (.int<|pcM h x y h.length)) ⟨[],rfl,by simp,by simp⟩ ?_ ?_⟩
  ·rintro i z g ⟨b,rfl,q,o⟩
   refine⟨rfl,Pm (xs:=f) (emb:=D.int) (λj g=>∃b:List (List Key×V),g=[some (.bor<|.lst<|h.map prD),some (.sh<|.lst<|f.map D.int),some (.own<|.dT b),some (.sh (.int f[i])),none]/\b.length<=i*10+j/\
    (∀x∈f.take i,∀y∈f,XX b [.inl x,.inl y]=some (.int<|pcM h x y h.length))/\∀y∈f.take j,XX b [.inl f[i],.inl y]=some (.int (pcM h f[i] y h.length))) ⟨b,rfl,by lia,o,by simp⟩ ?_ ?_⟩
   ·rintro j v g ⟨b,rfl,q,o,hw⟩;refine⟨h,_,_,rfl,s,by simp,_,_,rfl,rfl,by lia,_,rfl,WQ (BS _ _ _) (by lia),λx hx y l=>?_,λy l=>?_⟩
    ·rw[B8];by_cases e:([.inl x,.inl y]:List Key)=[.inl f[i],.inl f[j]]
     ·rw[WK e];simp only[JK,Sum.inl.injEq,and_true]at e;rw[e.1,e.2]
     ·rw[WI e];exact o x hx y l
    ·rw[B8];by_cases e:([.inl f[i],.inl y]:List Key)=[.inl f[i],.inl f[j]]
     ·rw[WK e];simp only[JK,Sum.inl.injEq,and_true]at e;rw[e.2]
     ·rw[WI e];rw[WS v,Qd,WC]at l;rcases l with l|l
      ·exact hw y l
      ·subst l;exact absurd rfl e
   ·rintro g ⟨b,rfl,q,o,hw⟩;rw[Qy]at hw;refine⟨b,rfl,by lia,λx hx y l=>?_⟩;rw[WS z,Qd,WC]at hx;rcases hx with hx|hx
    ·exact o x hx y l
    ·subst hx;exact hw y l
  ·rintro g ⟨b,rfl,q,o⟩;rw[Qy]at o;exact r b o
def Zdz(u:Def K mg "cost_with_last" CV ["members","last","least","pairs"])
  : Ht ζ:=by
 refine u.fz Zid (λf n=>(bc (sS 4 n<|xf Y2 f<|a2 (xv 0)<|xv 1)<|b1<|sF 1<|sR<|xo K0 K5 (xe (Ss (KN<|f ()) (pv 2) (pv 4) (λ_ _=>rfl))<|NJ (XF 2)<|XF 4)<|xe (KR (GP (K:=K) rfl) (by rfl) G.ZO boot_sum<|az<|cz ["other","pairs","last"] [none,some 3,some 1] (Bm (K:=K)<|pv 4) ⟨(gk 0),PQ,(Ss (KN<|f ()) (pv 1) (NI<|bz (pv 0)<|pv 2) (λ_ _=>rfl))⟩)<|G2<|sz<|Pj (SndI.c<|BB<|XF 4) (Kr 0) Th<|NJ (XF 1)<|NY<|tz (XF 0)<|XF 2)) (.a ?_)
 ·rintro y R X ⟨b,l,le,x,c,v,rfl,g,o,q,r⟩;refine⟨rfl,?_⟩;rw[BW];have h:(XZ b l).length<=1000:=WQ less_sub.length_le g;refine⟨b,l,rfl,g,_,_,Au _,o,rfl,_,rfl,Ki (s:=.sh .non) (xs:=XZ b l) (emb:=D.int) (λm=>some (.int<|c m)) (by lia) (λm p=>?_) ?_⟩
  ·exact⟨by simp,_,_,rfl,q m p,rfl,_,rfl,rfl⟩
  ·rw[Tg];exact⟨(XZ b l).map c,by rw[WY];rfl,r⟩
def Zjg(u:Def K mg "cost_with_first" D6 ["members","first","least","pairs"])
  : Ig ζ:=by
 refine u.fz Zgo (λf n=>(bc (sS 4 n<|xf Y2 f<|a2 (xv 0)<|xv 1)<|b1<|sF 1<|sR<|xo K0 K5 (xe (Ss (KN<|f ()) (pv 2) (pv 4) (λ_ _=>rfl))<|NJ (XF 2)<|XF 4)<|xe (KR (GP (K:=K) rfl) (by rfl) G.ZO boot_sum<|az<|cz ["other","pairs","first"] [none,some 3,some 1] (Bm (K:=K)<|pv 4) ⟨(gk 0),PQ,(Ss (KN<|f ()) (pv 1) (NI<|bz (pv 2)<|pv 0) (λ_ _=>rfl))⟩)<|G2<|sz<|Pj (SndI.c<|BB<|XF 4) (Kr 0) Th<|NJ (XF 1)<|NY<|tz (XF 2)<|XF 0)) (.a ?_)
 ·rintro y R X ⟨b,l,le,x,c,v,rfl,g,o,q,r⟩;refine⟨rfl,?_⟩;rw[BW];have h:(XZ b l).length<=1000:=WQ less_sub.length_le g;refine⟨b,l,rfl,g,_,_,Au _,o,rfl,_,rfl,Ki (s:=.sh .non) (xs:=XZ b l) (emb:=D.int) (λm=>some (.int<|c m)) (by lia) (λm p=>?_) ?_⟩
  ·exact⟨by simp,_,_,rfl,q m p,rfl,_,rfl,rfl⟩
  ·rw[Tg];exact⟨(XZ b l).map c,by rw[WY];rfl,r⟩
def Znz(q:Def K mg "is_row" DS ["word","texts"])
  : Zam ζ:=by
 refine q.fz Zb5 (λb n=>(bc (sI (tN<|tt<|xe (KR (Oz (K:=K) rfl) (by rfl) G.ZM boot_all<|az<|cz ["text"] [none] (TL (K:=K)<|pv 1) ⟨(gk 0),PQ,(fz YW (b ())<|az<|pv 0)⟩)<|La<|sz<|Pj (Nh<|XF 1) (Kr 0) Th<|P0<|sz<|XF 0) (b1<|sR xb) b0)<|bc (sI (te (SN<|E8 G.Zu<|pv 0)<|Sv<|Ep<|XF 0) (b1<|sR<|xe (PK (NQ (K:=K)<|show _<cLine from(b ()).units0) (Il G.Zu (pv 0) (λ_ _=>rfl)) (ln K G.len<|pv 1)<|Po _)<|Nu (Mc<|XF 0)<|Bk<|sz<|XF 1) b0)<|bc (sI (te (SN<|E8 G.Z4<|pv 0)<|Sv<|Ep<|XF 0) (b1<|sR<|xe (PK (NQ (K:=K)<|show _<cLine from(b ()).units0) (Il G.Z4 (pv 0) (λ_ _=>rfl)) (ln K G.len<|pv 1)<|Po _)<|Nu (Mc<|XF 0)<|Bk<|sz<|XF 1) b0)<|b1<|sR<|xe (Zbl<|Zq9 G.ZP<|pv 0)<|Zo9<|XF 0)) (.a ?_)
 ·rintro u R X ⟨w,os,rfl,hw,g,r,f⟩;refine⟨rfl,?_⟩;refine Ki (xs:=os) (emb:=λn=>D.str (nS n)) (λn=>some (.bl true)) (by lia) (λn l=>?_) ?_
  ·have h:=g n l;have o:=(PP h.1 h.2).2.1;refine⟨_,rfl,WQ o (by decide),Zb3 h.1,_,rfl,?_⟩;rw[Rm h.1 h.2]
  have em:os.filterMap (λn=>some (D.bl true))=(os.map λ_=>true).map D.bl:=by rw[Qq,WY];rfl
  have p:(os.map λ_=>true).all id=true:=by rw[List.all_map,Q2];intro _ _;rfl
  rw[em];refine⟨_,rfl,?_⟩;rw[p];refine Kn ?_;have s:((os.map λn=>D.str (nS n)).length:Int)=os.length:=by rw[W9]
  simp only[WL,V1,Prod.mk.injEq,or_false]at hw;rcases hw with(⟨rfl,e⟩|⟨rfl,e⟩|⟨rfl,e⟩|⟨rfl,e⟩|⟨rfl,e⟩|⟨rfl,e⟩)|rfl|rfl
  iterate 6
   ·refine⟨_,rfl,?_⟩;show R (.sh<|.bl<|decide (_=(((os.map λn=>D.str (nS n)).length:Nat):Int)));rw[WH (by lia)];exact f
  ·exact f
  ·exact f
def Znv(q:Def K mg "told_numbers" El ["numbers"])
  : Zbc ζ:=by
 refine q.fz Zn1 (λl n=>(b1<|sR<|xf Y3 l<|a1<|xC ["number"] [none] (jL<|xv 0) (gN 0) f0<|xe (Kt Ta (by rfl) G.Zf boot_str<|az<|pv 0)<|Ti<|sz<|XF 0)) (.a ?_)
 ·rintro s R X ⟨b,rfl,r,g,o⟩;refine⟨rfl,?_⟩
  have p:JoinOk spc (b.map nS)=true:=by
   unfold JoinOk;rw[VS (B:=4) (λy h=>by obtain⟨n,f,rfl⟩:=WO.mp h;exact(PP (g n f).1 (g n f).2).2.1) (by rw[W9,show spc.length=1 from rfl];lia)]
   rfl
  refine Ki (xs:=b) (emb:=D.int) (λn=>some (.str<|nS n)) (by lia) (λn f=>⟨Be (WQ (show n.natAbs<=9999 by have:=g n f;lia)<|by decide),_,rfl,rfl⟩) ?_;have em:b.filterMap (λn=>some (D.str<|nS n))=(b.map nS).map D.str:=by rw[Qq,WY];rfl
  rw[em];refine⟨_,rfl,p,?_⟩
  have e:(if b.map nS=[]then("none" : Str)else Txt.join spc (b.map nS))=Py b:=by
   unfold Py;by_cases z:b=[]
   ·rw[z];rfl
   ·rw[WI z,WI (λy=>z (VZ.mp y))]
  rw[e];exact o
def Zco(H:Def K mg "told_strips" EZ ["strips"])
  : GA ζ:=by
 refine H.fz Zn8 (λA n=>(b1<|sR<|xf Y3 A<|a1<|xC ["holder","width"] [none,none] (jL<|xv 0) (gT 2<|gc (gN 0)<|gc (gN 1) g0) f0<|xe (ExcR.N4<|ExcR.TH (pv 0)<|ExcR.Tt<|ExcR.TH (pv 1) ExcR.Nn)<|Nx<|T7 (XF 0)<|Tu<|T7 (XF 1) NB)) (.a ?_)
 ·rintro M R X ⟨f,rfl,J,hw,C⟩;refine⟨rfl,?_⟩
  have l:∀n:Int,0<=n/\n<=1000->n.natAbs.log2<1920/\(nS n).length<=4:=λn h=>⟨by
   by_cases z:n.natAbs=0
   ·rw[z];decide
   ·exact Qj ((Nat.log2_lt z).mpr (QJ (show n.natAbs<=1000 by lia)<|show 1000<2 ^ 10 by decide)) (by decide),(PP h.1<|by lia).2.1⟩
  have g:∀a b:Str,(a++b).length=a.length+b.length:=λa b=>by
   show(a.cps++b.cps).size=_;rw[Jv];rfl
  have s:∀q∈f,(txS q).length<=9:=λq hq=>by
   have r:=(l q.1 (hw q hq).1).2;have p:=(l q.2 (hw q hq).2).2;unfold txS;rw[g,g,show(":" : Str).length=1 by decide +kernel];lia
  refine Ki (xs:=f) (emb:=prD) (λq=>some (.str<|txS q)) (by lia) (λq hq=>?_) ?_
  ·have r:=l q.1 (hw q hq).1;have p:=l q.2 (hw q hq).2;have L:(1000:Nat)<=sizeLine:=by decide
   have v:(Str.empty++nS q.1).length<=sizeLine:=by rw[QF];lia
   have u:(Str.empty++nS q.1++":").length<=sizeLine:=by rw[QF,g,show(":" : Str).length=1 by decide +kernel];lia
   have o:(Str.empty++nS q.1++":"++nS q.2).length<=sizeLine:=by rw[QF,g,g,show(":" : Str).length=1 by decide +kernel];lia
   refine⟨rfl,r.1,v,u,p.1,o,o,_,rfl,?_⟩;show some (D.str<|txS q)=some (D.str (Str.empty++nS q.1++":"++nS q.2));rw[QF];rfl
  have em:f.filterMap (λq=>some (D.str<|txS q))=(f.map txS).map D.str:=by rw[Qq,WY];rfl
  rw[em]
  have E:JoinOk spc (f.map txS)=true:=by
   unfold JoinOk;rw[VS (B:=9) (λy x=>by obtain⟨q,hq,rfl⟩:=WO.mp x;exact s q hq) (by rw[W9,show spc.length=1 from rfl];lia)]
   rfl
  refine⟨_,rfl,E,?_⟩
  have e:(if f.map txS=[]then("none" : Str)else Txt.join spc (f.map txS))=BQ f:=by
   unfold BQ;by_cases z:f=[]
   ·rw[z];rfl
   ·rw[WI z,WI (λy=>z (VZ.mp y))]
  rw[e];exact C
def Zj3(H:Def K mg "told_wishes" Gg ["wishes"])
  : M6 ζ:=by
 refine H.fz Zrj (λA n=>(b1<|sR<|xf Y3 A<|a1<|xC ["ahead","behind"] [none,none] (jL<|xv 0) (gT 2<|gc (gN 0)<|gc (gN 1) g0) f0<|xe (ExcR.N4<|ExcR.TH (pv 0)<|ExcR.Tt<|ExcR.TH (pv 1) ExcR.Nn)<|Nx<|T7 (XF 0)<|Tu<|T7 (XF 1) NB)) (.a ?_)
 ·rintro M R X ⟨f,rfl,J,hw,C⟩;refine⟨rfl,?_⟩
  have l:∀n:Int,0<=n/\n<=10->n.natAbs.log2<1920/\(nS n).length<=4:=λn h=>⟨by
   by_cases z:n.natAbs=0
   ·rw[z];decide
   ·exact Qj ((Nat.log2_lt z).mpr (QJ (show n.natAbs<=10 by lia)<|show 10<2 ^ 4 by decide)) (by decide),(PP h.1<|by lia).2.1⟩
  have g:∀a b:Str,(a++b).length=a.length+b.length:=λa b=>by
   show(a.cps++b.cps).size=_;rw[Jv];rfl
  have s:∀q∈f,(wS q).length<=9:=λq hq=>by
   have r:=(l q.1 (hw q hq).1).2;have p:=(l q.2 (hw q hq).2).2;unfold wS;rw[g,g,show(">" : Str).length=1 by decide +kernel];lia
  refine Ki (xs:=f) (emb:=prD) (λq=>some (.str<|wS q)) (by lia) (λq hq=>?_) ?_
  ·have r:=l q.1 (hw q hq).1;have p:=l q.2 (hw q hq).2;have L:(1000:Nat)<=sizeLine:=by decide
   have v:(Str.empty++nS q.1).length<=sizeLine:=by rw[QF];lia
   have u:(Str.empty++nS q.1++">").length<=sizeLine:=by rw[QF,g,show(">" : Str).length=1 by decide +kernel];lia
   have o:(Str.empty++nS q.1++">"++nS q.2).length<=sizeLine:=by rw[QF,g,g,show(">" : Str).length=1 by decide +kernel];lia
   refine⟨rfl,r.1,v,u,p.1,o,o,_,rfl,?_⟩;show some (D.str<|wS q)=some (D.str (Str.empty++nS q.1++">"++nS q.2));rw[QF];rfl
  have em:f.filterMap (λq=>some (D.str<|wS q))=(f.map wS).map D.str:=by rw[Qq,WY];rfl
  rw[em]
  have E:JoinOk spc (f.map wS)=true:=by
   unfold JoinOk;rw[VS (B:=9) (λy x=>by obtain⟨q,hq,rfl⟩:=WO.mp x;exact s q hq) (by rw[W9,show spc.length=1 from rfl];lia)]
   rfl
  refine⟨_,rfl,E,?_⟩
  have e:(if f.map wS=[]then("none" : Str)else Txt.join spc (f.map wS))=S9 f:=by
   unfold S9;by_cases z:f=[]
   ·rw[z];rfl
   ·rw[WI z,WI (λy=>z (VZ.mp y))]
  rw[e];exact C
def Zl6(h:Def K mg "_law_draw" DG ["_law_script","_law_k"])
  : LN ζ:=by
 refine h.fz Zqs (λb n=>(bc (sI (tq b (xo KG KC (xf Yv b<|a2 (xv 0) xi) xi) xi) (b1<|sR<|xf Yv b<|a2 (xv 0)<|xo K0 K5 xi<|xv 1) b0)<|b1<|sR<|xf YB b<|a2 (xf Yv b<|a2 (xv 0) xi)<|xv 1)) (.a ?_)
 ·rintro o R X ⟨f,k,rfl,l,g⟩;refine⟨rfl,f,0,rfl,by decide,λv=>⟨(by show(0:Int)<2;decide),XU (λ_=>?_) (λ_=>?_)⟩⟩
  ·exact⟨f,_,rfl,by omega,λv=>g v⟩
  ·exact⟨f,1,rfl,by decide,λu=>⟨_,_,rfl,λv=>g v⟩⟩
def Zhs(h:Def K mg "_law_spare" EK ["_law_script"])
  : HN ζ:=by
 refine h.fz Zkh (λb n=>(bc (sI (tq b (xo KG KC (xf Yv b<|a2 (xv 0) xi) xi) xi) (b1<|sR<|xo Ts Tq (xf Yv b<|a2 (xv 0) xi) xi) b0)<|b1<|sR<|xf YB b<|a2 (xf Yv b<|a2 (xv 0) xi) xi)) (.a ?_)
 ·rintro l R X ⟨f,rfl,g⟩;refine⟨rfl,?_⟩;exact⟨f,0,rfl,by decide,λv=>⟨(by show(0:Int)<2;decide),XU (λ_=>⟨f,0,rfl,by decide,λu=>⟨⟨by decide,by decide⟩,g _⟩⟩) (λ_=>⟨f,1,rfl,by decide,λu=>⟨_,_,rfl,λz=>g _⟩⟩)⟩⟩
def Zdj(E:Def K mg "_law_keepable" E5 ["_law_wishes_here","_law_holders"])
  : M7 ζ:=by
 refine E.fz Zjk (λy n=>(bc (sS 2 n<|xL a0)<|bc (sF 0<|sO [3] Ql (iL<|xv 0) (gN 3)<|b1<|sI (tt<|xf Wa y<|a2 (xv 1)<|xo Sj Sb (xv 2)<|xL<|a1<|xv 3) (b1<|sF 3<|sA 2<|xv 3) b0)<|b1<|sV 2)) (.a ?_)
 ·rintro H R X ⟨l,o,rfl,hw,v,C⟩;refine⟨rfl,by simp,rfl,Pm (xs:=l) (emb:=prD) (λi h=>∃b:Ye,h=[some (.bor<|.lst<|l.map prD),some (.bor<|.lst<|o.map D.int),some (.own<|b.map prD),none]/\b.Sublist (l.take i)/\Kl b o o.length=[]) ⟨[],rfl,List.nil_sublist _,?_⟩ ?_ ?_⟩
  ·cases o with
   |nil=>rfl
   |cons a r=>
    show P8 [] _=[];exact List.filter_eq_nil_iff.mpr λx _=>by simp[TX]
  ·rintro i B h ⟨b,rfl,f,p⟩;have A:=f.length_le;rw[WW]at A;have u:b.Sublist (l.take (i+1)):=f.trans (List.take_sublist_take_left<|by omega)
   have s:(b++[l[i]]).Sublist (l.take (i+1)):=by
    rw[WS B];exact f.append (List.Sublist.refl _)
   generalize l[i]=q at s ⊢;have em:b.map prD++[prD q]=(b++[q]).map prD:=by rw[WX];rfl
   refine⟨by simp,rfl,rfl,?_,o,b++[q],?_,v,?_,XU (λg=>⟨?_,b++[q],?_,s,WJ g⟩) (λg=>⟨b,rfl,u,p⟩)⟩
   ·rw[W9];show b.length+1<=100000;omega
   ·exact Qs (λz=>[D.lst (o.map D.int),D.lst z]) em
   ·rw[Qa];show b.length+1<=50;omega
   ·rw[W9];omega
   ·rw[←em];rfl
  ·rintro h ⟨b,rfl,f,p⟩;rw[Qy]at f;exact C b f p
def Zpn(DD:Def K mg "_law_places_lead" Gb ["_law_places","_law_strips_here","_law_order"])
  : LY ζ:=by
 refine DD.fz Zpt (λT n=>(bc (sS 3 n<|xC ["_law_strip","_law_order"] [none,some 2] (jL<|xv 1) (gN 0) f0<|xe (PL (K:=K) Qt QC QU (BN (K:=K)) (pv 1)<|az<|jx K (pv 0) Kv)<|BZ (XF 1)<|sz<|Pg (XF 0) Kh)<|bc (sS 4 n<|xe (Kt (Zm8 rfl) (by rfl) G.Zg boot_list<|az<|Kt Zih (by rfl) G.Zc boot_range<|bz Kv<|Pq K0 (ln K G.len<|pv 1) Kv)<|Zf7<|tz Kh<|K5 (Bk<|sz<|XF 1) Kh)<|bc (sF 0<|sO [5,6,7] Ql (iL<|xv 0) (gN 5)<|bc (sI (tp<|wo (tc NR NH (xv 5) xi)<|wO<|tc BM BJ (xv 5)<|xl G.len<|xv 4) (b1<|sR xb) b0)<|bc (sC 6 ["_law_number","_law_ranks"] [none,some 3] n (jL<|xp (xv 4) o0<|o1<|xo K0 K5 (xv 5) xi) (gN 0) f0<|xx (xv 1)<|xo P9 P3 (xv 0) xi)<|bc (sI (tp<|wo (tc BM BJ (xx (xv 6)<|xv 5)<|xx (xv 6)<|xo P9 P3 (xv 5) xi)<|wO<|tn T (xp (xv 6) o0<|o1<|xv 5)<|xe (KR (BX (K:=K) (w:=w) rfl) (by rfl) G.Zh Jy<|az<|D8 (EB (K:=K)) (pv 6) D4<|Dg<|pv 5)<|BA<|sz<|AM (XF 6) E6<|Gh<|XF 5) (b1<|sR xb) b0)<|bc (sS 7 n<|xx (xv 4)<|xo P9 P3 (xv 5) xi)<|bc (sX 4 (xo P9 P3 (xv 5) xi)<|xx (xv 4)<|xv 5)<|b1<|sX 4 (xv 5)<|xv 7)<|b1<|sR<|xe (PK (NQ (K:=K)<|show _<cLine from(T ()).units0) (pv 4) (fz Wc (T ())<|bz (pv 1)<|pv 2)<|Po _)<|Nu (XF 4)<|P0<|tz (XF 1)<|XF 2)) (.a ?_)
 ·rintro ds R X ⟨f,o,s,rfl,hF,hz,l,hM,hR⟩;refine⟨rfl,?_⟩;have L:=B3 hF l;have hol:o.length<=10:=by rw[l.length_eq];exact Pp f
  have nd:o.Nodup:=l.symm.nodup ((Tv f).imp λh=>Vs h);have Y:(f.map prD).length=f.length:=W9 ..;refine Ki (xs:=f) (emb:=prD) (λq=>some (.int (o.idxOf q.1:Nat))) (by lia) (λq hq=>?_) ?_
  ·exact⟨⟨_,rfl⟩,_,rfl,o,rfl,L q hq,_,rfl,rfl⟩
  rw[Tg (λq:Int×Int=>D.int (o.idxOf q.1:Nat))];have er:f.map (λq:Int×Int=>D.int (o.idxOf q.1:Nat))=(f.map λq:Int×Int=>((o.idxOf q.1:Nat):Int)).map D.int:=by rw[WY];rfl
  rw[er];generalize M:(f.map λq:Int×Int=>((o.idxOf q.1:Nat):Int))=E;have lrs:E.length=f.length:=by rw[←M,W9]
  have rx:∀z:Int,1<=z/\z<=f.length->atI (E.map D.int) (z-1)=some (.int<|rkN f o z):=λz hz=>by
   have N:(z-1).toNat<f.length:=by lia
   have e:rkN f o z=E[(z-1).toNat]'(by lia):=by
    simp only[←M,J8];unfold rkN hdN;rw[WE,WA N];rfl
   rw[e];exact TC (f:=D.int) (xs:=E) (by lia) (by lia)
  have e0:((((f.map prD).length:Nat):Int)+1-1).toNat=f.length:=by rw[Y];lia
  refine⟨⟨by decide,by decide,by lia,by lia⟩,by lia,?_⟩;refine⟨rfl,Pm (xs:=s.map (·.1)) (emb:=D.int) (λi v=>∃st:Yf,v=[some (.bor<|.lst ((s.map (·.1)).map D.int)),some (.bor<|plD f),some (.bor<|.lst<|o.map D.int),some (.own<|E.map D.int),some (.own<|st.map D.int),none,none,none]/\st.Perm (Ka 1 f.length)/\Mv f (rkN f o) st (s.drop i)/\st.Pairwise λx y=>rkN f o x=rkN f o y->x<y) ⟨Ka 1 f.length,?_,.refl _,hM,(Zlj f.length).imp (λ{a b} (h:a<b)=>λ_=>h)⟩ ?_ ?_⟩
  ·show _=([some (.bor<|.lst ((s.map (·.1)).map D.int)),some (.bor<|plD f),some (.bor<|.lst<|o.map D.int),some (.own<|E.map D.int),some (.own ((Ka 1 f.length).map D.int)),none,none,none]:List (Option S));rw[←e0];rfl
  ·rintro i N v ⟨st,rfl,H,r,u⟩;have hi':i<s.length:=by rw[W9]at N;exact N
   have hl:st.length=f.length:=by rw[H.length_eq,Nf]
   have ed:s.drop i=s[i]::s.drop (i+1):=Qu hi';rw[ed]at r;obtain⟨p,em,hfw,hp0,Q,J,h3,hMn⟩:=r.step_of;have ei:(s.map (·.1))[i]=(p:Int):=by rw[J8,em]
   rw[ei];have b1:p-1<st.length:=by lia
   have g1:st.getD (p-1) 0=st[p-1]:=by rw[WE,WA b1];rfl
   have g2:st.getD p 0=st[p]:=by rw[WE,WA J];rfl
   have lst:(st.map D.int).length=f.length:=by rw[W9];exact hl
   have all:∀m∈st,1<=m/\m<=f.length:=λm hm=>runI_mem.mp (H.mem_iff.mp hm)
   have x1:ixN (st.map D.int).length ((p:Int)-1)=some (p-1):=by
    unfold ixN;rw[lst,WK (by lia),WK (by lia)];congr 1;lia
   have x2:∀d:D,ixN ((st.map D.int).set (p-1) d).length (p:Int)=some p:=λd=>by
    unfold ixN;rw[QN,lst,WK (by lia),WK (by lia)];rfl
   have y1:atI (st.map D.int) ((p:Int)-1)=some (.int st[p-1]):=by
    unfold atI;rw[x1];show(st.map D.int)[p-1]?=_;rw[WR,WA b1];rfl
   have y2:atI (st.map D.int) (p:Int)=some (.int st[p]):=Ph (f:=D.int) (Tz<|WA J)
   have e1:((st.map D.int).set (p-1) (.int st[p])).set p (.int st[p-1])=(KA st p).map D.int:=by
    rw[←Zh6 Q J,List.map_set,List.map_set]
   obtain⟨A,x,y,B,ea,la,es,ex,ey⟩:=IH Q J
   have m3:(KA st p).Pairwise λx y=>rkN f o x=rkN f o y->x<y:=by
    rw[es];rw[ea]at u;exact Zd8 u (show rkN f o y=rkN f o x->y<x from λz=>by rw[ex,ey]at h3;lia)
   refine XU (λg=>absurd (WJ g) (by lia)) λ_=>XU (λg=>absurd (show(((st.map D.int).length:Nat):Int)<=p from WJ g) (by lia)) λ_=>?_
   have ec:cutD (st.map D.int) none (some ((p:Int)+1))=(st.take (p+1)).map D.int:=by
    rw[Sw,EU _ (by lia)];congr 2
   refine⟨rfl,?_⟩;show Nt _ _ _ _ _ (cutD (st.map D.int) none<|some ((p:Int)+1)).length (λi=>S.sub (.own<|.lst<|cutD (st.map D.int) none<|some ((p:Int)+1)) ((cutD (st.map D.int) none<|some ((p:Int)+1)).getD i .non)) _;rw[ec];refine Ki (xs:=st.take (p+1)) (emb:=D.int) (λn=>some (.int<|rkN f o n)) (by rw[WW];lia) (λn hn=>⟨_,rx n (all n<|V0 hn),_,rfl,rfl⟩) ?_;have em:(st.take (p+1)).filterMap (λn=>some (D.int<|rkN f o n))=((st.take (p+1)).map (rkN f o)).map D.int:=by rw[Qq,WY];rfl
   rw[em];have lr:((st.take (p+1)).map (rkN f o)).length=p+1:=by rw[W9,WW];lia
   have z:∀j (hj:j<=p),((st.take (p+1)).map (rkN f o))[j]'(by lia)=rkN f o (st[j]'(by lia)):=λj hj=>by rw[J8,Q7]
   have w2:atI (((st.take (p+1)).map (rkN f o)).map D.int) (p:Int)=some (.int (rkN f o st[p])):=by
    rw[←z p (WG _)];exact Ph (f:=D.int) (Tz<|WA _)
   have w1:atI (((st.take (p+1)).map (rkN f o)).map D.int) ((p:Int)-1)=some (.int (rkN f o st[p-1])):=by
    rw[show(p:Int)-1=((p-1:Nat):Int) by lia,←z (p-1) (by lia)];exact Ph (f:=D.int) (Tz<|WA _)
   have C:cutD (((st.take (p+1)).map (rkN f o)).map D.int) none (some (p:Int))=((st.take p).map (rkN f o)).map D.int:=by
    rw[Sw,EU _ (by lia),show((p:Int)).toNat=p by lia,←List.map_take,List.take_take,Nat.min_eq_left (by lia)]
   generalize ((st.take (p+1)).map (rkN f o)).map D.int=row at w1 w2 C;rw[g1,g2]at h3;refine⟨_,w2,_,w1,XU (λg=>absurd (WJ g) (by lia)) λ_=>?_⟩;refine⟨rfl,rfl,(st.take p).map (rkN f o),Qs D.lst C,by rw[W9,WW];lia,λss U hs=>?_⟩;have ess:(st.take p).map (rkN f o)=ss:=List.Perm.eq_of_pairwise (λ_ _ _ _ h h'=>Int.le_antisymm h h') (Zgs hfw Q J) hs U.symm;subst ess;refine⟨_,_,C,rfl,OW rfl ?_⟩;refine⟨_,y1,_,y2,p-1,_,x1,rfl,p,_,x2 _,rfl,KA st p,?_,(Aj Q J).trans H,hMn,m3⟩;rw[←e1];rfl
  ·rintro v ⟨st,rfl,H,r,u⟩;rw[W9,J6]at r;have fw:FW (st.map<|rkN f o) 0:=by cases r with|done _ h=>exact h
   obtain⟨g1,g2⟩:=Zjl nd L;have est:st=endsN f o:=Lk (H.trans g1.symm) (Zn4 fw u) g2;have g0:decide (st=endsN f o)=true:=WH est;have hl:st.length=f.length:=by rw[H.length_eq,Nf]
   refine⟨f,o,rfl,by lia,by lia,_,_,rfl,rfl,?_⟩;show R (.sh<|.bl<|decide (st=endsN f o));rw[g0];exact hR
def Zej(z:Def K mg "order_cost" Dc ["strips","order"])
  : R9 ζ:=by
 refine z.fy Zcg (λp n=>(bc (sE<|xg Y6 p ExcR.Pi<|a2 (xv 0)<|xv 1)<|bc (sS 2 n xi)<|bc (sF 1<|sO [3,4,5] ExcR.FH (ie (RN rfl G.Zs<|az<|pv 1)<|Ov<|sz<|XF 1) (gT 2<|gc (gN 3)<|gc (gN 4) g0)<|b1<|sO [5] ExcR.FH (iL<|xp (xv 1) (o1<|xo K0 K5 (xv 3) xi) o0) (gN 5)<|b1<|sU 2 n DY<|xf Y8 p<|a3 (xv 0) (xv 4)<|xv 5)<|b1<|sV 2)) (.a ?_)
 ·rintro A R X ⟨f,os,rfl,q,r,s,l⟩;refine⟨rfl,f,os,rfl,q,r,s,?_⟩;cases e:T5 f os with
  |some c=>
   rw[e]at l;exact l
  |none=>
   rw[e]at l;refine⟨rfl,TJ _,LZ (xs:=os) (emb:=D.int) (λi g=>∃c:Int,g=[some (.bor<|plD f),some (.bor<|.lst<|os.map D.int),some (.sh<|.int c),none,none,none]/\c+K6 f f.length (os.drop i)=K6 f f.length os) ⟨0,rfl,by simp⟩ ?_ ?_⟩
   ·rintro i v g ⟨c,rfl,o⟩
    have ecut:cutD (os.map D.int) (some ((i:Int)+1)) none=(os.drop (i+1)).map D.int:=by
     rw[Sw,Ac os (by omega)];congr 2
    refine⟨rfl,TJ _,rfl,?_⟩;show B9 _ _ _ _ _ (cutD (os.map D.int) (some ((i:Int)+1)) none).length (λk=>S.sub (.own<|cutD (os.map D.int) (some ((i:Int)+1)) none) ((cutD (os.map D.int) (some ((i:Int)+1)) none).getD k .non));rw[ecut];generalize x:os.drop (i+1)=h;refine Pm (xs:=h) (emb:=D.int) (λj g=>g=[some (.bor<|plD f),some (.bor<|.lst<|os.map D.int),some (.sh<|.int (c+((h.take j).map λb=>pcM f os[i] b f.length).sum)),some (.sh<|.int i),some (.sh (.int os[i])),none]) (by simp;rfl) ?_ ?_
    ·rintro j u g rfl;refine⟨f,os[i],h[j],rfl,q,?_⟩
     have y:((h.take (j+1)).map λb=>pcM f os[i] b f.length).sum=((h.take j).map λb=>pcM f os[i] b f.length).sum+pcM f os[i] h[j] f.length:=by
      rw[WS u,WX,List.sum_append];simp
     rw[y,←Int.add_assoc];rfl
    ·rintro g rfl;refine⟨_,rfl,?_⟩;rw[Qy,←o,Qu v,x];simp only[K6];omega
   ·rintro g ⟨c,rfl,o⟩;rw[J6]at o;have e:c=K6 f f.length os:=by simp only[K6]at o;omega
    rw[←e]at l;exact l
def Zbj(DD:Def K mg "told_moves" DO ["strips","order"])
  : Le ζ:=by
 refine DD.fz Zdw (λA n=>(bc (sE<|xe (Df Y6 (hq<|A ()) N2<|bz (pv 0)<|pv 1)<|P0<|tz (XF 0)<|XF 1)<|bc (sC 2 ["holder","width","order"] [none,none,some 1] n (jL<|xv 0) (gT 2<|gc (gN 0)<|gc (gN 1) g0) f0<|xe (PL (K:=K) Qt QC QU (BN (K:=K)) (pv 2)<|az<|pv 0)<|BZ (XF 2)<|sz<|XF 0)<|bc (sS 3 n<|xf YL A<|a1<|xv 0)<|bc (sS 4 n<|xL a0)<|bc (sS 5 n<|xf YA A<|a2 (xv 3)<|xv 2)<|bc (sW [] Ql (tc Tp Tr (xv 5) xi)<|bc (sF 5<|sA 4<|xt<|ac (xv 5)<|ac (xx (xv 3)<|xo P9 P3 (xv 5) xi)<|ac (xx (xv 3)<|xv 5)<|ac (xf YM A<|a3 (xv 0) (xv 3)<|xv 5) a0)<|bc (sS 3 n<|xf YN A<|a2 (xv 3)<|xv 5)<|b1<|sS 5 n<|xf YA A<|a2 (xv 3)<|xv 2)<|b1<|sV 4)) (.a ?_)
 ·rintro ds R X ⟨l,o,rfl,hF,hz,Q,hR⟩;refine⟨rfl,?_⟩;have hh:=Pp l;have hol:=Q.length_eq;have U:=B3 hF Q;refine⟨l,o,rfl,hF,by lia,by lia,?_⟩;rw[Dn Q];refine Ki (xs:=l) (emb:=prD) (λq=>some (.int (o.idxOf q.1:Nat))) (by lia) (λq hq=>?_) ?_
  ·exact⟨rfl,⟨_,rfl⟩,o,rfl,U q hq,_,rfl,rfl⟩
  rw[Tg (λq:Int×Int=>D.int (o.idxOf q.1:Nat))];have er:l.map (λq:Int×Int=>D.int (o.idxOf q.1:Nat))=(l.map λq:Int×Int=>((o.idxOf q.1:Nat):Int)).map D.int:=by rw[WY];rfl
  rw[er];generalize L:(l.map λq:Int×Int=>((o.idxOf q.1:Nat):Int))=v;have lrs:v.length=l.length:=by rw[←L,W9]
  have rk:∀m:Int,1<=m/\m<=l.length->v.getD (m-1).toNat 0=rkN l o m:=λm y=>by
   have Y:(m-1).toNat<l.length:=by lia
   rw[←L];unfold rkN hdN;rw[WE,WE,WR,WA Y];rfl
  have keys:∀r:Yf,r.Perm (Ka 1 l.length)->r.map (λm=>v.getD (m-1).toNat 0)=r.map (rkN l o):=λr u=>Vk λm y=>rk m (runI_mem.mp<|u.mem_iff.mp y)
  have inr:∀r:Yf,r.Perm (Ka 1 l.length)->∀m∈r,1<=m/\m<=v.length:=λr u m y=>by
   have:=runI_mem.mp (u.mem_iff.mp y)
   lia
  refine⟨l,rfl,by lia,by simp,?_⟩;refine⟨_,v,rfl,inr _ (.refl _),by rw[Nf];lia,λp0 H=>?_⟩;rw[keys _ (.refl _)]at H
  have e0:∀r:Yf,r.Perm (Ka 1 l.length)->P1 (λm=>v.getD (m-1).toNat 0) r=P1 (rkN l o) r:=λr u=>by
   unfold P1;congr 1;exact Vk λm y=>by show(v.getD (m-1).toNat 0,(1:Int))=_;rw[rk m (runI_mem.mp<|u.mem_iff.mp y)]
  have b0:=SS (rkN l o) (Ka 1 l.length)
  have nn:((l.length:Int))*l.length<=1600:=by
   have:=JU (a:=(l.length:Int)) (b:=l.length) (c:=40) (d:=40) (by lia) (by lia) (by lia) (by lia)
   lia
  rw[Nf]at b0;refine Am (λC=>∃(r:Yf) (s:List Mo) (p:Nat),FW (r.map<|rkN l o) p/\r.Perm (Ka 1 l.length)/\(∀E,Mv l (rkN l o) r E->Mv l (rkN l o) (Ka 1 l.length) (s++E))/\(s.length:Int)+P1 (rkN l o) r=P1 (rkN l o) (Ka 1 l.length)/\C=[some (.bor<|plD l),some (.bor<|.lst<|o.map D.int),some (.own<|v.map D.int),some (.own<|r.map D.int),some (.own<|s.map mvD),some (.sh<|.int p)]) mvN ⟨Ka 1 l.length,[],p0,H,.refl _,λE h=>h,by simp,rfl⟩ ?_;rintro C ⟨r,s,p,hw,u,hM,hc,rfl⟩;have hl:r.length=l.length:=by rw[u.length_eq,Nf]
  have b1:=SS (rkN l o) r;refine XU (λg=>?_) (λg=>?_)
  ·have g':0<((p:Nat):Int):=WJ g;obtain⟨h1,B,h3⟩:=hw.2.resolve_left (by lia);rw[W9]at B;rw[TY B,TY (by lia)]at h3;have hs:=I0 (rkN l o) h1 B h3;have x:(KA r p).Perm (Ka 1 l.length):=(Aj h1 B).trans u;have b2:=SS (rkN l o) (KA r p)
   have ix:∀(i:Nat) (k:Int),i<r.length->k=(i:Int)->atI (r.map D.int) k=some (.int<|r.getD i 0):=λi k Y e=>by
    rw[e];exact Ph (f:=D.int) (Tz<|by rw[WE,WA Y];rfl)
   have lm:(s.map mvD).length=s.length:=W9 ..;have M:∀m∈r,1<=m/\m<=l.length:=λm y=>runI_mem.mp (u.mem_iff.mp y);refine⟨_,ix (p-1) _ (by lia) (by lia),_,ix p _ B rfl,?_⟩;refine⟨l,r,p,rfl,hF,M,by lia,by lia,by simp,by lia,?_⟩;refine⟨r,p,rfl,by lia,by lia,by lia,?_⟩;rw[Q3];refine⟨KA r p,v,rfl,inr _ x,by rw[Lv h1 B];lia,λp' J=>?_⟩;rw[keys _ x]at J;refine⟨⟨KA r p,s++[((p:Int),r.getD (p-1) 0,r.getD p 0,exM l r p)],p',J,x,λE T=>?_,?_,?_⟩,?_⟩
   ·rw[VE];exact hM _ (.step r p E hw (by lia) T)
   ·rw[Qa,Vd];lia
   ·rw[WX];rfl
   ·show(P1 _ (((KA r p).map D.int).map toI)).toNat<(P1 _ ((r.map D.int).map toI)).toNat;rw[DU,DU,DU,e0 _ x,e0 _ u];lia
  ·have g':¬0<((p:Nat):Int):=λz=>g (WH z);have N:p=0:=by lia
   subst N
   have:=hM [] (.done r hw)
   rw[Qz]at this;exact hR s this
def Zhy(DD:Def K mg "find_ring" Dr ["holders","wishes"])
  : Lh ζ:=by
 refine DD.fz Zqt (λN n=>(bc (sS 2 n<|xL a0)<|bc (sF 2<|sO [3,4] Ql (iL<|xe (KR (BX (K:=K) (w:=w) rfl) (by rfl) G.Zh Jy<|az<|pv 0)<|BA<|sz<|XF 0) (gN 3)<|bc (sS 4 n<|xf We N<|a3 (xv 3) (xv 0)<|xv 1)<|b1<|sI (tp<|wa (tt<|xv 4)<|wA<|tp<|wo (tN<|tt<|xv 2)<|wO<|tc NR NH (xl G.len<|xv 4)<|xl G.len<|xv 2) (b1<|sF 4<|sS 2 n<|xv 4) b0)<|b1<|sF 2<|sV 2)) (.a ?_)
 ·rintro ds R X ⟨y,B,rfl,u,M,U⟩;refine⟨rfl,by simp,y,rfl,by lia,λq H s=>?_⟩;have C:q.Pairwise (· < ·):=Ax s (H.nodup_iff.mpr u);refine⟨rfl,Pm (xs:=q) (emb:=D.int) (λi p=>∃r,p=[some (.bor<|.lst<|y.map D.int),some (.bor<|.lst<|B.map prD),some (.sh<|.lst<|r.map D.int),none,none]/\r.length<=60/\FRi y B (q.take i) r) ⟨[],rfl,by simp,.inl ⟨rfl,λl J=>by rw[Jl]at J;cases J⟩⟩ ?_ ?_⟩
  ·rintro i L p ⟨r,rfl,h,F⟩
   have b:∀m∈q.take i,m<q[i]:=λm Q=>by
    obtain⟨j,T,e⟩:=Qk.mp Q;rw[WW]at T;rw[Q7]at e;rw[←e];exact Q0.mp C j i (by lia) L (by lia)
   rw[WS L];generalize q[i]=l at b ⊢;refine⟨l,y,B,rfl,u,M,λf A v=>?_⟩;have Y:(!(f.map D.int).isEmpty)=decide (f≠[]):=by cases f<;>simp
   have er:(!(r.map D.int).isEmpty)=decide (r≠[]):=by cases r<;>simp
   show if (!(f.map D.int).isEmpty)=true then _ else _;rw[Y];refine XU (λg=>?_) (λg=>Kn ⟨r,rfl,h,F.keep b A (.inl (QA λz=>g (WH z)))⟩);have x:f≠[]:=WJ g;show if (!(!(r.map D.int).isEmpty))=true then _ else _;rw[er];by_cases o:r=[]
   ·rw[Qc (λz=>z o)];exact PY (PY ⟨f,rfl,v,F.take b A ⟨x,.inl o⟩⟩)
   ·rw[WH o];refine Kn ?_;show if decide (((f.map D.int).length:Int)<((r.map D.int).length:Int))=true then _ else _;rw[W9,W9];refine XU (λE=>?_) (λE=>?_)
    ·have:=WJ E
     exact⟨f,rfl,v,F.take b A ⟨x,.inr (by lia)⟩⟩
    ·have:¬(f.length:Int)<(r.length:Int):=λz=>E (WH z)
     exact⟨r,rfl,h,F.keep b A (.inr ⟨o,by lia⟩)⟩
  ·rintro p ⟨r,rfl,h,F⟩;rw[Qy]at F;exact U r (F.all λz=>H.mem_iff) h
def Zk8(DD:Def K mg "least_costs" Cr ["strips","wishes","pairs"])
  : OU ζ:=by
 refine DD.fz LP (λJ n=>(bc (se (Pu.pz 3 LP.nd<|Zjq (KN<|J ()) (NI KM) Kv)<|Sr (Zc6 (NY Kw) Kh)<|Kr 3)<|bc (sO [4,5] Ql (iL<|xp (xf YR J<|a1<|xf Yx J<|a1<|xv 0) (o1 xi) o0) (gN 4)<|bc (sC 5 ["holder","members","wishes"] [none,some 4,some 1] n (je (Bm (K:=K)<|pv 4)<|SndI.c<|BB<|XF 4) (gN 0) (f1<|tt<|xf YS J<|a3 (xv 1) (xv 0)<|xv 2)<|xv 0)<|b1<|se (F1 (KN<|J ()) (pv 3) (pv 4) (KR (Zbu (K:=K) rfl) (by rfl) G.ZR boot_min<|az<|cz ["last","members","least","pairs"] [none,some 4,some 3,some 2] (TL (K:=K)<|pv 5) ⟨(gk 0),PQ,(fz Wg (J ())<|KB (pv 1)<|KB (pv 0)<|KB (pv 2)<|KB (pv 3) KM)⟩) rfl)<|Aw 3 (XF 4)<|Zlc<|sz<|Pj (Nh<|XF 5) (Kr 0) Th<|P0<|Nr (XF 1)<|Nr (XF 0)<|Nr (XF 2)<|Nr (XF 3) Kw)<|b1<|sV 3)) (.a ?_)
 ·rintro ds R X ⟨A,r,pa,c,rfl,hF,hz,hw,hu,hc,hL,hR⟩;refine⟨rfl,by simp,_,_,rfl,rfl,?_⟩;refine⟨A,rfl,hF,hz,_,rfl,Pp A,?_⟩;have hh:=Pp A;have nd:(XJ A).Nodup:=(Tv A).imp (λh=>Vs h);generalize XJ A=hs at hh nd hc hL hR ⊢;have hsl:=HU hs;have u:=Fj hs;have x:=Ro nd;have B:=MF nd
  have v:(Kj hs).length<=1024:=by
   rw[hsl];exact Nat.pow_le_pow_right (j:=10) (by decide) hh
  obtain⟨T,eT⟩:=Zh9 hs;rw[eT]at u x B v hR ⊢;refine⟨rfl,rfl,?_⟩
  have ec:Pu.cutD (List.map tD ([]::T)) (some 1) none=T.map tD:=by
   rw[Sw,Ac _ (by decide)];rfl
  rw[ec];refine Pm (xs:=T) (emb:=tD) (λi y=>∃b:List (List Key×V),y=[some (.bor<|.lst<|A.map prD),some (.bor<|.lst<|r.map prD),some (.bor<|.dT pa),some (.own<|.dT b),none,none]/\Tab r c ([]::T.take i) b) ⟨_,rfl,Zfn r c⟩ ?_ ?_
  ·rintro i hi y ⟨b,rfl,H⟩;have em:([]::T)[i+1]?=some T[i]:=by rw[Jp,WA hi]
   have U:T[i]∈[]::T:=Qp em;have o:=u _ U;have Q:T[i]≠[]:=λe=>(Q1.mp B).1 (e▸WU hi)
   have N:T[i]∉[]::T.take i:=λz=>by
    rcases WL.mp z with z|z
    ·exact Q z
    ·obtain⟨j,hj,e⟩:=Qk.mp z;rw[WW]at hj;rw[Q7]at e;exact Q0.mp (Q1.mp B).2 j i (by lia) hi (by lia) e
   have hml:T[i].length<=10:=WQ o.length_le hh
   have C:∀l∈T[i],XZ T[i] l∈[]::T.take i:=λl p=>by
    obtain⟨j,hj,e⟩:=x (i+1) _ em l p
    have:([]::T.take i)=([]::T).take (i+1):=by rw[List.take_succ_cons]
    rw[this];refine Qp (i:=j) ?_;rw[QP hj];exact e
   have ndm:T[i].Nodup:=nd.sublist o
   have hkl:b.length<=1024:=by
    have:=Qs List.length H.keys
    rw[W9,W9,Qn,WW]at this;rw[Qn]at v;lia
   have etk:[]::T.take (i+1)=([]::T.take i)++[T[i]]:=by rw[WS hi];rfl
   rw[etk];generalize T[i]=f at *;obtain⟨vs,L⟩:=Oc λl p=>H.val _ (C l p);obtain⟨l0,hl0,hl0'⟩:=hL f o Q;refine⟨_,rfl,Ki (s:=.sh .non) (xs:=f) (emb:=D.int) (λh=>if Ni r f h=true then some (.int h)else none) (by lia) (λh hm=>?_) ?_⟩
   ·refine⟨f,h,r,rfl,hw,?_⟩;refine XU (λg=>⟨_,rfl,WK g⟩) (λg=>WI g)
   ·rw[Pf (λh=>Ni r f h)];refine Ki (xs:=f.filter (λh=>Ni r f h)) (emb:=D.int) (λl=>some (.int (vs l+((XZ f l).map (c · l)).sum))) (WQ (Q5 _ _)<|by lia) (λl p=>?_) ?_
    ·obtain⟨q,Y⟩:=Qi.mp p;exact⟨f,l,b,pa,(c · l),vs l,rfl,by lia,(L l q).1,λm hm=>hc m (o.subset<|less_sub.subset hm) l (o.subset q),_,rfl,rfl⟩
    ·rw[Tg];refine⟨(f.filter (λh=>Ni r f h)).map λl=>vs l+((XZ f l).map (c · l)).sum,by rw[WY];rfl,?_,λM hM hle=>⟨_,_,Au f,rfl,by lia,_,rfl,H.put N (Zi6 ndm hu (λl p=>(L l p).2) ?_ ?_)⟩⟩
     ·rw[W9];exact List.length_pos_of_mem (Qi.mpr ⟨hl0,lastM_iff.mpr hl0'⟩)
     ·obtain⟨l,p,e⟩:=WO.mp hM;obtain⟨q,Y⟩:=Qi.mp p;exact⟨l,q,Y,e.symm⟩
     ·intro l p E;exact hle _ (WO.mpr ⟨l,Qi.mpr ⟨p,E⟩,rfl⟩)
  ·rintro y ⟨b,rfl,H⟩;rw[Qy]at H;exact hR b H
def Zfe(q:Kk K (Mk K<|Kd ζ) "__init__" "Village.__init__" A9 ["self","strips"])
  : Me ζ:=by
 refine q.fy Zc2 (λh n=>(bc (sE<|xg Wd h ExcR.Pi<|a1<|xv 1)<|bc (se (Dy (pv 0) (T4 KM) rfl)<|Ez 0 G.Za G.Zb Zly<|TN Kw)<|bc (se (Dy (pv 0) (T4<|az<|Kt (SA (K:=K)) (by rfl) G.Zg boot_list<|az<|pv 1) rfl)<|Ez 0 G.Za G.Zd Zcz<|TN<|sz<|SJ<|sz<|XF 1)<|b1<|se (Dy (pv 0) (T4<|az<|T4 KM) rfl)<|Ez 0 G.Za G.Ze Zex<|TN<|sz<|TN Kw)) (.c ?_)
 ·rintro o r R X ⟨x,f,rfl,rfl,g,b⟩;refine⟨rfl,f,rfl,g,?_⟩;cases e:Bf f with
  |some c=>
   rw[e]at b;exact⟨_,rfl,⟨rfl,by simp⟩,b⟩
  |none=>
   rw[e]at b;refine⟨by simp,rfl,rfl,by decide,λb1=>?_⟩;refine⟨rfl,by simp,rfl,rfl,by decide,λp=>?_⟩;refine⟨by simp,by simp,rfl,rfl,by decide,λl=>?_⟩;exact⟨_,rfl,⟨rfl,by simp⟩,b b1 p l⟩
def Zjd(v:Kk K (Ku K (Kd ζ) "wish") "wish" "Village.wish" Dx ["self","ahead","behind"])
  : R0 ζ:=by
 refine v.fy Zqn (λg n=>(bc (se (Nv<|Pe YU G.Za (hq<|g ()) ExcR.Pi<|pv 0)<|Re<|HQ Zqp (XF 0) Kw)<|bc (sS 3 n<|xg Wf g ExcR.Pi<|a3 (xe (Pe Yy G.Za (hq<|g ()) P4<|pv 0)<|KY BG (XF 0) Kw) (xv 1)<|xv 2)<|b1<|sF 2<|sF 1<|sF 3<|se (Kg<|F2 YV G.Za (hq<|g ()) P4 (pv 0)<|dz (NI<|dz Kf (pv 1)<|pv 2) (Pe Yu G.Za (hq<|g ()) P4<|pv 0)<|pv 3)<|Bg<|HP 0 Znk<|uz (NY<|uz Ke (XF 1)<|XF 2) (KY NZ (XF 0) Kw)<|XF 3)) (.c ?_)
 ·rintro o y R X ⟨x,b1,u,s,bk,fs,l,f,w,p,h,rfl,rfl,r,z,hw,q,b⟩;refine⟨rfl,?_⟩;unfold Br at b;refine⟨rfl,rfl,bk,fs++[f],l++[w],rfl,?_⟩;unfold Ee;by_cases c:100<=bk.length
  ·rw[WK c]at b ⊢;exact⟨_,rfl,⟨rfl,by simp⟩,b⟩
  ·rw[WI c]at b ⊢;refine⟨rfl,rfl,bk,fs++[f],l,w,rfl,w,p,h,rfl,q,?_⟩;cases e:TR w p h with
   |some c=>
    rw[e]at b;exact⟨_,rfl,⟨rfl,by simp⟩,b⟩
   |none=>
    rw[e]at b;refine⟨rfl,rfl,by simp,rfl,rfl,bk,fs,l++[w],f,rfl,?_⟩;exact⟨x,b1,u,s,bk,fs++[f],l++[w],("wish",[p,h]),f,w++[(p,h)],rfl,rfl,r,by rw[Qa];simp;lia,by rw[Qa];simp;lia,_,rfl,⟨rfl,by simp⟩,b⟩
def Zmg(s:Kk K (Ku K (Kd ζ) "broken") "broken" "Village.broken" AZ ["self","order"])
  : Ol ζ:=by
 refine s.fy Zpv (λb n=>(bc (sE<|xg Y6 b ExcR.Pi<|a2 (xe (Pe Yu G.Za (hq<|b ()) P4<|pv 0)<|KY NZ (XF 0) Kw)<|xv 1)<|b1<|sR<|xf YO b<|a2 (xv 1)<|xe (Pe Yy G.Za (hq<|b ()) P4<|pv 0)<|KY BG (XF 0) Kw)) (.a ?_)
 ·rintro u R X ⟨bk,fs,l,f,w,os,rfl,r,p,q,hw,g⟩;refine⟨rfl,rfl,rfl,bk,fs,l++[w],f,rfl,f,os,rfl,r,p,q,?_⟩;cases e:T5 f os with
  |some c=>
   rw[e]at g;exact g
  |none=>
   rw[e]at g
   have o:os.Perm (XJ f):=by
    unfold T5 at e;split at e
    ·rename_i z;exact List.isPerm_iff.mp z
    ·cases e
   exact⟨rfl,rfl,bk,fs++[f],l,w,rfl,os,w,rfl,o.symm.nodup ((Tv f).imp (λh=>Vs h)),by have:=o.length_eq;have:=Pp f;omega,hw,g⟩
def Zlh(E:Def K mg "_law_strips" DR ["_law_script","_law_menu_here","_law_many"])
  : RW ζ:=by
 refine E.fz Zkj (λs n=>(bc (sS 3 n<|xL a0)<|bc (sO [4,5,6] Ql (ir G.Zc<|a1<|xv 2) (gN 4)<|bc (sS 5 n<|xf Y0 s<|a2 (xv 0)<|xo K0 K5 xi<|xv 4)<|bc (sS 6 n<|xo K0 K5 (xx (xv 1) xi)<|xo KG KC (xo Ts Tq (xv 5)<|xx (xv 1) xi)<|xx (xv 1) xi)<|b1<|sF 6<|sA 3<|xt<|a2 (xf Y4 s<|a2 (xv 1)<|xo KG KC (xv 5)<|xx (xv 1) xi)<|xv 6)<|b1<|sV 3)) (.a ?_)
 ·rintro ds R X ⟨r,m,n,rfl,u,Y,U,C⟩;refine⟨rfl,?_⟩;have o:=u;obtain⟨a,b,c,d,e,rfl,T,Q,N,M,L⟩:=u;refine⟨by simp,⟨by omega,by omega⟩,Sx (λi g=>∃f:Ye,g=[some (.bor<|.scr r),some (.bor<|.lst (([a,b,c,d,e]:Yf).map D.int)),some (.sh<|.int n),some (.own<|f.map prD),none,none,none]/\Field f/\f.length=i) ⟨[],rfl,(λq hq=>by cases hq),rfl⟩ ?_ ?_⟩
  ·rintro i g B ⟨f,rfl,p,l⟩;have z:(f.map prD).length=f.length:=W9 ..;have A:i<n.toNat:=B;refine⟨r,_,rfl,by omega,λv=>?_⟩;have J:=JL (v / a) (show d≠0 by omega);have H:=Jk (v / a) (show 0<d by omega);refine⟨_,rfl,_,rfl,⟨by omega,by omega⟩,_,rfl,(by show 0<d;omega),_,rfl,(by show 0<a;omega),[a,b,c,d,e],_,rfl,o,λh y x _=>⟨by simp,by omega,f++[(h,e+v / a % d)],?_,λq hq=>?_,by rw[Qa,l];rfl⟩⟩
   ·rw[WX];rfl
   ·rcases Qd.mp hq with hq|hq
    ·exact p q hq
    ·rw[WC]at hq;subst hq;exact⟨y,x,by show 1<=e+v / a % d;omega,by show e+v / a % d<=1000;omega⟩
  ·rintro g ⟨f,rfl,p,l⟩;exact C f p l
def Zmz(DD:Def K mg "_law_wishes" AA ["_law_script","_law_menu_here"])
  : Mg ζ:=by
 refine DD.fz Zae (λv n=>(bc (sS 2 n<|xf Y0 v<|a2 (xv 0) xi)<|bc (sS 3 n<|xx (xL<|a2 xi<|xe (KR (Zf9 rfl) (by rfl) G.ZQ boot_max<|bz Kv<|jx K (pv 1) Kv)<|Zqw<|tz Kh<|Pg (XF 1) Kh)<|xo KG KC (xo Ts Tq (xv 2) xi) xi)<|bc (sS 4 n<|xL a0)<|bc (sO [5,6,7,8,9] Ql (ir G.Zc<|a1<|xo KG KC (xv 2) xi) (gN 5)<|bc (sS 6 n<|xf Y0 v<|a2 (xv 0)<|xo K0 K5 xi<|xv 5)<|bc (sS 7 n<|xo KG KC (xv 6)<|xv 3)<|bc (sS 8 n<|xo KG KC (xo K0 K5 (xo K0 K5 (xv 7) xi)<|xo KG KC (xo Ts Tq (xv 6)<|xv 3)<|xo P9 P3 (xv 3) xi)<|xv 3)<|bj (sI (tp<|wa (tc Tp Tr (xo KG KC (xo Ts Tq (xv 2) xi) xi) xi)<|wA<|tc Tp Tr (xv 7)<|xv 8) (b1<|sF 7<|sF 8<|se (Zj8 (i:=7) (j:=8) rfl Zae.nd rfl rfl (by decide) rfl rfl (bz (pv 8)<|pv 7)<|by rfl)<|Zhm<|tz (XF 8)<|XF 7) b0)<|bc (sS 9 n<|xt<|a2 (xf Y4 v<|a2 (xv 1)<|xv 7)<|xf Y4 v<|a2 (xv 1)<|xv 8)<|b1<|sI (tI v (xv 9)<|xv 4) (b1<|sF 9<|sA 4<|xv 9) b0)<|b1<|sV 4)) (.a ?_)
 ·rintro ds R X ⟨x,m,rfl,H,hR⟩;refine⟨rfl,?_⟩;have u:=H;obtain⟨a,b,c,d,e,rfl,ha,hb,hc,hd,he⟩:=H;refine⟨x,1,rfl,by decide,λl=>?_⟩
  have r:∃p:Int,atI [D.int 10,.int (if a>2 then a else 2)] (l / 63 % 2)=some (.int p)/\2<=p/\p<=10:=by
   have:l / 63 % 2=0\/l / 63 % 2=1:=by omega
   rcases this with e|e<;>rw[e]
   ·exact⟨10,rfl,by decide,by decide⟩
   ·exact⟨_,rfl,by split<;>omega,by split<;>omega⟩
  obtain⟨pool,ep,hp⟩:=r;refine⟨_,rfl,by simp,⟨by decide,by decide⟩,(by show(0:Int)<2;decide),_,ep,by simp,(by show(0:Int)<21;decide),⟨by omega,by omega⟩,Sx (λi f=>∃h:Ye,f=[some (.bor<|.scr x),some (.bor<|.lst (([a,b,c,d,e]:Yf).map D.int)),some (.sh<|.int l),some (.sh<|.int pool),some (.own<|h.map prD),none,none,none,none,none]/\Pt h/\h.length<=i) ⟨[],rfl,Zp2,WG _⟩ ?_ ?_⟩
  ·rintro i f hi ⟨h,rfl,y,hl⟩;have hi':i<(l % 21).toNat:=hi;have Y:(h.map prD).length=h.length:=W9 ..;refine⟨x,_,rfl,by omega,λcell=>?_⟩;refine⟨(by show 0<pool;omega),⟨by omega,by omega⟩,(by show 0<pool-1;omega),(by show 0<pool;omega),?_⟩
   have q:(0<=cell % pool/\cell % pool<=9)/\(0<=(cell % pool+1+cell / pool % (pool-1)) % pool/\(cell % pool+1+cell / pool % (pool-1)) % pool<=9)/\cell % pool≠(cell % pool+1+cell / pool % (pool-1)) % pool:=by
    have J:=JL cell (show pool≠0 by omega);have g2:=Jk cell (show 0<pool by omega);have g3:=JL (cell / pool) (show pool-1≠0 by omega);have g4:=Jk (cell / pool) (show 0<pool-1 by omega);obtain⟨⟨U,k2⟩,T⟩:=two_ne ⟨J,g2⟩ ⟨g3,g4⟩;exact⟨⟨J,by omega⟩,⟨U,by omega⟩,T⟩
   refine AK (λf=>∃(o t:Int) (E C:Option S),((0<=o/\o<=9)/\(0<=t/\t<=9)/\o≠t)/\f=[some (.bor<|.scr x),some (.bor<|.lst (([a,b,c,d,e]:Yf).map D.int)),some (.sh<|.int l),some (.sh<|.int pool),some (.own<|h.map prD),E,C,some (.sh<|.int o),some (.sh<|.int t),none]) ?_ ?_
   ·refine⟨⟨by decide,by decide⟩,(by show(0:Int)<3;decide),XU (λ_=>XU (λ_=>?_) (λ_=>?_)) (λ_=>Kn ?_)⟩
    ·exact⟨_,_,_,_,⟨q.2.1,q.1,λz=>q.2.2 z.symm⟩,rfl⟩
    ·exact⟨_,_,_,_,q,rfl⟩
    ·exact⟨_,_,_,_,q,rfl⟩
   ·rintro f ⟨o,t,E,C,s,rfl⟩;refine⟨_,_,rfl,u,λB Q N e1=>⟨_,_,rfl,u,λA M L e2=>?_⟩⟩;have b3:=Zey u s.1 s.2.1 s.2.2;refine⟨by simp,_,.lp (B,A) h,XU (λg=>?_) (λg=>?_)⟩
    ·have g':(B,A)∉h:=λz=>by rw[WK rfl,WH z]at g;cases g
     refine⟨by omega,h++[(B,A)],?_,Zf4 y (LM ⟨Q,N⟩ ⟨M,L⟩ (by rw[e1,e2];exact b3) g'<|by omega),?_⟩
     ·rw[WX];rfl
     ·rw[Qa,Vd];omega
    ·exact⟨h,rfl,y,by omega⟩
  ·rintro f ⟨h,rfl,y,hl⟩;exact hR h y
def Zfy(x:Def K mg "check_no_ring" Cf ["strips","wishes"])
  : R8 ζ:=by
 refine x.fy Zii (λb n=>(bc (sS 2 n<|xf Wp b<|a2 (xf Yx b<|a1<|xv 0)<|xv 1)<|b1<|sI (tt<|xv 2) (b1<|sF 2<|se (ExcR.Zgb YJ (hq<|b ()) G.Zt ExcR.Zbs rfl rfl<|az<|pv 2)<|Zdm<|sz<|XF 2) b0)) (.a ?_)
 ·rintro z R X ⟨f,l,rfl,v,o,p,q,s⟩;refine⟨rfl,f,rfl,v,o,_,l,rfl,(Tv f).imp (λh=>Vs h),WQ (Pp f) (by decide),λr b y=>?_⟩;by_cases e:r=[]
  ·have u:=(b.none_iff p).mp e;subst e;exact Kn (A:=False) (s u)
  ·have hx:=q r b e;refine XU (λ_=>⟨r,rfl,hx⟩) (λg=>absurd g ?_);cases r with
   |nil=>exact absurd rfl e
   |cons a t=>simp
def Ziz(q:Kk K (Ku K (Kd ζ) "price") "price" "Village.price" En ["self","order"])
  : G8 ζ:=by
 refine q.fy Zjj (λb n=>(b1<|sR<|xg Wn b ExcR.Pi<|a2 (xe (Pe Yu G.Za (hq<|b ()) P4<|pv 0)<|KY NZ (XF 0) Kw)<|xv 1)) (.a ?_)
 ·rintro r R X ⟨bk,fs,g,f,os,rfl,p,h,l,o⟩;refine⟨rfl,?_⟩;exact⟨rfl,rfl,bk,fs,g,f,rfl,f,os,rfl,p,h,l,o⟩
def Zht(y:Def K mg "do_deed" ET ["village","word","numbers"])
  : Zbf ζ:=by
 refine y.fz Zrb (λb n=>(bc (sI (tq b (xv 1) xs) (b1<|se TM T8) b0)<|bc (sI (tq b (xv 1) xs) (b1<|se TM T8) b0)<|bc (sI (tq b (xv 1) xs) (b1<|se TM T8) b0)<|bc (sI (tq b (xv 1) xs) (b1<|se (Kg<|F2 Wr G.Za (hq<|b ()) N2 (pv 0)<|bz (jx K (pv 2) Kv)<|jx K (pv 2) Kv)<|Bg<|HP 0 Zev<|tz (Pg (XF 2) Kh)<|Pg (XF 2) Kh) b0)<|b1<|se TM T8)) (.c ?_)
 ·rintro o z R X ⟨x,b1,v,u,bk,fs,g,f,w,p,h,rfl,rfl,r,q,hw,l,e,s⟩;refine⟨rfl,rfl,rfl,_,rfl,_,rfl,x,b1,v,u,bk,fs,g,f,w,p,h,rfl,rfl,r,q,hw,l,?_⟩;rw[e];exact⟨_,rfl,⟨rfl,by simp⟩,s⟩
def Zkb(E:Def K mg "cost_table" D2 ["strips","wishes"])
  : Zab ζ:=by
 refine E.fy Zj4 (λo n=>(bc (sE<|xg YH o ExcR.Pi<|a2 (xv 0)<|xv 1)<|bc (sS 2 n<|xf YG o<|a3 (xv 0) (xv 1)<|xf YD o<|a1<|xv 0)<|b1<|sR<|xe (Kt (Znq rfl) (by rfl) G.Zg boot_list<|KB (Ziv (K:=K)<|pv 2) KM)<|Zjo<|XF 2)) (.a ?_)
 ·rintro H R X ⟨b,s,rfl,r,g,hw,l,A,q⟩;refine⟨rfl,b,s,rfl,r,g,l,A,λu=>?_⟩;have q:=q u;refine⟨b,rfl,r,g,λx p=>⟨b,s,x,pcc b,rfl,r,g,hw,l,p,RY l u,λf T=>?_⟩⟩;have y:(XJ b).Nodup:=(Tv b).imp (λh=>Vs h);obtain⟨v,e,z⟩:=T.vals (MF y);obtain⟨C,B⟩:=IZ e;refine⟨f,rfl,C,?_⟩;rw[B];exact q v z
def Zen(DD:Def K mg "best_order" Ck ["strips","wishes"])
  : Hn ζ:=by
 refine DD.fy Ie (λz n=>(bc (sE<|xg YH z ExcR.Pi<|a2 (xv 0)<|xv 1)<|bc (sS 2 n<|xf YD z<|a1<|xv 0)<|bc (se (Pu.pz 3 Ie.nd<|fz YG (z ())<|dz (pv 0) (pv 1)<|pv 2)<|Sr (P0<|uz (XF 0) (XF 1)<|XF 2)<|Kr 3)<|bc (sS 4 n<|xe (Kt (Za6 (K:=K)) (by rfl) G.Z8 boot_tuple<|az<|fz Yx (z ())<|az<|pv 0)<|OE<|sz<|P0<|sz<|XF 0)<|bc (sS 5 n<|xL a0)<|bc (sW [6,7] ExcR.FH (tt<|xv 4)<|bc (sC 6 ["holder","members","wishes"] [none,some 4,some 1] n (je (Bm (K:=K)<|pv 4)<|SndI.c<|BB<|XF 4) (gN 0) (f1<|tt<|xf YT z<|a3 (xv 1) (xv 0)<|xv 2)<|xv 0)<|bc (sC 7 ["first","members","least","pairs"] [none,some 4,some 3,some 2] n (jL<|xv 6) (gN 0) (f1<|tq z (xf Wh z<|ac (xv 1)<|ac (xv 0)<|ac (xv 2)<|ac (xv 3) a0)<|xe (Ss (KN<|z ()) (pv 2) (pv 1) (λ_ _=>rfl))<|NJ (XF 2)<|XF 1)<|xv 0)<|bc (sA 5<|xx (xv 7) xi)<|b1<|sS 4 n<|xf Y2 z<|a2 (xv 4)<|xx (xv 7) xi)<|b1<|sV 5)) (.a ?_)
 ·rintro ds R X ⟨v,u,rfl,hF,hz,hw,hu,hX,hR⟩;refine⟨rfl,v,u,rfl,hF,hz,hu,hX,λhN=>?_⟩;have hR:=hR hN;refine⟨v,rfl,hF,hz,λpa hpa=>⟨v,u,pa,pcc v,rfl,hF,hz,hw,hu,hpa,RY hu hN,λkvs T=>⟨v,rfl,hF,hz,?_⟩⟩⟩;have hh:=Pp v;have hri:=Tv v;have nd:(XJ v).Nodup:=hri.imp (λh=>Vs h);have hpa':∀x∈XJ v,∀y∈XJ v,XX pa [.inl x,.inl y]=some (.int<|pcc v x y):=hpa;generalize pcc v=c at *;generalize XJ v=U at *
  refine⟨rfl,by simp,Am (λY=>∃(b o:Yf),Y=[some (.bor<|.lst<|v.map prD),some (.bor<|.lst<|u.map prD),some (.own<|.dT pa),some (.own<|.dT kvs),some (.sh<|tD b),some (.own<|o.map D.int),none,none]/\b∈Kj U/\o.length+b.length<=10/\
   ∀p,Pv u c b p->Pv u c U (o++p)) Zlm ⟨U,[],rfl,List.mem_of_getLast? (Iq U),by simpa using hh,λp hp=>hp⟩ ?_⟩
  rintro Y ⟨b,o,rfl,L,hol,hB⟩;show if (!(b.map D.int).isEmpty)=true then _ else _;refine XU (λg=>?_) (λg=>?_)
  ·have C:=Fj U b L;have hne:b≠[]:=λe=>by subst e;simp at g
   have B:b.Nodup:=nd.sublist C;have hrm:=hri.sublist C
   have A:∀l∈b,XZ b l∈Kj U:=λl M=>by
    obtain⟨k,hk,e⟩:=Qk.mp L;obtain⟨j,_,ej⟩:=Ro nd k b (by rw[WA hk,e]) l M;exact Qp ej
   obtain⟨H,hvs⟩:=Oc λl M=>T.val _ (A l M);obtain⟨V,hV1,Q⟩:=T.val b L;have hv2:∀l∈b,KQ u c (XZ b l) (H l):=λl M=>(hvs l M).2
   have J:∃f rest,(b.filter (λh=>firstM u b h)).filter (λf=>decide (H f+((XZ b f).map (c f)).sum=V))=f::rest:=by
    obtain⟨q,q1,q2,q3⟩:=Q.is;cases q with
    |nil=>exact absurd q1.nil_eq.symm hne
    |cons g p=>
     obtain⟨r1,r2,r3,_⟩:=GJ B hu hv2 Q q1 q2 q3;exact List.exists_cons_of_ne_nil (List.ne_nil_of_mem<|Qi.mpr ⟨Qi.mpr ⟨r1,r2⟩,WH r3⟩)
   obtain⟨f,rest,ef⟩:=J;have N:f∈(b.filter (λh=>firstM u b h)).filter (λf=>decide (H f+((XZ b f).map (c f)).sum=V)):=by rw[ef];exact Qh ..
   obtain⟨N,hf3⟩:=Qi.mp N;obtain⟨E,hf2⟩:=Qi.mp N
   have hmin:∀g∈b,firstM u b g=true->H g+((XZ b g).map (c g)).sum=V->f<=g:=λg h1 h2 h3=>by
    have hg:g∈(b.filter (λh=>firstM u b h)).filter (λf=>decide (H f+((XZ b f).map (c f)).sum=V)):=Qi.mpr ⟨Qi.mpr ⟨h1,h2⟩,WH h3⟩
    have z:(f::rest).Pairwise (· < ·):=by
     rw[←ef];exact(hrm.filter _).filter _
    rw[ef]at hg;rcases WL.mp hg with e|hg
    ·lia
    ·have:=(Va.mp z).1 g hg
     lia
   refine⟨_,rfl,Ki (s:=.sh .non) (xs:=b) (emb:=D.int) (λh=>if firstM u b h=true then some (.int h)else none) (by lia) (λh hm=>?_) ?_⟩
   ·refine⟨b,h,u,rfl,hw,?_⟩;refine XU (λg=>⟨_,rfl,WK g⟩) (λg=>WI g)
   ·rw[Pf (λh=>firstM u b h)];refine Ki (xs:=b.filter (λh=>firstM u b h)) (emb:=D.int) (λf=>if decide (H f+((XZ b f).map (c f)).sum=V)=true then some (.int f)else none) (WQ (Q5 _ _)<|by lia) (λl M=>?_) ?_
    ·obtain⟨hl1,hl2⟩:=Qi.mp M;refine⟨b,l,kvs,pa,c l,H l,rfl,by lia,(hvs l hl1).1,λm hm=>hpa' l (C.subset hl1) m (C.subset<|less_sub.subset hm),_,_,Au b,hV1,rfl,?_⟩;refine XU (λg=>⟨_,rfl,WK g⟩) (λg=>WI g)
    ·rw[Pf (λf=>decide (H f+((XZ b f).map (c f)).sum=V)),ef];refine⟨_,N9 _ _,by rw[W9];lia,_,N9 _ _,b,f,rfl,by lia,⟨XZ b f,o++[f],?_,A f E,?_,λp hp=>?_⟩,?_⟩
     ·rw[WX];rfl
     ·have:=(Ng B E).length_eq
      rw[Qa];rw[Qn]at this;show o.length+1+_<=10;lia
     ·rw[VE];exact hB _ (Zed B hu hv2 Q E hf2 (WJ hf3) hmin hp)
     ·have:=(Ng B E).length_eq
      rw[Qn]at this;show((XZ b f).map D.int).length<(b.map D.int).length;rw[W9,W9];lia
  ·have e:b=[]:=by
    cases b with
    |nil=>rfl
    |cons a r=>exact absurd rfl g
   subst e
   have:=hB [] (Zhn u c)
   rw[Qz]at this;exact hR o this
def Zib(B:Def K mg "least_cost" EA ["strips","wishes"])
  : Ou ζ:=by
 refine B.fy Zkd (λu n=>(b1<|sR<|xx (xg Wx u ExcR.Pi<|a2 (xv 0)<|xv 1)<|xe (NU NO Kv)<|ND Kh)) (.a ?_)
 ·rintro E R X ⟨b,p,rfl,A,r,hw,s,y,g⟩;refine⟨rfl,b,p,rfl,A,r,hw,s,y,λz q o=>?_⟩;have g:=g z;have l:=Iq (XJ b);rw[List.getLast?_eq_getElem?]at l;have C:=(Qf.mp l).1;have x:=o.1;obtain⟨v,h⟩:∃v,q[(Kj<|XJ b).length-1]?=some v:=⟨_,WA (by lia)⟩;have L:=o.2 _ _ _ l h;rw[←x]at h;exact⟨_,Ph (f:=D.int) (FB h),g _ L⟩
def Zle(r:Kk K (Ku K (Kd ζ) "order") "order" "Village.order" Dz ["self"])
  : Ma ζ:=by
 refine r.fy Zis (λb n=>(b1<|sR<|xg Wy b ExcR.Pi<|a2 (xe (Pe Yu G.Za (hq<|b ()) P4<|pv 0)<|KY NZ (XF 0) Kw)<|xe (Pe Yy G.Za (hq<|b ()) P4<|pv 0)<|KY BG (XF 0) Kw)) (.a ?_)
 ·rintro s R X ⟨bk,fs,g,f,w,rfl,q,h,hw,l,p,o⟩;refine⟨rfl,?_⟩;exact⟨rfl,rfl,bk,fs,g++[w],f,rfl,rfl,rfl,bk,fs++[f],g,w,rfl,f,w,rfl,q,h,hw,l,p,o⟩
def Zek(r:Kk K (Ku K (Kd ζ) "cost") "cost" "Village.cost" Ew ["self"])
  : G9 ζ:=by
 refine r.fy Zk6 (λb n=>(b1<|sR<|xg Wz b ExcR.Pi<|a2 (xe (Pe Yu G.Za (hq<|b ()) P4<|pv 0)<|KY NZ (XF 0) Kw)<|xe (Pe Yy G.Za (hq<|b ()) P4<|pv 0)<|KY BG (XF 0) Kw)) (.a ?_)
 ·rintro s R X ⟨bk,fs,g,f,w,rfl,q,h,hw,l,p,o⟩;refine⟨rfl,?_⟩;exact⟨rfl,rfl,bk,fs,g++[w],f,rfl,rfl,rfl,bk,fs++[f],g,w,rfl,f,w,rfl,q,h,hw,l,p,o⟩
def Zre(y:Kk K (Ku K (Kd ζ) "moves") "moves" "Village.moves" DE ["self"])
  : II ζ:=by
 refine y.fy Zqv (λb n=>(b1<|sR<|xf Wo b<|a2 (xe (Pe Yu G.Za (hq<|b ()) P4<|pv 0)<|KY NZ (XF 0) Kw)<|xe (Pe YI G.Za (hq<|b ()) ExcR.Pi<|pv 0)<|HQ Lz (XF 0) Kw)) (.a ?_)
 ·rintro z R X ⟨bk,fs,g,f,w,rfl,h,q,hw,r,u,v⟩;refine⟨rfl,?_⟩;exact⟨rfl,rfl,bk,fs,g++[w],f,rfl,rfl,rfl,bk,fs,g,f,w,rfl,h,by lia,hw,r,u,λx o l=>⟨f,o,rfl,h,q,l.perm,λp s=>v x o p l s⟩⟩
def Ze7(T:Def K mg "told_question" EX ["village","word","numbers"])
  : HL ζ:=by
 refine T.fz Zf6 (λb n=>(bc (sI (tq b (xv 1) xs) (b1<|sR<|xf Wj b<|a1<|xe (Pe Yu G.Za (hq<|b ()) P4<|pv 0)<|KY NZ (XF 0) Kw) b0)<|bc (sI (tq b (xv 1) xs) (b1<|sR<|xf YF b<|a1<|xe (Pe Yy G.Za (hq<|b ()) P4<|pv 0)<|KY BG (XF 0) Kw) b0)<|bc (sI (tq b (xv 1) xs) (b1<|se TM T8) b0)<|bc (sI (tq b (xv 1) xs) (b1<|se TM T8) b0)<|bc (sI (tq b (xv 1) xs) (b1<|sR<|xf YE b<|a1<|xe (Pe YI G.Za (hq<|b ()) N2<|pv 0)<|KY Lz (XF 0) Kw) b0)<|bc (sI (tq b (xv 1) xs) (b1<|sR<|xe (Kt Ta (by rfl) G.Zf boot_str<|az<|Pe W1 G.Za (hq<|b ()) N2<|pv 0)<|Ti<|sz<|KY Zjr (XF 0) Kw) b0)<|bc (sI (tq b (xv 1) xs) (b1<|sR<|xf YE b<|a1<|xC ["move"] [none] (jL<|xe (Pe W2 G.Za (hq<|b ()) N2<|pv 0)<|KY Zfb (XF 0) Kw) (gN 0) f0<|xx (xv 0) xi) b0)<|bc (sI (tq b (xv 1) xs) (b1<|sR<|xe (Kt Ta (by rfl) G.Zf boot_str<|az<|F2 Wv G.Za (hq<|b ()) N2 (pv 0)<|az<|pv 2)<|Ti<|sz<|KY Zj6 (XF 0)<|sz<|XF 2) b0)<|bc (sI (tq b (xv 1) xs) (b1<|sR<|xf YF b<|a1<|xe (F2 Ws G.Za (hq<|b ()) N2 (pv 0)<|az<|pv 2)<|KY Zie (XF 0)<|sz<|XF 2) b0)<|b1<|se TM T8)) (.a ?_)
 ·rintro Y R X ⟨bk,fs,p,f,w,os,word,rfl,l,x,B,N,g⟩;refine⟨rfl,?_⟩;have A:∀q∈w,q.1≠q.2:=λq hq=>(B.2.2 q hq).2;have hw:=B.1;have E:∀r,FR (XJ f) w r->r≠[]->False:=λr h z=>N ⟨r,(h.ring A z).1⟩;rcases g with⟨rfl,rfl,g⟩|⟨rfl,rfl,g⟩|⟨rfl,rfl,g⟩|⟨rfl,rfl,g⟩|⟨rfl,rfl,g⟩|⟨rfl,s,g⟩|⟨rfl,s,g⟩
  ·exact⟨rfl,rfl,bk,fs,p++[w],f,rfl,f,rfl,by lia,λq hq=>by have:=l q hq;lia,g⟩
  ·exact⟨rfl,rfl,bk,fs++[f],p,w,rfl,w,rfl,by lia,λq hq=>by have:=(B.2.2 q hq).1;lia,g⟩
  ·refine⟨rfl,rfl,bk,fs,p,f,w,rfl,l,by lia,by lia,A,E,λ_ o y=>⟨o,rfl,?_,λn C=>?_,g o y⟩⟩
   ·rw[y.perm.length_eq]
    have:=Pp f
    lia
   ·obtain⟨q,hq,rfl⟩:=WO.mp ((NM l).mp (y.perm.mem_iff.mp C))
    have:=l q hq
    lia
  ·refine⟨rfl,rfl,bk,fs,p,f,w,rfl,l,by lia,by lia,A,E,λ_ v J=>⟨?_,g v J⟩⟩;obtain⟨o,o1,_,L⟩:=J.is;rw[←L,Bp];exact FN (Av l x<|by rw[o1.length_eq];exact Pp f)
  ·refine⟨rfl,rfl,bk,fs,p,f,w,rfl,l,x,by lia,A,E,λ_ o u y H=>?_⟩;have M:=Zq0 l x H (.refl _);have U:=Ll x H;refine Ki (xs:=u) (emb:=mvD) (λq=>some (.int q.1)) (by lia) (λq hq=>⟨_,rfl,_,rfl,rfl⟩) ?_;rw[Tg (λq:Mo=>D.int q.1)];have Q:u.map (λq:Mo=>D.int q.1)=(u.map (·.1)).map D.int:=by rw[WY];rfl
   rw[Q];refine⟨u.map (λq:Mo=>q.1),rfl,by rw[W9];lia,λn C=>?_,g o u y H⟩;obtain⟨q,hq,rfl⟩:=WO.mp C
   have:=(M q hq).1
   lia
  ·refine⟨rfl,rfl,bk,fs,p++[w],f,os,rfl,l,by lia,by rw[s.length_eq];have:=Pp f;lia,?_⟩;rw[Dn s];exact⟨FN (Av l x<|by rw[s.length_eq];exact Pp f),g⟩
  ·refine⟨rfl,rfl,bk,fs,p,f,w,os,rfl,l,by lia,by rw[s.length_eq];have:=Pp f;lia,by lia,?_⟩;rw[Dn s];exact⟨_,rfl,by have:=Q5 (TU os) w;lia,λq hq=>by have:=(B.2.2 q (Qi.mp hq).1).1;lia,g⟩
def Zqg(Q:Def K mg "told_row" AW ["village","word","numbers"])
  : LD ζ:=by
 refine Q.fy L9 (λl n=>(bc (sI (te (SN<|E8 G.Zu<|pv 1)<|Sv<|Ep<|XF 1) (bc (sF 2<|sF 1<|se (Pu.pz 3 L9.nd<|fz Ww (l ())<|dz (pv 0) (pv 1)<|pv 2)<|Ao (P2 0<|tz (XF 1)<|XF 2)<|Kr 3)<|b1<|se (Kg<|ExcR.N4<|ExcR.Tt<|ExcR.TH (pv 3) ExcR.Nn)<|K7<|Nx<|Tu<|T7 (XF 3) NB) b0)<|bc (sI (tq l (xv 1) xs) (b1<|se TM T8) b0)<|b1<|se (Kg<|fz W3 (l ())<|dz (pv 0) (pv 1)<|pv 2)<|K7<|P0<|uz (XF 0) (XF 1)<|XF 2)) (.c ?_)
 ·rintro o T R X ⟨x,b1,N,M,bk,fs,q,f,w,word,os,rfl,rfl,hb,Y,hw,H,C,z,b⟩;refine⟨rfl,?_⟩;rcases b with⟨rfl,p,h,rfl,e,b⟩|⟨E,A⟩
  ·refine⟨x,b1,N,M,bk,fs,q,f,w,p,h,rfl,rfl,by lia,by lia,by lia,by have:=z.1;lia,e,?_⟩;have y:((bk.length:Int)+1).natAbs<=10 ^ 30:=WQ (show _<=1001 by lia) (by decide);have B:=(HS y).2;have U:(1000:Nat)<=sizeLine:=by decide
   have u:(Str.empty++("done " : Str)).length=5:=by decide +kernel
   have s:(Str.empty++("done " : Str)++nS ((bk.length:Int)+1)).length<=sizeLine:=by rw[Zep,u];lia
   refine⟨by rw[u];lia,Be y,s,s,?_⟩;refine⟨_,rfl,⟨rfl,by simp⟩,?_⟩;have b:R _ (.str (("done " : Str)++nS ((bk.length:Int)+1))):=b;rw[←QF ("done " : Str)]at b;exact b
  ·have g:=(Zke A).1;have L:∀v∈[("field" : Str), "wishes","order","cost","moves","price","broken"],(List.lookup v [(("sell" : Str),(2:Int)),("part",2),("unite",1),("wish",2),("drop",2)]).isSome=false/\decide (v=("back" : Str))=false:=by decide +kernel
   obtain⟨B,J⟩:=L word g;show if (List.lookup word [(("sell" : Str),(2:Int)),("part",2),("unite",1),("wish",2),("drop",2)]).isSome=true then _ else _;rw[B];refine Kn ?_;show if decide (word=("back" : Str))=true then _ else _;rw[J];refine Kn ⟨bk,fs,q,f,w,os,word,rfl,H,C,z,E,Oq (λt r=>⟨_,rfl,⟨rfl,by simp⟩,r⟩) A⟩
def Zpo(z:Def K mg "told_or_refused" AR ["village","word","numbers"])
  : Iu ζ:=by
 refine z.fz LJ (λh n=>(b1<|se (ExcR.Zby (λpins D=>(Kx<|Kg<|ExcR.Zi3 W4 (hq<|h ()) (ExcR.Zio (pins:=pins) (D:=D) rfl rfl<|ExcR.Pr rfl G.Zj (by decide) (λa=>(Kx<|Kg Kf))<|ExcR.Pr rfl G.Zo (by decide) (λa=>(Kx<|Kg Kf))<|ExcR.Pr rfl G.ZG (by decide) (λa=>(Kx<|Kg Kf))<|ExcR.Pr rfl G.ZD (by decide) (λa=>(Kx<|Kg Kf))<|ExcR.Pr rfl G.ZH (by decide) (λa=>(Kx<|Kg Kf))<|ExcR.Pr rfl G.Zw (by decide) (λa=>(Kx<|Kg Kf))<|ExcR.Pr rfl G.ZI (by decide) (λa=>(Kx<|Kg Kf))<|ExcR.Pr rfl G.Zl (by decide) (λa=>(Kx<|Kg Kf))<|ExcR.Pr rfl G.Zm (by decide) (λa=>(Kx<|Kg Kf))<|ExcR.Pr rfl G.Zk (by decide) (λa=>(Kx<|Kg Kf))<|ExcR.Pr rfl G.ZK (by decide) (λa=>(Kx<|Kg Kf))<|ExcR.Pr rfl G.Zr (by decide) (λa=>(Kx<|Kg Kf))<|ExcR.Pr rfl G.Z0 (by decide) (λa=>(Kx<|Kg Kf))<|ExcR.Pr rfl G.Z6 (by decide) (λa=>(Kx<|Kg Kf))<|ExcR.Pr rfl G.Zq (by decide) (λa=>(Kx<|Kg Kf))<|ExcR.Zlg (i:=3) LJ.nd rfl rfl rfl G.Zt (by decide) (λa=>(LR TM<|Kx TM)) ExcR.Zhr)<|dz (pv 0) (pv 1)<|pv 2)))<|Zkr (E':=λ_=>E0) ["BadOrder"] ["TooManyStrips","BadHolder","NoStrip","OwnStrip","BadPart","UnlikeHolders","TooWide","LikeHolders","WishStands","TooManyWishes","NoWish","BookFull","NothingDone","NoSuchDeed","BadOrder","Ringed"] (G.ex.sub (by decide)<|by decide) (.cons (K7 Ke)<|.cons (K7 Ke)<|.cons (K7 Ke)<|.cons (K7 Ke)<|.cons (K7 Ke)<|.cons (K7 Ke)<|.cons (K7 Ke)<|.cons (K7 Ke)<|.cons (K7 Ke)<|.cons (K7 Ke)<|.cons (K7 Ke)<|.cons (K7 Ke)<|.cons (K7 Ke)<|.cons (K7 Ke)<|.cons (K7 Ke) (.cons (GT T8
    T8)
    .nil)) (λD=>(AN 2<|AN 1<|Bg<|Zne 0<|tz (XF 1)<|XF 2)))) (.c ?_)
 ·rintro o A R X ⟨x,b1,y,v,bk,fs,b,f,w,word,os,rfl,rfl,p,l,hw,u,g,q,s⟩;refine⟨rfl,x,b1,y,v,bk,fs,b,f,w,word,os,rfl,rfl,p,l,hw,u,g,q,?_⟩;exact EM (λ_ _ _ d r=>⟨_,rfl,⟨rfl,by simp⟩,r⟩) s
def Zl4(DD:Def K mg "answer" DT ["village","row"])
  : RB ζ:=by
 refine DD.fz Zpi (λB n=>(bc (sS 2 n<|xe (PL (K:=K) QX PySem.F.slot_str_split PySem.F.type_str_split Ir (pv 1)<|az Kf)<|Zat (XF 1) Ke)<|bc (sI (tN<|tt<|xf Wi B<|a2 (xx (xv 2) xi)<|xp (xv 2) (o1 xi) o0) (b1<|se (Kg Kf)<|K7 Ke) b0)<|b1<|se (Kg<|fz W5 (B ())<|dz (pv 0) (jx K (pv 2) Kv)<|cz ["text"] [none] (TL (K:=K)<|D8 (EB (K:=K)) (pv 2) (Dg Kv) D4) ⟨(gk 0),PQ,(Kt Zjx (by rfl) G.ZF boot_int<|az<|pv 0)⟩)<|Bg<|P2 0<|tz (Pg (XF 2) Kh)<|Pj (Nh<|AM (XF 2) (Gh Kh) E6) (Kr 0) Th<|Zmh<|sz<|XF 0)) (.c ?_)
 ·rintro o ss R X ⟨x,b1,b2,b3,bk,fs,H,f,w,word,os,rfl,rfl,l,hl,N,M,hw,T,J,Q,A⟩;refine⟨rfl,?_⟩;have s:(" " : Str)=spc:=by decide +kernel
  have g:word.length<=6/\32∉word.cps.toList:=by
   have q:∀v∈[("wish" : Str), "field","wishes","order","cost","moves","price","broken"],v.length<=6/\32∉v.cps.toList:=by decide +kernel
   exact q word (LC A).1
  have u:∀v∈word::os.map nS,32∉v.cps.toList:=λv b=>by
   rcases WL.mp b with rfl|b
   ·exact g.2
   ·obtain⟨n,_,rfl⟩:=WO.mp b;exact Zrn n
  have y:∀v∈word::os.map nS,v.length<=6:=λv b=>by
   rcases WL.mp b with rfl|b
   ·exact g.1
   ·obtain⟨n,p,rfl⟩:=WO.mp b
    have:=(PP (l n p).1 (l n p).2).2.1
    lia
  have es:Txt.split (Str.join spc (word::os.map nS)) " " = word::os.map nS:=by rw[s];exact L0 (by simp) u
  have L:(Str.join spc (word::os.map nS)).length+2<=sizeLine:=by
   have C:=Jz spc (word::os.map nS);have h2:=StrLaws.sumLen_le _ y;have Y:(word::os.map nS).length=os.length+1:=by rw[Qn,W9]
   have U:spc.length=1:=rfl;have h5:(10000:Nat)<=sizeLine:=by decide
   rw[Y]at C h2;rw[U]at C;lia
  have E:cutD ((word::os.map nS).map D.str) (some 1) none=os.map λn=>D.str (nS n):=by
   rw[Ac _ (by decide)];show(os.map nS).map D.str=_;rw[WY];rfl
  refine⟨rfl,L,?_⟩;rw[es];refine⟨_,N9 _ _,rfl,word,os,Qs (λz=>[D.str word,D.lst z]) E,(LC A).2,l,by lia,Kn ?_⟩;refine⟨_,N9 _ _,rfl,?_⟩;show Nt _ _ _ _ _ (cutD ((word::os.map nS).map D.str) (some 1) none).length (λi=>S.sub (.own<|.lst<|cutD ((word::os.map nS).map D.str) (some 1) none) ((cutD ((word::os.map nS).map D.str) (some 1) none).getD i .non)) _;rw[E];refine Ki (xs:=os) (emb:=λn=>D.str (nS n)) (λn=>some (.int n)) (by lia) (λn p=>?_) ?_
  ·have h:=l n p;exact⟨n,AX h.1 h.2,by have:=(PP h.1 h.2).2.1;lia,_,rfl,rfl⟩
  have em:os.filterMap (λn=>some (D.int n))=os.map D.int:=by rw[Qq]
  rw[em];exact⟨x,b1,b2,b3,bk,fs,H,f,w,word,os,rfl,rfl,N,M,hw,T,J,Q,EM (λ_ _ _ d r=>⟨_,rfl,⟨rfl,by simp⟩,r⟩) A⟩
def Zn3(L:Def K mg "_law_says" EE ["_law_village","_law_row","_law_due"])
  : MQ ζ:=by
 refine L.fz GZ (λg n=>(bc (sF 1<|se (Pu.pz 3 GZ.nd<|fz Y7 (g ())<|bz (pv 0)<|pv 1)<|Ao (P2 0<|sz<|XF 1)<|Kr 3)<|b1<|se (Kg<|Ar (KR (E7 (K:=K)) (by rfl) G.Zi boot_isinstance<|bz (pv 3)<|AY (v:=.ty "str") rfl G.Zf boot_str rfl)<|FL<|PK (NQ (K:=K)<|show _<cLine from(g ()).units0) (pv 3) (pv 2)<|Po _)<|K7<|EV (Ex<|tz (XF 3) CQ)<|Nu (XF 3)<|XF 2)) (.c ?_)
 ·rintro o M R X ⟨x,b1,J,H,bk,fs,l,f,w,word,os,b,rfl,rfl,q,s,y,u,hw,B,p,z,A⟩;refine⟨rfl,x,b1,J,H,bk,fs,l,f,w,word,os,rfl,rfl,q,s,y,u,hw,B,p,z,EM (λE C h d r=>?_) A⟩;obtain⟨rfl,r⟩:=r;refine⟨true,.same _,?_⟩;refine PY ⟨_,rfl,⟨rfl,by simp⟩,?_⟩;show R _ (.bl<|decide (b=b));rw[WH rfl];exact r
def Zox(DD:Def K mg "_law_stand_told" Ct ["_law_village","_law_strips_here","_law_wishes_here"])
  : G5 ζ:=by
 refine DD.fz Znm (λy n=>(bc (sS 3 n<|xe (PL (K:=K) QX VO VP (An (K:=K)) Kf<|az<|cz ["_law_strip"] [none] (TL (K:=K)<|pv 1) ⟨(gk 0),PQ,(Pq Sl (Pq Sl (Kt Ta (by rfl) G.Zf boot_str<|az<|jx K (pv 0) Kv) Kf)<|Kt Ta (by rfl) G.Zf boot_str<|az<|jx K (pv 0) Kv)⟩)<|Ah Ke<|Pj (Nh<|XF 1) (Kr 0) Th<|Sg (Sg (Ti<|sz<|Pg (XF 0) Kh) Ke)<|Ti<|sz<|Pg (XF 0) Kh)<|bc (sS 4 n<|xe (PL (K:=K) QX VO VP (An (K:=K)) Kf<|az<|cz ["_law_pair"] [none] (TL (K:=K)<|pv 2) ⟨(gk 0),PQ,(Pq Sl (Pq Sl (Kt Ta (by rfl) G.Zf boot_str<|az<|jx K (pv 0) Kv) Kf)<|Kt Ta (by rfl) G.Zf boot_str<|az<|jx K (pv 0) Kv)⟩)<|Ah Ke<|Pj (Nh<|XF 2) (Kr 0) Th<|Sg (Sg (Ti<|sz<|Pg (XF 0) Kh) Ke)<|Ti<|sz<|Pg (XF 0) Kh)<|bc (se (Sh (N6<|Nw (K:=K)<|fz Yw (y ())<|dz (pv 0) Kf<|Pq Sl (pv 3)<|Pq R6 Kf<|Kt Zau (by rfl) G.ZF boot_int<|az<|PK (Dv (K:=K)<|show _<cLine from(y ()).units0) (pv 1) (T4 KM)<|Po _) (Kx<|Kg Nc)
   Si)<|SX (Bb<|Bh<|P2 0<|tz Ke<|Sg (XF 3)<|He Ke<|Lc<|sz<|Fs (XF 1)<|TN Kw) (K7 Na) NP)<|b1<|se (Kg<|fz Yw (y ())<|dz (pv 0) Kf<|Pq Sl (pv 4)<|Pq R6 Kf<|Kt Zau (by rfl) G.ZF boot_int<|az<|PK (Dv (K:=K)<|show _<cLine from(y ()).units0) (pv 2) (T4 KM)<|Po _)<|Bg<|P2 0<|tz Ke<|Sg (XF 4)<|He Ke<|Lc<|sz<|Fs (XF 2)<|TN Kw)) (.c ?_)
 ·rintro o ss R X ⟨x,b1,b2,b3,bk,fs,N,f,w,rfl,rfl,s,hf,hw,C,hz,l,hN,hR⟩;refine⟨rfl,?_⟩
  have r:∀a b:Str,(a++b).length=a.length+b.length:=λa b=>by
   show(a.cps++b.cps).size=_;rw[Jv];rfl
  have hs:(100000:Nat)<=sizeLine:=by decide
  have Y:(" " : Str).length=1:=by decide +kernel
  have H:(":" : Str).length=1:=by decide +kernel
  have E:(">" : Str).length=1:=by decide +kernel
  have fb:∀q∈f,(nS q.1).length<=4/\(nS q.2).length<=4/\(txS q).length<=9:=λq g=>by
   have h:=C q g;have u:=(PP (n:=q.1) (by lia)<|by lia).2.1;have p:=(PP (n:=q.2) (by lia)<|by lia).2.1;refine⟨u,p,?_⟩;unfold txS;rw[r,r,H];lia
  have Q:∀q∈w,(nS q.1).length<=4/\(nS q.2).length<=4/\(wS q).length<=9:=λq g=>by
   have h:=(l.2.2 q g).1;have u:=(PP (n:=q.1) (by lia)<|by lia).2.1;have p:=(PP (n:=q.2) (by lia)<|by lia).2.1;refine⟨u,p,?_⟩;unfold wS;rw[r,r,E];lia
  have hJ:∀{ts:Ym},(∀v∈ts,v.length<=9)->ts.length<=50->JoinOk (" " : Str) ts=true/\(Txt.join (" " : Str) ts).length<=1000:=λ{ts} s hl=>by
   refine⟨?_,?_⟩
   ·unfold JoinOk;rw[VS (B:=9) s (by rw[Y];lia)];rfl
   ·rw[show Txt.join (" " : Str) ts=Str.join (" " : Str) ts from JC _ _]
    have u:=Jz (" " : Str) ts;have p:=StrLaws.sumLen_le (B:=9) ts s;rw[Y]at u;lia
  obtain⟨j1,k1⟩:=hJ (ts:=f.map txS) (λv J=>by obtain⟨q,g,rfl⟩:=WO.mp J;exact(fb q g).2.2) (by rw[W9];lia);obtain⟨j2,k2⟩:=hJ (ts:=w.map wS) (λv J=>by obtain⟨q,g,rfl⟩:=WO.mp J;exact(Q q g).2.2) (by rw[W9];have:=l.1;lia);have A:∀{n:Int},0<=n/\n<=1000->n.natAbs.log2<1920:=λh=>Be (WQ (show _<=9999 by lia)<|by decide);have M:f.filterMap (λq=>some (D.str<|txS q))=(f.map txS).map D.str:=by rw[Qq,WY];rfl
  have L:w.filterMap (λq=>some (D.str<|wS q))=(w.map wS).map D.str:=by rw[Qq,WY];rfl
  refine Ki (xs:=f) (emb:=prD) (λq=>some (.str<|txS q)) (by lia) (λq g=>?_) ?_
  ·have h:=C q g;have p:=fb q g;refine⟨_,rfl,A ⟨by lia,by lia⟩,?_,_,rfl,A ⟨by lia,by lia⟩,?_,_,rfl,rfl⟩
   ·show(nS q.1).length+(":" : Str).length<=sizeLine;rw[H];lia
   ·show(nS q.1++(":" : Str)).length+(nS q.2).length<=sizeLine;rw[r,H];lia
  rw[M];refine⟨_,rfl,j1,?_⟩;refine Ki (xs:=w) (emb:=prD) (λq=>some (.str<|wS q)) (by have:=l.1;lia) (λq g=>?_) ?_
  ·have h:=(l.2.2 q g).1;have p:=Q q g;refine⟨_,rfl,A ⟨by lia,by lia⟩,?_,_,rfl,A ⟨by lia,by lia⟩,?_,_,rfl,rfl⟩
   ·show(nS q.1).length+(">" : Str).length<=sizeLine;rw[E];lia
   ·show(nS q.1++(">" : Str)).length+(nS q.2).length<=sizeLine;rw[r,E];lia
  rw[L];refine⟨_,rfl,j2,?_⟩;have T:∀k:Bool,MulOk ("none" : Str) (if k=true then 1 else 0):=λk=>by cases k<;>exact⟨by decide +kernel,by decide +kernel,by decide +kernel⟩
  have U:∀k:Bool,(Txt.mul ("none" : Str) (if k=true then 1 else 0)).length<=4:=λk=>by cases k<;>decide +kernel
  have e1:("field" : Str)=Str.join spc ("field" :: ([]:Yf).map nS):=by decide +kernel
  have e2:("wishes" : Str)=Str.join spc ("wishes" :: ([]:Yf).map nS):=by decide +kernel
  have g1:BQ f=_:=(O3 prD txS f).symm;have g2:S9 w=_:=(O3 prD wS w).symm;refine⟨by decide,T _,?_,x,b1,b2,b3,bk,fs,N,f,w, "field",[],(Txt.join (" " : Str) (f.map txS)++Txt.mul ("none" : Str) (if (f.map prD).isEmpty=true then 1 else 0)),rfl,Qs (λz=>[Pu.S.sh (.str z),Pu.S.sh (.str (Txt.join (" " : Str) (f.map txS)++Txt.mul ("none" : Str) (if (f.map prD).isEmpty=true then 1 else 0)))]) e1,by simp,by simp,s,hf,hw,C,hz,l,.inr ⟨hN,.inl ⟨rfl,rfl,Qs D.str g1,?_⟩⟩⟩
  ·have:=U (f.map prD).isEmpty
   show _+(Txt.mul ("none" : Str) _).length<=sizeLine;lia
  refine Kn ⟨by decide,T _,?_,x,b1,b2,b3,bk,fs,N,f,w, "wishes",[],(Txt.join (" " : Str) (w.map wS)++Txt.mul ("none" : Str) (if (w.map prD).isEmpty=true then 1 else 0)),rfl,Qs (λz=>[Pu.S.sh (.str z),Pu.S.sh (.str (Txt.join (" " : Str) (w.map wS)++Txt.mul ("none" : Str) (if (w.map prD).isEmpty=true then 1 else 0)))]) e2,by simp,by simp,s,hf,hw,C,hz,l,.inr ⟨hN,.inr (.inl ⟨rfl,rfl,Qs D.str g2,?_⟩)⟩⟩
  ·have:=U (w.map prD).isEmpty
   show _+(Txt.mul ("none" : Str) _).length<=sizeLine;lia
  exact⟨_,rfl,⟨rfl,by simp⟩,hR⟩
def Zoa(DD:Def K mg "_law_way_told" Cq ["_law_village","_law_strips_here","_law_wishes_here","_law_order"])
  : Hr ζ:=by
 refine DD.fz Hx (λl n=>(bc (sS 4 n<|xe (Kt Ta (by rfl) G.Zf boot_str<|az<|fz Y5 (l ())<|bz (pv 1)<|pv 3)<|Ti<|sz<|P0<|tz (XF 1)<|XF 3)<|bc (se (Pu.pz 5 Hx.nd<|fz Y7 (l ())<|bz (pv 0) Kf)<|Ao (P2 0<|sz Ke)<|Kr 5)<|bc (sF 4<|se (Sh (PW.pt<|Cn (N6<|Nw (K:=K)<|fz Yw (l ())<|dz (pv 0) Kf<|pv 4)<|AG<|N6<|Nw (K:=K)<|KR (E7 (K:=K)) (by rfl) G.Zi boot_isinstance<|bz (pv 5)<|AY (v:=.ty "str") rfl G.Zf boot_str rfl) (Kx<|Kg Nc)
   Si)<|SX (OO (Bb<|Bh<|P2 0<|tz Ke<|XF 4)<|GB<|Ow<|Zar<|Ex<|tz (XF 5) CQ) (K7 Na) NP)<|bc (sI (tp<|wo (tN<|tt<|xf Wm l<|a3 (xf YC l<|a2 (xv 5) xi) (xv 1)<|xv 3)<|wO<|tN<|tt<|xf YZ l<|a2 (xv 3)<|xv 2) (b1<|se (Kg Nc)<|K7 Na) b0)<|bc (sF 4<|se (Sh (N6<|Nw (K:=K)<|fz Yw (l ())<|dz (pv 0) (fz Yz (l ())<|bz Kf<|pv 3)<|pv 4) (Kx<|Kg Nc)
   Si)<|SX (Bb<|Bh<|P2 0<|tz (P0<|tz Ke<|XF 3)<|XF 4) (K7 Na) NP)<|b1<|se (Kg<|fz Yw (l ())<|dz (pv 0) (fz Yz (l ())<|bz Kf<|pv 3) Kf)<|Bg<|P2 0<|tz (P0<|tz Ke<|XF 3) Ke)) (.c ?_)
 ·rintro o ss R X ⟨x,b1,E,C,bk,fs,u,f,w,os,rfl,rfl,b,y,hw,h,r,A,B,g,hR⟩;refine⟨rfl,?_⟩;have H:os.length<=10:=by rw[g.perm.length_eq];exact Pp f
  have M:=B3 h g.perm
  have p:∀n∈os,0<=n/\n<=9999:=λn J=>by
   obtain⟨q,hq,rfl⟩:=WO.mp ((NM h).mp (g.perm.mem_iff.mp J))
   have:=h q hq
   lia
  have epri:oc (pcc f) os=KL f os f.length:=Ab h g.perm;have eo:=Bp f os;have ob:=Av h r H;have hL:KQ w (pcc f) (XJ f) (KL f os f.length):=by rw[←epri];exact⟨⟨os,g.perm,g.keeps,rfl⟩,g.le⟩
  have e1:("moves" : Str)=Str.join spc ("moves" :: ([]:Yf).map nS):=by decide +kernel
  have e2:("cost" : Str)=Str.join spc ("cost" :: ([]:Yf).map nS):=by decide +kernel
  refine⟨f,os,rfl,h,by lia,M,FN (by rw[←epri,eo];exact ob),?_⟩;refine⟨x,b1,E,C,bk,fs,u,f,w, "moves",[],rfl,Qs (λz=>[Pu.S.sh (.str z)]) e1,by simp,by simp,b,y,hw,h,r,A,.inr ⟨B,.inr (.inr<|.inr<|.inr<|.inl ⟨rfl,rfl,λo U Q N=>?_⟩)⟩⟩;obtain rfl:=Pu.Pv.uniq Q g;have hc:=Ll r N;have L:=LB N
  have kg:∀q∈w,PX o q=false:=λq hq=>by
   cases b:PX o q with
   |false=>rfl
   |true=>
    unfold PX at b;rw[Qb,Qb]at b;have T:=WJ b.1;have h2:=WJ b.2.1;have h3:=WJ b.2.2;have s:=QS.mpr T;have Y:=QS.mpr h2
    have:=Q0.mp g.keeps _ _ Y s h3
    rw[Vr Y,Vr s]at this;exact absurd hq this
  have bn:w.filter (TU o)=[]:=List.filter_eq_nil_iff.mpr λq hq b=>by
   unfold TU at b;rw[Qb]at b;have T:=WJ b.1;have s:=QS.mpr T;obtain⟨i,hi,e⟩:=JQ (WJ b.2);rw[WW]at hi;rw[Q7]at e
   have:=Q0.mp g.keeps i _ (by lia) s (by lia)
   rw[e,Vr s]at this;exact absurd hq this
  refine⟨x,b1,E,C,bk,fs,u,f,w, "cost",[],nS (KL f o f.length),rfl,Qs (λz=>[Pu.S.sh (.str z),Pu.S.sh (.str<|nS<|KL f o f.length)]) e2,by simp,by simp,b,y,hw,h,r,A,.inr ⟨B,.inr (.inr<|.inr<|.inl ⟨rfl,rfl,λv hv=>⟨by rw[hv.uniq hL],?_⟩⟩)⟩⟩;refine Kn ⟨true,.same _,Kn ?_⟩;refine⟨U.map (λq:Mo=>q.1),39,rfl,λn J=>?_,by decide,by decide,by rw[W9];lia,?_⟩
  ·obtain⟨q,hq,rfl⟩:=WO.mp J
   have:=L q hq
   rw[Nf]at this;lia
  refine⟨f,o,U,rfl,h,r,g.perm,N,Kn ⟨o,w,rfl,(λ_=>Kn ?_),λ⟨q,hq,b⟩=>by rw[kg q hq]at b;cases b⟩⟩;refine⟨"price",o,⟨_,rfl,.inl rfl⟩,by decide +kernel,p,by lia,x,b1,E,C,bk,fs,u,f,w, "price",o,nS (KL f o f.length),rfl,rfl,p,by lia,b,y,hw,h,r,A,.inr ⟨B,.inr (.inr<|.inr<|.inr<|.inr<|.inl ⟨rfl,g.perm,by rw[←eo,epri],?_⟩)⟩⟩;refine Kn ⟨"broken",o,⟨_,rfl,.inl rfl⟩,by decide +kernel,p,by lia,x,b1,E,C,bk,fs,u,f,w, "broken",o, "none",rfl,rfl,p,by lia,b,y,hw,h,r,A,.inr ⟨B,.inr (.inr<|.inr<|.inr<|.inr<|.inr ⟨rfl,g.perm,by rw[bn];rfl,?_⟩)⟩⟩;exact⟨_,rfl,⟨rfl,by simp⟩,hR⟩
def Znw(DD:Def K mg "law" TQ ["_law_script"])
  : Zpb ζ:=by
 refine DD.fz Mq (λl n=>(bc (sS 1 n<|xf YX l<|a1<|xf Y0 l<|a2 (xv 0) xi)<|bc (sS 2 n<|xf Wt l<|a3 (xv 0) (xv 1)<|xo KG KC (xo Ts Tq (xf Yv l<|a2 (xv 0) xi) xi) xi)<|bc (sS 3 n<|xf YY l<|a1<|xv 2)<|bc (sS 4 n<|xf Wl l<|a2 (xf Wu l<|a2 (xv 0)<|xv 1)<|xv 3)<|bc (sS 5 n<|xe (Zqa Wq G.ZJ (hq<|l ()) N2<|az<|Kt (SA (K:=K)) (by rfl) G.Zg boot_list<|az<|pv 2)<|Zn9<|sz<|SJ<|sz<|XF 2)<|bc (sO [6] Ql (ir G.Zc<|a1<|xl G.len<|xv 4) (gN 6)<|b1<|se (Sh (N6<|Nw (K:=K)<|fz Yw (l ())<|dz (pv 5) (fz Yz (l ())<|bz Kf<|jx K (pv 4)<|pv 6)<|Pq Sl Kf<|Kt Ta (by rfl) G.Zf boot_str<|az<|Pq K0 (pv 6) Kv) (Kx<|Kg Nc)
   Si)<|SX (Bb<|Bh<|P2 5<|tz (P0<|tz Ke<|Pg (XF 4)<|XF 6)<|Sg Ke<|Ti<|sz<|K5 (XF 6) Kh) (FU Na) NP)<|bc (se (Pu.pz 7 Mq.nd<|fz Y7 (l ())<|bz (pv 5) Kf)<|Ao (P2 5<|sz Ke)<|Kr 7)<|bc (sI (tN<|tt<|xe (KR (E7 (K:=K)) (by rfl) G.Zi boot_isinstance<|bz (pv 7)<|AY (v:=.ty "str") rfl G.Zf boot_str rfl)<|Ex<|tz (XF 7) CQ) (b1<|sR xb) b0)<|bc (sS 8 n<|xf YC l<|a2 (xv 7) xi)<|bj (sF 8<|sF 4<|sF 2<|se (Sh (PW.pt<|Cn (cn K (l ()) (KR (BX (K:=K) (w:=w) rfl) (by rfl) G.Zh Jy<|az<|pv 8)<|pv 3)<|AG<|N6<|Nw (K:=K)<|fz W7 (l ())<|KB (pv 5)<|KB (pv 2)<|KB (pv 4)<|KB (pv 8) KM) (Kx<|Kg Nc)
   Si)<|SX (OO (GB<|Tj<|Cd (BA<|sz<|XF 8)<|XF 3)<|Bb<|Bh<|P2 5<|uz (XF 2) (XF 4)<|XF 8) (FU Na) NP)<|bc (sC 9 ["_law_pair","_law_holders"] [none,some 3] n (jL<|xv 4) (gN 0) (f1<|tp<|wa (ti l (xx (xv 0) xi)<|xv 1)<|wA<|ti l (xx (xv 0) xi)<|xv 1)<|xv 0)<|bc (sS 10 n<|xf Wb l<|a3 (xv 3) (xv 9)<|xf Wk l<|a1<|xv 0)<|bj (sS 11 n<|xf Y5 l<|a2 (xv 2)<|xv 10)<|bc (se (Sh (N6<|Nw (K:=K)<|fz Yw (l ())<|dz (pv 5) (fz Yz (l ())<|bz Kf<|pv 10)<|Kt Ta (by rfl) G.Zf boot_str<|az<|pv 11) (Kx<|Kg Nc)
   Si)<|SX (Bb<|Bh<|P2 5<|tz (P0<|tz Ke<|XF 10)<|Ti<|sz<|XF 11) (FU Na) NP)<|b1<|sF 4<|sF 2<|se (Kg<|Ar (PK BM (pv 11) (fz Y5 (l ())<|bz (pv 2)<|pv 8)<|Po _)<|FL<|fz W6 (l ())<|dz (pv 5) (pv 2)<|pv 4)<|Zll<|Zon (BJ (XF 11)<|P0<|tz (XF 2)<|XF 8)<|P2 5<|tz (XF 2)<|XF 4)) (.a ?_)
 ·rintro ds R X ⟨N,rfl,hR⟩;refine⟨rfl,N,0,rfl,by decide,λc0=>⟨c0,rfl,λm hM=>?_⟩⟩;refine⟨N,0,rfl,by decide,λa0=>⟨⟨by decide,by decide⟩,(show(0:Int)<41 by decide),N,m,_,rfl,hM,by lia,by lia,λf u hlen=>?_⟩⟩;have Y:f.length<=40:=by lia
  have hh:=Pp f;have nd:(XJ f).Nodup:=(Tv f).imp (λh=>Vs h);refine⟨f,rfl,by lia,?_⟩;refine⟨N,m,rfl,hM,λws0 M=>⟨ws0,XJ f,rfl,by have:=M.1;lia,by lia,λW B E=>?_⟩⟩;have H:Pt W:=⟨by have:=B.length_le;have:=M.1;lia,M.2.1.sublist B,λq hq=>M.2.2 q (B.subset hq)⟩;have hu:∀q∈W,q.1≠q.2:=λq hq=>(H.2.2 q hq).2;have hN:¬ ∃r,Ring (XJ f) W r:=(Zer hu).mp E;have l20:=H.1;clear E B;refine⟨rfl,λx=>⟨x,f,rfl,rfl,by lia,?_⟩⟩;rw[Zoz u Y];refine λb1 U T=>⟨rfl,?_⟩;have lW:(W.map prD).length=W.length:=W9 ..;refine⟨⟨by lia,by lia⟩,Sx (λi p=>∃(bk:List (Str×Yf)) (fs C:List (Ye)),p=[some (.bor<|.scr N),some (.own<|m.map D.int),some (.own<|f.map prD),some (.own ((XJ f).map D.int)),some (.own<|W.map prD),some (.own<|vO (ExcR.XQ mg "Village") x b1 U T bk (fs++[f]) (C++[W.take i])),none,none,none,none,none,none]/\bk.length=i/\fs.length=i/\C.length=i) ⟨[],[],[],rfl,rfl,rfl,rfl⟩ ?_ ?_⟩
  ·rintro i p hi ⟨bk,fs,C,rfl,k1,k2,k3⟩;have hi:i<W.length:=by have:i<(((W.map prD).length:Nat):Int).toNat:=hi;lia
   have ha:atI (W.map prD) (0+(i:Int))=some (prD W[i]):=by rw[show(0:Int)+(i:Int)=(i:Int) by lia];exact Zko hi
   have hb:=(H.2.2 W[i] (WU hi)).1;have hWt:Pt (W.take i):=⟨by rw[WW];lia,H.2.1.sublist (VC _ _),λq hq=>H.2.2 q (V0 hq)⟩
   have hn2:∀n∈[W[i].1,W[i].2],0<=n/\n<=9999:=λn J=>by
    simp only[WL,V1,or_false]at J;rcases J with rfl|rfl<;>lia
   have J:(0+(i:Int)+1).natAbs<=10 ^ 30:=WQ (show _<=1001 by lia) (by decide);have Q:=(HS J).2;have hs:(1000:Nat)<=sizeLine:=by decide
   refine⟨_,ha, "wish",[W[i].1,W[i].2],⟨_,rfl,.inr rfl⟩,by decide +kernel,hn2,(show 2<=60 by decide),Be J,?_,?_⟩
   ·show("done " : Str).length+(nS (0+(i:Int)+1)).length<=sizeLine;rw[show("done " : Str).length=5 by decide +kernel];lia
   refine⟨x,b1,U,T,bk,fs,C,f,W.take i, "wish",[W[i].1,W[i].2],("done " : Str)++nS (0+(i:Int)+1),rfl,rfl,hn2,(show 2<=60 by decide),by lia,by lia,by lia,u,Y,hWt,.inl ⟨rfl,W[i].1,W[i].2,rfl,?_,?_,?_⟩⟩
   ·unfold Br;rw[WI (by lia),Znd H hi]
   ·rw[k1,show(i:Int)+1=0+(i:Int)+1 by lia]
   refine Kn ⟨bk++[(("wish" : Str),[W[i].1,W[i].2])],fs++[f],C++[W.take i],?_,by simp[k1],by simp[k2],by simp[k3]⟩;rw[WS hi];rfl
  rintro p ⟨bk,fs,C,rfl,k1,k2,k3⟩;have k0:(((W.map prD).length:Nat):Int).toNat=W.length:=by lia
  rw[k0]at k1 k2 k3 ⊢;rw[Qy];have e1:("order" : Str)=Str.join spc ("order" :: ([]:Yf).map nS):=by decide +kernel
  refine⟨x,b1,U,T,bk,fs,C,f,W, "order",[],rfl,Qs (λz=>[Pu.S.sh (.str z)]) e1,by simp,by simp,by lia,by lia,by lia,u,Y,H,.inr ⟨hN,.inr (.inr<|.inl ⟨rfl,rfl,λo hB=>?_⟩)⟩⟩;have hol:o.length<=10:=by rw[hB.perm.length_eq];exact hh
  have ho1:∀n∈o,1<=n/\n<=10:=λn J=>by
   obtain⟨q,hq,rfl⟩:=WO.mp ((NM u).mp (hB.perm.mem_iff.mp J))
   have:=u q hq
   lia
  refine⟨true,.same _,Kn ⟨o,10,rfl,ho1,by decide,by decide,by lia,?_⟩⟩;have hin:=B3 u hB.perm;refine AK (λp=>p=[some (.bor<|.scr N),some (.own<|m.map D.int),some (.sh<|plD f),some (.own ((XJ f).map D.int)),some (.sh<|plD W),some (.own<|vO (ExcR.XQ mg "Village") x b1 U T bk (fs++[f]) (C++[W])),none,some (.sh<|.str<|Py o),some (.sh<|.lst<|o.map D.int),none,none,none]) ?_ ?_
  ·refine⟨o,rfl,by lia,λss hp hs'=>?_⟩;obtain rfl:=Hm hB.perm hp hs';exact⟨XJ f,XJ f,rfl,rfl,OW rfl ⟨x,b1,U,T,bk,fs,C,f,W,o,rfl,rfl,by lia,by lia,by lia,u,Y,H,hN,hB,rfl⟩⟩
  rintro p rfl;refine Ki (xs:=W) (emb:=prD) (λq=>if (decide (q.1∈XJ f)&&decide (q.2∈XJ f))=true then some (prD q)else none) (by lia) (λq _=>?_) ?_
  ·refine⟨_,N9 _ _,_,.li _ _,XU (λh1=>⟨_,Gw _ _ (.inr rfl),_,.li _ _,XU (λQ=>⟨_,rfl,WK ?_⟩) (λQ=>WI λz=>Q ?_)⟩) (λh1=>Kn (WI λz=>h1 ?_))⟩
   ·rw[Qb];exact⟨h1,Q⟩
   ·rw[Qb]at z;exact z.2
   ·rw[Qb]at z;exact z.1
  rw[Pf (λq:Int×Int=>decide (q.1∈XJ f)&&decide (q.2∈XJ f))];have L:(W.filter λq:Int×Int=>decide (q.1∈XJ f)&&decide (q.2∈XJ f)).Sublist W:=VX;have hcl:=L.length_le;refine⟨N,rfl,λsp=>⟨XJ f,_,sp,rfl,nd,by lia,by lia,λq hq=>hu q (L.subset hq),λ⟨r,R⟩=>hN ⟨r,R.two,R.nodup,R.sub,λi x y h1 Q=>L.subset (R.chain i x y h1 Q),λx y h1 Q=>L.subset (R.last x y h1 Q)⟩,λA s hkn=>?_⟩⟩
  have hkn':Keeps W A:=hkn.imp_of_mem λ{a b} ha hb h hw=>h (Qi.mpr ⟨hw,by
   rw[WH (s.mem_iff.mp hb),WH (s.mem_iff.mp ha)];rfl⟩)
  have hle:KL f o f.length<=KL f A f.length:=by
   rw[←Ab u hB.perm,←Ab u s];exact hB.le A s hkn'
  have epm:K6 f f.length A=KL f A f.length:=(Bp f A).symm.trans (Ab u s);have hnl:A.length<=10:=by rw[s.length_eq];exact hh
  have ob:=Av u Y hnl
  have hn9:∀n∈A,0<=n/\n<=9999:=λn J=>by
   obtain⟨q,hq,rfl⟩:=WO.mp ((NM u).mp (s.mem_iff.mp J))
   have:=u q hq
   lia
  refine AK (λp=>∃s9,p=[some (.bor<|.scr N),some (.own<|m.map D.int),some (.sh<|plD f),some (.own ((XJ f).map D.int)),some (.sh<|plD W),some (.own<|vO (ExcR.XQ mg "Village") x b1 U T bk (fs++[f]) (C++[W])),none,some (.sh<|.str<|Py o),some (.sh<|.lst<|o.map D.int),s9,some (.own<|A.map D.int),some (.sh<|.int<|KL f A f.length)]) ?_ ?_
  ·exact⟨f,A,rfl,u,by lia,B3 u s,_,rfl⟩
  rintro p ⟨s9,rfl⟩;refine⟨"price",A,⟨_,rfl,.inl rfl⟩,by decide +kernel,hn9,by lia,FN (by rw[←epm];exact ob),x,b1,U,T,bk,fs,C,f,W, "price",A,nS (KL f A f.length),rfl,rfl,hn9,by lia,by lia,by lia,by lia,u,Y,H,.inr ⟨hN,.inr (.inr<|.inr<|.inr<|.inr<|.inl ⟨rfl,s,by rw[epm],?_⟩)⟩⟩;refine Kn ⟨f,o,rfl,u,by lia,hin,?_⟩;exact XU (λ_=>⟨x,b1,U,T,bk,fs,C,f,W,rfl,rfl,by lia,by lia,by lia,u,Y,H,hN,hR⟩) λg=>absurd (WH hle) g
end
end T
namespace T
open L2 Own M
def Zha{l:PySem.W.OpenLaw}{w:World}{K:Yd}{h:Heap}{f:Yh}{fa:Addr}(X:K.In h)(b:h.Ns mainGlobals f)(hfa:f "law"=some (.ref fa)){g:Addr}(U1:PySem.W.nsIn K mainGlobals "Village"=some (some<|.ref g))(U3:PySem.W.plainGet K g Str.empty=true)(U4:PySem.W.hasDictIn K g=true)(U5:PySem.W.plainOver K g=true)(U6:PySem.W.findIn K (.ref g) "__setattr__"=some (some<|.builtin "object.__setattr__"))(U7:PySem.W.makesIn K g=true)(U8:PySem.W.keepIn K (.ref g)=true)(U9:PySem.W.findIn K (.ref g) "book"=some none)(UA:PySem.W.findIn K (.ref g) "fields"=some none)(UB:PySem.W.findIn K (.ref g) "wished"=some none)(a1:Pu.DI K "check_holder" Ea)(a2:Pu.DI K "check_width" Cj)(a3:Pu.DI K "check_strips" Ed)(a4:Pu.DI K "holders_of" AF)(a5:Pu.DI K "check_order" Dl)(a6:Pu.DI K "pair_cost" Gd)(a7:Pu.DI K "order_cost" Dc)(a8:Pu.DI K "own_numbers" EC)(a9:Pu.DI K "exchange_cost" CN)(a10:Pu.DI K "exchanged" DJ)(a11:Pu.DI K "first_wrong_place" Do)(a12:Pu.DI K "told_moves" DO)(a13:Pu.DI K "broken_wishes" Ga)(a14:Pu.DI K "longer_paths" Eb)(a15:Pu.DI K "ring_from" Da)(a16:Pu.DI K "find_ring" Dr)(a17:Pu.DI K "check_no_ring" Cf)(a18:Pu.DI K "with_wish" AB)(a19:Pu.DI K "pair_costs" AE)(a20:Pu.DI K "sets_of" Dk)(a21:Pu.DI K "without" AS)(a22:Pu.DI K "may_lie_last" Cy)(a23:Pu.DI K "may_lie_first" Dj)(a24:Pu.DI K "cost_with_last" CV)(a25:Pu.DI K "cost_with_first" D6)(a26:Pu.DI K "least_costs" Cr)(a27:Pu.DI K "cost_table" D2)(a28:Pu.DI K "best_order" Ck)(a29:Pu.DI K "least_cost" EA)(a30:Pu.MI K g "__init__" "Village.__init__" A9)(a31:Pu.MI K g "strips" "Village.strips" AV)(a32:Pu.MI K g "wishes" "Village.wishes" EY)(a33:Pu.MI K g "check_room" "Village.check_room" CD)(a34:Pu.MI K g "enter" "Village.enter" CU)(a35:Pu.MI K g "wish" "Village.wish" Dx)(a36:Pu.MI K g "order" "Village.order" Dz)(a37:Pu.MI K g "cost" "Village.cost" Ew)(a38:Pu.MI K g "moves" "Village.moves" DE)(a39:Pu.MI K g "price" "Village.price" En)(a40:Pu.MI K g "broken" "Village.broken" AZ)(a41:Pu.DI K "is_number" DC)(a42:Pu.DI K "is_row" DS)(a43:Pu.DI K "told_texts" CC)(a44:Pu.DI K "told_numbers" El)(a45:Pu.DI K "told_strips" EZ)(a46:Pu.DI K "told_wishes" Gg)(a47:Pu.DI K "do_deed" ET)(a48:Pu.DI K "told_question" EX)(a49:Pu.DI K "told_row" AW)(a50:Pu.DI K "told_or_refused" AR)(a51:Pu.DI K "answer" DT)(a52:Pu.DI K "_law_at" Ek)(a53:Pu.DI K "_law_mix" Cb)(a54:Pu.DI K "_law_draw" DG)(a55:Pu.DI K "_law_spare" EK)(a56:Pu.DI K "_law_menu" A1)(a57:Pu.DI K "_law_holder" Cw)(a58:Pu.DI K "_law_strips" DR)(a59:Pu.DI K "_law_wishes" AA)(a60:Pu.DI K "_law_present" Cz)(a61:Pu.DI K "_law_price" DP)(a62:Pu.DI K "_law_kept" Dp)(a63:Pu.DI K "_law_no_ring" E4)(a64:Pu.DI K "_law_lined" AL)(a65:Pu.DI K "_law_ends" DX)(a66:Pu.DI K "_law_keepable" E5)(a67:Pu.DI K "_law_read" Eo)(a68:Pu.DI K "_law_places_lead" Gb)(a69:Pu.DI K "_law_says" EE)(a70:Pu.DI K "_law_named" EG)(a71:Pu.DI K "_law_stand_told" Ct)(a72:Pu.DI K "_law_way_told" Cq){B:Addr}{T A:Yq}{Q:Array (Yp)}{U u x r p y:Value}(a73:PySem.W.nsIn K mainGlobals "law"=some (some<|.ref B))(l73:K.lookup B=some ⟨U,T,.func (PySem.W.fnOf "law" "law" (P5 TQ) (Km TQ) (XH TQ) .none u x r A p y),Q⟩)(c73:PySem.W.codeIn K p "law"=true)(k73:PySem.W.keepIn K (.ref B)=true)(UC:PySem.W.nsIn K mainGlobals "all"=some none)(UD:PySem.W.nsIn K mainGlobals "any"=some none)(UE:PySem.W.nsIn K mainGlobals "enumerate"=some none)(UF:PySem.W.nsIn K mainGlobals "int"=some none)(UG:PySem.W.nsIn K mainGlobals "isinstance"=some none)(UH:PySem.W.nsIn K mainGlobals "len"=some none)(UI:PySem.W.nsIn K mainGlobals "list"=some none)(UJ:PySem.W.nsIn K mainGlobals "max"=some none)(UK:PySem.W.nsIn K mainGlobals "min"=some none)(UL:PySem.W.nsIn K mainGlobals "range"=some none)(UM:PySem.W.nsIn K mainGlobals "set"=some none)(UN:PySem.W.nsIn K mainGlobals "sorted"=some none)(UO:PySem.W.nsIn K mainGlobals "str"=some none)(UP:PySem.W.nsIn K mainGlobals "sum"=some none)(UQ:PySem.W.nsIn K mainGlobals "tuple"=some none){Xr:Tok}(UR:PySem.W.nsIn K mainGlobals "HOLDERS"=some (some<|.int 10 Xr)){Xs:Tok}(US:PySem.W.nsIn K mainGlobals "STRIPS"=some (some<|.int 40 Xs)){Xt:Tok}(UT:PySem.W.nsIn K mainGlobals "WIDEST"=some (some<|.int 1000 Xt)){Xu:Tok}(UU:PySem.W.nsIn K mainGlobals "MOST_WISHES"=some (some<|.int 20 Xu)){Xv:Tok}(UV:PySem.W.nsIn K mainGlobals "MOST_DEEDS"=some (some<|.int 100 Xv)){Xw:Tok}(UW:PySem.W.nsIn K mainGlobals "FIGURES"=some (some<|.str "0123456789" Xw)){Xx:Tok}(UX:PySem.W.nsIn K mainGlobals "MOST_FIGURES"=some (some<|.int 4 Xx)){d_DEEDS:Addr}{es_DEEDS:Array DictEntry}{n_DEEDS:Nat}(UY:PySem.W.nsIn K mainGlobals "DEEDS"=some (some<|.ref d_DEEDS))(zm_DEEDS:(d_DEEDS==sysModules)=false)(zl_DEEDS:K.lookup d_DEEDS=some ⟨.type "dict",none,.dict es_DEEDS n_DEEDS,#[]⟩)(ze_DEEDS:Own.Lits w.params es_DEEDS.toList [("sell",2),("part",2),("unite",1),("wish",2),("drop",2)]){d_OTHERS:Addr}{es_OTHERS:Array DictEntry}{n_OTHERS:Nat}(UZ:PySem.W.nsIn K mainGlobals "OTHERS"=some (some<|.ref d_OTHERS))(zm_OTHERS:(d_OTHERS==sysModules)=false)(zl_OTHERS:K.lookup d_OTHERS=some ⟨.type "dict",none,.dict es_OTHERS n_OTHERS,#[]⟩)(ze_OTHERS:Own.Lits w.params es_OTHERS.toList [("back",0),("field",0),("wishes",0),("stood",1),("ring",0),("order",0),("cost",0),("moves",0),("offer",2)]){d_ORDERS:Addr}{dd_ORDERS:Yq}{sl_ORDERS:Array (Yp)}{es_ORDERS:Yr}{n_ORDERS:Nat}(Xa:PySem.W.nsIn K mainGlobals "ORDERS"=some (some<|.ref d_ORDERS))(zl_ORDERS:K.lookup d_ORDERS=some ⟨.type "tuple",dd_ORDERS,.seq es_ORDERS n_ORDERS,sl_ORDERS⟩)(zm_ORDERS:es_ORDERS.size<=sizeLine)(ze_ORDERS:Vals ((["price","broken"]:Ym).map V.str) es_ORDERS.toList){Xd:Addr}(Uj:Pu.EI K "TooManyStrips" Xd){Xe:Addr}(Uk:Pu.EI K "BadHolder" Xe){Xy:Addr}(U2:Pu.EI K "BadWidth" Xy){Xf:Addr}(Ul:Pu.EI K "NoStrip" Xf){Xb:Addr}(Um:Pu.EI K "BadOrder" Xb){Xg:Addr}(Uo:Pu.EI K "OwnStrip" Xg){Xh:Addr}(Up:Pu.EI K "BadPart" Xh){Xi:Addr}(Uq:Pu.EI K "UnlikeHolders" Xi){Xj:Addr}(Ur:Pu.EI K "TooWide" Xj){Xk:Addr}(Us:Pu.EI K "LikeHolders" Xk){Xl:Addr}(Ut:Pu.EI K "WishStands" Xl){Xm:Addr}(Uu:Pu.EI K "TooManyWishes" Xm){Xn:Addr}(Uv:Pu.EI K "NoWish" Xn){Xo:Addr}(Uw:Pu.EI K "BookFull" Xo){Xp:Addr}(Ux:Pu.EI K "NothingDone" Xp){Xq:Addr}(Uy:Pu.EI K "NoSuchDeed" Xq){Y:Addr}(Ui:Pu.RI K "Ringed" Y "Ringed.__init__" Gj)(x_Ringed:PySem.W.exmOne K (.ref Y) (.ref Y)=some true)(x_all:Pu.Zaf K [("Ringed",Y),("BadOrder",Xb)] [("TooManyStrips",Xd),("BadHolder",Xe),("NoStrip",Xf),("OwnStrip",Xg),("BadPart",Xh),("UnlikeHolders",Xi),("TooWide",Xj),("LikeHolders",Xk),("WishStands",Xl),("TooManyWishes",Xm),("NoWish",Xn),("BookFull",Xo),("NothingDone",Xp),("NoSuchDeed",Xq),("BadOrder",Xb),("Ringed",Y)]=true)
  : ∃fd:FuncData,(∀(s:Shared) (v:Value),BindsTo s fd ⟨[v],[]⟩ [("_law_script",v)])/\∀base:Heap,K.In base->base.Ns mainGlobals f->KU l.prog w K f base CX0 14 fa fd ["_law_script"] (Pu.A2 K):=by
 have e:=hfa.symm.trans (Qx X b a73);cases e
 have Xz:=Uj.c X b;have X0:=Uk.c X b;have X1:=Ul.c X b;have X2:=Um.c X b;have X3:=Uo.c X b;have X4:=Up.c X b;have X5:=Uq.c X b;have X6:=Ur.c X b;have X7:=Us.c X b;have X8:=Ut.c X b;have X9:=Uu.c X b;have XA:=Uv.c X b;have XB:=Uw.c X b;have XC:=Ux.c X b;have XD:=Uy.c X b;have Xc:=Ui.c X b;have n:=ExcR.AQ (Qx X b U1);have G:Glob w K f:=⟨Qv X b UC,Qv X b UD,Qv X b UE,Qv X b UF,Qv X b UG,Qv X b UH,Qv X b UI,Qv X b UJ,Qv X b UK,Qv X b UL,Qv X b UM,Qv X b UN,Qv X b UO,Qv X b UP,Qv X b UQ,⟨_,Qx X b UR,⟨_,rfl⟩⟩,⟨_,Qx X b US,⟨_,rfl⟩⟩,⟨_,Qx X b UT,⟨_,rfl⟩⟩,⟨_,Qx X b UU,⟨_,rfl⟩⟩,⟨_,Qx X b UV,⟨_,rfl⟩⟩,⟨_,Qx X b UW,⟨_,rfl⟩⟩,⟨_,Qx X b UX,⟨_,rfl⟩⟩,⟨⟨_,_,_,Qx X b UY,zm_DEEDS,zl_DEEDS,ze_DEEDS⟩⟩,⟨⟨_,_,_,Qx X b UZ,zm_OTHERS,zl_OTHERS,ze_OTHERS⟩⟩,⟨⟨_,_,_,_,_,Qx X b Xa,zl_ORDERS,zm_ORDERS,ze_ORDERS⟩⟩,(Uj.m X b),(Uj.k X b),(Uk.m X b),(Uk.k X b),(U2.m X b),(U2.k X b),(Ul.m X b),(Ul.k X b),(Um.m X b),(Um.k X b),(Uo.m X b),(Uo.k X b),(Up.m X b),(Up.k X b),(Uq.m X b),(Uq.k X b),(Ur.m X b),(Ur.k X b),(Us.m X b),(Us.k X b),(Ut.m X b),(Ut.k X b),(Uu.m X b),(Uu.k X b),(Uv.m X b),(Uv.k X b),(Uw.m X b),(Uw.k X b),(Ux.m X b),(Ux.k X b),(Uy.m X b),(Uy.k X b),(Ui.m X b),(Ui.i X b),(by rw[Xc];exact x_Ringed),(by rw[←Xc,←X2,←Xz,←X0,←X1,←X3,←X4,←X5,←X6,←X7,←X8,←X9,←XA,←XB,←XC,←XD]at x_all;exact Pu.Zir x_all),(by rw[n];exact Qx X b U1),(by rw[n];exact⟨U3,U4,U5,U6⟩),(by rw[n];exact U9),(by rw[n];exact UA),(by rw[n];exact UB)⟩;have C:=F4 (st:=TQ) l73 c73 k73;have b73:=C.binds (ps:=["_law_script"]) λ_ _ _ _ _ _ us hl=>by obtain⟨_,rfl⟩:=Pu.Fq hl;rfl
 have D73:Def K f "law" TQ ["_law_script"]:=⟨_,_,C,Qx X b a73,b73⟩;refine⟨PySem.W.fnOf "law" "law" (P5 TQ) (Km TQ) (XH TQ) .none u x r A p y,λs v=>.of_eq rfl,λbase _ _=>?_⟩;have C0:=@Zok l.prog w K f base G (Ui.j Xc);have C1:=@Zh3 l.prog w K f base ⟨⟩ G (a1.e X b);have C2:=@Zrh l.prog w K f base ⟨⟩ G (a2.e X b);have C4:=@Zgg l.prog w K f base G (a4.e X b);have C6:=@Zdy l.prog w K f base ⟨⟩ (a6.e X b);have C8:=@Zmm l.prog w K f base ⟨⟩ G (a8.e X b);have C9:=@Zpr l.prog w K f base ⟨⟩ (a9.e X b);have C10:=@Zfw l.prog w K f base ⟨⟩ (a10.e X b);have C11:=@Zd7 l.prog w K f base ⟨⟩ G (a11.e X b);have C13:=@Zmb l.prog w K f base ⟨⟩ G (a13.e X b);have C14:=@Zmo l.prog w K f base ⟨⟩ (a14.e X b);have C20:=@Zhd l.prog w K f base ⟨⟩ (a20.e X b);have N:=@Zgu l.prog w K f base ⟨⟩ G (a21.e X b);have C22:=@Zf2 l.prog w K f base ⟨⟩ G (a22.e X b);have C23:=@Zky l.prog w K f base ⟨⟩ G (a23.e X b);have o:=@Zij l.prog w K f base ⟨⟩ G (a31.e n);have q:=@Zp1 l.prog w K f base ⟨⟩ G (a32.e n);have C33:=@Ziu l.prog w K f base ⟨⟩ G (a33.e n);have C34:=@Ze9 l.prog w K f base ⟨⟩ G (a34.e n);have C41:=@Zdv l.prog w K f base ⟨⟩ G (a41.e X b);have M:=@Zk0 l.prog w K f base ⟨⟩ (a43.e X b);have J:=@Zeu l.prog w K f base ⟨⟩ G (a52.e X b);have C53:=@Zpz l.prog w K f base ⟨⟩ (a53.e X b);have C56:=@Zkf l.prog w K f base ⟨⟩ (a56.e X b);have C57:=@Zmd l.prog w K f base ⟨⟩ (a57.e X b);have C60:=@Zmx l.prog w K f base ⟨⟩ G (a60.e X b);have C61:=@Zck l.prog w K f base ⟨⟩ G (a61.e X b);have C62:=@Zjf l.prog w K f base ⟨⟩ (a62.e X b);have C63:=@Zbz l.prog w K f base ⟨⟩ G (a63.e X b);have C64:=@Zri l.prog w K f base ⟨⟩ G (a64.e X b);have C65:=@Zcn l.prog w K f base ⟨⟩ G (a65.e X b);have C67:=@Zqi l.prog w K f base ⟨⟩ G (a67.e X b);have C70:=@Zhj l.prog w K f base ⟨⟩ G (a70.e X b);have C3:=Zju ⟨⟩ G C1 C2 (a3.e X b);have C5:=Zdp ⟨⟩ G (Fe C4) (a5.e X b);have C15:=Zov ⟨⟩ G C14 (a15.e X b);have C18:=Zcj ⟨⟩ G C1 (a18.e X b);have C19:=Zgn ⟨⟩ (Fe C4) C6 (a19.e X b);have C24:=Zdz ⟨⟩ G N (a24.e X b);have C25:=Zjg ⟨⟩ G N (a25.e X b);have C42:=Znz ⟨⟩ G C41 (a42.e X b);have C44:=Znv ⟨⟩ G M (a44.e X b);have C45:=Zco ⟨⟩ M (a45.e X b);have C46:=Zj3 ⟨⟩ M (a46.e X b);have H:=Zl6 ⟨⟩ J C53 (a54.e X b);have C55:=Zhs ⟨⟩ J C53 (a55.e X b);have C66:=Zdj ⟨⟩ C63 (a66.e X b);have C68:=Zpn ⟨⟩ G C65 (a68.e X b);have C7:=Zej ⟨⟩ G C6 C5 (a7.e X b);have C12:=Zbj ⟨⟩ C8 C9 C10 C11 C5 (a12.e X b);have C16:=Zhy ⟨⟩ G C15 (a16.e X b);have C26:=Zk8 ⟨⟩ G (Fe C4) C20 C22 C24 (a26.e X b);have C30:=Zfe ⟨⟩ G C3 (a30.j n U7 U8);have C35:=Zjd ⟨⟩ G o q C33 C34 C18 (a35.e n);have C40:=Zmg ⟨⟩ G C13 o q C5 (a40.e n);have C58:=Zlh ⟨⟩ G C57 H (a58.e X b);have C59:=Zmz ⟨⟩ G C57 H (a59.e X b);have C17:=Zfy ⟨⟩ G C0 (Fe C4) C16 (a17.e X b);have C39:=Ziz ⟨⟩ G o C7 (a39.e n);have C47:=Zht ⟨⟩ G C35 (a47.e X b);have C27:=Zkb ⟨⟩ G C19 C26 C17 (a27.e X b);have C28:=Zen ⟨⟩ G (Fe C4) N C23 C19 C25 C26 C17 (a28.e X b);have C29:=Zib ⟨⟩ C27 (a29.e X b);have C36:=Zle ⟨⟩ G o q C28 (a36.e n);have C37:=Zek ⟨⟩ G o q C29 (a37.e n);have C38:=Zre ⟨⟩ G o C12 C36 (a38.e n);have C48:=Ze7 ⟨⟩ G o q C44 C45 C46 C40 C39 C36 C37 C38 (a48.e X b);have C49:=Zqg ⟨⟩ G C47 C48 (a49.e X b);have C50:=Zpo ⟨⟩ G C49 (a50.e X b);have L:=Zl4 ⟨⟩ G C42 C50 (a51.e X b);have E:=Zn3 ⟨⟩ G L (a69.e X b);have C71:=Zox ⟨⟩ G E (a71.e X b);have C72:=Zoa ⟨⟩ G C61 C62 C67 C70 C68 L E (a72.e X b);have C73:=Znw ⟨⟩ G J C56 C60 C61 C64 C67 C70 H C55 C66 C30 C58 C59 L E C71 C72 D73;exact(C73.at (Qx X b a73) C D73).imp λ_ _ _ _ z=>Pu.Zcl z
end T
namespace PySem.W.Fast
def I:True:=⟨⟩
def tw17141204864954195194:=I
def tw2809412384983695424:=I
def tw14786640302025293920:=I
def tw2932026506930863264:=I
def tw17858936976942120096:=I
def tw14963752460904719520:=I
def tw14515400223143462080:=I
def tw2832404526411574496:=I
def tw2334868923199697184:=I
def tw14122958524663842080:=I
def tw15671683329723478400:=I
def tw14032782194709872000:=I
def tw918743729043588480:=I
def tw7087574420204059008:=I
def tw14867098267972031904:=I
def tw8783518409781719488:=I
def tw15026015038176481760:=I
def tw13267038584316973696:=I
def tw1842217304679441024:=I
def tw16415167802804128416:=I
def tw15207894735092384:=I
def tw12820134059650184992:=I
def tw11923763915278953312:=I
def tw8482911477831122784:=I
def tw6360996130534346624:=I
def tw16139379759262866368:=I
def tw13644060445187232704:=I
def tw11879647172386707392:=I
def tw10811692034281212896:=I
def tw14534384772233533408:=I
def tw12973748957117970400:=I
def tw9755252954907109409:=I
def tw14293207035154054209:=I
def tw889594376519546977:=I
def tw8925479659760594049:=I
def tw5796677742915418241:=I
def tw2464807549776443553:=I
def tw11947103755810151777:=I
def tw12606033794321066337:=I
def tw3971843507038542177:=I
def tw3741070189592868225:=I
def tw8678859364977444257:=I
def tw13050197652517100961:=I
def tw9172732607244599745:=I
def tw13656702397517939137:=I
def tw9838282699459843521:=I
def tw17751072681429664225:=I
def tw9929400260196468193:=I
def tw8812935348709474817:=I
def tw11104473283661979137:=I
def tw6812966215976937985:=I
def tw720743049354210817:=I
def tw15042316032757735041:=I
def tw2825424248613463681:=I
def tw10645711155409196737:=I
def tw5457338683074919105:=I
def tw16238078963989468865:=I
def tw5999315574711946977:=I
def tw10749119387902176993:=I
def tw9773694972013376257:=I
def tw14574812636996706081:=I
def tw9504110449174401825:=I
def tw6602671269553618753:=I
def tw9474679366240324449:=I
def tw10153902152977647521:=I
def tw6526771399952949153:=I
def tw8861292341240735681:=I
def tw1604294901653200898:=I
def tw3018782759865027618:=I
def tw16692336492218846274:=I
def tw14730016950387517506:=I
def tw10006410093588677794:=I
def tw8889441657989547202:=I
def tw10779510599481693474:=I
def tw4053064745300340098:=I
def tw579609882077282690:=I
def tw14732502981757145538:=I
def tw976253233931181506:=I
def tw2107601724964726210:=I
def tw4872437483667090946:=I
def tw237736602801174082:=I
def tw9261924310148615778:=I
def tw1769558832354488930:=I
def tw8754694878328969858:=I
def tw14596532664200593026:=I
def tw16651853067399460578:=I
def tw10612171455559495554:=I
def tw15196294099290304450:=I
def tw933791820874934210:=I
def tw186962411827200994:=I
def tw11187279942948441091:=I
def tw1042839571462017059:=I
def tw7199481074436296771:=I
def tw4320565831068559491:=I
def tw10986522481615979651:=I
def tw7542156674453523619:=I
def tw17208806145759091907:=I
def tw1730567636328745347:=I
def tw15230502362626997635:=I
def tw10149684553145514403:=I
def tw4854582610556792259:=I
def tw17792119283042846179:=I
def tw6818864774233443811:=I
def tw3204208116962779779:=I
def tw4446619572775190147:=I
def tw337077649444243139:=I
def tw48373536807512771:=I
def tw12889809040201837251:=I
def tw1059553211316288227:=I
def tw14188272523144492771:=I
def tw12712150854172472099:=I
def tw469897927798548323:=I
def tw3392882346902508419:=I
def tw962002383757080483:=I
def tw11723566549296678851:=I
def tw3269817874305871876:=I
def tw17940552776073637924:=I
def tw10187857453017330724:=I
def tw17665704948341533764:=I
def tw11629481133354885220:=I
def tw3080230559890331748:=I
def tw16292869137856170148:=I
def tw275418260142321860:=I
def tw8609730728628133092:=I
def tw14270360044962721092:=I
def tw16787113262404233572:=I
def tw8767652961883627908:=I
def tw13693393182407349668:=I
def tw5196748951803775460:=I
def tw18328889456096925156:=I
def tw6173441307465874948:=I
def tw8789082529531962980:=I
def tw18323296468610921060:=I
def tw1798520696412029540:=I
def tw9681781667640728196:=I
def tw6536572996924336772:=I
def tw14758675342409862852:=I
def tw6038568403360624356:=I
def tw2062992504056079076:=I
def tw12404537901232087812:=I
def tw11766503625580056356:=I
def tw4406821646114241348:=I
def tw7473106926235369284:=I
def tw17394915574604577668:=I
def tw16618629105310818180:=I
def tw13999972868771635076:=I
def tw8066535171551952804:=I
def tw1434119155541963716:=I
def tw852737038519127012:=I
def tw4658333978453173253:=I
def tw9244575968459657317:=I
def tw7378447722142924933:=I
def tw12127317716341818501:=I
def tw2328769402346072197:=I
def tw280390438726834405:=I
def tw7464763911343630597:=I
def tw9898238745069354245:=I
def tw13251114549331134757:=I
def tw18222406602219780421:=I
def tw6507945724160915813:=I
def tw124604210487725509:=I
def tw773986735415104965:=I
def tw12822704556728163781:=I
def tw16537832283103627749:=I
def tw6031262400056224229:=I
def tw17906335215157566981:=I
def tw8573646080527028773:=I
def tw13389272533084327493:=I
def tw4486228081964937861:=I
def tw16034999814996302501:=I
def tw18354875059419043493:=I
def tw9369819720674165445:=I
def tw248582231677116133:=I
def tw9478984196614472421:=I
def tw12340093403414202117:=I
def tw1832318829469166437:=I
def tw1172891278503555973:=I
def tw17942570213926161285:=I
def tw10073961076490205061:=I
def tw15190826175590276005:=I
def tw16322346754442094501:=I
def tw15131705413162319813:=I
def tw2946007983412173797:=I
def tw14530230423185900582:=I
def tw17059630018817820742:=I
def tw1010355690629570630:=I
def tw13306283545215449190:=I
def tw6812433846118277222:=I
def tw13897141966619361414:=I
def tw5538742993960328358:=I
def tw234878913341845670:=I
def tw11149394952126368966:=I
def tw11443676910998131910:=I
def tw12989693854869934278:=I
def tw6600613779775283398:=I
def tw15478766176438810918:=I
def tw10037209221885740358:=I
def tw5413291809348699462:=I
def tw9669031870044461382:=I
def tw2564975220298578246:=I
def tw15442529959385278822:=I
def tw4631145581554740582:=I
def tw5632892583223237030:=I
def tw16464099113816826310:=I
def tw11692169911281411526:=I
def tw8005741655430128102:=I
def tw4127237794220488198:=I
def tw11286734039174471174:=I
def tw18155135052476673542:=I
def tw11426826520670701094:=I
def tw1355222520227948070:=I
def tw17330442040992082502:=I
def tw2497647668510475846:=I
def tw8226831595256896102:=I
def tw15218818442218980006:=I
def tw12633456199278373574:=I
def tw12241866863366956774:=I
def tw17515777688290850534:=I
def tw4460663577428558598:=I
def tw476700933326242598:=I
def tw9242558042643925798:=I
def tw10528724760952781638:=I
def tw3724085700539474758:=I
def tw4989896437643236198:=I
def tw4988195007794767718:=I
def tw4957334005592026982:=I
def tw4690234724250087270:=I
def tw9358735343299213190:=I
def tw8020626249702201222:=I
def tw4718492809528238982:=I
def tw13856582829005925254:=I
def tw13866768231244742:=I
def tw17234386560635161542:=I
def tw2303768832950720454:=I
def tw6216875481598911462:=I
def tw15624345916091661286:=I
def tw253553431553225735:=I
def tw12810490443224692743:=I
def tw15431114244203194407:=I
def tw10101063511483512871:=I
def tw10112586420564296775:=I
def tw13354930536265861191:=I
def tw3305945318553228391:=I
def tw14670892098771694727:=I
def tw500772521149753479:=I
def tw7188291958515379399:=I
def tw14402947866369408199:=I
def tw6370813770451737831:=I
def tw17386463073308242215:=I
def tw6196293838595062055:=I
def tw4598819511288317255:=I
def tw9933555773232012647:=I
def tw5058726098025519495:=I
def tw5930541402730929543:=I
def tw7999499277408630151:=I
def tw14860030238694720967:=I
def tw12222042401290380743:=I
def tw18041156039873870311:=I
def tw73567224279844327:=I
def tw10759726639771077127:=I
def tw4764355478017319463:=I
def tw4819258235359823431:=I
def tw11502336373380306599:=I
def tw9399666318452982567:=I
def tw296943747970768679:=I
def tw17371259666501346087:=I
def tw10596565446518121255:=I
def tw3103101941666268967:=I
def tw349323587618523015:=I
def tw12679871585882990503:=I
def tw6093262400632563655:=I
def tw1717360728167193575:=I
def tw14692643839272047656:=I
def tw5662485501379230824:=I
def tw13414938592839377064:=I
def tw9700359838411602088:=I
def tw7327380154554513576:=I
def tw16736380728924411080:=I
def tw1533730508140128456:=I
def tw11130506022356467912:=I
def tw18198543829092059336:=I
def tw17288231392508047560:=I
def tw2425260468965633320:=I
def tw1857654823072812360:=I
def tw14361613191250890120:=I
def tw4127643037888199080:=I
def tw7311544088389803432:=I
def tw8193979843766015464:=I
def tw12025256999278510600:=I
def tw12212676050129936904:=I
def tw4335771128211244584:=I
def tw8634201552982122056:=I
def tw4411701727230043720:=I
def tw13453018512777295432:=I
def tw8481100606925860424:=I
def tw17159325905642700392:=I
def tw3955410103011865224:=I
def tw11754901863167396552:=I
def tw7678268443406886600:=I
def tw12941728154622461672:=I
def tw16585682435281588968:=I
def tw780801961934740200:=I
def tw15796866050023200520:=I
def tw2557541163750760200:=I
def tw284993293180263176:=I
def tw3963637818705894152:=I
def tw4114000418724663176:=I
def tw12995302681007284104:=I
def tw16777407091099752360:=I
def tw1682522017841557448:=I
def tw17886226179671306184:=I
def tw978265335766589416:=I
def tw10777758910160721961:=I
def tw8924778495529313321:=I
def tw3925275102276282409:=I
def tw12152643050267942985:=I
def tw12075789228756897897:=I
def tw8433789567374072969:=I
def tw10751373143558235273:=I
def tw11852464812075601033:=I
def tw9458846039963337897:=I
def tw13892770895388011689:=I
def tw4812528478262345929:=I
def tw7946651308659145929:=I
def tw2902717283059414249:=I
def tw2429921991359854889:=I
def tw18206546913447425353:=I
def tw10976784606672930121:=I
def tw2133781997226185033:=I
def tw11082254944117034377:=I
def tw15332484606515102121:=I
def tw11568219640300323241:=I
def tw14385137680011173481:=I
def tw4514109013978989193:=I
def tw18255879382988029577:=I
def tw11263101416160923305:=I
def tw14830413082224968361:=I
def tw16304569004648875689:=I
def tw5009857190535704265:=I
def tw3783941357472598729:=I
def tw5770536801181520585:=I
def tw12589729549555229385:=I
def tw17910428134672625353:=I
def tw4746850922985875209:=I
def tw13894568463991873321:=I
def tw17711285091183451945:=I
def tw13743058332246371113:=I
def tw1263870497247344489:=I
def tw7882598347940783017:=I
def tw614137719737894857:=I
def tw3290185199619735562:=I
def tw8617267925040954570:=I
def tw12674450714515815722:=I
def tw1624198544609789258:=I
def tw1730625813598998890:=I
def tw10384394686573859210:=I
def tw7778368554889591210:=I
def tw11033151999337692586:=I
def tw15522641518403821002:=I
def tw13253088483123453386:=I
def tw12466789397295070730:=I
def tw300812775705326154:=I
def tw6210400352310351434:=I
def tw3118584028369400522:=I
def tw2367633444028680970:=I
def tw16098021198083086122:=I
def tw7952515655384706890:=I
def tw6790021508675623754:=I
def tw93686198951249802:=I
def tw5758226405877749674:=I
def tw15991055951202271210:=I
def tw13459294126671065099:=I
def tw11456381627272951819:=I
def tw6706222207152623659:=I
def tw15588219528579605547:=I
def tw7754774616773834859:=I
def tw10225253471095851179:=I
def tw7657895882691402923:=I
def tw16934274813417246923:=I
def tw2801476294636607723:=I
def tw1690888578241641707:=I
def tw4281450772430700811:=I
def tw7304644372644088107:=I
def tw1614098604471670059:=I
def tw6438968446956727595:=I
def tw4165905662632327467:=I
def tw14601899169799205195:=I
def tw9636962015109707083:=I
def tw9803924552372745547:=I
def tw15086414873973527947:=I
def tw2176016965118706059:=I
def tw6619837348620683659:=I
def tw7435319922700939659:=I
def tw16973727071037455755:=I
def tw4253075543035876843:=I
def tw14117513420323989099:=I
def tw5108853752138537611:=I
def tw4853928507688535691:=I
def tw7654589815232779915:=I
def tw11500467460549177003:=I
def tw8877309322796111627:=I
def tw12534437880064538411:=I
def tw771564556194003851:=I
def tw5072986328945366955:=I
def tw886722253900454859:=I
def tw11295796846875082731:=I
def tw2396216275442242572:=I
def tw661250511550716940:=I
def tw10039976061038601292:=I
def tw11992414113839705228:=I
def tw7407020913026992332:=I
def tw11340792499653851340:=I
def tw8909031758980437228:=I
def tw1537298762080432396:=I
def tw17020868371740984620:=I
def tw11024622875686450476:=I
def tw15221614466614274476:=I
def tw5112735844124408236:=I
def tw173579563439830476:=I
def tw14429324868469512652:=I
def tw9617241686897817068:=I
def tw12374950112907308556:=I
def tw337510498834958924:=I
def tw872868500073947756:=I
def tw5631081865301634764:=I
def tw15715473792135370540:=I
def tw3631097630139119500:=I
def tw170703140055964588:=I
def tw13052096548925552620:=I
def tw9271672245452116045:=I
def tw4873727075984614477:=I
def tw4639888824664716365:=I
def tw7900445451079296109:=I
def tw17774764880674763885:=I
def tw16065021057802236045:=I
def tw437076534037574829:=I
def tw6366123152137619693:=I
def tw10963453717666846957:=I
def tw4699571123840408845:=I
def tw15855030829373089069:=I
def tw27255455869590861:=I
def tw3481882419922068813:=I
def tw9620577557406346605:=I
def tw5762593812207434093:=I
def tw9707973034350485933:=I
def tw9713427816359534061:=I
def tw14391816778823072237:=I
def tw6441478198257143309:=I
def tw9696765065794703949:=I
def tw11929073448304046669:=I
def tw6601958528735923821:=I
def tw9159919509606226573:=I
def tw16220018832605544141:=I
def tw11432766010119319277:=I
def tw1876749854390455053:=I
def tw10069203907999894285:=I
def tw4835909625504012045:=I
def tw7629634217293935373:=I
def tw16509388999429695309:=I
def tw13505988957189978957:=I
def tw16096951157819363149:=I
def tw7541518613390635885:=I
def tw3102821501951246189:=I
def tw14643947821372517261:=I
def tw13710552471675498413:=I
def tw12635837762107021358:=I
def tw8971328970159217742:=I
def tw175623294949244014:=I
def tw10037041900280628430:=I
def tw5186432754442837230:=I
def tw4719847966993849582:=I
def tw8239029845800094990:=I
def tw15199250838157139310:=I
def tw1924941005177998702:=I
def tw13745639881172528526:=I
def tw12831246369295320462:=I
def tw6958637875102346638:=I
def tw9851991616115557806:=I
def tw18338418930844681646:=I
def tw68949566472891854:=I
def tw5977713530935552494:=I
def tw18207288737567795694:=I
def tw10778014462706086478:=I
def tw2805255981111900750:=I
def tw6797268989603946094:=I
def tw17326670106433070702:=I
def tw10464021694392926894:=I
def tw4175403014534077102:=I
def tw847409956985723566:=I
def tw16655913345898116814:=I
def tw12077147132724629262:=I
def tw13584066492615680782:=I
def tw12609010999572004622:=I
def tw6288141150498969390:=I
def tw14531628637756963694:=I
def tw5636753340076499854:=I
def tw4320965590945283054:=I
def tw8871300890711480367:=I
def tw5369806768445403215:=I
def tw13678278697641987151:=I
def tw5013042334029483119:=I
def tw12272145159934029967:=I
def tw8570027442227460239:=I
def tw2303763368706140335:=I
def tw9021232593226378447:=I
def tw13910681188824359183:=I
def tw16544577422294713711:=I
def tw9237839003431289231:=I
def tw17102594323833917871:=I
def tw6134550213578972687:=I
def tw10433112349143306799:=I
def tw5533270965797872175:=I
def tw12159565066813796911:=I
def tw17554078492457068143:=I
def tw15457192234243822223:=I
def tw4161317734037362319:=I
def tw2654473821936720527:=I
def tw7539058174891555471:=I
def tw9911838612773958351:=I
def tw4292535430034392815:=I
def tw18196668889132645103:=I
def tw5369543640641031919:=I
def tw7410575479911712527:=I
def tw14497659899990775567:=I
def tw6515204050157960975:=I
def tw16551189282052625199:=I
def tw13748609367529187119:=I
def tw2027427411792792399:=I
def tw10510972899777017711:=I
def tw7080990813762279504:=I
def tw14441368916122755152:=I
def tw17700436981708982384:=I
def tw7064234958244753520:=I
def tw13878371006887026800:=I
def tw8243380478365054096:=I
def tw1417439386160695472:=I
def tw3838596633820298416:=I
def tw13109549213134135504:=I
def tw1434120844438848784:=I
def tw17847388326930841904:=I
def tw8606821417673835824:=I
def tw11793178698086357328:=I
def tw4366247411829257552:=I
def tw13911593002490996176:=I
def tw3636280864080847312:=I
def tw6869335604205380080:=I
def tw15462056524887650800:=I
def tw12194024113978842704:=I
def tw1287127222348095088:=I
def tw9115845379258214000:=I
def tw9880202609291143824:=I
def tw2598313257765522064:=I
def tw2460789613720146608:=I
def tw17008770186888495824:=I
def tw1933246360278415120:=I
def tw11480074688371502896:=I
def tw6213882393293271856:=I
def tw5171874798675899216:=I
def tw14538822518633623440:=I
def tw17852652337988090800:=I
def tw14956072370934105008:=I
def tw3219911039306567632:=I
def tw16642987821875740624:=I
def tw12689154671887331312:=I
def tw17289999570027731952:=I
def tw832601753749122129:=I
def tw474181527940604017:=I
def tw3278323082678005873:=I
def tw8595983184327356689:=I
def tw15989593588307152145:=I
def tw3612309158528007473:=I
def tw2101123268252824881:=I
def tw4797987215363677681:=I
def tw6634284977980817905:=I
def tw1342619791639285265:=I
def tw1291083176664445457:=I
def tw1195374504614572593:=I
def tw15469920160444332625:=I
def tw4621332030282648145:=I
def tw6185215448992382545:=I
def tw2468244043801837169:=I
def tw2556532440152280721:=I
def tw4803053234558532337:=I
def tw9651535822301729553:=I
def tw9144779639387414289:=I
def tw95956298882541329:=I
def tw14312068385878746961:=I
def tw2234944074944951121:=I
def tw1694432648636746609:=I
def tw11869165097911246737:=I
def tw1992080386711182321:=I
def tw9230238606312365041:=I
def tw13616882301125583890:=I
def tw13285070170033899666:=I
def tw3358096990468581554:=I
def tw1855818751879558322:=I
def tw16705481244010371250:=I
def tw3010585489505151154:=I
def tw1684241936278286514:=I
def tw4449580612521197778:=I
def tw6115474745393718482:=I
def tw8265530961738552562:=I
def tw2292679969029683474:=I
def tw1899606549568763218:=I
def tw17682955189690458450:=I
def tw15017237194815292786:=I
def tw6030381665611337074:=I
def tw11665341350418317746:=I
def tw14474633380678540818:=I
def tw1092674693329297938:=I
def tw14475619643549999666:=I
def tw16578538210144379474:=I
def tw14916906244525731442:=I
def tw13690120948432578194:=I
def tw17774352210828600978:=I
def tw7598200332357142194:=I
def tw16287619490186241714:=I
def tw3196145125427415762:=I
def tw2782315273351630546:=I
def tw7738686109363515122:=I
def tw10196453495716244210:=I
def tw2481144032064505618:=I
def tw17237570367929030418:=I
def tw11818288512890696466:=I
def tw6998368253831227186:=I
def tw9540645340125375282:=I
def tw2373469071139391282:=I
def tw9458943349133300530:=I
def tw615333088427497266:=I
def tw1534309901727830930:=I
def tw5880749701531879314:=I
def tw5206369655583955858:=I
def tw1753057215980854162:=I
def tw7153551111065506770:=I
def tw4412649515956362259:=I
def tw10435543976318951443:=I
def tw10445269329410526323:=I
def tw875597268327610483:=I
def tw12449210799004718227:=I
def tw16584013754714204307:=I
def tw4282982134382176531:=I
def tw5066165502507282707:=I
def tw12567596769512657203:=I
def tw16458413824320289107:=I
def tw10048844743938745715:=I
def tw3462043776121599347:=I
def tw17844771608697311635:=I
def tw7786457373450990003:=I
def tw6770614219656149459:=I
def tw18070533385450062323:=I
def tw7795703222391055859:=I
def tw3450761680518717043:=I
def tw7733951559408779923:=I
def tw5892293885379321491:=I
def tw3233898125592740499:=I
def tw14314318871977241267:=I
def tw17966512181518537491:=I
def tw15844441086196986643:=I
def tw2595044981124662067:=I
def tw681933284292467539:=I
def tw717382540367672211:=I
def tw2423764913677795315:=I
def tw15033999857906923668:=I
def tw10879806741274566932:=I
def tw15106013103823826196:=I
def tw9549746466018359572:=I
def tw16890482463520187700:=I
def tw14433367714882639188:=I
def tw15348341050888435060:=I
def tw594403658641690004:=I
def tw16056230812645250484:=I
def tw13472117421598963156:=I
def tw3410022938620003860:=I
def tw14568459420788595220:=I
def tw18287104694438489620:=I
def tw10062237674736944692:=I
def tw763611439525142100:=I
def tw6806301434559562356:=I
def tw15123434413246219924:=I
def tw14209321251820767892:=I
def tw727135580181487252:=I
def tw14851596005415279348:=I
def tw2703427009863999220:=I
def tw18266492961744002868:=I
def tw12255774996220204852:=I
def tw13723605575346816852:=I
def tw9129800547024455540:=I
def tw5837206913393361908:=I
def tw8812859487961445364:=I
def tw16757800846269448180:=I
def tw5770810299627081781:=I
def tw4707468743811350613:=I
def tw6886708786179225717:=I
def tw5544123597488711797:=I
def tw6628280507690704053:=I
def tw9909147873929635029:=I
def tw17057100683733456117:=I
def tw9990531194459349269:=I
def tw17134934880160783669:=I
def tw15147310452629022005:=I
def tw7492178093915028789:=I
def tw17954957412477769045:=I
def tw14488229046016217461:=I
def tw11240899576111934997:=I
def tw525948273756879381:=I
def tw15488321579664679477:=I
def tw12038246135661483573:=I
def tw5884500916439550613:=I
def tw1705962608885423765:=I
def tw3949251378957891381:=I
def tw3625440981541869525:=I
def tw9250952506107431958:=I
def tw5365516654471730198:=I
def tw11380086147117343862:=I
def tw9837348625855439990:=I
def tw5773436393398921334:=I
def tw6133424923018669206:=I
def tw2120521611190511830:=I
def tw16871364256556329238:=I
def tw6331380974579339574:=I
def tw6177732143720010198:=I
def tw18337277190521849366:=I
def tw2134109556735457846:=I
def tw11964062586595983926:=I
def tw13858172191955364470:=I
def tw4770080305831667350:=I
def tw4971108577176933046:=I
def tw8571050114743510742:=I
def tw6712843324808525526:=I
def tw8832663083525377782:=I
def tw3577196193228897014:=I
def tw3187110723720952566:=I
def tw12349191812199680790:=I
def tw10272475815615715158:=I
def tw8763621110557854582:=I
def tw16373845104076610422:=I
def tw8458938059276045206:=I
def tw1394680741504962486:=I
def tw7439151437130936278:=I
def tw6506957844073938902:=I
def tw8782411669440975895:=I
def tw10595172639608271895:=I
def tw4813160548483182679:=I
def tw15523878013830624343:=I
def tw9626294478359008375:=I
def tw468387694564907127:=I
def tw15415211643610972311:=I
def tw1657902085571968215:=I
def tw970629606064007415:=I
def tw5853623194797493559:=I
def tw15986947179477214551:=I
def tw5676785661744756055:=I
def tw3794170299931360599:=I
def tw15296039606086031735:=I
def tw1652282195469600151:=I
def tw14179519645907674583:=I
def tw12992477669730437623:=I
def tw3672093803825840695:=I
def tw11739532667910534743:=I
def tw10679177681551674967:=I
def tw2557825777596061271:=I
def tw1839649992920363639:=I
def tw6007749724229958263:=I
def tw17652557381379119767:=I
def tw16888520325774945975:=I
def tw5510130110827479767:=I
def tw13570162155288137495:=I
def tw7813106456884561687:=I
def tw3997475193072368439:=I
def tw7055265700551149367:=I
def tw6637770204509695863:=I
def tw16132407242084677495:=I
def tw8672616309575340951:=I
def tw1026073102358897623:=I
def tw5876845814025908183:=I
def tw10755356444000519192:=I
def tw11166111615457013784:=I
def tw13329843255302970424:=I
def tw4517391947587026008:=I
def tw1860125983864086744:=I
def tw6261590239078953240:=I
def tw5444174045726862648:=I
def tw2275218643977646424:=I
def tw1547327455130076504:=I
def tw14251890328397368664:=I
def tw11355361835711862136:=I
def tw3674261306420012408:=I
def tw4271072416449314200:=I
def tw4593180412122581400:=I
def tw9719216776669224344:=I
def tw6419071611635601848:=I
def tw15843122579784979896:=I
def tw258058321003550168:=I
def tw1469984470792889816:=I
def tw15509447799979686424:=I
def tw84241764305249880:=I
def tw6983930815767929464:=I
def tw17067915261402625688:=I
def tw384444352370201240:=I
def tw18116964194626441912:=I
def tw4697732723822342840:=I
def tw17960806219866396344:=I
def tw1569186856635286296:=I
def tw10824111293943880504:=I
def tw776443437942816600:=I
def tw14353109284250505080:=I
def tw7806343485357285240:=I
def tw14626562052931633048:=I
def tw6066736552040559512:=I
def tw3696620248529802200:=I
def tw7753225100354597848:=I
def tw12296559489922275353:=I
def tw9621521788955894809:=I
def tw7028791603351827481:=I
def tw2769904576887840793:=I
def tw7940202300616499257:=I
def tw5060055396586547257:=I
def tw16576267370816271417:=I
def tw9394995723524673625:=I
def tw9381086959111774393:=I
def tw9477798008903614713:=I
def tw14939255237507375353:=I
def tw11733661609084806393:=I
def tw11947219865171875097:=I
def tw14048040351994046745:=I
def tw2159017945972487481:=I
def tw3649704122314835257:=I
def tw18274865684960914841:=I
def tw5127271293849607609:=I
def tw3440567324209473017:=I
def tw16649552725852312089:=I
def tw10185506058479063609:=I
def tw15211606687474808377:=I
def tw5158200633826357849:=I
def tw1726729340528585305:=I
def tw12186489724437564025:=I
def tw2914388572410948249:=I
def tw5480017792992921241:=I
def tw16628738697433804473:=I
def tw2863429744879993561:=I
def tw2145810348552875769:=I
def tw14428243629322205945:=I
def tw8272126747011030873:=I
def tw9533056395915797337:=I
def tw6796673461346520985:=I
def tw14828747196025271193:=I
def tw415379868182570969:=I
def tw14926457493035438073:=I
def tw12500773127732071450:=I
def tw7801623423656416314:=I
def tw8613191836012075066:=I
def tw3331591028789274714:=I
def tw10138679348640903258:=I
def tw1274144514076342426:=I
def tw11016131164577731802:=I
def tw4201648273550482650:=I
def tw876945619620938970:=I
def tw14804943023909072122:=I
def tw9260354733418744090:=I
def tw6411771088310936858:=I
def tw5491819862930945306:=I
def tw18241261157597567322:=I
def tw3253560117987208570:=I
def tw2323897686803002874:=I
def tw17106773387975447162:=I
def tw15015454426988950170:=I
def tw13252045338986638010:=I
def tw522609353670614746:=I
def tw760809849270945594:=I
def tw10172307649927595834:=I
def tw6500822761926832986:=I
def tw12626392016266012538:=I
def tw14458428542089001850:=I
def tw4393149004238983066:=I
def tw18215188591032740762:=I
def tw16511913636035702682:=I
def tw8385439955880236954:=I
def tw11201972064268775322:=I
def tw3965854731799071674:=I
def tw2581247178914774010:=I
def tw15152569400872746011:=I
def tw18408371794427075611:=I
def tw11880838239902407739:=I
def tw3363561904545574971:=I
def tw15951862612070845499:=I
def tw5947518233438153787:=I
def tw15449452619617569883:=I
def tw5107059064564657243:=I
def tw12097150760421312603:=I
def tw6219300529041451131:=I
def tw7537124012617974939:=I
def tw9237880341759922363:=I
def tw6896789168411962555:=I
def tw449251833912982747:=I
def tw836155976361195771:=I
def tw2778715900567546107:=I
def tw8009739468958337307:=I
def tw13635924864957134107:=I
def tw9194954628361377147:=I
def tw6093280895598673339:=I
def tw15152445892827361755:=I
def tw391412896162421275:=I
def tw2450517520720051739:=I
def tw13033894103298774587:=I
def tw15787316840924830267:=I
def tw6882901990778169947:=I
def tw16043058946509864539:=I
def tw3860744434626133595:=I
def tw15868857582098692731:=I
def tw1972122475093611131:=I
def tw14997012406526182043:=I
def tw12540707578281537243:=I
def tw7500112927647416027:=I
def tw4603115491365801691:=I
def tw5104859777565773531:=I
def tw11486952694250171099:=I
def tw6857224165619376891:=I
def tw11876279398635595515:=I
def tw15904996410244980603:=I
def tw2507933380943840155:=I
def tw16373992493135009691:=I
def tw9698105716099697595:=I
def tw4376707904737933243:=I
def tw17975112046308421595:=I
def tw1037261009764212892:=I
def tw9855080288893855900:=I
def tw13302909971855982780:=I
def tw5393884899724935388:=I
def tw8495539087729062108:=I
def tw3149485409024017660:=I
def tw16378283238935249148:=I
def tw13743413236335258972:=I
def tw10157583435922419068:=I
def tw4976805329415290236:=I
def tw13214946563493814652:=I
def tw354447026628605404:=I
def tw16520660734352503356:=I
def tw7162154615748613724:=I
def tw14143504024536690300:=I
def tw13529422531701108348:=I
def tw6902974438684736156:=I
def tw2311789476452795068:=I
def tw9097318767496153820:=I
def tw7001786813603768060:=I
def tw16587900758550183676:=I
def tw10532849659527792412:=I
def tw14339519288061551388:=I
def tw3719463188977263420:=I
def tw13271835030842390332:=I
def tw7219153658744333116:=I
def tw12354182913710090140:=I
def tw17744815213535589276:=I
def tw11518804905228872636:=I
def tw4867219357569669052:=I
def tw4721669594059669436:=I
def tw3561771883959969756:=I
def tw13972975763010131964:=I
def tw14185645526031283196:=I
def tw6426477429873025053:=I
def tw14018176092932285469:=I
def tw9330511223842549789:=I
def tw8115452119714946109:=I
def tw8731480559937221757:=I
def tw9300261630125251741:=I
def tw4201541039150474397:=I
def tw11241397892816967869:=I
def tw6777006311828025565:=I
def tw15534484910182624509:=I
def tw4413700302357510429:=I
def tw12950438368328350045:=I
def tw16098933019080130045:=I
def tw10813552994048671229:=I
def tw3735714043484683805:=I
def tw13118236668143659549:=I
def tw10271439110088231517:=I
def tw14427299633495625309:=I
def tw5506166915307305597:=I
def tw17548717819282815645:=I
def tw11374364487456827101:=I
def tw6760256335526714109:=I
def tw386525065772055357:=I
def tw16737800350980702045:=I
def tw3765042419014118269:=I
def tw14988929057593360317:=I
def tw14459341941622318077:=I
def tw5468173817388280829:=I
def tw326332525394939966:=I
def tw8673836214841685086:=I
def tw37218267253029982:=I
def tw16866071155630429310:=I
def tw671674238292401310:=I
def tw17893910979498997918:=I
def tw14528598185156792510:=I
def tw6797449401451570366:=I
def tw8981041864587709662:=I
def tw14688298814108433630:=I
def tw13139409700118564094:=I
def tw13271592531689435390:=I
def tw17841027549514253598:=I
def tw10079801355904733502:=I
def tw10632015376515117470:=I
def tw6919108935713408414:=I
def tw7657590521723391422:=I
def tw5280637848807610814:=I
def tw373325206719930846:=I
def tw12761170704318414398:=I
def tw15485895264283524702:=I
def tw9030267398121166494:=I
def tw10045506322946153118:=I
def tw14876387332437051102:=I
def tw10943828662074830590:=I
def tw15399486036563227422:=I
def tw6102630105235261246:=I
def tw12850278935250223966:=I
def tw8825822201508294526:=I
def tw13753211685593578366:=I
def tw11595285897984575422:=I
def tw13176573075752040414:=I
def tw6581374467487233055:=I
def tw9976467621123724351:=I
def tw8234890854796911711:=I
def tw8366269826281216191:=I
def tw1258334000391990527:=I
def tw12830201020565498143:=I
def tw7446652779947769119:=I
def tw417274321942835519:=I
def tw14966668656854923583:=I
def tw11932794982121418175:=I
def tw8458051651852905951:=I
def tw12873111889607675359:=I
def tw6166564946440075807:=I
def tw14110443881494444607:=I
def tw2981770777518330463:=I
def tw12725134619397617279:=I
def tw10796627248478705311:=I
def tw12754965967615019711:=I
def tw3455599182985354943:=I
def tw16411264989344408287:=I
def tw15967712756261635871:=I
def tw3581076735050550111:=I
def tw14021637050740449119:=I
def tw8874551126364452735:=I
def tw4958672561374849951:=I
def tw2853263367581663135:=I
def tw6049793951822547935:=I
def tw6082617021395867615:=I
def tw9000154819066060799:=I
end PySem.W.Fast
open PySem PySem.W PyProof.Rows
set_option maxRecDepth 100000 in
set_option maxHeartbeats 0 in
theorem PySem.Challenge.cw_stripmeld_k52_whole_in_words_holds : PySem.Challenge.rw_stripmeld_k52_whole_in_words.Holds := by
 w_on;o_law;k_head;(case hw=>w_witness2)
 k_fill
 refine L2.Znc (l:=PySem.Challenge.rw_stripmeld_k52_whole_in_words) (n:=63) (k:=14) (x:="_law_script") (CX:=L2.CX0) (sp:=Pu.A2) rfl (by decide) rfl ⟨rfl,by decide,by decide,rfl⟩ (fun w h Y=>PySem.W.kIn_of Y) ?F ?S ?C
 case F=>
  intro w mg fa h KX G hmg
  refine' T.Zha KX G hmg ?U1 ?U3 ?U4 ?U5 ?U6 ?U7 ?U8 ?U9 ?UA ?UB ?a1 ?a2 ?a3 ?a4 ?a5 ?a6 ?a7 ?a8 ?a9 ?a10 ?a11 ?a12 ?a13 ?a14 ?a15 ?a16 ?a17 ?a18 ?a19 ?a20 ?a21 ?a22 ?a23 ?a24 ?a25 ?a26 ?a27 ?a28 ?a29 ?a30 ?a31 ?a32 ?a33 ?a34 ?a35 ?a36 ?a37 ?a38 ?a39 ?a40 ?a41 ?a42 ?a43 ?a44 ?a45 ?a46 ?a47 ?a48 ?a49 ?a50 ?a51 ?a52 ?a53 ?a54 ?a55 ?a56 ?a57 ?a58 ?a59 ?a60 ?a61 ?a62 ?a63 ?a64 ?a65 ?a66 ?a67 ?a68 ?a69 ?a70 ?a71 ?a72 ?a73 ?l73 ?c73 ?k73 ?UC ?UD ?UE ?UF ?UG ?UH ?UI ?UJ ?UK ?UL ?UM ?UN ?UO ?UP ?UQ ?UR ?US ?UT ?UU ?UV ?UW ?UX ?UY ?zm_DEEDS ?zl_DEEDS ?ze_DEEDS ?UZ ?zm_OTHERS ?zl_OTHERS ?ze_OTHERS ?Xa ?zl_ORDERS ?zm_ORDERS ?ze_ORDERS ?Uj ?Uk ?U2 ?Ul ?Um ?Uo ?Up ?Uq ?Ur ?Us ?Ut ?Uu ?Uv ?Uw ?Ux ?Uy ?Ui ?x_Ringed ?x_all
  (case U1|U3|U4|U5|U6|U7|U8|U9|UA|UB=>k_is)
  (case a1|a2|a3|a4|a5|a6|a7|a8|a9|a10|a11|a12|a13|a14|a15|a16|a17|a18|a19|a20|a21|a22|a23|a24|a25|a26|a27|a28|a29=>apply Pu.di<;>k_is)
  (case a30|a31|a32|a33|a34|a35|a36|a37|a38|a39|a40=>apply Pu.mi<;>k_is)
  (case a41|a42|a43|a44|a45|a46|a47|a48|a49|a50|a51|a52|a53|a54|a55|a56|a57|a58|a59|a60|a61|a62|a63|a64|a65|a66|a67|a68|a69|a70|a71|a72=>apply Pu.di<;>k_is)
  (case a73|l73|c73|k73|UC|UD|UE|UF|UG|UH|UI|UJ|UK|UL|UM|UN|UO|UP|UQ|UR|US|UT|UU|UV|UW|UX|UY=>k_is)
  (case zm_DEEDS=>decide)
  (case zl_DEEDS=>k_is)
  (case ze_DEEDS=>exact⟨⟨_,rfl⟩,rfl,⟨_,rfl⟩,⟨⟨_,rfl⟩,rfl,⟨_,rfl⟩,⟨⟨_,rfl⟩,rfl,⟨_,rfl⟩,⟨⟨_,rfl⟩,rfl,⟨_,rfl⟩,⟨⟨_,rfl⟩,rfl,⟨_,rfl⟩,trivial⟩⟩⟩⟩⟩)
  (case UZ=>k_is)
  (case zm_OTHERS=>decide)
  (case zl_OTHERS=>k_is)
  (case ze_OTHERS=>exact⟨⟨_,rfl⟩,rfl,⟨_,rfl⟩,⟨⟨_,rfl⟩,rfl,⟨_,rfl⟩,⟨⟨_,rfl⟩,rfl,⟨_,rfl⟩,⟨⟨_,rfl⟩,rfl,⟨_,rfl⟩,⟨⟨_,rfl⟩,rfl,⟨_,rfl⟩,⟨⟨_,rfl⟩,rfl,⟨_,rfl⟩,⟨⟨_,rfl⟩,rfl,⟨_,rfl⟩,⟨⟨_,rfl⟩,rfl,⟨_,rfl⟩,⟨⟨_,rfl⟩,rfl,⟨_,rfl⟩,trivial⟩⟩⟩⟩⟩⟩⟩⟩⟩)
  (case Xa|zl_ORDERS=>k_is)
  (case zm_ORDERS=>exact Nat.le_of_ble_eq_true rfl)
  (case ze_ORDERS=>exact .cons ⟨_,rfl⟩ (.cons ⟨_,rfl⟩<|.nil))
  (case Uj|Uk|U2|Ul|Um|Uo|Up|Uq|Ur|Us|Ut|Uu|Uv|Uw|Ux|Uy=>apply Pu.ei<;>first|(k_is;done)|k_exc)
  (case Ui=>apply Pu.ri<;>first|(k_is;done)|k_exc|rfl)
  (case x_Ringed=>kts_exm)
  (case x_all=>kernel_rfl)
 case S=>exact fun K H a ns hl hO hS=>⟨a,ns,rfl,hS,fun _=>rfl⟩
 case C=>exact fun _ _ _ _ z=>z
