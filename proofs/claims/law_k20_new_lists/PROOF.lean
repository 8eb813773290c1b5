import PyProof.Rows.All
import Wide.All
import OpenK.AllK
import Wide.FinOn
import Lean
import PyProof.EqAt
import PyProof.EqKinds
import PyProof.TupleCall
import PySem.Challenge.RW_stripmeld_k20_new_lists
set_option Elab.async false
set_option linter.all false
set_option compiler.extract_closed false
set_option genSizeOf false
set_option maxRecDepth 100000
def bu_0(h:True:=by rfl):True:=h
def au_0:Lean.Syntax:=bu_0._auto_1
def bu_1(h:True:=by decide):True:=h
def au_1:Lean.Syntax:=bu_1._auto_1
def bu_2(h:True:=by first | exact .inl rfl | exact .inr rfl | assumption):True:=h
def au_2:Lean.Syntax:=bu_2._auto_1
def bu_3(h:True:=by intro _; rfl):True:=h
def au_3:Lean.Syntax:=bu_3._auto_1
def bu_4(h:True:=by first | exact Or.inl rfl | exact Or.inr (Or.inl rfl) | exact Or.inr (Or.inr rfl)):True:=h
def au_4:Lean.Syntax:=bu_4._auto_1
def bu_5(h:True:=by decide +kernel):True:=h
def au_5:Lean.Syntax:=bu_5._auto_1
def bu_6(h:True:=by first | exact Or.inl rfl | exact Or.inr rfl):True:=h
def au_6:Lean.Syntax:=bu_6._auto_1
def bu_7(h:True:=by intro _ _; rfl):True:=h
def au_7:Lean.Syntax:=bu_7._auto_1
def bu_8(h:True:=by kernel_rfl):True:=h
def au_8:Lean.Syntax:=bu_8._auto_1
def bu_9(h:True:=by intro _; first | exact Or.inl rfl | exact Or.inr (Or.inl rfl) | exact Or.inr (Or.inr rfl)):True:=h
def au_9:Lean.Syntax:=bu_9._auto_1
def bu_10(h:True:=by intro _; exact ⟨rfl, rfl, rfl⟩):True:=h
def au_10:Lean.Syntax:=bu_10._auto_1
def bu_11(h:True:=by with_unfolding_all rfl):True:=h
def au_11:Lean.Syntax:=bu_11._auto_1
def bu_12(h:True:=by intro _; first | exact Or.inl rfl | exact Or.inr rfl):True:=h
def au_12:Lean.Syntax:=bu_12._auto_1
def bu_13(h:True:=by intro _; first | exact .inl rfl | exact .inr rfl | assumption):True:=h
def au_13:Lean.Syntax:=bu_13._auto_1
def bu_14(h:True:=by intro _; kernel_rfl):True:=h
def au_14:Lean.Syntax:=bu_14._auto_1
def bu_15(h:True:=by lia):True:=h
def au_15:Lean.Syntax:=bu_15._auto_1
noncomputable section
def Yw:=@PySem.wpAny_bind
def Yx:=@List.getElem?_eq_getElem
def Yy:=@List.length_map
def Yz:=@PySem.wpAny_pure
def Y0:=@PySem.Heap.get?_push_of_some
def Y1:=@Nat.le_refl
def Y2:=@List.getD_eq_getElem?_getD
def Y3:=@List.mem_singleton
def Y4:=@if_neg
def Y5:=@if_pos
def Y6:=@PySem.Heap.lt_size
def Y7:=@PySem.Heap.get?_push_size
def Y8:=@Nat.le_trans
def YA:=@List.mem_cons
def YB:=@List.getElem?_map
def YC:=@Option.some.inj
def YD:=@List.getElem_mem
def YE:=@List.map_cons
def YF:=@PyProof.Rows.wpS_bind
def YG:=@decide_eq_true
def YH:=@Bool.false_ne_true
def YI:=@List.mem_append_right
def YJ:=@Nat.ne_of_lt
def YK:=@List.length_append
def YL:=@List.size_toArray
def YM:=@Nat.lt_of_lt_of_le
def YN:=@PySem.PassesOwn.never
def YO:=@List.mem_map
def YQ:=@List.map_append
def YR:=@of_decide_eq_true
def YS:=@List.mem_filter
def YT:=@List.mem_cons_of_mem
def YU:=@Bool.and_eq_true
def YV:=@List.length_filter_le
def YW:=@Bool.false_eq_true
def YX:=@List.length_cons
def YY:=@List.take_succ_eq_append_getElem
def YZ:=@PyProof.Rows.wpS_pure
def Wa:=@List.map_map
def Wb:=@List.mem_cons_self
def Wc:=@List.mem_append
def Wd:=@PySem.W.mg_none_of
def We:=@Array.length_toList
def Wf:=@PySem.Heap.SameBut.update
def Wg:=@List.length_take
def Wh:=@Int.le_refl
def Wi:=@List.nodup_cons
def Wj:=@List.mem_of_getElem?
def Wk:=@Int.toNat_natCast
def Wl:=@PySem.wpAny_mono
def Wm:=@List.getElem?_eq_some_iff
def Wn:=@PySem.wpAny_newObj_type
def Wo:=@Array.getElem?_toList
def Wp:=@Nat.zero_le
def Wq:=@List.mem_iff_getElem
def Wr:=@decide_eq_false
def Ws:=@if_false
def Wt:=@PySem.mem_of_lookup
def Wu:=@PySem.Heap.get?_update_self
def Wv:=@PySem.F.plainAttrs_list
def Ww:=@PySem.Obj.data_mapFields
def Wx:=@PySem.sizeLine_eq
def Wy:=@PySem.Heap.get?_update_other
def Wz:=@congrArg
def W1:=@PySem.W.kia_one
def W2:=@List.take_length
def W3:=@List.nodup_append
def W4:=@List.map_congr_left
def W5:=@List.getElem?_append_left
def W6:=@Array.getElem?_eq_getElem
def W7:=@getElem?_pos
def W8:=@PySem.wpAny_holding
def W9:=@PyProof.Rows.wpS_forRange
def WA:=@List.lookup_cons
def WB:=@PySem.wpAny_call_entry
def WC:=@PySem.wpAny_setField
def WD:=@PySem.Obj.isFreed_of_fields
def WE:=@List.getElem?_eq_none
def WG:=@List.drop_eq_getElem_cons
def WH:=@Classical.byContradiction
def WI:=@List.mem_append_left
def WJ:=@List.getElem?_take_of_lt
def WK:=@PySem.F.slot_dict_valueiterator_next
def WL:=@decide_eq_true_eq
def WM:=@Nat.lt_irrefl
def WN:=@PySem.wpAny_typeNameOfWhole_valiter
def WO:=@List.length_eq_zero_iff
def WQ:=@List.filterMap_cons
def WR:=@PyProof.Rows.getElem?_mirror_all
def WS:=@List.all_eq_true
def WT:=@decide_true
def WU:=@PyProof.Rows.callWith_type1
def WV:=@Nat.le_of_eq
def WW:=@List.pairwise_cons
def WX:=@decide_false
def WY:=@PySem.wpAny_passesOwn
def WZ:=@List.append_nil
def Qa:=@List.length_set
def Qb:=@List.getElem?_append_right
def Qc:=@PySem.wpAny_truthy_bool
def Qd:=@PySem.wpAny_setState_of
def Qe:=@List.length_range
def Qf:=@PySem.wpAny_rule
def Qg:=@List.pairwise_iff_getElem
def Qh:=@Nat.le_succ
def Qi:=@List.nodup_nil
def Qj:=@PySem.wpAny_execs_cons
def Qk:=@PySem.wpAny_typeNameOf_valiter
def Ql:=@PyProof.Rows.listUpdate_at
def Qm:=@List.find?_cons
def Qn:=@PySem.codeAny_builtin
def Qo:=@PyProof.Rows.getElem?_bubble
def Qp:=@PyProof.Rows.boot_isinstance
def Qq:=@PyProof.Rows.boot_sorted
def Qr:=@List.append_assoc
def Qs:=@Bool.eq_false_iff
def Qt:=@Nat.lt_trans
def Qu:=@List.filterMap_append
def Qv:=@List.length_singleton
def Qw:=@List.cons_append
def Qx:=@PySem.Around.under_plainId
def Qy:=@Nat.pow_le_pow_right
def Qz:=@List.any_cons
def Q0:=@List.perm_ext_iff_of_nodup
def Q1:=@Array.getElem?_eq_some_iff
def Q2:=@PySem.wpAny_execs_nil
def Q3:=@List.forIn_cons
def Q4:=@List.cons.injEq
def Q5:=@Nat.le_of_lt
def Q6:=@PySem.codeAny_mono
def Q7:=@PySem.wpAny_Call_Name_kw
def Q8:=@PySem.F.args_tuple_add_2
def Q9:=@PySem.tupleKind_room_in1
def QA:=@PyProof.Rows.F.entry_set_update_loop
def QB:=@PyProof.Rows.F.plain_set_update_loop
def QC:=@List.idxOf_lt_length_iff
def QD:=@Nat.add_sub_cancel
def QE:=@PyProof.Rows.listItems_at
def QF:=@PySem.F.slot_list_append
def QG:=@PySem.F.type_list_append
def QH:=@Int.emod_lt_of_pos
def QI:=@Int.mul_le_mul
def QJ:=@PySem.F.entry_tuple_add
def QK:=@PySem.wpAny_callSpecial?_slot
def QL:=@PySem.F.slot_list_index
def QM:=@List.take_sublist
def QN:=@List.reverse_cons
def QO:=@PySem.fits_of_scanBound
def QP:=@Nat.lt_succ_of_lt
def QR:=@PySem.Obj.cls_mapFields
def QS:=@PySem.wpAny_pyIter_slot
def QT:=@List.ext_getElem?
def QU:=@List.flatMap_cons
def QV:=@PySem.W.cellsFrom_some
def QW:=@PySem.F.slot_tuple_add
def QX:=@Array.getElem?_eq_none
def QY:=@List.take_of_length_le
def QZ:=@List.filterMap_eq_map'
def Va:=@PySem.wpAny_attempt
def Vb:=@PySem.wpAny_newList
def Vc:=@Bool.true_and
def Vd:=@PySem.W.mg_of
def Ve:=@List.not_mem_nil
def Vf:=@List.ext_getElem
def Vg:=@PySem.wpAny_isOneOf_valiter
def Vh:=@List.getElem?_reverse
def Vi:=@PySem.Heap.get?_none_of_le
def Vj:=@List.getElem?_set_ne
def Vk:=@Nat.ne_of_gt
def Vl:=@Bool.eq_iff_iff
def Vm:=@List.of_mem_zip
def Vn:=@Option.map_some
def Vo:=@List.pairwise_append
def Vp:=@List.mem_of_mem_take
def Vq:=@Nat.zero_add
def Vr:=@getElem?_neg
def Vs:=@Int.emod_nonneg
def Vt:=@List.filter_sublist
def Vu:=@List.length_pos_iff
def Vv:=@List.filter_eq_self
def Vw:=@List.length_reverse
def Vx:=@List.mem_range
def Vy:=@PySem.wpAny_field
def Vz:=@List.mem_filterMap
def V0:=@Nat.lt_of_le_of_lt
def V1:=@List.getElem_idxOf
def V2:=@List.map_singleton
def V3:=@List.filter_filter
def V4:=@Option.isSome_map
def V5:=@List.pairwise_map
def V6:=@Bool.not_eq_true'
def V7:=@List.getElem_take
def V8:=@Nat.not_lt
def V9:=@Nat.min_self
def VA:=@Int.add_zero
def VB:=@Int.ne_of_lt
abbrev Zu:=List (Int×Int)
abbrev Zv:=List Int
abbrev Zw:=List (PySem.Addr×PySem.Obj)
abbrev Zx:=PySem.Str->Option PySem.Value
abbrev Zy:=PySem.Value->PySem.Shared->Prop
abbrev Zz:=List (Option Nat)
abbrev Z0:=List Nat
abbrev Z1:=List PySem.Value
abbrev Z2:=List PySem.Str
abbrev Z3:=List PySem.Expr
abbrev Z4:=List PySem.Stmt
abbrev Z5:=Option PySem.Value
abbrev Z6:=Option PySem.Addr
abbrev Z7:=Array PySem.Value
abbrev Z8:=List (PySem.Str×PySem.Addr)
abbrev Z9:=Array (Int×PySem.Value)
abbrev Zt:=PySem.W.Frag
namespace L2
open PySem PySem.Spec PyProof.Rows
abbrev Key:=Sum Int Str
noncomputable def Kc:Key->Value->Bool
 | .inl k,v=>Value.isInt k v
 | .inr x,v=>Value.isStrOf x v
noncomputable def Zdi(w:World):Key->Int
 | .inl k=>hashInt k
 | .inr x=>hashStr w x
def UQ:∀{k}{v:Value},Kc k v=true->(∃i t,k=Sum.inl i/\v=Value.int i t)\/(∃x t,k=Sum.inr x/\v=Value.str x t)
 | .inl i,v,h=>by
  obtain⟨t,e⟩:=Value.isInt_shape h
  grind
 | .inr x,v,h=>by
  obtain⟨t,e⟩:=Value.isStrOf_shape h
  grind
def Zcu(i:Int)(t:Tok):Kc (.inl i) (.int i t)=true:=by simp[Kc,Value.isInt]
def Mf(x:Str)(t:Tok):Kc (.inr x) (.str x t)=true:=by simp[Kc,Value.isStrOf]
def O4(a b:Int):decide ((Sum.inl a:Key)=Sum.inl b)=(a==b):=by grind
def Ri(a b:Str):decide ((Sum.inr a:Key)=Sum.inr b)=decide (a=b):=by simp
def M2(a:Int)(b:Str):decide ((Sum.inl a:Key)=Sum.inr b)=false:=Wr (λq=>nomatch q)
def OB(a:Str)(b:Int):decide ((Sum.inr a:Key)=Sum.inl b)=false:=Wr (λq=>nomatch q)
noncomputable def Uu(prog:Program)(w:World):PySem.KeyKind prog w Key where
 is:=Kc
 hash:=Zdi w
 inj:=λv a b ha hb=>by
  rcases UQ ha with⟨i,t,rfl,rfl⟩|⟨x,t,rfl,rfl⟩
  ·rcases UQ hb with⟨j,u,rfl,e⟩|⟨y,u,rfl,e⟩
   ·injection e with e1 _;rw[e1]
   ·exact nomatch e
  ·rcases UQ hb with⟨j,u,rfl,e⟩|⟨y,u,rfl,e⟩
   ·exact nomatch e
   ·injection e with e1 _;rw[e1]
 byValue:=λk v h=>by
  rcases UQ h with⟨i,t,rfl,rfl⟩|⟨x,t,rfl,rfl⟩<;>rfl
 pyHash:=λhv h=>by
  rcases UQ hv with⟨i,t,rfl,rfl⟩|⟨x,t,rfl,rfl⟩
  ·exact wpAny_pyHash_int h
  ·exact wpAny_pyHash_str h
 eqBool:=λhu hv h=>by
  rcases UQ hu with⟨i,t,rfl,rfl⟩|⟨x,t,rfl,rfl⟩
  ·rcases UQ hv with⟨j,u,rfl,rfl⟩|⟨y,u,rfl,rfl⟩
   ·rw[O4]at h;exact wpAny_eqBool_int h
   ·rw[M2]at h;exact SeqAt.EqAt.int_str i t y u _ _ _ _ h
  ·rcases UQ hv with⟨j,u,rfl,rfl⟩|⟨y,u,rfl,rfl⟩
   ·rw[OB]at h;exact SeqAt.EqAt.str_int x t j u _ _ _ _ h
   ·rw[Ri]at h;exact wpAny_eqBool_str h
 «strs»:=λk x t v h=>by
  rcases UQ h with⟨i,u,rfl,e⟩|⟨y,u,rfl,e⟩
  ·exact nomatch e
  ·injection e with e1 _;subst e1;cases v<;>rfl
def Zbn(prog:Program)(w:World)(i:Int)(t:Tok):(Uu prog w).is (.inl i) (.int i t)=true:=Zcu i t
def Lp(prog:Program)(w:World)(x:Str)(t:Tok):(Uu prog w).is (.inr x) (.str x t)=true:=Mf x t
inductive V where
 |non|bl (b:Bool)|int (i:Int)|str (x:Str)|byt (b:Array UInt8)|flt (b:UInt64)|ref (a:Addr)|ty (n:String)
 deriving DecidableEq
def RelV:V->Value->Prop
 | .non,u=>u=Value.none
 | .bl b,u=>u=Value.bool b
 | .int i,u=>∃t,u=Value.int i t
 | .str x,u=>∃t,u=Value.str x t
 | .byt b,u=>∃t,u=Value.bytes b t
 | .flt b,u=>∃t,u=Value.float b t
 | .ref a,u=>u=Value.ref a
 | .ty n,u=>u=Value.type n
abbrev Vals:List V->Z1->Prop:=Paired RelV
def Vals.length (r:Vals xs us):xs.length=us.length:=Paired.length r
def Vals.get:∀{xs us}{i:Nat}{x:V},Vals xs us->xs[i]?=some x->∃u,us[i]?=some u/\RelV x u:=by
 intro j
 induction j with
 |nil=>
  intro _ i _ h e;simp at e
 |cons _ _ b=>
  intro _ i d h e;cases h with
  |cons h r=>
   cases i with
   |zero=>
    simp at e;subst e;exact⟨_,rfl,h⟩
   |succ i=>
    obtain⟨v,g,f⟩:=b r (by simpa using e);exact⟨v,by simpa using g,f⟩
theorem Vals.set (r:RelV x u):∀{xs us} i,Vals xs us->Vals (xs.set i x) (us.set i u)
 |_,_,_,.nil=>.nil
 |_,_,0,.cons _ t=>.cons r t
 |_,_,i+1,.cons q t=>.cons q (Vals.set r i t)
def Vals.append:∀{xs ys}{us b:Z1},Vals xs us->Vals ys b->Vals (xs++ys) (us++b):=by
 intro g
 induction g with
 |nil=>
  intro _ _ _ h s;cases h
  exact s
 |cons _ _ f=>
  intro _ _ _ h s;cases h with
  |cons h r=>
   exact .cons h (f r s)
theorem Vals.take:∀{xs us} n,Vals xs us->Vals (xs.take n) (us.take n)
 |_,_,0,_|_,_,_+1,.nil=>.nil
 |_,_,n+1,.cons r t=>.cons r (Vals.take n t)
theorem Vals.drop:∀{xs us} n,Vals xs us->Vals (xs.drop n) (us.drop n)
 |_,_,0,r=>r
 |_,_,_+1,.nil=>.nil
 |_,_,n+1,.cons _ t=>Vals.drop n t
def RelO:Option V->Z5->Prop
 |some v,some u=>RelV v u
 |none,none=>True
 |_,_=>False
def KV{κ:Type}:List (κ×V)->List (κ×Value)->Prop:=Paired λ(p:κ×V) (q:κ×Value)=>p.1=q.1/\RelV p.2 q.2
noncomputable def kV:Key->V
 | .inl i=>.int i
 | .inr x=>.str x
inductive HO where
 |lst (xs:List V)
 |tup (xs:List V)
 |dK (kvs:List (Key×V))|dT (kvs:List (List Key×V))
 |set (S:Int->Bool) (n:Nat)
 |ins (C dx:Addr) (fs:List (Str×V))
 |own (x:Addr)
 |xd (fs:List (Str×V))
 |met (f x:Addr)
 |rng (lo hi:Int)
 |frz (o:Obj) (u:HO)
 |tbl (ps:Z7)
 |ext (φ:Heap->Prop)
abbrev Hp:=Addr->Option HO
noncomputable def upd(H:Hp)(a:Addr)(o:HO):Hp:=λb=>if b=a then some o else H b
def Js:upd H a o a=some o:=by unfold upd;rw[Y5 rfl]
def Jg{a b o}(h:b≠a):upd H a o b=H b:=by unfold upd;rw[Y4 h]
def Il:upd (upd H a o) a u=upd H a u:=by
 funext b;unfold upd;split<;>rfl
def Av{H:Hp}{a b}{o u}(h:H a=some o)(h':H b=some u)(d:o≠u):a≠b:=by grind
def J4{H:Hp}{a b}{o}(h:H a=some o)(h':H b=none):a≠b:=by grind
section
variable (P:Program) (w:World)
def ObjOk(H:Hp)(h:Heap)(a:Addr):HO->Prop
 | .lst xs=>xs.length<=sizeLine/\∃(g:Z1) (n:Nat),Vals xs g/\h.get? a=some {cls:=.type "list",data:=.seq g.toArray n}
 | .tup xs=>xs.length<=sizeLine/\∃g:Z1,Vals xs g/\IsTup h a g.toArray
 | .dK b=>b.length<=sizeLine/\(a==sysModules)=false/\∃r,KV b r/\h.DictOf (Uu P w) a r
 | .dT b=>b.length<=sizeLine/\(a==sysModules)=false/\∃xs:List (List Key×Addr×Value),
   Paired (λ(p:List Key×V) (q:List Key×Addr×Value)=>p.1=q.1/\H q.2.1=some (.tup<|p.1.map kV)/\RelV p.2 q.2.2) b xs/\
   ∃o z E,h.get? a=some o/\o.ExactDict/\o.data=.dict z E/\z.toList=xs.map (entryOfKey<|tupleKind<|Uu P w)/\(xs.map (·.1)).Nodup
 | .set S n=>h.SetOf (intKind P w) a S n
 | .ins C j fs=>H j=some (.own a)/\fs.length<=1000/\j≠a/\h.get? a=some (PySem.W.instObj C j)/\
   ∃i,h.Ns1 j i/\(∀f,RelO (fs.lookup f) (i f))/\PySem.Within i (fs.map (·.1))
 | .own _=>∃o,h.get? a=some o
 | .xd fs=>∃i,h.Ns1 a i/\∀f,RelO (fs.lookup f) (i f)
 | .rng lo B=>∃t u v,h.get? a=some {cls:=.type "range",data:=.fields #[.int lo t,.int B u,.int 1 v]}
 | .frz o u=>h.get? a=some o/\ObjOk H h a u
 | .tbl A=>h.get? a=some {cls:=.none,data:=.fields A}
 | .met f x=>h.get? a=some (PySem.W.methodObj (.ref f)<|.ref x)
 | .ext l=>l h/\(∃o,h.get? a=some o)/\∀y s:Heap,l y->(∀o,y.get? a=some o->s.get? a=some o)->l s
def HOk(H:Hp)(h:Heap):Prop:=∀a o,H a=some o->ObjOk P w H h a o
end
section
variable {P:Program}{w:World}{H H':Hp}{h h':Heap}{a:Addr}{o:HO}
def ObjOk.lt (x:ObjOk P w H h a o):a<h.objs.size:=by
 cases o with
 |lst xs=>obtain⟨_,_,_,_,e⟩:=x;exact Y6 e
 |tup xs=>obtain⟨_,_,_,p⟩:=x;exact p.lt
 |set S n=>obtain⟨o,_,_,_,e,_⟩:=x;exact Y6 e
 |ins C l fs=>obtain⟨_,_,_,e,_⟩:=x;exact Y6 e
 |own y=>obtain⟨_,e⟩:=x;exact Y6 e
 |xd fs=>obtain⟨_,⟨_,_,_,e,_⟩,_⟩:=x;exact Y6 e
 |rng lo j=>obtain⟨_,_,_,e⟩:=x;exact Y6 e
 |frz i u=>obtain⟨e,_⟩:=x;exact Y6 e
 |tbl g|met f y=>exact Y6 x
 |ext b=>obtain⟨_,⟨_,e⟩,_⟩:=x;exact Y6 e
 |_=>obtain⟨_,_,_,_,o,_,_,e,_⟩:=x;exact Y6 e
def Paired.mapP:∀{i:List p}{g:List n},Paired F i g->(∀a b,F a b->G a b)->Paired G i g:=by
 intro l
 induction l with
 |nil=>
  intro _ h _;cases h
  exact .nil
 |cons _ _ j=>
  intro _ h f;cases h with
  |cons h r=>
   exact .cons (f _ _ h) (j r f)
def ObjOk.stay (x:ObjOk P w H h a o) (k:∀b u,(b=a\/H b=some (.own a))->h.get? b=some u->h'.get? b=some u)
  (M:∀b,H b=some (.own a)->H' b=some (.own a)) (L:∀b xs,H b=some (.tup xs)->H' b=some (.tup xs)):ObjOk P w H' h' a o:=by
 induction o with
 |lst xs=>obtain⟨z,l,n,r,e⟩:=x;exact⟨z,l,n,r,k _ _ (.inl rfl) e⟩
 |tup xs=>obtain⟨z,l,r,g,e,c⟩:=x;exact⟨z,l,r,g,k _ _ (.inl rfl) e,c⟩
 |dK B=>obtain⟨z,y,E,r,g,i,j,e,c⟩:=x;exact⟨z,y,E,r,g,i,j,k _ _ (.inl rfl) e,c⟩
 |dT B=>
  obtain⟨z,y,xs,r,g,i,j,e,c⟩:=x;exact⟨z,y,xs,Paired.mapP r λp q z=>⟨z.1,L _ _ z.2.1,z.2.2⟩,g,i,j,k _ _ (.inl rfl) e,c⟩
 |set S n=>obtain⟨g,i,j,t,e,c⟩:=x;exact⟨g,i,j,t,k _ _ (.inl rfl) e,c⟩
 |ins C Y fs=>
  obtain⟨d,z,G,e,A,⟨s,i,j,N,c⟩,r⟩:=x;exact⟨M _ d,z,G,k _ _ (.inl rfl) e,A,⟨s,i,j,k _ _ (.inr d) N,c⟩,r⟩
 |own y=>obtain⟨g,e⟩:=x;exact⟨g,k _ _ (.inl rfl) e⟩
 |xd fs=>obtain⟨A,⟨s,i,j,e,c⟩,r⟩:=x;exact⟨A,⟨s,i,j,k _ _ (.inl rfl) e,c⟩,r⟩
 |rng lo U=>obtain⟨t,u,v,e⟩:=x;exact⟨t,u,v,k _ _ (.inl rfl) e⟩
 |frz g u J=>obtain⟨e,q⟩:=x;exact⟨k _ _ (.inl rfl) e,J q⟩
 |tbl T=>
  have e:=x;exact k a _ (.inl rfl) e
 |met f y=>
  have e:=x;exact k a _ (.inl rfl) e
 |ext Q=>obtain⟨p,⟨o,e⟩,st⟩:=x;exact⟨st _ _ p λo q=>k _ _ (.inl rfl) q,⟨o,k _ _ (.inl rfl) e⟩,st⟩
def HOk.lt (x:HOk P w H h) (e:H a=some o):a<h.objs.size:=(x a o e).lt
def HOk.fresh (x:HOk P w H h) (e:h.objs.size<=a):H a=none:=by
 cases q:H a with
 |none=>rfl
 |some u=>exact absurd (YM (x.lt q) e) (WM _)
def HOk.kept (x:HOk P w H h) (k:∀b u,h.get? b=some u->h'.get? b=some u):HOk P w H h':=λa o e=>
 (x a o e).stay (λb u _ q=>k b u q) (λ_ q=>q) λ_ _ q=>q
def HOk.laid (x:HOk P w H h) (k:∀b u,h.get? b=some u->h'.get? b=some u) (i:h.objs.size<=a) (new:ObjOk P w (upd H a o) h' a o):HOk P w (upd H a o) h':=λb u e=>by
 have f:=x.fresh i;by_cases g:b=a
 ·subst g;rw[Js]at e;cases e;exact new
 ·rw[Jg g]at e;exact(x b u e).stay (λc v _ q=>k c v q) (λc q=>by rw[Jg (J4 q f)];exact q) λc xs q=>by rw[Jg (J4 q f)];exact q
end
def Rd(H:Hp)(a:Addr)(u:HO):Prop:=H a=some u\/∃o,H a=some (.frz o u)
def Rd.ok {H h a u} (r:Rd H a u) (x:HOk P w H h):ObjOk P w H h a u:=by
 rcases r with r|⟨o,r⟩
 ·exact x a u r
 ·obtain⟨_,q⟩:=x a _ r;lia
def Mut:Option HO->Prop
 |some (.lst _)=>True
 |some (.dK _)=>True
 |some (.dT _)=>True
 |some (.set _ _)=>True
 |some (.ins _ _ _)=>True
 |some (.ext _)=>True
 |_=>False
section
variable {P:Program}{w:World}{H:Hp}{h h':Heap}{x e:Addr}{o':HO}
def HOk.write (ok:HOk P w H h) (g:Mut (H x)) (p:e=x\/H e=some (.own x)) (k:∀b u,b≠e->h.get? b=some u->h'.get? b=some u) (i:∃u,h'.get? e=some u)
  (new:ObjOk P w (upd H x o') h' x o'):HOk P w (upd H x o') h':=λb u q=>by
 have nown:∀c y,H c=some (.own y)->c≠x:=λc y r z=>by subst z;rw[r]at g;exact g
 have ntup:∀c xs,H c=some (.tup xs)->c≠x:=λc xs r z=>by subst z;rw[r]at g;exact g
 by_cases n:b=x
 ·subst n;rw[Js]at q;cases q;exact new
 ·rw[Jg n]at q;by_cases f:b=e
  ·have j:H b=some (.own x):=by
    rcases p with z|z
    ·grind
    ·rw[f];exact z
   rw[q]at j;cases j;obtain⟨v,o⟩:=i;exact⟨v,by rw[f];exact o⟩
  ·refine(ok b u q).stay (λc v l r=>k c v ?_ r) (λc r=>by rw[Jg (nown c b r)];exact r) λc xs r=>by rw[Jg (ntup c xs r)];exact r
   rcases l with rfl|l
   ·exact f
   ·grind
end
structure Un (fs ex:List Addr) (H H':Hp) (h h':Heap):Prop where
 keep:∀b o,h.get? b=some o->H b=none->b∉fs->b∉ex->h'.get? b=some o
 slot:∀b o,h.get? b=some o->H b=none->b∈fs->b∉ex->∃sl,h'.get? b=some {o with slots:=sl}
 free:∀b o,h.get? b=some o->H b=none->b∉ex->H' b=none
 there:∀b o,h.get? b=some o->b∉ex->∃o',h'.get? b=some o'
 tups:∀b xs,H b=some (.tup xs)->H' b=some (.tup xs)
 frzs:∀b o u,H b=some (.frz o u)->H' b=some (.frz o u)
 tbls:∀b ps,H b=some (.tbl ps)->∃more,H' b=some (.tbl (ps++more))
section
variable {fs fs' ex ex':List Addr}{H H1 H2:Hp}{h h1 h2 h':Heap}{a x e:Addr}{o:HO}
def Un.any (u:Un fs ex H H1 h h1) {b ob} (q:h.get? b=some ob) (n:H b=none) (hx:b∉ex):∃sl,h1.get? b=some {ob with slots:=sl}:=by
 by_cases f:b∈fs
 ·exact u.slot b ob q n f hx
 ·exact⟨ob.slots,u.keep b ob q n f hx⟩
def Un.kept (k:∀b u,h.get? b=some u->h'.get? b=some u):Un fs ex H H h h':=
 ⟨λb f q _ _ _=>k b f q,λb f q _ _ _=>⟨f.slots,k b f q⟩,λ_ _ _ n _=>n,λb f q _=>⟨f,k b f q⟩,λ_ _ q=>q,λ_ _ _ q=>q,λ_ g q=>⟨#[],by rw[q];simp⟩⟩
def Un.refl:Un fs ex H H h h:=Un.kept λ_ _ q=>q
def Un.laid (k:∀b u,h.get? b=some u->h'.get? b=some u) (hp:h.objs.size<=a) (hn:H a=none):Un fs ex H (upd H a o) h h' where
 keep:=λb u q _ _ _=>k b u q
 slot:=λb u q _ _ _=>⟨u.slots,k b u q⟩
 free:=λb u q n _=>by rw[Jg (YJ<|YM (Y6 q) hp)];exact n
 there:=λb u q _=>⟨u,k b u q⟩
 tups:=λb xs q=>by rw[Jg (J4 q hn)];exact q
 frzs:=λb u xs q=>by rw[Jg (J4 q hn)];exact q
 tbls:=λb ps q=>⟨#[],by rw[Jg (J4 q hn),q];simp⟩
def Un.write (f:Mut (H x)) (p:e=x\/H e=some (.own x)) (k:∀b u,b≠e->h.get? b=some u->h'.get? b=some u) (l:∃u,h'.get? e=some u):Un fs ex H (upd H x o) h h':=by
 have hx:∀b,H b=none->b≠x:=λb n z=>by subst z;rw[n]at f;exact f
 have i:∀b,H b=none->b≠e:=λb n z=>by
  rcases p with r|r
  ·grind
  ·grind
 have g:∀b u,H b=some u->¬Mut (some u)->b≠x:=λb u q j z=>by subst z;rw[q]at f;exact j f
 refine⟨λb u q n _ _=>k b u (i b n) q,λb u q n _ _=>⟨u.slots,k b u (i b n) q⟩,λb u q n _=>by rw[Jg (hx b n)];exact n,λb u q _=>?_,
  λb xs q=>by rw[Jg (g b _ q λz=>z)];exact q,λb u xs q=>by rw[Jg (g b _ q λz=>z)];exact q,λb v q=>⟨#[],by rw[Jg (g b _ q λz=>z),q];simp⟩⟩
 by_cases s:b=e
 ·grind
 ·grind
def Un.mono (u:Un fs ex H H1 h h1) (i:∀b∈fs,b∈fs') (hx:∀b∈ex,b∈ex'):Un fs' ex' H H1 h h1:=
 ⟨λb g q n j f=>u.keep b g q n (λz=>j (i b z)) λz=>f (hx b z),λ_ _ q n _ f=>u.any q n λz=>f (hx _ z),λb g q n f=>u.free b g q n λz=>f (hx b z),λb g q f=>u.there b g q λz=>f (hx b z),u.tups,u.frzs,u.tbls⟩
end
noncomputable def trk(h:Heap)(H:Hp):List Addr:=(List.range h.objs.size).filter λa=>(H a).isSome
noncomputable def U1(h:Heap)(H:Hp):Heap:=PySem.W.hideAll h (trk h H)
def R9(h:Heap)(H:Hp):(U1 h H).objs.size=h.objs.size:=PySem.W.hideAll_size _ _
def GY{H b o}(e:h.get? b=some o)(n:H b=none):(U1 h H).get? b=some o:=
 PySem.W.hideAll_get _ e λf=>by
  have q:=(YS.mp f).2
  grind
def SL(e:(U1 h H).get? b=some o):h.get? b=some o/\H b=none:=by
 have f:=PySem.W.of_hideAll (trk h H) e;refine⟨f,?_⟩;cases q:H b with
 |none=>rfl
 |some x=>
  have g:b∈trk h H:=YS.mpr ⟨Vx.mpr (Y6 f),by simp[q]⟩;have z:(U1 h H).get? b=none:=PySem.W.hideAll_none (trk h H) g
  grind
noncomputable def R0(g h:Heap)(L:Addr):Zw:=(List.range h.objs.size).filterMap λa=>if a=L\/(g.get? a).isSome=true then none else(h.get? a).map λo=>(a,o)
noncomputable def rest(g h:Heap)(L d:Addr):Zw:=(R0 g h L).filter λp=>decide (p.1≠d)
structure Mod (K:Zt) (mg:Zx) (base:Heap):Prop where
 kin:K.In base
 glob:base.Ns mainGlobals mg
 blt:∃mb,base.Ns builtinsNs mb/\∀x:Str,x≠"__name__"->mb x=bootBuiltins x
 nolimit:base.NoLimit
structure Cx where
 prog:Program
 w:World
 K:Zt
 mg:Zx
 base:Heap
 A:Around
 N:Z2
 s₀:Shared
 H₀:Hp
 env:Env
 outer:List Env
 stack:List Env
 ex:List Addr
 fn:Str->Bool
 calm:Bool
 pn:Zw
 xe:Zy
noncomputable def frs(l:List Env):List Addr:=l.filterMap (·.frame)
noncomputable abbrev Cx.fs (X:Cx):List Addr:=frs X.outer
def Vis(b:Scope)(x:Str):Prop:=b.names.lookup x=some .local\/b.names.lookup x=some .cell\/b.names.lookup x=some .free
def Loc(b:Scope)(x:Str):Prop:=b.names.lookup x=some .local\/b.names.lookup x=some .cell
def Look(env:Env)(h:Heap)(m:Zx)(x:Str)(u:Value):Prop:=
 (env.kindOf x=some .local/\m x=some u)\/((env.kindOf x=some .cell\/env.kindOf x=some .free)/\∃c,env.cells.lookup x=some c/\h.IsCell c (some u))
structure Cx.Ok (X:Cx):Prop where
 mod:Mod X.K X.mg X.base
 kind:X.env.scope.kind=.function
 glob:X.env.globals=mainGlobals
 blt:X.env.builtins=builtinsNs
 above:X.s₀.heap.objs.size<=X.env.locals
 inj:∀x y c,X.env.cells.lookup x=some c->X.env.cells.lookup y=some c->x=y
 has:∀x,(X.env.kindOf x=some .cell\/X.env.kindOf x=some .free)->∃c,X.env.cells.lookup x=some c
 cab:∀x c,X.fn x=true->X.env.cells.lookup x=some c->X.s₀.heap.objs.size<=c
 hd:X.calm=true->X.A.handled=none
 frames:X.A.frames=some X.stack
 stk:X.stack=X.outer\/(X.stack=X.env::X.outer/\X.env.frame=some X.env.locals)
 exf:∀b∈X.ex,b≠X.env.locals/\∀x c,X.env.cells.lookup x=some c->c≠b
 bs:∀b o,X.base.get? b=some o->X.s₀.heap.get? b=some o/\X.H₀ b=none
 bsz:X.base.objs.size<=X.s₀.heap.objs.size
 noex:∀b o,X.base.get? b=some o->b∉X.ex
 exfs:∀b∈X.ex,b∉X.fs
 funs:X.s₀.heap.FunFrames X.base X.outer
 frf:∀b∈X.fs,X.H₀ b=none
structure Inv (X:Cx) (pins:Zw) (σ:List (Option V)) (H:Hp) (s:Shared):Prop where
 ok:X.Ok
 os:s.os=X.s₀.os
 bare:AllBare s.gens
 base:Un X.fs X.ex X.H₀ H X.s₀.heap s.heap
 loc:∃m,s.heap.Ns X.env.locals m/\∀(i:Nat) (x:Str) (v:V),X.N[i]?=some x->σ[i]?=some (some v)->Vis X.env.scope x->∃u,RelV v u/\Look X.env s.heap m x u
 cell:∀x c,X.env.cells.lookup x=some c->∃v,s.heap.IsCell c v
 free:H X.env.locals=none
 freeC:∀x c,X.env.cells.lookup x=some c->H c=none
 pin:∀p∈X.pn++pins,s.heap.get? p.1=some p.2/\H p.1=none/\p.1≠X.env.locals/\p.1∉X.fs/\∀v,p.2.data≠.cell v
 hok:HOk X.prog X.w H s.heap
 len:σ.length=X.N.length
section
variable {X:Cx}{pins:Zw}{σ:List (Option V)}{H H':Hp}{s:Shared}{h':Heap}
def Cx.Ok.nofr (ok:X.Ok) {b o} (e:X.base.get? b=some o):b∉X.fs:=λf=>by
 have:=(ok.funs.mem f).1
 grind
def Inv.bs (I:Inv X pins σ H s):∀b o,X.base.get? b=some o->s.heap.get? b=some o/\H b=none:=λb o e=>
 ⟨I.base.keep b o (I.ok.bs b o e).1 (I.ok.bs b o e).2 (I.ok.nofr e) (I.ok.noex b o e),I.base.free b o (I.ok.bs b o e).1 (I.ok.bs b o e).2 (I.ok.noex b o e)⟩
def Inv.bk (I:Inv X pins σ H s):∀b o,X.base.get? b=some o->s.heap.get? b=some o:=λb o e=>(I.bs b o e).1
def Inv.mod (I:Inv X pins σ H s):Mod X.K X.mg X.base:=I.ok.mod
def Inv.kIn (I:Inv X pins σ H s):X.K.In s.heap:=I.ok.mod.kin.keeps I.bk
def Inv.nolimit (I:Inv X pins σ H s):s.heap.NoLimit:=I.ok.mod.nolimit.keeps I.bk
def Inv.lt (I:Inv X pins σ H s):X.env.locals<s.heap.objs.size:=let ⟨_,b,_⟩:=I.loc;b.lt
def Inv.sz (I:Inv X pins σ H s):X.s₀.heap.objs.size<=s.heap.objs.size:=Y8 I.ok.above (Q5 I.lt)
def Inv.nofs (I:Inv X pins σ H s) {a:Addr} (h:s.heap.objs.size<=a):a∉X.fs:=λf=>by
 obtain⟨_,o,b,_⟩:=I.ok.funs.mem f;exact absurd (YM (Y6 b)<|Y8 I.sz h) (WM _)
def Inv.cne (I:Inv X pins σ H s):∀x c,X.env.cells.lookup x=some c->c≠X.env.locals:=λx c e z=>by
 obtain⟨v,o,h,i⟩:=I.cell x c e;obtain⟨m,⟨g,j,l,b,f,_⟩,_⟩:=I.loc
 grind
def Inv.funs (I:Inv X pins σ H s):s.heap.FunFrames X.base X.outer:=by
 have all:∀l,(∀b∈frs l,b∈X.fs)->X.s₀.heap.FunFrames X.base l->s.heap.FunFrames X.base l:=by
  intro l
  induction l with
  |nil=>intro _ _;trivial
  |cons x r j=>
   intro i u;obtain⟨v,⟨L,o,f,q,p,w⟩,n⟩:=u;have h:=i L (by unfold frs;rw[WQ,f];exact Wb);obtain⟨sl,e⟩:=I.base.slot L o p (I.ok.frf L h) h λz=>I.ok.exfs L z h;exact⟨v,⟨L,_,f,q,e,w⟩,j (λb g=>i b (by unfold frs;rw[WQ,f];exact YT _ g)) n⟩
 exact all X.outer (λ_ g=>g) I.ok.funs
def Inv.stack (I:Inv X pins σ H s):s.heap.FunFrames X.base X.stack:=by
 rcases I.ok.stk with e|⟨e,f⟩
 ·rw[e];exact I.funs
 ·rw[e];obtain⟨m,b,_⟩:=I.loc;refine .cons (by rw[I.ok.kind];decide) f b ?_ I.funs;exact Vi (Y8 I.ok.bsz I.ok.above)
def Inv.stkSub (I:Inv X pins σ H s):∀b∈frs X.stack,b∈X.env.locals::X.fs:=λb f=>by
 rcases I.ok.stk with e|⟨e,g⟩
 ·grind
 ·rw[e]at f;unfold frs at f;rw[WQ,g]at f;trivial
def Inv.stkFree (I:Inv X pins σ H s):∀b∈frs X.stack,H b=none:=λb f=>by
 rcases YA.mp (I.stkSub b f)with e|f
 ·rw[e];exact I.free
 ·obtain⟨_,o,g,_⟩:=I.ok.funs.mem f;exact I.base.free b o g (I.ok.frf b f) λz=>I.ok.exfs b z f
def Inv.step {d'}{ch:List Addr} (I:Inv X pins σ H s)
  (g:∀b∈ch,(b∈X.ex\/X.s₀.heap.objs.size<=b)/\b≠X.env.locals/\(∀x c,X.env.cells.lookup x=some c->c≠b)/\∀p∈X.pn++pins,p.1≠b)
  (keep:∀b o,b≠X.env.locals->b∉X.fs->b∉ch->s.heap.get? b=some o->H b=none->h'.get? b=some o)
  (slot:∀b o,b≠X.env.locals->b∈X.fs->b∉ch->s.heap.get? b=some o->H b=none->∃sl,h'.get? b=some {o with slots:=sl}) (free:∀b o,b∉ch->s.heap.get? b=some o->H b=none->H' b=none)
  (there:∀b o,b∉ch->s.heap.get? b=some o->∃o',h'.get? b=some o')
  (tups:∀b xs,H b=some (.tup xs)->H' b=some (.tup xs)) (frzs:∀b o u,H b=some (.frz o u)->H' b=some (.frz o u)) (tbls:∀b ps,H b=some (.tbl ps)->∃more,H' b=some (.tbl (ps++more)))
  (ns:∀m,s.heap.Ns X.env.locals m->h'.Ns X.env.locals m) (G:HOk X.prog X.w H' h') (Y:AllBare g') :
  Inv X pins σ H' {s with heap:=h',gens:=g',drawn:=d',toks:=t'}:=by
 have A:∀b o,X.s₀.heap.get? b=some o->b≠X.env.locals:=λb o e=>YJ (YM (Y6 e) I.ok.above)
 have f:∀b o,X.s₀.heap.get? b=some o->b∉X.ex->b∉ch:=λb o e hx j=>by
  rcases(g b j).1 with z|z
  ·exact hx z
  ·exact absurd (YM (Y6 e) z) (WM _)
 have cellK:∀x c,X.env.cells.lookup x=some c->∀v,s.heap.IsCell c v->h'.IsCell c v:=λx c e v ⟨o,y,J⟩=>by
  have B:=λz=>(g c z).2.2.1 x c e rfl;by_cases L:c∈X.fs
  ·obtain⟨sl,q⟩:=slot c o (I.cne x c e) L B y (I.freeC x c e);exact⟨_,q,J⟩
  ·exact⟨o,keep c o (I.cne x c e) L B y (I.freeC x c e),J⟩
 refine⟨I.ok,I.os,Y,⟨λb o e n j hx=>?_,λb o e n j hx=>?_,λb o e n hx=>?_,λb o e hx=>?_,λb xs e=>tups b xs (I.base.tups b xs e),λb o xs e=>frzs b o xs (I.base.frzs b o xs e),λb ps e=>?_⟩,?_,λx c e=>?_,?_,λx c e=>?_,λp Q=>?_,G,I.len⟩
 ·exact keep b o (A b o e) j (f b o e hx) (I.base.keep b o e n j hx) (I.base.free b o e n hx)
 ·obtain⟨sl,h⟩:=I.base.slot b o e n j hx;obtain⟨E,C⟩:=slot b _ (A b o e) j (f b o e hx) h (I.base.free b o e n hx);exact⟨E,C⟩
 ·obtain⟨o',h⟩:=I.base.there b o e hx;exact free b o' (f b o e hx) h (I.base.free b o e n hx)
 ·obtain⟨o',h⟩:=I.base.there b o e hx;exact there b o' (f b o e hx) h
 ·obtain⟨N,h⟩:=I.base.tbls b ps e;obtain⟨M,C⟩:=tbls b _ h;exact⟨N++M,by rw[C,Array.append_assoc]⟩
 ·obtain⟨m,T,U⟩:=I.loc;refine⟨m,ns m T,λi x v h C e3=>?_⟩;obtain⟨u,r,l⟩:=U i x v h C e3;refine⟨u,r,?_⟩;rcases l with l|⟨k,c,e,z⟩
  ·exact .inl l
  ·exact .inr ⟨k,c,e,cellK x c e _ z⟩
 ·obtain⟨v,z⟩:=I.cell x c e;exact⟨v,cellK x c e v z⟩
 ·obtain⟨m,⟨o,_,_,y,_⟩,_⟩:=I.loc;exact free _ o (λz=>(g _ z).2.1 rfl) y I.free
 ·obtain⟨v,o,y,J⟩:=I.cell x c e;exact free c o (λz=>(g c z).2.2.1 x c e rfl) y (I.freeC x c e)
 ·obtain⟨e,n,ne,nf,d⟩:=I.pin p Q
  grind
def Inv.un (I:Inv X pins σ H s) (u:Un X.fs [] H H' s.heap h') (g:HOk X.prog X.w H' h'):Inv X pins σ H' {s with heap:=h',toks:=t'}:=by
 obtain⟨m,⟨o,A,B,l,r⟩,_⟩:=id I.loc;obtain⟨sl,v⟩:=u.any l I.free (by simp)
 exact I.step (ch:=[]) (λ_ z=>nomatch z) (λb o _ h _ e n=>u.keep b o e n h (by simp)) (λb o _ h _ e n=>u.slot b o e n h (by simp)) (λb o _ e n=>u.free b o e n (by simp)) (λb o _ e=>u.there b o e (by simp)) u.tups u.frzs u.tbls (λy q=>by
  obtain⟨x,i,j,f,p⟩:=q;rw[l]at f;cases f;exact⟨_,i,j,v,p⟩) g I.bare
def Inv.call {d'}{ch} (I:Inv X pins σ H s) (u:Un (frs X.stack) ch H H' s.heap h') (i:HOk X.prog X.w H' h') (B:AllBare E)
  (h:∀b∈ch,(b∈X.ex\/X.s₀.heap.objs.size<=b)/\b≠X.env.locals/\(∀x c,X.env.cells.lookup x=some c->c≠b)/\∀p∈X.pn++pins,p.1≠b) :
  Inv X pins σ H' {s with heap:=h',gens:=E,drawn:=d',toks:=t'}:=by
 obtain⟨m,⟨o,L,M,v,r⟩,_⟩:=id I.loc;obtain⟨sl,j⟩:=u.any v I.free λz=>(h _ z).2.1 rfl
 exact I.step h (λb o j C f e n=>u.keep b o e n (λz=>(YA.mp<|I.stkSub b z).elim j C) f) (λb o _ _ f e n=>u.any e n f) (λb o f e n=>u.free b o e n f) (λb o f e=>u.there b o e f) u.tups u.frzs u.tbls (λJ A=>by
  obtain⟨G,l,q,g,y⟩:=A;rw[v]at g;cases g;exact⟨_,l,q,j,y⟩) i B
def Inv.turned {it} (I:Inv X pins σ H s) (k:∀b o,b≠it->s.heap.get? b=some o->h'.get? b=some o) (y:H it=none) (i:it≠X.env.locals)
  (E:it∈X.ex\/X.s₀.heap.objs.size<=it) (C:∀x c,X.env.cells.lookup x=some c->c≠it) (B:∀p∈X.pn++pins,p.1≠it):Inv X pins σ H {s with heap:=h',toks:=t'}:=by
 refine I.step (ch:=[it]) (λb A=>?_) (λb o _ _ f e _=>k b o (λz=>f (by simp[z])) e) (λb o _ _ f e _=>⟨o.slots,k b o (λz=>f (by simp[z])) e⟩) (λ_ _ _ _ n=>n)
  (λb o f e=>⟨o,k b o (λz=>f (by simp[z])) e⟩) (λ_ _ e=>e) (λ_ _ _ e=>e) (λb w e=>⟨#[],by rw[e];simp⟩) (λm h=>?_) (λb u e=>?_) I.bare
 ·grind
 ·obtain⟨o,j,l,g,r⟩:=h;exact⟨o,j,l,k _ o (Ne.symm i) g,r⟩
 ·refine(I.hok b u e).stay (λc v f q=>k c v ?_ q) (λ_ q=>q) λ_ _ q=>q;rcases f with z|z
  ·grind
  ·grind
def Inv.tok (I:Inv X pins σ H s) (t:Nat):Inv X pins σ H {s with toks:=t}:=I.un Un.refl I.hok
def Inv.kept (I:Inv X pins σ H s) (k:∀b u,s.heap.get? b=some u->h'.get? b=some u):Inv X pins σ H {s with heap:=h',toks:=t'}:=I.un (Un.kept k) (I.hok.kept k)
def Inv.laid {a:Addr}{o}{t'} (I:Inv X pins σ H s) (k:∀b u,s.heap.get? b=some u->h'.get? b=some u) (f:s.heap.objs.size<=a) (new:ObjOk X.prog X.w (upd H a o) h' a o) :
  Inv X pins σ (upd H a o) {s with heap:=h',toks:=t'}:=I.un (Un.laid k f<|I.hok.fresh f) (I.hok.laid k f new)
def Inv.write (I:Inv X pins σ H s) (g:Mut (H x)) (h:e=x\/H e=some (.own x)) (k:∀b u,b≠e->s.heap.get? b=some u->h'.get? b=some u) (f:∃u,h'.get? e=some u)
  (new:ObjOk X.prog X.w (upd H x o) h' x o):Inv X pins σ (upd H x o) {s with heap:=h',toks:=t'}:=I.un (Un.write g h k f) (I.hok.write g h k f new)
def Inv.weak (I:Inv X pins σ H s) (h:b.length=σ.length) (w:∀(i:Nat) v,b[i]?=some (some v)->σ[i]?=some (some v)):Inv X pins b H s:=
 ⟨I.ok,I.os,I.bare,I.base,let ⟨m,g,f⟩:=I.loc;⟨m,g,λi x v n l j=>f i x v n (w i v l) j⟩,I.cell,I.free,I.freeC,I.pin,I.hok,h.trans I.len⟩
def Inv.pins_of (I:Inv X pins σ H s) (h:∀p∈pins',s.heap.get? p.1=some p.2/\H p.1=none/\p.1≠X.env.locals/\p.1∉X.fs/\∀v,p.2.data≠.cell v):Inv X pins' σ H s:=
 ⟨I.ok,I.os,I.bare,I.base,I.loc,I.cell,I.free,I.freeC,λp b=>(Wc.mp b).elim (λz=>I.pin p (WI _ z)) (h p),I.hok,I.len⟩
def El{N:Z2}(f:N.Nodup){i j:Nat}{x}(a:N[i]?=some x)(b:N[j]?=some x):i=j:=by
 obtain⟨n,h⟩:=Wm.mp a;obtain⟨l,g⟩:=Wm.mp b;exact(List.getElem_inj f).mp (h.trans g.symm)
def Za8{i x v u Q}(I:Inv X pins σ H s)(hN:X.N.Nodup)(hi:X.N[i]?=some x)(hx:Loc X.env.scope x)(r:RelV v u)(h:∀s',Inv X pins (σ.set i<|some v) H s'->(∃a,Heap.SameBut a s.heap s'.heap/\(a=X.env.locals\/X.env.cells.lookup x=some a))->Q () s')(hf:autoParam (X.fn x=true\/X.env.scope.names.lookup x=some .local) au_2):wpAny M A (storeName X.env x u) Q E s:=by
 obtain⟨m,hn,hl⟩:=id I.loc;have hcls:(X.env.scope.kind == .class || (X.env.scope.kind == .module&&X.env.locals != X.env.globals))=false:=by rw[I.ok.kind];rfl
 have J:i<σ.length:=by rw[I.len];exact(Wm.mp hi).1
 have cne:=I.cne
 have tracked:∀{a:Addr} {h':Heap},(∃o,s.heap.get? a=some o/\H a=none)->Heap.SameBut a s.heap h'->HOk X.prog X.w H h':=λ{a h'} ha f b ob e=>by
  obtain⟨_,_,B⟩:=ha;refine(I.hok b ob e).stay (λc w' l q=>(f.2 c ?_).trans q) (λ_ q=>q) λ_ _ q=>q;rintro rfl;rcases l with rfl|l
  ·rw[B]at e;cases e
  ·rw[B]at l;cases l
 rcases hx with G|G
 ·refine wpAny_storeName_local G hn (λh' hn' f=>?_) hcls;obtain⟨oL,_,_,hoL,_⟩:=id hn;refine h _ ⟨I.ok,I.os,I.bare,⟨λb o e n U hx=>?_,λb o e n U hx=>?_,I.base.free,λb o e hx=>?_,I.base.tups,I.base.frzs,I.base.tbls⟩,⟨_,hn',λj y v' g C e3=>?_⟩,λy c e=>?_,I.free,I.freeC,λp hp=>?_,tracked ⟨oL,hoL,I.free⟩ f,by simpa using I.len⟩ ⟨_,f,.inl rfl⟩
  ·exact(f.2 b<|YJ<|YM (Y6 e) I.ok.above).trans (I.base.keep b o e n U hx)
  ·obtain⟨sl,g⟩:=I.base.slot b o e n U hx;exact⟨sl,(f.2 b<|YJ<|YM (Y6 e) I.ok.above).trans g⟩
  ·obtain⟨o',g⟩:=I.base.there b o e hx;exact⟨o',(f.2 b<|YJ<|YM (Y6 e) I.ok.above).trans g⟩
  ·by_cases L:j=i
   ·subst L;rw[hi]at g;cases g;rw[List.getElem?_set_self J]at C;cases C
    exact⟨u,r,.inl ⟨G,by simp⟩⟩
   ·rw[Vj (Ne.symm L)]at C;obtain⟨u',r',q⟩:=hl j y v' g C e3;refine⟨u',r',?_⟩;rcases q with⟨k,e⟩|⟨k,c,e,z⟩
    ·refine .inl ⟨k,?_⟩
     have:y≠x:=λe=>L (El hN g (e▸hi))
     simp[this,e]
    ·exact .inr ⟨k,c,e,z.sameBut f (cne y c e)⟩
  ·obtain⟨w',z⟩:=I.cell y c e;exact⟨w',z.sameBut f (cne y c e)⟩
  ·obtain⟨e,n,ne,nf,d⟩:=I.pin p hp;exact⟨(f.2 p.1 ne).trans e,n,ne,nf,d⟩
 ·have T:X.fn x=true:=by
   rcases hf with z|z
   ·exact z
   ·rw[z]at G;cases G
  obtain⟨c,l⟩:=I.ok.has x (.inl G);obtain⟨w',z⟩:=I.cell x c l;refine wpAny_storeName_cell I.ok.kind G l z (λh' hc' f=>?_);obtain⟨oc,hoc,Y⟩:=id z;refine h {s with heap:=h'} ⟨I.ok,I.os,I.bare,⟨λb o e n U hx=>?_,λb o e n U hx=>?_,I.base.free,λb o e hx=>?_,I.base.tups,I.base.frzs,I.base.tbls⟩,⟨m,hn.sameBut f (Ne.symm<|cne x c l),λj y v' g C e3=>?_⟩,λy c' e=>?_,I.free,I.freeC,λp hp=>?_,tracked ⟨oc,hoc,I.freeC x c l⟩ f,by simpa using I.len⟩ ⟨c,f,.inr l⟩
  ·exact(f.2 b<|YJ<|YM (Y6 e)<|I.ok.cab x c T l).trans (I.base.keep b o e n U hx)
  ·obtain⟨sl,g⟩:=I.base.slot b o e n U hx;exact⟨sl,(f.2 b<|YJ<|YM (Y6 e)<|I.ok.cab x c T l).trans g⟩
  ·obtain⟨o',g⟩:=I.base.there b o e hx;exact⟨o',(f.2 b<|YJ<|YM (Y6 e)<|I.ok.cab x c T l).trans g⟩
  ·by_cases L:j=i
   ·subst L;rw[hi]at g;cases g;rw[List.getElem?_set_self J]at C;cases C
    exact⟨u,r,.inr ⟨.inl G,c,l,hc'⟩⟩
   ·rw[Vj (Ne.symm L)]at C;obtain⟨u',r',q⟩:=hl j y v' g C e3;refine⟨u',r',?_⟩;rcases q with q|⟨k,c',e,z'⟩
    ·exact .inl q
    ·refine .inr ⟨k,c',e,z'.sameBut f ?_⟩;rintro rfl;exact L (El hN g (I.ok.inj _ _ _ e l▸hi))
  ·by_cases hcc:c'=c
   ·subst hcc;exact⟨_,hc'⟩
   ·obtain⟨w2,z2⟩:=I.cell y c' e;exact⟨w2,z2.sameBut f hcc⟩
  ·obtain⟨e,n,ne,nf,d⟩:=I.pin p hp;refine⟨(f.2 p.1 ?_).trans e,n,ne,nf,d⟩;intro q;rw[q,hoc]at e;exact d w' (by rw[←(YC e)];exact Y)
def XM{i x v u Q}(I:Inv X pins σ H s)(j:X.N.Nodup)(f:X.N[i]?=some x)(hx:Loc X.env.scope x)(r:RelV v u)(h:∀b,Inv X pins (σ.set i<|some v) H b->Q () b)(g:autoParam (X.fn x=true\/X.env.scope.names.lookup x=some .local) au_2):wpAny M A (storeName X.env x u) Q E s:=
 Za8 I j f hx r (λb l _=>h b l) g
def Inv.call' {ch} (I:Inv X pins σ H s) (i:f.os=s.os) (u:Un (frs X.stack) ch H H' s.heap f.heap) (g:HOk X.prog X.w H' f.heap) (j:AllBare f.gens)
  (h:∀b∈ch,(b∈X.ex\/X.s₀.heap.objs.size<=b)/\b≠X.env.locals/\(∀x c,X.env.cells.lookup x=some c->c≠b)/\∀p∈X.pn++pins,p.1≠b):Inv X pins σ H' f:=by
 obtain⟨h',o,q,l,n⟩:=f;subst i;exact I.call u g j h
end
abbrev XK:=Value->Z6->Hp->Prop
abbrev St:=List (Option V)
abbrev VK:=V->Hp->Prop
abbrev TE:=St->Hp->VK->Prop
abbrev TT:=St->Hp->(Bool->Hp->Prop)->Prop
abbrev TA:=St->Hp->(List V->Hp->Prop)->Prop
structure Ends where
 nx:St->Hp->Prop
 rt:VK
 bk:St->Hp->Prop:=λ_ _=>False
 ct:St->Hp->Prop:=λ_ _=>False
abbrev TS:=Ends->St->Hp->Prop
def EP(X:Cx)(pins:Zw)(f:St)(Q:VK)(u:Value)(g:Shared):Prop:=∃v b,Inv X pins f b g/\RelV v u/\Q v b
def TP(X:Cx)(pins:Zw)(g:St)(Q:Bool->Hp->Prop)(b:Bool)(h:Shared):Prop:=∃f,Inv X pins g f h/\Q b f
def AP(X:Cx)(pins:Zw)(g:St)(Q:List V->Hp->Prop)(us:Z1)(h:Shared):Prop:=∃b f,Inv X pins g f h/\Vals b us/\Q b f
def SP(X:Cx)(pins:Zw)(D:Ends)(f:Flow)(h:Shared):Prop:=
 match f with
 | .next=>∃b g,Inv X pins b g h/\D.nx b g
 | .brk=>∃b g,Inv X pins b g h/\D.bk b g
 | .cont=>∃b g,Inv X pins b g h/\D.ct b g
 | .ret u=>∃v b g,Inv X pins b g h/\RelV v u/\D.rt v g
def PE(X:Cx)(e:Expr)(t:TE):Prop:=
 ∀(pins:Zw) (s:Shared) (b:St) (H:Hp) (Q:VK),Inv X pins b H s->t b H Q->wpAny (model X.prog X.w) X.A (eval e X.env) (EP X pins b Q) X.xe s
def PT(X:Cx)(e:Expr)(t:TT):Prop:=
 ∀(pins:Zw) (s:Shared) (b:St) (H:Hp) (Q:Bool->Hp->Prop),Inv X pins b H s->t b H Q->wpAny (model X.prog X.w) X.A (isTrue e X.env<|eval e X.env) (TP X pins b Q) X.xe s
def PW(X:Cx)(e:Expr)(t:TT):Prop:=
 ∀(whole:Sem Value) (pins:Zw) (s:Shared) (b:St) (H:Hp) (Q:Bool->Hp->Prop),Inv X pins b H s->t b H Q->wpAny (model X.prog X.w) X.A (isTrue e X.env whole) (TP X pins b Q) X.xe s
def PW.pt (h:PW X e t):PT X e t:=h _
def PA(X:Cx)(es:Z3)(t:TA):Prop:=
 ∀(pos:Pos) (pins:Zw) (s:Shared) (b:St) (H:Hp) (Q:List V->Hp->Prop),Inv X pins b H s->t b H Q->wpAny (model X.prog X.w) X.A (spliced<|backTo pos<|starEach es X.env) (AP X pins b Q) X.xe s
def PS(X:Cx)(st:Stmt)(t:TS):Prop:=
 ∀(pins:Zw) (s:Shared) (b:St) (H:Hp) (D:Ends),Inv X pins b H s->t D b H->wpAny (model X.prog X.w) X.A (exec st X.env) (SP X pins D) X.xe s
def PSs(X:Cx)(st:Z4)(t:TS):Prop:=
 ∀(pins:Zw) (s:Shared) (b:St) (H:Hp) (D:Ends),Inv X pins b H s->t D b H->wpAny (model X.prog X.w) X.A (execs st X.env) (SP X pins D) X.xe s
def thn{M A E s}(h:wpAny M A t Q E s)(b:∀a s,Q a s->f a s):wpAny M A t f E s:=Wl h b λ_ _ x=>x
section
variable {X:Cx}
def bin{q p}(C:PE X a q)(B:PE X b p){pins}{s}{g:St}{H}{R:V->V->Hp->Prop}(I:Inv X pins g H s)(h:q g H λx o=>p g o λy l=>R x y l){α}{Q}{f:Value->Value->Sem α}(M:∀v u n x y l,Inv X pins g l n->RelV x v->RelV y u->R x y l->wpAny (model X.prog X.w) X.A (f v u) Q X.xe n) :
  wpAny (model X.prog X.w) X.A (eval a X.env) (λv j=>wpAny (model X.prog X.w) X.A (eval b X.env) (λu i=>wpAny (model X.prog X.w) X.A (f v u) Q X.xe i) X.xe j) X.xe s:=by
 refine thn (C pins s g H _ I h) λv r ⟨x,o,E,J,z⟩=>?_;refine thn (B pins r g o _ E z) λu n ⟨y,l,N,G,L⟩=>?_
 grind
noncomputable def UE(i:Nat):TE:=λb H Q=>∃v,b[i]?=some (some v)/\Q v H
noncomputable def tC(v:V):TE:=λ_ H Q=>Q v H
def Rn{pos}(z:X.N[i]?=some x)(p:Vis X.env.scope x)(g:autoParam ((x==("__debug__" : Str))=false) au_1)(j:autoParam ((x==("__classdict__" : Str))=false) au_1):PE X (.Name x pos) (UE i):=by
 intro pins s o H Q I h;obtain⟨v,e,h⟩:=h;obtain⟨m,q,y⟩:=I.loc;obtain⟨u,r,l⟩:=y i x v z e p;have fin:EP X pins o Q u s:=⟨v,H,I,r,h⟩;rcases l with⟨f,w⟩|⟨f,c,n,b⟩
 ·exact wpAny_Name (wpAny_loadName_local I.ok.kind f q w fin) g
 ·rcases f with f|f
  ·exact wpAny_Name (wpAny_loadName_cell I.ok.kind f n b fin) g
  ·exact wpAny_Name (wpAny_loadName_free I.ok.kind f n b fin j) g
def Jp:PE X (.Constant (.int i) j pos) (tC<|.int i):=λ_ _ _ H _ I h=>wpAny_Constant_int ⟨.int i,H,I.tok _,⟨_,rfl⟩,h⟩
def UN:PE X (.Constant (.bool b) j pos) (tC<|.bl b):=λ_ _ _ H _ I h=>Constant_bool ⟨.bl b,H,I,rfl,h⟩
def OW:PE X (.Constant .none j pos) (tC .non):=λ_ _ _ H _ I h=>Constant_none ⟨.non,H,I,rfl,h⟩
def Zbs:PE X (.Constant (.str x) j pos) (tC<|.str x):=λ_ _ _ H _ I h=>Calls.Constant_str ⟨.str x,H,I.tok _,⟨_,rfl⟩,h⟩
def Gl(X:Cx)(x:Str):Prop:=X.env.kindOf x=some .globalImplicit
def BO{pins}{s}{b:St}{H}{x}{u}{pos}{Q}(I:Inv X pins b H s)(g:Gl X x)(f:X.mg x=some u)(h:Q u s)(i:autoParam ((x==("__debug__" : Str))=false) au_1):wpAny (model X.prog X.w) X.A (eval (.Name x pos) X.env) Q E s:=
 Calls.Name_function_global I.ok.kind g (Calls.loadGlobal_global (by rw[I.ok.glob];exact I.mod.glob.keeps I.bk) f h) i
def X3{E}{pins}{s}{b:St}{H}{x}{u}{pos}{Q}(I:Inv X pins b H s)(j:Gl X x)(i:X.mg x=none)(f:bootBuiltins x=some u)(h:Q u s)(g:autoParam (x≠"__name__") au_1)(l:autoParam ((x==("__debug__" : Str))=false) au_1):wpAny (model X.prog X.w) X.A (eval (.Name x pos) X.env) Q E s:=by
 obtain⟨p,o,n⟩:=I.mod.blt;exact Calls.Name_function_global I.ok.kind j (Calls.loadGlobal_builtin (by rw[I.ok.glob];exact I.mod.glob.keeps I.bk) i (by rw[I.ok.blt];exact o.keeps I.bk) ((n x g).trans f) h) l
def OY{u pos}(f:Gl X x)(b:X.mg x=some u)(r:RelV v u)(g:autoParam ((x==("__debug__" : Str))=false) au_1):PE X (.Name x pos) (tC v):=
 λ_ _ _ H _ I h=>BO I f b ⟨v,H,I,r,h⟩ g
def Kw{u pos}(i:Gl X x)(g:X.mg x=none)(b:bootBuiltins x=some u)(r:RelV v u)(f:autoParam (x≠"__name__") au_1)(j:autoParam ((x==("__debug__" : Str))=false) au_1):PE X (.Name x pos) (tC v):=
 λ_ _ _ H _ I h=>X3 I i g b ⟨v,H,I,r,h⟩ f j
variable {a b:Expr}{ta tb:TE}{pos:Pos}
def PC(X:Cx)(i:CmpOp)(a b:Expr)(t:TE):Prop:=
 ∀(pins:Zw) (s:Shared) (h:St) (H:Hp) (Q:VK),Inv X pins h H s->t h H Q->
  wpAny (model X.prog X.w) X.A (eval a X.env) (λv g=>wpAny (model X.prog X.w) X.A (eval b X.env) (λu f=>wpAny (model X.prog X.w) X.A (compareOp i v u) (EP X pins h Q) X.xe f) X.xe g) X.xe s
def Hc(b:Expr){op}(h:op≠.In)(i:op≠.NotIn):behindInMarks op b=false:=by
 have g:(op==CmpOp.In)=false:=by grind
 have f:(op==CmpOp.NotIn)=false:=by grind
 cases b<;>simp[behindInMarks,g,f]
noncomputable def tB(t:TE):TT:=λf H Q=>t f H λx g=>∃c,x=.bl c/\Q c g
def NG(h:PC X g a b t)(f:behindInMarks g b=false:=by first|exact Hc _ (by decide) (by decide)|rfl):PT X (.Compare a [g] [b] pos) (tB t):=by
 intro pins s i H Q I hw;refine wpAny_isTrue_Compare1 (thn (h pins s i H _ I hw) λv y f=>thn f λu w n=>thn n ?_) f;rintro c r ⟨x,p,o,j,l⟩;obtain⟨d,rfl,q⟩:=l;cases j
 exact Qc ⟨p,o,q⟩
variable {tA tB':TT}{rest:Z3}
noncomputable def Eb(t u:TT):TT:=λf H Q=>t f H λc g=>if c=true then u f g Q else Q false g
noncomputable def tOr(t u:TT):TT:=λf H Q=>t f H λc g=>if c=true then Q true g else u f g Q
noncomputable def Gc(t:TT):TT:=λf H Q=>t f H λc g=>Q (!c) g
def B0(g:PT X a tA):PW X (.BoolOp .And [a] pos) tA:=by
 intro i pins s f H Q I h;refine isTrue_and (thn (g pins s f H Q I h) λc j e=>?_);cases c with
 |true=>exact isTrue_and_nil e
 |false=>exact e
def Fc(g:PT X a tA):PW X (.BoolOp .Or [a] pos) tA:=by
 intro i pins s f H Q I h;refine isTrue_or (thn (g pins s f H Q I h) λc j e=>?_);cases c with
 |false=>exact isTrue_or_nil e
 |true=>exact e
def NU(n:PT X a tA)(l:PW X (.BoolOp .And (b::rest) pos) tB'):PW X (.BoolOp .And (a::b::rest) pos) (Eb tA tB'):=by
 intro g pins s f H Q I h;refine isTrue_and (thn (n pins s f H _ I h) λc i ⟨p,o,j⟩=>?_);cases c with
 |true=>exact l g pins i f p Q o j
 |false=>trivial
def BZ(n:PT X a tA)(l:PW X (.BoolOp .Or (b::rest) pos) tB'):PW X (.BoolOp .Or (a::b::rest) pos) (tOr tA tB'):=by
 intro g pins s f H Q I h;refine isTrue_or (thn (n pins s f H _ I h) λc i ⟨p,o,j⟩=>?_);cases c with
 |true=>trivial
 |false=>exact l g pins i f p Q o j
def XU(g:PT X a tA):PT X (.UnaryOp .Not a pos) (Gc tA):=by
 intro pins s f H Q I h;exact isTrue_not (g pins s f H (λc i=>Q (!c) i) I h)
noncomputable def G5(ta tb:TE):TE:=λf H Q=>ta f H λx g=>∃c,x=.bl c/\if c=true then tb f g Q else Q (.bl false) g
noncomputable def FV(ta:TE):TE:=λf H Q=>ta f H λx g=>∃c,x=.bl c/\Q (.bl (!c)) g
def Bp{t}(h:PE X a t):PE X (.BoolOp f [a] pos) t:=by trivial
def N2(p:PE X a ta)(o:PE X (.BoolOp .And (b::rest) pos) tb):PE X (.BoolOp .And (a::b::rest) pos) (G5 ta tb):=by
 intro pins s g H Q I h;refine BoolOp_and (thn (p pins s g H _ I h) ?_);rintro v l ⟨x,j,i,n,f⟩;obtain⟨c,rfl,f⟩:=f;cases n
 refine Qc ?_;cases c with
 |true=>exact o pins l g j Q i f
 |false=>exact⟨.bl false,j,i,rfl,f⟩
def FT(j:PE X a ta):PE X (.UnaryOp .Not a pos) (FV ta):=by
 intro pins s g H Q I h;refine UnaryOp_ (thn (j pins s g H _ I h) ?_);rintro v o ⟨x,n,l,i,f⟩;obtain⟨c,rfl,f⟩:=f;cases i
 exact not_of (Qc ⟨.bl (!c),n,l,rfl,f⟩)
end
def SqL(K:Zt)(H:Hp)(a:Addr)(xs:List V):Prop:=
 Rd H a (.lst xs)\/
  ∃(o:Obj) (b:Z7) (n:Nat),K.lookup a=some o/\o.cls=.type "list"/\o.dict=none/\o.data=.seq b n/\b.size<=sizeLine/\Vals xs b.toList
def SqT(K:Zt)(H:Hp)(a:Addr)(xs:List V):Prop:=
 Rd H a (.tup xs)\/
  ∃(o:Obj) (b:Z7) (n:Nat),K.lookup a=some o/\o.cls=.type "tuple"/\o.data=.seq b n/\b.size<=sizeLine/\Vals xs b.toList
noncomputable def HF:Value->Option V
 | .none=>some .non
 | .bool b=>some (.bl b)
 | .int i _=>some (.int i)
 | .str x _=>some (.str x)
 | .bytes b _=>some (.byt b)
 | .float b _=>some (.flt b)
 | .ref a=>some (.ref a)
 | .type n=>some (.ty n)
 |_=>none
def RelV.abs (r:RelV x u):HF u=some x:=by
 cases x with
 |non|bl _|ref _|ty _=>cases r;rfl
 |_=>obtain⟨t,rfl⟩:=r;rfl
def RelV.inj {u} (r:RelV x u) (q:RelV y u):x=y:=YC (r.abs.symm.trans q.abs)
def Vals.inj:∀{xs ys}{us:Z1},Vals xs us->Vals ys us->xs=ys:=by
 intro j
 induction j with
 |nil=>
  intro _ _ h g;cases h
  cases g
  rfl
 |cons _ _ i=>
  intro _ _ h g;cases h with
  |cons h r=>
   cases g with
   |cons f b=>rw[h.inj f,i r b]
section
variable {X:Cx}{pins:Zw}{σ:St}{H:Hp}{s:Shared}{a:Addr}{xs ys:List V}
def SqL.of {K} (h:H a=some (.lst xs)):SqL K H a xs:=.inl (.inl h)
def SqT.of {K} (h:H a=some (.tup xs)):SqT K H a xs:=.inl (.inl h)
def Inv.list (I:Inv X pins σ H s) (h:SqL X.K H a xs):∃b,Vals xs b/\PlainL s.heap a b.toArray/\xs.length<=sizeLine:=by
 rcases h with h|⟨o,b,n,g,j,i,f,l,r⟩
 ·obtain⟨z,b,n,r,e⟩:=h.ok I.hok;exact⟨b,r,⟨_,n,e,rfl,rfl,rfl⟩,z⟩
 ·refine⟨b.toList,r,⟨o,n,I.kIn a o g,j,i,by simpa using f⟩,?_⟩;have e:=r.length
  grind
def Inv.tuple (I:Inv X pins σ H s) (h:SqT X.K H a xs):∃b,Vals xs b/\IsTup s.heap a b.toArray/\xs.length<=sizeLine:=by
 rcases h with h|⟨o,b,n,g,i,f,j,r⟩
 ·obtain⟨z,b,r,p⟩:=h.ok I.hok
  grind
 ·refine⟨b.toList,r,⟨o,I.kIn a o g,i,n,by simpa using f⟩,?_⟩;have e:=r.length
  grind
def Inv.list_inj (I:Inv X pins σ H s) (h:SqL X.K H a xs) (h':SqL X.K H a ys):xs=ys:=by
 obtain⟨f,r,⟨o,n,e,_,_,d⟩,_⟩:=I.list h;obtain⟨b,g,⟨i,j,l,_,_,p⟩,_⟩:=I.list h'
 have:f=b:=by grind
 subst this;exact r.inj g
def Inv.tuple_inj (I:Inv X pins σ H s) (h:SqT X.K H a xs) (h':SqT X.K H a ys):xs=ys:=by
 obtain⟨f,r,⟨o,e,_,n,d⟩,_⟩:=I.tuple h;obtain⟨b,g,⟨i,l,_,j,p⟩,_⟩:=I.tuple h'
 have:f=b:=by grind
 subst this;exact r.inj g
end
noncomputable abbrev Cx.wish (X:Cx) (E:Zy):Cx:={X with xe:=E}
noncomputable abbrev Cx.nox (X:Cx):Cx:=X.wish λ_ _=>False
def Cx.Ok.wish {X:Cx} (ok:X.Ok) (E:Zy):(X.wish E).Ok:=
 ⟨ok.mod,ok.kind,ok.glob,ok.blt,ok.above,ok.inj,ok.has,ok.cab,ok.hd,ok.frames,ok.stk,ok.exf,ok.bs,ok.bsz,ok.noex,ok.exfs,ok.funs,ok.frf⟩
def Cx.Ok.unwish {X:Cx}{E} (ok:(X.wish E).Ok):X.Ok:=
 ⟨ok.mod,ok.kind,ok.glob,ok.blt,ok.above,ok.inj,ok.has,ok.cab,ok.hd,ok.frames,ok.stk,ok.exf,ok.bs,ok.bsz,ok.noex,ok.exfs,ok.funs,ok.frf⟩
section
variable {X:Cx}{pins:Zw}{σ:St}{H:Hp}{s:Shared}{E:Zy}
def Inv.wish (I:Inv X pins σ H s) (E:Zy):Inv (X.wish E) pins σ H s:=⟨I.ok.wish E,I.os,I.bare,I.base,I.loc,I.cell,I.free,I.freeC,I.pin,I.hok,I.len⟩
def Inv.unwish (I:Inv (X.wish E) pins σ H s):Inv X pins σ H s:=⟨I.ok.unwish,I.os,I.bare,I.base,I.loc,I.cell,I.free,I.freeC,I.pin,I.hok,I.len⟩
def SP.unwish (h:SP (X.wish E) pins D f i):SP X pins D f i:=by
 cases f with
 |ret u=>obtain⟨v,b,g,I,r,q⟩:=h;exact⟨v,b,g,I.unwish,r,q⟩
 |_=>obtain⟨b,g,I,q⟩:=h;exact⟨b,g,I.unwish,q⟩
def PSs.nox {st t} (h:PSs X.nox st t):PSs X st t:=λpins s σ H D I hw=>
 Wl (h pins s σ H D (I.wish _) hw) (λ_ _ q=>q.unwish) λ_ _ z=>False.elim z
end
section
variable {X:Cx}{st:Stmt}{rest:Z4}{t u:TS}{e:Expr}{te:TE}{pos:Pos}
noncomputable def E1:TS:=λD b H=>D.nx b H
noncomputable def N9(t u:TS):TS:=λD b H=>t {D with nx:=u D} b H
def Xr:PSs X [] E1:=λ_ _ b H _ I h=>Q2 ⟨b,H,I,h⟩
def JR(l:PS X st t)(j:PSs X rest u):PSs X (st::rest) (N9 t u):=by
 intro pins s g H D I h;refine Qj (thn (l pins s g H {D with nx:=u D} I h) λf i q=>?_)
 cases f with
 |next=>
  obtain⟨b,o,n,q⟩:=q;exact j pins i b o D n q
 |_=>exact q
def U5(g:PS X st t):PSs X [st] t:=by
 intro pins s b H D I h;refine Qj (thn (g pins s b H D I h) λf i q=>?_);cases f with
 |next=>exact Q2 q
 |_=>lia
def Inv.quiet {b:St}{H}{s} (I:Inv X pins b H s):interactive X.env=false:=by simp[interactive,I.ok.kind]
noncomputable def P5(te:TE):TS:=λD b H=>te b H λ_ f=>D.nx b f
def XH(i:PE X e te)(g:autoParam (swapsWith e none pos.line X.env=pure false) au_0):PS X (.Expr e pos) (P5 te):=by
 intro pins s b H D I h;exact wpAny_Expr_any (thn (i pins s b H _ I h) λv n ⟨x,l,j,o,f⟩=>⟨b,l,j,f⟩) I.quiet g
noncomputable def KE(te:TE):TS:=λD b H=>te b H D.rt
def Ur(i:PE X e te):PS X (.Return (some e) pos) (KE te):=by
 intro pins s b H D I h;exact wpAny_Return_some (thn (i pins s b H _ I h) λv n ⟨x,l,j,f,g⟩=>⟨x,b,l,j,f,g⟩)
noncomputable def Su(c:TT)(t u:TS):TS:=λD f H=>c f H λb g=>if b=true then t D f g else u D f g
def X6{tc}(n:PT X c tc)(p:PSs X a t)(o:PSs X b u):PS X (.If c a b pos) (Su tc t u):=by
 intro pins s f H D I h;refine wpAny_If (thn (n pins s f H _ I h) ?_);rintro d g ⟨l,j,i⟩;cases d with
 |true=>exact p pins g f l D j i
 |false=>exact o pins g f l D j i
noncomputable def GC:TS:=λ_ _ _=>False
def DW:PS X st GC:=λ_ _ _ _ _ _ h=>h.elim
end
abbrev TG:=V->St->Hp->(St->Hp->Prop)->Prop
abbrev TGs:=List V->St->Hp->(St->Hp->Prop)->Prop
def PG(X:Cx)(target:Expr)(t:TG):Prop:=
 ∀(pins:Zw) (s:Shared) (f:St) (H:Hp) (v:V) (u:Value) (Q:St->Hp->Prop),Inv X pins f H s->RelV v u->t v f H Q->
  wpAny (model X.prog X.w) X.A (assign target X.env u) (λ_ h=>∃b g,Inv X pins b g h/\Q b g) X.xe s
def PGs(X:Cx)(j:Z3)(t:TGs):Prop:=
 ∀(pins:Zw) (s:Shared) (f:St) (H:Hp) (g:List V) (h:Z1) (Q:St->Hp->Prop),Inv X pins f H s->Vals g h->t g f H Q->
  wpAny (model X.prog X.w) X.A (assignInOrder ((assignEach j X.env).map (·.2)) h) (λ_ l=>∃b i,Inv X pins b i l/\Q b i) X.xe s
abbrev TIp:=V->V->Hp->VK->Prop
def PIp(X:Cx)(f:Operator)(t:TIp):Prop:=
 ∀(pins:Zw) (s:Shared) (b:St) (H:Hp) (x y:V) (v u:Value) (Q:VK),Inv X pins b H s->RelV x v->RelV y u->t x y H Q->
  wpAny (model X.prog X.w) X.A (inplaceOp f v u) (EP X pins b Q) X.xe s
section
variable {X:Cx}{pos:Pos}
noncomputable def Xw(i:Nat):TG:=λv b H Q=>Q (b.set i<|some v) H
def Na(g:X.N.Nodup)(b:X.N[i]?=some x)(hx:Loc X.env.scope x)(f:autoParam (X.fn x=true\/X.env.scope.names.lookup x=some .local) au_2):PG X (.Name x pos) (Xw i):=by
 intro pins s l H v u Q I r h;exact wpAny_assign_Name (XM I g b hx r (λn j=>⟨_,H,j,h⟩) f)
noncomputable def Ey:TGs:=λf b H Q=>f=[]/\Q b H
noncomputable def Dd(t:TG)(u:TGs):TGs:=λg f H Q=>∃v r,g=v::r/\t v f H λb h=>u r b h Q
def PN:PGs X [] Ey:=by
 intro pins s b H f g Q I r h;obtain⟨e,h⟩:=h;exact assignInOrder_nil ⟨b,H,I,h⟩
def XC{t u}(o:PG X e t)(n:PGs X es u)(l:autoParam ((assignEach (e::es) X.env).map (·.2)=assign e X.env::(assignEach es X.env).map (·.2)) au_0):PGs X (e::es) (Dd t u):=by
 intro pins s f H x z Q I r h;obtain⟨v,y,p,h⟩:=h;subst p;cases r with
 |cons r i=>
  rw[l];refine assignInOrder_cons (thn (o pins s f H _ _ _ I r h) ?_);rintro _ g ⟨b,w,q,j⟩;exact n pins g b w _ _ Q q i j
noncomputable def Sg(K:Zt)(n:Nat)(t:TGs):TG:=λv b H Q=>∃a xs,v=.ref a/\SqT K H a xs/\xs.length=n/\t xs b H Q
def Mj{k t n}(w:X.calm=true)(h:PGs X es t)(p:autoParam ((assignEach es X.env).length=n) au_0)(f:autoParam ((assignEach es X.env).findIdx? (·.1)=none) au_0):PG X (.Tuple es k pos) (Sg X.K n t):=by
 intro pins s g H v u Q I r hw;obtain⟨a,xs,y,hq,q,hw⟩:=hw;subst y;cases r
 obtain⟨j,i,l,A⟩:=I.tuple hq;refine assign_Tuple_tuple (I.ok.hd w) l (by simp[p,←q,i.length]) f λx hx=>?_;have z:Inv X pins g H {s with heap:=x}:=I.kept λb o e=>hx b o (YJ<|Y6 e) e
 exact h pins _ g H xs _ Q z (by lia) hw
noncomputable def KD(te:TE)(g:TG):TS:=λD b H=>te b H λx f=>g x b f D.nx
def IC(q:X.N.Nodup)(n:X.N[i]?=some x)(hx:Loc X.env.scope x)(p:PE X e te)(l:autoParam (swapsWith e (some<|.Name x b) pos.line X.env=pure false) au_0)(o:autoParam (X.fn x=true\/X.env.scope.names.lookup x=some .local) au_2) :
  PS X (.Assign [.Name x b] e pos) (KD te<|Xw i):=by
 intro pins s f H D I h;refine wpAny_Assign_Name (thn (p pins s f H _ I h) λv A ⟨y,w,u,g,j⟩=>?_) l;exact XM u q n hx g (λz r=>⟨_,w,r,j⟩) o
noncomputable def GS(i j:Nat)(g:TA):TS:=λD b H=>g b H λf h=>∃v w,f=[v,w]/\D.nx ((b.set i<|some v).set j (some w)) h
def Ho{x y a b G z py pt A k2 f}(hc:X.calm=true)(L:X.N.Nodup)(hi:X.N[i]?=some x)(hj:X.N[j]?=some y)(C:i≠j)(hx:X.env.scope.names.lookup x=some .local)(J:X.env.scope.names.lookup y=some .local)(ha:PA X [a,b] G)(hw:swappedStores [.Tuple [.Name x z,.Name y py] A pt] (.Tuple [a,b] k2 f) X.env=pure (some [x,y]))(hs:autoParam (swapsWithSole [.Tuple [.Name x z,.Name y py] A pt] (.Tuple [a,b] k2 f) pos.line X.env=pure false) au_0) :
  PS X (.Assign [.Tuple [.Name x z,.Name y py] A pt] (.Tuple [a,b] k2 f) pos) (GS i j G):=by
 intro pins s E H D I h;refine Yw (wpAny_standAt ?_);refine Yw (Yz ?_);refine Yw (Tuple_<|thn (ha _ pins s E H _ I h) ?_);rintro T n ⟨vs,Q,I1,Y,u⟩;obtain⟨v,w,e1,u⟩:=u;subst e1
 obtain⟨l,g,rfl,U,r⟩:∃l g,T=[l,g]/\RelV v l/\RelV w g:=by
  cases Y with
  |cons p q=>
   cases q with
   |cons p' q'=>
    cases q'
    exact⟨_,_,rfl,p,p'⟩
 refine Wn ?_ (by show 2<=sizeLine;decide);have I2:Inv X pins E Q {n with heap:=n.heap.push {cls:=.type "tuple",data:=.seq [l,g].toArray}}:=I1.kept λb o e=>Y0 _ e
 rw[hw];refine Yw (Yz ?_);refine Yw (Qf<|Yw (unpackItems_tuple (items:=#[l,g]) (I.ok.hd hc) (IsTup.new n.heap _) λh' B=>?_));refine Yw (assignInOrder_cons<|wpAny_bindName<|XM (I2.kept (t':=n.toks) λb o e=>B b o (YJ<|Y6 e) e) L hj (.inl J) r (λs2 I4=>?_)<|.inr J);refine assignInOrder_cons (wpAny_bindName<|XM I4 L hi (.inl hx) U (λs3 M=>assignInOrder_nil (Yz ?_))<|.inr hx);rw[List.set_comm _ _ (Ne.symm C)]at M;exact⟨_,Q,M,u⟩
noncomputable def Gb(i:Nat)(te:TE)(ti:TIp):TS:=λD b H=>∃x,b[i]?=some (some x)/\te b H λy g=>ti x y g λz f=>D.nx (b.set i<|some z) f
def Zb9(hN:X.N.Nodup)(B:X.N[i]?=some x)(hx:Loc X.env.scope x)(he:PE X e te)(Q:PIp X q ti)(hf:autoParam (X.fn x=true\/X.env.scope.names.lookup x=some .local) au_2) :
  PS X (.AugAssign (.Name x p) q e pos) (Gb i te ti):=by
 intro pins s o H D I h;obtain⟨v,e1,h⟩:=h;obtain⟨m,T,Y⟩:=I.loc;have n:Vis X.env.scope x:=by rcases hx with k|k;exact .inl k;exact .inr (.inl k)
 obtain⟨u,r,l⟩:=Y i x v B e1 n;refine wpAny_AugAssign_Name ?_
 have C:wpAny (model X.prog X.w) X.A (eval e X.env) (λw j=>wpAny (model X.prog X.w) X.A (inplaceOp q u w) (λr g=>wpAny (model X.prog X.w) X.A (storeName X.env x r) (λ_=>SP X pins D .next) X.xe g) X.xe j) X.xe s:=by
  refine thn (he pins s o H _ I h) λw E ⟨y,H1,I1,J,M⟩=>?_;refine thn (Q pins E o H1 v y u w _ I1 r J M) λz s2 ⟨zv,H2,I2,G,L⟩=>?_;exact XM I2 hN B hx G (λs3 I3=>⟨_,H2,I3,L⟩) hf
 rcases l with⟨b,U⟩|⟨b,c,hc,f⟩
 ·exact wpAny_loadName_local I.ok.kind b T U C
 ·rcases b with b|b
  ·exact wpAny_loadName_cell I.ok.kind b hc f C
  ·rcases hx with k|k
   ·have:X.env.scope.names.lookup x=some .free:=b
    grind
   ·have:X.env.scope.names.lookup x=some .free:=b
    rw[k]at this;cases this
noncomputable def ipI(f:Int->Int->Int):TIp:=λx y H Q=>∃i j,x=.int i/\y=.int j/\Q (.int<|f i j) H
def Nn:PIp X .Add (ipI λi j=>i+j):=by
 intro pins s n H x y v u Q I f b h;obtain⟨i,j,l,g,q⟩:=h;subst l;subst g;obtain⟨t,rfl⟩:=f;obtain⟨o,rfl⟩:=b;exact iadd_int ⟨.int _,H,I.tok _,⟨_,rfl⟩,q⟩
noncomputable def Er(c:TT)(l:TS):TS:=λD f H=>∃W:Nat->St->Hp->Prop,(∃m,W m f H)/\∀m f H,W m f H->
 c f H λb i=>if b=true then ∃N:St->Hp->Prop,(∀g j,N g j->∃h,h<m/\W h g j)/\l {D with nx:=N,ct:=N,bk:=D.nx} f i else D.nx f i
def Du{tc l}(p:PassesOwn (model X.prog X.w) X.A X.env X.xe)(M:PT X c tc)(Q:PSs X body l):PS X (.While c body [] pos) (Er tc l):=by
 intro pins s z H D I h;obtain⟨W,⟨L,C⟩,turn⟩:=h;refine wpAny_While (codeAny_whileLoop (λn J=>∃i x,Inv X pins i x J/\W n i x) ?_ L ⟨z,H,I,C⟩);rintro n G ⟨g,u,T,B⟩;refine WY p (thn (M pins G g u _ T<|turn n g u B) λb E ⟨r,q,j⟩=>?_);cases b with
 |true=>
  obtain⟨N,hN,j⟩:=j;refine WY p (thn (Q pins E g r _ q j) λf U o=>?_);cases f with
  |brk|ret v=>exact o
  |_=>
   obtain⟨y,H3,I3,Y⟩:=o
   grind
 |false=>
  exact Q2 ⟨g,r,q,j⟩
end
structure It where
 go:Nat->Hp->Prop
 yld:Nat->Hp->V->Hp->Prop
 stop:Nat->Hp->Prop
def J1(X:Cx)(pins:Zw)(H:Hp)(b:Addr):Prop:=
 H b=none/\b≠X.env.locals/\b∉X.fs/\(b∈X.ex\/X.s₀.heap.objs.size<=b)/\(∀x c,X.env.cells.lookup x=some c->c≠b)/\∀p∈X.pn++pins,p.1≠b
def Inv.fpOk {h:St}{H g}{s}{b:Addr} (I:Inv X pins h H s) (f:s.heap.objs.size<=b) (j:g b=none):J1 X pins g b:=by
 refine⟨j,Vk (YM I.lt f),I.nofs f,.inr (Y8 I.sz f),λx c e z=>?_,λp i z=>?_⟩
 ·obtain⟨v,q⟩:=I.cell x c e;exact absurd (YM q.lt<|by grind) (WM _)
 ·exact absurd (YM (Y6 (I.pin p i).1)<|by grind) (WM _)
structure Turn (P:Program) (w:World) (K:Zt) (tg:Expr) (J:It) (fp:List Addr) (it:Addr) (tn:Nat->Heap->Prop):Prop where
 mem:it∈fp
 obj:∀i h,tn i h->∀b∈fp,∃o,h.get? b=some o/\∀v,o.data≠.cell v
 keep:∀i h h',tn i h->(∀b∈fp,∀o,h.get? b=some o->h'.get? b=some o)->tn i h'
 item:∀(X:Cx),X.prog=P->X.w=w->X.K=K->X.calm=true->∀(i:Nat) (pins:Zw) (s:Shared) (σ:St) (H:Hp) (E:Zy),Inv X pins σ H s->(∀b∈fp,J1 X pins H b)->tn i s.heap->J.go i H->
  wpAny (model P w) X.A (pyNext<|.ref it) (λr s1=>∃u,r=some u/\
   wpAny (model P w) X.A (letOwnedTupleGo tg (.ref it) u) (λ_ s2=>∃x H',Inv X pins σ H' s2/\RelV x u/\J.yld i H x H'/\tn (i+1) s2.heap/\∀b∈fp,H' b=none) E s1) E s
 done:∀(X:Cx),X.prog=P->X.w=w->X.K=K->X.calm=true->∀(i:Nat) (pins:Zw) (s:Shared) (σ:St) (H:Hp) (E:Zy),Inv X pins σ H s->(∀b∈fp,J1 X pins H b)->tn i s.heap->J.stop i H->
  wpAny (model P w) X.A (pyNext<|.ref it) (λr s1=>r=none/\Inv X pins σ H s1) E s
 self:∀(A:Around) (i:Nat) (s:Shared) (Q:Zy) (E:Zy),tn i s.heap->Q (.ref it) s->wpAny (model P w) A (pyIter<|.ref it) Q E s
abbrev TI:=St->Hp->(It->Hp->Prop)->Prop
def PIE(X:Cx)(pins:Zw)(l:St)(n:Expr)(R:It->Hp->Prop)(f:Value)(h:Shared):Prop:=
 ∃(i:Addr) (j:List Addr) (tn:Nat->Heap->Prop) (J:It) (g:Hp),f=.ref i/\Inv X pins l g h/\Turn X.prog X.w X.K n J j i tn/\tn 0 h.heap/\(∀b∈j,J1 X pins g b)/\R J g
def PI(X:Cx)(g iter:Expr)(f:TI):Prop:=
 ∀(pins:Zw) (s:Shared) (b:St) (H:Hp) (R:It->Hp->Prop),Inv X pins b H s->f b H R->
  wpAny (model X.prog X.w) X.A (eval iter X.env) (λv h=>wpAny (model X.prog X.w) X.A (pyIter v) (PIE X pins b g R) X.xe h) X.xe s
def S8 {s f g u o n vs Q} (h : s.heap.get? g = some o) (j : o.cls = .type n) (i : o.data = .fields vs)
    (l : ["enumerate", "zip", "dict_itemiterator", "dict_reverseitemiterator", "odict_iterator", "itertools.zip_longest", "itertools.pairwise"].contains n = false) (b : Q () s) : wpAny M A (letOwnedTupleGo f (.ref g) u) Q E s := by
  cases f <;> first
    | exact Yz b
    | (cases u <;> first
        | exact Yz b
        | (refine Yw (wpAny_load h ?_)
           rw [j, i]
           show wpAny M A (if (["enumerate", "zip", "dict_itemiterator", "dict_reverseitemiterator", "odict_iterator", "itertools.zip_longest", "itertools.pairwise"].contains n && vs[0]? == some (rawInt _)) = true then _ else _) Q E s
           rw [Y4 (by grind)]
           exact Yz b))
noncomputable def Itl(K:Zt)(a:Addr):It:=
 ⟨λi H=>∃xs x,SqL K H a xs/\xs[i]?=some x,λi H x b=>b=H/\∀xs,SqL K H a xs->xs[i]?=some x,λi H=>∃xs,SqL K H a xs/\xs.length<=i⟩
noncomputable def Itt(K:Zt)(a:Addr):It:=
 ⟨λi H=>∃xs x,SqT K H a xs/\xs[i]?=some x,λi H x b=>b=H/\∀xs,SqT K H a xs->xs[i]?=some x,λi H=>∃xs,SqT K H a xs/\xs.length<=i⟩
noncomputable def Itr(lo:Int)(n:Nat):It:=⟨λi _=>i<n,λi H x b=>b=H/\x=.int (lo+i),λi _=>n<=i⟩
def M0{K tg}(a it:Addr):Turn P w K tg (Itl K a) [it] it (λi h=>h.IsListIter it a i) where
 mem:=by simp
 obj:=λi h st b hb=>by
  have e:b=it:=by simpa using hb
  subst e;obtain⟨o,e,c,d⟩:=st;exact⟨o,e,λv z=>by rw[d]at z;cases z⟩
 keep:=λi h h' st k=>st.at λo e=>k it (by simp) o e
 item:=by
  intro X hP hw hK hc i pins s σ H E I hf st hg;subst hP hw hK;obtain⟨xs,x,hq,hx⟩:=hg;obtain⟨its,rv,p,hz⟩:=I.list hq;obtain⟨u,hu,ru⟩:=rv.get hx;obtain⟨f0,f1,f2,f3,f4,f5⟩:=hf it (by simp);refine wpAny_pyNext_list_item st p.isList (by simpa using hu) λh' st' sb=>?_;have I1:Inv X pins σ H {s with heap:=h'}:=I.turned (λb o hb e=>(sb.2 b hb).trans e) f0 f1 f3 f4 f5
  obtain⟨o,e,c,d⟩:=id st';exact⟨u,rfl,S8 e c d (by decide) ⟨x,H,I1,ru,⟨rfl,λys hy=>by rw[I.list_inj hy hq];exact hx⟩,st',λb hb=>(hf b hb).1⟩⟩
 done:=by
  intro X hP hw hK hc i pins s σ H E I hf st hg;subst hP hw hK;obtain⟨xs,hq,hx⟩:=hg;obtain⟨its,rv,p,hz⟩:=I.list hq;obtain⟨f0,f1,f2,f3,f4,f5⟩:=hf it (by simp);have hl:=rv.length;exact wpAny_pyNext_list_end (I.ok.hd hc) st p.isList (by simp;lia) λh' eb=>⟨rfl,I.turned (λb o hb e=>eb b o hb e) f0 f1 f3 f4 f5⟩
 self:=λ_ _ _ _ _ st h=>wpAny_pyIter_listiter st h
def On{K tg}(a it:Addr):Turn P w K tg (Itt K a) [it] it (λi h=>h.IsTupleIter it a i) where
 mem:=by simp
 obj:=λi h st b hb=>by
  have e:b=it:=by simpa using hb
  subst e;obtain⟨o,e,c,d⟩:=st;exact⟨o,e,λv z=>by rw[d]at z;cases z⟩
 keep:=λi h h' st k=>st.at λo e=>k it (by simp) o e
 item:=by
  intro X hP hw hK hc i pins s σ H E I hf st hg;subst hP hw hK;obtain⟨xs,x,hq,hx⟩:=hg;obtain⟨its,rv,p,hz⟩:=I.tuple hq;obtain⟨u,hu,ru⟩:=rv.get hx;obtain⟨f0,f1,f2,f3,f4,f5⟩:=hf it (by simp);refine wpAny_pyNext_tuple_item st p (by simpa using hu) λh' st' sb=>?_;have I1:Inv X pins σ H {s with heap:=h'}:=I.turned (λb o hb e=>(sb.2 b hb).trans e) f0 f1 f3 f4 f5
  obtain⟨o,e,c,d⟩:=id st';exact⟨u,rfl,S8 e c d (by decide) ⟨x,H,I1,ru,⟨rfl,λys hy=>by rw[I.tuple_inj hy hq];exact hx⟩,st',λb hb=>(hf b hb).1⟩⟩
 done:=by
  intro X hP hw hK hc i pins s σ H E I hf st hg;subst hP hw hK;obtain⟨xs,hq,hx⟩:=hg;obtain⟨its,rv,p,hz⟩:=I.tuple hq;obtain⟨f0,f1,f2,f3,f4,f5⟩:=hf it (by simp);have hl:=rv.length;exact wpAny_pyNext_tuple_end (I.ok.hd hc) st p (by simp;lia) λh' eb=>⟨rfl,I.turned (λb o hb e=>eb b o hb e) f0 f1 f3 f4 f5⟩
 self:=λ_ _ _ _ _ st h=>wpAny_pyIter_tupleiter st h
def Zad{K tg}(it:Addr)(lo:Int)(n:Nat):Turn P w K tg (Itr lo n) [it] it (λi h=>IsRangeIter h it (lo+(i:Nat)*1) ((n:Int)-(i:Nat)) 1) where
 mem:=by simp
 obj:=λi h st b hb=>by
  have e:b=it:=by simpa using hb
  subst e
  exact⟨_,st,λv z=>by
   cases z⟩
 keep:=λi h h' st k=>k it (by simp) _ st
 item:=by
  intro X hP hw hK hc i pins s σ H E I hf st hg;subst hP hw hK;obtain⟨f0,f1,f2,f3,f4,f5⟩:=hf it (by simp);refine(Walks.range (prog:=X.prog) (w:=X.w) (I.ok.hd hc) it lo 1 n).item i s _ _ hg st λv h' tk hv st' kk=>?_;obtain⟨t,rfl⟩:=hv;have I1:Inv X pins σ H {s with heap:=h',toks:=tk}:=I.turned (λb o hb e=>kk b o (by simpa using hb) e) f0 f1 f3 f4 f5
  refine⟨_,rfl,S8 st' rfl rfl (by decide) ⟨.int (lo+i),H,I1,⟨t,?_⟩,⟨rfl,rfl⟩,st',λb hb=>(hf b hb).1⟩⟩;rw[Int.mul_one]
 done:=by
  intro X hP hw hK hc i pins s σ H E I hf st hg;obtain⟨f0,f1,f2,f3,f4,f5⟩:=hf it (by simp);exact wpAny_pyNext_range_end (I.ok.hd hc) st (by have:n<=i:=hg;lia) λh' eb=>⟨rfl,I.turned (λb o hb e=>eb b o hb e) f0 f1 f3 f4 f5⟩
 self:=λ_ _ _ _ _ st h=>wpAny_pyIter_rangeiter st h
section
variable {X:Cx}{tg:Expr}
noncomputable def PY(K:Zt)(g:TE):TI:=λf H R=>g f H λx b=>∃a,x=.ref a/\(∃xs,SqL K b a xs)/\R (Itl K a) b
noncomputable def NC(K:Zt)(g:TE):TI:=λf H R=>g f H λx b=>∃a,x=.ref a/\(∃xs,SqT K b a xs)/\R (Itt K a) b
def Fk(w:PE X l j):PI X tg l (PY X.K j):=by
 intro pins s i H R I h;refine thn (w pins s i H _ I h) λv g ⟨x,y,f,n,r⟩=>?_;obtain⟨a,e,⟨xs,hq⟩,q⟩:=r;subst e;cases n
 obtain⟨u,z,p,A⟩:=f.list hq;refine wpAny_pyIter_list p.isList ?_;refine⟨g.heap.objs.size,[g.heap.objs.size],_,_,y,rfl,f.kept λb o e=>Y0 _ e,M0 a _,⟨_,Y7 _ rfl,rfl,rfl⟩,λb B=>?_,q⟩;have e:b=g.heap.objs.size:=by grind
 subst e;exact f.fpOk (Y1 _) (f.hok.fresh<|Y1 _)
def OC(w:PE X l j):PI X tg l (NC X.K j):=by
 intro pins s i H R I h;refine thn (w pins s i H _ I h) λv g ⟨x,y,f,n,r⟩=>?_;obtain⟨a,e,⟨xs,hq⟩,q⟩:=r;subst e;cases n
 obtain⟨u,z,p,A⟩:=f.tuple hq;refine wpAny_pyIter_tuple p ?_;refine⟨g.heap.objs.size,[g.heap.objs.size],_,_,y,rfl,f.kept λb o e=>Y0 _ e,On a _,⟨_,Y7 _ rfl,rfl,rfl⟩,λb B=>?_,q⟩;have e:b=g.heap.objs.size:=by grind
 subst e;exact f.fpOk (Y1 _) (f.hok.fresh<|Y1 _)
def Gs{g:St}{H}{s}{R}{E}{lo f}{t u v}{tk}(I:Inv X pins g H s)(p:-(2 ^ 62)<=lo)(n:lo<2 ^ 62)(l:-(2 ^ 62)<=f)(j:f<2 ^ 62)(q:R (Itr lo (f-lo).toNat) H):wpAny (model X.prog X.w) X.A (pyIter<|.ref s.heap.objs.size) (PIE X pins g tg R) E {s with heap:=s.heap.push {cls:=.type "range",data:=.fields #[.int lo t,.int f u,.int 1 v]},toks:=tk}:=by
 refine wpAny_pyIter_range (IsRange.new ..) (small_one p n l j) ?_;have h:Inv X pins g H {s with heap:=s.heap.push {cls:=.type "range",data:=.fields #[.int lo t,.int f u,.int 1 v]},toks:=tk}:=I.kept λb o e=>Y0 _ e
 refine⟨(s.heap.push {cls:=.type "range",data:=.fields #[.int lo t,.int f u,.int 1 v]}).objs.size,[(s.heap.push {cls:=.type "range",data:=.fields #[.int lo t,.int f u,.int 1 v]}).objs.size],_,_,H,rfl,
  h.kept λb o e=>Y0 _ e,Zad _ lo (f-lo).toNat,?_,λb i=>?_,q⟩
 ·have x:lo+((0:Nat):Int)*1=lo:=by simp
  have r:(((f-lo).toNat:Nat):Int)-((0:Nat):Int)=Builtin.Range.rangeSize lo f 1:=by rw[rangeSize_one];split<;>lia
  rw[x,r];exact Y7 _ rfl
 ·have e:b=(s.heap.push {cls:=.type "range",data:=.fields #[.int lo t,.int f u,.int 1 v]}).objs.size:=by simpa using i
  subst e;exact h.fpOk (Y1 _) (h.hok.fresh<|Y1 _)
noncomputable def AY(g:TA):TI:=λb H R=>g b H λf h=>∃j:Int,f=[.int j]/\-(2 ^ 62)<=j/\j<2 ^ 62/\R (Itr 0 j.toNat) h
noncomputable def DU(g:TA):TI:=λb H R=>g b H λf h=>∃i j:Int,f=[.int i,.int j]/\(-(2 ^ 62)<=i/\i<2 ^ 62/\-(2 ^ 62)<=j/\j<2 ^ 62)/\R (Itr i (j-i).toNat) h
def Fh(v:Gl X "range")(u:X.mg "range"=none)(w:PA X [a] g)(o:autoParam (starEach [a] X.env=[(false,eval a X.env)]) au_0):PI X tg (.Call (.Name "range" p) [a] [] pos) (AY g):=by
 intro pins s f H R I h;refine Call_ (X3 I v u boot_range<|WU (thn (w pos pins s f H _ I h) λz A ⟨y,B,x,l,b⟩=>?_) o rfl);obtain⟨j,e,b,n,q⟩:=b;subst e;cases l with
 |cons r i=>
  cases i
  obtain⟨t,rfl⟩:=r;exact call_range_1 (Gs x (by lia) (by lia) b n<|by grind)
def MN{p pos}(A:Gl X "range")(z:X.mg "range"=none)(B:PA X [a,b] o)(M:autoParam (starEach [a,b] X.env=[(false,eval a X.env),(false,eval b X.env)]) au_0)(l:autoParam (starEach [b] X.env=[(false,eval b X.env)]) au_0) :
  PI X tg (.Call (.Name "range" p) [a,b] [] pos) (DU o):=by
 intro pins s n H R I h;refine Call_ (X3 I A z boot_range<|WU (thn (B pos pins s n H _ I h) λG L ⟨E,N,C,u,g⟩=>?_) (by grind)<|by rw[l];rfl);obtain⟨i,j,e,⟨g,y,x,w⟩,q⟩:=g;subst e;cases u with
 |cons r f=>
  cases f with
  |cons v f=>
   cases f
   obtain⟨t,rfl⟩:=r;obtain⟨J,rfl⟩:=v;exact call_range_2 (Gs C g y x w q)
noncomputable def EU(n:TI)(g:TG)(o:TS):TS:=λD b H=>n b H λJ q=>∃W:Nat->Nat->St->Hp->Prop,(∃m,W 0 m b q)/\∀i m b H,W i m b H->
 (J.stop i H/\D.nx b H)\/(J.go i H/\∃N:St->Hp->Prop,(∀f h,N f h->∃l,l<m/\W (i+1) l f h)/\∀x h,J.yld i H x h->g x b h λj p=>o {D with nx:=N,ct:=N,bk:=D.nx} j p)
noncomputable def P8(f:List Addr)(h:Heap):Zw:=f.filterMap λb=>(h.get? b).map λo=>(b,o)
def PV{b o}(f:b∈g)(e:h.get? b=some o):(b,o)∈P8 g h:=Vz.mpr ⟨b,f,by rw[e];rfl⟩
def Za7(f:p∈P8 g h):p.1∈g/\h.get? p.1=some p.2:=by
 obtain⟨b,i,e⟩:=Vz.mp f;cases q:h.get? b with
 |_=>grind
def Inv.pinned {f:St}{H}{s}{fp} (I:Inv X pins f H s) (h:∀b∈fp,J1 X pins H b) (j:∀b∈fp,∃o,s.heap.get? b=some o/\∀v,o.data≠.cell v):Inv X (pins++P8 fp s.heap) f H s:=
 I.pins_of λp g=>(Wc.mp g).elim (λz=>I.pin p (YI _ z)) λz=>by
  obtain⟨i,e⟩:=Za7 z;obtain⟨f0,f1,l,_⟩:=h p.1 i
  grind
def Inv.unpinned {b:St}{H}{s} (I:Inv X (pins++g) b H s):Inv X pins b H s:=I.pins_of λp f=>I.pin p (YI _<|WI _ f)
def G9{wi g tb pos}(L:PassesOwn (model X.prog X.w) X.A X.env X.xe)(hc:X.calm=true)(hi:PI X tg iter wi)(hg:PG X tg g)(q:PSs X body tb)(hs:autoParam (∀x,foldedSetIterable iter X.env x=pure x) au_3):PS X (.For tg iter body [] pos) (EU wi g tb):=by
 intro pins s σ H D I h;refine wpAny_For (thn (hi pins s σ H _ I h) λv s1 h1=>thn h1 λitv s2 h2=>?_) hs;obtain⟨it,Q,tn,J,H2,e,I2,T,st2,f2,W,⟨m0,w0⟩,turn⟩:=h2;subst e;have stat:∀{z:Hp},(∀b∈Q,z b=none)->∀b∈Q,J1 X pins z b:=λhn b q=>⟨hn b q,(f2 b q).2⟩;refine codeAny_forLoop_any (λn s'=>∃i p z,Inv X pins p z s'/\tn i s'.heap/\(∀b∈Q,z b=none)/\W i n p z) ?_ m0 ⟨0,σ,H2,I2,st2,λb q=>(f2 b q).1,w0⟩;rintro n s3 ⟨i,l,U,I3,G,M,w3⟩;rcases turn i n l U w3 with⟨stop,qn⟩|⟨go,N,hN,step⟩
 ·refine WY L (thn (T.done X rfl rfl rfl hc i pins s3 l U X.xe I3 (stat M) G stop) ?_);rintro r s4 ⟨hr,I4⟩;subst hr;exact Q2 ⟨l,U,I4,qn⟩
 ·refine WY L (thn (T.item X rfl rfl rfl hc i pins s3 l U X.xe I3 (stat M) G go) ?_);rintro r s4 ⟨u,hr,h4⟩;subst hr;refine WY L (thn h4 ?_);rintro _ s5 ⟨x,H5,I5,r5,y5,C,fr5⟩;refine WY L (thn (hg _ s5 l H5 x u _ (I5.pinned (stat fr5)<|T.obj _ _ C) r5<|step x H5 y5) ?_);rintro _ s6 ⟨Y,H6,I6,q6⟩;refine WY L (thn (q _ s6 Y H6 _ I6 q6) λf s7 E=>?_)
  have again:∀{j:St} {y:Hp},Inv X (pins++P8 Q s5.heap) j y s7->N j y->∃m,m<n/\∃i p z,Inv X pins p z s7/\tn i s7.heap/\(∀b∈Q,z b=none)/\W i m p z:=λ{j y} B n7=>by
   obtain⟨m',hm,w7⟩:=hN j y n7;refine⟨m',hm,i+1,j,y,B.unpinned,T.keep _ _ _ C λb q o e=>(B.pin (b,o)<|YI _<|YI _<|PV q e).1,λb q=>?_,w7⟩;obtain⟨o,e,d⟩:=T.obj _ _ C b q;exact(B.pin (b,o)<|YI _<|YI _<|PV q e).2.1
  cases f with
  |brk=>obtain⟨j,y,B,E⟩:=E;exact⟨j,y,B.unpinned,E⟩
  |ret v=>obtain⟨x7,j,y,B,r7,E⟩:=E;exact⟨x7,j,y,B.unpinned,r7,E⟩
  |_=>obtain⟨j,y,B,n7⟩:=E;exact again B n7
end
abbrev R2:=V->V->Hp->VK->Prop
def OpR(X:Cx)(f:Value->Value->Sem Value)(r:R2):Prop:=
 ∀(pins:Zw) (s:Shared) (b:St) (H:Hp) (x y:V) (v u:Value) (Q:VK),Inv X pins b H s->RelV x v->RelV y u->r x y H Q->
  wpAny (model X.prog X.w) X.A (f v u) (EP X pins b Q) X.xe s
def UnR(X:Cx)(f:Value->Sem Value)(r:V->Hp->VK->Prop):Prop:=
 ∀(pins:Zw) (s:Shared) (b:St) (H:Hp) (x:V) (v:Value) (Q:VK),Inv X pins b H s->RelV x v->r x H Q->
  wpAny (model X.prog X.w) X.A (f v) (EP X pins b Q) X.xe s
def JC(X:Cx)(f:Value)(r:List V->Hp->VK->Prop):Prop:=
 ∀(pins:Zw) (s:Shared) (b:St) (H:Hp) (xs:List V) (g:Z1) (Q:VK),Inv X pins b H s->Vals xs g->r xs H Q->
  wpAny (model X.prog X.w) X.A (call f g) (EP X pins b Q) X.xe s
def Hl(X:Cx)(r:V->Hp->(Bool->Hp->Prop)->Prop):Prop:=
 ∀(pins:Zw) (s:Shared) (b:St) (H:Hp) (x:V) (v:Value) (Q:Bool->Hp->Prop),Inv X pins b H s->RelV x v->r x H Q->
  wpAny (model X.prog X.w) X.A (truthy v) (TP X pins b Q) X.xe s
noncomputable def tOp(r:R2)(g f:TE):TE:=λb H Q=>g b H λx i=>f b i λy h=>r x y h Q
noncomputable def tUn(r:V->Hp->VK->Prop)(f:TE):TE:=λb H Q=>f b H λx g=>r x g Q
noncomputable def rI(C:Int->Int->Prop)(g:Int->Int->V):R2:=λx y H Q=>∃i j,x=.int i/\y=.int j/\C i j/\Q (g i j) H
noncomputable def rI0(g:Int->Int->V):R2:=λx y H Q=>∃i j,x=.int i/\y=.int j/\Q (g i j) H
def rU(g:Int->V):V->Hp->VK->Prop:=λx H Q=>∃i,x=.int i/\Q (g i) H
section
variable {X:Cx}{a b c:Expr}{ta tb tc:TE}{pos:Pos}
def Sy(z:PE X a ta)(r:PE X b tb){pins}{s}{g:St}{H}{R:V->V->Hp->Prop}(I:Inv X pins g H s)(h:ta g H λx o=>tb g o λy l=>R x y l){Q}{f:Value->Value->Sem Value}(J:∀v u n x y l,Inv X pins g l n->RelV x v->RelV y u->R x y l->wpAny (model X.prog X.w) X.A (f v u) Q X.xe n) :
  wpAny (model X.prog X.w) X.A (eval a X.env) (λv j=>wpAny (model X.prog X.w) X.A (eval b X.env) (λu i=>wpAny (model X.prog X.w) X.A (f v u) Q X.xe i) X.xe j) X.xe s:=by
 refine thn (z pins s g H _ I h) λv p ⟨x,o,B,E,q⟩=>?_;refine thn (r pins p g o _ B q) λu n ⟨y,l,L,C,G⟩=>?_
 grind
def UK(n:OpR X (binaryOp l) r)(p:PE X a ta)(o:PE X b tb):PE X (.BinOp a l b pos) (tOp r ta tb):=by
 intro pins s f H Q I h;exact wpAny_BinOp (Sy p o I h λv u g x y z w j i q=>n pins g f z x y v u Q w j i q)
def PZ(n:UnR X (unaryOp l) r)(o:PE X a ta):PE X (.UnaryOp l a pos) (tUn r ta):=by
 intro pins s f H Q I h;exact UnaryOp_ (thn (o pins s f H _ I h) λv g ⟨x,q,p,i,j⟩=>n pins g f q x v Q p i j)
def opI{C}{g:Int->Int->Int}(rule:∀i j t u s Q E,C i j->Q (.int (g i j) s.toks) {s with toks:=s.toks+1}->wpAny (model X.prog X.w) X.A (f (.int i t)<|.int j u) Q E s) :
  OpR X f (rI C λi j=>.int (g i j)):=by
 intro pins s r H x y v u Q I o n h;obtain⟨i,j,rfl,rfl,p,q⟩:=h;obtain⟨t,rfl⟩:=o;obtain⟨l,rfl⟩:=n;exact rule i j t l s _ _ p ⟨.int (g i j),H,I.tok _,⟨_,rfl⟩,q⟩
def D5{g:Int->Int->Int}(rule:∀i j t u s Q E,Q (.int (g i j) s.toks) {s with toks:=s.toks+1}->wpAny (model X.prog X.w) X.A (f (.int i t)<|.int j u) Q E s) :
  OpR X f (rI0 λi j=>.int (g i j)):=by
 intro pins s p H x y v u Q I o n h;obtain⟨i,j,rfl,rfl,q⟩:=h;obtain⟨t,rfl⟩:=o;obtain⟨l,rfl⟩:=n;exact rule i j t l s _ _ ⟨.int (g i j),H,I.tok _,⟨_,rfl⟩,q⟩
def BK{g:Int->Int->Bool}(rule:∀i j t u s Q E,Q (.bool<|g i j) s->wpAny (model X.prog X.w) X.A (f (.int i t)<|.int j u) Q E s) :
  OpR X f (rI0 λi j=>.bl (g i j)):=by
 intro pins s p H x y v u Q I o n h;obtain⟨i,j,rfl,rfl,q⟩:=h;obtain⟨t,rfl⟩:=o;obtain⟨l,rfl⟩:=n;exact rule i j t l s _ _ ⟨.bl (g i j),H,I,rfl,q⟩
def SN(i j:Int):Prop:=0<j/\j<1073741824
def CMul(i j:Int):Prop:=(-(2 ^ 64)<i/\i<2 ^ 64)\/(-(2 ^ 64)<j/\j<2 ^ 64)
def CMul.ok (h:CMul i j):IntMulOk i j:=by
 rcases h with⟨g,f⟩|⟨g,f⟩
 ·exact .of_left (intBits_le_64 g f)
 ·exact .of_right (intBits_le_64 g f)
def JM:OpR X (binaryOp .Add) (rI0 λi j=>.int (i+j)):=D5 λ_ _ _ _ _ _ _ q=>add_int q
def U3:OpR X (binaryOp .Sub) (rI0 λi j=>.int (i-j)):=D5 λ_ _ _ _ _ _ _ q=>sub_int q
def Xe:OpR X (binaryOp .Mult) (rI CMul λi j=>.int (i*j)):=opI λ_ _ _ _ _ _ _ f q=>mul_int q f.ok
def U0:OpR X (binaryOp .FloorDiv) (rI SN λi j=>.int (i / j)):=opI λi j _ _ _ _ _ f q=>by
 have h:=f.1;have g:=f.2;exact floordiv_int (by lia) (by rw[Int.fdiv_eq_ediv_of_nonneg i (by lia)];exact q) (.inl<|PyProof.noPylong_small<|by lia)
def J8:OpR X (binaryOp .Mod) (rI (λ_ j=>0<j) λi j=>.int (i % j)):=opI λi j _ _ _ _ _ f q=>by
 exact mod_int' (by lia) (by grind)
def unI{g:Int->Int}(rule:∀i t s Q E,Q (.int (g i) s.toks) {s with toks:=s.toks+1}->wpAny (model X.prog X.w) X.A (f<|.int i t) Q E s) :
  UnR X f (rU λi=>.int (g i)):=by
 intro pins s l H x v Q I j h;obtain⟨i,rfl,q⟩:=h;obtain⟨t,rfl⟩:=j;exact rule i t s _ _ ⟨.int (g i),H,I.tok _,⟨_,rfl⟩,q⟩
def To:UnR X (unaryOp .USub) (rU λi=>.int (-i)):=unI λ_ _ _ _ _ q=>neg_int q
end
noncomputable def Fb:V->V->Bool
 | .non,.non=>true | .non,.int _=>true | .int _,.non=>true | .non,.bl _=>true | .bl _,.non=>true | .non,.str _=>true | .str _,.non=>true
 | .int _,.int _=>true | .bl _,.bl _=>true | .str _,.str _=>true | .byt _,.byt _=>true
 | .int _,.str _=>true | .str _,.int _=>true | .bl _,.str _=>true | .str _,.bl _=>true
 |_,_=>false
noncomputable def rEq:R2:=λx y H Q=>Fb x y=true/\Q (.bl<|decide (x=y)) H
noncomputable def rNe:R2:=λx y H Q=>Fb x y=true/\Q (.bl (!decide (x=y))) H
def CL{i j:Int}:decide (V.int i=V.int j)=(i==j):=by
 rw[Vl];simp
def AN{i j:Bool}:decide (V.bl i=V.bl j)=(i==j):=by
 rw[Vl];simp
def Fd{i j:Str}:decide (V.str i=V.str j)=(i==j):=by
 rw[Vl];simp
def DK{i j:Array UInt8}:decide (V.byt i=V.byt j)=(i.toList==j.toList):=by
 rw[Vl];cases i
 cases j
 simp
section
variable {X:Cx}{a b c:Expr}{ta tb tc:TE}{pos:Pos}
def Jv{f:St}{H}{s}{Q}{k g}(I:Inv X pins f H s)(q:Q (.bl k) H)(e:k=g):EP X pins f Q (.bool g) s:=by
 subst e;exact⟨.bl k,H,I,rfl,q⟩
def op_eq:OpR X (compareOp .Eq) rEq:=by
 intro pins s o H x y v u Q I n f h;obtain⟨l,q⟩:=h;cases x with
 |non=>
  cases n
  cases y with
  |non=>cases f;exact PySem.EqNone.eq_none_none (Jv I q<|by simp)
  |bl j=>cases f;exact PySem.EqNone.eq_none_bool (Jv I q<|by simp)
  |int j=>obtain⟨g,rfl⟩:=f;exact PySem.EqNone.eq_none_int (Jv I q<|by simp)
  |str j=>obtain⟨g,rfl⟩:=f;exact PySem.EqNone.eq_none_str (Jv I q<|by simp)
  |_=>exact absurd l YH
 |bl i=>
  cases n
  cases y with
  |non=>cases f;exact PySem.EqNone.eq_bool_none (Jv I q<|by simp)
  |bl j=>cases f;exact eq_bool (Jv I q AN)
  |str j=>obtain⟨g,rfl⟩:=f;exact PySem.EqMixed.eq_bool_str (Jv I q<|by simp)
  |_=>exact absurd l YH
 |int i=>
  obtain⟨t,rfl⟩:=n;cases y with
  |non=>cases f;exact PySem.EqNone.eq_int_none (Jv I q<|by simp)
  |int j=>obtain⟨g,rfl⟩:=f;exact eq_int (Jv I q CL)
  |str j=>obtain⟨g,rfl⟩:=f;exact PySem.EqMixed.eq_int_str (Jv I q<|by simp)
  |_=>exact absurd l YH
 |str i=>
  obtain⟨t,rfl⟩:=n;cases y with
  |non=>cases f;exact PySem.EqNone.eq_str_none (Jv I q<|by simp)
  |bl j=>cases f;exact PySem.EqMixed.eq_str_bool (Jv I q<|by simp)
  |int j=>obtain⟨g,rfl⟩:=f;exact PySem.EqMixed.eq_str_int (Jv I q<|by simp)
  |str j=>obtain⟨g,rfl⟩:=f;exact eq_str (Jv I q Fd)
  |_=>exact absurd l YH
 |byt i=>
  obtain⟨t,rfl⟩:=n;cases y with
  |byt j=>obtain⟨g,rfl⟩:=f;exact PySem.W.eq_bytes (Jv I q DK)
  |_=>exact absurd l YH
 |_=>cases y<;>exact absurd (show false=true from l) YH
def op_ne:OpR X (compareOp .NotEq) rNe:=by
 intro pins s o H x y v u Q I n f h;obtain⟨l,q⟩:=h;cases x with
 |non=>
  cases n
  cases y with
  |non=>cases f;exact PySem.EqNone.ne_none_none (Jv I q<|by simp)
  |bl j=>cases f;exact PySem.EqNone.ne_none_bool (Jv I q<|by simp)
  |int j=>obtain⟨g,rfl⟩:=f;exact PySem.EqNone.ne_none_int (Jv I q<|by simp)
  |str j=>obtain⟨g,rfl⟩:=f;exact PySem.EqNone.ne_none_str (Jv I q<|by simp)
  |_=>exact absurd l YH
 |bl i=>
  cases n
  cases y with
  |non=>cases f;exact PySem.EqNone.ne_bool_none (Jv I q<|by simp)
  |bl j=>cases f;exact ne_bool (Jv I q<|Wz not AN)
  |str j=>obtain⟨g,rfl⟩:=f;exact PySem.EqMixed.ne_bool_str (Jv I q<|by simp)
  |_=>exact absurd l YH
 |int i=>
  obtain⟨t,rfl⟩:=n;cases y with
  |non=>cases f;exact PySem.EqNone.ne_int_none (Jv I q<|by simp)
  |int j=>obtain⟨g,rfl⟩:=f;exact ne_int (Jv I q<|Wz not CL)
  |str j=>obtain⟨g,rfl⟩:=f;exact PySem.EqMixed.ne_int_str (Jv I q<|by simp)
  |_=>exact absurd l YH
 |str i=>
  obtain⟨t,rfl⟩:=n;cases y with
  |non=>cases f;exact PySem.EqNone.ne_str_none (Jv I q<|by simp)
  |bl j=>cases f;exact PySem.EqMixed.ne_str_bool (Jv I q<|by simp)
  |int j=>obtain⟨g,rfl⟩:=f;exact PySem.EqMixed.ne_str_int (Jv I q<|by simp)
  |str j=>obtain⟨g,rfl⟩:=f;exact ne_str (Jv I q<|Wz not Fd)
  |_=>exact absurd l YH
 |byt i=>
  obtain⟨t,rfl⟩:=n;cases y with
  |byt j=>obtain⟨g,rfl⟩:=f;exact PySem.W.ne_bytes (Jv I q<|Wz not DK)
  |_=>exact absurd l YH
 |_=>cases y<;>exact absurd (show false=true from l) YH
def PX:OpR X (compareOp .Lt) (rI0 λi j=>.bl (decide (i<j))):=BK λ_ _ _ _ _ _ _ q=>lt_int q
def Kk:OpR X (compareOp .Gt) (rI0 λi j=>.bl (decide (j<i))):=BK λ_ _ _ _ _ _ _ q=>gt_int q
def MO:OpR X (compareOp .GtE) (rI0 λi j=>.bl (decide (j<=i))):=BK λ_ _ _ _ _ _ _ q=>ge_int q
def OpR.or (h:OpR X f r) (h':OpR X f l):OpR X f (λx y H Q=>r x y H Q\/l x y H Q):=by
 intro pins s g H x y v u Q I j i q;rcases q with q|q
 ·exact h pins s g H x y v u Q I j i q
 ·exact h' pins s g H x y v u Q I j i q
def UZ(b:Expr){op}(h:autoParam (op≠.In) au_1)(i:autoParam (op≠.NotIn) au_1):behindInMarks op b=false:=by
 have g:(op==CmpOp.In)=false:=by grind
 have f:(op==CmpOp.NotIn)=false:=by grind
 cases b<;>simp[behindInMarks,g,f]
def Ku(n:OpR X (compareOp f) r)(w:PE X a ta)(p:PE X b tb)(o:behindInMarks f b=false):PE X (.Compare a [f] [b] pos) (tOp r ta tb):=by
 intro pins s g H Q I h;exact wpAny_Compare1 (Sy w p I h λv u i x y A z l j q=>n pins i g A x y v u Q z l j q) o
noncomputable def Tg(t:TE):TT:=λf H Q=>t f H λx g=>∃k,x=.bl k/\Q k g
def Xf(A:OpR X (compareOp g) r)(E:PE X a ta)(C:PE X b tb)(B:behindInMarks g b=false):PT X (.Compare a [g] [b] pos) (Tg<|tOp r ta tb):=by
 intro pins s f H Q I h
 refine wpAny_isTrue_Compare1 (thn (E pins s f H _ I h) λv j ⟨x,T,L,o,w⟩=>thn (C pins j f T _ L w) λu i ⟨y,N,J,n,q⟩=>
  thn (A pins i f N x y v u _ J o n q) λc U ⟨z,M,G,l,k,e,p⟩=>?_) B
 subst e;cases l
 exact Qc ⟨M,G,p⟩
def Bc(K:Zt)(x:V)(H:Hp)(k:Bool):Prop:=
 match x with
 | .non=>k=false
 | .bl b=>k=b
 | .int i=>k=(i != 0)
 | .str y=>y.length<=sizeLine/\k=((y.length:Int) != 0)
 | .byt y=>y.size<=sizeLine/\k=((y.size:Int) != 0)
 | .ref p=>(∃xs,SqL K H p xs/\k=!xs.isEmpty)\/(∃xs,SqT K H p xs/\k=!xs.isEmpty)\/∃f,H p=some (.dK f)/\k=!f.isEmpty
 |_=>False
def Za4(r:KV f vs):(!vs.isEmpty)=!f.isEmpty:=by
 cases r<;>rfl
def G1(r:Vals xs f):(!f.toArray.isEmpty)=!xs.isEmpty:=by
 cases r<;>simp
def S7:(sizeLine:Nat)<2 ^ 63:=by trivial
def M8:Hl X (λx H Q=>∃k,Bc X.K x H k/\Q k H):=by
 intro pins s A H x v Q I j h;obtain⟨k,e,q⟩:=h;have E:=S7;have C:=Wx;cases x with
 |non=>
  cases j
  have f:=e;subst f;exact truthy_none ⟨H,I,q⟩
 |bl b=>
  cases j
  have f:=e;subst f;exact Qc ⟨H,I,q⟩
 |int i=>
  obtain⟨t,rfl⟩:=j;have f:=e;subst f;exact PySem.P.truthy_int ⟨H,I,q⟩
 |str y=>
  obtain⟨t,rfl⟩:=j;obtain⟨w,f⟩:=e;subst f;exact PySem.P.truthy_str (by lia) ⟨H,I.tok _,q⟩
 |byt y=>
  obtain⟨t,rfl⟩:=j;obtain⟨w,f⟩:=e;subst f;exact PySem.W.truthy_bytes (by lia) ⟨H,I.tok _,q⟩
 |ref p=>
  cases j
  have f:=e;rcases f with⟨xs,hx,f⟩|⟨xs,hx,f⟩|⟨u,hx,f⟩
  ·subst f;obtain⟨n,r,l,o⟩:=I.list hx;have g:=r.length;exact wpAny_truthy_list l.isList (by simp only[YL];lia) ⟨H,I.tok _,by rw[G1 r];exact q⟩
  ·subst f;obtain⟨n,r,l,o⟩:=I.tuple hx;have g:=r.length;exact truthy_tuple l (by simp only[YL];lia) ⟨H,I.tok _,by rw[G1 r];exact q⟩
  ·subst f;obtain⟨o,z,B,r,m⟩:=I.hok p _ hx;have g:=Paired.length r;exact wpAny_truthy_dict z m (by lia) ⟨H,I.tok _,by rw[Za4 r];exact q⟩
 |_=>exact e.elim
def Zbo(o:PE X a ta)(n:∀whole,isTrue a X.env whole=(do let v ←whole;standAt a.pos;holding [v] (truthy v))) :
  PT X a (λf H Q=>ta f H λx g=>∃k,Bc X.K x g k/\Q k g):=by
 intro pins s f H Q I h;exact isTrue_plain (thn (o pins s f H _ I h) λv i ⟨x,q,p,j,l⟩=>M8 pins i f q x v Q p j l) (n _)
def vals1(r:Vals [x] us):∃u,us=[u]/\RelV x u:=by
 cases r with
 |cons g f=>cases f;exact⟨_,rfl,g⟩
def vals2(r:Vals [x,y] us):∃u f,us=[u,f]/\RelV x u/\RelV y f:=by
 cases r with
 |cons j i=>
  cases i with
  |cons h g=>cases g;exact⟨_,_,rfl,j,h⟩
def Rr(g:X.calm=true):JC X (.builtin "max") (λxs H Q=>∃i j,xs=[.int i,.int j]/\Q (.int (if j>i then j else i)) H):=by
 intro pins s l H xs o Q I r h;obtain⟨i,j,rfl,q⟩:=h;obtain⟨u,n,rfl,⟨t,rfl⟩,⟨v,rfl⟩⟩:=vals2 r;refine max_two_ints (I.ok.hd g) λw p k=>⟨_,H,I.kept k,?_,q⟩;by_cases f:j>i
 ·rw[Y5 f,Y5 f];exact⟨_,rfl⟩
 ·rw[Y4 f,Y4 f];exact⟨_,rfl⟩
def Zah:JC X (.type "int") (λxs H Q=>(∃i,xs=[.int i]/\Q (.int i) H)\/∃k,xs=[.bl k]/\Q (.int (if k then 1 else 0)) H):=by
 intro pins s g H xs j Q I r h;rcases h with⟨i,rfl,q⟩|⟨k,rfl,q⟩
 ·obtain⟨u,rfl,t,rfl⟩:=vals1 r;exact call_int_int ⟨.int i,H,I,⟨_,rfl⟩,q⟩
 ·obtain⟨u,rfl,f⟩:=vals1 r;cases f
  exact call_int_bool ⟨.int (if k then 1 else 0),H,I.tok _,⟨_,rfl⟩,q⟩
def Tx(K:Zt)(x:V)(H:Hp)(n:Nat):Prop:=
 match x with
 | .str y=>y.length<=sizeLine/\n=y.length
 | .byt y=>y.size<=sizeLine/\n=y.size
 | .ref p=>(∃xs,SqL K H p xs/\n=xs.length)\/∃xs,SqT K H p xs/\n=xs.length
 |_=>False
def Ng:JC X (.builtin "len") (λxs H Q=>∃x n,xs=[x]/\Tx X.K x H n/\Q (.int n) H):=by
 intro pins s z H xs A Q I r h;obtain⟨x,n,rfl,e,q⟩:=h;obtain⟨u,rfl,i⟩:=vals1 r;have B:=Wx;cases x with
 |str y=>
  obtain⟨t,rfl⟩:=i;obtain⟨w,g⟩:=e;subst g;exact len_str (by lia) ⟨.int _,H,I.tok _,⟨_,rfl⟩,q⟩
 |byt y=>
  obtain⟨t,rfl⟩:=i;obtain⟨w,g⟩:=e;subst g;exact PySem.W.len_bytes (by lia) ⟨.int _,H,I.tok _,⟨_,rfl⟩,q⟩
 |ref p=>
  cases i
  have g:=e;rcases g with⟨xs,hx,g⟩|⟨xs,hx,g⟩
  ·subst g;obtain⟨o,j,l,v⟩:=I.list hx;have f:=j.length;exact Calls.call_len_list l.isList (by simp only[YL];lia) ⟨.int xs.length,H,I.tok _,⟨_,by simp only[YL];rw[f]⟩,q⟩
  ·subst g;obtain⟨o,j,l,v⟩:=I.tuple hx;have f:=j.length;exact len_tuple l (by simp only[YL];lia) ⟨.int xs.length,H,I.tok _,⟨_,by simp only[YL];rw[f]⟩,q⟩
 |_=>exact e.elim
end
structure Nt (h:Heap) (x dx C:Addr) (mA:Zx):Prop where
 obj:h.get? x=some (PySem.W.instObj C dx)
 ns:h.Ns1 dx mA
 ne:dx≠x
def Zdd{h:Heap}{dx}{mA}(n:h.Ns1 dx mA):∃f,h.get? dx=some f/\∀name,PySem.W.lookIn name f=some (mA name):=by
 obtain⟨o,r,s,i,p,l,_,j⟩:=n;refine⟨o,i,λname=>?_⟩;have e:=j name;unfold nsFind findBy at e;unfold PySem.W.lookIn;rw[p]
 dsimp only
 split
 ·grind
 ·rename_i q
  have a:r.toList.any (·.refKey)=false:=by
   rw[List.any_eq_false];intro y g;obtain⟨z,t,b⟩:=l y (Array.mem_toList_iff.mp g);simp[DictEntry.refKey,b]
  grind
def Nt.look (I:Nt h x j C f):∃b,PySem.W.InstAt h x (PySem.W.instObj C j) C (some b)/\∀name,PySem.W.lookIn name b=some (f name):=
 let ⟨b,g,i⟩:=Zdd I.ns
 ⟨b,⟨I.obj,rfl,rfl,g⟩,i⟩
def RelO.some_of (r:RelO (some v) o):∃u,o=some u/\RelV v u:=by
 cases o with
 |none=>trivial
 |some u=>exact⟨u,rfl,r⟩
section
variable {P:Program}{w:World}{H H':Hp}{h h':Heap}{a C dx:Addr}{fs fs':List (Str×V)}
def HK(g:HOk P w H h)(e:H a=some (.ins C dx fs)):∃b,Nt h a dx C b/\(∀f,RelO (fs.lookup f) (b f))/\PySem.Within b (fs.map (·.1))/\fs.length<=1000/\H dx=some (.own a):=by
 obtain⟨d,z,j,i,b,n,r,q⟩:=(g a _ e);exact⟨b,⟨i,n,j⟩,r,q,z,d⟩
end
structure Cls (K:Zt) (C:Addr):Prop where
 pg:PySem.W.plainGet K C Str.empty=true
 hd:PySem.W.hasDictIn K C=true
 po:PySem.W.plainOver K C=true
 sa:PySem.W.findIn K (.ref C) "__setattr__"=some (some<|.builtin "object.__setattr__")
def Cls.get {K C} (c:Cls K C) (f:Str):PySem.W.plainGet K C f=true:=c.pg
def Iv(K:Zt)(C:Addr)(f:Str):Prop:=PySem.W.findIn K (.ref C) f=some none
section
variable {X:Cx}{pins:Zw}{σ:St}{H:Hp}{s:Shared}{A:Around}{E:Zy}{Q:Zy}{c:Value}{b:Bool}
inductive JZ (K:Zt) (H:Hp):V->Value->Prop where
 |non:JZ K H .non (.type "NoneType")
 |bl (x:Bool):JZ K H (.bl x) (.type "bool")
 |int (i:Int):JZ K H (.int i) (.type "int")
 |str (x:Str):JZ K H (.str x) (.type "str")
 |flt (x:UInt64):JZ K H (.flt x) (.type "float")
 |lst {a:Addr} {xs:List V} (e:H a=some (.lst xs)):JZ K H (.ref a) (.type "list")
 |frz {a:Addr} {o:Obj} {xs:List V} (e:H a=some (.frz o<|.lst xs)):JZ K H (.ref a) (.type "list")
 |tup {a:Addr} {xs:List V} (e:H a=some (.tup xs)):JZ K H (.ref a) (.type "tuple")
 |dK {a:Addr} {kvs:List (Key×V)} (e:H a=some (.dK kvs)):JZ K H (.ref a) (.type "dict")
 |dT {a:Addr} {kvs:List (List Key×V)} (e:H a=some (.dT kvs)):JZ K H (.ref a) (.type "dict")
 |ins {a C dx:Addr} {fs:List (Str×V)} (e:H a=some (.ins C dx fs)) (cl:Cls K C) (ha:PySem.W.findIn K (.ref C) "__class__"=some (some<|.builtin "object.__class__"))
   (hn:PySem.W.specialIn K (.builtin "object.__class__") "__get__"=some (some<|.builtin "getset_descriptor.__get__")) (htk:PySem.W.takesIn K (.builtin "object.__class__")=some true)
   (hm:PySem.W.mroIn K C (.type "object")=some true):JZ K H (.ref a) (.ref C)
def Zak(I:Inv X pins σ H s)(f:RelV x u)(G:JZ X.K H x t)(e:PySem.W.kitOne X.K t c=some b)(h:∀L,Q (.bool b) {s with toks:=L}) :
  wpAny (model X.prog X.w) A (call (.builtin "isinstance") [u,c]) Q E s:=by
 cases G with
 |non=>cases f;exact W1 PySem.W.kitx_none I.kIn True.intro e (λz=>nomatch z) h
 |bl y=>cases f;exact W1 PySem.W.kitx_bool I.kIn True.intro e (λz=>nomatch z) h
 |int i=>obtain⟨t,q⟩:=f;cases q;exact W1 PySem.W.kitx_int I.kIn True.intro e (λz=>nomatch z) h
 |str y=>obtain⟨t,q⟩:=f;cases q;exact W1 PySem.W.kitx_str I.kIn True.intro e (λz=>nomatch z) h
 |flt y=>obtain⟨t,q⟩:=f;cases q;exact W1 PySem.W.kitx_float I.kIn True.intro e (λz=>nomatch z) h
 | @lst a xs g=>
  cases f
  obtain⟨_,_,n,_,j⟩:=(I.hok a _ g);exact W1 PySem.W.kitx_list I.kIn ⟨_,j,rfl⟩ e (λz=>nomatch z) h
 | @frz a ob xs g=>
  cases f
  obtain⟨_,_,_,n,_,j⟩:=(I.hok a _ g);exact W1 PySem.W.kitx_list I.kIn ⟨_,j,rfl⟩ e (λz=>nomatch z) h
 | @tup a xs g=>
  cases f
  obtain⟨_,_,_,p⟩:=(I.hok a _ g);obtain⟨o,j,l,_⟩:=p;exact W1 PySem.W.kitx_tuple I.kIn ⟨o,j,l⟩ e (λz=>nomatch z) h
 | @dK a r g=>
  cases f
  obtain⟨_,_,vs,_,p⟩:=(I.hok a _ g);obtain⟨o,U,Y,j,l,_⟩:=p;exact W1 PySem.W.kitx_dict I.kIn ⟨o,j,l.1⟩ e (λz=>nomatch z) h
 | @dT a r g=>
  cases f
  obtain⟨_,_,xs,_,o,U,Y,j,l,_⟩:=(I.hok a _ g);exact W1 PySem.W.kitx_dict I.kIn ⟨o,j,l.1⟩ e (λz=>nomatch z) h
 | @ins a C dx fs g B T M v N=>
  cases f
  obtain⟨mA,O,_⟩:=HK I.hok g;obtain⟨od,J,_⟩:=O.look;exact W1 (PySem.W.kitx_own (B.get _) B.hd T M v N) I.kIn J e (λz=>nomatch z) h
end
structure Jl (k:Nat) (A:Around):Prop where
 hd:A.handled=none
 dp:A.depth+3*k+5<recursionLimit
 un:A.units+16*k+200<cLine
 gd:A.guards=some []
def Jl.mono {j k A} (r:Jl k A) (h:j<=k):Jl j A:=⟨r.hd,by have:=r.dp;lia,by have:=r.un;lia,r.gd⟩
def Jl.deeper (r:Jl (k+1) A) (env:Env):Jl k (A.deeper env):=
 ⟨r.hd,by have:=r.dp;show A.depth+1+3*k+5<_;lia,by have:=r.un;show A.units+3+16*k+200<_;lia,r.gd⟩
def Jl.depth (r:Jl k A):A.depth<recursionLimit:=by have:=r.dp;lia
def Jl.units (r:Jl k A):A.units+64<cLine:=by have:=r.un;lia
def Jl.units0 (r:Jl k A):A.units<cLine:=by have:=r.un;lia
noncomputable def JS:TA:=λ_ H Q=>Q [] H
noncomputable def J3(g:TE)(f:TA):TA:=λb H Q=>g b H λx i=>f b i λxs h=>Q (x::xs) h
section
variable {X:Cx}{e:Expr}{es:Z3}{te:TE}{t:TA}{pos:Pos}
def J9:PA X [] JS:=λ_ _ _ _ H Q I h=>Calls.spliced_nil ⟨[],H,I,.nil,h⟩
def Jw(p:PE X e te)(o:PA X es t)(n:autoParam (starEach (e::es) X.env=(false,eval e X.env)::starEach es X.env) au_0):PA X (e::es) (J3 te t):=by
 intro pos pins s b H Q I h;rw[n];refine Calls.spliced_cons (thn (p pins s b H _ I h) ?_);rintro u f ⟨x,w,r,i,l⟩;exact thn (o pos pins f b w _ r l) λy z ⟨xs,v,q,g,j⟩=>⟨x::xs,v,q,.cons i g,j⟩
noncomputable def Bk(t:TA):TE:=λf H Q=>t f H λxs b=>xs.length<=sizeLine/\∀p,b p=none->Q (.ref p) (upd b p<|.tup xs)
noncomputable def SS(t:TA):TE:=λf H Q=>t f H λxs b=>xs.length<=sizeLine/\∀p,b p=none->Q (.ref p) (upd b p<|.lst xs)
def Xn(h:PA X es t):PE X (.Tuple es n pos) (Bk t):=by
 intro pins s i H Q I hq;refine wpAny_Tuple_spliced (thn (h pos pins s i H _ I hq) ?_);rintro j f ⟨xs,l,g,r,z,q⟩;refine⟨by rw[←r.length];exact z,?_⟩;refine⟨.ref f.heap.objs.size,upd l f.heap.objs.size (.tup xs),g.laid (λb u e=>Y0 _ e) (Y1 _) ?_,rfl,q _ (g.hok.fresh<|Y1 _)⟩;exact⟨z,j,r,⟨_,Y7 _ rfl,rfl,_,rfl⟩⟩
def Xl(h:PA X es t):PE X (.List es pos) (SS t):=by
 intro pins s i H Q I hq;refine wpAny_List_spliced (thn (h pos pins s i H _ I hq) ?_);rintro j f ⟨xs,l,g,r,z,q⟩;refine⟨by rw[←r.length];exact z,?_⟩;refine⟨.ref f.heap.objs.size,upd l f.heap.objs.size (.lst xs),g.laid (λb u e=>Y0 _ e) (Y1 _) ?_,rfl,q _ (g.hok.fresh<|Y1 _)⟩;exact⟨z,j,0,r,Y7 _ rfl⟩
end
abbrev Sp:=List V->Hp->VK->XK->Prop
abbrev CXT:=List Env->Hp->Shared->XK->Zy
structure Ke (P:Program) (w:World) (K:Zt) (mg:Zx) (base:Heap) (A:Around) (outer:List Env) (s:Shared) (H:Hp):Prop where
 frames:A.frames=some outer
 mod:Mod K mg base
 bs:∀b o,base.get? b=some o->s.heap.get? b=some o/\H b=none
 bsz:base.objs.size<=s.heap.objs.size
 funs:s.heap.FunFrames base outer
 frf:∀b∈frs outer,H b=none
 hok:HOk P w H s.heap
 bare:AllBare s.gens
def CE(outer:List Env)(P:Program)(w:World)(H:Hp)(s:Shared)(Q:VK)(u:Value)(b:Shared):Prop:=
 ∃v f,b.os=s.os/\AllBare b.gens/\Un (frs outer) [] H f s.heap b.heap/\HOk P w f b.heap/\RelV v u/\Q v f
def CR(CX:CXT)(outer:List Env)(P:Program)(w:World)(H:Hp)(s:Shared)(Q:VK)(E:XK)(r:Result)(b:Shared):Prop:=
 match r with
 | .ok (.ret u)=>CE outer P w H s Q u b
 | .ok _=>False
 | .error e=>CX outer H s E e b
structure Xh (P:Program) (w:World) (K:Zt) (mg:Zx) (base:Heap) (CX:CXT) (k:Nat) (f:Addr) (fd:FuncData) (ps:Z2) (sp:Sp):Prop where
 len:∀vs H Q E,sp vs H Q E->vs.length=ps.length
 run:∀(A:Around) (outer:List Env) (s:Shared) (H:Hp) (args:Args) (us:Z1) (vs:List V) (Q:VK) (E:XK),Jl k A->Ke P w K mg base A outer s H->BindsTo s fd args (ps.zip us)->Vals vs us->sp vs H Q E->
  codeAny (model P w) A (.call (.ref f) args) (CR CX outer P w H s Q E) s
def Xh.imp {K g base CX k f i ps sp b} (F:Xh P w K g base CX k f i ps sp)
  (h:∀vs H Q E,b vs H Q E->sp vs H Q E):Xh P w K g base CX k f i ps b:=
 ⟨λvs H Q E q=>F.len vs H Q E (h _ _ _ _ q),λA outer s H args j vs Q E o p r l n=>F.run A outer s H args j vs Q E o p r l (h _ _ _ _ n)⟩
section
variable {X:Cx}{pins:Zw}{σ:St}{H:Hp}{s s':Shared}
def Inv.env0 (I:Inv X pins σ H s):Ke X.prog X.w X.K X.mg X.base X.A X.stack s H:=
 ⟨I.ok.frames,I.ok.mod,I.bs,Y8 I.ok.bsz I.sz,I.stack,I.stkFree,I.hok,I.bare⟩
def Inv.after (I:Inv X pins σ H s) (h:CE X.stack X.prog X.w H s Q u s'):EP X pins σ Q u s':=by
 obtain⟨v,j,os,bare,un,f,r,q⟩:=h;obtain⟨l,g,d,t,i⟩:=s';obtain rfl:=os;exact⟨v,j,I.call un f bare (λb z=>absurd z (by simp)),r,q⟩
end
noncomputable def Pt(sp:Sp)(b:List V)(E:XK)(t:TA):TE:=λf H Q=>t f H λg h=>sp (g++b) h Q E
def Binds(K:Zt)(f:FuncData)(ps:Z2)(ds:Z1):Prop:=
 ∀(s:Shared) (b:Z1),K.In s.heap->(b++ds).length=ps.length->BindsTo s f ⟨b,[]⟩ (ps.zip (b++ds))
def Binds.all {K f ps} (h:∀us,us.length=ps.length->bindArgs f ⟨us,[]⟩=pure (ps.zip us)):Binds K f ps []:=λs us _ b=>by
 rw[WZ]at b ⊢;exact .of_eq (h us b)
def XB(CX:CXT)(X:Cx)(E:XK):Prop:=∀(pins:Zw) (f:St) (H:Hp) (s:Shared) (e:Value) (b:Shared),Inv X pins f H s->CX X.stack H s E e b->X.xe e b
section
variable {X:Cx}{CX:CXT}{k:Nat}{f C:Addr}{fd:FuncData}{ps:Z2}{sp:Sp}{dvs:List V}{ds:Z1}{E:XK}{x m:Str}{p pos apos:Pos}{e o:Expr}{es:Z3}{ta:TE}{t:TA}
def MD{b:St}{H}{s}{Q}{us}{vs}(F:Xh X.prog X.w X.K X.mg X.base CX k f fd ps sp)(j:Jl k X.A)(q:Binds X.K fd ps ds)(n:Vals dvs ds)(hx:XB CX X E)(I:Inv X pins b H s)(r:Vals vs us)(h:sp (vs++dvs) H Q E):wpAny (model X.prog X.w) X.A (call (.ref f) us) (EP X pins b Q) X.xe s:=by
 have g:=r.append n;have l:(us++ds).length=ps.length:=by rw[←g.length];exact F.len _ _ _ _ h
 refine wpAny_call (Q6 (F.run X.A X.stack s H ⟨us,[]⟩ (us++ds) (vs++dvs) Q E j I.env0 (q s us I.kIn l) g h) λr i hq=>?_);cases r with
 |error e=>exact hx pins b H s e i I hq
 |ok v=>
  cases v with
  |ret u=>exact I.after hq
  |cont=>exact False.elim hq
  |_=>trivial
def MR(F:Xh X.prog X.w X.K X.mg X.base CX k f fd ps sp)(l:Jl k X.A)(v:Gl X x)(n:X.mg x=some (.ref f))(u:PySem.W.keepIn X.K (.ref f)=true)(B:Binds X.K fd ps ds)(z:Vals dvs ds)(hx:XB CX X E)(G:PA X (e::es) t)(g:autoParam ((x==("__debug__" : Str))=false) au_1)(y:autoParam (starEach (e::es) X.env=(false,eval e X.env)::starEach es X.env) au_0)(b:autoParam ((backTo pos<|starEach es X.env).any (·.1)=false) au_0) :
  PE X (.Call (.Name x p) (e::es) [] pos) (Pt sp dvs E t):=by
 intro pins s j H Q I h;refine Q7 (BO I v n ?_ g);refine PySem.W.callWith_K I.ok.mod.kin u (thn (G pos pins s j H _ I h) ?_) y b;rintro L M ⟨J,N,i,r,q⟩;refine⟨i.kIn,?_⟩;exact MD F l B z hx i r q
end
structure Jd (N P:Z2) (sc:Scope):Prop where
 kind:sc.kind=.function
 co:sc.isCoroutine=false
 gen:sc.isGenerator=false
 nd:N.Nodup
 pre:N.take P.length=P
 par:∀x∈P,sc.names.lookup x=some .local\/sc.names.lookup x=some .cell
 nofree:∀y∈sc.names,y.2≠.free
theorem DL{kindOf x}:∀{binds}{m:Zx},(∀v,(x,v)∉binds)->bindL kindOf binds m x=m x
 |[],_,_=>rfl
 |(n,v)::r,m,h=>by
  unfold bindL;rw[DL λw hw=>h w (YT _ hw)];split
  ·grind
  ·rfl
theorem GM{kindOf x}:∀{binds}{m:Zx},(∀v,(x,v)∉binds)->bindC kindOf binds m x=m x
 |[],_,_=>rfl
 |(n,v)::r,m,h=>by
  unfold bindC;rw[GM λw hw=>h w (YT _ hw)];split
  ·rfl
  ·grind
theorem GN{kindOf}{x}{v}:∀{P:Z2}{vs}{i:Nat}{m:Zx},P.Nodup->P[i]?=some x->vs[i]?=some v->kindOf x=some .local->
  bindL kindOf (P.zip vs) m x=some v
 |[],_,_,_,_,h,_,_|_::_,[],_,_,_,_,h,_=>by simp at h
 |p::P,w::vs,0,m,b,j,g,f=>by
  simp at j g;subst j;subst g;show bindL kindOf ((p,w)::P.zip vs) m p=_;unfold bindL;rw[DL λv l=>(Wi.mp b).1 (Vm l).1,Y5 f];simp
 |p::P,w::vs,i+1,m,b,j,g,f=>by
  unfold bindL;exact GN (Wi.mp b).2 (by trivial) (by grind) f
theorem Ah{kindOf}{x}{v}:∀{P:Z2}{vs}{i:Nat}{m:Zx},P.Nodup->P[i]?=some x->vs[i]?=some v->kindOf x≠some .local->
  bindC kindOf (P.zip vs) m x=some v
 |[],_,_,_,_,h,_,_|_::_,[],_,_,_,_,h,_=>by simp at h
 |p::P,w::vs,0,m,b,j,g,f=>by
  simp at j g;subst j;subst g;show bindC kindOf ((p,w)::P.zip vs) m p=_;unfold bindC;rw[GM λv l=>(Wi.mp b).1 (Vm l).1,Y4 f];simp
 |p::P,w::vs,i+1,m,b,j,g,f=>by
  unfold bindC;exact Ah (Wi.mp b).2 (by trivial) (by grind) f
noncomputable def start(N:Z2)(vs:List V):St:=vs.map some++List.replicate (N.length-vs.length) none
noncomputable def JG(CX:CXT)(P:Program)(w:World)(K:Zt)(mg:Zx)(base:Heap)(N:Z2)(qual:Str)(scope:Scope)(f:Addr)(cd:Value)(A:Around)(outer:List Env)(s:Shared)(H:Hp)(E:XK):Cx where
 prog:=P
 w:=w
 K:=K
 mg:=mg
 base:=base
 A:=A.deeper (envOfC qual scope s.heap.objs.size f cd)
 N:=N
 s₀:=s
 H₀:=H
 env:=envOfC qual scope s.heap.objs.size f cd
 outer:=outer
 stack:=envOfC qual scope s.heap.objs.size f cd::outer
 ex:=[]
 calm:=true
 fn:=λ_=>true
 pn:=[]
 xe:=λe s'=>wpAny (model P w) (A.deeper<|envOfC qual scope s.heap.objs.size f cd) (leaving (envOfC qual scope s.heap.objs.size f cd) e) (λ_ s''=>CX outer H s E e s'') (λe' s''=>CX outer H s E e' s'') s'
def AC{b:Scope}{n}{x}(h:b.names.lookup x=some .cell):∃c,(cellsFrom n b.names []).lookup x=some c:=by
 exact Option.isSome_iff_exists.mp (QV b.names n []<|.inl h)
def Fq{P}{w}{K}{mg}{base}{N ps}{qual}{scope}{f}{cd}{A}{outer}{s J}{H}{E}{us}{vs}(S:Jd N ps scope)(U:A.handled=none)(j:Ke P w K mg base A outer s H)(hl:vs.length=ps.length)(r:Vals vs us)(x:InCallC s s.heap.objs.size (bindL (envOfC qual scope s.heap.objs.size f cd).kindOf (ps.zip us) λ_=>none) (cellsFrom (s.heap.objs.size+1) scope.names []) (bindC (envOfC qual scope s.heap.objs.size f cd).kindOf (ps.zip us) λ_=>none) J) :
  Inv (JG CX P w K mg base N qual scope f cd A outer s H E) [] (start N vs) H J:=by
 have T:ps.length<=N.length:=by have:=Wz List.length S.pre;rw[Wg]at this;lia
 obtain⟨G,tk,rfl,M⟩:=x.done;have l:∀b,b∉(JG CX P w K mg base N qual scope f cd A outer s H E).ex:=λb z=>absurd (show b∈([]:List Addr)from z) (by simp)
 refine⟨⟨j.mod,S.kind,rfl,rfl,Y1 _,λy z c G g=>?_,λy n=>?_,λy c _ h=>?_,λ_=>U,Around.frames_deeper j.frames,.inr ⟨rfl,rfl⟩,λb z=>absurd z (l b),j.bs,j.bsz,λb _ _=>l b,λb z=>absurd z (l b),j.funs,j.frf⟩,
  rfl,j.bare,Un.kept M,⟨_,x.toInCall.ns,λi y v G g h3=>?_⟩,λy c h=>⟨_,x.cell y c h⟩,j.hok.fresh (Y1 _),λy c h=>?_,λp B=>absurd (show p∈([]:Zw)from B) (by simp),j.hok.kept M,?_⟩
 ·exact name_of_addr x.apart (Wt G) (Wt g)
 ·have n:=n;rcases n with n|n
  ·exact AC n
  ·exact absurd rfl (S.nofree _<|Wt n)
 ·exact Q5 (x.above y c<|Wt h)
 ·have C:i<vs.length:=by
   unfold start at g;by_cases C:i<vs.length
   ·exact C
   ·rw[Qb (by simpa using C)]at g;rw[List.getElem?_replicate]at g;split at g<;>cases g
  have Y:vs[i]?=some v:=by
   unfold start at g;rw[W5 (by simpa using C),YB]at g;cases e:vs[i]? with
   |none=>rw[e]at g;cases g
   |some a=>rw[e]at g;cases g;rfl
  obtain⟨u,L,Q⟩:=r.get Y
  have B:ps[i]?=some y:=by
   rw[←S.pre,WJ (by lia)];exact G
  have o:ps.Nodup:=by rw[←S.pre];exact S.nd.sublist (QM _ _)
  refine⟨u,Q,?_⟩;rcases S.par y (Wj B)with k|k
  ·exact .inl ⟨k,GN o B L k⟩
  ·obtain⟨c,e⟩:=AC k;refine .inr ⟨.inl k,c,e,?_⟩;have q:=x.cell y c e;rw[Ah o B L (by show scope.names.lookup y≠_;rw[k];decide)]at q;exact q
 ·exact j.hok.fresh (Q5<|x.above y c<|Wt h)
 ·unfold start;show _=N.length;rw[YK,Yy,List.length_replicate];lia
def EH{K G base k f name qual params body scope dV kV C pm g ct oc an od T N ps sp}(lk:K.lookup f=some ⟨oc,od,.func (PySem.W.fnOf name qual params body scope dV kV C pm an g ct),T⟩)(Y:PySem.W.codeIn K g qual=true)(S:Jd N ps scope)(len:∀vs H Q E,sp vs H Q E->vs.length=ps.length)
  (l:∀A outer s H vs Q E,Jl k (A.deeper<|envOfC qual scope s.heap.objs.size f g)->sp vs H Q E->
   ∃t,PSs (JG CX P w K G base N qual scope f g A outer s H E) body t/\t {nx:=λ_ i=>Q .non i,rt:=Q} (start N vs) H) :
  Xh P w K G base CX (k+1) f (PySem.W.fnOf name qual params body scope dV kV C pm an g ct) ps sp:=by
 refine⟨len,λA outer s H args us vs Q E U B hb r p=>?_⟩;have KX:=B.mod.kin.keeps λb o e=>(B.bs b o e).1
 have j:∀y∈ps.zip us,scope.names.lookup y.1=some .local\/(scope.names.lookup y.1=some .cell/\((cellsFrom (s.heap.objs.size+1) scope.names []).lookup y.1).isSome=true):=λ⟨n,v⟩ hy=>by
  rcases S.par n (Vm hy).1 with q|q
  ·exact .inl q
  ·exact .inr ⟨q,QV _ _ _ (.inl q)⟩
 refine codeAny_call_function U.depth (KX _ _ lk) rfl S.co S.gen rfl (PySem.W.codeRec_of KX Y) (hb _ _ _ _ ?_);refine wpAny_newFunctionEnv_cells S.kind j λenv he s1 x=>?_;subst he;refine⟨(B.mod.nolimit.keeps λb o e=>(B.bs b o e).1).keeps x.toInCall.keep,codeAny_func ?_⟩;obtain⟨t,ht,hq⟩:=l A outer s H vs Q E (U.deeper _) p;have I:Inv (JG CX P w K G base N qual scope f g A outer s H E) [] (start N vs) H s1:=Fq S U.hd B (len _ _ _ _ p) r x;refine Wl (ht [] s1 (start N vs) H _ I hq) (λfl L z=>?_) λe L z=>z
 have fin:∀{h:St} {i:Hp} {v:V} {u:Value},Inv (JG CX P w K G base N qual scope f g A outer s H E) [] h i L->RelV v u->Q v i->CE outer P w H s Q u L:=
  λ{h i v u} J M q=>⟨v,i,J.os,J.bare,J.base,J.hok,M,q⟩
 cases fl with
 |ret u=>
  obtain⟨v,h,i,J,M,q⟩:=z;exact fin J M q
 |next=>
  obtain⟨h,i,J,q⟩:=z;exact fin (v:=V.non) J rfl q
 |_=>
  obtain⟨_,_,_,q⟩:=z;exact False.elim q
section
variable {X:Cx}{x:Str}{p pos:Pos}{e:Expr}{es:Z3}{t:TA}{id T:String}{r:List V->Hp->VK->Prop}
noncomputable def tCB(r:List V->Hp->VK->Prop)(t:TA):TE:=λb H Q=>t b H λf g=>r f g Q
def J2(z:JC X (.builtin id) r)(w:Gl X x)(v:X.mg x=none)(q:bootBuiltins x=some (.builtin id))(A:PA X (e::es) t)(u:autoParam (x≠"__name__") au_1)(f:autoParam ((x==("__debug__" : Str))=false) au_1)(y:autoParam (starEach (e::es) X.env=(false,eval e X.env)::starEach es X.env) au_0)(b:autoParam ((backTo pos<|starEach es X.env).any (·.1)=false) au_0):PE X (.Call (.Name x p) (e::es) [] pos) (tCB r t):=by
 intro pins s g H Q I h;refine Q7 (X3 I w v q ?_ u f);exact PyProof.Rows.callWith_builtin1 (thn (A pos pins s g H _ I h) λj l ⟨i,C,B,n,o⟩=>z pins l g C i j Q B n o) y b
def UF(z:JC X (.type T) r)(w:Gl X x)(v:X.mg x=none)(q:bootBuiltins x=some (.type T))(A:PA X (e::es) t)(u:autoParam (x≠"__name__") au_1)(f:autoParam ((x==("__debug__" : Str))=false) au_1)(y:autoParam (starEach (e::es) X.env=(false,eval e X.env)::starEach es X.env) au_0)(b:autoParam ((backTo pos<|starEach es X.env).any (·.1)=false) au_0):PE X (.Call (.Name x p) (e::es) [] pos) (tCB r t):=by
 intro pins s g H Q I h;refine Q7 (X3 I w v q ?_ u f);exact WU (thn (A pos pins s g H _ I h) λj l ⟨i,C,B,n,o⟩=>z pins l g C i j Q B n o) y b
end
end L2
namespace HT
open PySem PyProof.Rows
section
variable {prog:Program}{w:World}{A:Around}{E:Zy}{s:Shared}
def Oa(y:IsTup s.heap t vs.toArray)(z:IsTup s.heap b g.toArray)(q:vs≠[])(B:g=[]->Q (.ref t) s)(C:g≠[]->Q (.ref s.heap.objs.size) {s with heap:=s.heap.push {cls:=.type "tuple",data:=.seq (vs++g).toArray}})(hsz:vs.length+g.length<=sizeLine):wpAny (model prog w) A (binaryOp .Add (.ref t)<|.ref b) Q E s:=by
 obtain⟨⟨cls,v,data,sl⟩,o,u,n,r⟩:=id y;obtain⟨⟨x,l,data2,h⟩,f,j,p,i⟩:=id z;simp only at u r j i;subst u r j i;by_cases hw:g=[]
 ·exact concat_meets ⟨_,o,rfl⟩ ⟨_,f,rfl⟩ noFill_tuple_add seq_tuple_add QW QJ (Q8 _ _)
   (tuple_addW1 t b vs.toArray g.toArray n p v l sl h (by simpa using q)<|by simp[hw]) ⟨o,f,B hw⟩
 ·refine concat_meets ⟨_,o,rfl⟩ ⟨_,f,rfl⟩ noFill_tuple_add seq_tuple_add QW QJ (Q8 _ _)
   (tuple_addW2 t b vs.toArray g.toArray n p v l sl h (by simpa using q) (by simpa using hw)<|by omega) ⟨o,f,?_⟩
  grind
noncomputable def sIx(n d:Nat):Option Int->Nat
 |none=>d
 |some v=>if v<0 then(v+(n:Int)).toNat else min v.toNat n
def GO(n d:Nat):sIx n d none=d:=rfl
def Cs(n d k:Nat):sIx n d (some (k:Int))=min k n:=rfl
end
end HT
namespace L2
open PySem PySem.Spec PyProof.Rows
abbrev TO:=St->Hp->(Option Int->Hp->Prop)->Prop
def PO(X:Cx)(e:Option Expr)(t:TO):Prop:=
 ∀(pins:Zw) (s:Shared) (b:St) (H:Hp) (Q:Option Int->Hp->Prop),Inv X pins b H s->t b H Q->
  wpAny (model X.prog X.w) X.A (evalPart e X.env) (λu g=>∃o f,Inv X pins b f g/\IsPart u o/\Q o f) X.xe s
noncomputable def Ci:TO:=λ_ H Q=>Q none H
noncomputable def E7(t:TE):TO:=λb H Q=>t b H λx f=>∃i,x=.int i/\Q (some i) f
def T7:∀{us:Z1},Vals (ns.map V.int) us->IntsAre us ns:=by
 induction ns with
 |nil=>intro us r;rw[List.map_nil]at r;cases r;exact .nil
 |cons n ns g=>
  intro us r;cases r with
  |cons f b=>
   obtain⟨t,e⟩:=f;subst e;exact .cons n t (g b)
section
variable {X:Cx}{e:Expr}{te:TE}{lo hi:Option Expr}{tl th:TO}{pos p2:Pos}
def CP:PO X none Ci:=by
 intro pins s b H Q I h;exact Yz ⟨none,H,I,.none,h⟩
def Cp(h:PE X e te):PO X (some e) (E7 te):=by
 intro pins s b H Q I hw;refine thn (h pins s b H _ I hw) ?_;rintro u n ⟨x,l,j,f,g⟩;obtain⟨i,rfl,q⟩:=g;obtain⟨t,rfl⟩:=f;exact⟨some i,l,j,.int i t,q⟩
def SlR(X:Cx)(r:V->Option Int->Option Int->Hp->VK->Prop):Prop:=
 ∀(pins:Zw) (s:Shared) (b:St) (H:Hp) (x:V) (v g f:Value) (lo hi:Option Int) (sl:Addr) (Q:VK),Inv X pins b H s->RelV x v->s.heap.IsSliceOf sl g f .none->IsPart g lo->IsPart f hi->r x lo hi H Q->
  ∃T id,typeLookup (.type T) "__getitem__"=pure (some<|.builtin id)/\s.TypeIs v T/\wpAny (model X.prog X.w) X.A (getItem v<|.ref sl) (EP X pins b Q) X.xe s
noncomputable def tSl(r:V->Option Int->Option Int->Hp->VK->Prop)(te:TE)(tl th:TO):TE:=λb H Q=>te b H λx h=>tl b h λl g=>th b g λu f=>r x l u f Q
def GF(J:SlR X r)(N:PE X e te)(L:PO X lo tl)(E:PO X hi th):PE X (.Subscript e (.Slice lo hi none p2) pos) (tSl r te tl th):=by
 intro pins s f H Q I h;refine Subscript_ (thn (N pins s f H _ I h) ?_);rintro v p ⟨x,H1,I1,w,A⟩;refine wpAny_Slice (thn (L pins p f H1 _ I1 A) ?_);rintro j o ⟨l,H2,I2,C,z⟩;refine thn (E pins o f H2 _ I2 z) ?_;rintro i g ⟨u,n,I3,B,y⟩;refine Yz ?_;have Y:Inv X pins f n {g with heap:=g.heap.push {cls:=.type "slice",data:=.fields #[j,i,.none]}}:=I3.kept λb ob q=>Y0 _ q
 obtain⟨T,id,U,G,M⟩:=J pins {g with heap:=g.heap.push {cls:=.type "slice",data:=.fields #[j,i,.none]}} f n x v j i l u g.heap.objs.size Q Y w (Heap.IsSliceOf.new ..) C B y
 exact tail_any G U M rfl
noncomputable def KM(xs:List V)(lo hi:Option Int):List V:=(xs.drop<|HT.sIx xs.length 0 lo).take (HT.sIx xs.length xs.length hi-HT.sIx xs.length 0 lo)
def LU(xs:List V)(lo hi:Option Int):(KM xs lo hi).length<=xs.length:=by
 unfold KM
 grind
noncomputable def Zas(K:Zt):R2:=λx y H Q=>∃a b xs f,x=.ref a/\y=.ref b/\SqT K H a xs/\SqT K H b f/\xs≠[]/\xs.length+f.length<=sizeLine/\
 (f=[]->Q (.ref a) H)/\(f≠[]->∀p,H p=none->Q (.ref p) (upd H p<|.tup (xs++f)))
def Vals.nil_iff (r:Vals xs us):us=[]↔xs=[]:=by
 cases r with
 |_=>simp
def Zbd:OpR X (binaryOp .Add) (Zas X.K):=by
 intro pins s E H x y v u Q I n l h;obtain⟨a,b,xs,G,rfl,rfl,C,B,hx,j,p,o⟩:=h;cases n
 cases l
 obtain⟨A,g,r,_⟩:=I.tuple C;obtain⟨i,f,p2,_⟩:=I.tuple B;refine HT.Oa r p2 (λz=>hx (g.nil_iff.mp z)) (λz=>⟨.ref a,H,I,rfl,p (f.nil_iff.mp z)⟩) (λz=>?_) (by rw[←g.length,←f.length];exact j);refine⟨.ref s.heap.objs.size,_,I.laid (λb J q=>Y0 _ q) (Y1 _) ?_,rfl,o (λw=>z (f.nil_iff.mpr w)) _ (I.hok.fresh<|Y1 _)⟩;exact⟨by rw[YK];exact j,_,g.append f,IsTup.new _ _⟩
end
noncomputable def ixN(n:Nat)(i:Int):Option Nat:=if 0<=i then(if i<n then some i.toNat else none)else if -(n:Int)<=i then some (i+n).toNat else none
noncomputable def atI{b:Type}(xs:List b)(i:Int):Option b:=(ixN xs.length i).bind λj=>xs[j]?
def OI(h:ixN n i=some j):seqIndex? i n=some j/\j<n/\-(n:Int)<=i/\i<n:=by
 unfold ixN at h;by_cases f:0<=i
 ·rw[Y5 f]at h;by_cases b:i<n
  ·rw[Y5 b]at h;have e:=YC h;exact⟨by rw[seqIndex_of f b,e],by lia,by lia,b⟩
  ·grind
 ·rw[Y4 f]at h;by_cases b:-(n:Int)<=i
  ·rw[Y5 b]at h;have e:=YC h;exact⟨by rw[seqIndex_neg (by lia) b,e],by lia,b,by lia⟩
  ·grind
def EO(h:atI xs i=some v):∃j,seqIndex? i xs.length=some j/\xs[j]?=some v/\j<xs.length/\-(xs.length:Int)<=i/\i<xs.length:=by
 unfold atI at h;cases e:ixN xs.length i with
 |none=>grind
 |some j=>
  obtain⟨l,g,f,b⟩:=OI e
  grind
def TL{j:Nat}{v}(h:xs[j]?=some v):atI xs (j:Int)=some v:=by
 have e:ixN xs.length (j:Int)=some j:=by
  unfold ixN
  grind
 unfold atI;rw[e];exact h
def M6(xs:List b)(v:b):atI (xs++[v]) (-1)=some v:=by
 have e:ixN (xs++[v]).length (-1)=some xs.length:=by
  unfold ixN
  grind
 unfold atI
 grind
def SX(b:Expr):Prop:=∀o i,subscripted b false o i=operate [o,i] (getItem o i)
def IxR(X:Cx)(r:R2):Prop:=
 ∀(value slice:Expr) (pins:Zw) (s:Shared) (b:St) (H:Hp) (x y:V) (v u:Value) (Q:VK),Inv X pins b H s->RelV x v->RelV y u->r x y H Q->
  subscripted slice false v u=operate [v,u] (getItem v u)->wpAny (model X.prog X.w) X.A (subscriptTail value slice v u) (EP X pins b Q) X.xe s
def MtR(X:Cx)(id:String)(r:V->List V->Hp->VK->Prop):Prop:=
 ∀(pins:Zw) (s:Shared) (b:St) (H:Hp) (x:V) (xs:List V) (v:Value) (f:Z1) (Q:VK),Inv X pins b H s->RelV x v->Vals xs f->r x xs H Q->
  wpAny (model X.prog X.w) X.A (call (.builtin id) (v::f)) (EP X pins b Q) X.xe s
section
variable {X:Cx}{a b:Expr}{ta tb:TE}{pos:Pos}
def IxR.or (h:IxR X r) (h':IxR X l):IxR X (λx y H Q=>r x y H Q\/l x y H Q):=by
 intro value slice pins s f H x y v u Q I i g q j;rcases q with q|q
 ·exact h value slice pins s f H x y v u Q I i g q j
 ·exact h' value slice pins s f H x y v u Q I i g q j
def BL(n:IxR X r)(p:PE X a ta)(o:PE X b tb)(l:SX b):PE X (.Subscript a b pos) (tOp r ta tb):=by
 intro pins s f H Q I h;exact Subscript_ (Sy p o I h λv u g x y z w j i q=>n a b pins g f z x y v u Q w j i q (l _ _))
noncomputable def XF(K:Zt):R2:=λx y H Q=>∃p xs i v,x=.ref p/\y=.int i/\SqL K H p xs/\atI xs i=some v/\Q v H
noncomputable def X0(K:Zt):R2:=λx y H Q=>∃p xs i v,x=.ref p/\y=.int i/\SqT K H p xs/\atI xs i=some v/\Q v H
def ix_list:IxR X (XF X.K):=by
 intro value slice pins s E H x y v u Q I J G h A;obtain⟨p,xs,i,z,rfl,rfl,hq,M,q⟩:=h;cases J
 obtain⟨t,rfl⟩:=G;obtain⟨n,r,l,Y⟩:=I.list hq;obtain⟨j,f,U,h3,T,N⟩:=EO M;obtain⟨w,C,g⟩:=r.get U;have L:=r.length;have hn:=S7;have fin:EP X pins E Q w s:=⟨z,H,I,g,q⟩;by_cases B:0<=i
 ·have o:i.toNat=j:=by
   rw[seqIndex_of B N]at f;exact YC f
  exact item_listR l.isList B (by lia) (by rw[o];simpa using C) fin A
 ·have o:(i+(n.toArray.size:Int)).toNat=j:=by
   rw[seqIndex_neg (by lia) T]at f;rw[YL,←L];exact YC f
  exact subscriptTail_builtinR l.isList.typeIs slot_list_getitem.lookup
   (wpAny_getItem_list_neg l.isList (by lia) (by rw[YL]<;>lia) (by lia) (by rw[o];simpa using C) ⟨rfl,fin⟩) A
def Iy:IxR X (X0 X.K):=by
 intro value slice pins s l H x y v u Q I o n h B;obtain⟨p,xs,i,z,rfl,rfl,hq,C,q⟩:=h;cases o
 obtain⟨t,rfl⟩:=n;obtain⟨A,r,g,J⟩:=I.tuple hq;obtain⟨j,G,E,T,N,M⟩:=EO C;obtain⟨w,U,f⟩:=r.get E;have L:=S7;have fin:EP X pins l Q w s:=⟨z,H,I,f,q⟩
 exact subscriptTail_builtinR g.typeIs slot_tuple_getitem.lookup
  (getItem_tuple g (by lia) (by lia) (by rw[YL,←r.length];exact G) (by grind) ⟨rfl,fin⟩) B
def IY(lo f:Option Int)(n:Nat):(sliceBounds lo f none n).1=((HT.sIx n 0 lo:Nat):Int)/\(sliceBounds lo f none n).2.1=((HT.sIx n n f:Nat):Int)/\(sliceBounds lo f none n).2.2=1:=by
 refine⟨?_,?_,rfl⟩
 ·cases lo with
  |none=>simp[sliceBounds,HT.sIx]
  |some i=>
   simp only[sliceBounds,HT.sIx,Option.getD_none,show(1:Int)>0 by decide,if_true];by_cases h:i<0
   ·grind
   ·simp only[h,Ws]<;>lia
 ·cases f with
  |none=>simp[sliceBounds,HT.sIx]
  |some i=>
   simp only[sliceBounds,HT.sIx,Option.getD_none,show(1:Int)>0 by decide,if_true];by_cases h:i<0
   ·simp only[h,if_true]<;>lia
   ·simp only[h,Ws]<;>lia
def Zaf(f:Z1)(lo g:Option Int):slicePick f.toArray lo g none=((f.drop<|HT.sIx f.length 0 lo).take (HT.sIx f.length f.length g-HT.sIx f.length 0 lo)).toArray:=by
 obtain⟨j,i,h⟩:=IY lo g f.toArray.size;unfold slicePick;rw[j,i,h];simp only[sliceRange_one,pick_run,YL]<;>rfl
def Sd(K:Zt):V->Option Int->Option Int->Hp->VK->Prop:=λx lo f H Q=>∃a xs,x=.ref a/\SqL K H a xs/\∀p,H p=none->Q (.ref p) (upd H p<|.lst<|KM xs lo f)
def Hi:SlR X (Sd X.K):=by
 intro pins s w H x v z y lo i sl Q I j u n l h;obtain⟨a,xs,rfl,hx,q⟩:=h;cases j
 obtain⟨o,r,g,p⟩:=I.list hx;have f:=r.length;refine⟨"list",_,slot_list_getitem.lookup,g.isList.typeIs,?_⟩;refine wpAny_getItem_list_slice g.isList u n l .none (by simp) ?_ (by grind);rw[Zaf,←f];refine⟨.ref s.heap.objs.size,_,I.laid (λb A q=>Y0 _ q) (Y1 _) ?_,rfl,q _ (I.hok.fresh<|Y1 _)⟩;exact⟨Y8 (LU xs lo i) p,_,0,(r.drop<|HT.sIx xs.length 0 lo).take (HT.sIx xs.length xs.length i-HT.sIx xs.length 0 lo),Y7 _ rfl⟩
noncomputable def Ut:V->Bool
 | .non=>true
 | .bl _=>true
 | .int _=>true
 | .str _=>true
 |_=>false
noncomputable def eqV:V->V->Bool
 | .non,.non=>true
 | .bl a,.bl b=>a==b
 | .bl a,.int b=>(if a then 1 else 0)==b
 | .int a,.bl b=>a==(if b then 1 else 0)
 | .int a,.int b=>a==b
 | .str a,.str b=>a==b
 |_,_=>false
def Cr{y x u v}(h:RelV y u)(f:RelV x v)(fy:Ut y=true)(i:Ut x=true):SeqAt.EqAt A s u v (eqV y x):=by
 cases y with
 |non=>
  cases h
  cases x with
  |non=>cases f;exact SeqAt.EqAt.same _
  |bl b=>cases f;exact SeqAt.EqAt.none_bool b
  |int b=>obtain⟨t,rfl⟩:=f;exact SeqAt.EqAt.none_int b t
  |str b=>obtain⟨t,rfl⟩:=f;exact SeqAt.EqAt.none_str b t
  |_=>exact absurd i YH
 |bl a=>
  cases h
  cases x with
  |non=>cases f;exact SeqAt.EqAt.bool_none a
  |bl b=>cases f;exact SeqAt.EqAt.bool_bool a b
  |int b=>obtain⟨t,rfl⟩:=f;exact SeqAt.EqAt.bool_int a b t
  |str b=>obtain⟨t,rfl⟩:=f;exact SeqAt.EqAt.bool_str a b t
  |_=>exact absurd i YH
 |int a=>
  obtain⟨g,rfl⟩:=h;cases x with
  |non=>cases f;exact SeqAt.EqAt.int_none a g
  |bl b=>cases f;exact SeqAt.EqAt.int_bool a g b
  |int b=>obtain⟨t,rfl⟩:=f;exact SeqAt.EqAt.int_int a g b t
  |str b=>obtain⟨t,rfl⟩:=f;exact SeqAt.EqAt.int_str a g b t
  |_=>exact absurd i YH
 |str a=>
  obtain⟨g,rfl⟩:=h;cases x with
  |non=>cases f;exact SeqAt.EqAt.str_none a g
  |bl b=>cases f;exact SeqAt.EqAt.str_bool a g b
  |int b=>obtain⟨t,rfl⟩:=f;exact SeqAt.EqAt.str_int a g b t
  |str b=>obtain⟨t,rfl⟩:=f;exact SeqAt.EqAt.str_str a g b t
  |_=>exact absurd i YH
 |_=>exact absurd fy YH
noncomputable def eqU(x:V)(u:Value):Bool:=match u with
 | .none=>eqV .non x
 | .bool b=>eqV (.bl b) x
 | .int i _=>eqV (.int i) x
 | .str z _=>eqV (.str z) x
 |_=>false
def FZ{x y u}(r:RelV y u)(f:Ut y=true):eqU x u=eqV y x:=by
 cases y with
 |non|bl b=>cases r;rfl
 |int i|str z=>obtain⟨t,rfl⟩:=r;rfl
 |_=>trivial
theorem KF:∀{xs}{us:Z1},Vals xs us->xs.all Ut=true->us.any (eqU x)=xs.any λy=>eqV y x
 |_,_,.nil,_=>rfl
 |y::xs,u::us,.cons r t,f=>by
  rw[List.all_cons,YU]at f;rw[Qz,Qz,FZ r f.1,KF t f.2]
theorem KH{x v}(h:RelV x v)(i:Ut x=true):∀{xs}{us:Z1},Vals xs us->xs.all Ut=true->∀u∈us,SeqAt.EqAt A s u v (eqU x u)
 |_,_,.nil,_=>λu g=>by cases g
 |y::xs,u::us,.cons r t,f=>λj g=>by
  rw[List.all_cons,YU]at f;rcases YA.mp g with rfl|g
  ·rw[FZ r f.1];exact Cr r h f.1 i
  ·exact KH h i t f.2 j g
noncomputable def inV(x:V)(xs:List V):Bool:=xs.any λy=>eqV y x
noncomputable def rIn(K:Zt)(neg:Bool):R2:=λx y H Q=>∃p xs,y=.ref p/\(SqL K H p xs\/SqT K H p xs)/\Ut x=true/\xs.all Ut=true/\Q (.bl (if neg then !inV x xs else inV x xs)) H
def HW:OpR X (compareOp .In) (rIn X.K false):=by
 intro pins s o H x y v u Q I i l h;obtain⟨p,xs,rfl,hq,j,fs,q⟩:=h;cases l
 rcases hq with hq|hq
 ·obtain⟨f,r,g,n⟩:=I.list hq;refine SeqAt.in_listAt (eqU x) g.isList (λw hw=>KH i j r fs w (by grind)) ⟨.bl _,H,I,rfl,?_⟩;rwa[show f.toArray.any (eqU x)=f.any (eqU x) by simp,KF r fs]
 ·obtain⟨f,r,g,n⟩:=I.tuple hq;refine SeqAt.in_tupleAt (eqU x) g (λw hw=>KH i j r fs w (by simpa using hw)) ⟨.bl _,H,I,rfl,?_⟩;rwa[show f.toArray.any (eqU x)=f.any (eqU x) by simp,KF r fs]
def Rc:OpR X (compareOp .NotIn) (rIn X.K true):=by
 intro pins s o H x y v u Q I i l h;obtain⟨p,xs,rfl,hq,j,fs,q⟩:=h;cases l
 rcases hq with hq|hq
 ·obtain⟨f,r,g,n⟩:=I.list hq;refine SeqAt.notIn_listAt (eqU x) g.isList (λw hw=>KH i j r fs w (by grind)) ⟨.bl _,H,I,rfl,?_⟩;rwa[show f.toArray.any (eqU x)=f.any (eqU x) by simp,KF r fs]
 ·obtain⟨f,r,g,n⟩:=I.tuple hq;refine SeqAt.notIn_tupleAt (eqU x) g (λw hw=>KH i j r fs w (by grind)) ⟨.bl _,H,I,rfl,?_⟩;rwa[show f.toArray.any (eqU x)=f.any (eqU x) by simp,KF r fs]
def G2:JC X (.type "list") (λxs H Q=>∃p ys,xs=[.ref p]/\(SqL X.K H p ys\/SqT X.K H p ys)/\∀l,H l=none->Q (.ref l) (upd H l<|.lst ys)):=by
 intro pins s G H xs L Q I r h;obtain⟨p,ys,rfl,hq,q⟩:=h;obtain⟨u,rfl,J⟩:=vals1 r;cases J
 have fin:∀f,Vals ys f->ys.length<=sizeLine->∀g j,(∀b E,s.heap.get? b=some E->g.get? b=some E)->
   g.get? s.heap.objs.size=some {cls:=.type "list",dict:=none,data:=.seq f.toArray j,slots:=#[]}->EP X pins G Q (.ref s.heap.objs.size) {s with heap:=g}:=λf i x g j v e=>
  ⟨.ref s.heap.objs.size,_,I.laid v (Y1 _) (show ObjOk X.prog X.w _ g _ (.lst ys)from⟨x,f,j,i,e⟩),rfl,q _ (I.hok.fresh<|Y1 _)⟩
 rcases hq with hq|hq
 ·obtain⟨f,i,z,x⟩:=I.list hq;have y:=i.length;obtain⟨o,A,C,n,B⟩:=z.isList;exact call_list_seq p (.inl rfl) A C B (λg j v e=>fin f i x g j v e) (by grind)
 ·obtain⟨f,i,z,x⟩:=I.tuple hq;have y:=i.length;obtain⟨o,A,C,n,B⟩:=z;exact call_list_seq p (.inr rfl) A C B (λg j v e=>fin f i x g j v e) (by simp only[YL]<;>lia)
def HU:JC X (.type "tuple") (λxs H Q=>∃p ys,xs=[.ref p]/\((SqL X.K H p ys/\∀l,H l=none->Q (.ref l) (upd H l<|.tup ys))\/(SqT X.K H p ys/\Q (.ref p) H))):=by
 intro pins s n H xs B Q I r h;obtain⟨p,ys,rfl,h⟩:=h;obtain⟨u,rfl,y⟩:=vals1 r;cases y
 rcases h with⟨hq,q⟩|⟨hq,q⟩
 ·obtain⟨f,i,j,v⟩:=I.list hq;have w:=i.length;refine call_tuple_list j.isList (λg z=>?_) (by grind);have x:Inv X pins n H {s with heap:=g}:=I.kept z
  have A:Inv X pins n (upd H g.objs.size<|.tup ys) {s with heap:=g.push {cls:=.type "tuple",data:=.seq f.toArray}}:=
   x.laid (λb o e=>Y0 _ e) (Y1 _) (⟨v,f,i,IsTup.new _ _⟩)
  exact⟨.ref g.objs.size,_,A,rfl,q _ (x.hok.fresh<|Y1 _)⟩
 ·obtain⟨f,i,j,v⟩:=I.tuple hq;exact call_tuple_same j ⟨.ref p,H,I,rfl,q⟩
def tyV(K:Zt)(T:String)(x:V)(H:Hp):Prop:=match x with
 | .str _=>T = "str"
 | .int _=>T = "int"
 | .ref p=>(T = "list"/\∃xs,SqL K H p xs)\/(T = "tuple"/\∃o,K.lookup p=some o/\o.cls=.type "tuple"/\o.dict=none)\/
   (T = "dict"/\((∃f,H p=some (.dK f))\/∃f,H p=some (.dT f)))\/(T = "set"/\∃S n,H p=some (.set S n))
 |_=>False
def Am{w:St}{H}{s}{T}{x}{v}(I:Inv X pins w H s)(r:RelV x v)(h:tyV X.K T x H) :
  s.TypeIs v T/\∀a,v=.ref a->∃ob,s.heap.get? a=some ob/\ob.dict=none:=by
 cases x with
 |str z=>
  obtain⟨t,rfl⟩:=r;cases h
  exact⟨typeIs_str s z t,λ_ e=>nomatch e⟩
 |int i=>
  obtain⟨t,rfl⟩:=r;cases h
  exact⟨typeIs_int s i t,λ_ e=>nomatch e⟩
 |ref p=>
  cases r
  rcases h with⟨rfl,xs,hq⟩|⟨rfl,o,f,A,l⟩|⟨rfl,f⟩|⟨rfl,S,n,f⟩
  ·obtain⟨y,_,u,_⟩:=I.list hq;refine⟨u.isList.typeIs,λa e=>?_⟩;cases e
   obtain⟨o,n,e,c,l,_⟩:=u;exact⟨o,e,l⟩
  ·refine⟨⟨o,I.kIn p o f,A⟩,λa e=>?_⟩;cases e
   exact⟨o,I.kIn _ o f,l⟩
  ·have z:∃o,s.heap.get? p=some o/\o.ExactDict:=by
    rcases f with⟨j,f⟩|⟨j,f⟩
    ·obtain⟨_,_,_,_,o,_,_,e,g,_⟩:=I.hok p _ f;exact⟨o,e,g⟩
    ·obtain⟨_,_,_,_,o,_,_,e,g,_⟩:=I.hok p _ f;exact⟨o,e,g⟩
   obtain⟨o,e,g⟩:=z;refine⟨⟨o,e,g.1⟩,λa q=>?_⟩;cases q
   exact⟨o,e,g.2.1⟩
  ·obtain⟨o,_,_,_,e,g,_⟩:=I.hok p _ f;refine⟨⟨o,e,g.1⟩,λa q=>?_⟩;cases q
   exact⟨o,e,g.2.1⟩
 |_=>exact False.elim h
noncomputable def Th(K:Zt)(T:String)(r:V->List V->Hp->VK->Prop)(h:TE):TE:=λg H Q=>h g H λx f=>tyV K T x f/\r x [] f Q
noncomputable def tBM(K:Zt)(T:String)(r:V->List V->Hp->VK->Prop)(h:TE)(t:TA):TE:=λf H Q=>h f H λx g=>tyV K T x g/\t f g λxs i=>r x xs i Q
variable {o e:Expr}{es:Z3}{to:TE}{t:TA}{name:Str}{apos cpos:Pos}{T id:String}{r:V->List V->Hp->VK->Prop}
def A0(w:PlainAttrs T)(slot:Slot T name id)(i:typeOf (.builtin id)=pure (.type "method_descriptor"))(z:MtR X id r)(y:PE X o to)(g:autoParam (attributeBase o name X.env (eval o X.env)=eval o X.env) au_0)(f:autoParam ((apos.endLine==cpos.line)=true) au_0):PE X (.Call (.Attribute o name apos) [] [] cpos) (Th X.K T r to):=by
 intro pins s j H Q I h;refine wpAny_Call_method0_late g f (thn (y pins s j H _ I h) ?_);rintro v q ⟨x,C,n,l,p,u⟩;obtain⟨B,A⟩:=Am n l p;exact⟨T,id,w,slot,i,B,A,Calls.callWith_builtin rfl (PySem.evalArgs_none<|z pins q j C x [] v [] Q n l .nil u)⟩
def KW(J:PlainAttrs T)(slot:Slot T name id)(n:typeOf (.builtin id)=pure (.type "method_descriptor"))(N:MtR X id r)(M:PE X o to)(U:PA X (e::es) t)(g:autoParam (attributeBase o name X.env (eval o X.env)=eval o X.env) au_0)
  (i:autoParam (((backTo cpos<|starEach (e::es) X.env).all (λx=>!x.1)&&(backToKw cpos<|keywordEach [] X.env).all (λx=>x.1.isSome)
   && decide ((e::es).length+([]:List Keyword).length+(if ([]:List Keyword).isEmpty then 0 else 1)<30))=true) au_0)
  (f:autoParam ((apos.endLine==cpos.line)=true) au_0) (L:autoParam (starEach (e::es) X.env=(false,eval e X.env)::starEach es X.env) au_0) (j:autoParam ((backTo cpos<|starEach es X.env).any (·.1)=false) au_0) :
  PE X (.Call (.Attribute o name apos) (e::es) [] cpos) (tBM X.K T r to t):=by
 intro pins s l H Q I h;refine wpAny_Call_method_late g i f rfl (thn (M pins s l H _ I h) λv B ⟨x,H1,u,p,z,G⟩=>?_);obtain⟨h1,Y⟩:=Am u p z;refine⟨T,id,J,slot,n,h1,Y,?_⟩;have q:=U cpos pins B l H1 _ u G;rw[L]at q ⊢;refine Calls.callWith_builtin (by grind) (Calls.evalArgs_plain ?_);exact thn q λy A ⟨w,H2,I2,C,E⟩=>N pins A l H2 x w v y Q I2 p C E
end
def MtM(X:Cx)(id:String)(r:V->List V->Hp->VK->Prop):Prop:=
 ∀(pins:Zw) (s:Shared) (b:St) (H:Hp) (x:V) (xs:List V) (v:Value) (f:Z1) (Q:VK),Inv X pins b H s->RelV x v->Vals xs f->r x xs H Q->
  wpAny (model X.prog X.w) X.A (call (.builtin id) (v::f)) (EP X pins b Q) X.xe s
def Vals.one:∀{x}{us:Z1},Vals [x] us->∃u,us=[u]/\RelV x u:=by
 intro _ _ h;cases h with
 |cons r t=>
  cases t
  exact⟨_,rfl,r⟩
def Vals.zero:∀{us:Z1},Vals [] us->us=[]
 |_,.nil=>rfl
theorem Vals.eraseIdx:∀{xs us} i,Vals xs us->Vals (xs.eraseIdx i) (us.eraseIdx i)
 |_,_,_,.nil=>.nil
 |_,_,0,.cons _ t=>t
 |_,_,i+1,.cons r t=>.cons r (Vals.eraseIdx i t)
def Vals.reverse (h:Vals xs us):Vals xs.reverse us.reverse:=by
 induction h with
 |nil=>exact .nil
 |cons r t b=>rw[QN,QN];exact Vals.append b (.cons r .nil)
section
variable {X:Cx}{pins:Zw}{σ:St}{H:Hp}{s:Shared}{l b:Addr}{xs ys zs:List V}
def Inv.lset {g its':Z1}{n}{f}{t'} (I:Inv X pins σ H s) (r:H l=some (.lst xs))
  (e:s.heap.get? l=some {cls:=.type "list",data:=.seq g.toArray n}) (o:f g.toArray=its'.toArray) (i:Vals ys its') (h:ys.length<=sizeLine) :
  Inv X pins σ (upd H l<|.lst ys) {s with heap:=s.heap.update l (Obj.mapSeq f),toks:=t'}:=by
 have q:=PySem.IsL.update e f;rw[o]at q;refine I.write (by rw[r];exact trivial) (.inl rfl) (λv u p j=>(Wy s.heap (Obj.mapSeq f)<|Ne.symm p).trans j) ⟨_,q⟩ ?_;exact⟨h,its',_,i,q⟩
def Inv.lnew (I:Inv X pins σ H s) (h:Vals ys f) (g:ys.length<=sizeLine) :
  Inv X pins σ (upd H s.heap.objs.size<|.lst ys) {s with heap:=s.heap.push {cls:=.type "list",data:=.seq f.toArray},toks:=t'}:=
 I.laid (λ_ _ q=>Y0 _ q) (Y1 _) ⟨g,f,0,h,Y7 _ rfl⟩
def Inv.fresh (I:Inv X pins σ H s):H s.heap.objs.size=none:=I.hok.fresh (Y1 _)
def Inv.lstM (I:Inv X pins σ H s) (g:H l=some (.lst xs)):xs.length<=sizeLine/\∃f n,Vals xs f/\xs.length=f.length/\s.heap.get? l=some {cls:=.type "list",data:=.seq f.toArray n}:=by
 obtain⟨z,f,n,r,e⟩:=I.hok l _ g;exact⟨z,f,n,r,r.length,e⟩
def Zcb(h:n<=sizeLine):Builtin.List.listTooLong n=false:=by
 unfold Builtin.List.listTooLong
 grind
end
section
variable {X:Cx}
def Fi:V->List V->Hp->VK->Prop:=λx b H Q=>∃l xs y,x=.ref l/\b=[y]/\H l=some (.lst xs)/\xs.length<sizeLine/\Q .non (upd H l<|.lst (xs++[y]))
def Nc:MtM X "list.append" Fi:=by
 intro pins s o H x p v w Q I g i h;obtain⟨l,xs,y,rfl,rfl,f,A,q⟩:=h;cases g
 obtain⟨u,rfl,j⟩:=i.one;obtain⟨z,b,n,r,B,e⟩:=I.lstM f;refine call_meets F.slot_list_append ⟨_,e,rfl⟩ F.entry_list_append (F.args_list_append_2 _ _) (PySem.list_append l b.toArray n u<|by grind) ⟨e,?_⟩;refine⟨.non,_,I.lset f e (by simp) (r.append<|.cons j .nil) ?_,rfl,q⟩
 grind
def Ee:V->List V->Hp->VK->Prop:=λx g H Q=>∃l b xs f,x=.ref l/\g=[.ref b]/\H l=some (.lst xs)/\H b=some (.lst f)/\xs.length+f.length<=sizeLine/\Q .non (upd H l<|.lst (xs++f))
def R5:MtM X "list.extend" Ee:=by
 intro pins s J H x N v T Q I p w h;obtain⟨l,b,xs,L,rfl,rfl,o,E,U,q⟩:=h;cases p
 obtain⟨u,rfl,y⟩:=w.one;cases y
 obtain⟨z,g,n,r,Y,e⟩:=I.lstM o;obtain⟨M,f,B,A,C,G⟩:=I.lstM E;have j:g.toArray.size+f.toArray.size<=sizeLine:=by grind
 have i:¬(!g.toArray.isEmpty&&Builtin.List.listTooLong (g.toArray.size+f.toArray.size))=true:=by
  rw[Zcb j,Bool.and_false];exact YH
 refine call_meets F.slot_list_extend ⟨_,e,rfl⟩ F.entry_list_extend (F.args_list_extend_2 _ _)
  (AutoSeq1.list_extend_list_list_0 l g.toArray n b f.toArray B i (by lia)<|by lia) ⟨e,G,?_⟩
 refine⟨.non,_,I.lset o e (by simp) (r.append A) ?_,rfl,q⟩
 grind
def Dv:V->List V->Hp->VK->Prop:=λx b H Q=>∃l xs,x=.ref l/\b=[]/\H l=some (.lst xs)/\Q .non (upd H l<|.lst xs.reverse)
def Zb3:MtM X "list.reverse" Dv:=by
 intro pins s o H x p v u Q I i j h;obtain⟨l,xs,rfl,rfl,g,q⟩:=h;cases i
 have f:=j.zero;subst f;obtain⟨z,b,n,r,w,e⟩:=I.lstM g;refine call_meets F.slot_list_reverse ⟨_,e,rfl⟩ F.entry_list_reverse (F.args_list_reverse_1 _) (AutoSeq1.list_reverse_list_0 l b.toArray n<|by grind) ⟨e,?_⟩;refine⟨.non,_,I.lset g e (by simp) r.reverse ?_,rfl,q⟩
 grind
noncomputable def BW:R2:=λx y H Q=>∃l b xs f,x=.ref l/\y=.ref b/\H l=some (.lst xs)/\H b=some (.lst f)/\xs.length+f.length<=sizeLine/\∀p,H p=none->Q (.ref p) (upd H p<|.lst (xs++f))
def Px:OpR X (binaryOp .Add) BW:=by
 intro pins s E H x y v u Q I j i h;obtain⟨l,b,xs,G,rfl,rfl,w,A,M,q⟩:=h;cases j
 cases i
 obtain⟨z,g,n,r,N,e⟩:=I.lstM w;obtain⟨J,f,L,o,p,C⟩:=I.lstM A;refine PySem.P.add_list e C ?_ (by grind);have B:g.toArray++f.toArray=(g++f).toArray:=by simp
 rw[B];exact⟨.ref _,_,I.lnew (r.append o) (by grind),rfl,q _ I.fresh⟩
end
end L2
namespace Att
open PySem PySem.W PySem.Calls PyProof.Rows
def IT:∀ns vs,WellAll P h vs (ns.map WData.int)->IntsAre vs ns:=by
 intro ns
 induction ns with
 |nil=>
  intro vs w;cases w
  exact .nil
 |cons n ns f=>
  intro vs w;cases w with
  |cons a b=>
   cases a
   exact .cons _ _ (f _ b)
def HQ{l:OpenLaw}{n}(u:l.most=some n){P}{h}{args}{vals}(b:l.row.toRowW.claim.pre args=true)(i:WellAll P h vals args) :
  ∃a vs ns,vals=[Value.ref a]/\args=[WData.list (ns.map WData.int)]/\h.get? a=some {cls:=.type "list",data:=.seq vs.toArray}/\IntsAre vs ns/\ns.length<=n:=by
 have j:WShape.hasAll [] args [.list .int]=true:=(pre_splitW b).1;have v:l.pre.holds [] {args:=args}=true:=(pre_splitW b).2;obtain⟨d,r,rfl,y,x⟩:=hasAllW_cons j;obtain rfl:=hasAllW_nil x;obtain⟨xs,rfl,w⟩:=hasW_list y;obtain⟨ns,rfl⟩:=items_int w
 have f:ns.length<=n:=by
  have o:(WTm.not<|.lt (.lit<|.int (n:Int))<|.len<|.arg 0).holds [] {args:=[.list (ns.map .int)]}=true:=by
   have o:=(holds_andW v).1;rw[u]at o;lia
  have z:=condW_of o (w_not<|w_lt w_lit<|w_len_list<|w_arg rfl);simp_all
 cases i with
 |cons q p=>
  cases p
  cases q with
  |list s g=>exact⟨_,_,ns,rfl,rfl,s,IT ns _ g,f⟩
def LQ(l:OpenLaw)(args:List WData):l.row.toRowW.claim.post args (.bool true) args=true:=
 postW_of
  rfl
  (w_eq_bool (w_res rfl) w_lit) rfl
def IE{l:OpenLaw}{n}{q}{loose}{XP}{YP}{d}(L:l.most=some n)(A:d.params.defaults=[])
  (call:∀w s₀ b v x s o pm cd h a vs ns,
   Ground q loose [] XP w s₀ v x b.heap->YP w b.heap->
   b.heap.get? s=some o->o.data=.func (docDef d.name d.params d.body d.scope pm cd h)->b.heap.CodeRec cd d.name->v d.name=some (.ref s)->
   b.heap.get? a=some {cls:=.type "list",data:=.seq vs.toArray}->IntsAre vs ns->ns.length<=n->b.gens=#[]->
   codeAny (model l.prog w) callerA (.call (.ref s) ⟨[.ref a],[]⟩) (λr u=>r=.ok (.ret<|.bool true)/\OldK b.heap u.heap/\u.os=b.os/\AllBare u.gens) b) :
  WalkO q loose XP YP l.row.toRowW d [] (λf vs=>PySem.call f vs):=by
 intro w s₀ b v x G Y s o pm cd h dV kV J T B E z Q args vals as i C H y N;obtain rfl:=Dflts.none E A;obtain rfl:=Dflts.noKw E;obtain⟨a,vs,ns,rfl,rfl,j,g,p⟩:=HQ L i y;refine enter_call (Q6 (call w s₀ b v x s o pm cd h a vs ns G Y J (fd_plain T) B z j g p Q) λr u hq=>?_);obtain⟨rfl,h2,h3,U⟩:=hq;exact⟨.inl ⟨.bool true,.bool true,[],rfl,λ_=>rfl,.bool true,LQ l _,λ_=>⟨List.Pairwise.nil,λ_ M=>(nomatch M)⟩⟩,h2,h3,U⟩
end Att
namespace L2
open PySem PySem.Spec PyProof.Rows
theorem TJ:∀{vs}{ns:Zv},IntsAre vs ns->Vals (ns.map V.int) vs
 |_,_,.nil=>.nil
 |_,_,.cons n t h=>.cons ⟨t,rfl⟩ (TJ h)
def Bq(H:Hp):Prop:=∀b,H b=none\/∃o xs,H b=some (.frz o<|.lst xs)
noncomputable def UG(s:Stmt):Arguments:=match s with
 | .FunctionDef _ a _ _ _ _ _ _ _ _=>a
 |_=>{posonlyargs:=[],args:=[],vararg:=none,kwonlyargs:=[],kw_defaults:=[],kwarg:=none,defaults:=[]}
noncomputable def JI(s:Stmt):Z4:=match s with
 | .FunctionDef _ _ b _ _ _ _ _ _ _=>b
 |_=>[]
noncomputable def Jb(s:Stmt):Scope:=match s with
 | .FunctionDef _ _ _ _ _ _ b _ _ _=>b
 |_=>{kind:=.function,names:=[],isGenerator:=false,isCoroutine:=false}
noncomputable abbrev CX0:CXT:=λ_ _ _ _ _ _=>False
noncomputable abbrev E0:XK:=λ_ _ _=>False
def RH:XB CX0 X E0:=λ_ _ _ _ _ _ _ h=>h.elim
structure Fun (K:Zt) (x qual:Str) (st:Stmt) (f:Addr) (fd:FuncData):Prop where
 ex:∃(oc:Value) (od:Z6) (kV doc pm:Value) (an:Z6) (cdv ct:Value) (osl:Array (Z5)),
  fd=PySem.W.fnOf x qual (UG st) (JI st) (Jb st) .none kV doc pm an cdv ct/\K.lookup f=some ⟨oc,od,.func fd,osl⟩/\PySem.W.codeIn K cdv qual=true
 kp:PySem.W.keepIn K (.ref f)=true
section
variable {P:Program}{w:World}{K:Zt}{mg:Zx}{base:Heap}
def Fun.ok {st f l N ps k sp} (F:Fun K x qual st f l) (S:Jd N ps (Jb st)) (len:∀vs H Q E,sp vs H Q E->vs.length=ps.length)
  (g:∀b A outer s H vs Q E,Jl k (A.deeper<|envOfC qual (Jb st) s.heap.objs.size f b)->sp vs H Q E->
   ∃t,PSs (JG CX0 P w K mg base N qual (Jb st) f b A outer s H E).nox (JI st) t/\t {nx:=λ_ u=>Q .non u,rt:=Q} (start N vs) H):Xh P w K mg base CX0 (k+1) f l ps sp:=by
 obtain⟨oc,y,kV,r,v,B,b,z,n,rfl,o,j⟩:=F.ex;refine EH o j S len λA outer s H vs Q E p i=>?_;obtain⟨t,h,q⟩:=g b A outer s H vs Q E p i;exact⟨t,h.nox,q⟩
def Fun.binds {st f j ps} (F:Fun K x qual st f j)
  (h:∀kV b pm i g ct us,us.length=ps.length->bindArgs (PySem.W.fnOf x qual (UG st) (JI st) (Jb st) .none kV b pm i g ct) ⟨us,[]⟩=pure (ps.zip us)):Binds K j ps []:=by
 obtain⟨oc,o,kV,b,pm,i,g,ct,l,rfl,p,n⟩:=F.ex;exact .all (h kV b pm i g ct)
def SR{st f oc j i h kV g pm b ct}(l:K.lookup f=some ⟨oc,j,.func (PySem.W.fnOf x qual (UG st) (JI st) (Jb st) .none kV g pm i b ct),h⟩)(c:PySem.W.codeIn K b qual=true)(k:PySem.W.keepIn K (.ref f)=true):Fun K x qual st f (PySem.W.fnOf x qual (UG st) (JI st) (Jb st) .none kV g pm i b ct):=⟨⟨oc,j,kV,g,pm,i,b,ct,h,rfl,l,c⟩,k⟩
end
def JH{k}(b:Jl k A):A.units+1<cLine:=V0 (Nat.add_le_add_left (by simp) _) b.units
def F2(h:n<=1000):n<sizeLine:=V0 h (by decide)
section
variable {X:Cx}
def pv(i:Nat){x pos}(h:autoParam (X.N[i]?=some x) au_0)(f:autoParam (Vis X.env.scope x) au_4)(g:autoParam ((x==("__debug__" : Str))=false) au_1)(b:autoParam ((x==("__classdict__" : Str))=false) au_1):PE X (.Name x pos) (UE i):=Rn h f g b
end
def JA{A B:Prop}(h:B):if false=true then A else B:=by grind
def Ky{A B:Prop}(h:A):if true=true then A else B:=by grind
def Ji{c A B:Prop}[Decidable c](f:c->A)(b:¬c->B):if c then A else B:=by grind
def PL{c A B:Prop}[Decidable c](b:c)(h:B):if (!decide c)=true then A else B:=by grind
def Same(H f:Hp):Prop:=∀b o,H b=some o->f b=some o
def Same.refl (H:Hp):Same H H:=λ_ _ h=>h
def Same.trans (a:Same H g) (b:Same g f):Same H f:=λc o h=>b c o (a c o h)
def Same.free (e:Same H b) {l} (h:b l=Option.none):H l=Option.none:=by
 cases q:H l with
 |none=>rfl
 |some o=>
  rw[e l o q]at h;lia
def Same.seq {K H b}{a xs} (e:Same H b) (h:SqL K H a xs):SqL K b a xs:=by
 rcases h with(h|⟨o,h⟩)|h
 ·exact .inl (.inl<|e _ _ h)
 ·exact .inl (.inr ⟨o,e _ _ h⟩)
 ·exact .inr h
end L2
set_option maxHeartbeats 4000000
namespace L2
open PySem PySem.Spec PyProof.Rows
section
variable {κ:Type} [DecidableEq κ]
noncomputable def Jh(b:List (κ×V))(k:κ):Option V:=(b.find? λf=>decide (f.1=k)).map (·.2)
noncomputable def putK(b:List (κ×V))(k:κ)(v:V):List (κ×V):=
 if (b.any λf=>decide (f.1=k))=true then b.map (λf=>if f.1=k then(f.1,v)else f)else b++[(k,v)]
def Uw{p:κ×V}{r:List (κ×V)}{k:κ}(e:p.1=k):Jh (p::r) k=some p.2:=by simp[Jh,Qm,e]
def U2{p:κ×V}{r:List (κ×V)}{k:κ}(e:¬p.1=k):Jh (p::r) k=Jh r k:=by simp[Jh,Qm,e]
theorem PD(k:κ):∀b:List (κ×V),(b.any λf=>decide (f.1=k))=(Jh b k).isSome
 |[]=>rfl
 |p::r=>by
  rw[Qz];by_cases e:p.1=k
  ·simp only[Uw e,YG e,Bool.true_or,Option.isSome_some]
  ·rw[U2 e,Wr e,Bool.false_or];exact PD k r
theorem Fn(k j:κ)(y:V):∀b:List (κ×V),Jh (b.map λf=>if f.1=k then(f.1,y)else f) j=(Jh b j).map λx=>if j=k then y else x
 |[]=>rfl
 |p::r=>by
  have g:=Fn k j y r;rw[YE];by_cases h:p.1=k
  ·rw[Y5 h];by_cases e:p.1=j
   ·rw[Uw (p:=(p.1,y)) e,Uw e,Vn,Y5 (e.symm.trans h)]
   ·rw[U2 (p:=(p.1,y)) e,U2 e,g]
  ·rw[Y4 h];by_cases e:p.1=j
   ·rw[Uw (p:=p) e,Uw e,Vn,Y4 (λz=>h (e.trans z))]
   ·rw[U2 (p:=p) e,U2 e,g]
theorem GT(k j:κ)(y:V):∀b:List (κ×V),Jh b k=none->Jh (b++[(k,y)]) j=if j=k then some y else Jh b j
 |[],_=>by
  by_cases e:k=j
  ·rw[Y5 e.symm];exact Uw (p:=(k,y)) e
  ·rw[Y4 (λz=>e z.symm)];exact U2 (p:=(k,y)) e
 |p::r,f=>by
  rw[Qw];have g:¬p.1=k:=λz=>by rw[Uw z]at f;cases f
  rw[U2 g]at f;have h:=GT k j y r f;by_cases e:p.1=j
  ·rw[Uw e,Uw e,Y4 (λz=>g (e.trans z))]
  ·rw[U2 e,U2 e,h]
def P6(b:List (κ×V))(k j:κ)(y:V):Jh (putK b k y) j=if j=k then some y else Jh b j:=by
 unfold putK;by_cases a:(b.any λf=>decide (f.1=k))=true
 ·rw[Y5 a,Fn];rw[PD]at a;by_cases e:j=k
  ·obtain⟨x,hx⟩:=Option.isSome_iff_exists.mp a;rw[Y5 e,e,hx,Vn,Y5 rfl]
  ·rw[Y4 e];cases Jh b j with
   |none=>rfl
   |some x=>rw[Vn,Y4 e]
 ·rw[Y4 a];refine GT k j y b ?_;rw[PD]at a;cases q:Jh b k with
  |none=>rfl
  |some x=>rw[q]at a;exact(a rfl).elim
def KO(b:List (κ×V))(k:κ)(v:V):(putK b k v).length<=b.length+1:=by
 unfold putK;split
 ·rw[Yy];omega
 ·rw[YK,YX,List.length_nil];omega
def Zcq{b:List (κ×V)}{k:κ}(v:V)(h:Jh b k=none):putK b k v=b++[(k,v)]:=by
 unfold putK;rw[PD,h];exact Y4 (by decide)
def RelO.isSome_eq {o:Option V}{u:Z5} (r:RelO o u):o.isSome=u.isSome:=by
 cases o with
 |none=>cases u with
  |none=>rfl
  |some _=>exact(show False from r).elim
 |some _=>cases u with
  |none=>exact(show False from r).elim
  |some _=>rfl
def KV.val {f:List (κ×V)}{vs:List (κ×Value)} (r:KV f vs) (k:κ):RelO (Jh f k) (valueAt vs k):=by
 unfold KV at r
 induction r with
 |nil=>exact True.intro
 | @cons p q o g h t l=>
  obtain⟨j,n⟩:=h;by_cases e:p.1=k
  ·have i:q.1=k:=j.symm.trans e;have b:valueAt (q::g) k=some q.2:=by simp[valueAt,Qm,i]
   rw[Uw e,b];exact n
  ·have i:¬q.1=k:=λz=>e (j.trans z);have b:valueAt (q::g) k=valueAt g k:=by simp[valueAt,Qm,i]
   rw[U2 e,b];exact l
def KV.any {b:List (κ×V)}{vs:List (κ×Value)} (r:KV b vs) (k:κ):(b.any λf=>decide (f.1=k))=vs.any λf=>decide (f.1=k):=by
 unfold KV at r
 induction r with
 |nil=>rfl
 |cons h t g=>rw[Qz,Qz,g,h.1]
def KV.repl {f:List (κ×V)}{vs:List (κ×Value)} (r:KV f vs) (k:κ) {y:V}{u:Value} (i:RelV y u) :
  KV (f.map λb=>if b.1=k then(b.1,y)else b) (vs.map λb=>if b.1=k then(b.1,u)else b):=by
 unfold KV at r ⊢
 induction r with
 |nil=>exact .nil
 | @cons p q o n h t j=>
  rw[YE,YE];refine .cons ?_ j;obtain⟨g,l⟩:=h;by_cases e:p.1=k
  ·rw[Y5 e,Y5 (g.symm.trans e)];exact⟨g,i⟩
  ·rw[Y4 e,Y4 (λz=>e (g.trans z))];exact⟨g,l⟩
def KV.put {b:List (κ×V)}{vs:List (κ×Value)} (r:KV b vs) (k:κ) {y:V}{u:Value} (f:RelV y u):KV (putK b k y) (stored vs k u):=by
 unfold putK stored;rw[r.any k];by_cases e:(vs.any λg=>decide (g.1=k))=true
 ·rw[Y5 e,Y5 e];exact r.repl k f
 ·rw[Y4 e,Y4 e];exact Paired.snoc r ⟨rfl,f⟩
def KV.length {b:List (κ×V)}{vs:List (κ×Value)} (r:KV b vs):b.length=vs.length:=Paired.length r
end
def KS{P:Program}{w:World}{k:Key}{u:Value}(r:RelV (kV k) u):(Uu P w).is k u=true:=by
 cases k with
 |inl i=>obtain⟨t,e⟩:=(show ∃t,u=Value.int i t from r);subst e;exact Zbn P w i t
 |inr x=>obtain⟨t,e⟩:=(show ∃t,u=Value.str x t from r);subst e;exact Lp P w x t
theorem Ct{P:Program}{w:World}:∀{b:List Key}{us:Z1},Vals (b.map kV) us->ItemsAre (Uu P w) b us
 |[],_,r=>by rw[List.map_nil]at r;cases r;exact .nil
 |k::b,_,r=>by
  rw[YE]at r;cases r with
  |cons h t=>exact .cons (KS h) (Ct t)
abbrev KT(H:Hp):List (List Key×V)->List (List Key×Addr×Value)->Prop:=Paired λp q=>p.1=q.1/\H q.2.1=some (.tup<|p.1.map kV)/\RelV p.2 q.2.2
def KT.val {H:Hp}{f:List (List Key×V)}{xs:List (List Key×Addr×Value)} (r:KT H f xs) (k:List Key):RelO (Jh f k) ((atKey xs k).map (·.2)):=by
 induction r with
 |nil=>exact True.intro
 | @cons p q o g h t l=>
  obtain⟨j,_,n⟩:=h;by_cases e:p.1=k
  ·have i:q.1=k:=j.symm.trans e;have b:atKey (q::g) k=some q.2:=by simp[atKey,Qm,i]
   rw[Uw e,b];exact n
  ·have i:¬q.1=k:=λz=>e (j.trans z);have b:atKey (q::g) k=atKey g k:=by simp[atKey,Qm,i]
   rw[U2 e,b];exact l
def KT.repl {H:Hp}{b:List (List Key×V)}{xs:List (List Key×Addr×Value)} (r:KT H b xs) (k:List Key) {y:V}{u:Value} (j:RelV y u) :
  KT H (b.map λg=>if g.1=k then(g.1,y)else g) (xs.map<|putAt k u):=by
 induction r with
 |nil=>exact .nil
 | @cons p q s o h t l=>
  rw[YE,YE];refine .cons ?_ l;obtain⟨f,i,n⟩:=h;unfold putAt;by_cases e:p.1=k
  ·rw[Y5 e,Y5 (f.symm.trans e)];exact⟨f,i,j⟩
  ·rw[Y4 e,Y4 (λz=>e (f.trans z))];exact⟨f,i,n⟩
def KT.put {H:Hp}{f:List (List Key×V)}{xs:List (List Key×Addr×Value)} (r:KT H f xs) (k:List Key) {b:Addr}{y:V}{u:Value} (i:H b=some (.tup<|k.map kV)) (g:RelV y u) :
  KT H (putK f k y) (storedH xs k b u):=by
 have e:(f.any λh=>decide (h.1=k))=(atKey xs k).isSome:=by
  rw[PD,(r.val k).isSome_eq,V4]
 unfold putK storedH;rw[e];by_cases q:(atKey xs k).isSome=true
 ·rw[Y5 q,Y5 q];exact r.repl k g
 ·rw[Y4 q,Y4 q];exact Paired.snoc r ⟨rfl,i,g⟩
def KT.keeps {H g:Hp}{f:List (List Key×V)}{xs:List (List Key×Addr×Value)} (r:KT H f xs) (h:∀b ys,H b=some (.tup ys)->g b=some (.tup ys)):KT g f xs:=
 Paired.mapP r λ_ _ z=>⟨z.1,h _ _ z.2.1,z.2.2⟩
section
variable {P:Program}{w:World}{H:Hp}{h:Heap}{a:Addr}
def Fe{u:HO}(ok:HOk P w H h)(e:Rd H a u):ObjOk P w H h a u:=e.ok ok
def KJ{b:List (Key×V)}(ok:HOk P w H h)(e:Rd H a (.dK b)):b.length<=sizeLine/\(a==sysModules)=false/\∃vs,KV b vs/\h.DictOf (Uu P w) a vs:=
 show ObjOk P w H h a (.dK b)from Fe ok e
def Zb0{b:List (Key×V)}(ok:HOk P w H h)(e:H a=some (.dK b)):b.length<=sizeLine/\(a==sysModules)=false/\∃vs,KV b vs/\h.DictOf (Uu P w) a vs:=KJ ok (.inl e)
def Kr{b:List Key}(ok:HOk P w H h)(e:H a=some (.tup<|b.map kV)):(tupleKind<|Uu P w).is h b a:=by
 obtain⟨_,f,r,o,j,i,n,g⟩:=(show ObjOk P w H h a (.tup<|b.map kV)from ok a _ e)
 exact⟨o,f.toArray,n,j,i,g,by simpa using Ct r⟩
def Pi{b:List (List Key×V)}(ok:HOk P w H h)(e:Rd H a (.dT b)):b.length<=sizeLine/\(a==sysModules)=false/\
  ∃xs,KT H b xs/\h.DictOfH (tupleKind<|Uu P w) a xs:=by
 obtain⟨z,y,xs,r,o,u,v,s,n,j,i,g⟩:=(show ObjOk P w H h a (.dT b)from Fe ok e)
 refine⟨z,y,xs,r,o,u,v,s,n,j,i,λx hx=>?_,g⟩
 have all:∀{l:List (List Key×V)} {m:List (List Key×Addr×Value)},KT H l m->∀x∈m,(tupleKind<|Uu P w).is h x.1 x.2.1:=by
  intro l m q
  induction q with
  |nil=>intro x hx;exact nomatch hx
  | @cons p q B A hq t f=>
   intro x hx;rcases YA.mp hx with e|hx
   ·subst e;exact Kr ok (by rw[←hq.1];exact hq.2.1)
   ·exact f x hx
 exact all r x hx
def Tj{b:List (List Key×V)}(ok:HOk P w H h)(e:H a=some (.dT b)):b.length<=sizeLine/\(a==sysModules)=false/\
  ∃xs,KT H b xs/\h.DictOfH (tupleKind<|Uu P w) a xs:=Pi ok (.inl e)
end
def DGet(H:Hp)(a:Addr)(y:V)(r:Option V):Prop:=
 (∃f k,Rd H a (.dK f)/\y=kV k/\r=Jh f k)\/∃f k b,Rd H a (.dT f)/\y=.ref b/\H b=some (.tup<|k.map kV)/\r=Jh f k
def DPut(H:Hp)(a:Addr)(y v:V)(g:Hp):Prop:=
 (∃f k,H a=some (.dK f)/\y=kV k/\f.length<sizeLine/\g=upd H a (.dK<|putK f k v))\/
 ∃f k b,H a=some (.dT f)/\y=.ref b/\H b=some (.tup<|k.map kV)/\f.length<sizeLine/\g=upd H a (.dT<|putK f k v)
def DGet.k {H:Hp}{a:Addr}{b:List (Key×V)}{k:Key} (e:H a=some (.dK b)):DGet H a (kV k) (Jh b k):=.inl ⟨b,k,.inl e,rfl,rfl⟩
def DGet.t {H:Hp}{a b:Addr}{f:List (List Key×V)}{k:List Key} (e:H a=some (.dT f)) (g:H b=some (.tup<|k.map kV)):DGet H a (.ref b) (Jh f k):=.inr ⟨f,k,b,.inl e,rfl,g,rfl⟩
def DPut.k {H:Hp}{a:Addr}{b:List (Key×V)}{k:Key}{v:V} (e:H a=some (.dK b)) (f:b.length<sizeLine):DPut H a (kV k) v (upd H a<|.dK<|putK b k v):=.inl ⟨b,k,e,rfl,f,rfl⟩
def DPut.t {H:Hp}{a b:Addr}{f:List (List Key×V)}{k:List Key}{v:V} (e:H a=some (.dT f)) (h:H b=some (.tup<|k.map kV)) (g:f.length<sizeLine) :
  DPut H a (.ref b) v (upd H a<|.dT<|putK f k v):=.inr ⟨f,k,b,e,rfl,h,g,rfl⟩
section
variable {X:Cx}{pins:Zw}{σ:St}{H:Hp}{s:Shared}{a:Addr}{y v:V}{u r:Value}{o:Option V}{A:Around}{E:Zy}
def Inv.big (I:Inv X pins σ H s):sysModules<s.heap.objs.size:=by
 have h:mainGlobals<s.heap.objs.size:=(I.mod.glob.keeps I.bk).lt;exact Qt (by decide) h
def RP{Q:Zy}(G:A.units+1<cLine)(I:Inv X pins σ H s)(g:DGet H a y (some v))(B:RelV y u)(h:∀i x,Inv X pins σ H x->RelV v i->Q i x) :
  wpAny (model X.prog X.w) A (getItem (.ref a) u) Q E s:=by
 rcases g with⟨j,k,e,ey,l⟩|⟨j,k,b,e,ey,M,l⟩
 ·subst ey;obtain⟨z,L,C,rel,q⟩:=KJ I.hok e;obtain⟨i,hw,f⟩:=RelO.some_of (v:=v) (o:=valueAt C k) (by rw[l];exact rel.val k);exact wpAny_getItem_of (KS B) q.mapOf hw (h i _ (I.tok _) f)
 ·subst ey;cases (show u=Value.ref b from B)
  obtain⟨z,L,xs,rel,q⟩:=Pi I.hok e;obtain⟨i,hw,f⟩:=RelO.some_of (v:=v) (o:=(atKey xs k).map (·.2)) (by rw[l];exact rel.val k);obtain⟨p,J,n⟩:=Option.map_eq_some_iff.mp hw;refine wpAny_getItem_heap (Q9 G) (Kr I.hok M) q J ?_;rw[n];exact h i _ (I.tok _) f
def Mg{Q:Zy}(x:A.units+1<cLine)(I:Inv X pins σ H s)(g:DGet H a y o)(p:RelV y u)(h:∀n,Inv X pins σ H n->Q (.bool o.isSome) n) :
  wpAny (model X.prog X.w) A (compareOp .In u<|.ref a) Q E s:=by
 rcases g with⟨f,k,e,ey,l⟩|⟨f,k,b,e,ey,B,l⟩
 ·subst ey;obtain⟨z,i,C,rel,j⟩:=KJ I.hok e;refine wpAny_in_of (KS p) i j.mapOf ?_;rw[←(rel.val k).isSome_eq,←l];exact h _ (I.tok _)
 ·subst ey;cases (show u=Value.ref b from p)
  obtain⟨z,i,xs,rel,j⟩:=Pi I.hok e;refine wpAny_in_heap (Q9 x) (Kr I.hok B) i j ?_;have q:=(rel.val k).isSome_eq;rw[V4]at q;rw[←q,←l];exact h _ (I.tok _)
def MV{Q:Zy}(x:A.units+1<cLine)(I:Inv X pins σ H s)(g:DGet H a y o)(p:RelV y u)(h:∀n,Inv X pins σ H n->Q (.bool (!o.isSome)) n) :
  wpAny (model X.prog X.w) A (compareOp .NotIn u<|.ref a) Q E s:=by
 rcases g with⟨f,k,e,ey,l⟩|⟨f,k,b,e,ey,B,l⟩
 ·subst ey;obtain⟨z,i,C,rel,j⟩:=KJ I.hok e;refine wpAny_notIn_of (KS p) i j.mapOf ?_;rw[←(rel.val k).isSome_eq,←l];exact h _ (I.tok _)
 ·subst ey;cases (show u=Value.ref b from p)
  obtain⟨z,i,xs,rel,j⟩:=Pi I.hok e;refine wpAny_notIn_heap (Q9 x) (Kr I.hok B) i j ?_;have q:=(rel.val k).isSome_eq;rw[V4]at q;rw[←q,←l];exact h _ (I.tok _)
def Nz{h':Heap}{t':Nat}{ob:HO}(I:Inv X pins σ H s)(f:Mut (H a))(g:Heap.SameBut a s.heap h')(h:∃q,h'.get? a=some q)(new:ObjOk X.prog X.w (upd H a ob) h' a ob) :
  Inv X pins σ (upd H a ob) {s with heap:=h',toks:=t'}:=
 I.write (x:=a) (e:=a) f (.inl rfl) (λb q i z=>(g.2 b i).trans z) h new
def Zcv{P:Program}{w:World}{g:Hp}{h':Heap}{b:List (Key×V)}{vs:List (Key×Value)}(z:b.length<=sizeLine)(f:(a==sysModules)=false)(rel:KV b vs)(dd:h'.DictOf (Uu P w) a vs) :
  ObjOk P w g h' a (.dK b):=⟨z,f,vs,rel,dd⟩
def Zc2{U:Hp}{Q:Unit->Shared->Prop}(hu:A.units+1<cLine)(I:Inv X pins σ H s)(g:DPut H a y v U)(J:RelV y u)(L:RelV v r)(h:∀G,Inv X pins σ U G->Q () G) :
  wpAny (model X.prog X.w) A (setItem (.ref a) u r) Q E s:=by
 rcases g with⟨f,k,e,ey,l,B⟩|⟨f,k,b,e,ey,T,l,B⟩
 ·subst ey B;obtain⟨z,x,Y,rel,C⟩:=Zb0 I.hok e;have j:Y.length<=sizeLine:=by rw[←rel.length];exact z
  have p:(putK f k v).length<=sizeLine:=by have:=KO f k v;omega
  refine wpAny_setItem_pairs (hsz:=j) (KS J) C λM i n=>h _ ?_;have he:∃q,M.get? a=some q:=let ⟨q,_,_,hq,_⟩:=i;⟨q,hq⟩;exact Nz I (by rw[e];exact True.intro) n he (Zcv p x (rel.put k L) i)
 ·subst ey B;cases (show u=Value.ref b from J)
  obtain⟨z,x,xs,rel,C⟩:=Tj I.hok e;have j:xs.length<=sizeLine:=by rw[←Paired.length rel];exact z
  have p:(putK f k v).length<=sizeLine:=by have:=KO f k v;omega
  refine wpAny_setItem_heap (hsz:=j) (Q9 hu) (Kr I.hok T) C λM i n=>h _ ?_;obtain⟨q,es,ep,hq,h2,h3,h4,_,h5⟩:=i;refine Nz I (by rw[e];exact True.intro) n ⟨q,hq⟩ ⟨p,x,_,(rel.put k T L).keeps λc ys N=>?_,q,es,ep,hq,h2,h3,h4,h5⟩;rw[Jg (Av N e (λz=>nomatch z))];exact N
end
def AD(i:Expr):Prop:=∀b f,subscripted i false b f=operate [b,f] (getItem b f)
def Zc3{prog:Program}{w:World}{A:Around}{E:Zy}{s:Shared}{env:Env}{value slice:Expr}{pos:Pos}{T id:String}{Q:Zy}(u:typeLookup (.type T) "__getitem__"=pure (some<|.builtin id))(q:AD slice)(h:wpAny (model prog w) A (eval value env) (λo j=>wpAny (model prog w) A (eval slice env) (λi b=>b.TypeIs o T/\wpAny (model prog w) A (getItem o i) Q E b) E j) E s) :
  wpAny (model prog w) A (eval (.Subscript value slice pos) env) Q E s:=by
 refine Subscript_ (Wl h (λo j n=>Wl n (λi b f=>?_) λ_ _ x=>x) λ_ _ x=>x);obtain⟨p,f⟩:=f;unfold subscriptTail;refine Yw ?_;rw[getitemInPython_of_ne p.not_modules];refine Yw (wpAny_specialOf p u ?_)
 have fin:wpAny (model prog w) A (subscripted slice false o i) (λr g=>wpAny (model prog w) A (letTemporaryGo value o r >>= λ_=>pure r) Q E g) E b:=by
  rw[q o i];exact wpAny_operating (Wl f (λr g l=>Yw (wpAny_letTemporaryGo<|Yz l)) λ_ _ x=>x)
 first
  |exact Yz (Yw fin)
  |exact Yw (Yz<|Yw fin)
  |exact Yw fin
def Mz{X:Cx}{pins:Zw}{i:St}{H:Hp}{s:Shared}{a:Addr}{y:V}{o:Option V}(I:Inv X pins i H s)(g:DGet H a y o):s.TypeIs (.ref a) "dict":=by
 rcases g with⟨f,k,e,_,_⟩|⟨f,k,b,e,_,_,_⟩
 ·obtain⟨_,_,j,_,h⟩:=KJ I.hok e;exact h.typeIs
 ·obtain⟨_,_,xs,_,h⟩:=Pi I.hok e;exact h.typeIs
noncomputable def GK(h g:TE):TE:=λb H Q=>h b H λx i=>g b i λy f=>∃a v,x=.ref a/\DGet f a y (some v)/\Q v f
noncomputable def EJ(g h:TE):TE:=λb H Q=>g b H λy i=>h b i λx f=>∃a o,x=.ref a/\DGet f a y o/\Q (.bl o.isSome) f
noncomputable def A3(g h:TE):TE:=λb H Q=>g b H λy i=>h b i λx f=>∃a o,x=.ref a/\DGet f a y o/\Q (.bl (!o.isSome)) f
noncomputable def Cw(i g h:TE):TS:=λD b H=>h b H λv n=>i b n λx l=>g b l λy j=>∃a f,x=.ref a/\DPut j a y v f/\D.nx b f
section
variable {X:Cx}{o i e value:Expr}{pos pos' tpos:Pos}{td ty tv:TE}
def XO(w:X.A.units+1<cLine)(B:PE X o td)(C:PE X i ty)(z:AD i):PE X (.Subscript o i pos) (GK td ty):=by
 intro pins s f H Q I h;refine Zc3 PySem.F.slot_dict_getitem.lookup z (thn (B pins s f H _ I h) ?_);rintro u l ⟨x,M,J,p,r⟩;refine thn (C pins l f M _ J r) ?_;rintro Y U ⟨y,L,j,n,a,v,E,g,q⟩;subst E;obtain rfl:u=Value.ref a:=p;exact⟨Mz j g,RP w j g n λN T G b=>⟨v,L,G,b,q⟩⟩
def AU(r:X.A.units+1<cLine)(w:PE X i ty)(v:PE X o td):PC X .In i o (EJ ty td):=by
 intro pins s b H Q I h;refine thn (w pins s b H _ I h) ?_;rintro N f ⟨y,J,E,j,p⟩;refine thn (v pins f b J _ E p) ?_;rintro u M ⟨x,G,C,l,a,q,z,g,n⟩;subst z;obtain rfl:u=Value.ref a:=l;exact Mg r C g j λL B=>⟨.bl q.isSome,G,B,rfl,n⟩
def Oj(r:X.A.units+1<cLine)(w:PE X i ty)(v:PE X o td):PC X .NotIn i o (A3 ty td):=by
 intro pins s b H Q I h;refine thn (w pins s b H _ I h) ?_;rintro N f ⟨y,J,E,j,p⟩;refine thn (v pins f b J _ E p) ?_;rintro u M ⟨x,G,C,l,a,q,z,g,n⟩;subst z;obtain rfl:u=Value.ref a:=l;exact MV r C g j λL B=>⟨.bl (!q.isSome),G,B,rfl,n⟩
def Tt(C:X.A.units+1<cLine)(G:PE X o td)(J:PE X i ty)(B:PE X value tv)(E:swapsWith value (some<|.Subscript o i pos') pos.line X.env=pure false) :
  PS X (.Assign [.Subscript o i pos'] value pos) (Cw td ty tv):=by
 intro pins s b H D I h;refine wpAny_Assign_Subscript (thn (B pins s b H _ I h) ?_) E;rintro r j ⟨v,H1,T,p,z⟩;refine thn (G pins j b H1 _ T z) ?_;rintro u f ⟨x,Y,Q,n,w⟩;refine thn (J pins f b Y _ Q w) ?_;rintro iv s3 ⟨y,H3,N,l,a,U,L,g,q⟩;subst L;obtain rfl:u=Value.ref a:=n;exact Zc2 C N g l p λs4 M=>⟨b,U,M,q⟩
end
def Zcl{P:Program}{w:World}{H:Hp}(h:Heap)(b:sysModules<h.objs.size):ObjOk P w H (h.push {cls:=.type "dict",data:=.dict #[]}) h.objs.size (.dK []):=
 ⟨Wp _,beq_eq_false_iff_ne.mpr (Ne.symm<|YJ b),[],.nil,Heap.DictOf.new h⟩
def AS{P:Program}{w:World}{H:Hp}(h:Heap)(b:sysModules<h.objs.size):ObjOk P w H (h.push {cls:=.type "dict",data:=.dict #[]}) h.objs.size (.dT []):=
 ⟨Wp _,beq_eq_false_iff_ne.mpr (Ne.symm<|YJ b),[],.nil,_,#[],0,Y7 _ rfl,⟨rfl,rfl,rfl⟩,rfl,rfl,Qi⟩
noncomputable def Ac:TE:=λ_ H Q=>∀p,H p=none->Q (.ref p) (upd H p<|.dK [])
noncomputable def Aa:TE:=λ_ H Q=>∀p,H p=none->Q (.ref p) (upd H p<|.dT [])
section
variable {X:Cx}{pos:Pos}
def EA:PE X (.Dict [] [] pos) Ac:=λpins s b H Q I h=>
 wpAny_Dict_empty ⟨.ref s.heap.objs.size,_,I.laid (a:=s.heap.objs.size) (o:=.dK []) (t':=s.toks) (λ_ _ q=>Y0 _ q) (Y1 _) (Zcl s.heap I.big),rfl,h _ (I.hok.fresh<|Y1 _)⟩
def Lk:PE X (.Dict [] [] pos) Aa:=λpins s b H Q I h=>
 wpAny_Dict_empty ⟨.ref s.heap.objs.size,_,I.laid (a:=s.heap.objs.size) (o:=.dT []) (t':=s.toks) (λ_ _ q=>Y0 _ q) (Y1 _) (AS s.heap I.big),rfl,h _ (I.hok.fresh<|Y1 _)⟩
end
def F5:List (TE×TE)->St->Hp->(List (V×V)->Hp->Prop)->Prop
 |[],_,H,Q=>Q [] H
 |(g,f)::r,b,H,Q=>g b H λx l=>f b l λy j=>F5 r b j λh i=>Q ((x,y)::h) i
abbrev VV:List (V×V)->List (Value×Value)->Prop:=Paired λp q=>RelV p.1 q.1/\RelV p.2 q.2
def PPs(X:Cx)(pos:Pos)(keys:List (Option Expr))(values:Z3)(f:List (TE×TE)):Prop:=
 ∀(pins:Zw) (s:Shared) (b:St) (H:Hp) (Q:List (V×V)->Hp->Prop),Inv X pins b H s->F5 f b H Q->
  wpAny (model X.prog X.w) X.A (evalPairs<|pairTrees keys values X.env pos) (λi j=>∃g h,Inv X pins b h j/\VV g i/\Q g h) X.xe s
def Zal{X:Cx}{pos:Pos}:PPs X pos [] [] []:=λpins s b H Q I h=>pairTrees_nil_walk ⟨[],H,I,.nil,h⟩
def Zcg{X:Cx}{pos:Pos}{k v:Expr}{j:List (Option Expr)}{vs:Z3}{i g:TE}{b:List (TE×TE)}(C:PE X k i)(A:PE X v g)(B:PPs X pos j vs b) :
  PPs X pos (some k::j) (v::vs) ((i,g)::b):=λpins s f H Q I h=>
 pairTrees_cons_walk (thn (C pins s f H _ I h) λu n ⟨x,N,J,p,w⟩=>thn (A pins n f N _ J w) λU l ⟨y,M,G,o,r⟩=>
  thn (B pins l f M _ G r) λT Y ⟨z,L,E,rel,q⟩=>⟨(x,y)::z,L,E,.cons ⟨p,o⟩ rel,q⟩)
end L2
set_option genInjectivity false
set_option genSizeOfSpec false
namespace Own
open PySem PySem.Spec PyProof.Rows L2
structure Def (K:Zt) (mg:Zx) (x:Str) (st:Stmt) (ps:Z2):Prop where
 ex:∃f fd,Fun K x x st f fd/\mg x=some (.ref f)/\Binds K fd ps []
structure Callee (P:Program) (w:World) (K:Zt) (mg:Zx) (base:Heap) (CX:CXT) (k:Nat) (x:Str) (ps:Z2) (sp:Sp):Prop where
 ex:∃f fd,Xh P w K mg base CX k f fd ps sp/\mg x=some (.ref f)/\PySem.W.keepIn K (.ref f)=true/\(∃o:Obj,K.lookup f=some o/\o.data=.func fd)/\Binds K fd ps []
section
variable {P:Program}{w:World}{K:Zt}{mg:Zx}{base:Heap}
def Def.ok {st N ps k sp} (D:Def K mg x st ps) (S:Jd N ps (Jb st)) (len:∀vs H Q E,sp vs H Q E->vs.length=ps.length)
  (g:∀f b A outer s H vs Q E,Jl k (A.deeper<|envOfC x (Jb st) s.heap.objs.size f b)->sp vs H Q E->
   ∃t,PSs (JG CX0 P w K mg base N x (Jb st) f b A outer s H E).nox (JI st) t/\t {nx:=λ_ q=>Q .non q,rt:=Q} (start N vs) H):Callee P w K mg base CX0 (k+1) x ps sp:=by
 obtain⟨f,o,F,l,n⟩:=D.ex;refine⟨f,o,F.ok S len λb A outer s H vs Q E j h=>g f b A outer s H vs Q E j h,l,F.kp,?_,n⟩;obtain⟨oc,u,kV,p,r,z,b,y,i,_,v,_⟩:=F.ex
 grind
end
section
variable {X:Cx}{CX:CXT}{k:Nat}{ps:Z2}{sp:Sp}{E:XK}{x:Str}{p pos:Pos}{e:Expr}{es:Z3}{t:TA}
def Pn(C:Callee X.prog X.w X.K X.mg X.base CX k x ps sp)(h:Jl k X.A)(hx:XB CX X E)(q:PA X (e::es) t)(l:autoParam (Gl X x) au_0)(g:autoParam ((x==("__debug__" : Str))=false) au_1)(n:autoParam (starEach (e::es) X.env=(false,eval e X.env)::starEach es X.env) au_0)(b:autoParam ((backTo pos<|starEach es X.env).any (·.1)=false) au_0) :
  PE X (.Call (.Name x p) (e::es) [] pos) (Pt sp [] E t):=by
 obtain⟨f,r,F,i,j,_,o⟩:=C.ex;exact MR F h l i j o .nil hx q g n b
def R1:JC X (.builtin "isinstance") (λxs H Q=>∃x n t b,xs=[x,.ty n]/\JZ X.K H x t/\PySem.W.kitOne X.K t (.type n)=some b/\Q (.bl b) H):=by
 intro pins s u H xs v Q I j h;obtain⟨x,n,t,b,rfl,g,e,q⟩:=h;cases j with
 |cons r l=>
  cases l with
  |cons o f=>
   cases f
   obtain rfl:=o;exact Zak I r g e λi=>⟨.bl b,H,I.tok i,rfl,q⟩
def NK:IxR X (λx y H Q=>XF X.K x y H Q\/X0 X.K x y H Q):=ix_list.or Iy
end
noncomputable def BM(t u:TS):TS:=λD g H=>∃J:L2.St->Hp->Prop,t {D with nx:=J} g H/\∀b f,J b f->u D b f
def SY{st rest t u}(n:PS X st t)(l:PSs X rest u):PSs X (st::rest) (BM t u):=by
 intro pins s i H D I h;obtain⟨J,h,k⟩:=h;refine Qj (thn (n pins s i H {D with nx:=J} I h) λf j q=>?_)
 cases f with
 |next=>
  obtain⟨b,g,o,q⟩:=q;exact l pins j b g D o (k b g q)
 |_=>exact q
def HL(K:Zt)(n:String):PySem.W.kitOne K (.type n) (.type n)=some true:=by
 unfold PySem.W.kitOne;simp
def Xc{xs i v}(h:atI xs i=some v):atI (xs.map f) i=some (f v):=by
 unfold atI at h ⊢;cases e:ixN xs.length i with
 |_=>grind
def T8{i v}(b:0<=i)(h:xs[i.toNat]?=some v):atI xs i=some v:=by
 have:=TL h
 grind
def Jy(h:H a=none):Same H (upd H a o):=λb u e=>by rw[Jg (J4 e h)];exact e
def Same.upd (S:Same H f) (h:H a=none):Same H (upd f a o):=λb u e=>by rw[Jg (J4 e h)];exact S b u e
def Same.new (S:Same H b) (h:b a=none):Same H (L2.upd b a o):=Own.Same.upd S (S.free h)
def Oy(names:List (Str×NameKind))(f:∀x∈names,x.2=.free->∃c,env.cells.lookup x.1=some c):∀b,(∀x c,b.lookup x=some c->env.cells.lookup x=some c)->
  ∃g,(forIn names b (λx u=>if (x.2 == .free)=true then(do let c ←cellOf env x.1;pure (ForInStep.yield ((x.1,c)::u)))else pure (ForInStep.yield u)):Sem (Z8))=pure g/\
   (∀x c,g.lookup x=some c->env.cells.lookup x=some c)/\(∀x,(∃c,b.lookup x=some c)->∃c,g.lookup x=some c)/\∀x∈names,x.2=.free->∃c,g.lookup x.1=some c:=by
 induction names with
 |nil=>
  intro b l;exact⟨b,rfl,l,λ_ h=>h,λx hx=>by cases hx⟩
 |cons y r v=>
  intro b l;have i:=v λx hx=>f x (YT _ hx);obtain⟨n,k⟩:=y;by_cases q:k=.free
  ·subst q;obtain⟨c,s⟩:=f (n,.free) Wb rfl
   have w:∀x d,List.lookup x ((n,c)::b)=some d->env.cells.lookup x=some d:=λx d e=>by
    rw[WA]at e;by_cases hx:x=n
    ·subst hx;simp at e;subst e;exact s
    ·have:(x==n)=false:=by simpa using hx
     rw[this]at e;exact l x d e
   obtain⟨g,e,p,p2,o⟩:=i ((n,c)::b) w;refine⟨g,?_,p,λx hx=>p2 x ?_,λx hx j=>?_⟩
   ·rw[Q3];have z:cellOf env n=pure c:=by unfold cellOf;rw[s]
    rwa[z]
   ·rw[WA];cases (x==n)
    ·exact hx
    ·exact⟨c,rfl⟩
   ·rcases YA.mp hx with rfl|hx
    ·exact p2 n ⟨c,by simp[WA]⟩
    ·exact o x hx j
  ·obtain⟨g,e,p,p2,o⟩:=i b l;refine⟨g,?_,p,p2,λx hx j=>?_⟩
   ·grind
   ·rcases YA.mp hx with rfl|hx
    ·exact absurd j q
    ·exact o x hx j
def Gj{sc}(b:∀x∈sc.names,x.2=.free->∃c,env.cells.lookup x.1=some c) :
  ∃f,closureFor sc env=pure f/\(∀x c,f.lookup x=some c->env.cells.lookup x=some c)/\∀x∈sc.names,x.2=.free->∃c,f.lookup x.1=some c:=by
 obtain⟨f,e,i,_,g⟩:=Oy sc.names b [] (λx c h=>by cases h);unfold closureFor
 grind
noncomputable def J7(X:Cx)(N':Z2)(g:Scope)(h:Z8)(C:Addr)(b:Shared)(f:Hp)(ex:List Addr):Cx:=
 {X with N:=N',s₀:=b,H₀:=f,env:=compEnvC g h C X.env,outer:=X.stack,ex:=ex,fn:=λ_=>false,pn:=[],xe:=λ_ _=>False}
structure K8 (X:Cx) (N':Z2) (φ:Zz) (sc:Scope):Prop where
 kind:sc.kind=.function
 okind:X.env.scope.kind=.function
 nocell:∀y∈sc.names,y.2≠.cell
 names:∀y∈sc.names,y.2=.local->sc.names.lookup y.1=some .local
 frees:∀y∈sc.names,y.2=.free->X.env.scope.names.lookup y.1=some .cell
 len:φ.length=N'.length
 pick:∀(i:Nat) (x:Str) (j:Nat),N'[i]?=some x->φ[i]?=some (some j)->X.N[j]?=some x/\sc.names.lookup x=some .free
noncomputable def atStart(φ:Zz)(b:L2.St):L2.St:=φ.map λo=>o.bind λj=>(b[j]?).join
def Sub(f b:L2.St):Prop:=b.length=f.length/\∀(i:Nat) (v:V),f[i]?=some (some v)->b[i]?=some (some v)
def Sub.refl:Sub b b:=⟨rfl,λ_ _ h=>h⟩
def Sub.skip (h:Sub f b):Sub (none::f) (x::b):=by
 refine⟨by simp[h.1],λi v e=>?_⟩;cases i with
 |zero=>grind
 |succ i=>simp at e ⊢;exact h.2 i v e
theorem AR{env:Env}(j:env.scope.kind=.function):∀{names:List (Str×NameKind)}{x:Str},names.lookup x=some .free->env.scope.names.lookup x=some .cell->
  (names.map λ(n,k)=>if (k==NameKind.free&&env.scope.kind == .function&&env.kindOf n==some .cell)then(n,NameKind.cell)else(n,k)).lookup x=some .cell
 |[],_,h,_=>by simp at h
 |(n,k)::r,x,h,f=>by
  have g:=@AR env j r x;show List.lookup x ((if (k==NameKind.free&&env.scope.kind == .function&&env.kindOf n==some .cell)=true then(n,NameKind.cell)else(n,k))::_)=_;cases hx:x==n with
  |true=>
   have i:env.kindOf x=some .cell:=f;simp_all
  |false=>
   simp only[WA,hx]at h;by_cases b:(k==NameKind.free&&env.scope.kind == .function&&env.kindOf n==some .cell)=true
   ·rw[Y5 b];simp only[WA,hx];exact g h f
   ·rw[Y4 b];simp only[WA,hx];exact g h f
theorem Bs{env:Env}:∀{names:List (Str×NameKind)}{x}{q:NameKind},
  (names.map λ(n,k)=>if (k==NameKind.free&&env.scope.kind == .function&&env.kindOf n==some .cell)then(n,NameKind.cell)else(n,k)).lookup x=some q->∃k,(x,k)∈names/\(q=k\/k=.free)
 |[],_,_,h=>by simp at h
 |(n,k)::r,x,q,h=>by
  have f:List.lookup x ((if (k==NameKind.free&&env.scope.kind == .function&&env.kindOf n==some .cell)=true then(n,NameKind.cell)else(n,k))::(r.map λ(n,k)=>if (k==NameKind.free&&env.scope.kind == .function&&env.kindOf n==some .cell)then(n,NameKind.cell)else(n,k)))=some q:=h;cases hx:x==n with
  |true=>
   have e:x=n:=by simpa using hx
   subst e;by_cases b:(k==NameKind.free&&env.scope.kind == .function&&env.kindOf x==some .cell)=true
   ·simp_all
   ·simp_all
  |false=>
   have j:List.lookup x (r.map λ(n,k)=>if (k==NameKind.free&&env.scope.kind == .function&&env.kindOf n==some .cell)then(n,NameKind.cell)else(n,k))=some q:=by
    by_cases b:(k==NameKind.free&&env.scope.kind == .function&&env.kindOf n==some .cell)=true
    ·rw[Y5 b]at f;simp only[WA,hx]at f;exact f
    ·rw[Y4 b]at f;simp only[WA,hx]at f;exact f
   obtain⟨g,i,hq⟩:=(@Bs env r x q) j;exact⟨g,YT _ i,hq⟩
def Hr{E target iter y scope pos H G env}(I:Nat->Shared->Prop)
  (turn:∀n s,I n s->wpAny (model prog w) A (pyNext H) (λr g=>match r with
   |none=>R (.ok .next) g
   |some v=>wpAny (model prog w) A (letOwnedTupleGo target H v) (λ_ f=>wpAny (model prog w) A (assign target env v) (λ_ o=>
     wpAny (model prog w) A (forIn y true λc r=>if r=true then do let ok ←isTrue c env (eval c env);pure (ForInStep.yield ok)else pure (ForInStep.yield r)) (λok b=>
      if ok=true then wpAny (model prog w) A (eval E env) (λx l=>
       wpAny (model prog w) A (call (.builtin "list.append") [G,x]) (λ_ j=>∃m,m<n/\I m j) (λ_ _=>False) l) (λ_ _=>False) b
      else ∃m,m<n/\I m b) (λ_ _=>False) o) (λ_ _=>False) f) (λ_ _=>False) g) (λ_ _=>False) s)
  (n:Nat) (h:I n s) :
  codeAny (model prog w) A (.compLoop (.ListComp E [⟨target,iter,y,0⟩] scope pos) 0 H G env) R s:=by
 refine codeAny_loop rfl I (λn s J=>?_) n h;refine wpAny_noted ?_;rw[compTurn_list];refine Yw (wpAny_standAt<|Yw (Wl (turn n s J) (λr g q=>?_) λ_ _ i=>i.elim));cases r with
 |none=>exact Yz q
 |some v=>
  refine Yw (Wl q (λ_ f u=>?_) λ_ _ i=>i.elim);refine Yw (Wl u (λ_ o C=>Yw (Wl C (λok b p=>?_) λ_ _ i=>i.elim)) λ_ _ i=>i.elim);cases ok with
  |false=>exact Yz ⟨rfl,p⟩
  |true=>
   exact Yw (Yw (Wl p (λx l B=>Yw (Wl B (λ_ j z=>Yz (Yz ⟨rfl,z⟩)) λ_ _ i=>i.elim)) λ_ _ i=>i.elim))
def XN(X:Cx)(f:Z3)(t:TT):Prop:=
 ∀(pins:Zw) (s:Shared) (b:L2.St) (H:Hp) (Q:Bool->Hp->Prop),Inv X pins b H s->t b H Q->
  wpAny (model X.prog X.w) X.A (forIn f true λc r=>if r=true then do let ok ←isTrue c X.env (eval c X.env);pure (ForInStep.yield ok)else pure (ForInStep.yield r)) (TP X pins b Q) X.xe s
noncomputable def CD:TT:=λ_ H Q=>Q true H
def X4:XN X [] CD:=λ_ _ _ H _ I h=>Yz ⟨H,I,h⟩
def Nb(g:PT X c t):XN X [c] t:=by
 intro pins s f H Q I h;rw[Q3];refine Yw ?_;exact Yw (thn (g pins s f H Q I h) λb i q=>Yz (Yz q))
noncomputable def KY(φ:Zz)(s:TI)(g:TG)(tc:TT)(te:TE):TE:=λn H Q=>s n H λJ r=>∀D,r D=none->∃W:Nat->Nat->List V->Hp->Prop,(∃m,W 0 m [] (upd r D<|.lst []))/\
 ∀i m h l,W i m h l->(J.stop i l/\Q (.ref D) l)\/(J.go i l/\∀x q,J.yld i l x q->g x (atStart φ n) q λf u=>Sub (atStart φ n) f/\tc f u λb p=>
  if b=true then te f p λy o=>o D=some (.lst h)/\h.length<sizeLine/\∃j,j<m/\W (i+1) j (h++[y]) (upd o D<|.lst (h++[y]))else ∃j,j<m/\W (i+1) j h p)
def Inv.weak {f b:L2.St}{H}{s} (I:Inv X pins b H s) (S:Sub f b):Inv X pins f H s:=
 ⟨I.ok,I.os,I.bare,I.base,let ⟨m,g,h⟩:=I.loc;⟨m,g,λi x v n l j=>h i x v n (S.2 i v l) j⟩,I.cell,I.free,I.freeC,I.pin,I.hok,by rw[←S.1];exact I.len⟩
def BB{i:Nat}{v}(h:(atStart φ b)[i]?=some (some v)):∃j,φ[i]?=some (some j)/\b[j]?=some (some v):=by
 unfold atStart at h;cases e:φ[i]? with
 |none=>grind
 |some o=>
  cases o with
  |_=>grind
def CompEnd(X:Cx)(pins:Zw)(g:L2.St)(Q:VK)(use:Option (Value->Sem Unit))(h:Zy):Prop:=
 ∀(D C:Addr) (f:Hp) (b:Shared),Q (.ref D) f->Inv X pins g f b->(∃m,b.heap.Ns C m)->f C=none->C≠X.env.locals->X.s₀.heap.objs.size<=C->(∀x c,X.env.cells.lookup x=some c->c≠C)->(∀p∈X.pn++pins,p.1≠C)->C∉X.fs->
  compPost (model X.prog X.w) X.A X.xe use h (.ref D) C (.ok .next) b
def Dx{elt iter tg}{ifs}{pos pos'}{wi}{g}{tc}{te}{use}{QQ}(hcalm:X.calm=true)(S:K8 X N' φ G)(hi:PI X tg iter wi)(hin:∀U C s₃ H₃ ex,PG (J7 X N' G U C s₃ H₃ ex) tg g/\XN (J7 X N' G U C s₃ H₃ ex) ifs tc/\PE (J7 X N' G U C s₃ H₃ ex) elt te)(hs:∀x,foldedSetIterable iter X.env x=pure x){pins}{s}{σ:L2.St}{H}{Q}(I:Inv X pins σ H s)(h:KY φ wi g tc te σ H Q)(fin:CompEnd X pins σ Q use QQ) :
  wpAny (model X.prog X.w) X.A (comprehension (.ListComp elt [⟨tg,iter,ifs,0⟩] G pos) G X.env pos' (newList []) false (eval iter X.env) use) QQ X.xe s:=by
 obtain⟨U,hcl,p1,p3⟩:=Gj λx hx hf=>I.ok.has x.1 (.inl<|S.frees x hx hf);refine wpAny_comprehension_free rfl hs hcl S.kind S.names ?_;refine thn (hi pins s σ H _ I h) λv s1 h1=>thn h1 λitv s2 h2=>?_;obtain⟨it,L,tn,J,H2,e,I2,T,st2,f2,hR⟩:=h2;subst e;refine Wn ?_;have hf:=I2.hok.fresh (Y1 _);obtain⟨W,⟨m0,w0⟩,turn⟩:=hR s2.heap.objs.size hf;generalize eD:s2.heap.objs.size=D at *
 have I3:Inv X pins σ (upd H2 D<|.lst []) {s2 with heap:=s2.heap.push {cls:=.type "list",dict:=none,data:=.seq ([]:Z1).toArray}}:=
  I2.laid (λb u e=>Y0 _ e) (WV eD) ⟨Wp _,[],0,.nil,by rw[←eD];exact Y7 _ rfl⟩
 have st3:tn 0 (s2.heap.push {cls:=.type "list",dict:=none,data:=.seq ([]:Z1).toArray}):=T.keep _ _ _ st2 λb _ o e=>Y0 _ e
 have hfpD:∀b∈L,b≠D:=λb f z=>by
  obtain⟨o,ho,_⟩:=T.obj _ _ st2 b f
  have:=Y6 ho
  rw[z,←eD]at this;exact WM _ this
 have f3:∀b∈L,J1 X pins (upd H2 D<|.lst []) b:=λb f=>⟨by rw[Jg (hfpD b f)];exact(f2 b f).1,(f2 b f).2⟩;generalize es3:({s2 with heap:=s2.heap.push {cls:=.type "list",dict:=none,data:=.seq ([]:Z1).toArray}}:Shared)=l at *
 have st3':tn 0 l.heap:=by rw[←es3];exact st3
 generalize eH3:upd H2 D (.lst [])=H3 at *;refine wpAny_newFunctionEnv S.nocell (by intro y hy;simp at hy) (λh₁ E B=>?_) S.kind;have hh3:l.heap=s2.heap.push {cls:=.type "list",dict:=none,data:=.seq ([]:Z1).toArray}:=by rw[←es3]
 rw[hh3]at E B;rw[←hh3]at E B;have old:=λb o e=>B.extBut b o (YJ<|Y6 e) (Y0 _ e)
 have hC0:l.heap.get? l.heap.objs.size=none:=by
  cases e:l.heap.get? l.heap.objs.size with
  |none=>rfl
  |some o=>exact absurd (Y6 e) (WM _)
 generalize eC:l.heap.objs.size=C at *;have hH3C:=I3.hok.fresh (WV eC)
 have OK:(J7 X N' G U C l H3 L).Ok:=by
  refine⟨I.ok.mod,?_,I.ok.glob,I.ok.blt,WV eC,λx y c h1 h2=>I.ok.inj x y c (p1 x c h1) (p1 y c h2),?_,(λx c hx=>by cases hx),I.ok.hd,I.ok.frames,.inl rfl,?_,I3.bs,Y8 I.ok.bsz I3.sz,?_,?_,I3.stack,I3.stkFree⟩
  ·exact S.kind
  ·intro x hx;have hx':=hx.imp Bs Bs
   have hfr:(x,NameKind.free)∈G.names:=by
    rcases hx' with⟨k,hm,rfl|rfl⟩|⟨k,hm,rfl|rfl⟩
    ·exact absurd rfl (S.nocell _ hm)
    ·exact hm
    ·exact hm
    ·exact hm
   exact p3 _ hfr rfl
  ·intro b f;refine⟨λz=>?_,λx c hx=>(f3 b f).2.2.2.2.1 x c (p1 x c hx)⟩;obtain⟨o,ho,_⟩:=T.obj _ _ st3' b f;have z':b=C:=z;rw[z',hC0]at ho;cases ho
  ·intro b o f hx;obtain⟨_,_,_,q,_,_⟩:=f3 b hx;rcases q with q|q
   ·exact I.ok.noex b o f q
   ·have:=YM (Y6 f) (Y8 I.ok.bsz q)
    exact WM _ this
  ·intro b f hz;rcases YA.mp (I.stkSub b hz)with q|q
   ·exact(f3 b f).2.1 q
   ·exact(f3 b f).2.2.1 q
 have hlen0:(atStart φ σ).length=N'.length:=by unfold atStart;rw[Yy];exact S.len
 have I4:Inv (J7 X N' G U C l H3 L) [] (atStart φ σ) H3 {l with heap:=h₁,toks:=l.toks+([]:List (Str×Value)).length}:=by
  refine⟨OK,rfl,I3.bare,Un.kept old,⟨_,E,λi x v h1 h2 h3=>?_⟩,λx c hx=>?_,hH3C,λx c hx=>I3.freeC x c (p1 x c hx),λp hp=>?_,I3.hok.kept old,hlen0⟩
  ·obtain⟨j,hj,hv⟩:=BB h2;obtain⟨hN,hfr⟩:=S.pick i x j h1 hj;obtain⟨m,_,hl⟩:=I3.loc;have hm:=Wt hfr;have M:=S.frees _ hm rfl;obtain⟨u,ru,lk⟩:=hl j x v hN hv (.inr<|.inl M);refine⟨u,ru,.inr ⟨.inl (AR S.okind hfr M),?_⟩⟩;obtain⟨c,hc⟩:=p3 _ hm rfl;rcases lk with⟨hk,_⟩|⟨_,c',hc',hcl'⟩
   ·have hk':X.env.scope.names.lookup x=some .local:=hk;rw[M]at hk';cases hk'
   ·have e:=p1 _ _ hc;rw[hc']at e;cases e
    obtain⟨o,ho,hd⟩:=hcl';exact⟨_,hc,o,old _ o ho,hd⟩
  ·obtain⟨v,hv⟩:=I3.cell x c (p1 x c hx);obtain⟨o,ho,hd⟩:=hv;exact⟨v,o,old _ o ho,hd⟩
  ·exact absurd hp (by simp[J7])
 have st4:=T.keep _ _ _ st3' λb _ o e=>old b o e
 have stat:∀{H':Hp},(∀b∈L,H' b=none)->∀b∈L,J1 (J7 X N' G U C l H3 L) [] H' b:=λhn b f=>
  ⟨hn b f,(OK.exf b f).1,OK.exfs b f,.inl f,(OK.exf b f).2,λp hp=>absurd hp (by simp[J7])⟩
 obtain⟨hPG,hPI,hPE⟩:=hin U C l H3 L
 have loop:codeAny (model X.prog X.w) X.A (.compLoop (.ListComp elt [⟨tg,iter,ifs,0⟩] G pos) 0 (.ref it) (.ref D)<|compEnvC G U C X.env) (compPost (model X.prog X.w) X.A X.xe use QQ (.ref D) C) {l with heap:=h₁,toks:=l.toks+([]:List (Str×Value)).length}:=by
  refine Hr (λn s'=>∃i ys σ' H',Inv (J7 X N' G U C l H3 L) [] σ' H' s'/\Sub (atStart φ σ) σ'/\tn i s'.heap/\(∀b∈L,H' b=none)/\W i n ys H') ?_ m0 ⟨0,[],_,_,I4,Sub.refl,st4,λb f=>(f3 b f).1,w0⟩;rintro n s5 ⟨i,ys,σ5,H5,I5,sub5,st5,fr5,w5⟩;have I5':=Own.Inv.weak I5 sub5;rcases turn i n ys H5 w5 with⟨stop,qn⟩|⟨go,step⟩
  ·refine thn (T.done (J7 X N' G U C l H3 L) rfl rfl rfl hcalm i [] s5 _ H5 _ I5' (stat fr5) st5 stop) ?_;rintro r s6 ⟨hr,I6⟩;subst hr;obtain⟨m,hn,_⟩:=I6.loc;obtain⟨hh,gg,dd,tt,oo⟩:=s6;obtain rfl:=I6.os;have R:Inv X pins σ H5 {l with heap:=hh,gens:=gg,drawn:=dd,toks:=tt}:=I3.call I6.base I6.hok I6.bare λb f=>⟨(f3 b f).2.2.2.1,(f3 b f).2.1,(f3 b f).2.2.2.2.1,(f3 b f).2.2.2.2.2⟩
   have hC3:=WV eC;obtain⟨q0,q1,q2,q3,q4,q5⟩:=I3.fpOk hC3 hH3C;refine fin D C H5 _ qn R ⟨m,hn⟩ I6.free q1 (Y8 I3.sz hC3) q4 q5 q2
  ·refine thn (T.item (J7 X N' G U C l H3 L) rfl rfl rfl hcalm i [] s5 _ H5 _ I5' (stat fr5) st5 go) ?_;rintro r s6 ⟨u,hr,h6⟩;subst hr;refine thn h6 ?_;rintro _ s7 ⟨x,H7,I7,r7,y7,st7,fr7⟩;have I7':=I7.pinned (stat fr7) (T.obj _ _ st7);refine thn (hPG _ s7 _ H7 x u _ I7' r7<|step x H7 y7) ?_;rintro _ s8 ⟨σ8,H8,I8,sub8,q8⟩;refine thn (hPI _ s8 σ8 H8 _ I8 q8) ?_;rintro ok s9 ⟨H9,I9,q9⟩
   have again:∀{Y:Shared} {N:Hp} {ys':List V} {m':Nat},Inv (J7 X N' G U C l H3 L) ([]++P8 L s7.heap) σ8 N Y->W (i+1) m' ys' N->∃i ys σ' H',Inv (J7 X N' G U C l H3 L) [] σ' H' Y/\Sub (atStart φ σ) σ'/\tn i Y.heap/\(∀b∈L,H' b=none)/\W i m' ys H':=λ{Y N ys' m'} J10 w10=>by
    refine⟨i+1,ys',σ8,N,J10.unpinned,sub8,T.keep _ _ _ st7 λb f o e=>(J10.pin (b,o)<|YI _<|YI _<|PV f e).1,λb f=>?_,w10⟩;obtain⟨o,e,d⟩:=T.obj _ _ st7 b f;exact(J10.pin (b,o)<|YI _<|YI _<|PV f e).2.1
   cases ok with
   |false=>
    obtain⟨m',hm,w'⟩:=q9;exact⟨m',hm,again I9 w'⟩
   |true=>
    refine thn (hPE _ s9 σ8 H9 _ I9 q9) ?_;rintro xv Y ⟨y,N,I10,r10,hD,hl,m',hm,w'⟩;refine thn (Nc _ Y σ8 N (.ref D) [y] (.ref D) [xv] (λ_ H11=>H11=upd N D (.lst (ys++[y]))) I10 rfl (.cons r10 .nil) ⟨D,ys,y,rfl,rfl,hD,hl,rfl⟩) ?_;rintro _ s11 ⟨_,H11,I11,_,e11⟩;subst e11;exact⟨m',hm,again I11 w'⟩
 refine codeAny_compStart_list loop (T.self _ 0 _ _ _ st4 loop)
def SU{n iter r l pos w g tc te}(j:X.calm=true)(S:K8 X N' φ p)(E:PI X r iter w)(u:∀v C f i ex,PG (J7 X N' p v C f i ex) r g/\XN (J7 X N' p v C f i ex) l tc/\PE (J7 X N' p v C f i ex) n te)(z:autoParam (∀x,foldedSetIterable iter X.env x=pure x) au_3):PE X (.ListComp n [⟨r,iter,l,0⟩] p pos) (KY φ w g tc te):=by
 intro pins s Y H Q I h;refine Dx j S E u z I h λD C U s6 q R B T N M L J c5=>?_;obtain⟨m,A⟩:=B;exact⟨m,A,λh' y=>⟨.ref D,U,R.turned (λb o G e=>y.extBut b o G e) T N (.inr M) L J,rfl,q⟩⟩
def Lc{r iter w l pos spos py L g tc te i y}(hN:X.N.Nodup)(hy:X.N[i]?=some y)(M:X.env.scope.names.lookup y=some .local)(n:X.calm=true)(S:K8 X N' φ u)(hi:PI X w iter L)(E:∀J C f j ex,PG (J7 X N' u J C f j ex) w g/\XN (J7 X N' u J C f j ex) l tc/\PE (J7 X N' u J C f j ex) r te)(hs:autoParam (∀x,foldedSetIterable iter X.env x=pure x) au_3)(B:autoParam (swapsWith (.ListComp r [⟨w,iter,l,0⟩] u pos) (some<|.Name y py) spos.line X.env=pure true) au_0) :
  PS X (.Assign [.Name y py] (.ListComp r [⟨w,iter,l,0⟩] u pos) spos) (KD (KY φ L g tc te)<|Xw i):=by
 intro pins s U H D0 I h;rw[exec_Assign_Name_used _ _ _ _ B];refine Yw (wpAny_standAt<|Yw ?_);refine Yw (Wl (Dx n S hi E hs I h λD C T s6 q R hm c0 c1 c2 c3 c4 c5=>?_) (λ_ s' z=>Yz (Yz z)) λ_ _ e=>e);obtain⟨m,A,es,ep,hoC,G,rC⟩:=hm
 have R2:Inv X (pins++[(C,A)]) U T s6:=R.pins_of λp hp=>(Wc.mp hp).elim (λz=>R.pin p (YI _ z)) λz=>by
  grind
 refine wpAny_assign_Name (XM R2 hN hy (.inl M) (v:=.ref D) rfl (λs7 Q=>?_)<|.inr M);refine⟨m,⟨A,es,ep,((Q.pin (C,A)<|YI _<|YI _<|Y3.mpr rfl).1),G,rC⟩,λh' Y=>?_⟩;exact⟨_,T,Q.unpinned.turned (λb o hb e=>Y.extBut b o hb e) c0 c1 (.inr c2) c3 c4,q⟩
noncomputable def KN(sc b:Scope)(N N':Z2)(φ:Zz):Bool:=
 sc.kind == .function&&b.kind == .function&&(sc.names.all λy=>y.2 != .cell&&(y.2 != .local || sc.names.lookup y.1==some .local)&&(y.2 != .free || b.names.lookup y.1==some .cell)) &&
  φ.length==N'.length&&((N'.zip φ).all λp=>match p.2 with|none=>true|some j=>N[j]? == some p.1&&sc.names.lookup p.1==some .free)
def K8.of {N'}{φ f} (h:KN f X.env.scope X.N N' φ=true):K8 X N' φ f:=by
 unfold KN at h;simp only[YU,beq_iff_eq,WS,Bool.or_eq_true,bne_iff_ne,ne_eq]at h;obtain⟨⟨⟨⟨s,r⟩,q⟩,p⟩,o⟩:=h;refine⟨s,r,λy b=>(q y b).1.1,λy b u=>?_,λy b v=>?_,p,λi x j n l=>?_⟩
 ·grind
 ·grind
 ·have g:(N'.zip φ)[i]?=some (x,some j):=by rw[List.getElem?_zip_eq_some];exact⟨n,l⟩
  have:=o _ (Wj g)
  grind
end Own
namespace SetR
open PySem PySem.Spec PyProof.Rows L2
def Ris(xs:Array Nat):Prop:=∀i j,i<j->j<xs.size->xs.getD i 0<xs.getD j 0
def EY{xs:Array Nat}{i a b}(h:i<xs.size):xs.getD i a=xs.getD i b:=by grind
def IJ(R:Ris xs)(j:Nat):∀fuel lo f,f-lo<=fuel->lo<=f->f<=xs.size->(∀k,k<lo->xs.getD k 0<j)->(∀k,f<=k->k<xs.size->j<=xs.getD k 0)->
  let r:=SetTable.below.go xs j fuel lo f
  r<=xs.size/\(∀k,k<r->xs.getD k 0<j)/\∀k,r<=k->k<xs.size->j<=xs.getD k 0:=by
 intro fuel
 induction fuel with
 |zero=>
  intro lo f v u l i h;have e:lo=f:=by lia
  subst e;exact⟨l,i,h⟩
 |succ fuel p=>
  intro lo f v u l i h;show(let r:=(if lo<f then(if xs.getD ((lo+f) / 2) j<j then SetTable.below.go xs j fuel ((lo+f) / 2+1) f else SetTable.below.go xs j fuel lo ((lo+f) / 2))else lo);r<=xs.size/\(∀k,k<r->xs.getD k 0<j)/\∀k,r<=k->k<xs.size->j<=xs.getD k 0);by_cases q:lo<f
  ·rw[Y5 q];have n:(lo+f) / 2<xs.size:=by lia
   by_cases g:xs.getD ((lo+f) / 2) j<j
   ·rw[Y5 g];refine p _ _ (by lia) (by lia) l (λk s=>?_) h;rw[EY n]at g;by_cases e:k=(lo+f) / 2
    ·rw[e];exact g
    ·exact Qt (R k _ (by lia) n) g
   ·rw[Y4 g];refine p _ _ (by lia) (by lia) (by lia) i (λk s o=>?_);rw[EY (b:=0) n]at g;by_cases e:k=(lo+f) / 2
    ·rw[e];lia
    ·have:=R _ k (show(lo+f) / 2<k by lia) o
     lia
  ·rw[Y4 q];have e:lo=f:=by lia
   subst e;exact⟨l,i,h⟩
def De(R:Ris xs)(j:Nat):SetTable.below xs j<=xs.size/\(∀k,k<SetTable.below xs j->xs.getD k 0<j)/\∀k,SetTable.below xs j<=k->k<xs.size->j<=xs.getD k 0:=
 IJ R j xs.size 0 xs.size (by simp) (by simp) (by simp) (λk b=>by lia) (λk g f=>by lia)
def OV(R:Ris xs){i}(f:i<=xs.size){slot}(j:∀k,k<i->xs.getD k 0<slot)(g:∀k,i<=k->k<xs.size->slot<=xs.getD k 0):SetTable.below xs slot=i:=by
 obtain⟨a,b,c⟩:=De R slot;rcases Nat.lt_trichotomy (SetTable.below xs slot) i with h|h|h
 ·grind
 ·lia
 ·grind
def Rise(xs:Array Nat):Prop:=xs.toList.Pairwise (· < ·)
def Rise.ris (h:Rise xs):Ris xs:=by
 intro i j b f;have g:i<xs.size:=by lia
 have:=(Qg.mp h) i j (by omega) (by omega) b
 simp_all
def Zch(h:Rise xs)(s:xs[SetTable.below xs j]?≠some j):Rise (SetTable.insertAt xs (SetTable.below xs j) j):=by
 obtain⟨a,b,c⟩:=De h.ris j;generalize SetTable.below xs j=p at *;unfold Rise;rw[SetTable.toList_insertAt];refine Vo.mpr ⟨h.sublist (QM _ _),WW.mpr ⟨λy g=>?_,h.sublist (List.drop_sublist _ _)⟩,λx hx y g=>?_⟩
 ·obtain⟨k,i,e⟩:=List.mem_drop_iff_getElem.mp g
  have f:p+k<xs.size:=by
   simp only[We]at i;lia
  have v:=c (p+k) (by lia) f;have r:xs.getD (p+k) 0=y:=by simpa [Array.getD,f]using e
  rcases Nat.lt_or_ge j y with q|q
  ·exact q
  ·have ey:y=j:=by lia
   exfalso;rcases Nat.eq_zero_or_pos k with rfl|u
   ·apply s;rw[W6 (by lia)]
    have:xs[p]=y:=by simpa using e
    rw[this,ey]
   ·have z:=h.ris p (p+k) (by lia) f;have w:=c p (Y1 _) (by lia);lia
 ·have l:x<j:=by
   obtain⟨k,i,e⟩:=List.mem_take_iff_getElem.mp hx;have o:k<p:=by lia
   have n:k<xs.size:=by lia
   have:=b k o
   have r:xs.getD k 0=x:=by simpa [Array.getD,n]using e
   lia
  rcases YA.mp g with rfl|g
  ·exact l
  ·obtain⟨k,i,e⟩:=List.mem_drop_iff_getElem.mp g
   have f:p+k<xs.size:=by
    simp only[We]at i;lia
   have v:=c (p+k) (by lia) f;have r:xs.getD (p+k) 0=y:=by simpa [Array.getD,f]using e
   lia
structure Tb (b:Bool) (t:SetTable):Prop where
 led:t.led=b
 dum:t.dummies=#[]
 ris:Rise t.place
def CH(j:Nat):SetTable.has #[] j=false:=rfl
def Tb.fresh (b:Bool):Tb b (.fresh 0 0 b):=⟨rfl,rfl,List.Pairwise.nil⟩
def RR(n:Nat):Rise (Array.range n):=by
 unfold Rise;rw[Array.toList_range];exact List.pairwise_lt_range
def Tb.stand (h:Tb b t) (n:Nat):Tb b (t.standIn n):=⟨h.led,rfl,RR n⟩
def Tb.orStand (h:Tb b t) (n:Nat):Tb b (t.orStandIn n):=by
 unfold SetTable.orStandIn;split
 ·lia
 ·exact h.stand n
def Tb.plainOff (h:Tb b t):Tb b {t with plain:=false}:=⟨h.led,h.dum,h.ris⟩
def Tb.put (h:Tb b t) {j} (f:t.place[SetTable.below t.place j]?≠some j):Tb b (t.put j).1:=by
 refine⟨h.led,?_,Zch h.ris f⟩;show(if SetTable.has t.dummies j=true then _ else t.dummies)=#[];rw[h.dum,CH];rfl
def Zcn(h:Tb b t)(f:Nat->Int)(z:Int):∀fuel p j d,p.dummy=none->SetTable.probe.go t f z fuel p=some (.empty j d)->d=none/\t.place[SetTable.below t.place j]?≠some j:=by
 intro fuel
 induction fuel with
 |zero=>intro p j d _ e;cases e
 |succ fuel n=>
  intro p j d o e;unfold SetTable.probe.go at e
  have l:∀q,q.dummy=none->(t.advance q).dummy=none:=λq hq=>by
   unfold SetTable.advance;split
   ·exact hq
   ·exact hq
  cases g:t.slot p.j with
  |empty=>
   rw[g]at e;unfold SetTable.slot at g
   grind
  |dummy=>
   unfold SetTable.slot at g
   dsimp only at g
   split at g
   ·cases g
   ·rw[h.dum,CH]at g;simp at g
  |live i=>
   rw[g]at e
   dsimp only at e
   split at e
   ·cases e
   ·exact n _ j d (l p o) e
def Tb.layNew (h:Tb b t) (es:Z9) (z:Int) (x:Value):Tb b (PySem.layNew t es z x).2.1:=by
 unfold PySem.layNew;split
 ·rename_i slot wasDummy e
  have f:t.place[SetTable.below t.place slot]?≠some slot:=by
   unfold SetTable.freeSlot SetTable.probe at e;split at e
   ·rename_i j dummy g;obtain⟨l,i⟩:=Zcn h _ _ _ _ _ _ rfl g
    grind
   ·grind
  exact(h.put f).orStand _
 ·exact h.stand _
def Zdj(n:Nat)(f:Nat->Option Nat):((List.range n).filterMap λj=>(f j).map (j,·)).Pairwise (λa b=>a.1<b.1):=by
 refine List.Pairwise.filterMap _ ?_ List.pairwise_lt_range;intro a i h b l p g;cases e:f a with
 |none=>grind
 |some v=>
  cases o:f i with
  |_=>grind
def Tb.relayAll (h:Tb b t) (es:Z9) (n:Nat):Tb b (PySem.relayAll t es n).2.1:=by
 unfold PySem.relayAll;split
 ·rename_i i order e
  dsimp only
  split
  ·unfold SetTable.relaid SetTable.laid at e;cases f:SetTable.layClean (SetTable.sizeAbove n-1) (es.map (·.1))with
   |none=>grind
   |some owner=>
    rw[f]at e;have g:=Wz Prod.fst (YC e);subst g;refine⟨h.led,rfl,?_⟩;show(List.map (λx=>x.fst) ((List.range (SetTable.sizeAbove n-1+1)).filterMap λj=>(owner.getD j none).map (j,·))).toArray.toList.Pairwise (· < ·);rw[List.toList_toArray,V5];exact Zdj _ _
  ·exact h.stand _
 ·exact h.stand _
noncomputable def keyOf(e:Int×Value):Int:=match e.2 with
 | .int k _=>k
 |_=>0
def Ent(e:Int×Value):Prop:=∃(k:Int) (t:Tok),e=(hashInt k,.int k t)
section
variable (prog:Program) (w:World)
noncomputable def Us(w:World):Bool:=w.params.followText "set-order"
structure JD (h:Heap) (a:Addr) (js:Zv) (es:Z9) (ep:Nat) (t:SetTable):Prop where
 obj:∃o,h.get? a=some o/\o.ExactSet/\o.data=.set es ep t
 ent:∀e∈es.toList,Ent e
 per:(es.toList.map keyOf).Perm js
 nod:js.Nodup
 few:es.size<scanBound
 fit:t.fits es.size=true
 tab:Tb (!Us w) t
def SetB(h:Heap)(a:Addr)(b:Zv):Prop:=∃f g t,JD w h a b f g t
end
section
variable {prog:Program}{w:World}{A:Around}{E:Zy}{s:Shared}
def Ent.elems (h:∀e∈l,Ent e):ElemsOf (intKind prog w) l:=λe b=>by
 obtain⟨k,t,rfl⟩:=h e b;exact⟨⟨k,intKind_is _ _ _ _,rfl⟩,rfl⟩
def Em(h:Ent e)(k:Int):(intKind prog w).is k e.2=decide (k=keyOf e):=by
 obtain⟨b,t,rfl⟩:=h;show Value.isInt k (.int b t)=decide (k=b);by_cases e:k=b
 ·subst e;simp[Value.isInt]
 ·rw[Wr e];simp[Value.isInt];lia
def SetB.len (S:JD w h a b es f t):es.size=b.length:=by
 have:=S.per.length_eq
 grind
def SetB.at {a i} (S:SetB w h a i) (k:∀o,h.get? a=some o->h'.get? a=some o):SetB w h' a i:=by
 obtain⟨l,n,t,⟨o,j,r⟩,b,c,d,e,f,g⟩:=S;exact⟨l,n,t,⟨o,k o j,r⟩,b,c,d,e,f,g⟩
def JD.store {es b}{g t t'} (S:JD w h a x es g t) (v:∀e∈b.toList,Ent e) (u:(b.toList.map keyOf).Perm f) (r:f.Nodup) (p:b.size<scanBound)
  (n:t'.fits b.size=true) (l:Tb (!Us w) t'):JD w (h.update a<|Obj.putSet b t') a f b (g+1) t':=by
 obtain⟨o,j,hx,i⟩:=S.obj;refine⟨⟨{o with data:=.set b (g+1) t'},?_,hx,rfl⟩,v,u,r,p,n,l⟩
 have q:=Wu (Obj.putSet b t') j (by rw[putSet_of b t' i];rfl);rwa[putSet_of b t' i]at q
def Ay{g:Bool->Sem Unit}(N:∀b u G,G () u->wpAny (model prog w) A (g b) G E u){a J h}{es f}{Y t t'}(S:JD w s.heap a J es Y t)(C:∀e∈f.toList,Ent e)(B:(f.toList.map keyOf).Perm h)(x:h.Nodup)(n:f.size<scanBound)(U:t'.fits f.size=true)(v:Tb (!Us w) t'){d R}(fin:∀h',Heap.SameBut a s.heap h'->SetB w h' a h->R (some true) {s with heap:=h'}) :
  wpAny (model prog w) A (do
    storeSet a f t'
    if (!d&&t'.tooFull)=true then do
      g (relayAll t' f<|SetTable.grown f.size).2.2
      storeSet a (relayAll t' f<|SetTable.grown f.size).1 (relayAll t' f<|SetTable.grown f.size).2.1
      pure (some true)
     else pure (some true)) R E s:=by
 obtain⟨o,M,hx,T⟩:=S.obj;have r:=S.store C B x n U v;obtain⟨o1,j,L,l⟩:=r.obj;have H:=Wf s.heap a (Obj.putSet f t');refine Yw (wpAny_storeSet_of M T ?_<|QO n);split
 ·have i:=relayAll_perm t' f (SetTable.grown f.size);have p:=relayAll_fits t' f (SetTable.grown f.size);have tt:=v.relayAll f (SetTable.grown f.size);generalize relayAll t' f (SetTable.grown f.size)=y at i p tt ⊢;obtain⟨q,t2,g2⟩:=y
  dsimp only at i p tt ⊢
  have z:q.size=f.size:=by rw[←We,i.length_eq,We]
  refine Yw (N _ _ _<|Yw<|wpAny_storeSet_of j l ?_<|QO<|by lia);exact Yz (fin _ (H.trans<|Wf _ a _) ⟨_,_,_,r.store (λe Q=>C e (i.mem_iff.mp Q)) ((i.map keyOf).trans B) x (by rw[z];exact n) p tt⟩)
 ·exact Yz (fin _ H ⟨_,_,_,r⟩)
noncomputable def JE(b:Zv)(k:Int):Zv:=if k∈b then b else b++[k]
def Oc{R}(S:SetB w s.heap a i)(room:i.length+1<scanBound)(fin:∀r h',Heap.SameBut a s.heap h'->SetB w h' a (JE i k)->R r {s with heap:=h'}) :
  wpAny (model prog w) A (setAddHashed a (.int k n)<|hashInt k) R E s:=by
 obtain⟨h,ep,t,S⟩:=S;obtain⟨o,Q,hx,Y⟩:=S.obj;have el:=Ent.elems (prog:=prog) (w:=w) S.ent;have J:=SetB.len S;refine W8 (Yw<|Qd Q Y S.fit ?_)
 dsimp only
 rw[byScan_of rfl S.few el];simp only[↓reduceIte];unfold setAddByScan;refine Yw (Yw<|Qf<|Yw<|wpAny_setScan_of (intKind_is _ _ _ _) Q Y S.fit el ?_);have C:∀z,z∈i↔∃e∈h.toList,keyOf e=z:=λz=>by rw[←S.per.mem_iff,YO]
 cases q:List.findIdx? (λe=>(intKind prog w).is k e.2) h.toList with
 |some j=>
  dsimp only
  obtain⟨U,N,_⟩:=List.findIdx?_eq_some_iff_getElem.mp q
  have H:k∈i:=by
   rw[Em (S.ent _<|YD U)]at N;exact(C k).mpr ⟨_,YD U,(YR N).symm⟩
  refine Yz (Yz ?_);have f:=fin false s.heap (Heap.SameBut.refl a s.heap);unfold JE at f;rw[Y5 H]at f;exact f ⟨_,_,_,S⟩
 |none=>
  dsimp only
  have H:¬k∈i:=λJ=>by
   obtain⟨e,he,L⟩:=(C k).mp J
   have:=List.findIdx?_eq_none_iff.mp q e he
   rw[Em (S.ent e he),YG L.symm]at this;cases this
  have P:=layNew_perm t h (hashInt k) (.int k n);have F:=layNew_fits t h (hashInt k) (.int k n);have T:=S.tab.layNew h (hashInt k) (.int k n);change wpAny (model prog w) A (match layNew t h (hashInt k) (.int k n)with|(h,t,wasDummy,gave)=>_) _ _ _
  generalize layNew t h (hashInt k) (.int k n)=y at P F T ⊢;obtain⟨l,t1,d1,g1⟩:=y
  dsimp only at P F T ⊢
  rw[Array.toList_push]at P
  have e1:∀e∈l.toList,Ent e:=λe he=>by
   rcases Wc.mp (P.mem_iff.mp he)with he|he
   ·exact S.ent e he
   ·rw[Y3.mp he];exact⟨k,n,rfl⟩
  have e2:(l.toList.map keyOf).Perm (i++[k]):=by
   refine(P.map keyOf).trans ?_;rw[YQ];exact S.per.append_right _
  have e3:(i++[k]).Nodup:=W3.mpr ⟨S.nod,by simp,λx hx y hy=>by rw[Y3.mp hy];rintro rfl;exact H hx⟩
  have e4:l.size<scanBound:=by
   rwa[←We,P.length_eq,YK,We,J]
  have g:=λh' u B=>by
   have f:=fin true h' u;unfold JE at f;rw[Y4 H]at f;exact f B
  have M:∀b {v:Shared} {G:Unit->Shared->Prop},G () v->wpAny (model prog w) A (match b with|true=>rule "set.scan.the-table-gave-way" |false=>pure ()) G E v:=λb v G p=>by cases b<;>first|exact Yz p|exact Qf p
  refine Yw (M _ ?_);split
  ·refine Yw ?_;rw[hashByValue_scannable 8 rfl];refine Yz (Ay (λb v G p=>M b p) S e1 e2 e3 e4 ?_ ?_ λh' u B=>Yz (g h' u B))
   ·split
    ·exact F
    ·exact SetTable.fits_plain_off F
   ·split
    ·exact T
    ·exact T.plainOff
  ·refine Yw (Yz ?_);simp only[↓reduceIte];exact Ay (λb v G p=>M b p) S e1 e2 e3 e4 F T λh' u B=>Yz (g h' u B)
def Zcj{I x p P St}{ns:Zv}(W:Walks prog w A.in1 I x p ns.length P St)(S:Addr)(u:S∉x)(G:∀i v,P i v->∃t,v=.int (ns.getD i 0) t)(room:ns.length+1<scanBound):∀k i s h,ns.length-i=k->i<=ns.length->St i s.heap->SetB w s.heap S h->h.length<=i->
   (∀h' j,(∀b o,b∉S::p->s.heap.get? b=some o->h'.get? b=some o)->SetB w h' S ((ns.drop i).foldl JE h)->R (.ok<|.ret .none) {s with heap:=h',toks:=j})->
   codeAny (model prog w) A (.builtin "set.update.loop" ⟨[.ref S,.ref I],[]⟩) R s:=by
 have l:=λz=>u (W.sub _ z);intro k
 induction k with
 |zero=>
  intro i s h H L st B J fin;have ei:i=ns.length:=by lia
  refine Qn QA ?_;show wpAny _ A.in1 (pyNext (.ref I) >>= _) _ _ s;refine Yw (W.done s _ _ (ei▸st) λh' j keep=>?_);show wpAny _ A.in1 (ret Value.none) _ _ _;refine Yz (fin h' j (λb o g e=>keep b o (λz=>g (YT _ z)) e) ?_);rw[ei,List.drop_length];exact B.at λo e=>keep S o l e
 |succ k C=>
  intro i s h H L st B J fin;have f:i<ns.length:=by lia
  refine Qn QA ?_;rw[Qx QB _];show wpAny _ A.in1 (pyNext (.ref I) >>= _) _ _ s;refine Yw (W.item i s _ _ f st λv M y pv n keep1=>?_);obtain⟨t,rfl⟩:=G i v pv;have U:=B.at λo e=>keep1 S o l e;unfold setAdd;refine Yw (W8<|W8<|Yw ((intKind prog w).pyHash (intKind_is _ _ _ _) ?_));refine Oc U (by lia) λr Y q T=>?_
  have N:(JE h<|ns.getD i 0).length<=i+1:=by
   unfold JE;split
   ·lia
   ·simp;lia
  refine Yz ⟨plainId_quiet QB _,C (i+1) _ _ (by lia) f (W.frame _ M _ n λb g o e=>?_) T N λh' j keep B'=>?_⟩
  ·rw[q.2 b (λz=>u (by rw[←z];exact g))];exact e
  ·refine fin h' j (λb o g e=>keep b o g ?_) ?_
   ·rw[q.2 b (λz=>g (by rw[z];exact Wb))];exact keep1 b o (λz=>g (YT _ z)) e
   ·have Q:ns.drop i=ns.getD i 0::ns.drop (i+1):=by
     rw[WG f,Y2,Yx f];rfl
    rwa[Q]
def HX(a:Value){Q}(fin:Q (.ref s.heap.objs.size) {s with heap:=s.heap.push {cls:=.type "set",dict:=none,data:=.set #[] 0 (.fresh 0 0 (!Us w))}}) :
  codeAny (model prog w) A (.call (.builtin "set.__new__") ⟨[.type "set",a],[]⟩) (wants Q E) s:=by
 refine codeAny_of_tree (?_);refine Yw (wpAny_of_eq (F.newCall_set_1 a)<|Yz ⟨plainId_quiet F.plain_set_new _,Qn F.entry_set_new ?_⟩);rw[(Qx (A:=A) F.plain_set_new ⟨[.type "set",a],[]⟩)];unfold Builtin.«set.__new__» Builtin.Frozenset.newClass;have b:=sub_set_self
 dsimp only
 wp_walk
 refine wpAny_askSetting (Yz<|?_)
 dsimp only
 simp only[newObj];exact Yw (wpAny_alloc<|Yz<|Yz fin)
set_option maxHeartbeats 4000000 in
def Ie{l:Addr}{f:Z7}{ns:Zv}{Q:Zy}(hh:A.handled=none)(hl:s.heap.IsList l f)(U:IntsAre f.toList ns)(room:ns.length+1<scanBound)(fin:∀(h':Heap) (n:Nat),SetB w h' s.heap.objs.size (ns.foldl JE [])->(∀b o,b<s.heap.objs.size->s.heap.get? b=some o->h'.get? b=some o)->Q (.ref s.heap.objs.size) {s with heap:=h',toks:=n}) :
  wpAny (model prog w) A (call (.type "set") [.ref l]) Q E s:=by
 have hn:f.size=ns.length:=by have:=IntsAre.length U;simpa using this
 obtain⟨mroC,mroT,mro⟩:=F.called_set.mro;have made:=F.called_set.made;have subs:=F.called_set.sub;refine wpAny_call (codeAny_of_tree<|show wpAny _ _ (callAny (.type "set") _) _ _ _ from ?_)
 refine Yz ⟨Code.quiet_builtin _ (by decide +kernel),Qn F.entry_type_call ?_⟩;have wt:=Around.under_plain (A:=A) (weight_type_call_type "set" [.ref l] []) rfl;rw[wt];have nt:=F.called_set.notType;have cc:=F.called_set.canCreate;have tc:=F.typeCall_set_1 (.ref l)
 repeat (any_goals (first|assumption|wp_step))
 refine Q6 (HX (.ref l) (E:=E) (Q:=λobj N=>obj=.ref s.heap.objs.size/\N={s with heap:=s.heap.push {cls:=.type "set",dict:=none,data:=.set #[] 0 (.fresh 0 0 (!Us w))}}) ⟨rfl,rfl⟩) λr N q=>?_
 cases r with
 |error e=>exact q
 |ok fl=>
  cases fl with
  |next=>exact q.elim
  |brk=>exact q.elim
  |cont=>exact q.elim
  |ret obj=>
   obtain⟨rfl,rfl⟩:=q;generalize C:s.heap.push {cls:=.type "set",dict:=none,data:=.set #[] 0 (.fresh 0 0 (!Us w))}=h;have g1:h.get? s.heap.objs.size=some {cls:=.type "set",dict:=none,data:=.set #[] 0 (.fresh 0 0 (!Us w))}:=by rw[←C];exact Y7 _ rfl
   have hT:Shared.TypeIs {s with heap:=h} (.ref s.heap.objs.size) "set":=⟨_,g1,rfl⟩
   have ini:=F.called_set.init.lookup;have inb:=F.called_set.init.bind (.ref s.heap.objs.size)
   repeat (any_goals (first|assumption|wp_step))
   refine Q6 (codeAny_call_builtin (R:=wants (λr M=>r=.none/\∃h' n,M={s with heap:=h',toks:=n}/\SetB w h' s.heap.objs.size (ns.foldl JE [])/\(∀b o,b<s.heap.objs.size->s.heap.get? b=some o->h'.get? b=some o)) E)
    F.called_set.init.plain F.entry_set_init (check_set_init_1 hT ?_)) λr2 M g=>?_
   ·obtain⟨ob,x,z,T,y⟩:=hl;obtain⟨c1,d1,dt1,G⟩:=ob;simp only at z y;subst z;subst y;have u:h.get? l=some {cls:=.type "list",dict:=d1,data:=.seq f T,slots:=G}:=by rw[←C];exact Y0 _ x
    have j:h.objs.size=s.heap.objs.size+1:=by rw[←C,Heap.size_push]
    have no1:=F.sub_list_set;have no2:=F.sub_list_frozenset;have no3:(Value.type "list" == Value.type "dict")=false:=by decide
    have L1:h.IsList l f:=⟨_,u,rfl,T,rfl⟩;unfold Builtin.«set.__init__» noKeywords Builtin.Frozenset.updateFrom;generalize eP:pyIter=PI
    wp_walk
    subst eP;refine wpAny_pyIter_list L1 (Yw<|wpAny_runValue ?_);have p:l<s.heap.objs.size:=Y6 x;have L:A.in1.in1.in1.handled=none:=by simp[hh]
    have J:l≠h.objs.size:=by rw[j];exact YJ (QP p)
    have H:s.heap.objs.size∉[h.objs.size,l]:=by
     rw[j];simp only[YA,Ve,or_false,not_or];exact⟨YJ (Nat.lt_succ_self _),Vk p⟩
    have W0:=Walks.list (prog:=prog) (w:=w) L h.objs.size l J f;rw[hn]at W0;refine Zcj (ns:=ns) W0 s.heap.objs.size H (λi v hv=>IntsAre.int_at U i v (by rw[Wo];exact hv)) room (ns.length-0) 0 _ [] rfl (Wp _) ⟨⟨_,Y7 _ rfl,rfl,rfl⟩,L1.push _⟩ ?_ (Wp _) λh' n keep B=>?_
    ·exact⟨#[],0,_,⟨_,Y0 _ g1,⟨rfl,rfl,rfl⟩,rfl⟩,λe he=>by simp at he,by simp,Qi,by show(0:Nat)<4096;decide,rfl,Tb.fresh _⟩
    ·show wpAny _ _ _ _ _ _;refine Yz (show wpAny _ _ (ret Value.none) _ _ _ from Yz ⟨rfl,h',n,rfl,B,λb o Y e=>?_⟩)
     refine keep b o ?_ (Y0 _<|by rw[←C];exact Y0 _ e);rw[j];simp only[YA,Ve,or_false,not_or];exact⟨YJ Y,YJ (QP Y)⟩
   ·cases r2 with
    |error e=>exact g
    |ok f2=>
     cases f2 with
     |next=>exact g.elim
     |brk=>exact g.elim
     |cont=>exact g.elim
     |ret r=>
      obtain⟨rfl,h',n,rfl,B,keep⟩:=g
      repeat (any_goals (first|assumption|wp_step))
      exact fin _ _ B keep
end
def si_slot:Slot "set_iterator" "__next__" "set_iterator.__next__":=
 Slot.of (owner:="set_iterator") (n:="__next__") (by rw[typeLookup_type,builtinLookup_eq_fast];kernel_rfl) (by decide +kernel) (by decide +kernel) (by decide +kernel)
  (by first|exact Or.inl (by decide +kernel)|exact Or.inr (by decide +kernel)) (by rw[isSubtype_type];kernel_rfl)
def Rg:entryFor table "set_iterator.__next__"=some Builtin.«set_iterator.__next__»:=entryFor_of_tree rfl
def MJ(a:Value):argsOk "set_iterator.__next__" ⟨[a],[]⟩:=by trivial
def IR:entryFor table "set.__iter__"=some Builtin.«frozenset.__iter__»:=entryFor_alias (id':="frozenset.__iter__") (by kernel_rfl) rfl (by decide +kernel) (by kernel_rfl)
def Cv:Slot "set_iterator" "__iter__" "set_iterator.__iter__":=
 Slot.of (owner:="set_iterator") (n:="__iter__") (by rw[typeLookup_type,builtinLookup_eq_fast];kernel_rfl) (by decide +kernel) (by decide +kernel) (by decide +kernel)
  (by first|exact Or.inl (by decide +kernel)|exact Or.inr (by decide +kernel)) (by rw[isSubtype_type];kernel_rfl)
def Lg:entryFor table "set_iterator.__iter__"=some Builtin.«dict_keyiterator.__iter__»:=entryFor_alias (id':="dict_keyiterator.__iter__") (by kernel_rfl) rfl (by decide +kernel) (by kernel_rfl)
def Zb2(a:Value):argsOk "set_iterator.__iter__" ⟨[a],[]⟩:=by unfold argsOk;kernel_rfl
def SI(h:Heap)(I a:Addr)(first:Value)(i n b:Nat):Prop:=∃o,h.get? I=some o/\o.cls=.type "set_iterator"/\o.data=.fields #[first,.int i 0,.ref a,.int n 0,.int b 0]
section
variable {prog:Program}{w:World}{A:Around}{E:Zy}{s:Shared}{I a:Addr}{first:Value}{i n ep:Nat}{js:Zv}{es:Z9}{t:SetTable}
def SI.typ (h:SI s.heap I a first i n ep):s.TypeIs (.ref I) "set_iterator":=let ⟨o,b,f,_⟩:=h;⟨o,b,f⟩
def SI.at (x:SI h I a first i n ep) (k:∀o,h.get? I=some o->h'.get? I=some o):SI h' I a first i n ep:=let ⟨o,b,r⟩:=x;⟨o,k o b,r⟩
noncomputable def P3(first:Value)(a I:Addr)(i ep:Int):Sem PySem.Fin:=
 match first with
 |Value.int slot _=>do
  match ←setNext a slot.toNat i.toNat ep.toNat with
  |some (x,next)=>
   setField (.ref I) 0 (rawInt next)
   setField (.ref I) 1 (rawInt (i+1))
   ret x
  |none=>
   setField (.ref I) 2 .none
   raiseNew (←newExc (.type "StopIteration") [])
 |_=>do
  let some places ←seqItems? first|unsupported "internal:set_iterator"
  match places[i.toNat]? with
  |some (.int place _)=>
   let x ←setNextDrawn a place.toNat ep.toNat
   setField (.ref I) 1 (rawInt (i+1))
   ret x
  |some _=>unsupported "internal:set_iterator"
  |none=>
   setField (.ref I) 0 (rawInt 0)
   setField (.ref I) 2 .none
   raiseNew (←newExc (.type "StopIteration") [])
def Tv(f:SI s.heap I a first i es.size ep)(S:JD w s.heap a js es ep t)
  (body:wpAny (model prog w) A.in1 (P3 first a I i ep) (λfin j=>∃v,fin=.done (.ret v)/\Q (some v) j)
   (λe j=>wpAny (model prog w) A (isInstance e<|.type "StopIteration") (λb g=>b=true/\Q none g) E j) s) :
  wpAny (model prog w) A (pyNext<|.ref I) Q E s:=by
 obtain⟨o,r,B,u⟩:=id f;obtain⟨y,l,hx,p⟩:=S.obj;refine Yw (Va<|QK f.typ si_slot<|WB si_slot f.typ Rg ?_<|MJ _);refine Yw (Yz<|Yw<|wpAny_fieldsOf r u ?_);refine Yw (wpAny_setEntries_of l p S.fit ?_);rw[Y4 (by simp)];refine Wl body (λfin j h=>?_) λe j h=>?_
 ·obtain⟨v,e,q⟩:=h;exact⟨v,e,Yz q⟩
 ·refine Yw (Wl h (λb g x=>?_) λ_ _ z=>z);obtain⟨rfl,q⟩:=x;exact Yz q
def GV{Q:Z5->Shared->Prop}{o}{vs}(j:A.handled=none)(h:s.heap.get? I=some o)(l:o.data=.fields vs)(p:2<vs.size)(fin:∀h',Heap.ExtBut I s.heap h'->Q none {s with heap:=h'}){R:PySem.Fin->Shared->Prop} :
  wpAny (model prog w) A.in1 (do setField (.ref I) 2 .none;raiseNew (←newExc (.type "StopIteration") [])) R (λe g=>wpAny (model prog w) A (isInstance e<|.type "StopIteration") (λb f=>b=true/\Q none f) E g) s:=by
 refine Yw (WC h l p<|Yw ?_);refine Yw (Wn ?_<|by size_fits);refine Yw (wpAny_of_eq (by first|rfl|(simp only[firstArgMember];rfl))<|Wn ?_<|by size_fits)
 simp only[raiseNew];refine Yw (wpAny_handled ?_);rw[j];refine Yw (Yz<|wpAny_throw ?_);refine wpAny_isInstance ⟨_,Y7 _ rfl,rfl⟩ isSubtype_stop ?_;exact⟨rfl,fin _ (((Wf ..).extBut.push _).push _)⟩
def SI.step1 {x:Value} (f:s.heap.get? I=some o) (g:o.cls=.type "set_iterator") (b:o.data=.fields #[first,.int i 0,.ref a,.int n 0,.int ep 0]) :
  SI (s.heap.update I<|Obj.mapFields (·.setIfInBounds 1 (rawInt ((i:Int)+1)))) I a first (i+1) n ep:=
 ⟨_,Wu _ f (WD<|Ww b _),(QR ..).trans g,by rw[Ww b];simp[rawInt]⟩
def Tz(h:Q (Us w) s):wpAny (model prog w) A setsByText Q E s:=Yw (wpAny_askSetting<|Yz h)
def MK(S:JD w s.heap a js es ep t)(g:Us w=true)(h:Q (((pickOrder (w.params.setOrder a ep) es)[i]?).map λe=>(e.2,slot)) s) :
  wpAny (model prog w) A (setNext a slot i ep) Q E s:=by
 obtain⟨j,b,hx,f⟩:=S.obj;refine Yw (Qd b f S.fit<|Yw<|Tz ?_);rw[g,Y5 rfl,Y4 (by simp)];refine Yw ?_;refine Yw (Qd b f S.fit<|Yw<|Tz ?_);rw[g,Y5 rfl];exact Yw (wpAny_askSetting<|Yz<|Yz h)
def O1(S:JD w s.heap a js es ep t)(g:Us w=false)(l:(!t.plain&&decide (es.size>1))=false)(h:Q (match es[SetTable.below t.place slot]?,t.place[SetTable.below t.place slot]? with|some (_,x),some j=>some (x,j+1)|_,_=>none) s):wpAny (model prog w) A (setNext a slot i ep) Q E s:=by
 obtain⟨p,b,hx,f⟩:=S.obj;refine Yw (Qd b f S.fit<|Yw<|Tz ?_);rw[g,Y4 (by decide)];show wpAny _ _ (if (!t.plain&&decide (es.size>1))=true then _ else _) _ _ _;rw[l,Y4 (by decide)];refine Yw (?_:wpAny _ _ (if (!t.led && !es.isEmpty)=true then unsupported "set:maker-not-led" else pure ()) _ _ _);have o:t.led=true:=by rw[S.tab.led,g];rfl
 rw[o,Y4 (by simp)];exact Yz (Yz h)
def L6{p e}(S:JD w s.heap a js es ep t)(g:es[p]?=some e)(h:Q e.2 s):wpAny (model prog w) A (setNextDrawn a p ep) Q E s:=by
 obtain⟨j,b,hx,f⟩:=S.obj;refine Yw (Qd b f S.fit ?_)
 dsimp only
 rw[Y4 (by simp),g];exact Yz h
def Lo{m}(b:m≠0)(h:∀k d,k<m->Q k {s with drawn:=d}):wpAny (model prog w) A (choose f m) Q E s:=by
 intro Γ p g;exact⟨b,h _ _ (Nat.mod_lt _<|Nat.pos_of_ne_zero b)⟩
theorem T5{b:Type}:∀(xs:List b) k h,(xs[k]::xs.eraseIdx k).Perm xs
 |x::r,0,_=>List.Perm.refl _
 |x::r,k+1,h=>by
  have f:k<r.length:=by grind
  exact(List.Perm.swap _ _ _).trans (List.Perm.cons _<|T5 r k f)
def Ij:∀m xs s {Q:List o->Shared->Prop},xs.length=m->(∀ys d,ys.Perm xs->Q ys {s with drawn:=d})->wpAny (model prog w) A (drawOrder m xs) Q E s:=by
 intro m
 induction m with
 |zero=>
  intro xs s Q b h;have e:=WO.mp b;subst e;exact Yz (h [] s.drawn<|List.Perm.refl _)
 |succ m g=>
  intro xs s Q b h;cases xs with
  |nil=>grind
  |cons x r=>
   unfold drawOrder;refine Yw (Lo (by simp) λk d f=>?_);rw[Yx f];refine Yw (g _ _ (by grind) λys l j=>Yz ?_);exact h _ l ((List.Perm.cons _ j).trans (T5 _ _ f))
def JD.keep (S:JD w h a js es ep t) (k:∀o,h.get? a=some o->h'.get? a=some o):JD w h' a js es ep t:=by
 obtain⟨⟨o,j,r⟩,b,c,d,e,f,g⟩:=S;exact⟨⟨o,k o j,r⟩,b,c,d,e,f,g⟩
def E6(b:SI s.heap I a first i n ep)(h:Q (.ref I) s):wpAny (model prog w) A (pyIter<|.ref I) Q E s:=by
 refine QS b.typ Cv (WB Cv b.typ Lg ?_<|Zb2 _);exact Yz ⟨_,rfl, "set_iterator",_,b.typ,si_slot.lookup,h⟩
def Ek(hh:A.handled=none)(I a:Addr)(hne:a≠I)(vs:Z1)(hl:vs.length=es.size)(sl:Nat->Nat)(nx:∀A E s i Q,i<=es.size->JD w s.heap a js es ep t->Q ((vs[i]?).map λv=>(v,sl (i+1))) s->wpAny (model prog w) A (setNext a (sl i) i ep) Q E s) :
  Walks prog w A I [I,a] [I] es.size (λi v=>vs[i]?=some v) (λi h=>SI h I a (.int (sl i) 0) i es.size ep/\JD w h a js es ep t) where
 sub:=λb hb=>by simp at hb;simp[hb]
 frame:=λ_ _ _ st k=>⟨st.1.at λo e=>k I (by simp) o e,st.2.keep λo e=>k a (by simp) o e⟩
 item:=λi s Q E hi st fin=>by
  obtain⟨o,ho,hc,hd⟩:=id st.1;refine Tv st.1 st.2 ?_;unfold P3
  dsimp only
  rw[Wk,Wk,Wk];refine Yw (nx _ _ s i _ (Q5 hi) st.2 ?_);have hi2:i<vs.length:=by lia
  rw[Yx hi2];refine Yw (WC ho hd (by simp) ?_);have g1:=Wu (Obj.mapFields (·.setIfInBounds 0 (rawInt (sl (i+1):Int)))) ho (WD<|Ww hd _);have d1:(Obj.mapFields (·.setIfInBounds 0 (rawInt (sl (i+1):Int))) o).data=.fields #[.int (sl (i+1)) 0,.int i 0,.ref a,.int es.size 0,.int ep 0]:=by rw[Ww hd];simp[rawInt]
  refine Yw (WC g1 d1 (by simp) ?_);have sb:=(Wf s.heap I<|Obj.mapFields (·.setIfInBounds 0 (rawInt (sl (i+1):Int)))).trans (Wf _ I<|Obj.mapFields (·.setIfInBounds 1 (rawInt ((i:Int)+1))));refine Yz ⟨_,rfl,fin vs[i] _ s.toks (Yx hi2) ⟨?_,st.2.keep λo e=>sb.extBut a o hne e⟩ λb o hb e=>sb.extBut b o (λz=>hb (by simp[z])) e⟩;exact SI.step1 (x:=.none) g1 ((QR ..).trans hc) d1
 done:=λs Q E st fin=>by
  obtain⟨o,ho,hc,hd⟩:=id st.1;refine Tv st.1 st.2 ?_;unfold P3
  dsimp only
  rw[Wk,Wk,Wk];refine Yw (nx _ _ s es.size _ (Y1 _) st.2 ?_);rw[WE (by lia)];exact GV hh ho hd (by simp) λh' eb=>fin h' s.toks λb o hb e=>eb b o (λz=>hb (by simp[z])) e
 self:=λ_ _ _ _ st fin=>E6 st.1 fin
def Ln(hh:A.handled=none)(I a T:Addr)(hne:a≠I)(hT:T≠I)(ps:Z0)(hl:ps.length=es.size)(hps:∀p∈ps,p<es.size)(vs:Z1)(hvs:vs=ps.map λp=>((es[p]?).map (·.2)).getD .none) :
  Walks prog w A I [I,a,T] [I] es.size (λi v=>vs[i]?=some v) (λi h=>SI h I a (.ref T) i es.size ep/\JD w h a js es ep t/\∃o,h.get? T=some o/\∃c,o.data=.seq (ps.map λ(p:Nat)=>rawInt p).toArray c) where
 sub:=λb hb=>by simp at hb;simp[hb]
 frame:=λ_ _ _ st k=>⟨st.1.at λo e=>k I (by simp) o e,st.2.1.keep λo e=>k a (by simp) o e,let ⟨o,ho,c⟩:=st.2.2;⟨o,k T (by simp) o ho,c⟩⟩
 item:=λi s Q E hi st fin=>by
  obtain⟨o,ho,hc,hd⟩:=id st.1;obtain⟨oT,hoT,c,hdT⟩:=st.2.2;refine Tv st.1 st.2.1 ?_;unfold P3
  dsimp only
  refine Yw (wpAny_seqItems hoT hdT ?_);have hi2:i<ps.length:=by lia
  have e1:(ps.map λ(p:Nat)=>rawInt p).toArray[(i:Int).toNat]?=some (.int ps[i] 0):=by
   rw[Wk,List.getElem?_toArray,YB,Yx hi2];rfl
  have hp:=hps _ (YD hi2)
  dsimp only
  rw[e1]
  dsimp only
  have e3:vs[i]?=some (es[ps[i]]).2:=by rw[hvs,YB,Yx hi2];simp[hp]
  refine Yw (L6 st.2.1 (W6 hp)<|Yw<|WC ho hd (by simp) ?_);have sb:=Wf s.heap I (Obj.mapFields (·.setIfInBounds 1 (rawInt ((i:Int)+1))));exact Yz ⟨_,rfl,fin _ _ s.toks e3 ⟨SI.step1 (x:=.none) ho hc hd,st.2.1.keep λo e=>sb.extBut a o hne e,oT,sb.extBut T oT hT hoT,c,hdT⟩ λb o hb e=>sb.extBut b o (λz=>hb (by simp[z])) e⟩
 done:=λs Q E st fin=>by
  obtain⟨o,ho,hc,hd⟩:=id st.1;obtain⟨oT,hoT,c,hdT⟩:=st.2.2;refine Tv st.1 st.2.1 ?_;unfold P3
  dsimp only
  refine Yw (wpAny_seqItems hoT hdT ?_)
  have e1:(ps.map λ(p:Nat)=>rawInt p).toArray[(es.size:Int).toNat]?=none:=by
   rw[Wk,List.getElem?_toArray,YB,WE (by lia)];rfl
  dsimp only
  rw[e1]
  dsimp only
  refine Yw (WC ho hd (by simp) ?_);refine GV (s:={s with heap:=_}) hh (Wu (Obj.mapFields (·.setIfInBounds 0 (rawInt 0))) ho<|WD<|Ww hd _) (Ww hd _) (by simp) λh' eb=>fin h' s.toks λb o hb e=>eb b o (λz=>hb (by simp[z])) ((Wf s.heap I<|Obj.mapFields (·.setIfInBounds 0 (rawInt 0))).extBut b o (λz=>hb (by simp[z])) e)
 self:=λ_ _ _ _ st fin=>E6 st.1 fin
def LP(nx:Nat->Nat):∀m k left (b:Array j),left.length=m->(pickOrder.go nx m k left b).toList.Perm (b.toList++left):=by
 intro m
 induction m with
 |zero=>
  intro k left b g;have e:=WO.mp g;subst e;show b.toList.Perm (b.toList++[]);simp
 |succ m h=>
  intro k left b g;have f:nx k % left.length<left.length:=Nat.mod_lt _ (by lia);unfold pickOrder.go;rw[Yx f];refine(h _ _ _<|by grind).trans ?_;rw[Array.toList_push,Qr];exact(T5 left _ f).append_left _
def Fp(nx:Nat->Nat)(xs:Array b):(pickOrder nx xs).toList.Perm xs.toList:=by
 have:=LP nx xs.size 0 xs.toList #[] rfl
 simpa [pickOrder]using this
noncomputable def slotAt(t:SetTable)(i:Nat):Nat:=if i=0 then 0 else t.place.getD (i-1) 0+1
def GP(h:t.fits m=true):t.place.size=m:=by
 simp only[SetTable.fits,YU,beq_iff_eq]at h
 grind
def Hg(S:JD w s.heap a js es ep t){i}(j:i<=es.size):SetTable.below t.place (slotAt t i)=i:=by
 have g:=GP S.fit;have R:=S.tab.ris.ris;refine OV R (by lia) (λk h=>?_) λk l b=>?_
 ·unfold slotAt;rw[Y4 (by lia)];by_cases e:k=i-1
  ·rw[e];lia
  ·have:=R k (i-1) (by lia) (by lia)
   lia
 ·unfold slotAt;by_cases f:i=0
  ·grind
  ·rw[Y4 f]
   have:=R (i-1) k (by lia) b
   lia
def Zco{A'}(J:A'.handled=none)(S:JD w s.heap a js es ep t)
  (fin:∀I fp (vs:Z1) St L d1,Walks prog w A' I fp [I] es.size (λi v=>vs[i]?=some v) St->St 0 L->(∀b∈fp,b=a\/s.heap.get? b=none)->vs.length=es.size->vs.Perm (es.toList.map (·.2))->
   s.heap.get? I=none->(∀b o,s.heap.get? b=some o->L.get? b=some o)->Q (.ref I) {s with heap:=L,drawn:=d1}) :
  wpAny (model prog w) A (pyIter<|.ref a) Q E s:=by
 obtain⟨ob,g,hx,h⟩:=S.obj;have hT:s.TypeIs (.ref a) "set":=⟨ob,g,hx.1⟩;have ha:=Y6 g
 have new:∀b,s.heap.objs.size<=b->s.heap.get? b=none:=λb f=>by
  cases e:s.heap.get? b with
  |none=>rfl
  |some o=>exact absurd (Y6 e) (V8.mpr f)
 refine QS hT F.slot_set_iter (WB F.slot_set_iter hT IR ?_<|F.args_set_iter_1 _);unfold Builtin.«frozenset.__iter__»;show wpAny _ _ (Builtin.Frozenset.sizeOf a >>= _) _ _ s;unfold Builtin.Frozenset.sizeOf;refine Yw (Yw<|wpAny_setEntries_of g h S.fit<|Yz ?_);refine Yw ?_;unfold setDrawn;refine Yw (Qd g h S.fit<|Yw<|Tz<|Yz ?_)
 dsimp only
 change wpAny _ _ (if (!Us w&&(!t.plain&&decide (es.size>1)))=true then _ else _) _ _ _;cases Y:(!Us w&&(!t.plain&&decide (es.size>1)))with
 |false=>
  rw[Y4 (by decide)];refine Yw (Yz<|Yw<|wpAny_setEpoch_of g h S.fit<|Yw<|Wn<|Yz ⟨_,rfl, "set_iterator",_,⟨_,Y7 _ rfl,rfl⟩,si_slot.lookup,?_⟩);have y:=YJ ha;have S1:JD w (s.heap.push {cls:=.type "set_iterator",data:=.fields [rawInt 0,rawInt 0,.ref a,rawInt es.size,rawInt ep].toArray}) a js es ep t:=S.keep λo e=>Y0 _ e
  have lt:∀b∈[s.heap.objs.size,a],b=a\/s.heap.get? b=none:=λb f=>by
   rcases YA.mp f with rfl|f
   ·exact .inr (new _<|Y1 _)
   ·exact .inl (Y3.mp f)
  cases f:Us w with
  |true=>
   have l:((pickOrder (w.params.setOrder a ep) es).toList.map (·.2)).length=es.size:=by
    rw[Yy,(Fp _ _).length_eq];simp
   refine fin _ _ _ _ _ s.drawn (Ek J s.heap.objs.size a y ((pickOrder (w.params.setOrder a ep) es).toList.map (·.2)) l (λ_=>0) λA E s i Q U B q=>MK B f ?_) ⟨⟨_,Y7 _ rfl,rfl,rfl⟩,S1⟩ lt l ((Fp _ _).map _) (new _<|Y1 _) λb o e=>Y0 _ e;rw[YB]at q;rw[←Wo];cases e:(pickOrder (w.params.setOrder a ep) es).toList[i]? with
   |none=>rw[e]at q;exact q
   |some x=>rw[e]at q;exact q
  |false=>
   have r:(!t.plain&&decide (es.size>1))=false:=by rw[f]at Y;simpa using Y
   refine fin _ _ _ _ _ s.drawn (Ek J s.heap.objs.size a y (es.toList.map (·.2)) (by simp) (slotAt t) λA E s i Q U B q=>O1 B f r ?_) ⟨⟨_,Y7 _ rfl,rfl,rfl⟩,S1⟩ lt (by simp) (List.Perm.refl _) (new _<|Y1 _) λb o e=>Y0 _ e;rw[Hg B U];have hz:=GP B.fit;rw[YB]at q;by_cases H:i<es.size
   ·have z:=W6 H;have e2:t.place[i]?=some t.place[i]:=W6 (by lia);have N:es.toList[i]?=some es[i]:=by rw[Wo];exact z
    rw[N]at q;rw[z,e2]
    have e4:slotAt t (i+1)=t.place[i]+1:=by
     unfold slotAt;rw[Y4 (by lia)]
     have:i<t.place.size:=by lia
     simp[Array.getD,this]
    have T:=q;rw[e4]at T;exact T
   ·have z:es[i]?=none:=QX (by lia);have N:es.toList[i]?=none:=by rw[Wo];exact z
    rw[N]at q;rwa[z]
 |true=>
  rw[Y5 rfl];refine Yw (Ij _ _ s (by simp) λj d r=>?_);have l:j.length=es.size:=by rw[r.length_eq];simp
  have G:∀p∈j,p<es.size:=λp hm=>Vx.mp (r.mem_iff.mp hm);refine Yw (Wn ?_<|by show(j.map λ(i:Nat)=>rawInt i).toArray.size<=sizeLine;rw[YL,Yy,l];exact QO S.few);have u:=Y0 {cls:=.type "tuple",data:=.seq (j.map λ(i:Nat)=>rawInt i).toArray} g;refine Yw (wpAny_setEpoch_of u h S.fit<|Yw<|Wn<|Yz ⟨_,rfl, "set_iterator",_,⟨_,Y7 _ rfl,rfl⟩,si_slot.lookup,?_⟩);have C:(s.heap.push {cls:=.type "tuple",data:=.seq (j.map λ(i:Nat)=>rawInt i).toArray}).objs.size=s.heap.objs.size+1:=Heap.size_push ..
  have M:(List.range es.size).map (λp=>((es[p]?).map (·.2)).getD Value.none)=es.toList.map (·.2):=by
   apply QT;intro k;by_cases hk:k<es.size
   ·simp[hk]
   ·have:es.size<=k:=by lia
    simp[this]
  refine fin _ _ _ _ _ d (Ln J _ a s.heap.objs.size ?_ ?_ j l G _ rfl) ⟨⟨_,Y7 _ rfl,rfl,rfl⟩,S.keep λo e=>Y0 _ (Y0 _ e),_,Y0 _ (Y7 _ rfl),0,rfl⟩ (λb f=>?_) (by rw[Yy];exact l) ?_ (new _ ?_) λb o e=>Y0 _ (Y0 _ e)
  ·show a≠_;rw[C];exact YJ (QP ha)
  ·show s.heap.objs.size≠_;rw[C];exact YJ (Nat.lt_succ_self _)
  ·rcases YA.mp f with rfl|f
   ·refine .inr (new _ ?_);show s.heap.objs.size<=_;rw[C];exact Qh _
   ·rcases YA.mp f with rfl|f
    ·exact .inl rfl
    ·rw[Y3.mp f];exact .inr (new _<|Y1 _)
  ·rw[←M];exact r.map _
  ·show s.heap.objs.size<=_;rw[C];exact Qh _
def Zax(g:s.TypeIs (.ref a) "set")(h:Q false s):wpAny (model prog w) A (Builtin.List.listLengthHint<|.ref a) Q E s:=by
 refine Yw (wpAny_specialOf g F.slot_set_len.lookup ?_);generalize f:("set.__len__" : String)=z
 wp_delta
 have j:splitId z=some ("set","__len__"):=by subst f;decide +kernel
 rw[j];subst f;refine Yw (wpAny_isInstance (b:=true) g (by rw[isSubtype_type];kernel_rfl) (wpAny_ite_split (λz=>absurd z (by decide)) λ_=>?_));exact wpAny_ite_split (λ_=>Yw (wpAny_typeOf g<|Yz h)) λz=>absurd (by decide +kernel) z
def Mx(hh:A.handled=none)(S:JD w s.heap a js es ep t)(D:Addr)(c:Nat)(g:Value)(T:s.heap.get? D=some {cls:=.type "list",data:=.seq #[] c})(y:D≠a)(fin:∀h' H d (vs:Z1) c',vs.Perm (es.toList.map (·.2))->h'.get? D=some {cls:=.type "list",dict:=none,data:=.seq vs.toArray c',slots:=#[]}->(∀b o,b≠D->s.heap.get? b=some o->h'.get? b=some o)->R (.ok<|.ret g) {s with heap:=h',toks:=H,drawn:=d}) :
  wpAny (model prog w) A.in1 (Builtin.List.listExtendWith (.ref D) (.ref a) g) (λf r=>match f with | .done f=>R (.ok f) r | .again c'=>c'.quiet=true/\codeAny (model prog w) A c' R r) (λe r=>R (.error e) r) s:=by
 obtain⟨ob,x,hx,hdd⟩:=S.obj;have hT:s.TypeIs (.ref a) "set":=⟨ob,x,hx.1⟩;unfold Builtin.List.listExtendWith;refine Yw (wpAny_typeOf hT ?_);have n1:Builtin.List.listSameRef (.ref D) (.ref a)=false:=by simp[Builtin.List.listSameRef,y]
 have n2:(Value.type "set" == Value.type "list")=false:=by decide
 have n3:(Value.type "set" == Value.type "tuple")=false:=by decide
 simp only[n1,n2,n3,Bool.or_false,YW,Ws];refine Yw (Zco (A':=A.in1) hh S λI fp vs St U d1 W L Y hl hp Q keep=>?_);have hDI:D≠I:=λz=>by rw[←z,T]at Q;cases Q
 have loop:∀h H c1,St 0 h->(∀b o,b≠D->s.heap.get? b=some o->h.get? b=some o)->h.get? D=some {cls:=.type "list",data:=.seq #[] c1}->D∉fp->
   codeAny (model prog w) A (.builtin "list.extend.loop" ⟨[.ref D,.ref I,g],[]⟩) R {s with heap:=h,toks:=H,drawn:=d1}:=λh H c1 st hk p l=>by
  refine codeAny_extend_loopS W.toS (QO S.few) D l g es.size 0 _ #[] c1 rfl (Wp _) st p (ItemsOf.nil _) λr u c' J G q=>?_
  have ev:u.toList=vs:=by
   apply QT;intro k;by_cases M:k<u.size
   ·have e1:=W6 M;rw[Wo,e1];exact(q.2 k _ e1).symm
   ·rw[Wo,QX (by lia),WE (by have:=q.1;lia)]
  have e2:u=vs.toArray:=by rw[←ev]
  rw[e2]at G;rw[Moved.eq_with J];refine fin r.heap r.toks d1 vs c' hp G λb o j e=>J.heap b o (λB=>?_) (hk b o j e);rcases YA.mp B with z|z
  ·exact j z
  ·rw[Y3.mp z,Q]at e;cases e
 have l:D∉fp:=λJ=>by
  rcases Y D J with z|z
  ·exact y z
  ·rw[T]at z;cases z
 have N:Shared.TypeIs {s with heap:=U,drawn:=d1} (.ref a) "set":=⟨ob,keep _ _ x,hx.1⟩
 refine Yw (W8<|Zax N ?_);have p:=keep _ _ T;refine Yw (Qf<|Yw (?_:wpAny _ _ (updateSeq D (·.push .none) >>= λ_=>updateSeq D (·.pop)) _ _ _));refine Yw (wpAny_updateSeq p rfl ?_);have C:=Wu (Obj.mapSeq (·.push Value.none)) p rfl;refine wpAny_updateSeq C rfl ?_
 have v:∀b o,b≠D->U.get? b=some o->((U.update D<|Obj.mapSeq (·.push Value.none)).update D (Obj.mapSeq (·.pop))).get? b=some o:=λb o j e=>
  (Wy _ _<|Ne.symm j).trans ((Wy _ _<|Ne.symm j).trans e)
 exact Yz ⟨plainId_quiet F.plain_extend_loop _,loop _ _ _ (W.frame 0 _ _ L λb j o e=>v b o (λz=>l (z▸j)) e) (λb o j e=>v b o j (keep b o e)) (Wu (Obj.mapSeq (·.pop)) C rfl) l⟩
def IP(z:A.handled=none)(S:JD w s.heap a js es ep t)(fin:∀h' g d vs,vs.Perm (es.toList.map (·.2))->(∀b o,s.heap.get? b=some o->h'.get? b=some o)->s.heap.objs.size<h'.objs.size->R vs {s with heap:=h',toks:=g,drawn:=d}) :
  wpAny (model prog w) A (collect<|.ref a) R E s:=by
 obtain⟨L,v,hx,B⟩:=S.obj;refine Yw (wpAny_runValue<|Qn entry_proto_collect' ?_);have H:=Qx (A:=A) PySem.F.plain_proto_collect ⟨[.ref a],[]⟩;refine(Yw<|Wn<|Yz ⟨plainId_quiet PySem.F.plain_list_iadd _,Qn entry_list_iadd' ?_⟩);rw[(Qx (A:=A) PySem.F.plain_list_iadd ⟨[.ref s.heap.objs.size,.ref a],[]⟩)];have C:(s.heap.push {cls:=.type "list",data:=.seq ([]:Z1).toArray}).get? s.heap.objs.size=some {cls:=.type "list",data:=.seq #[]}:=Y7 _ rfl
 have u:=Mx (prog:=prog) (s:={s with heap:=s.heap.push {cls:=.type "list",data:=.seq ([]:Z1).toArray}})
  (R:=λq r=>∃h' g d vs p,q=.ok (.ret<|.ref s.heap.objs.size)/\r={s with heap:=h',toks:=g,drawn:=d}/\vs.Perm (es.toList.map (·.2))/\(∀b o,s.heap.get? b=some o->h'.get? b=some o)/\
   h'.get? s.heap.objs.size=some {cls:=.type "list",dict:=none,data:=.seq vs.toArray p,slots:=#[]}) z (S.keep λo e=>Y0 _ e) s.heap.objs.size 0 (.ref s.heap.objs.size) C (Vk<|Y6 v)
  λh' g d vs p j h l=>⟨h',g,d,vs,p,rfl,rfl,j,λb o e=>l b o (YJ<|Y6 e) (Y0 _ e),h⟩
 refine Wl u (λf r x=>?_) λe r x=>?_
 ·cases f with
  |done f=>
   obtain⟨h',g,d,vs,p,e,rfl,j,l,h⟩:=x;cases e
   refine(Yw<|wpAny_load h<|Yz ?_);exact fin h' g d vs j l (Y6 h)
  |again M=>
   refine⟨x.1,Q6 x.2 λq J y=>?_⟩;obtain⟨h',g,d,vs,p,rfl,rfl,j,l,h⟩:=y;refine(Yw<|wpAny_load h<|Yz ?_);exact fin h' g d vs j l (Y6 h)
 ·obtain⟨_,_,_,_,_,G,_⟩:=x;cases G
theorem FJ:∀{l:List (Int×Value)},(∀e∈l,Ent e)->IntsAre (l.map (·.2)) (l.map keyOf)
 |[],_=>.nil
 |e::r,h=>by
  obtain⟨k,t,rfl⟩:=h e Wb;exact .cons k t (FJ λx hx=>h x (YT _ hx))
def Zbc{vs us}(p:vs.Perm us):∀{ns:Zv},IntsAre us ns->∃b,IntsAre vs b/\b.Perm ns:=by
 induction p with
 |cons x _ o=>
  intro ns h;cases h with
  |cons n t r=>
   obtain⟨b,u,q⟩:=o r;exact⟨n::b,.cons n t u,List.Perm.cons _ q⟩
 |swap x y l=>
  intro ns h;cases h with
  |cons n t r=>
   cases r with
   |cons f g j=>exact⟨f::n::_,.cons f g (.cons n t j),List.Perm.swap _ _ _⟩
 |_=>grind
def R4(G:A.handled=none)(B:SetB w s.heap a js)(v:js.length<64)
  (fin:∀l h' r d f ns e,IntsAre f ns->ns.Perm js->ns.Pairwise (·<=·)->s.heap.get? l=none->s.heap.objs.size<=l->h'.get? l=some {cls:=.type "list",data:=.seq f.toArray e}->
   (∀b o,s.heap.get? b=some o->h'.get? b=some o)->Q (.ref l) {s with heap:=h',toks:=r,drawn:=d}) :
  wpAny (model prog w) A (call (.builtin "sorted") [.ref a]) Q E s:=by
 obtain⟨es,ep,t,S⟩:=B;refine Calls.call_function_entry kind_sorted plain_sorted entry_sorted (args_sorted1 _) ?_;refine Yw (Yz<|Yw (IP G S λj r d p z keep big=>?_));obtain⟨J,y,u⟩:=Zbc z (FJ S.ent);have g:=u.trans S.per;have C:p.length<64:=by rw[IntsAre.length y,g.length_eq];exact v
 refine Yw (Vb ?_ (by have:(64:Nat)<=sizeLine:=(by decide);lia));have x:(j.push<|seqObj "list" p.toArray 0).get? j.objs.size=some (seqObj "list" p.toArray 0):=Y7 _ rfl;refine Yw (W8<|WB slot_list_sort ⟨_,x,rfl⟩ entry_list_sort (list_sort_tree x y C λf ns a1 a2 a3=>⟨_,rfl,?_⟩)<|args_list_sort _);obtain⟨e,H⟩:=sortedHeap_at x;refine Yz ⟨_,rfl,fin j.objs.size _ r d f.toList ns e a1 (a2.trans g) a3 ?_ (Q5 big) (by simpa [seqObj]using H) λb o q=>?_⟩
 ·cases q:s.heap.get? j.objs.size with
  |none=>rfl
  |some o=>exact absurd (Y6<|keep _ _ q) (WM _)
 ·have h:=Y6 (keep b o q);rw[sortedHeap_old (YJ h) (by rw[size_push'];exact QP h)];exact Y0 _ (keep b o q)
end
end SetR
namespace Own
open PySem PySem.Spec PyProof.Rows L2
noncomputable def XT(w:World)(l:Addr)(b:Zv):HO:=.ext λh=>SetR.SetB w h l b
section
variable {X:Cx}
def Mb{w H h l b}(B:SetR.SetB w h l b):ObjOk P w H h l (XT w l b):=by
 refine⟨B,?_,λj i f k=>f.at k⟩;obtain⟨n,p,t,S⟩:=B;obtain⟨o,g,_⟩:=S.obj
 grind
def Im(v:X.calm=true):JC X (.type "set") (λxs H Q=>∃(p:Addr) (ns:Zv),xs=[.ref p]/\SqL X.K H p (ns.map V.int)/\ns.length+1<4096/\∀l,H l=none->Q (.ref l) (upd H l<|XT X.w l<|ns.foldl SetR.JE [])):=by
 intro pins s y H xs z Q I f h;obtain⟨p,ns,rfl,x,n,q⟩:=h;obtain⟨u,rfl,g⟩:=f.one;obtain rfl:=g;obtain⟨j,r,i,_⟩:=I.list x;refine SetR.Ie (I.ok.hd v) i.isList (by simpa using T7 r) n λC A B keep=>?_;exact⟨.ref s.heap.objs.size,upd H s.heap.objs.size (XT X.w s.heap.objs.size _),I.laid (λb o e=>keep b o (Y6 e) e) (Y1 _) (Mb B),rfl,q _ (I.hok.fresh<|Y1 _)⟩
def Ez(L:X.calm=true):JC X (.builtin "sorted") (λxs H Q=>∃p g,xs=[.ref p]/\g.length<64/\(SqL X.K H p (g.map V.int)\/H p=some (XT X.w p g))/\
  ∀l (ns:Zv),H l=none->ns.Perm g->ns.Pairwise (·<=·)->Q (.ref l) (upd H l<|.lst<|ns.map V.int)):=by
 intro pins s N H xs T Q I C h;obtain⟨p,g,rfl,x,j,q⟩:=h;obtain⟨u,rfl,E⟩:=C.one;obtain rfl:=E
 have big:∀{ns:Zv},ns.Perm g->(ns.map V.int).length<=sizeLine:=λJ=>by
  rw[Yy,J.length_eq]
  have:(64:Nat)<=sizeLine:=by decide
  lia
 rcases j with j|j
 ·obtain⟨i,r,G,_⟩:=I.list j;have A:IntsAre i g:=by simpa using T7 r
  refine sorted_ints G.isList A (by rw[IntsAre.length A];exact x) λf ns a1 a2 a3=>?_;obtain⟨e,y⟩:=sortedAll_at s.heap i f;have n:=I.hok.fresh (Qh _);refine⟨.ref (s.heap.objs.size+1),upd H (s.heap.objs.size+1) (.lst<|ns.map V.int),I.laid (λb o e=>sortedAll_old e) (Qh _) ⟨big a2,f.toList,e,TJ a1,?_⟩,rfl,q _ ns n a2 a3⟩;omega
 ·have B:=(I.hok p _ j).1;refine SetR.R4 (I.ok.hd L) B x λl M U d f ns e a1 a2 a3 Y v y keep=>?_;have n:=I.hok.fresh v;refine⟨.ref l,upd H l (.lst<|ns.map V.int),?_,rfl,q l ns n a2 a3⟩;have ok:HOk X.prog X.w (upd H l<|.lst<|ns.map V.int) M:=I.hok.laid keep v ⟨big a2,f,e,TJ a1,y⟩;exact I.call (ch:=[]) (Un.laid keep v n) ok I.bare (λb z=>absurd z (by simp))
end
section
variable {X:Cx}{K:Zt}
def LZ(b:autoParam (X.K=K) au_0):IxR X (λx y H Q=>XF K x y H Q\/X0 K x y H Q):=by subst b;exact NK
def Lv(b:autoParam (X.K=K) au_0):JC X (.builtin "len") (λxs H Q=>∃x n,xs=[x]/\Tx K x H n/\Q (.int n) H):=by subst b;exact Ng
def Zav(b:autoParam (X.K=K) au_0):OpR X (compareOp .In) (rIn K false):=by subst b;exact HW
def Ik(b:autoParam (X.K=K) au_0):OpR X (compareOp .NotIn) (rIn K true):=by subst b;exact Rc
def T6{pos es k t n}(g:X.calm=true)(h:PGs X es t)(i:autoParam (X.K=K) au_0)(f:autoParam ((assignEach es X.env).length=n) au_0)(b:autoParam ((assignEach es X.env).findIdx? (·.1)=none) au_0):PG X (.Tuple es k pos) (Sg K n t):=by subst i;exact Mj g h f b
end
section
variable {α:Type}{R:Hp->V->α->Prop}{φ:Zz}{g:TG}{tc:TT}{te:TE}{σ:L2.St}{H1:Hp}{F:Hp->Prop}{D:Addr}
def M4{K a xs}{ds:List α}(f:α->Option V)(s:SqL K H1 a xs)(B:xs.length=ds.length)(C:H1 D=none)(G:ds.length<=sizeLine)(turn:∀(i:Nat) x d j,xs[i]?=some x->ds[i]?=some d->Same H1 j->∀k:Option V->Hp->Prop,k (f d) j->g x (atStart φ σ) j λh u=>Sub (atStart φ σ) h/\tc h u λb p=>if b=true then te h p λy r=>k (some y) r else k none p)(done:F (upd H1 D<|.lst<|ds.filterMap f)) :
  ∃W:Nat->Nat->List V->Hp->Prop,(∃m,W 0 m [] (upd H1 D<|.lst []))/\
   ∀i m ys j,W i m ys j->((Itl K a).stop i j/\F j)\/((Itl K a).go i j/\∀x v,(Itl K a).yld i j x v->g x (atStart φ σ) v λh u=>Sub (atStart φ σ) h/\tc h u λb p=>
    if b=true then te h p λy r=>r D=some (.lst ys)/\ys.length<sizeLine/\∃l,l<m/\W (i+1) l (ys++[y]) (upd r D<|.lst (ys++[y]))else ∃l,l<m/\W (i+1) l ys p):=by
 refine⟨λi m ys j=>m=ds.length-i/\i<=ds.length/\ys=(ds.take i).filterMap f/\j=upd H1 D (.lst ys),⟨ds.length,by simp,Wp _,by simp,rfl⟩,?_⟩;rintro i m ys j ⟨rfl,H,rfl,rfl⟩;have q:Same H1 (upd H1 D<|.lst ((ds.take i).filterMap f)):=Jy C;by_cases n:i<ds.length
 ·refine .inr ⟨⟨xs,xs[i]'(by lia),q.seq s,by simp[B,n]⟩,λx v y=>?_⟩;obtain⟨e,y⟩:=y;subst e
  refine turn i x ds[i] _ (y xs<|q.seq s) (Yx n) q (λo w=>match o with
   |some y=>w D=some (.lst ((ds.take i).filterMap f))/\((ds.take i).filterMap f).length<sizeLine/\∃l,l<ds.length-i/\(l=ds.length-(i+1)/\i+1<=ds.length/\(ds.take i).filterMap f++[y]=(ds.take (i+1)).filterMap f/\upd w D (.lst ((ds.take i).filterMap f++[y]))=upd H1 D (.lst ((ds.take i).filterMap f++[y])))
   |none=>∃l,l<ds.length-i/\(l=ds.length-(i+1)/\i+1<=ds.length/\(ds.take i).filterMap f=(ds.take (i+1)).filterMap f/\w=upd H1 D (.lst ((ds.take i).filterMap f)))) ?_
  have z:=YY n;cases A:f ds[i]with
  |some y=>
   refine⟨Js,?_,ds.length-(i+1),by lia,rfl,n,?_,Il⟩
   ·have E:=List.length_filterMap_le f (ds.take i);rw[Wg]at E;lia
   ·rw[z,Qu];simp[A]
  |none=>
   refine⟨ds.length-(i+1),by lia,rfl,n,?_,rfl⟩;rw[z,Qu];simp[A]
 ·have e:i=ds.length:=by lia
  subst e;refine .inl ⟨⟨xs,q.seq s,by lia⟩,?_⟩;rwa[W2]
end
noncomputable def eqL(xs ys:List V):Bool:=decide (xs.length=ys.length)&&(List.range xs.length).all λj=>eqV (xs.getD j .non) (ys.getD j .non)
noncomputable def Xy(K:Zt)(neg:Bool):R2:=λx y H Q=>∃(p q:Addr) (xs b:List V),x=.ref p/\y=.ref q/\SqL K H p xs/\SqL K H q b/\xs.all Ut=true/\b.all Ut=true/\Q (.bl (if neg then !eqL xs b else eqL xs b)) H
section
variable {X:Cx}
def Gu{xs ys us b}(h:Vals xs us)(g:Vals ys b)(f1:xs.all Ut=true)(q:ys.all Ut=true)(j:Nat)(p:j<us.toArray.size)(o:j<b.toArray.size) :
  SeqAt.EqAt A s us.toArray[j] b.toArray[j] (eqV (xs.getD j .non)<|ys.getD j .non):=by
 have B:=h.length;have z:=g.length;have E:j<us.length:=by simpa using p
 have C:j<b.length:=by simpa using o
 have l:xs[j]?=some (xs[j]'(by lia)):=Yx _;have i:ys[j]?=some (ys[j]'(by lia)):=Yx _;obtain⟨u,H,n⟩:=h.get l;obtain⟨w,G,f⟩:=g.get i;have v:us.toArray[j]=u:=by grind
 have r:b.toArray[j]=w:=by grind
 have y:xs.getD j .non=xs[j]'(by lia):=by rw[Y2,l];rfl
 have x:ys.getD j .non=ys[j]'(by lia):=by rw[Y2,i];rfl
 rw[v,r,y,x];exact Cr n f (WS.mp f1 _<|YD _) (WS.mp q _<|YD _)
def Ox(n:X.A.units<cLine):OpR X (compareOp .Eq) (Xy X.K false):=by
 intro pins s E H x y v u Q I r o h;obtain⟨p,q,xs,b,rfl,rfl,w,hq,f1,C,k⟩:=h;obtain rfl:=r;obtain rfl:=o;obtain⟨J,g,i,_⟩:=I.list w;obtain⟨G,f,p2,_⟩:=I.list hq;have M:=g.length;have L:=f.length;have l:=k;by_cases e:xs.length=b.length
 ·refine SeqAt.eq_listAt i.isList p2.isList (by simp;lia) n (λj B z=>Gu g f f1 C j B z) ⟨.bl (eqL xs b),H,I,?_,l⟩;show _=Value.bool (eqL xs b);unfold eqL
  grind
 ·refine SeqAt.eq_list_lengthsAt i.isList p2.isList (by simp;lia) n ⟨.bl (eqL xs b),H,I,?_,l⟩;unfold eqL;rw[Wr e];rfl
def DR(n:X.A.units<cLine):OpR X (compareOp .NotEq) (Xy X.K true):=by
 intro pins s E H x y v u Q I r o h;obtain⟨p,q,xs,b,rfl,rfl,w,hq,f1,C,k⟩:=h;obtain rfl:=r;obtain rfl:=o;obtain⟨J,g,i,_⟩:=I.list w;obtain⟨G,f,p2,_⟩:=I.list hq;have M:=g.length;have L:=f.length;have l:=k;by_cases e:xs.length=b.length
 ·refine SeqAt.RcNeAt.lists i.isList p2.isList (by simp;lia) n (λj B z=>Gu g f f1 C j B z) _ _ _ _ ⟨.bl (!eqL xs b),H,I,?_,l⟩;show _=Value.bool (!eqL xs b);unfold eqL
  grind
 ·refine SeqAt.RcNeAt.lists_lengths i.isList p2.isList (by simp;lia) n _ _ _ _ ⟨.bl (!eqL xs b),H,I,?_,l⟩;unfold eqL;rw[Wr e];rfl
def Ta{xs:Zv}{us}(r:Vals (xs.map V.int) us)(z:Int):∀j f (b:j<xs.length),Value.isInt z us[j]=(xs[j]==z):=by
 intro j f b;obtain⟨u,g,t,rfl⟩:=r.get (by rw[YB,Yx b];rfl);rw[Yx f]at g;rw[YC g];rfl
def Fz{xs:Zv}{us}(r:Vals (xs.map V.int) us)(z:Int)(t:Tok):∀y,y∈us.toArray->MeetsSeq.EqGives y (.int z t) (Value.isInt z y):=by
 intro y g;obtain⟨j,h,rfl⟩:=Wq.mp (by simpa using g:y∈us);have f:=r.length;rw[Yy]at f;obtain⟨u,b,i,rfl⟩:=r.get (by rw[YB,Yx (show j<xs.length by lia)];rfl);rw[Yx h]at b;rw[YC b];exact MeetsSeq.EqGives.int _ _ _ _
def PP(K:Zt):V->List V->Hp->VK->Prop:=λx b H Q=>∃(l:Addr) (xs:Zv) (z:Int),x=.ref l/\b=[.int z]/\SqL K H l (xs.map V.int)/\z∈xs/\Q (.int (xs.idxOf z:Nat)) H
def Oh:MtM X "list.index" (PP X.K):=by
 intro pins s σ H x vs v us Q I G J h;obtain⟨l,xs,z,rfl,rfl,U,M,q⟩:=h;cases G
 obtain⟨u,rfl,t,rfl⟩:=J.one;obtain⟨b,r,L,f⟩:=I.list U;obtain⟨o,n,B,E,g,C⟩:=L;obtain⟨c1,d1,Y,i⟩:=o;simp only at E g C;subst E g C;have A:=r.length;rw[Yy]at A;have w:=QC.mpr M;have hb:xs.length<=2 ^ 24:=by rw[Yy]at f;exact f
 refine call_meets QL ⟨_,B,rfl⟩ PySem.F.entry_list_index (PySem.F.args_list_index_2 _ _)
  (SeqAt.list_indexAt l b.toArray n none i (.int z t) (Value.isInt z) (xs.idxOf z) (by simpa [←A]using w) (by lia) ?_ ?_) ⟨B,λy N=>(Fz r z t y N).at _ _,⟨.int (xs.idxOf z:Nat),H,I.tok _,⟨_,rfl⟩,q⟩⟩
 ·have e:=Ta r z (xs.idxOf z) (by lia) w;show Value.isInt z b[xs.idxOf z]=true;rw[e];simpa using V1 w
 ·intro m T p;have j:m<b.length:=by simpa using T
  show Value.isInt z b[m]=false;rw[(Ta r z m j<|by lia)]
  have:=List.not_of_lt_findIdx p
  simpa using this
theorem AE{b g:Type}(f:b->g):∀(xs:List b) k,(xs.eraseIdx k).map f=(xs.map f).eraseIdx k
 |[],_|_::_,0=>rfl
 |x::r,k+1=>by
  show f x::(r.eraseIdx k).map f=f x::(r.map f).eraseIdx k;rw[AE f r k]
def Rx:V->List V->Hp->VK->Prop:=λx b H Q=>∃(l:Addr) (xs:Zv) (z:Int),x=.ref l/\b=[.int z]/\H l=some (.lst<|xs.map V.int)/\z∈xs/\Q .non (upd H l<|.lst ((xs.eraseIdx<|xs.idxOf z).map V.int))
def Zcf:MtM X "list.remove" Rx:=by
 intro pins s E H x G v J Q I w y h;obtain⟨l,xs,z,rfl,rfl,p,A,q⟩:=h;cases w
 obtain⟨u,rfl,t,rfl⟩:=y.one;obtain⟨f,b,n,r,C,e⟩:=I.lstM p;have o:=r.length;rw[Yy]at o;have j:=QC.mpr A
 refine call_meets PySem.F.slot_list_remove ⟨_,e,rfl⟩ PySem.F.entry_list_remove (PySem.F.args_list_remove_2 _ _)
  (MeetsSeq.list_remove l b.toArray n (.int z t) (Value.isInt z) (Fz r z t) (xs.idxOf z) (by simpa [←o]using j) ?_ ?_<|by rw[YL,←C];exact f) ⟨e,?_⟩
 ·have e:=Ta r z (xs.idxOf z) (by lia) j;show Value.isInt z b[xs.idxOf z]=true;rw[e];simpa using V1 j
 ·intro m B i;have g:m<b.length:=by simpa using B
  have e:=Ta r z m g (by lia);show Value.isInt z b[m]=false;rw[e]
  have:=List.not_of_lt_findIdx i
  simpa using this
 ·refine⟨.non,_,I.lset (its':=b.eraseIdx (xs.idxOf z)) p e ?_ ?_ ?_,rfl,q⟩
  ·show b.toArray.eraseIdxIfInBounds (xs.idxOf z)=_;rw[List.eraseIdxIfInBounds_toArray]
  ·rw[AE];exact r.eraseIdx _
  ·rw[Yy,List.length_eraseIdx];split<;>lia
end
noncomputable def Ite(K:Zt)(a:Addr):It:=
 ⟨λi H=>∃xs x,SqL K H a xs/\xs[i]?=some x,λi H x b=>∃T v,H T=none/\(∀xs,SqL K H a xs->xs[i]?=some v)/\x=.ref T/\b=upd H T (.tup [.int i,v]),λi H=>∃xs,SqL K H a xs/\xs.length<=i⟩
def Hw{K elts k1 tp}(a e it:Addr)(hne:e≠it) :
  Turn P w K (.Tuple elts k1 tp) (Ite K a) [e,it] e (λi h=>∃old,IsEnum h e it i old/\h.IsListIter it a i) where
 mem:=by simp
 obj:=λi h st b hb=>by
  obtain⟨old,h1,o,h2,_,h3⟩:=st;rcases YA.mp hb with rfl|hb
  ·exact⟨_,h1,λv z=>by cases z⟩
  ·rw[Y3.mp hb];exact⟨o,h2,λv z=>by rw[h3]at z;cases z⟩
 keep:=λi h h' st k=>by
  obtain⟨old,h1,h2⟩:=st;exact⟨old,k e (by simp) _ h1,h2.at λo q=>k it (by simp) o q⟩
 item:=by
  intro X hP hw hK hc i pins s σ H E I hf st hg;subst hP hw hK;obtain⟨old,he,hit⟩:=st;obtain⟨xs,x,hq,hx⟩:=hg;obtain⟨its,rv,p,hz⟩:=I.list hq;obtain⟨u,hu,ru⟩:=rv.get hx;obtain⟨a0,a1,a2,a3,a4,a5⟩:=hf e (by simp);obtain⟨b0,b1,b2,b3,b4,b5⟩:=hf it (by simp);have hfr:=I.hok.fresh (Y1 _);have heL:=Y6 he;have hiL:it<s.heap.objs.size:=by obtain⟨o,ho,_⟩:=hit;exact Y6 ho
  refine wpAny_pyNext_enum_item he hit p.isList (by simpa using hu) hne λh1 eo it1 ht1 hz1 k1=>⟨_,rfl,?_⟩;refine wpAny_letOwnedTupleGo_enum eo λh2 e2 sb2=>?_;have keep2:∀b o,b∉[e,it]->s.heap.get? b=some o->h2.get? b=some o:=λb o hb q=>sb2.extBut b o (λz=>hb (by simp[z])) (k1 b o (λz=>hb (by simp[z])) (λz=>hb (by simp[z])) q)
  have n0:∀b,b∈[e,it]->H b=none:=λb hb=>by
   rcases YA.mp hb with rfl|hb
   ·exact a0
   ·rw[Y3.mp hb];exact b0
  have un:Un (frs X.stack) [e,it] H (upd H s.heap.objs.size<|.tup [.int i,x]) s.heap h2:=by
   refine⟨λb o q _ _ hx'=>keep2 b o hx' q,λb o q _ _ hx'=>⟨o.slots,keep2 b o hx' q⟩,λb o q n _=>by rw[Jg (YJ<|Y6 q)];exact n,λb o q hx'=>⟨o,keep2 b o hx' q⟩,
    λb ys q=>by rw[Jg (J4 q hfr)];exact q,λb o ys q=>by rw[Jg (J4 q hfr)];exact q,λb ps q=>⟨#[],by rw[Jg (J4 q hfr),q];simp⟩⟩
  have ok2:HOk X.prog X.w (upd H s.heap.objs.size<|.tup [.int i,x]) h2:=λb o q=>by
   by_cases hb:b=s.heap.objs.size
   ·subst hb;rw[Js]at q;cases q
    exact⟨by show 2<=sizeLine;decide,[.int i s.toks,u],.cons ⟨_,rfl⟩ (.cons ru .nil),_,(sb2.extBut _ _ (Vk heL) ht1),rfl,_,rfl⟩
   ·rw[Jg hb]at q;refine(I.hok b o q).stay (λc v hc' r=>keep2 c v (λz=>?_) r) (λc r=>by rw[Jg (J4 r hfr)];exact r) λc ys r=>by rw[Jg (J4 r hfr)];exact r
    have hcn:=n0 c z;rcases hc' with rfl|hc'
    ·rw[hcn]at q;cases q
    ·rw[hcn]at hc';cases hc'
  have I2:Inv X pins σ (upd H s.heap.objs.size<|.tup [.int i,x]) {s with heap:=h2,toks:=s.toks+1}:=I.call un ok2 I.bare λb hb=>by
   rcases YA.mp hb with rfl|hb
   ·exact⟨a3,a1,a4,a5⟩
   ·rw[Y3.mp hb];exact⟨b3,b1,b4,b5⟩
  refine⟨.ref s.heap.objs.size,_,I2,rfl,⟨_,x,hfr,λys hy=>by rw[I.list_inj hy hq];exact hx,rfl,rfl⟩,⟨u,?_,it1.at λo q=>sb2.extBut it o (Ne.symm hne) q⟩,λb hb=>?_⟩
  ·have:((i+1:Nat):Int)=(i:Int)+1:=by lia
   rwa[this]
  ·rw[Jg]
   ·exact n0 b hb
   ·rcases YA.mp hb with rfl|hb
    ·exact YJ heL
    ·rw[Y3.mp hb];exact YJ hiL
 done:=by
  intro X hP hw hK hc i pins s σ H E I hf st hg;subst hP hw hK;obtain⟨old,he,hit⟩:=st;obtain⟨xs,hq,hx⟩:=hg;obtain⟨its,rv,p,hz⟩:=I.list hq;obtain⟨b0,b1,b2,b3,b4,b5⟩:=hf it (by simp);have l1:=rv.length;refine wpAny_pyNext_enum_end (I.ok.hd hc) he hit p.isList (by simp;lia) λh' eb=>⟨rfl,?_⟩;exact I.turned (λb o hb q=>eb b o hb q) b0 b1 b3 b4 b5
 self:=by
  intro A i s Q E st q;obtain⟨old,he,hit⟩:=st;have hT:s.TypeIs (.ref e) "enumerate":=⟨_,he,rfl⟩;refine QS hT F.slot_enumerate_iter (WB F.slot_enumerate_iter hT F.entry_enumerate_iter ?_<|F.args_enumerate_iter_1 _);exact Yz ⟨_,rfl, "enumerate",_,hT,F.slot_enumerate_next.lookup,q⟩
noncomputable def Ad(K:Zt)(h:TA):TI:=λf H R=>h f H λg b=>∃a,g=[.ref a]/\(∃xs,SqL K b a xs)/\R (Ite K a) b
def O7{a x p pos}(N:Gl X "enumerate")(M:X.mg "enumerate"=none)(U:PA X [a] x)(L:autoParam (starEach [a] X.env=[(false,eval a X.env)]) au_0) :
  PI X (.Tuple elts k1 tp) (.Call (.Name "enumerate" p) [a] [] pos) (Ad X.K x):=by
 intro pins s v H R I h;refine Call_ (X3 I N M boot_enumerate<|WU (thn (U pos pins s v H _ I h) ?_) L rfl);rintro us f ⟨vs,y,g,B,C⟩;obtain⟨l,Y,⟨xs,hq⟩,q⟩:=C;subst Y;obtain⟨u,rfl,z⟩:=B.one;obtain rfl:=z;obtain⟨G,rv,E,hz⟩:=g.list hq;refine call_enumerate_list E.isList λi Q o J keep=>?_;have I2:Inv X pins v y {f with heap:=i}:=g.kept keep
 have n:f.heap.objs.size+1≠f.heap.objs.size:=Nat.succ_ne_self _;have tn:∃j,IsEnum i (f.heap.objs.size+1) f.heap.objs.size ((0:Nat):Int) j/\i.IsListIter f.heap.objs.size l 0:=⟨_,Q,o⟩;have T:=Hw (P:=X.prog) (w:=X.w) (K:=X.K) (elts:=elts) (k1:=k1) (tp:=tp) l (f.heap.objs.size+1) f.heap.objs.size n;refine T.self X.A 0 {f with heap:=i} _ _ tn ⟨_,_,_,_,y,rfl,I2,T,tn,λb r=>?_,q⟩
 rcases YA.mp r with rfl|r
 ·exact g.fpOk (Qh _) (g.hok.fresh<|Qh _)
 ·rw[Y3.mp r];exact g.fpOk (Y1 _) (g.hok.fresh<|Y1 _)
section
variable {X:Cx}{K:Zt}
def Df(b:autoParam (X.K=K) au_0):MtM X "list.index" (PP K):=by subst b;exact Oh
def SZ{j t name apos cpos T id r}(l:PlainAttrs T)(slot:Slot T name id)(i:typeOf (.builtin id)=pure (.type "method_descriptor"))(q:MtM X id r)(p:PE X o j)(s:PA X (e::es) t)(u:autoParam (X.K=K) au_0)(g:autoParam (attributeBase o name X.env (eval o X.env)=eval o X.env) au_0)
  (h:autoParam (((backTo cpos<|starEach (e::es) X.env).all (λx=>!x.1)&&(backToKw cpos<|keywordEach [] X.env).all (λx=>x.1.isSome)
   && decide ((e::es).length+([]:List Keyword).length+(if ([]:List Keyword).isEmpty then 0 else 1)<30))=true) au_0)
  (f:autoParam ((apos.endLine==cpos.line)=true) au_0) (n:autoParam (starEach (e::es) X.env=(false,eval e X.env)::starEach es X.env) au_0) (b:autoParam ((backTo cpos<|starEach es X.env).any (·.1)=false) au_0) :
  PE X (.Call (.Attribute o name apos) (e::es) [] cpos) (tBM K T r j t):=by
 subst u;exact KW l slot i q p s g h f n b
end
def NI(xs ys:Zv):eqL (xs.map V.int) (ys.map V.int)=decide (xs=ys):=by
 unfold eqL;rw[Yy,Yy];by_cases e:xs=ys
 ·subst e;rw[YG rfl,YG rfl,Vc,WS];intro j i;have f:j<xs.length:=by simpa using i
  rw[Y2,YB,Yx f];show(xs[j]==xs[j])=true;simp
 ·rw[Wr e];by_cases g:xs.length=ys.length
  ·rw[YG g,Vc,Qs];intro b;apply e;apply Vf g;intro j h n
   have:=WS.mp b j (by simpa using h)
   rw[Y2,YB,Yx h,Y2,YB,Yx n]at this;have l:(xs[j]==ys[j])=true:=this;simpa using l
  ·grind
def Xi(xs:Zv):(xs.map V.int).all Ut=true:=by
 rw[List.all_map];exact WS.mpr λ_ _=>rfl
end Own
namespace M
open PySem PySem.Spec PyProof.Rows L2 Own
def LV{b:Type}(R:Hp->V->b->Prop)(H:Hp)(vs:List V)(xs:List b):Prop:=
 vs.length=xs.length/\∀(i:Nat) (x:b),xs[i]?=some x->∃v,vs[i]?=some v/\R H v x
def LAt{b:Type}(R:Hp->V->b->Prop)(H:Hp)(l:Addr)(xs:List b):Prop:=∃f,H l=some (.lst f)/\LV R H f xs
def JU(H:Hp)(v:V)(q:Int×Int):Prop:=∃a,v=.ref a/\H a=some (.tup [.int q.1,.int q.2])
section
variable {α:Type}{R:Hp->V->α->Prop}{H H':Hp}{vs:List V}{xs:List α}{l:Addr}
def LV.get {i:Nat}{v} (h:LV R H vs xs) (e:vs[i]?=some v):∃x,xs[i]?=some x/\R H v x:=by
 have f:i<xs.length:=by rw[←h.1];exact(Wm.mp e).1
 obtain⟨b,g,r⟩:=h.2 i xs[i] (by simp)
 grind
end
def Pd(m:Zv):Prop:=∃a b c d e:Int,m=[a,b,c,d,e]/\(1<=a/\a<=10)/\(1<=b/\b<=9/\(b=1\/b=3\/b=7\/b=9))/\(0<=c/\c<=9)/\(1<=d/\d<=1000)/\(1<=e/\e+d<=1001)
def Field(ps:Zu):Prop:=∀q∈ps,1<=q.1/\q.1<=10/\1<=q.2/\q.2<=1000
def RJ(b:Zv)(k z:Int):z∈SetR.JE b k↔z∈b\/z=k:=by
 unfold SetR.JE;split
 ·grind
 ·simp
theorem AX:∀(ns b:Zv) z,z∈ns.foldl SetR.JE b↔z∈b\/z∈ns
 |[],b,z=>by simp
 |n::r,b,z=>by
  rw[List.foldl_cons,AX r,RJ,YA];constructor
  ·grind
  ·grind
def Zcs(k:Int)(h:b.Nodup):(SetR.JE b k).Nodup:=by
 unfold SetR.JE;split
 ·lia
 ·grind
theorem Dm:∀(ns:Zv) {b:Zv},b.Nodup->(ns.foldl SetR.JE b).Nodup
 |[],_,h=>h
 |n::r,b,h=>Dm r (Zcs n h)
theorem Eh:∀(ns b:Zv),(ns.foldl SetR.JE b).length<=b.length+ns.length
 |[],b=>by simp
 |n::r,b=>by
  have g:=Eh r (SetR.JE b n)
  have f:(SetR.JE b n).length<=b.length+1:=by
   unfold SetR.JE;split
   ·simp
   ·simp
  grind
def F4{l:Zv}(h:l.Pairwise (·<=·))(n:l.Nodup):l.Pairwise (· < ·):=by
 have:=h.and n
 exact this.imp λ{a b} h=>by have:=h.1;have:=h.2;lia
def Ab{g f:Zv}(j:g.Pairwise (· < ·))(i:f.Pairwise (· < ·))(h:∀z,z∈g↔z∈f):g=f:=by
 have n:g.Nodup:=j.imp λ{a b} h=>by lia
 have l:f.Nodup:=i.imp λ{a b} h=>by lia
 exact((Q0 n l).mpr h).eq_of_pairwise (λa b _ _ x y=>by lia) j i
noncomputable def tenL:Zv:=[1,2,3,4,5,6,7,8,9,10]
def Zbi:z∈tenL↔1<=z/\z<=10:=by
 unfold tenL;constructor
 ·intro h;simp only[YA,Ve,or_false]at h;omega
 ·rintro⟨f,b⟩;simp only[YA,Ve,or_false];lia
noncomputable def Jc(ps:Zu):Zv:=tenL.filter λh=>decide (h∈ps.map (·.1))
def Xv(ps:Zu):(Jc ps).Pairwise (· < ·):=List.Pairwise.filter _ (by trivial)
def Pk(b:Field ps){z}:z∈Jc ps↔z∈ps.map (·.1):=by
 unfold Jc;rw[YS,WL,Zbi];constructor
 ·grind
 ·intro h;obtain⟨q,hq,rfl⟩:=YO.mp h
  have:=b q hq
  grind
def UT(ps:Zu):(Jc ps).length<=10:=by
 have:=YV (λh=>decide (h∈ps.map (·.1))) tenL
 trivial
def Zby(b:Field ps)(p:ns.Perm ((ps.map (·.1)).foldl SetR.JE []))(h:ns.Pairwise (·<=·)):ns=Jc ps:=by
 refine Ab (F4 h<|p.symm.nodup<|Dm _ Qi) (Xv ps) λz=>?_;rw[p.mem_iff,AX,Pk b];simp
def DJ(z:Int)(xs:Zv):inV (.int z) (xs.map V.int)=decide (z∈xs):=by
 unfold inV
 induction xs with
 |nil=>rfl
 |cons x r b=>
  show((x==z) || _)=_;by_cases e:x=z
  ·grind
  ·grind
def Mt:tenL=(List.range 10).map λ(i:Nat)=>(1:Int)+(i:Int):=rfl
def R6{os ns}(g:os.Perm (Jc ps))(j:ns.Perm os)(i:ns.Pairwise (·<=·)):ns=Jc ps:=by
 have f:(Jc ps).Nodup:=(Xv ps).imp λ{a b} h=>by lia
 have p:=j.trans g;exact Ab (F4 i<|p.symm.nodup f) (Xv ps) λz=>p.mem_iff
section
variable (ps:Zu)
noncomputable def tpM(y:Int):Nat->Int
 | 0=>0
 |j+1=>tpM y j+(if (ps.getD j (0,0)).1=y then(ps.getD j (0,0)).2 else 0)
noncomputable def pcM(x y:Int):Nat->Int
 | 0=>0
 |k+1=>pcM x y k+(if x≠y/\(ps.getD k (0,0)).1=x then tpM ps y k*(ps.getD k (0,0)).2 else 0)
end
end M
namespace ExcR
open PySem PySem.Spec PyProof.Rows L2
structure JW (fs ex:List Addr) (h h':Heap):Prop where
 keep:∀b o,h.get? b=some o->b∉fs->b∉ex->h'.get? b=some o
 slot:∀b o,h.get? b=some o->b∉ex->∃sl,h'.get? b=some {o with slots:=sl}
 size:h.objs.size<=h'.objs.size
def JW.trans (a:JW fs ex i h) (b:JW fs ex h g):JW fs ex i g:=
 ⟨λc o e n m=>b.keep c o (a.keep c o e n m) n m,λc o e m=>by
  obtain⟨p,l⟩:=a.slot c o e m;obtain⟨f,j⟩:=b.slot c _ l m;exact⟨f,j⟩,Y8 a.size b.size⟩
def JW.mono {fs f ex g}{i h} (a:JW fs ex i h) (j:∀b∈fs,b∈f) (hx:∀b∈ex,b∈g):JW f g i h:=
 ⟨λc o e n m=>a.keep c o e (λz=>n (j c z)) (λz=>m (hx c z)),λc o e m=>a.slot c o e λz=>m (hx c z),a.size⟩
def Zaw(o:Obj)(f):(o.mapFields f).dict=o.dict:=by
 obtain⟨c,d,b,sl⟩:=o;cases b<;>rfl
structure Trc (h:Heap) (e T:Addr) (cls:Value×Z6) (fl:Value):Prop where
 ne:T≠e
 exc:∃oe vs,h.get? e=some oe/\(oe.cls,oe.dict)=cls/\oe.data=.fields vs/\vs[1]?=some (.ref T)
 ent:∃oT ts,h.get? T=some oT/\oT.data=.fields ts/\ts[3]?=some fl
section
variable {M:Model}{A:Around}{E:Zy}{s:Shared}{base:Heap}{env:Env}{outer:List Env}{L e:Addr}
def D6{hadNext Q}(x:A.frames=some (env::outer))(H:s.heap.FunFrames base (env::outer))(hf:env.frame=some L)(J:s.heap.get? e=some r)(y:r.data=.fields vs)(hsz:1<vs.size)(h:∀h' T,s.heap.objs.size<=T->Trc h' e T (r.cls,r.dict) (rawInt L)->JW (frs (env::outer)) [e] s.heap h'->Q () {s with heap:=h'}) :
  wpAny M A (do let a ←frameOf env;let p ←entryPlaceOf L hadNext;let b ←EntryCells.newEntry head a .none (rawInt L) .none p;setField (.ref e) 1 b) Q E s:=by
 have j:e∉frs (env::outer):=λhm=>by
  obtain⟨_,o,G,w⟩:=H.mem hm;rw[J]at G;cases G
  exact w vs y
 refine Yw (wpAny_frameOf_fun x H hf λB g=>Yw (wpAny_entryPlaceOf λp v=>?_));refine Yw (Wn ?_<|v.sizeOk5 _ _ _ _ _);have n:=(g.2.1 e j).trans J;generalize N:({cls:=.type "traceback",dict:=none,data:=.fields ([head,.ref L,.none,rawInt L,.none]++(if p.isEmpty then List.replicate 6 Value.none else p)).toArray}:Obj)=C;have l:=Y0 C n;refine WC l y hsz (h _ B.objs.size (WV g.1.symm) ?_ ?_)
 ·have i:=Vk (Y6 n);have d3:=Ww y (·.setIfInBounds 1 (Value.ref B.objs.size));refine⟨i,⟨_,_,Wu _ l (WD d3),by rw[QR,Zaw],d3,by simp[hsz]⟩,C,_,?_,by rw[←N],?_⟩
  ·exact(Wy _ _<|Ne.symm i).trans (Y7 B<|by rw[←N];rfl)
  ·rfl
 ·refine⟨λb o q Y u=>?_,λb o q u=>?_,?_⟩
  ·have f:b≠e:=λz=>u (by simp[z]);rw[Wy _ _ (Ne.symm f)];exact Y0 _ ((g.2.1 b Y).trans q)
  ·have f:b≠e:=λz=>u (by simp[z]);obtain⟨sl,U⟩:=g.2.2 b o q;exact⟨sl,by rw[Wy _ _ (Ne.symm f)];exact Y0 _ U⟩
  ·rw[Heap.size_update,Heap.size_push,g.1];exact Qh _
def Ig(f:A.frames=some (env::outer))(n:s.heap.FunFrames base (env::outer))(g:env.frame=some L)(i:s.heap.get? e=some b)(j:b.data=.fields vs)(l:vs[1]?=some .none)(h:∀h' T,s.heap.objs.size<=T->Trc h' e T (b.cls,b.dict) (rawInt L)->JW (frs (env::outer)) [e] s.heap h'->Q () {s with heap:=h'}):wpAny M A (noteFrame (.ref e) env) Q E s:=by
 unfold noteFrame;simp only[g];refine Yw (Vy i j l ?_);exact D6 f n g i j (Q1.mp l).1 h
def A9(x:Trc s.heap e T cls J)(h:∀h',Trc h' e T cls .none->JW [] [T] s.heap h'->Q () {s with heap:=h'}) :
  wpAny M A (setField (.ref T) 3 .none) Q E s:=by
 obtain⟨i,⟨r,p,C,B,y,w⟩,H,G,l,j,u⟩:=x;have n:=(Q1.mp u).1;refine WC l j n (h _ ?_ ?_)
 ·have d3:=Ww j (·.setIfInBounds 3 Value.none);exact⟨i,⟨r,p,(Wy _ _ i).trans C,B,y,w⟩,_,_,Wu _ l (WD d3),d3,by simp[n]⟩
 ·have g:∀b,b≠T->(s.heap.update T<|Obj.mapFields (·.setIfInBounds 3 Value.none)).get? b=s.heap.get? b:=λb v=>Wy _ _ (Ne.symm v);exact⟨λb o q _ f=>(g b λz=>f (by grind)).trans q,λb o q f=>⟨o.slots,(g b λz=>f (by grind)).trans q⟩,WV (Heap.size_update ..).symm⟩
def Zbb(j:A.frames=some (env::outer))(N:s.heap.FunFrames base (env::outer))(u:env.frame=some L)(x:Trc s.heap e T cls .none)(h:∀h' f,s.heap.objs.size<=f->Trc h' e f cls (rawInt L)->JW (frs (env::outer)) [e,T] s.heap h'->Q () {s with heap:=h'}):wpAny M A (noteFrame (.ref e) env) Q E s:=by
 obtain⟨ne,⟨oe,vs,g1,g2,g3,Y⟩,oT,y,r,p,J⟩:=id x;unfold noteFrame;simp only[u];refine Yw (Vy g1 g3 Y ?_);refine Yw (Vy r p J ?_);refine Yw (A9 x λh1 v n=>?_)
 have i:=N.of_keeps λb o q g=>⟨o,n.keep b o q (by simp) (λz=>by
  rw[Y3.mp z,r]at q;cases q
  exact g y p),rfl⟩
 obtain⟨_,⟨H,w,G,p2,C,B⟩,_⟩:=id v;refine D6 j i u G C (Q1.mp B).1 λU f l x2 K2=>h U f (Y8 n.size l) (by grind) ?_;exact(n.mono (by simp)<|by simp).trans (K2.mono (λ_ z=>z)<|by simp)
def Gm(x:Trc s.heap e T cls o)(h:∀h',Trc h' e T cls .none->JW [] [T] s.heap h'->Q () {s with heap:=h'}) :
  wpAny M A (setFlight (.ref e) none) Q E s:=by
 obtain⟨l,⟨j,i,g,n,f,b⟩,_⟩:=id x;refine Yw (Vy g f b ?_);exact A9 x h
def OD(i:A.frames=some (env::outer))(u:s.heap.FunFrames base (env::outer))(v:env.frame=some L)(w:s.heap.get? e=some f)(y:f.data=.fields vs)(C:vs[1]?=some .none)(h:∀h' T,s.heap.objs.size<=T->Trc h' e T (f.cls,f.dict) .none->JW (frs (env::outer)) [e] s.heap h'->Q () {s with heap:=h'}):wpAny M A (leaving env<|.ref e) Q E s:=by
 unfold leaving;refine Yw (Ig i u v w y C λG T j x K=>Gm x λB n l=>h B T j n ?_);refine⟨λb o q r g=>l.keep b o (K.keep b o q r g) (by simp) (λz=>?_),λb o q g=>?_,Y8 K.size l.size⟩
 ·rw[Y3.mp z]at q;exact absurd (Y6 q) (V8.mpr j)
 ·obtain⟨sl,p⟩:=K.slot b o q g;exact⟨sl,l.keep b _ p (by simp) (λz=>by rw[Y3.mp z]at q;exact absurd (Y6 q) (V8.mpr j))⟩
def OL(i:A.frames=some (env::outer))(v:s.heap.FunFrames base (env::outer))(w:env.frame=some L)(x:Trc s.heap e T cls .none)(h:∀h' f,s.heap.objs.size<=f->Trc h' e f cls .none->JW (frs (env::outer)) [e,T] s.heap h'->Q () {s with heap:=h'}):wpAny M A (leaving env<|.ref e) Q E s:=by
 refine Yw (Zbb i v w x λB f j p K=>Gm p λy n l=>h y f j n ?_);refine⟨λb o q u g=>l.keep b o (K.keep b o q u g) (by simp) (λz=>?_),λb o q g=>?_,Y8 K.size l.size⟩
 ·rw[Y3.mp z]at q;exact absurd (Y6 q) (V8.mpr j)
 ·obtain⟨sl,r⟩:=K.slot b o q g;exact⟨sl,l.keep b _ r (by simp) (λz=>by rw[Y3.mp z]at q;exact absurd (Y6 q) (V8.mpr j))⟩
end
section
variable {P:Program}{w:World}{H H':Hp}{h h':Heap}{a:Addr}{o:HO}{fs ex:List Addr}
def has(x:ObjOk P w H h a o):∃u,h.get? a=some u:=by
 cases o with
 |lst xs=>exact let ⟨_,_,_,_,e⟩:=x;⟨_,e⟩
 |tup xs=>exact let ⟨_,_,_,u,e,_⟩:=x;⟨u,e⟩
 |dK b|dT b=>exact let ⟨_,_,_,_,u,_,_,e,_⟩:=x;⟨u,e⟩
 |set S n=>exact let ⟨u,_,_,_,e,_⟩:=x;⟨u,e⟩
 |ins C j fs=>exact let ⟨_,_,_,e,_⟩:=x;⟨_,e⟩
 |own y=>exact x
 |xd fs=>exact let ⟨_,⟨u,_,_,e,_⟩,_⟩:=x;⟨u,e⟩
 |rng lo i=>exact let ⟨_,_,_,e⟩:=x;⟨_,e⟩
 |frz g u=>exact⟨_,x.1⟩
 |ext f=>exact x.2.1
 |_=>exact⟨_,x⟩
def Ot(ok:HOk P w H h)(e:h.get? a=none):H a=none:=by
 cases q:H a with
 |none=>rfl
 |some o=>
  obtain⟨u,z⟩:=has (ok a o q)
  grind
def DO(ok:HOk P w H h)(k:JW fs ex h h')(g:∀b∈fs,H b=none)(hx:∀b∈ex,H b=none):HOk P w H h':=λa o e=>by
 refine(ok a o e).stay (λb u i q=>?_) (λ_ q=>q) (λ_ _ q=>q);have f:H b≠none:=by grind
 exact k.keep b u q (λz=>f (g b z)) λz=>f (hx b z)
end
structure XAt (P:Program) (w:World) (outer:List Env) (H H':Hp) (s s':Shared) (a T C:Addr) (dx:Z6):Prop where
 os:s'.os=s.os
 bare:AllBare s'.gens
 un:Un (frs outer) [] H H' s.heap s'.heap
 hok:HOk P w H' s'.heap
 na:s.heap.get? a=none
 nT:s.heap.get? T=none
 fa:H' a=none
 fT:H' T=none
 tr:Trc s'.heap a T (.ref C,dx) .none
noncomputable def CXe(P:Program)(w:World):CXT:=λouter H s E e g=>∃a T C b f,e=.ref a/\XAt P w outer H f s g a T C b/\E (.ref C) b f
section
variable {X:Cx}{pins:Zw}{σ:L2.St}{H H':Hp}{s s':Shared}{a T C:Addr}{dx:Z6}
def D9(I:Inv X pins σ H s)(hex:X.ex=[])(k:JW (frs X.stack) ex s.heap h')(hx:∀b∈ex,X.s₀.heap.get? b=none):Un X.fs [] X.H₀ H X.s₀.heap h':=by
 have B:=I.base;rw[hex]at B;have f:∀b o,X.s₀.heap.get? b=some o->b∉ex:=λb o q z=>by rw[hx b z]at q;cases q
 have p:∀b o,X.s₀.heap.get? b=some o->b∉X.fs->b∉frs X.stack:=λb o q h z=>by
  rcases YA.mp (I.stkSub b z)with e|e
  ·have v:=Y6 q;have u:=I.ok.above
   grind
  ·exact h e
 refine⟨λb o q n h g=>k.keep b o (B.keep b o q n h g) (p b o q h) (f b o q),λb o q n r g=>?_,λb o q n g=>B.free b o q n g,λb o q g=>?_,B.tups,B.frzs,B.tbls⟩
 ·obtain⟨sl,j⟩:=B.slot b o q n r g;obtain⟨i,l⟩:=k.slot b _ j (f b o q)
  grind
 ·obtain⟨o1,j⟩:=B.there b o q g;obtain⟨i,l⟩:=k.slot b _ j (f b o q);exact⟨_,l⟩
def PQ(I:Inv X pins σ H s)(hex:X.ex=[])(e:s.heap.get? b=none):X.s₀.heap.get? b=none:=by
 cases q:X.s₀.heap.get? b with
 |none=>rfl
 |some o=>
  obtain⟨u,z⟩:=I.base.there b o q (by grind)
  grind
variable {E:Zy}
def Zai(I:Inv X pins σ H s)(hex:X.ex=[])(g:X.stack=X.env::X.outer)(i:X.env.frame=some X.env.locals)(x:XAt X.prog X.w X.stack H H' s s' a T C dx) :
  wpAny (model X.prog X.w) X.A (leaving X.env<|.ref a) (λ_ p=>∃j,XAt X.prog X.w X.outer X.H₀ H' X.s₀ p a j C dx) E s':=by
 have J:=I.call' x.os x.un x.hok x.bare λb z=>absurd z (by simp);have l:=J.stack;have n:=J.ok.frames;rw[g]at l n;refine OL n l i x.tr λq j h o k=>⟨j,J.os,J.bare,?_,?_,PQ I hex x.na,?_,x.fa,x.hok.fresh h,o⟩
 ·exact D9 J hex (by rw[g];exact k) λb f=>by
   rcases YA.mp f with rfl|f
   ·exact PQ I hex x.na
   ·rw[Y3.mp f];exact PQ I hex x.nT
 ·refine DO x.hok k (λb f=>J.stkFree b (by grind)) λb f=>?_;rcases YA.mp f with rfl|f
  ·exact x.fa
  ·rw[Y3.mp f];exact x.fT
 ·exact Vi (Y8 J.sz h)
def Zct(J:Inv X pins σ H s)(hex:X.ex=[])(f:X.stack=X.env::X.outer)(j:X.env.frame=some X.env.locals)(o:X.s₀.heap.get? a=none)(r:H a=none)(x:s.heap.get? a=some i)(z:i.cls=.ref C)(l:i.dict=dx)(y:i.data=.fields vs)(B:vs[1]?=some .none) :
  wpAny (model X.prog X.w) X.A (leaving X.env<|.ref a) (λ_ v=>∃n,XAt X.prog X.w X.outer X.H₀ H X.s₀ v a n C dx) E s:=by
 have p:=J.stack;have q:=J.ok.frames;rw[f]at p q;refine OD q p j x y B λG n g u k=>⟨n,J.os,J.bare,?_,?_,o,?_,r,J.hok.fresh g,by rw[←z,←l];exact u⟩
 ·exact D9 J hex (by rw[f];exact k) λb h=>by rw[Y3.mp h];exact o
 ·exact DO J.hok k (λb h=>J.stkFree b (by grind)) λb h=>by rw[Y3.mp h];exact r
 ·exact Vi (Y8 J.sz g)
def IS{f vs}(I:Inv X pins σ H s)(hex:X.ex=[])(g:X.stack=X.env::X.outer)(h:X.env.frame=some X.env.locals)(keeps:∀b o,s.heap.get? b=some o->h'.get? b=some o)(new:s.heap.get? a=none)(l:h'.get? a=some f)(p:f.cls=.ref C)(i:f.dict=dx)(n:f.data=.fields vs)(q:vs[1]?=some .none) :
  wpAny (model X.prog X.w) X.A (leaving X.env<|.ref a) (λ_ j=>∃r,XAt X.prog X.w X.outer X.H₀ H X.s₀ j a r C dx) E {s with heap:=h'}:=
 Zct (s:={s with heap:=h'}) (I.call' (ch:=[]) rfl (Un.kept keeps) (I.hok.kept keeps) I.bare λb z=>absurd z (by simp)) hex g h (PQ I hex new) (Ot I.hok new) l p i n q
end
structure T3 (K:Zt) (C:Addr):Prop where
 q:PySem.W.excIn K C [.type "ValueError",.type "Exception",.type "BaseException",.type "object"] "ValueError.__new__"=true
def T3.obj {K C h} (c:T3 K C) (k:K.In h):∃b N nm q bs hdct sn sub ab col dd k0 k1 k2 k3 k5 i,h.get? C=some (excClassObj nm q C N bs b hdct sn sub ab col dd k0 k1 k2 k3 k5 "ValueError.__new__")/\h.Ns N i/\i "__init__"=none/\
  OwnTail h [.type "ValueError",.type "Exception",.type "BaseException",.type "object"] b:=by
 have e:=c.q;unfold PySem.W.excIn at e;split at e
 next dd G sl x=>
  split at e
  next H b k0 k1 k2 k3 n k5 o j=>
   simp only[YU,beq_iff_eq,V6]at e;obtain⟨⟨⟨⟨⟨B,A⟩,s⟩,z⟩,g⟩,r⟩:=e;subst B A;have p:=k _ _ x;cases G with
   |mk nm bs w v u y sn sub ab col E=>
    simp only at o s g r
    have f:sl=#[k0,k1,k2,k3,some (.builtin "ValueError.__new__"),k5]:=by
     cases sl with
     |mk l=>simp only at j;rw[j]
    rw[o,s,f]at p;exact⟨b,v,nm,u,bs,y,sn,sub,ab,col,dd,k0,k1,k2,k3,k5,_,p,.of_isNs (PySem.W.isNs_of_in k g),PySem.W.nsMap_none_of_in k g r,PySem.W.tail_of_in k z⟩
  next=>cases e
 next=>cases e
abbrev TF:=L2.St->Hp->Str->(Str->Hp->Prop)->Prop
def Bj(X:Cx)(E:XK):Prop:=∀(pins:Zw) (f:L2.St) (H:Hp) (s:Shared) (C a:Addr) (b:Heap) (args:Z1),Inv X pins f H s->Heap.MadeExcOf s.heap b a (.ref C) args->E (.ref C) none H->X.xe (.ref a) {s with heap:=b}
noncomputable def EF(C:Addr)(E:XK)(t:TA):TS:=λ_ b H=>t b H λf g=>f.length<=sizeLine/\E (.ref C) none g
section
variable {X:Cx}{x:Str}{C:Addr}{E:XK}{e:Expr}{es:Z3}{t:TA}{p cpos pos:Pos}
def Mu(c:T3 X.K C)(B:X.mg x=some (.ref C))(M:Bj X E)(J:X.calm=true)(L:PA X (e::es) t)(G:autoParam (Gl X x) au_0)(l:autoParam ((x==("__debug__" : Str))=false) au_1)(o:autoParam (starEach (e::es) X.env=(false,eval e X.env)::starEach es X.env) au_0)(g:autoParam ((backTo cpos<|starEach es X.env).any (·.1)=false) au_0):PS X (.Raise (some<|.Call (.Name x p) (e::es) [] cpos) none pos) (EF C E t):=by
 intro pins s n H D I h;obtain⟨bm,N,nm,q,bs,hdct,sn,sub,ab,col,dd,k0,k1,k2,k3,k5,mN,T,Q,i,r⟩:=c.obj I.ok.mod.kin
 have b:(backTo cpos<|starEach (e::es) X.env).any (·.1)=false:=by
  rw[o];show(false || (backTo cpos<|starEach es X.env).any (·.1))=false;rw[g];rfl
 refine wpAny_Raise_call_subU (nm:=nm) (q:=q) (N:=N) (bs:=bs) (hdct:=hdct) (sn:=sn) (sub:=sub) (ab:=ab) (col:=col) (dd:=dd) (k0:=k0) (k1:=k1) (k2:=k2) (k3:=k3) (k5:=k5)
  PySem.F.excBase_ValueError (by decide +kernel) PySem.F.excBase_ValueError (r.hasType<|by decide +kernel) (I.ok.hd J) b i (BO I G B ⟨rfl,?_⟩ l)
 have u:=L cpos pins s n H _ I h;rw[o]at u ⊢;refine Calls.evalArgs_plain (thn u ?_);rintro v w ⟨vs,Y,f,y,A,z⟩;refine⟨rfl,by rw[←y.length];exact A,f.bk _ _ T,Q.keeps f.bk,r.keeps f.bk,λU a j=>?_⟩;exact M pins n Y w C a U v f j z
end
section
variable {P:Program}{w:World}{K:Zt}{mg:Zx}{base:Heap}{N ps:Z2}{qual x:Str}{scope:Scope}{f:Addr}{cd:Value}{A:Around}{outer:List Env}{s:Shared}{H:Hp}{E:XK}
def FK:Bj (JG (CXe P w) P w K mg base N qual scope f cd A outer s H E) E:=by
 intro pins i h l C a n args I m q;obtain⟨t,b,_,_⟩:=m.there;exact Wl (IS I rfl rfl rfl m.keeps m.new b rfl rfl rfl rfl) (λ_ j ⟨g,y⟩=>⟨a,g,C,none,h,rfl,y,q⟩) λ_ _ z=>z
def FU:XB (CXe P w) (JG (CXe P w) P w K mg base N qual scope f cd A outer s H E) E:=by
 rintro pins i o n e l I ⟨a,T,C,b,h,rfl,y,q⟩;exact Wl (Zai I rfl rfl rfl y) (λ_ j ⟨g,z⟩=>⟨a,g,C,b,h,rfl,z,q⟩) λ_ _ z=>z
def Ft:PassesOwn (model P w) (JG (CXe P w) P w K mg base N qual scope f cd A outer s H E).A (JG (CXe P w) P w K mg base N qual scope f cd A outer s H E).env (JG (CXe P w) P w K mg base N qual scope f cd A outer s H E).xe:=PassesOwn.leaving
def Def.okX {st k sp} (D:Own.Def K mg x st ps) (S:Jd N ps (Jb st)) (len:∀vs H Q E,sp vs H Q E->vs.length=ps.length)
  (g:∀f b A outer s H vs Q E,Jl k (A.deeper<|envOfC x (Jb st) s.heap.objs.size f b)->sp vs H Q E->
   ∃t,PSs (JG (CXe P w) P w K mg base N x (Jb st) f b A outer s H E) (JI st) t/\t {nx:=λ_ r=>Q .non r,rt:=Q} (start N vs) H):Own.Callee P w K mg base (CXe P w) (k+1) x ps sp:=by
 obtain⟨f,y,F,o,p⟩:=D.ex;obtain⟨oc,v,kV,q,u,B,b,z,l,rfl,j,i⟩:=F.ex;exact⟨f,_,EH j i S len λA outer s H vs Q E n h=>g f b A outer s H vs Q E n h,o,F.kp,⟨_,j,rfl⟩,p⟩
end
end ExcR
namespace ExcR
open PySem PySem.Spec PyProof.Rows L2
open Sem (wp)
structure KR (K:Zt) (C:Addr):Prop where
 c:T3 K C
 ga:PySem.W.findIn K (.ref C) "__getattribute__"=some (some<|.builtin "BaseException.__getattribute__")
 gt:PySem.W.findIn K (.ref C) "__getattr__"=some none
 cl:PySem.W.findIn K (.ref C) "__class__"=some (some<|.builtin "object.__class__")
 is:(PySem.W.clsIn K C).isSome=true
end ExcR
namespace ExcR
open PySem PySem.Spec PyProof.Rows L2
noncomputable def B6(a C:Addr)(f:Z6):HO:=.ext λh=>∃o,h.get? a=some o/\(o.cls,o.dict)=(.ref C,f)/\∃b,o.data=.fields b
noncomputable abbrev HJ(a C:Addr):HO:=B6 a C none
noncomputable def IB(i:Nat)(D:Ends):Ends:={nx:=λb H=>D.nx (b.set i none) H,rt:=D.rt,bk:=λb H=>D.bk (b.set i none) H,ct:=λb H=>D.ct (b.set i none) H}
noncomputable def hx(K:Zt)(h:Addr)(i:Nat)(f:TS)(D:Ends):L2.St->XK:=λb c g H=>∃C,c=.ref C/\PySem.W.exmOne K (.ref C) (.ref h)=some true/\
 ∀a,H a=none->f (IB i D) (b.set i<|some<|.ref a) (upd H a<|B6 a C g)
noncomputable def Ud(b:Zx)(x:Str):Addr:=match b x with
 |some (.ref C)=>C
 |_=>0
def Ms(h:b x=some (.ref C)):Ud b x=C:=by unfold Ud;rw[h]
def Zb1{v pos}(h:∃u,X.mg x=some u/\RelV v u)(b:autoParam (Gl X x) au_0)(f:autoParam ((x==("__debug__" : Str))=false) au_1):PE X (.Name x pos) (tC v):=by
 obtain⟨u,i,g⟩:=h;exact OY b i g f
end ExcR
namespace Own
open PySem PySem.Spec PyProof.Rows L2 M
section
variable {X:Cx}{pins:Zw}{σ:L2.St}{H:Hp}{s:Shared}
def Bb{p:Int×Int}{its}(r:Vals [V.int p.1,V.int p.2] its):∃f b,its=[.int p.1 f,.int p.2 b]:=by
 cases r with
 |cons j g=>
  cases g with
  |cons i h=>
   cases h
   obtain⟨f,rfl⟩:=j;obtain⟨b,rfl⟩:=i
   grind
def OH{x y p q u v}(I:Inv X pins σ H s)(T:A.units<cLine)(J:RelV x u)(G:RelV y v)(U:JU H x p)(hq:JU H y q):SeqAt.EqAt A s u v (decide (p=q)):=by
 obtain⟨a,rfl,B⟩:=U;obtain⟨b,rfl,i⟩:=hq;obtain rfl:=J;obtain rfl:=G;by_cases l:a=b
 ·subst l;rw[B]at i
  have e:p=q:=by
   injection i with i;injection i with i;injection i with g f;injection f with f _;exact Prod.ext (V.int.inj g) (V.int.inj f)
  rw[YG e];exact SeqAt.EqAt.same _
 ·obtain⟨_,Q,M,E⟩:=(I.hok a _ B);obtain⟨_,N,L,C⟩:=(I.hok b _ i);obtain⟨w,r,rfl⟩:=Bb M;obtain⟨o,n,rfl⟩:=Bb L
  have h:=SeqAt.RcAt.tuples (e:=λj=>if j=0 then p.1==q.1 else p.2==q.2) E C T (λj g f=>by
   have Y:j=0\/j=1:=by
    have h1':j<2:=g;lia
   rcases Y with rfl|rfl
   ·exact SeqAt.EqAt.int_int _ _ _ _
   ·exact SeqAt.EqAt.int_int _ _ _ _)
  have e:((List.range (min ([Value.int p.1 w,Value.int p.2 r].toArray).size ([Value.int q.1 o,Value.int q.2 n].toArray).size)).all (λj=>if j=0 then p.1==q.1 else p.2==q.2)&&([Value.int p.1 w,Value.int p.2 r].toArray).size==([Value.int q.1 o,Value.int q.2 n].toArray).size)=decide (p=q):=by
   show((List.range 2).all (λj=>if j=0 then p.1==q.1 else p.2==q.2)&&true)=decide (p=q);rw[Bool.and_true];have e2:(List.range 2).all (λj=>if j=0 then p.1==q.1 else p.2==q.2)=((p.1==q.1)&&(p.2==q.2)):=by simp[List.range,List.range.loop]
   rw[e2];by_cases g:p.1=q.1
   ·by_cases f:p.2=q.2
    ·rw[YG (Prod.ext g f)];simp[g,f]
    ·rw[Wr (λz=>f (by rw[z]))];simp[f]
   ·rw[Wr (λz=>g (by rw[z]))];simp[g]
  rw[e]at h;exact SeqAt.EqAt.of_refs l h
noncomputable def eP(H:Hp)(q:Int×Int)(u:Value):Bool:=match u with
 | .ref a=>(match H a with
  |some (.tup [.int i,.int j])=>decide ((i,j)=q)
  |_=>false)
 |_=>false
def DF{p q}(h:JU H v p)(r:RelV v u):eP H q u=decide (p=q):=by
 obtain⟨a,rfl,b⟩:=h;obtain rfl:=r;unfold eP;simp_all
theorem SK:∀{vs us}{ps:Zu},Vals vs us->LV JU H vs ps->us.any (eP H q)=decide (q∈ps)
 |_,_,[],.nil,_=>rfl
 |_,_,_::_,.nil,h|v::vs,u::us,[],.cons _ _,h=>absurd h.1 (by simp)
 |v::vs,u::us,p::ps,.cons r t,h=>by
  obtain⟨g,e,b⟩:=h.2 0 p rfl;cases e
  have f:LV JU H vs ps:=⟨by simpa using h.1,λi x e=>h.2 (i+1) x e⟩;rw[Qz,DF b r,SK t f];by_cases j:p=q
  ·grind
  ·grind
noncomputable def Pv(neg:Bool):R2:=λx y H Q=>∃(l:Addr) (b:Zu) (q:Int×Int),y=.ref l/\JU H x q/\LAt JU H l b/\Q (.bl (if neg then !decide (q∈b)else decide (q∈b))) H
theorem NF{x v q}(I:Inv X pins σ H s)(g:A.units<cLine)(f:RelV x v)(hx:JU H x q):∀{vs us}{ps:Zu},Vals vs us->LV JU H vs ps->∀u∈us,SeqAt.EqAt A s u v (eP H q u)
 |_,_,_,.nil,_,u,b=>by cases b
 |w::vs,u::us,[],.cons _ _,h,_,_=>absurd h.1 (by simp)
 |w::vs,u::us,p::ps,.cons r t,h,j,b=>by
  obtain⟨n,e,hw⟩:=h.2 0 p rfl;cases e
  have l:LV JU H vs ps:=⟨by simpa using h.1,λi x e=>h.2 (i+1) x e⟩;rcases YA.mp b with rfl|b
  ·rw[DF hw r];exact OH I g r f hw hx
  ·exact NF I g f hx t l j b
def Zar(n:X.A.in1.units<cLine):OpR X (compareOp .In) (Pv false):=by
 intro pins s σ H x y v u Q I i g h;obtain⟨l,z,q,rfl,hx,⟨p,o,f⟩,k⟩:=h;cases g
 obtain⟨b,r,j,B⟩:=I.list (SqL.of o);refine SeqAt.in_listAt (eP H q) j.isList (λw hw=>NF I n i hx r f w (by grind)) ⟨.bl _,H,I,rfl,?_⟩;rwa[show b.toArray.any (eP H q)=b.any (eP H q) by simp,SK r f]
def Zbl(n:X.A.in1.units<cLine):OpR X (compareOp .NotIn) (Pv true):=by
 intro pins s σ H x y v u Q I i g h;obtain⟨l,z,q,rfl,hx,⟨p,o,f⟩,k⟩:=h;cases g
 obtain⟨b,r,j,B⟩:=I.list (SqL.of o);refine SeqAt.notIn_listAt (eP H q) j.isList (λw hw=>NF I n i hx r f w (by grind)) ⟨.bl _,H,I,rfl,?_⟩;rwa[show b.toArray.any (eP H q)=b.any (eP H q) by simp,SK r f]
end
end Own
namespace M
open PySem PySem.Spec PyProof.Rows L2 Own
section
variable {α:Type}{R:Hp->V->α->Prop}{H:Hp}
noncomputable def pick(c:α->Bool)(d:V×α):Option V:=if c d.2=true then some d.1 else none
end
end M
namespace Own
open PySem PySem.Spec PyProof.Rows L2 M
section
variable {X:Cx}
noncomputable def Jk(i:Int)(n:Nat):Zv:=(List.range n).map λ(k:Nat)=>i+(k:Int)
end
end Own
namespace Own
open PySem PySem.Spec PyProof.Rows L2
section
variable {X:Cx}{K:Zt}
def Bv(v:X.calm=true)(x:autoParam (X.K=K) au_0):JC X (.builtin "sum") (λxs H Q=>∃(p:Addr) (ns:Zv),xs=[.ref p]/\SqL K H p (ns.map V.int)/\Q (.int ns.sum) H):=by
 subst x;intro pins s A H xs B Q I j h;obtain⟨p,ns,rfl,w,q⟩:=h;obtain⟨u,rfl,l⟩:=j.one;obtain rfl:=l;obtain⟨f,r,n,_⟩:=I.list w;have i:IntsAre f ns:=by simpa using T7 r
 obtain⟨b,hx⟩:=i.allInts.items;have g:=n.isList;rw[hx]at g;refine sum_intListG (I.ok.hd v) g λG C E o=>?_
 have z:ns=b.toList.map (·.1):=by
  rw[←nums_intItems,←hx];exact i.numsOf.symm
 have y:preSum (numAt b) b.size=ns.sum:=by
  rw[preSum_eq,QY (by simp),z]
 rw[y];exact⟨.int ns.sum,H,I.kept o,⟨_,rfl⟩,q⟩
def MH(G:X.calm=true)(L:autoParam (X.K=K) au_0):JC X (.builtin "min") (λxs H Q=>∃(p:Addr) (ns:Zv),xs=[.ref p]/\SqL K H p (ns.map V.int)/\0<ns.length/\∀M,M∈ns->(∀a∈ns,M<=a)->Q (.int M) H):=by
 subst L;intro pins s T H xs U Q I y h;obtain⟨p,ns,rfl,J,l,q⟩:=h;obtain⟨u,rfl,z⟩:=y.one;obtain rfl:=z;obtain⟨g,r,A,_⟩:=I.list J;have o:IntsAre g ns:=by simpa using T7 r
 obtain⟨f,e⟩:=o.allInts.items;have n:=A.isList;rw[e]at n;have b:ns=f.toList.map (·.1):=by rw[←o.numsOf,←nums_intItems,←e]
 have i:0<f.size:=by
  have x:=l;rw[b,Yy,We]at x;exact x
 refine min_intList (I.ok.hd G) n i λv h' Y B C=>?_;obtain⟨t,rfl⟩:=intItems_at B;obtain⟨h1,N⟩:=argBest_lt (numAt f) (f.size-1);refine⟨.int _,H,I.kept C,⟨_,rfl⟩,q _ ?_ λa w=>?_⟩
 ·rw[b,numAt_eq];exact getD_mem (by rw[Yy,We];lia)
 ·rw[b]at w;obtain⟨j,E,rfl⟩:=Wq.mp w;rw[Yy,We]at E
  have:=N j (by lia)
  rw[numAt_eq f j]at this
  grind
theorem BQ:∀{bs}{us:Z1},Vals (bs.map V.bl) us->LSm.BoolsAre us bs
 |[],_,.nil=>.nil
 |b::r,_,.cons h t=>by
  cases h
  exact .cons b (BQ t)
def FP(z:X.calm=true)(C:autoParam (X.K=K) au_0):JC X (.builtin "any") (λxs H Q=>∃(p:Addr) (bs:List Bool),xs=[.ref p]/\SqL K H p (bs.map V.bl)/\Q (.bl<|bs.any id) H):=by
 subst C;intro pins s E H xs G Q I o h;obtain⟨p,bs,rfl,B,q⟩:=h;obtain⟨u,rfl,w⟩:=o.one;obtain rfl:=w;obtain⟨f,r,x,_⟩:=I.list B;have l:=BQ r;have j:=x.isList;have g:p<s.heap.objs.size:=by obtain⟨_,e,_⟩:=j;exact Y6 e
 refine call_any_walk (wpAny_pyIter_list j ?_)
 refine⟨s.heap.objs.size,[s.heap.objs.size,p],[s.heap.objs.size],f.toArray.size,_,_,λi=>(bs[i]?).getD false,rfl,Walks.list (A:=X.A.in1) (I.ok.hd z) _ p (YJ g) f.toArray,
  ⟨⟨_,Y7 _ rfl,rfl,rfl⟩,j.push _⟩,λi v L T U M n=>?_,λN J y=>?_⟩
 ·obtain⟨b,e,rfl⟩:=l.get i v (by grind);simp only[e,Option.getD_some]at n;exact Qc n
 ·have e:((List.range f.toArray.size).any λi=>(bs[i]?).getD false)=bs.any id:=by
   rw[YL,l.length];exact LSm.range_any bs
  rw[e];exact⟨.bl (bs.any id),H,I.kept (LSm.kept_iter y),rfl,q⟩
noncomputable def D3(K:Zt)(neg:Bool):R2:=λx y H Q=>∃(p q:Addr) (xs:List V),x=.ref p/\y=.ref q/\SqL K H p xs/\SqL K H q []/\Q (.bl (if neg then !xs.isEmpty else xs.isEmpty)) H
def Zba(g:X.A.units<cLine)(B:autoParam (X.K=K) au_0):OpR X (compareOp .Eq) (D3 K false):=by
 subst B;intro pins s E H x y v u Q I n l h;obtain⟨p,q,xs,rfl,rfl,z,hq,k⟩:=h;obtain rfl:=n;obtain rfl:=l;obtain⟨G,w,b,_⟩:=I.list z;obtain⟨i,o,p2,_⟩:=I.list hq;have L:=w.length;have J:0=i.length:=o.length;have f:=k;by_cases e:xs.length=0
 ·refine SeqAt.eq_listAt (e:=λ_=>true) b.isList p2.isList (by simp;lia) g (λj M C=>by simp at C;lia) ⟨.bl xs.isEmpty,H,I,?_,f⟩;show _=Value.bool xs.isEmpty
  grind
 ·refine SeqAt.eq_list_lengthsAt b.isList p2.isList (by simp;lia) g ⟨.bl xs.isEmpty,H,I,?_,f⟩;cases xs with
  |nil=>exact absurd rfl e
  |cons a r=>rfl
end
end Own
namespace M
open PySem PySem.Spec PyProof.Rows L2 Own
noncomputable def UW(f:Zu)(b:Zv):Zu:=f.filter λq=>decide (q.1∈b)&&decide (q.2∈b)
noncomputable def Uo(f:Zu)(b:Zv):Zv:=b.filter λh=>decide (h∈(UW f b).map (·.2))
noncomputable def Jr(b:Zu)(f:Zv):Nat->Zv
 | 0=>f
 |n+1=>Uo b (Jr b f n)
def B5(b:Zu)(r:Zv):Prop:=∀(i:Nat) (x y:Int),r[i]?=some x->r[i+1]?=some y->(x,y)∈b
structure Ring (hs:Zv) (ws:Zu) (r:Zv):Prop where
 two:2<=r.length
 nodup:r.Nodup
 sub:∀x∈r,x∈hs
 chain:B5 ws r
 last:∀x y,r[0]?=some x->r[r.length-1]?=some y->(y,x)∈ws
def Ring.ahead (R:Ring g f r) {x} (hx:x∈r):∃y∈r,(y,x)∈f:=by
 obtain⟨i,h,e⟩:=Wq.mp hx;cases i with
 |zero=>
  have b:r.length-1<r.length:=by lia
  exact⟨r[r.length-1],YD b,R.last x _ (by grind) (Yx b)⟩
 |succ i=>
  have b:i<r.length:=by lia
  exact⟨r[i],YD b,R.chain i _ x (Yx b) (by grind)⟩
def mem_peel:x∈Uo f b↔x∈b/\∃y∈b,(y,x)∈f:=by
 unfold Uo UW;rw[YS];constructor
 ·grind
 ·rintro⟨h,y,i,g⟩;refine⟨h,YG (YO.mpr ⟨(y,x),YS.mpr ⟨g,?_⟩,rfl⟩)⟩
  grind
theorem B3(R:Ring g b r):∀n x,x∈r->x∈Jr b g n
 | 0,x,hx=>R.sub x hx
 |n+1,x,hx=>by
  obtain⟨y,f,h⟩:=R.ahead hx;exact mem_peel.mpr ⟨B3 R n x hx,y,B3 R n y f,h⟩
def Be(f:Zu)(b:Zv):(Uo f b).Sublist b:=Vt
theorem DG(b:Zu)(f:Zv):∀n,(Jr b f n).Sublist f
 | 0=>List.Sublist.refl _
 |n+1=>(Be b _).trans (DG b f n)
theorem Gv(b:Zu)(f:Zv):∀n,(∃k,k<n/\Uo b (Jr b f k)=Jr b f k)\/(Jr b f n).length+n<=f.length
 | 0=>.inr (Y1 _)
 |n+1=>by
  rcases Gv b f n with⟨k,j,e⟩|h
  ·grind
  ·by_cases e:Uo b (Jr b f n)=Jr b f n
   ·grind
   ·have i:(Uo b<|Jr b f n).length<(Jr b f n).length:=by
     have l:=(Be b<|Jr b f n).length_le;rcases Nat.lt_or_ge (Uo b<|Jr b f n).length (Jr b f n).length with g|g
     ·exact g
     ·exact absurd ((Be b<|Jr b f n).eq_of_length (by lia)) e
    refine .inr ?_;show(Uo b<|Jr b f n).length+(n+1)<=f.length;lia
theorem Ff(b:Zu)(f:Zv){k}(e:Uo b (Jr b f k)=Jr b f k):∀n,Jr b f (k+n)=Jr b f k
 | 0=>rfl
 |n+1=>by
  show Uo b (Jr b f (k+n))=_;rw[Ff b f e n,e]
theorem NQ:∀{xs ys:Zv},xs.Nodup->(∀x∈xs,x∈ys)->xs.length<=ys.length
 |[],_,_,_=>Wp _
 |x::xs,ys,f,h=>by
  obtain⟨i,g⟩:=Wi.mp f;have j:=NQ g λz b=>(List.mem_erase_of_ne (λe:z=x=>i (e▸b))).mpr (h z<|YT _ b)
  grind
def GJ(E:∀q∈p,q.1≠q.2)(v:g≠[])(h:∀x∈g,∃y∈g,(y,x)∈p):∃r,Ring g p r:=by
 have grow:∀n r,r≠[]->r.Nodup->(∀x∈r,x∈g)->B5 p r->g.length<r.length+n->∃r,Ring g p r:=by
  intro n
  induction n with
  |zero=>
   intro r A s sub w G
   have:=NQ s sub
   lia
  |succ n C=>
   intro r A s sub w G;cases r with
   |nil=>exact absurd rfl A
   |cons x t=>
    obtain⟨y,u,hw⟩:=h x (sub x (Wb ..));by_cases B:y∈x::t
    ·obtain⟨i,L,e⟩:=Wq.mp B
     have J:i≠0:=λz=>by
      subst z;exact E _ hw e.symm
     have o:((x::t).take (i+1)).length=i+1:=by
      rw[Wg];lia
     refine⟨(x::t).take (i+1),by lia,s.sublist (QM _ _),λz l=>sub z (Vp l),λk a b j f=>?_,λa b j f=>?_⟩
     ·have H:k+1<i+1:=by
       have:=(Wm.mp f).1
       lia
      rw[WJ (by lia)]at j;rw[WJ H]at f;exact w k a b j f
     ·rw[o,QD,WJ (by lia),Yx L,e]at f;cases j
      cases f
      exact hw
    ·refine C (y::x::t) (by simp) (Wi.mpr ⟨B,s⟩) (λz l=>?_) (λk a b j f=>?_) (by rw[YX];lia)
     ·rcases YA.mp l with rfl|l
      ·exact u
      ·exact sub z l
     ·cases k with
      |zero=>
       cases j
       cases f
       exact hw
      |succ k=>exact w k a b j f
 obtain⟨x,hx⟩:=List.exists_mem_of_ne_nil g v;exact grow (g.length+1) [x] (by simp) (by simp) (λy u=>by rw[Y3.mp u];exact hx) (λi a b j f=>by simp at f) (by show g.length<1+(g.length+1);lia)
def LJ(j:∀q∈f,q.1≠q.2):Jr f b b.length=[]↔¬ ∃r,Ring b f r:=by
 constructor
 ·rintro h ⟨r,R⟩;have two:=R.two;have l:0<r.length:=by lia
  have:=B3 R b.length r[0] (YD l)
  grind
 ·intro h;rcases Gv f b b.length with⟨k,o,e⟩|n
  ·have i:=Ff f b e (b.length-k);rw[show k+(b.length-k)=b.length by lia]at i;rw[i];by_cases g:Jr f b k=[]
   ·exact g
   ·obtain⟨r,R⟩:=GJ j g (λx hx=>by
     rw[←e]at hx;exact(mem_peel.mp hx).2)
    exact absurd ⟨r,R.two,R.nodup,λx hx=>(DG f b k).subset (R.sub x hx),R.chain,R.last⟩ h
  ·exact WO.mp (by lia)
end M
namespace M
def sl:Zv->Zv->Prop
 |x::xs,y::b=>x<y\/(x=y/\sl xs b)
 |_,_=>False
def sl_cons:sl (l::a) (l::b)↔sl a b:=by
 show(l<l\/(l=l/\sl a b))↔sl a b;constructor
 ·simp
 ·simp
noncomputable def Ju(g:Int):Zv->Int
 |[]=>g
 |x::t=>Ju x t
theorem XJ(g:Int):∀a b,Ju g (a++b)=Ju (Ju g a) b
 |[],b=>rfl
 |x::a,b=>XJ x a b
theorem Bz(g:Int):∀t,(g::t)[t.length]?=some (Ju g t)
 |[]=>rfl
 |x::t=>by
  exact Bz x t
def Path(C:Int->Prop)(b:Zu):Int->Zv->Prop
 |_,[]=>True
 |g,x::t=>C x/\(g,x)∈b/\Path C b x t
section
variable {C:Int->Prop}{ws:Zu}
theorem path_app:∀{g}{a b:Zv},Path C ws g (a++b)↔Path C ws g a/\Path C ws (Ju g a) b
 |g,[],b=>⟨λh=>⟨trivial,h⟩,λh=>h.2⟩
 |g,x::a,b=>by
  constructor
  ·rintro⟨j,i,f⟩
   have:=path_app.mp f
   exact⟨⟨j,i,this.1⟩,this.2⟩
  ·rintro⟨⟨j,i,f⟩,l⟩;exact⟨j,i,path_app.mpr ⟨f,l⟩⟩
theorem Fu:∀{g}{t:Zv},Path C ws g t->∀x∈t,C x
 |g,[],_,x,h=>by cases h
 |g,y::t,⟨f,_,b⟩,x,h=>by
  rcases YA.mp h with rfl|h
  ·lia
  ·exact Fu b x h
theorem GQ:∀{g}{t:Zv},Path C ws g t->B5 ws (g::t)
 |g,[],_=>λi x y l b=>by simp at b
 |g,z::t,⟨l,b,j⟩=>λi x y h f=>by
  cases i with
  |zero=>grind
  |succ i=>exact GQ j i x y h f
end
def Gr(b:Zv)(l:Int):Int->Prop:=λx=>x∈b/\l<x
def Ks(f:Zv)(b:Zu)(l:Int)(t:Zv):Prop:=Path (Gr f l) b l t/\(Ju l t,l)∈b
theorem CN:∀{t:Zv},¬t.Nodup->∃a x b c,t=a++x::(b++x::c)
 |[],h=>absurd Qi h
 |y::t,h=>by
  by_cases f:y∈t
  ·obtain⟨b,c,e⟩:=List.append_of_mem f;exact⟨[],y,b,c,by rw[e];rfl⟩
  ·obtain⟨a,x,b,c,e⟩:=CN λz=>h (Wi.mpr ⟨f,z⟩)
   grind
def Gn{h l t}(s:∀q∈h,q.1≠q.2)(v:l∈i)(f:Ks i h l t)(o:∀u,Ks i h l u->t.length<=u.length):Ring i h (l::t):=by
 have n:t≠[]:=λz=>by
  have g:=f.2;rw[z]at g;exact s _ g rfl
 have p:=Fu f.1;refine⟨by have:=Vu.mpr n;simp;lia,Wi.mpr ⟨λz=>absurd (p l z).2 (by lia),?_⟩,λx hx=>?_,GQ f.1,λx y j g=>?_⟩
 ·refine WH λz=>?_;obtain⟨a,x,b,c,e⟩:=CN z;have j:=f.1;rw[e]at j;obtain⟨r,p2⟩:=path_app.mp j
  have A:Ks i h l (a++x::c):=by
   refine⟨path_app.mpr ⟨r,p2.1,p2.2.1,((path_app (a:=x::b)).mp p2).2.2.2⟩,?_⟩
   have w:Ju l (a++x::c)=Ju l t:=by
    rw[e,XJ,XJ];show Ju x c=Ju x (b++x::c);rw[XJ];rfl
   rw[w];exact f.2
  grind
 ·rcases YA.mp hx with rfl|hx
  ·exact v
  ·exact(p x hx).1
 ·cases j
  simp only[YX,QD]at g;rw[(Bz l t)]at g;cases g
  exact f.2
def PB(b:Zu):Prop:=b.length<=20/\b.Nodup/\∀q∈b,(1<=q.1/\q.1<=10/\1<=q.2/\q.2<=10)/\q.1≠q.2
open Own
noncomputable def exM(ps:Zu)(ns:Zv)(p:Nat):Int:=(ps.getD (ns.getD (p-1) 0-1).toNat (0,0)).2*(ps.getD (ns.getD p 0-1).toNat (0,0)).2
noncomputable def Ue(ns:Zv)(p:Nat):Zv:=ns.take (p-1)++[ns.getD p 0,ns.getD (p-1) 0]++ns.drop (p+1)
def Sv{p}(j:1<=p)(g:p<ns.length):(Ue ns p).Perm ns:=by
 unfold Ue;have i:ns.getD p 0=ns[p]:=by grind
 have h:ns.getD (p-1) 0=ns[p-1]'(by lia):=by grind
 rw[i,h]
 have e:ns=ns.take (p-1)++[ns[p-1]'(by lia),ns[p]]++ns.drop (p+1):=by
  have b:ns.drop (p-1)=ns[p-1]'(by lia)::ns.drop (p-1+1):=WG (by lia);have f:p-1+1=p:=by lia
  rw[f,(WG g)]at b
  calc ns=ns.take (p-1)++ns.drop (p-1):=(List.take_append_drop _ _).symm
   _=_:=by rw[b];simp
 refine List.Perm.trans ?_ (List.Perm.of_eq e.symm);exact List.Perm.append_right _ (List.Perm.append_left _<|List.Perm.swap _ _ _)
def runI_mem:x∈Jk 1 n↔1<=x/\x<=n:=by
 unfold Jk;rw[YO];constructor
 ·grind
 ·intro h;exact⟨(x-1).toNat,Vx.mpr (by lia),by lia⟩
def U8(n:Nat):(Jk 1 n).length=n:=by unfold Jk;rw[Yy,Qe]
end M
namespace Pu
open PySem PySem.Spec PyProof.Rows L2 Own
inductive D where
 |int (i:Int)|bl (b:Bool)|non|str (x:Str)|ty (n:String)|tup (ds:List D)|lst (ds:List D)|scr (ns:Zv)|dK (kvs:List (Key×V))|dT (kvs:List (List Key×V))|loc (a:Addr) (d:D)|err (C:Addr)|ref (a:Addr)|ins (C:Addr) (xs:Z2) (ds:List D)|dF (kvs:List (List Key×V))|erM (C:Addr) (r:Zv)|fL (ns:Zv)
mutual
inductive Rp (K:Zt) (H:Hp):D->V->Prop
 |int (i:Int):Rp K H (.int i) (.int i)
 |bl (b:Bool):Rp K H (.bl b) (.bl b)
 |non:Rp K H .non .non
 |str (x:Str):Rp K H (.str x) (.str x)
 |ty (n:String):Rp K H (.ty n) (.ty n)
 |tup {ds:List D} {vs:List V} {a:Addr}:H a=some (.tup vs)->Rps K H ds vs->Rp K H (.tup ds) (.ref a)
 |lst {ds:List D} {vs:List V} {a:Addr}:H a=some (.lst vs)->Rps K H ds vs->Rp K H (.lst ds) (.ref a)
 |scr {ns:Zv} {a:Addr}:SqL K H a (ns.map V.int)->Rp K H (.scr ns) (.ref a)
 |dK {kvs:List (Key×V)} {a:Addr}:H a=some (.dK kvs)->Rp K H (.dK kvs) (.ref a)
 |dT {kvs:List (List Key×V)} {a:Addr}:H a=some (.dT kvs)->Rp K H (.dT kvs) (.ref a)
 |dF {kvs:List (List Key×V)} {o:Obj} {a:Addr}:H a=some (.frz o<|.dT kvs)->Rp K H (.dF kvs) (.ref a)
 |loc {d:D} {a:Addr}:Rp K H d (.ref a)->Rp K H (.loc a d) (.ref a)
 |err {C a:Addr}:H a=some (ExcR.HJ a C)->Rp K H (.err C) (.ref a)
 |ref (a:Addr):Rp K H (.ref a) (.ref a)
 |erM {C a dx l:Addr} {o:Obj} {r:Zv}:H a=some (ExcR.B6 a C<|some dx)->H dx=some (.xd [("members",.ref l)])->H l=some (.frz o<|.lst<|r.map V.int)->Rp K H (.erM C r) (.ref a)
 |fL {a:Addr} {o:Obj} {ns:Zv}:H a=some (.frz o<|.lst<|ns.map V.int)->Rp K H (.fL ns) (.ref a)
 |ins {C a dx:Addr} {xs:Z2} {ds:List D} {vs:List V}:H a=some (.ins C dx<|xs.zip vs)->xs.length=vs.length->Rps K H ds vs->Rp K H (.ins C xs ds) (.ref a)
inductive Rps (K:Zt) (H:Hp):List D->List V->Prop
 |nil:Rps K H [] []
 |cons {d:D} {v:V} {ds:List D} {vs:List V}:Rp K H d v->Rps K H ds vs->Rps K H (d::ds) (v::vs)
end
section
variable {K:Zt}{H H':Hp}
def Rp.mono (S:Same H H') {d:D}{v:V}:Rp K H d v->Rp K H' d v:=
 Rp.rec (motive_1:=λd v _=>Rp K H' d v) (motive_2:=λg f _=>Rps K H' g f) .int .bl .non .str .ty (λh _ r=>.tup (S _ _ h) r) (λh _ r=>.lst (S _ _ h) r) (λh=>.scr (S.seq h)) (λh=>.dK (S _ _ h)) (λh=>.dT (S _ _ h)) (λh=>.dF (S _ _ h)) (λ_ h=>.loc h) (λh=>.err (S _ _ h)) .ref (λa b c=>.erM (S _ _ a) (S _ _ b) (S _ _ c)) (λh=>.fL (S _ _ h)) (λh e _ r=>.ins (S _ _ h) e r) .nil λ_ _=>.cons
def Rps.mono (S:Same H H') {ds:List D}:∀{vs:List V},Rps K H ds vs->Rps K H' ds vs:=by
 induction ds with
 |nil=>intro _ h;cases h;exact .nil
 |cons _ _ f=>intro _ h;cases h with|cons a b=>exact .cons (Rp.mono S a) (f b)
def Rps.len:∀{ds}{vs:List V},Rps K H ds vs->vs.length=ds.length:=by
 intro ds
 induction ds with
 |nil=>
  intro _ h;cases h
  rfl
 |cons _ _ b=>
  intro _ h;cases h with
  |cons h r=>
   exact Wz (· + 1) (b r)
def Rps.get:∀{ds vs}{i:Nat}{d:D},Rps K H ds vs->ds[i]?=some d->∃v,vs[i]?=some v/\Rp K H d v:=by
 intro ds
 induction ds with
 |nil=>
  intro _ i _ h e;simp at e
 |cons _ _ b=>
  intro _ i d h e;cases h with
  |cons h r=>
   cases i with
   |zero=>
    simp at e;subst e;exact⟨_,rfl,h⟩
   |succ i=>
    obtain⟨v,g,f⟩:=b r (by simpa using e);exact⟨v,by simpa using g,f⟩
theorem Rps.getV:∀{ds vs}{i:Nat}{v:V},Rps K H ds vs->vs[i]?=some v->∃d,ds[i]?=some d/\Rp K H d v
 |_,_,_,_,.nil,e=>by simp at e
 |_,_,0,_,.cons h _,e=>by simp at e;subst e;exact⟨_,rfl,h⟩
 |_,_,i+1,d,.cons _ r,e=>by
  obtain⟨v,f,b⟩:=Rps.getV r (by trivial)
  grind
def Rps.append:∀{ds es}{vs us:List V},Rps K H ds vs->Rps K H es us->Rps K H (ds++es) (vs++us):=by
 intro ds
 induction ds with
 |nil=>
  intro _ _ _ h s;cases h
  exact s
 |cons _ _ b=>
  intro _ _ _ h s;cases h with
  |cons h r=>
   exact .cons h (b r s)
theorem Rps.drop:∀{ds vs} n,Rps K H ds vs->Rps K H (ds.drop n) (vs.drop n)
 |_,_,0,r=>r
 |_,_,_+1,.nil=>.nil
 |_,_,n+1,.cons _ r=>Rps.drop n r
theorem Rps.take:∀{ds vs} n,Rps K H ds vs->Rps K H (ds.take n) (vs.take n)
 |_,_,0,_|_,_,_+1,.nil=>.nil
 |_,_,n+1,.cons h r=>.cons h (Rps.take n r)
end
mutual
noncomputable def imm:D->Bool
 | .tup b=>Jz b
 | .lst _=>false
 | .scr _=>false
 | .dK _=>false
 | .dT _=>false
 | .loc _ _=>false
 | .err _=>false
 | .erM _ _=>false
 | .ins _ _ _=>false
 |_=>true
noncomputable def Jz:List D->Bool
 |[]=>true
 |d::r=>imm d&&Jz r
end
open Classical in
noncomputable def off(Z:Addr->Prop)(H:Hp):Hp:=λb=>if Z b then none else H b
section
variable {K:Zt}{H H':Hp}{Z Z':Addr->Prop}
def XD(h:off Z H b=some o):H b=some o/\¬Z b:=by
 unfold off at h;by_cases z:Z b
 ·grind
 ·grind
def Ui(h:H b=some o)(z:¬Z b):off Z H b=some o:=by
 unfold off
 grind
def Jn(S:Same H H')(g:∀b o,H b=some o->¬Z b->¬Z' b):Same (off Z H) (off Z' H'):=λb o h=>by
 obtain⟨f,i⟩:=XD h;exact Ui (S b o f) (g b o f i)
def off_sub:Same (off Z H) H:=λ_ _ h=>(XD h).1
def Rp.off (p:∀b,Z b->Mut (H b)) {d:D}{v:V}:Rp K H d v->imm d=true->Rp K (off Z H) d v:=by
 have g:∀{a o},H a=some o->¬Mut (some o)->Pu.off Z H a=some o:=λh n=>Ui h λz=>n (h▸p _ z);have f:∀{d} {P:Prop},imm d=false->imm d=true->P:=λh e=>by rw[h]at e;cases e
 exact Rp.rec (motive_1:=λd v _=>imm d=true->Rp K (Pu.off Z H) d v) (motive_2:=λj l _=>Jz j=true->Rps K (Pu.off Z H) j l) (λi _=>.int i) (λb _=>.bl b) (λ_=>.non) (λx _=>.str x) (λn _=>.ty n) (λh _ r e=>.tup (g h id) (r<|by unfold imm at e;exact e)) (λ_ _ _=>f (by unfold imm;rfl)) (λ_=>f (by unfold imm;rfl)) (λ_=>f (by unfold imm;rfl)) (λ_=>f (by unfold imm;rfl)) (λh _=>.dF (g h id)) (λ_ _=>f (by unfold imm;rfl)) (λ_=>f (by unfold imm;rfl)) (λa _=>.ref a) (λ_ _ _=>f (by unfold imm;rfl)) (λh _=>.fL (g h id)) (λ_ _ _ _=>f (by unfold imm;rfl)) (λ_=>.nil) (λ_ _ a b e=>by
  unfold Jz at e;rw[YU]at e;exact .cons (a e.1) (b e.2))
def Rps.off (g:∀b,Z b->Mut (H b)) {ds:List D}:∀{vs:List V},Rps K H ds vs->Jz ds=true->Rps K (off Z H) ds vs:=by
 induction ds with
 |nil=>intro _ h _;cases h;exact .nil
 |cons _ _ f=>
  intro _ h e;unfold Jz at e;rw[YU]at e;cases h with|cons a b=>exact .cons (Rp.off g a e.1) (f b e.2)
end
inductive O where
 |lst (ds:List D)|dK (kvs:List (Key×V))|dT (kvs:List (List Key×V))|ins (a C:Addr) (xs:Z2) (cs:List (Addr×List D))|lsA (a:Addr) (ds:List D)|nst (cs:List (Addr×List D))|nsl (a:Addr) (cs:List (Addr×List D))|vls (a C:Addr) (xs:Z2) (vs:List (Addr×List (Addr×List D)))|tl (a:Addr) (ds:List D) (i:Int)
instance:Coe (List D) O:=⟨O.lst⟩
noncomputable def O.d:O->D
 | .lst f=>.lst f | .dK b=>.dK b | .dT b=>.dT b | .ins _ C xs g=>.ins C xs (g.map λc=>.lst c.2) | .lsA _ f=>.lst f | .nst g=>.tup (g.map λc=>.lst c.2) | .nsl _ g=>.lst (g.map λc=>.lst c.2) | .vls _ C xs h=>.lst (h.map λv=>.ins C xs (v.2.map λc=>.lst c.2)) | .tl _ f i=>.tup [.lst f,.int i]
def O.adr (a:Addr):O->Addr->Prop
 | .lst _=>λb=>b=a
 | .dK _=>λb=>b=a
 | .dT _=>λb=>b=a
 | .ins x _ _ f=>λb=>b=x\/∃c∈f,b=c.1
 | .lsA x _=>λb=>b=x
 | .nst f=>λb=>∃c∈f,b=c.1
 | .tl x _ _=>λb=>b=x
 | .nsl x f=>λb=>b=x\/∃c∈f,b=c.1
 | .vls x _ _ g=>λb=>b=x\/∃v∈g,b=v.1\/∃c∈v.2,b=c.1
def OR(K:Zt)(F H:Hp)(a:Addr):O->Prop
 | .lst n=>∃f,H a=some (.lst f)/\Rps K F n f
 | .dK h=>H a=some (.dK h)
 | .dT h=>H a=some (.dT h)
 | .lsA x n=>a=x/\∃f,H a=some (.lst f)/\Rps K F n f
 | .ins x C xs g=>a=x/\xs.length=g.length/\(∃p,H a=some (.ins C p<|xs.zip (g.map λc=>V.ref c.1)))/\(∀c∈g,∃f,H c.1=some (.lst f)/\Rps K F c.2 f)/\(g.map (·.1)).Nodup
 | .nsl x g=>a=x/\H a=some (.lst (g.map λc=>V.ref c.1))/\(∀c∈g,∃f,H c.1=some (.lst f)/\Rps K F c.2 f)/\(x::g.map (·.1)).Nodup
 | .vls x C xs l=>a=x/\H a=some (.lst (l.map λw=>V.ref w.1))/\(∀w∈l,xs.length=w.2.length/\(∃p,H w.1=some (.ins C p<|xs.zip (w.2.map λc=>V.ref c.1)))/\∀c∈w.2,∃f,H c.1=some (.lst f)/\Rps K F c.2 f)/\(∀w∈l,(w.2.map (·.1)).Nodup/\¬(x=w.1\/∃c∈w.2,x=c.1))/\∀(i j:Nat) (w o:Addr×List (Addr×List D)) (b:Addr),l[i]?=some w->l[j]?=some o->(b=w.1\/∃c∈w.2,b=c.1)->(b=o.1\/∃c∈o.2,b=c.1)->i=j
 | .tl x n i=>F a=some (.tup [.ref x,.int i])/\∃f,H x=some (.lst f)/\Rps K F n f
 | .nst g=>F a=some (.tup (g.map λc=>V.ref c.1))/\(∀c∈g,∃f,H c.1=some (.lst f)/\Rps K F c.2 f)/\(g.map (·.1)).Nodup
def OR.mono {K F B H A}{a o} (r:Same F B) (n:∀b,o.adr a b->∀x,H b=some x->A b=some x) (h:OR K F H a o):OR K B A a o:=by
 cases o with
 |lst y=>obtain⟨f,j,g⟩:=h;exact⟨f,n _ rfl _ j,Rps.mono r g⟩
 |lsA x y=>obtain⟨rfl,f,j,g⟩:=h;exact⟨rfl,f,n _ rfl _ j,Rps.mono r g⟩
 |nsl x z=>
  obtain⟨e,j,g,q⟩:=h;exact⟨e,n _ (.inl e) _ j,λc p=>let ⟨f,u,s⟩:=g c p;⟨f,n _ (.inr ⟨c,p,rfl⟩) _ u,Rps.mono r s⟩,q⟩
 |vls x C xs J=>
  obtain⟨e,j,g,q⟩:=h;refine⟨e,n _ (.inl e) _ j,λw hw=>?_,q⟩;obtain⟨l,⟨v,G⟩,E⟩:=g w hw;exact⟨l,⟨v,n _ (.inr ⟨w,hw,.inl rfl⟩) _ G⟩,λc p=>let ⟨f,u,s⟩:=E c p;⟨f,n _ (.inr ⟨w,hw,.inr ⟨c,p,rfl⟩⟩) _ u,Rps.mono r s⟩⟩
 |tl x y i=>obtain⟨j,f,g,q⟩:=h;exact⟨r _ _ j,f,n _ rfl _ g,Rps.mono r q⟩
 |nst z=>
  obtain⟨j,g,q⟩:=h;exact⟨r _ _ j,λc p=>let ⟨f,u,s⟩:=g c p;⟨f,n _ ⟨c,p,rfl⟩ _ u,Rps.mono r s⟩,q⟩
 |ins x C xs z=>
  obtain⟨e,l,⟨v,j⟩,g,q⟩:=h;exact⟨e,l,⟨v,n _ (.inl e) _ j⟩,λc p=>let ⟨f,u,s⟩:=g c p;⟨f,n _ (.inr ⟨c,p,rfl⟩) _ u,Rps.mono r s⟩,q⟩
 |_=>exact n _ rfl _ h
theorem UU{K F}:∀{b:List (Addr×List D)},(∀c∈b,∃vs,F c.1=some (.lst vs)/\Rps K F c.2 vs)->Rps K F (b.map λc=>.lst c.2) (b.map λc=>V.ref c.1)
 |[],_=>.nil
 |c::b,h=>let ⟨_,g,f⟩:=h c Wb;.cons (.lst g f) (UU λj i=>h j (YT _ i))
theorem TR{K:Zt}{F:Hp}{C:Addr}{xs:Z2}:∀{b:List (Addr×List (Addr×List D))},(∀w∈b,xs.length=w.2.length/\(∃j,F w.1=some (.ins C j<|xs.zip (w.2.map λc=>V.ref c.1)))/\∀c∈w.2,∃vs,F c.1=some (.lst vs)/\Rps K F c.2 vs)->Rps K F (b.map λw=>.ins C xs (w.2.map λc=>.lst c.2)) (b.map λw=>V.ref w.1)
 |[],_=>.nil
 |w::b,h=>let ⟨l,⟨_,i⟩,g⟩:=h w Wb;.cons (.ins i (by rw[Yy];exact l)<|UU g) (TR λf hw=>h f (YT _ hw))
def OR.rpIn {K F y H a o} (q:Same F y) (j:∀b,o.adr a b->∀x,H b=some x->y b=some x) (h:OR K F H a o):Rp K y o.d (.ref a):=by
 cases o with
 |lst A=>obtain⟨p,g,f⟩:=h;exact .lst (j _ rfl _ g) (Rps.mono q f)
 |dK v=>exact .dK (j _ rfl _ h)
 |dT v=>exact .dT (j _ rfl _ h)
 |lsA x A=>obtain⟨rfl,p,g,f⟩:=h;exact .lst (j _ rfl _ g) (Rps.mono q f)
 |nsl x B=>
  obtain⟨e,g,f,u⟩:=h;exact .lst (j _ (.inl e) _ g) (UU λc n=>let ⟨p,s,r⟩:=f c n;⟨p,j _ (.inr ⟨c,n,rfl⟩) _ s,Rps.mono q r⟩)
 |vls x C xs J=>
  obtain⟨e,g,f,u⟩:=h;refine .lst (j _ (.inl e) _ g) (TR λw hw=>?_);obtain⟨l,⟨z,G⟩,E⟩:=f w hw;exact⟨l,⟨z,j _ (.inr ⟨w,hw,.inl rfl⟩) _ G⟩,λc n=>let ⟨p,s,r⟩:=E c n;⟨p,j _ (.inr ⟨w,hw,.inr ⟨c,n,rfl⟩⟩) _ s,Rps.mono q r⟩⟩
 |tl x A i=>obtain⟨g,p,f,u⟩:=h;exact .tup (q _ _ g) (.cons (.lst (j _ rfl _ f)<|Rps.mono q u)<|.cons (.int i) .nil)
 |nst B=>
  obtain⟨g,f,u⟩:=h;exact .tup (q _ _ g) (UU λc n=>let ⟨p,s,r⟩:=f c n;⟨p,j _ ⟨c,n,rfl⟩ _ s,Rps.mono q r⟩)
 |ins x C xs B=>
  obtain⟨e,l,⟨z,g⟩,f,u⟩:=h;exact .ins (j _ (.inl e) _ g) (by grind) (UU λc n=>let ⟨p,s,r⟩:=f c n;⟨p,j _ (.inr ⟨c,n,rfl⟩) _ s,Rps.mono q r⟩)
def OR.rp {K F H a o} (b:Same F H) (h:OR K F H a o):Rp K H o.d (.ref a):=h.rpIn b λ_ _ _ e=>e
def OR.mut {K F H a o} (h:OR K F H a o):∀b,o.adr a b->Mut (H b):=by
 cases o with
 |lst u=>obtain⟨r,j,g⟩:=h;intro b e;rw[show b=a from e,j];trivial
 |dK p=>intro b e;rw[show b=a from e,show H a=some (.dK p)from h];trivial
 |dT p=>intro b e;rw[show b=a from e,show H a=some (.dT p)from h];trivial
 |lsA x u=>obtain⟨rfl,r,j,g⟩:=h;intro b e;rw[show b=a from e,j];trivial
 |nsl x v=>
  obtain⟨e,j,g,s⟩:=h;intro b f;rcases f with f|⟨c,q,f⟩
  ·rw[show b=a from f.trans e.symm,j];trivial
  ·obtain⟨r,n,_⟩:=g c q;rw[f,n];trivial
 |vls x C xs B=>
  obtain⟨e,j,g,s⟩:=h;intro b f;rcases f with f|⟨w,hw,f|⟨c,q,f⟩⟩
  ·rw[show b=a from f.trans e.symm,j];trivial
  ·obtain⟨_,⟨A,z⟩,_⟩:=g w hw;rw[f,z];trivial
  ·obtain⟨_,_,y⟩:=g w hw;obtain⟨r,n,_⟩:=y c q;rw[f,n];trivial
 |tl x u i=>obtain⟨_,r,g,_⟩:=h;intro b e;rw[show b=x from e,g];trivial
 |nst v=>
  obtain⟨j,g,s⟩:=h;rintro b ⟨c,q,f⟩;obtain⟨r,n,_⟩:=g c q;rw[f,n];trivial
 |ins x C xs v=>
  obtain⟨e,l,⟨A,j⟩,g,s⟩:=h;intro b f;rcases f with f|⟨c,q,f⟩
  ·rw[show b=a from f.trans e.symm,j];trivial
  ·obtain⟨r,n,_⟩:=g c q;rw[f,n];trivial
inductive S where
 |bor (d:D)|sh (d:D)|own (o:O)|view (o:O)|tmp (d:D)
abbrev Γ:=List (Option S)
noncomputable def D.strip:D->D
 | .loc _ d=>d|d=>d
def Rp.strip {K H d v} (h:Rp K H d v):Rp K H d.strip v:=by
 cases h with
 |loc h=>exact h
 |int i=>exact .int i
 |bl b=>exact .bl b
 |non=>exact .non
 |str x=>exact .str x
 |ty n=>exact .ty n
 |tup h r=>exact .tup h r
 |lst h r=>exact .lst h r
 |scr h=>exact .scr h
 |dK h=>exact .dK h
 |dT h=>exact .dT h
 |dF h=>exact .dF h
 |err h=>exact .err h
 |ref a=>exact .ref a
 |erM j g f=>exact .erM j g f
 |fL h=>exact .fL h
 |ins h e r=>exact .ins h e r
noncomputable def S.d:S->D
 | .bor d=>d.strip | .sh d=>d | .own o=>o.d | .view o=>o.d | .tmp d=>d
noncomputable def arg(d:D):S:=match imm d with|true=>.sh d|false=>.bor d
noncomputable def J5(d:D):S:=match imm d with|true=>.sh d|false=>.tmp d
noncomputable def S.sub:S->D->S
 | .bor _,e=>arg e | .tmp _,e=>J5 e | .own (.nst _),e=>J5 e | .view (.nst _),e=>J5 e | .own (.nsl _ _),e=>J5 e | .view (.nsl _ _),e=>J5 e | .own (.vls _ _ _ _),e=>J5 e | .view (.vls _ _ _ _),e=>J5 e | .own (.tl _ _ _),e=>J5 e | .view (.tl _ _ _),e=>J5 e|_,e=>.sh e
noncomputable def S.shd:S->Option D
 | .sh d=>some d | .own o=>some o.d
 | .bor d=>match imm d with|true=>some d|false=>none
 | .tmp d=>match imm d with|true=>some d|false=>none
 | .view _=>none
noncomputable def S.slot:S->Option S
 | .view _=>none | .bor d=>some (.bor d) | .sh d=>some (.sh d) | .own b=>some (.own b)
 | .tmp d=>match imm d with|true=>some (.sh d)|false=>none
def DX(h:Γ)(g:L2.St)(b:Addr):Prop:=∃(i:Nat) (f:O) (a:Addr),h[i]?=some (some<|.own f)/\g[i]?=some (some<|.ref a)/\f.adr a b
def zof(B:Addr->Prop)(g:Γ)(f:L2.St):Addr->Prop:=λb=>B b\/DX g f b
def SV(K:Zt)(Z:Addr->Prop)(f H:Hp):S->V->Prop
 | .bor d,v=>Rp K f d v
 | .sh d,v=>Rp K (off Z H) d v
 | .own o,v=>∃a,v=.ref a/\(∀b,o.adr a b->f b=none)/\OR K (off Z H) H a o
 |_,_=>False
def TV(K:Zt)(Z:Addr->Prop)(g H f:Hp):S->V->Prop
 | .bor d,v=>Rp K g d v
 | .sh d,v=>Rp K (off Z f) d v
 | .own o,v=>∃a,v=.ref a/\(∀b,o.adr a b->H b=none)/\OR K (off (λb=>Z b\/o.adr a b) f) f a o
 | .view o,v=>∃a,v=.ref a/\OR K (off Z f) f a o
 | .tmp d,v=>Rp K f d v
structure Jf (K:Zt) (H0:Hp) (B:Addr->Prop) (H:Hp) (σ:L2.St) (γ:Γ):Prop where
 same:Same H0 H
 len:σ.length=γ.length
 bm:∀b,B b->Mut (H b)
 own:∀(i j:Nat) (a a':Addr) (ds es:O) (b:Addr),γ[i]?=some (some<|.own ds)->γ[j]?=some (some<|.own es)->σ[i]?=some (some<|.ref a)->σ[j]?=some (some<|.ref a')->ds.adr a b->es.adr a' b->i=j
 slot:∀(i:Nat) (s:S),γ[i]?=some (some s)->∃v,σ[i]?=some (some v)/\SV K (zof B γ σ) H0 H s v
section
variable {K:Zt}{H0 H H1 H':Hp}{B Z Z':Addr->Prop}{σ:L2.St}{γ:Γ}
def Uy(S:Same H H'){b}(h:Mut (H b)):Mut (H' b):=by
 cases e:H b with
 |none=>rw[e]at h;exact h.elim
 |some o=>rw[S b o e,←e];exact h
def T9(h:Mut (H b)):∃o,H b=some o:=by
 cases e:H b with
 |none=>rw[e]at h;exact h.elim
 |some o=>grind
def Jf.grow (E:Jf K H0 B H σ γ) (S:Same H H'):Jf K H0 B H' σ γ where
 same:=E.same.trans S
 len:=E.len
 bm b h:=Uy S (E.bm b h)
 own:=E.own
 slot i s h:=by
  obtain⟨v,h1,h2⟩:=E.slot i s h;refine⟨v,h1,?_⟩;cases s with
  |bor d=>trivial
  |sh d=>exact Rp.mono (Jn S λ_ _ _ z=>z) h2
  |own ds=>
   obtain⟨a,e1,e3,e4⟩:=h2;exact⟨a,e1,e3,e4.mono (Jn S λ_ _ _ z=>z) λb _ x=>S b x⟩
  |_=>exact h2
def Jf.zm (E:Jf K H0 B H σ γ):∀b,zof B γ σ b->Mut (H b):=λb h=>by
 rcases h with h|⟨i,q,x,l,j,g⟩
 ·exact E.bm b h
 ·obtain⟨v,f,a,o,p,n⟩:=E.slot i _ l;rw[j]at f;cases f
  cases o
  exact n.mut b g
def TV.rp (b:Same H0 H') (h:TV K Z H0 H H' s v):Rp K H' s.d v:=by
 cases s with
 |bor d=>exact(Rp.mono b h).strip
 |sh d=>exact Rp.mono off_sub h
 |own f=>
  obtain⟨a,rfl,_,r⟩:=h;exact r.rp off_sub
 |view f=>
  obtain⟨a,rfl,r⟩:=h;exact r.rp off_sub
 |tmp d=>exact h
def TV.grow (f:Same H' H1) (h:TV K Z H0 H H' s v):TV K Z H0 H H1 s v:=by
 cases s with
 |bor d=>exact h
 |sh d=>exact Rp.mono (Jn f λ_ _ _ z=>z) h
 |own i=>
  obtain⟨a,rfl,g,r⟩:=h;exact⟨a,rfl,g,r.mono (Jn f λ_ _ _ z=>z) λb _ x=>f b x⟩
 |view i=>
  obtain⟨a,rfl,r⟩:=h;exact⟨a,rfl,r.mono (Jn f λ_ _ _ z=>z) λb _ x=>f b x⟩
 |tmp d=>exact Rp.mono f h
def TV.weak (l:Same H H1) (f:∀b,Z b->Z' b) (h:TV K Z' H0 H1 H' s v):TV K Z H0 H H' s v:=by
 cases s with
 |sh d=>exact Rp.mono (Jn (Same.refl _) λb _ _ z y=>z (f b y)) h
 |own j=>
  obtain⟨a,rfl,i,r⟩:=h;exact⟨a,rfl,λb g=>l.free (i b g),r.mono (Jn (Same.refl _) λb _ _ z y=>z (y.imp (f b) id)) λ_ _ _ q=>q⟩
 |view j=>
  obtain⟨a,rfl,r⟩:=h;exact⟨a,rfl,r.mono (Jn (Same.refl _) λb _ _ z y=>z (f b y)) λ_ _ _ q=>q⟩
 |_=>exact h
def TV.shd (l:Same H0 H') (i:∀b,Z b->Mut (H b)) (p:Same H H') (h:TV K Z H0 H H' s v) (e:s.shd=some d):Rp K (off Z H') d v:=by
 have f:=λb z=>Uy p (i b z);cases s with
 |bor g=>
  unfold S.shd at e;cases q:imm g with
  |false=>simp_all
  |true=>
   simp[q]at e;subst e;exact Rp.off f (Rp.mono l h) q
 |sh g=>cases e;exact h
 |own o=>
  cases e
  obtain⟨a,rfl,n,r⟩:=h;exact r.rpIn (Jn (Same.refl _) λb _ _ z y=>z (.inl y)) λb j x e=>Ui e λz=>by have:=i _ z;rw[n b j]at this;exact this
 |view o=>cases e
 |tmp g=>
  unfold S.shd at e;cases q:imm g with
  |false=>simp[q]at e
  |true=>
   simp[q]at e;subst e;exact Rp.off f h q
def P0(f:∀b,Z b->Mut (H' b))(g:Same H0 H')(h:Rp K H0 d v):TV K Z H0 H H' (arg d) v:=by
 unfold arg;cases q:imm d with
 |true=>exact Rp.off f (Rp.mono g h) q
 |false=>exact h
def Uj(f:∀b,Z b->Mut (H' b))(h:Rp K H' d v):TV K Z H0 H H' (J5 d) v:=by
 unfold J5;cases q:imm d with
 |true=>exact Rp.off f h q
 |false=>exact h
def Rp.lst_inv (h:Rp K H (.lst ds) v):∃a vs,v=.ref a/\H a=some (.lst vs)/\Rps K H ds vs:=by
 cases h with
 |lst h r=>grind
def Rp.tup_inv (h:Rp K H (.tup ds) v):∃a vs,v=.ref a/\H a=some (.tup vs)/\Rps K H ds vs:=by
 cases h with
 |tup h r=>grind
def TV.part (N:Same H0 H') (hm:∀b,Z b->Mut (H b)) (S1:Same H H') (h:TV K Z H0 H H' s v) :
  (∀ds,s.d=.lst ds->∃a vs,v=.ref a/\H' a=some (.lst vs)/\vs.length=ds.length/\∀(i:Nat) d,ds[i]?=some d->∃u,vs[i]?=some u/\TV K Z H0 H H' (s.sub d) u)/\
  (∀ds,s.d=.tup ds->∃a vs,v=.ref a/\H' a=some (.tup vs)/\vs.length=ds.length/\∀(i:Nat) d,ds[i]?=some d->∃u,vs[i]?=some u/\TV K Z H0 H H' (s.sub d) u):=by
 have j:=λb z=>Uy S1 (hm b z);cases s with
 |bor d=>
  have h:=Rp.strip h;refine⟨λds e=>?_,λds e=>?_⟩<;>rw[show d.strip=_ from e]at h
  ·obtain⟨a,vs,rfl,h,r⟩:=Rp.lst_inv h;exact⟨_,_,rfl,N _ _ h,r.len,λi d e=>let ⟨u,g,f⟩:=r.get e;⟨u,g,P0 j N f⟩⟩
  ·obtain⟨a,vs,rfl,h,r⟩:=Rp.tup_inv h;exact⟨_,_,rfl,N _ _ h,r.len,λi d e=>let ⟨u,g,f⟩:=r.get e;⟨u,g,P0 j N f⟩⟩
 |sh d=>
  refine⟨λds e=>?_,λds e=>?_⟩<;>(have U:=e;subst U)
  ·obtain⟨a,vs,rfl,h,r⟩:=Rp.lst_inv h;exact⟨_,_,rfl,off_sub _ _ h,r.len,λi d e=>r.get e⟩
  ·obtain⟨a,vs,rfl,h,r⟩:=Rp.tup_inv h;exact⟨_,_,rfl,off_sub _ _ h,r.len,λi d e=>r.get e⟩
 |own G=>
  cases G with
  |lst G=>
   refine⟨λds e=>?_,λds e=>by cases e⟩;cases e
   obtain⟨a,rfl,M,vs,e,r⟩:=h;exact⟨a,vs,rfl,e,r.len,λi d e=>let ⟨u,g,f⟩:=r.get e;⟨u,g,Rp.mono (Jn (Same.refl _) λb _ _ z y=>z (.inl y)) f⟩⟩
  |lsA x G=>
   refine⟨λds e=>?_,λds e=>by cases e⟩;cases e
   obtain⟨a,rfl,M,_,vs,e,r⟩:=h;exact⟨a,vs,rfl,e,r.len,λi d e=>let ⟨u,g,f⟩:=r.get e;⟨u,g,Rp.mono (Jn (Same.refl _) λb _ _ z y=>z (.inl y)) f⟩⟩
  |nsl x Y=>
   refine⟨λds e=>?_,λds e=>by cases e⟩;cases e
   obtain⟨a,rfl,M,_,p,o,J⟩:=h;have r:=UU λc E=>let ⟨vs,A,q⟩:=o c E;⟨vs,A,Rps.mono off_sub q⟩;exact⟨a,_,rfl,p,r.len,λi d e=>let ⟨u,g,f⟩:=r.get e;⟨u,g,Uj j f⟩⟩
  |vls x C xs L=>
   refine⟨λds e=>?_,λds e=>by cases e⟩;cases e
   obtain⟨a,rfl,M,_,p,o,J⟩:=h;have r:Rps K H' (L.map λw=>D.ins C xs (w.2.map λc=>D.lst c.2)) (L.map λw=>V.ref w.1):=TR λw hw=>let ⟨l,T,Q⟩:=o w hw;⟨l,T,λc E=>let ⟨vs,A,q⟩:=Q c E;⟨vs,A,Rps.mono off_sub q⟩⟩;exact⟨a,_,rfl,p,r.len,λi d e=>let ⟨u,g,f⟩:=r.get e;⟨u,g,Uj j f⟩⟩
  |tl x G n=>
   refine⟨(λds e=>by cases e),λds e=>?_⟩;cases e
   obtain⟨a,rfl,M,p,vs,o,J⟩:=h;have r:Rps K H' [D.lst G,.int n] [V.ref x,.int n]:=.cons (.lst o<|Rps.mono off_sub J) (.cons (.int n) .nil);exact⟨a,_,rfl,off_sub _ _ p,r.len,λi d e=>let ⟨u,g,f⟩:=r.get e;⟨u,g,Uj j f⟩⟩
  |nst Y=>
   refine⟨(λds e=>by cases e),λds e=>?_⟩;cases e
   obtain⟨a,rfl,M,p,o,J⟩:=h;have r:=UU λc E=>let ⟨vs,A,q⟩:=o c E;⟨vs,A,Rps.mono off_sub q⟩;exact⟨a,_,rfl,off_sub _ _ p,r.len,λi d e=>let ⟨u,g,f⟩:=r.get e;⟨u,g,Uj j f⟩⟩
  |_=>exact⟨(λds e=>by cases e),(λds e=>by cases e)⟩
 |view G=>
  cases G with
  |lst G=>
   refine⟨λds e=>?_,λds e=>by cases e⟩;cases e
   obtain⟨a,rfl,vs,e,r⟩:=h;exact⟨a,vs,rfl,e,r.len,λi d e=>r.get e⟩
  |lsA x G=>
   refine⟨λds e=>?_,λds e=>by cases e⟩;cases e
   obtain⟨a,rfl,_,vs,e,r⟩:=h;exact⟨a,vs,rfl,e,r.len,λi d e=>r.get e⟩
  |nsl x Y=>
   refine⟨λds e=>?_,λds e=>by cases e⟩;cases e
   obtain⟨a,rfl,_,p,o,J⟩:=h;have r:=UU λc E=>let ⟨vs,A,q⟩:=o c E;⟨vs,A,Rps.mono off_sub q⟩;exact⟨a,_,rfl,p,r.len,λi d e=>let ⟨u,g,f⟩:=r.get e;⟨u,g,Uj j f⟩⟩
  |vls x C xs L=>
   refine⟨λds e=>?_,λds e=>by cases e⟩;cases e
   obtain⟨a,rfl,_,p,o,J⟩:=h;have r:Rps K H' (L.map λw=>D.ins C xs (w.2.map λc=>D.lst c.2)) (L.map λw=>V.ref w.1):=TR λw hw=>let ⟨l,T,Q⟩:=o w hw;⟨l,T,λc E=>let ⟨vs,A,q⟩:=Q c E;⟨vs,A,Rps.mono off_sub q⟩⟩;exact⟨a,_,rfl,p,r.len,λi d e=>let ⟨u,g,f⟩:=r.get e;⟨u,g,Uj j f⟩⟩
  |tl x G n=>
   refine⟨(λds e=>by cases e),λds e=>?_⟩;cases e
   obtain⟨a,rfl,p,vs,o,J⟩:=h;have r:Rps K H' [D.lst G,.int n] [V.ref x,.int n]:=.cons (.lst o<|Rps.mono off_sub J) (.cons (.int n) .nil);exact⟨a,_,rfl,off_sub _ _ p,r.len,λi d e=>let ⟨u,g,f⟩:=r.get e;⟨u,g,Uj j f⟩⟩
  |nst Y=>
   refine⟨(λds e=>by cases e),λds e=>?_⟩;cases e
   obtain⟨a,rfl,p,o,J⟩:=h;have r:=UU λc E=>let ⟨vs,A,q⟩:=o c E;⟨vs,A,Rps.mono off_sub q⟩;exact⟨a,_,rfl,off_sub _ _ p,r.len,λi d e=>let ⟨u,g,f⟩:=r.get e;⟨u,g,Uj j f⟩⟩
  |_=>exact⟨(λds e=>by cases e),(λds e=>by cases e)⟩
 |tmp d=>
  refine⟨λds e=>?_,λds e=>?_⟩<;>(have U:=e;subst U)
  ·obtain⟨a,vs,rfl,h,r⟩:=Rp.lst_inv h;exact⟨_,_,rfl,h,r.len,λi d e=>let ⟨u,g,f⟩:=r.get e;⟨u,g,Uj j f⟩⟩
  ·obtain⟨a,vs,rfl,h,r⟩:=Rp.tup_inv h;exact⟨_,_,rfl,h,r.len,λi d e=>let ⟨u,g,f⟩:=r.get e;⟨u,g,Uj j f⟩⟩
def Fr(B:Addr->Prop)(H:Hp)(σ:L2.St)(γ:Γ)(H':Hp)(f:L2.St)(g:Γ):Prop:=∀b o,H b=some o->¬zof B γ σ b->H' b=some o/\¬zof B g f b
def Fr.refl:Fr B H σ γ H σ γ:=λ_ _ h z=>⟨h,z⟩
def Fr.trans {H1 l g f j i} (a:Fr B H σ γ H1 g j) (b:Fr B H1 g j l f i):Fr B H σ γ l f i:=λx o h z=>let ⟨p,n⟩:=a x o h z;b x o p n
def Fr.grow (b:Same H H'):Fr B H σ γ H' σ γ:=λ_ _ h z=>⟨b _ _ h,z⟩
def Fr.off {H'}{σ'}{γ'} (f:Fr B H σ γ H' σ' γ'):Same (off (zof B γ σ) H) (Pu.off (zof B γ' σ') H'):=λb o h=>by
 obtain⟨l,j⟩:=XD h;obtain⟨i,g⟩:=f b o l j;exact Ui i g
def JF{b:Type}{l:List b}{i j}{x y}(h:(l.set i x)[j]?=some y):(j=i/\x=y/\i<l.length)\/(j≠i/\l[j]?=some y):=by grind
def Tc{b:Type}{l:List b}{i}{x}(h:i<l.length):(l.set i x)[i]?=some x:=by grind
def Xj{b:Type}{l:List b}{i j}{x}(h:j≠i):(l.set i x)[j]?=l[j]?:=by grind
def Jf.drop (E:Jf K H0 B H σ γ) (i:Nat):Jf K H0 B H σ (γ.set i none)/\Fr B H σ γ H σ (γ.set i none):=by
 have p:∀b,zof B (γ.set i none) σ b->zof B γ σ b:=λb z=>z.imp id λ⟨j,l,a,g,f,u⟩=>by
  rcases JF g with⟨_,e,_⟩|⟨_,e⟩
  ·grind
  ·exact⟨j,l,a,e,f,u⟩
 refine⟨⟨E.same,by rw[Qa];exact E.len,E.bm,λk j a G l w b g f=>?_,λk s h=>?_⟩,λb o h z=>⟨h,λy=>z (p b y)⟩⟩
 ·rcases JF g with⟨_,e,_⟩|⟨_,n⟩
  ·cases e
  ·rcases JF f with⟨_,e,_⟩|⟨_,C⟩
   ·cases e
   ·exact E.own k j a G l w b n C
 ·rcases JF h with⟨_,e,_⟩|⟨_,e⟩
  ·cases e
  ·obtain⟨v,g,f⟩:=E.slot k s e;refine⟨v,g,?_⟩;have r:Same (Pu.off (zof B γ σ) H) (Pu.off (zof B (γ.set i none) σ) H):=Jn (Same.refl _) λb _ _ z y=>z (p b y);cases s with
   |sh d=>exact Rp.mono r f
   |own l=>
    obtain⟨a,n,A,x⟩:=f;exact⟨a,n,A,x.mono r λ_ _ _ q=>q⟩
   |_=>exact f
def Jf.put {s L}{v} (E:Jf K H0 B H σ γ) (S1:Same H H') (h:TV K (zof B γ σ) H0 H H' s v) (e:s.slot=some L) (hi:i<γ.length) :
  Jf K H0 B H' (σ.set i<|some v) (γ.set i<|some L)/\Fr B H σ γ H' (σ.set i<|some v) (γ.set i<|some L):=by
 have n:i<σ.length:=by rw[E.len];exact hi
 have E':=E.grow S1
 have isown:∀f,L=.own f->s=.own f:=λf q=>by
  subst q;cases s with
  |own J=>cases e;rfl
  |tmp d=>unfold S.slot at e;cases q:imm d<;>simp[q]at e
  |_=>cases e
 have l:∀b,zof B (γ.set i<|some L) (σ.set i<|some v) b->zof B γ σ b\/∃f a,s=.own f/\v=.ref a/\f.adr a b:=λb z=>by
  rcases z with z|⟨j,f,a,h1,G,A⟩
  ·exact .inl (.inl z)
  ·rcases JF h1 with⟨Y,g,_⟩|⟨T,g⟩
   ·subst Y;rw[Tc n]at G
    have:=YC g
    exact .inr ⟨f,a,isown f this,YC (YC G),A⟩
   ·rw[Xj T]at G;exact .inl (.inr ⟨j,f,a,g,G,A⟩)
 have fresh:∀f a b,s=.own f->v=.ref a->f.adr a b->H b=none:=λf a b J ev p=>by
  subst J;obtain⟨a',g,e0,_⟩:=h;rw[ev]at g;cases g
  exact e0 b p
 have hz:∀b o,H b=some o->¬zof B γ σ b->¬zof B (γ.set i<|some L) (σ.set i<|some v) b:=λb o p z y=>by
  rcases l b y with y|⟨f,a,y1,y2,y3⟩
  ·exact z y
  ·rw[fresh f a b y1 y2 y3]at p;cases p
 have So:=Jn S1 hz;refine⟨⟨E'.same,by rw[Qa,Qa];exact E.len,E'.bm,λk j a a' f J b h1 G A M h5 h6=>?_,λk u hk=>?_⟩,λb o p z=>⟨S1 b o p,hz b o p z⟩⟩
 ·have Q:∀(k:Nat) f a b,γ[k]?=some (some<|.own f)->σ[k]?=some (some<|.ref a)->f.adr a b->∃o,H b=some o:=λk f a b g C e3=>by
   obtain⟨u,q1,a',N,_,q3⟩:=E.slot k _ g;rw[C]at q1;cases q1
   cases N
   exact T9 (q3.mut b e3)
  rcases JF h1 with⟨ek,g,_⟩|⟨nk,g⟩
  ·rcases JF G with⟨Y,C,_⟩|⟨T,C⟩
   ·rw[ek,Y]
   ·subst ek;rw[Tc n]at A;rw[Xj T]at M;obtain⟨o,U⟩:=Q j J a' b C M h6;rw[fresh f a b (isown f<|YC g) (YC<|YC A) h5]at U;cases U
  ·rcases JF G with⟨Y,C,_⟩|⟨T,C⟩
   ·subst Y;rw[Tc n]at M;rw[Xj nk]at A;obtain⟨o,U⟩:=Q k f a b g A h5;rw[fresh J a' b (isown J<|YC C) (YC<|YC M) h6]at U;cases U
   ·rw[Xj nk]at A;rw[Xj T]at M;exact E.own k j a a' f J b g C A M h5 h6
 ·rcases JF hk with⟨ek,g,_⟩|⟨nk,g⟩
  ·subst ek
   have:=(YC g).symm
   subst this;refine⟨v,Tc n,?_⟩;cases s with
   |own f=>
    cases e
    obtain⟨a,rfl,e0,r⟩:=h;refine⟨a,rfl,λb p=>E.same.free (e0 b p),r.mono (Jn (Same.refl _) λb o _ z y=>?_) λ_ _ _ q=>q⟩;rcases l b y with y|⟨_,_,y1,y,y2⟩
    ·exact z (.inl y)
    ·cases y;cases y1;exact z (.inr y2)
   |sh d=>
    cases e
    refine Rp.mono (Jn (Same.refl _) λb o _ z y=>?_) h;rcases l b y with y|⟨_,_,y,_⟩
    ·exact z y
    ·cases y
   |bor d=>cases e;exact h
   |view d=>cases e
   |tmp d=>
    unfold S.slot at e;cases q:imm d with
    |false=>simp[q]at e
    |true=>
     simp[q]at e;subst e;refine Rp.off (λb y=>?_) h q;rcases l b y with y|⟨_,_,y,_⟩
     ·exact Uy S1 (E.zm b y)
     ·cases y
  ·obtain⟨w,q1,N⟩:=E.slot k u g;refine⟨w,by rw[Xj nk];exact q1,?_⟩;cases u with
   |sh d=>exact Rp.mono So N
   |own f=>
    obtain⟨a,g,e3,e4⟩:=N;exact⟨a,g,e3,e4.mono So λb _ x=>S1 b x⟩
   |_=>exact N
noncomputable def frz(i:Nat)(γ:Γ):Γ:=match γ[i]? with
 |some (some<|.own o)=>γ.set i (some<|.sh o.d)
 |_=>γ
def Jf.frz (E:Jf K H0 B H σ γ) (hB:∀b,B b->∃o,H0 b=some o) (i:Nat):Jf K H0 B H σ (frz i γ)/\Fr B H σ γ H σ (Pu.frz i γ):=by
 unfold Pu.frz;split
 ·rename_i p J
  have G:∀b,zof B (γ.set i<|some<|.sh p.d) σ b->zof B γ σ b:=λb z=>z.imp id λ⟨j,l,a,g,f,L⟩=>by
   rcases JF g with⟨_,e,_⟩|⟨_,e⟩
   ·cases e
   ·exact⟨j,l,a,e,f,L⟩
  have C:Same (Pu.off (zof B γ σ) H) (Pu.off (zof B (γ.set i<|some<|.sh p.d) σ) H):=Jn (Same.refl _) λb _ _ z y=>z (G b y);refine⟨⟨E.same,by rw[Qa];exact E.len,E.bm,λk j a A l r b g f=>?_,λk s h=>?_⟩,λb o h z=>⟨h,λy=>z (G b y)⟩⟩
  ·rcases JF g with⟨_,e,_⟩|⟨_,n⟩
   ·cases e
   ·rcases JF f with⟨_,e,_⟩|⟨_,w⟩
    ·cases e
    ·exact E.own k j a A l r b n w
  ·rcases JF h with⟨T,e,_⟩|⟨Y,e⟩
   ·subst T
    have:=YC e
    subst this;obtain⟨v,g,a,rfl,L,Q⟩:=E.slot k _ J;refine⟨_,g,Q.rpIn C λb N x f=>Ui f λz=>?_⟩;rcases z with z|⟨j,l,A,n,w,u⟩
    ·grind
    ·rcases JF n with⟨_,q,_⟩|⟨M,q⟩
     ·cases q
     ·exact M (E.own j k A a l p b q J w g u N)
   ·obtain⟨v,g,f⟩:=E.slot k s e;refine⟨v,g,?_⟩;cases s with
    |sh d=>exact Rp.mono C f
    |own p=>
     obtain⟨a,n,u,U⟩:=f;exact⟨a,n,u,U.mono C λ_ _ _ q=>q⟩
    |_=>exact f
 ·exact⟨E,Fr.refl⟩
def Jf.change {o o'} (E:Jf K H0 B H σ γ) (M:γ[i]?=some (some<|.own o)) (A:σ[i]?=some (some<|.ref a))
  (N:∀b x,H b=some x->¬o.adr a b->H' b=some x) (hm:∀b,o.adr a b->Mut (H' b)) (l:∀b,o'.adr a b->o.adr a b\/H b=none) (r:OR K (Pu.off (zof B (γ.set i<|some<|.own o') σ) H') H' a o') :
  Jf K H0 B H' σ (γ.set i<|some<|.own o')/\Fr B H σ γ H' σ (γ.set i<|some<|.own o'):=by
 obtain⟨v,h1,a',rfl,h3,h4⟩:=E.slot i _ M;rw[A]at h1;cases h1
 have za:∀b,o.adr a b->zof B γ σ b:=λb C=>.inr ⟨i,o,a,M,A,C⟩
 have hz:∀b x,H b=some x->zof B (γ.set i<|some<|.own o') σ b->zof B γ σ b:=λb x hx z=>by
  rcases z with z|⟨j,fs,a',U,p,n⟩
  ·exact .inl z
  ·rcases JF U with⟨T,q,_⟩|⟨_,e⟩
   ·subst T;cases q
    rw[A]at p;cases p
    rcases l b n with k|k
    ·exact za b k
    ·rw[k]at hx;cases hx
   ·exact .inr ⟨j,fs,a',e,p,n⟩
 have S1:=λb x h=>by
  obtain⟨g,f⟩:=XD h;exact Ui (N b x g λk=>f (za b k)) λz=>f (hz b x g z)
 have J:∀(k:Nat) ds a b,γ[k]?=some (some<|.own ds)->σ[k]?=some (some<|.ref a)->ds.adr a b->∃o,H b=some o:=λk ds a b U p n=>by
  obtain⟨u,g,a',f,_,q3⟩:=E.slot k _ U;rw[p]at g;cases g
  cases f
  exact T9 (q3.mut b n)
 refine⟨⟨λb x h=>?_,by rw[Qa];exact E.len,λb C=>?_,λk j x x' fs Q b U p n G e5 e6=>?_,λk s h=>?_⟩,λb x h z=>⟨?_,λy=>z (hz b x h y)⟩⟩
 ·exact N b x (E.same b x h) λk=>by rw[h3 b k]at h;cases h
 ·by_cases k:o.adr a b
  ·exact hm b k
  ·have:=E.bm b C
   obtain⟨x,hx⟩:=T9 this;rwa[N b x hx k,←hx]
 ·rcases JF U with⟨Y,g,_⟩|⟨nk,g⟩
  ·rcases JF p with⟨T,_,_⟩|⟨nj,f⟩
   ·rw[Y,T]
   ·subst Y;cases g
    rw[A]at n;cases n
    rcases l b e5 with w|w
    ·exact E.own k j _ _ _ _ b M f A G w e6
    ·obtain⟨u,L⟩:=J j Q x' b f G e6;rw[w]at L;cases L
  ·rcases JF p with⟨T,f,_⟩|⟨nj,f⟩
   ·subst T;cases f
    rw[A]at G;cases G
    rcases l b e6 with w|w
    ·exact E.own k j _ _ _ _ b g M n A e5 w
    ·obtain⟨u,L⟩:=J k fs x b g n e5;rw[w]at L;cases L
   ·exact E.own k j x x' fs Q b g f n G e5 e6
 ·rcases JF h with⟨Y,e,_⟩|⟨nk,e⟩
  ·subst Y
   have:=YC e
   subst this;exact⟨_,A,a,rfl,λb C=>(l b C).elim (h3 b) λw=>E.same.free w,r⟩
  ·obtain⟨v,g,f⟩:=E.slot k s e;refine⟨v,g,?_⟩;cases s with
   |sh d=>exact Rp.mono S1 f
   |own fs=>
    obtain⟨x,rfl,n,G⟩:=f;exact⟨x,rfl,n,G.mono S1 λb C y p=>N b y p λw=>nk (E.own k i x a fs o b e M g A C w)⟩
   |_=>exact f
 ·exact N b x h λk=>z (za b k)
def Jf.mutate {i:Nat}{a:Addr}{ds es:O}{us:HO} (E:Jf K H0 B H σ γ) (u:γ[i]?=some (some<|.own ds)) (f:σ[i]?=some (some<|.ref a)) (w:Mut (some us)) (r:∀F H':Hp,Same (Pu.off (zof B γ σ) H) F->H' a=some us->OR K F H' a es)
  (k1:autoParam (ds.adr a=λb=>b=a) au_0) (k2:autoParam (es.adr a=λb=>b=a) au_0) :
  Jf K H0 B (upd H a us) σ (γ.set i<|some<|.own es)/\Fr B H σ γ (upd H a us) σ (γ.set i<|some<|.own es):=by
 refine E.change (o:=ds) (o':=es) u f (λb x h n=>by rw[Jg (λz=>n (by rw[k1];exact z))];exact h) (λb h=>by rw[k1]at h;rw[show b=a from h,Js];exact w) (λb h=>.inl (by rw[k1];rw[k2]at h;exact h)) (r _ _ ?_ Js)
 intro b x h;obtain⟨v,p⟩:=XD h;have s:b≠a:=λz=>p (.inr ⟨i,ds,a,u,f,by rw[k1];exact z⟩);refine Ui (by rw[Jg s];exact v) λz=>p ?_;rcases z with z|⟨j,fs,C,A,l,g⟩
 ·exact .inl z
 ·rcases JF A with⟨y,q,_⟩|⟨_,e⟩
  ·subst y;cases q
   rw[f]at l;cases l
   rw[k2]at g;exact absurd g s
  ·exact .inr ⟨j,fs,C,e,l,g⟩
end
end Pu
namespace Pu
open PySem PySem.Spec PyProof.Rows L2 Own
abbrev XR:=Str->Prop
noncomputable def dI(n:Nat):Int:=if n % 2=0 then .ofNat (n / 2)else .negSucc (n / 2)
noncomputable def GZ:Z0->Option (Zv)
 | 0::t=>some (t.map dI)
 |_=>none
noncomputable def TM(x:Str):Option (Zv):=GZ x.cps.toList
def XE(f:Zx)(E:XK)(c:Str)(b:Hp):Prop:=match TM c with
 |none=>E (.ref<|ExcR.Ud f c) none b
 |some r=>∀(g l:Addr) (o:Obj),b g=some (.xd [("members",.ref l)])->b l=some (.frz o<|.lst<|r.map V.int)->E (.ref<|ExcR.Ud f "Ringed") (some g) b
def XE.plain {c b} (g:TM c=none) (h:XE f E c b):E (.ref<|ExcR.Ud f c) none b:=by
 unfold XE at h;simp_all
abbrev PTE:=Γ->(S->Prop)->XR->Prop
abbrev PTT:=Γ->(Bool->Prop)->XR->Prop
abbrev PTA:=Γ->(List S->Prop)->XR->Prop
abbrev PTO:=Γ->(Option Int->Prop)->XR->Prop
structure Kl where
 nx:Γ->Prop
 rt:S->Prop
 ex:Γ->Str->Prop
 bk:Γ->Prop:=λ_=>False
 ct:Γ->Prop:=λ_=>False
 rv:Γ->D->Prop:=λ_ _=>False
abbrev PTS:=Kl->Γ->Prop
abbrev PTG:=S->Γ->(Γ->Prop)->Prop
abbrev Km:=List S->Γ->(Γ->Prop)->Prop
inductive TVs (K:Zt) (Z:Addr->Prop) (H0 H H':Hp):List S->List V->Prop
 |nil:TVs K Z H0 H H' [] []
 |cons {s:S} {v:V} {ss:List S} {vs:List V}:TV K Z H0 H H' s v->TVs K Z H0 H H' ss vs->TVs K Z H0 H H' (s::ss) (v::vs)
section
variable (K:Zt) (mg:Zx) (E:L2.St->XK)
def VZ(t:TE)(p:PTE):Prop:=∀(h:Hp) (B:Addr->Prop) (H:Hp) (f:L2.St) (g:Γ) (R:S->Prop) (X:XR) (Q:VK),Jf K h B H f g->p g R X->
 (∀s v b,R s->Same H b->TV K (zof B g f) h H b s v->Q v b)->(∀c b,X c->Same H b->XE mg (E f) c b)->t f H Q
def JJ(t:TT)(p:PTT):Prop:=∀(i:Hp) (B:Addr->Prop) (H:Hp) (g:L2.St) (h:Γ) (R:Bool->Prop) (X:XR) (Q:Bool->Hp->Prop),Jf K i B H g h->p h R X->
 (∀b f,R b->Same H f->Q b f)->(∀c f,X c->Same H f->XE mg (E g) c f)->t g H Q
def Jt(t:TA)(p:PTA):Prop:=∀(j:Hp) (B:Addr->Prop) (H:Hp) (f:L2.St) (g:Γ) (R:List S->Prop) (X:XR) (Q:List V->Hp->Prop),Jf K j B H f g->p g R X->
 (∀i h b,R i->Same H b->TVs K (zof B g f) j H b i h->Q h b)->(∀c b,X c->Same H b->XE mg (E f) c b)->t f H Q
def Py(t:TO)(p:PTO):Prop:=∀(h:Hp) (B:Addr->Prop) (H:Hp) (f:L2.St) (g:Γ) (R:Option Int->Prop) (X:XR) (Q:Option Int->Hp->Prop),Jf K h B H f g->p g R X->
 (∀o b,R o->Same H b->Q o b)->(∀c b,X c->Same H b->XE mg (E f) c b)->t f H Q
structure Tq (H0:Hp) (B:Addr->Prop) (H:Hp) (σ:L2.St) (γ:Γ) (R:Kl) (D:Ends):Prop where
 nx:∀σ' γ' H',R.nx γ'->Jf K H0 B H' σ' γ'->Fr B H σ γ H' σ' γ'->D.nx σ' H'
 rt:∀s v H',R.rt s->Same H0 H'->TV K B H0 H0 H' s v->D.rt v H'
 ex:∀σ' γ' c H',R.ex γ' c->Jf K H0 B H' σ' γ'->Fr B H σ γ H' σ' γ'->XE mg (E σ') c H'
 bk:∀σ' γ' H',R.bk γ'->Jf K H0 B H' σ' γ'->Fr B H σ γ H' σ' γ'->D.bk σ' H'
 ct:∀σ' γ' H',R.ct γ'->Jf K H0 B H' σ' γ'->Fr B H σ γ H' σ' γ'->D.ct σ' H'
 rv:∀σ' γ' d v H',R.rv γ' d->Jf K H0 B H' σ' γ'->Fr B H σ γ H' σ' γ'->Rp K (off (zof B γ' σ') H') d v->D.rt v H'
def Jm(t:TS)(p:PTS):Prop:=∀(h:Hp) (B:Addr->Prop) (H:Hp) (f:L2.St) (g:Γ) (R:Kl) (D:Ends),(∀b,B b->∃o,h b=some o)->Jf K h B H f g->p R g->Tq K mg E h B H f g R D->t D f H
end
section
variable {K:Zt}{mg:Zx}{E:L2.St->XK}{H0 H H1 H':Hp}{B Z Z':Addr->Prop}{σ:L2.St}{γ:Γ}
def TVs.weakG {H1 f}:∀{ss}{vs:List V},Same H H1->TVs K Z H0 H1 f ss vs->TVs K Z H0 H f ss vs:=by
 intro ss
 induction ss with
 |nil=>
  intro _ _ h;cases h
  exact .nil
 |cons _ _ g=>
  intro _ b h;cases h with
  |cons h r=>
   exact .cons (TV.weak b (λ_ z=>z) h) (g b r)
def TVs.rps (f:Same H0 H'):∀{ss}{vs:List V},TVs K Z H0 H H' ss vs->Rps K H' (ss.map S.d) vs:=by
 intro ss
 induction ss with
 |nil=>
  intro _ h;cases h
  exact .nil
 |cons _ _ b=>
  intro _ h;cases h with
  |cons h r=>
   exact .cons (h.rp f) (b r)
theorem TVs.shd {ds:List D} (i:Same H0 H') (g:∀b,Z b->Mut (H b)) (j:Same H H'):∀{f vs}{ds:List D},TVs K Z H0 H H' f vs->f.map S.shd=ds.map some->Rps K (off Z H') ds vs
 |_,_,[],.nil,_=>.nil
 |_,_,_::_,.nil,e|_,_,[],.cons _ _,e=>by cases e
 |_,_,d::ds,.cons h r,e=>by
  rw[YE,YE,Q4]at e;exact .cons (h.shd i g j e.1) (TVs.shd (ds:=ds) i g j r e.2)
def Rp.int_inv (h:Rp K H (.int i) v):v=.int i:=by cases h;rfl
def Rp.bl_inv (h:Rp K H (.bl b) v):v=.bl b:=by cases h;rfl
def Rp.str_inv (h:Rp K H (.str x) v):v=.str x:=by cases h;rfl
def Rp.non_inv (h:Rp K H .non v):v=.non:=by cases h;rfl
def Rp.ty_inv (h:Rp K H (.ty n) v):v=.ty n:=by cases h;rfl
noncomputable def Nw(i:Nat):PTE:=λγ R _=>match γ[i]? with
 |some (some<|.own b)=>R (.view b)
 |some (some s)=>R s
 |_=>False
def Ja(i:Nat):VZ K mg E (UE i) (Nw i):=by
 intro H0 B H σ γ R X Q b h q _;unfold Nw at h;split at h
 ·rename_i l e;obtain⟨v,f,a,rfl,o,j⟩:=b.slot i _ e;exact⟨_,f,q _ _ H h (Same.refl _) ⟨a,rfl,j⟩⟩
 ·rename_i s n e;obtain⟨v,f,g⟩:=b.slot i _ e;refine⟨v,f,q _ _ H h (Same.refl _) ?_⟩;cases s with
  |bor d|sh d=>exact g
  |own l=>grind
  |_=>exact g.elim
 ·grind
noncomputable def pC(d:D):PTE:=λ_ R _=>R (.sh d)
def KL(h:∀H,Rp K H d v):VZ K mg E (tC v) (pC d):=by
 intro H0 B H σ γ R X Q b p q _;exact q _ _ H p (Same.refl _) (h _)
def Jq:VZ K mg E (tC<|.int i) (pC<|.int i):=KL λ_=>.int i
def UP:VZ K mg E (tC<|.bl b) (pC<|.bl b):=KL λ_=>.bl b
def Zbh:VZ K mg E (tC .non) (pC .non):=KL λ_=>.non
def Zb4:VZ K mg E (tC<|.str x) (pC<|.str x):=KL λ_=>.str x
def KA:VZ K mg E (tC<|.ty n) (pC<|.ty n):=KL λ_=>.ty n
noncomputable def p2(a b:PTE)(f:S->S->(S->Prop)->Prop):PTE:=λγ R X=>a γ (λx=>b γ (λy=>f x y R) X) X
def Uq{o n a b f}(T:VZ K mg E o a)(N:VZ K mg E n b)(L:∀H0 H h Z x y v u R Q,Same H0 h->Same H h->(∀b,Z b->Mut (H b))->TV K Z H0 H h x v->TV K Z H0 H h y u->f x y R->(∀s z H',R s->Same h H'->TV K Z H0 H H' s z->Q z H')->r v u h Q) :
  VZ K mg E (tOp r o n) (p2 a b f):=by
 intro H0 B H σ γ R X Q i p q w;refine T H0 B H σ γ _ X _ i p (λx v H1 Y j G=>?_) w;have g:=i.grow j;refine N H0 B H1 σ γ _ X _ g Y (λy u h U l C=>?_) λc H' M S'=>w c H' M (j.trans S');exact L H0 H h _ x y v u R Q (g.same.trans l) (j.trans l) i.zm (G.grow l) (TV.weak j (λ_ z=>z) C) U λs z H' J S3 A=>q s z H' J ((j.trans l).trans S3) A
def fI0(g:Int->Int->D):S->S->(S->Prop)->Prop:=λx y R=>match x.d,y.d with
 | .int i,.int j=>R (.sh<|g i j)
 |_,_=>False
def fI(C:Int->Int->Prop)(g:Int->Int->D):S->S->(S->Prop)->Prop:=λx y R=>match x.d,y.d with
 | .int i,.int j=>C i j/\R (.sh<|g i j)
 |_,_=>False
def PF{g'}{l f a b}(w:∀H i j,Rp K H (g' i j) (g i j))(A:VZ K mg E l a)(z:VZ K mg E f b):VZ K mg E (tOp (rI0 g) l f) (p2 a b<|fI0 g'):=by
 refine Uq A z λH0 H J Z x y v u R Q n L M s r h q=>?_;unfold fI0 at h;have p:=s.rp n;have o:=r.rp n;split at h
 ·rename_i i j G C;rw[G]at p;rw[C]at o;exact⟨i,j,p.int_inv,o.int_inv,q _ _ J h (Same.refl _) (w _ i j)⟩
 ·grind
def Sw{g r}{l f a b}(z:∀H i j,Rp K H (r i j) (g i j))(G:VZ K mg E l a)(A:VZ K mg E f b):VZ K mg E (tOp (rI C g) l f) (p2 a b<|fI C r):=by
 refine Uq G A λH0 H M Z x y v u R Q n N T w s h q=>?_;unfold fI at h;have p:=w.rp n;have o:=s.rp n;split at h
 ·rename_i i j L J;rw[L]at p;rw[J]at o;exact⟨i,j,p.int_inv,o.int_inv,h.1,q _ _ M h.2 (Same.refl _) (z _ i j)⟩
 ·grind
section
variable {ta tb tc:TE}{a b c:PTE}
def JO(g:VZ K mg E ta a)(f:VZ K mg E tb b):VZ K mg E (tOp (rI0 λi j=>.int (i+j)) ta tb) (p2 a b (fI0 λi j=>.int (i+j))):=PF (λ_ _ _=>.int _) g f
def Ux(g:VZ K mg E ta a)(f:VZ K mg E tb b):VZ K mg E (tOp (rI0 λi j=>.int (i-j)) ta tb) (p2 a b (fI0 λi j=>.int (i-j))):=PF (λ_ _ _=>.int _) g f
def Xs(g:VZ K mg E ta a)(f:VZ K mg E tb b):VZ K mg E (tOp (rI CMul λi j=>.int (i*j)) ta tb) (p2 a b (fI CMul λi j=>.int (i*j))):=Sw (λ_ _ _=>.int _) g f
def U7(g:VZ K mg E ta a)(f:VZ K mg E tb b):VZ K mg E (tOp (rI SN λi j=>.int (i / j)) ta tb) (p2 a b (fI SN λi j=>.int (i / j))):=Sw (λ_ _ _=>.int _) g f
def JB(g:VZ K mg E ta a)(f:VZ K mg E tb b):VZ K mg E (tOp (rI (λ_ j=>0<j) λi j=>.int (i % j)) ta tb) (p2 a b (fI (λ_ j=>0<j) λi j=>.int (i % j))):=Sw (λ_ _ _=>.int _) g f
def TX(g:VZ K mg E ta a)(f:VZ K mg E tb b):VZ K mg E (tOp (rI0 λi j=>.bl (decide (i<j))) ta tb) (p2 a b (fI0 λi j=>.bl (decide (i<j)))):=PF (λ_ _ _=>.bl _) g f
def Kp(g:VZ K mg E ta a)(f:VZ K mg E tb b):VZ K mg E (tOp (rI0 λi j=>.bl (decide (j<i))) ta tb) (p2 a b (fI0 λi j=>.bl (decide (j<i)))):=PF (λ_ _ _=>.bl _) g f
def L4(g:VZ K mg E ta a)(f:VZ K mg E tb b):VZ K mg E (tOp (rI0 λi j=>.bl (decide (j<=i))) ta tb) (p2 a b (fI0 λi j=>.bl (decide (j<=i)))):=PF (λ_ _ _=>.bl _) g f
def fEq(neg:Bool):S->S->(S->Prop)->Prop:=λx y R=>match x.d,y.d with
 | .int i,.int j=>R (.sh<|.bl (if neg then !decide (i=j)else decide (i=j)))
 | .str i,.str j=>R (.sh<|.bl (if neg then !decide (i=j)else decide (i=j)))
 | .bl i,.bl j=>R (.sh<|.bl (if neg then !decide (i=j)else decide (i=j)))
 |_,_=>False
def Kz{g h:Type}[DecidableEq g][DecidableEq h]{f:g->h}(i:∀a b,f a=f b->a=b)(a b:g):decide (f a=f b)=decide (a=b):=by grind
def fIx:S->S->(S->Prop)->Prop:=λx y R=>match x.d,y.d with
 | .lst g,.int k=>∃d,atI g k=some d/\R (x.sub d)
 | .tup g,.int k=>∃d,atI g k=some d/\R (x.sub d)
 | .scr f,.int k=>∃i,atI f k=some i/\R (.sh<|.int i)
 | .fL f,.int k=>∃i,atI f k=some i/\R (.sh<|.int i)
 |_,_=>False
def Dk{P:D->V->Prop}(f:vs.length=ds.length)(h:∀(i:Nat) d,ds[i]?=some d->∃u,vs[i]?=some u/\P d u)(e:atI ds k=some d):∃u,atI vs k=some u/\P d u:=by
 unfold atI at e ⊢;cases q:ixN ds.length k with
 |_=>grind
def Ug(ha:VZ K mg E ta a)(hb:VZ K mg E tb b):VZ K mg E (tOp (λx y H Q=>XF K x y H Q\/X0 K x y H Q) ta tb) (p2 a b fIx):=by
 refine Uq ha hb λH0 H r Z x y v u R Q p Y hm w U h q=>?_;unfold fIx at h;have f:=U.rp p;obtain⟨pl,pt⟩:=w.part p hm Y;split at h
 ·rename_i T k n j;rw[j]at f;obtain⟨d,N,g⟩:=h;obtain⟨l,s,rfl,L,J,G⟩:=pl T n;obtain⟨z,A,tz⟩:=Dk J G N;exact .inl ⟨l,s,k,z,rfl,f.int_inv,SqL.of L,A,q _ _ r g (Same.refl _) tz⟩
 ·rename_i T k n j;rw[j]at f;obtain⟨d,N,g⟩:=h;obtain⟨l,s,rfl,L,J,G⟩:=pt T n;obtain⟨z,A,tz⟩:=Dk J G N;exact .inr ⟨l,s,k,z,rfl,f.int_inv,SqT.of L,A,q _ _ r g (Same.refl _) tz⟩
 ·rename_i ns k n j;rw[j]at f;obtain⟨i,M,g⟩:=h;have o:=w.rp p;rw[n]at o;cases o with
  |scr C=>exact .inl ⟨_,_,k,.int i,rfl,f.int_inv,C,Xc M,q _ _ r g (Same.refl _) (.int i)⟩
 ·rename_i ns k n j;rw[j]at f;obtain⟨i,M,g⟩:=h;have o:=w.rp p;rw[n]at o;cases o with
  |fL C=>exact .inl ⟨_,_,k,.int i,rfl,f.int_inv,.inl (.inr ⟨_,C⟩),Xc M,q _ _ r g (Same.refl _) (.int i)⟩
 ·exact h.elim
noncomputable def IV(a b:PTE):PTE:=λγ R X=>a γ (λx=>match x.d with | .bl c=>if c=true then b γ R X else R (.sh<|.bl false)|_=>False) X
noncomputable def Fy(a:PTE):PTE:=λγ R X=>a γ (λx=>match x.d with | .bl c=>R (.sh<|.bl (!c))|_=>False) X
def Sf(w:VZ K mg E ta a)(s:VZ K mg E tb b):VZ K mg E (G5 ta tb) (IV a b):=by
 intro H0 B H σ γ R X Q h p q n;refine w H0 B H σ γ _ X _ h p (λx v H1 j i r=>?_) n;have f:=h.grow i;have l:=r.rp f.same;split at j
 ·rename_i c C;rw[C]at l;refine⟨c,l.bl_inv,?_⟩;split at j
  ·rename_i g;rw[Y5 g];exact s H0 B H1 σ γ _ X _ f j (λy u L A G o=>q y u L A (i.trans G) (TV.weak i (λ_ z=>z) o)) λc H' g J=>n c H' g (i.trans J)
  ·rename_i g;rw[Y4 g];exact q _ _ H1 j i (.bl _)
 ·grind
def Gd(n:VZ K mg E ta a):VZ K mg E (FV ta) (Fy a):=by
 intro H0 B H σ γ R X Q f p q l;refine n H0 B H σ γ _ X _ f p (λx v H1 h i j=>?_) l;have g:=j.rp (f.grow i).same;split at h
 ·rename_i c o;rw[o]at g;exact⟨c,g.bl_inv,q _ _ H1 h i (.bl _)⟩
 ·grind
noncomputable def OA(a:PTE):PTE:=λγ R X=>a γ (λx=>match x.d with | .int i=>R (.sh<|.int (-i))|_=>False) X
def Sk(o:VZ K mg E ta a):VZ K mg E (tUn (rU λi=>.int (-i)) ta) (OA a):=by
 intro H0 B H σ γ R X Q f p q n;refine o H0 B H σ γ _ X _ f p (λx v H1 h j l=>?_) n;have g:=l.rp (f.grow j).same;split at h
 ·rename_i c r;rw[r]at g;exact⟨c,g.int_inv,q _ _ H1 h j (.int _)⟩
 ·grind
noncomputable def X7(a:PTE):PTT:=λγ R X=>a γ (λx=>match x.d with | .bl c=>R c|_=>False) X
def Up(n:VZ K mg E ta a):JJ K mg E (Tg ta) (X7 a):=by
 intro H0 B H σ γ R X Q f p q l;refine n H0 B H σ γ _ X _ f p (λx v H1 h i j=>?_) l;have g:=j.rp (f.grow i).same;split at h
 ·rename_i c o;rw[o]at g;exact⟨c,g.bl_inv,q _ H1 h i⟩
 ·grind
def Sq(f:VZ K mg E ta a):JJ K mg E (tB ta) (X7 a):=Up f
variable {sa sb:TT}{pa pb:PTT}
noncomputable def GG(a b:PTT):PTT:=λγ R X=>a γ (λc=>if c=true then b γ R X else R false) X
noncomputable def pOr(a b:PTT):PTT:=λγ R X=>a γ (λc=>if c=true then R true else b γ R X) X
noncomputable def DS(a:PTT):PTT:=λγ R X=>a γ (λc=>R (!c)) X
def Ni(n:JJ K mg E sa pa)(l:JJ K mg E sb pb):JJ K mg E (Eb sa sb) (GG pa pb):=by
 intro H0 B H σ γ R X Q f p q i;refine n H0 B H σ γ _ X _ f p (λc H1 j h=>?_) i;split at j
 ·rename_i g;rw[Y5 g];exact l H0 B H1 σ γ _ X _ (f.grow h) j (λy u o r=>q y u o (h.trans r)) λc H' g s=>i c H' g (h.trans s)
 ·grind
def En(n:JJ K mg E sa pa)(l:JJ K mg E sb pb):JJ K mg E (tOr sa sb) (pOr pa pb):=by
 intro H0 B H σ γ R X Q f p q i;refine n H0 B H σ γ _ X _ f p (λc H1 j h=>?_) i;split at j
 ·grind
 ·rename_i g;rw[Y4 g];exact l H0 B H1 σ γ _ X _ (f.grow h) j (λy u o r=>q y u o (h.trans r)) λc H' g s=>i c H' g (h.trans s)
def X5(h:JJ K mg E sa pa):JJ K mg E (Gc sa) (DS pa):=by
 intro H0 B H σ γ R X Q f p q g;exact h H0 B H σ γ _ X _ f p (λc H1 i j=>q _ H1 i j) g
end
noncomputable def UL:PTA:=λ_ R _=>R []
noncomputable def Uc(a:PTE)(r:PTA):PTA:=λγ R X=>a γ (λs=>r γ (λb=>R (s::b)) X) X
def Xq:Jt K mg E JS UL:=by
 intro H0 B H σ γ R X Q b p q _;exact q _ _ H p (Same.refl _) .nil
def JX{a r}(u:VZ K mg E te a)(n:Jt K mg E i r):Jt K mg E (J3 te i) (Uc a r):=by
 intro H0 B H σ γ R X Q b p q g;refine u H0 B H σ γ _ X _ b p (λs v H1 x f l=>?_) g;refine n H0 B H1 σ γ _ X _ (b.grow f) x (λC A z w h j=>?_) λc H' o y=>g c H' o (f.trans y);exact q _ _ z w (f.trans h) (.cons (l.grow h)<|TVs.weakG f j)
noncomputable def KU:List S->Option (List D)
 |[]=>some []
 |s::r=>match s.shd,KU r with
  |some d,some b=>some (d::b)
  |_,_=>none
theorem BD:∀{ss}{ds:List D},KU ss=some ds->ss.map S.shd=ds.map some
 |[],ds,h=>by cases h;rfl
 |s::r,ds,h=>by
  unfold KU at h;split at h
  ·rename_i d g f b;cases h
   rw[YE,YE,f,BD b]
  ·grind
noncomputable def AM(r:PTA):PTE:=λγ R X=>r γ (λf=>match KU f with|some b=>b.length<=1000/\R (.sh<|.tup b)|none=>False) X
noncomputable def Aq(r:PTA):PTE:=λγ R X=>r γ (λf=>match KU f with|some b=>b.length<=1000/\R (.own b)|none=>False) X
def Tr(h:n<=1000):n<=sizeLine:=Q5 (F2 h)
def XG(w:Jt K mg E s r):VZ K mg E (Bk s) (AM r):=by
 intro H0 B H σ γ R X Q f p q v;refine w H0 B H σ γ _ X _ f p (λx n H1 g h u=>?_) v;split at g
 ·rename_i ds e;have b:=f.grow h;have rp:=u.shd (ds:=ds) b.same f.zm h (BD e);refine⟨by rw[rp.len];exact Tr g.1,λl i=>?_⟩;have j:=Jy (o:=.tup n) i;refine q _ _ _ g.2 (h.trans j) (.tup (Ui Js λz=>?_)<|Rps.mono (Jn j λ_ _ _ z=>z) rp)
  have:=b.zm l z
  rw[i]at this;exact this
 ·grind
def Xz{H H1 l vs ds}(h:Same H H1)(f:H1 l=none)(rp:Rps K (off Z H1) ds vs):TV K Z H0 H (upd H1 l<|.lst vs) (.own ds) (.ref l):=
 ⟨l,rfl,(λ_ e=>e▸h.free f),vs,Js,Rps.mono (Jn (Jy f) λb o g z y=>y.elim z λe=>by rw[e,f]at g;cases g) rp⟩
def Pf(o:Jt K mg E i r):VZ K mg E (SS i) (Aq r):=by
 intro H0 B H σ γ R X Q b p q n;refine o H0 B H σ γ _ X _ b p (λu s H1 g f j=>?_) n;split at g
 ·rename_i ds e;have rp:=j.shd (ds:=ds) (b.grow f).same b.zm f (BD e);refine⟨by rw[rp.len];exact Tr g.1,λl h=>?_⟩;exact q _ _ _ g.2 (f.trans<|Jy h) (Xz f h rp)
 ·grind
abbrev Pc:=List D->(S->Prop)->XR->Prop
noncomputable def Je(mg:Zx)(c:Pc)(K:Zt):Sp:=λg H Q E=>∃f R X,Rps K H f g/\c f R X/\(∀s v H',R s->Same H H'->TV K (λb=>Mut (H b)) H H H' s v->Q v H')/\∀e H',X e->Same H H'->XE mg E e H'
noncomputable def S.back:S->S
 | .bor d=>J5 d | .view o=>.tmp o.d|s=>s
def TV.back (env:Jf K H0 B H1 σ γ) (l:Same H H1) (f:Same H1 H') (h:TV K (λb=>Mut (H1 b)) H1 H1 H' s v):TV K (zof B γ σ) H0 H H' s.back v:=by
 cases s with
 |bor d=>exact Uj (λb z=>Uy f (env.zm b z)) (Rp.mono f h)
 |sh d=>exact Rp.mono (Jn (Same.refl _) λb _ _ z y=>z (env.zm b y)) h
 |own j=>
  obtain⟨a,rfl,i,r⟩:=h;exact⟨a,rfl,(λb g=>l.free (i b g)),r.mono (Jn (Same.refl _) λb _ _ z y=>z (y.imp (env.zm b) id)) λ_ _ _ q=>q⟩
 |view j=>
  obtain⟨a,rfl,r⟩:=h;exact r.rp off_sub
 |tmp d=>exact h
noncomputable def Af(c:Pc)(r:PTA):PTE:=λγ R X=>r γ (λb=>c (b.map S.d) (λs=>R s.back) λ_=>False) X
noncomputable def Gf(c:Pc)(r:PTA):PTE:=λγ R X=>r γ (λb=>c (b.map S.d) (λs=>R s.back) X) X
def J0{h r}(u:Jt K mg E h r):VZ K mg E (Pt (Je mg c K) [] E0 h) (Af c r):=by
 intro H0 B H σ γ R X Q f p q n;refine u H0 B H σ γ _ X _ f p (λy x H1 w g l=>?_) n;rw[WZ];have b:=f.grow g;exact⟨_,_,_,l.rps b.same,w,λs v H' o i j=>q _ _ H' o (g.trans i) (j.back b g i),λ_ _ z=>z.elim⟩
def O2{j r i}(w:Jt K mg (λ_=>i) j r):VZ K mg (λ_=>i) (Pt (Je mg c K) [] i j) (Gf c r):=by
 intro H0 B H σ γ R X Q f p q l;refine w H0 B H σ γ _ X _ f p (λA z H1 y h o=>?_) l;rw[WZ];have b:=f.grow h;exact⟨_,_,X,o.rps b.same,y,λs v H' u g n=>q _ _ H' u (h.trans g) (n.back b h g),λe H' x g=>l e H' x (h.trans g)⟩
def Jf.set {s b}{v} (g:Jf K H0 B H σ γ) (f:Same H H') (h:TV K (zof B γ σ) H0 H H' s v) (e:s.slot=some b) :
  Jf K H0 B H' (σ.set i<|some v) (γ.set i<|some b)/\Fr B H σ γ H' (σ.set i<|some v) (γ.set i<|some b):=by
 by_cases j:i<γ.length
 ·exact g.put f h e j
 ·rw[List.set_eq_of_length_le (by rw[g.len];lia),List.set_eq_of_length_le (by lia)];exact⟨g.grow f,Fr.grow f⟩
def Upd(f:Z0)(σ b:L2.St):Prop:=(∀j,j∉f->b[j]?=σ[j]?)/\b.length=σ.length
def XZ(K:Zt)(g:Z0)(t:TG)(p:PTG):Prop:=∀(H0:Hp) (B:Addr->Prop) (H H':Hp) (σ:L2.St) (γ:Γ) (s:S) (v:V) (R:Γ->Prop) (Q:L2.St->Hp->Prop),Jf K H0 B H σ γ->Same H H'->TV K (zof B γ σ) H0 H H' s v->p s γ R->
 (∀b f,R f->Jf K H0 B H' b f->Fr B H σ γ H' b f->Upd g σ b->Q b H')->t v σ H' Q
noncomputable def Pm(i:Nat):PTG:=λs γ R=>match s.slot with|some b=>R (γ.set i<|some b)|none=>False
def Jx(i:Nat):XZ K [i] (Xw i) (Pm i):=by
 intro H0 B H H' σ γ s v R Q b l f p q;unfold Pm at p;split at p
 ·rename_i n e;obtain⟨h,f1⟩:=b.set l f e;exact q _ _ p h f1 ⟨λj g=>Xj λz=>g (by grind),Qa⟩
 ·grind
noncomputable def AL:Km:=λb γ R=>match b with|[]=>R γ|_=>False
noncomputable def FY(g:PTG)(r:Km):Km:=λf γ R=>match f with|s::t=>g s γ λb=>r t b R|[]=>False
def TV.notown {σ'}{γ'}{Hb} (f:Fr B H σ γ H' σ' γ') (b:Same H H') (n:∀ds,s≠.own ds) (g:∀ds,s≠.view ds) (h:TV K (zof B γ σ) H0 Hb H s v):TV K (zof B γ' σ') H0 H' H' s v:=by
 cases s with
 |bor d=>exact h
 |sh d=>exact Rp.mono f.off h
 |tmp d=>exact Rp.mono b h
 |_=>grind
def TVs.notown (f:Fr B H σ γ H b g):∀{ss}{vs:List V},(∀s∈ss,∀ds,s≠.own ds/\s≠.view ds)->TVs K (zof B γ σ) H0 l H ss vs->TVs K (zof B g b) H0 H H ss vs:=by
 intro ss
 induction ss with
 |nil=>
  intro _ _ h;cases h
  exact .nil
 |cons _ _ i=>
  intro _ n h;cases h with
  |cons h r=>
   exact .cons (h.notown f (Same.refl _) (λds=>(n _ Wb ds).1) λds=>(n _ Wb ds).2) (i (λs j=>n s (YT _ j)) r)
def Bf(d:D):arg d=.sh d\/arg d=.bor d:=by unfold arg;cases imm d<;>simp
def Gw(d:D):J5 d=.sh d\/J5 d=.tmp d:=by unfold J5;cases imm d<;>simp
def GD(s:S)(d:D):∀ds,s.sub d≠.own ds/\s.sub d≠.view ds:=λds=>by
 cases s with
 |bor b=>rcases Bf d with e|e<;>(show arg d≠_/\arg d≠_;rw[e];exact⟨(λz=>by cases z),(λz=>by cases z)⟩)
 |tmp b=>rcases Gw d with e|e<;>(show J5 d≠_/\J5 d≠_;rw[e];exact⟨(λz=>by cases z),(λz=>by cases z)⟩)
 |sh b=>exact⟨(λz=>by cases z),(λz=>by cases z)⟩
 |own b|view b=>
  cases b with
  |nst f|nsl a f|vls a C xs g|tl x h n=>rcases Gw d with e|e<;>(show J5 d≠_/\J5 d≠_;rw[e];exact⟨(λz=>by cases z),(λz=>by cases z)⟩)
  |_=>exact⟨(λz=>by cases z),(λz=>by cases z)⟩
def P4(K:Zt)(j:Z0)(t:TGs)(p:Km):Prop:=∀(H0:Hp) (B:Addr->Prop) (H:Hp) (σ:L2.St) (γ:Γ) (g:List S) (h:List V) (R:Γ->Prop) (Q:L2.St->Hp->Prop),Jf K H0 B H σ γ->TVs K (zof B γ σ) H0 H H g h->(∀s∈g,∀i,s≠.own i/\s≠.view i)->p g γ R->
 (∀b f,R f->Jf K H0 B H b f->Fr B H σ γ H b f->Upd j σ b->Q b H)->t h σ H Q
def SA:P4 K [] Ey AL:=by
 intro H0 B H σ γ h g R Q b f i p q;cases f with
 |nil=>exact⟨rfl,q _ _ p b Fr.refl ⟨λ_ _=>rfl,rfl⟩⟩
 |cons _ _=>exact p.elim
def Pa{g r v u}(N:XZ K L g v)(M:P4 K J r u):P4 K (L++J) (Dd g r) (FY v u):=by
 intro H0 B H σ γ ss vs R Q o C w p q;cases C with
 |nil=>exact p.elim
 |cons h t=>
  refine⟨_,_,rfl,N H0 B H H σ γ _ _ _ _ o (Same.refl _) h p λf l G Y f1 y=>?_⟩;refine M H0 B H f l _ _ _ _ Y (TVs.notown f1 (λs n=>w s (YT _ n)) t) (λs n=>w s (YT _ n)) G λb i p2 U T x=>?_;exact q b i p2 U (f1.trans T) ⟨λj A=>(x.1 j λz=>A (YI _ z)).trans (y.1 j λz=>A (WI _ z)),x.2.trans y.2⟩
noncomputable def Nh(n:Nat)(r:Km):PTG:=λs γ R=>match s.d with | .tup b=>b.length=n/\r (b.map s.sub) γ R|_=>False
theorem TVs.of_part {ds:List D}{s:S}:∀{vs}{ds:List D},vs.length=ds.length->(∀(i:Nat) d,ds[i]?=some d->∃u,vs[i]?=some u/\TV K Z H0 H H' (s.sub d) u)->TVs K Z H0 H H' (ds.map s.sub) vs
 |[],[],_,_=>.nil
 |[],_::_,e,_|_::_,[],e,_=>by cases e
 |v::vs,d::ds,e,h=>by
  obtain⟨u,f,b⟩:=h 0 d rfl;cases f
  exact .cons b (TVs.of_part (ds:=ds) (by grind) λi g j=>by simpa using h (i+1) g (by grind))
def Bh{u r o}(A:P4 K u r o):XZ K u (Sg K n r) (Nh n o):=by
 intro H0 B H H' σ γ s v R Q f j x p q;unfold Nh at p;have b:=f.grow j;obtain⟨_,pt⟩:=x.part b.same f.zm j;split at p
 ·rename_i ds e;obtain⟨a,l,rfl,G,w,C⟩:=pt ds e;refine⟨a,l,rfl,SqT.of G,w.trans p.1,?_⟩;refine A H0 B H' σ γ _ l R Q b (TVs.notown (Fr.refl) (λy i ds=>?_)<|TVs.of_part (ds:=ds) w C) (λy i ds=>?_) p.2 λg h J L f1 z=>q g h J L (Fr.trans (Fr.grow j) f1) z
  ·obtain⟨d,_,rfl⟩:=YO.mp i;exact GD s d ds
  ·obtain⟨d,_,rfl⟩:=YO.mp i;exact GD s d ds
 ·grind
def Tq.from {D l n} (e:Tq K mg E H0 B H σ γ R D) (f:Fr B H σ γ H1 l n):Tq K mg E H0 B H1 l n R D:=
 ⟨λb g H' j i h=>e.nx b g H' j i (f.trans h),e.rt,λb g c H' j i h=>e.ex b g c H' j i (f.trans h),λb g H' j i h=>e.bk b g H' j i (f.trans h),λb g H' j i h=>e.ct b g H' j i (f.trans h),λb g d v H' j i h=>e.rv b g d v H' j i (f.trans h)⟩
variable {te:TE}{a:PTE}{tt:TT}{c:PTT}{t u:TS}{p q:PTS}
noncomputable def CM:PTS:=λR γ=>R.nx γ
def Xd:Jm K mg E E1 CM:=λ_ _ _ _ _ _ _ _ b h e=>e.nx _ _ _ h b Fr.refl
noncomputable def F6(p q:PTS):PTS:=λR γ=>p {R with nx:=q R} γ
def Ua(j:Jm K mg E t p)(hq:Jm K mg E u q):Jm K mg E (N9 t u) (F6 p q):=by
 intro H0 B H σ γ R D i g h e;refine j H0 B H σ γ _ _ i g h ⟨λb f H' l n f1=>?_,e.rt,e.ex,e.bk,e.ct,e.rv⟩;exact hq H0 B H' b f R D i n l (e.from f1)
structure Ei (p q:PTS) (R:Kl) (γ:Γ):Prop where
 w:∃J:Γ->Prop,p {R with nx:=J} γ/\∀γ',J γ'->q R γ'
noncomputable def Et(p q:PTS):PTS:=λR γ=>Ei p q R γ
def TU(n:Jm K mg E t p)(hq:Jm K mg E u q):Jm K mg E (BM t u) (Et p q):=by
 intro H0 B H σ γ R D l i h e;obtain⟨J,h,k⟩:=h.w;refine⟨λf H'=>∃b,J b/\Jf K H0 B H' f b/\Fr B H σ γ H' f b,n H0 B H σ γ _ _ l i h ⟨λf b H' g j f1=>⟨b,g,j,f1⟩,e.rt,e.ex,e.bk,e.ct,e.rv⟩,?_⟩;rintro f H' ⟨b,g,j,f1⟩;exact hq H0 B H' f b R D l j (k b g) (e.from f1)
noncomputable def AV(i:Nat)(p:PTS):PTS:=λR γ=>p R (frz i γ)
def OX(i:Nat)(g:Jm K mg E t p):Jm K mg E t (AV i p):=by
 intro H0 B H σ γ R D f b h e;obtain⟨j,f1⟩:=b.frz f i;exact g H0 B H σ _ R D f j h (e.from f1)
noncomputable def N7(a:PTE)(g:PTG):PTS:=λR γ=>a γ (λs=>g s γ R.nx) (R.ex γ)
def JV(w:VZ K mg E te a)(o:XZ K G g n):Jm K mg E (KD te g) (N7 a n):=by
 intro H0 B H σ γ R D J b h e;refine w H0 B H σ γ _ _ _ b h (λs v H1 y C l=>?_) λc H' r j=>e.ex σ γ c H' r (b.grow j) (Fr.grow j);exact o H0 B H H1 σ γ s v _ _ b C l y λf i x A z _=>e.nx f i H1 x A z
noncomputable def SH(i:Nat)(f:Int->Int->Int)(a:PTE):PTS:=λR γ=>match γ[i]? with
 |some (some<|.sh<|.int x)=>a γ (λy=>match y.d with | .int j=>R.nx (γ.set i<|some<|.sh<|.int<|f x j)|_=>False) (R.ex γ)
 |_=>False
def Re(z:VZ K mg E te a):Jm K mg E (Gb i te<|ipI f) (SH i f a):=by
 intro H0 B H σ γ R D L b h e;unfold SH at h;split at h
 ·rename_i x hx;obtain⟨v,C,A⟩:=b.slot i _ hx;refine⟨v,C,z H0 B H σ γ _ _ _ b h (λy u H1 l n r=>?_) λc H' w o=>e.ex σ γ c H' w (b.grow o) (Fr.grow o)⟩;have g:=r.rp (b.grow n).same;split at l
  ·rename_i j G;rw[G]at g;refine⟨x,j,Rp.int_inv A,g.int_inv,?_⟩;obtain⟨J,f1⟩:=b.set (s:=.sh (.int<|f x j)) n (.int _) rfl;exact e.nx _ _ H1 l J f1
  ·grind
 ·grind
noncomputable def E2(a:PTE):PTS:=λR γ=>a γ R.rt (R.ex γ)
def Xk(l:VZ K mg E te a):Jm K mg E (KE te) (E2 a):=by
 intro H0 B H σ γ R D r f h e;refine l H0 B H σ γ _ _ _ f h (λs v H1 n o i=>?_) λc H' j g=>e.ex σ γ c H' j (f.grow g) (Fr.grow g);exact e.rt s v H1 n (f.same.trans o) (TV.weak f.same (λb z=>.inl z) i)
noncomputable def Bw(i:Nat):PTS:=λR γ=>match γ[i]? with|some (some s)=>R.rt s|_=>False
def O3(i:Nat):Jm K mg E (KE<|UE i) (Bw i):=by
 intro H0 B H σ γ R D A f h e;unfold Bw at h;split at h
 ·rename_i s j;obtain⟨v,n,g⟩:=f.slot i _ j;refine⟨v,n,e.rt s v H h f.same ?_⟩;cases s with
  |bor d=>exact g
  |sh d=>exact Rp.mono (Jn (Same.refl _) λb _ _ z y=>z (.inl y)) g
  |own o=>
   obtain⟨l,rfl,x,r⟩:=g;exact⟨l,rfl,x,r.mono (Jn (Same.refl _) λb _ _ z y=>z (y.elim .inl λw=>.inr ⟨i,o,l,j,n,w⟩)) λ_ _ _ q=>q⟩
  |view o=>exact g.elim
  |tmp d=>trivial
 ·grind
noncomputable def FX(c:PTT)(p q:PTS):PTS:=λR γ=>c γ (λb=>if b=true then p R γ else q R γ) (R.ex γ)
def Xg(i:JJ K mg E tt c)(r:Jm K mg E t p)(hq:Jm K mg E u q):Jm K mg E (Su tt t u) (FX c p q):=by
 intro H0 B H σ γ R D n f h e;refine i H0 B H σ γ _ _ _ f h (λb H1 l g=>?_) λc H' i o=>e.ex σ γ c H' i (f.grow o) (Fr.grow o);split at l
 ·rename_i j;rw[Y5 j];exact r H0 B H1 σ γ R D n (f.grow g) l (e.from<|Fr.grow g)
 ·rename_i j;rw[Y4 j];exact hq H0 B H1 σ γ R D n (f.grow g) l (e.from<|Fr.grow g)
noncomputable def Dz(a:PTE):PTS:=λR γ=>a γ (λ_=>R.nx γ) (R.ex γ)
def OQ(j:VZ K mg E te a):Jm K mg E (P5 te) (Dz a):=by
 intro H0 B H σ γ R D o b h e;exact j H0 B H σ γ _ _ _ b h (λs v H1 l f n=>e.nx σ γ H1 l (b.grow f) (Fr.grow f)) λc H' i g=>e.ex σ γ c H' i (b.grow g) (Fr.grow g)
noncomputable def Mq:PTS:=λ_ _=>False
def CK:Jm K mg E GC Mq:=λ_ _ _ _ _ _ _ _ _ h _=>h
noncomputable def EX(x:Str)(r:PTA):PTS:=λR γ=>r γ (λb=>b.length<=1000/\R.ex γ x) (R.ex γ)
def TVs.len:∀{ss}{vs:List V},TVs K Z H0 H H' ss vs->vs.length=ss.length:=by
 intro ss
 induction ss with
 |nil=>
  intro _ h;cases h
  rfl
 |cons _ _ b=>
  intro _ h;cases h with
  |cons h r=>
   exact Wz (· + 1) (b r)
def Lb{g r f}(o:Jt K mg (λ_=>f) g r)(hx:autoParam (TM x=none) au_0):Jm K mg (λ_=>f) (ExcR.EF (ExcR.Ud mg x) f g) (EX x r):=by
 intro H0 B H σ γ R D y b h e;refine o H0 B H σ γ _ _ _ b h (λw v H1 i j n=>⟨?_,?_⟩) λc H' s l=>e.ex σ γ c H' s (b.grow l) (Fr.grow l)
 ·rw[n.len];exact Tr i.1
 ·exact(e.ex σ γ x H1 i.2 (b.grow j)<|Fr.grow j).plain hx
def Dh(i j:Nat)(γ:Γ)(R:Γ->Prop):List S->Prop
 |[.sh d,.sh e]=>R ((γ.set i<|some<|.sh d).set j (some<|.sh e))
 |_=>False
noncomputable def IZ(i j:Nat)(r:PTA):PTS:=λR γ=>r γ (Dh i j γ R.nx) (R.ex γ)
def Zan{o r}(N:Jt K mg E o r):Jm K mg E (GS i j o) (IZ i j r):=by
 intro H0 B H σ γ R D hB f h e;refine N H0 B H σ γ _ _ _ f h (λss vs H1 n S1 g=>?_) λc H' Q v=>e.ex σ γ c H' Q (f.grow v) (Fr.grow v);unfold Dh at n;split at n
 ·rename_i d e';cases g with
  |cons C g=>
   cases g with
   |cons A g=>
    cases g
    rename_i y w;refine⟨_,_,rfl,?_⟩;obtain⟨Y,f1⟩:=f.set S1 C rfl
    have l:TV K (zof B (γ.set i<|some<|.sh d)<|σ.set i<|some y) H0 H1 H1 (.sh e') w:=by
     refine Rp.mono (Jn (Same.refl _) λb _ _ M z=>M ?_) A;rcases z with z|⟨k,ds,x,L,s,J⟩
     ·exact .inl z
     ·rcases JF L with⟨_,q,_⟩|⟨G,q⟩
      ·cases q
      ·rw[Xj G]at s;exact .inr ⟨k,ds,x,q,s,J⟩
    obtain⟨U,T⟩:=Y.set (Same.refl _) l rfl;exact e.nx _ _ H1 n U (f1.trans T)
 ·grind
noncomputable def clr:Z0->Γ->Γ
 |[],γ=>γ
 |i::r,γ=>clr r (γ.set i none)
theorem Jf.clr:∀b {γ:Γ},Jf K H0 B H σ γ->Jf K H0 B H σ (clr b γ)/\Fr B H σ γ H σ (Pu.clr b γ)
 |[],_,e=>⟨e,Fr.refl⟩
 |i::r,γ,e=>by
  obtain⟨h,f1⟩:=e.drop i;obtain⟨g,f⟩:=Jf.clr r h;exact⟨g,f1.trans f⟩
def Later(H0:Hp)(Z:Addr->Prop)(H1:Hp)(Z':Addr->Prop)(H':Hp):Prop:=Same H0 H'/\(∀b,Z' b->Mut (H' b))/\∀b o,H1 b=some o->¬Z b->H' b=some o/\¬Z' b
def Later.of (e:Jf K H0 B H' b g) (f:Fr B H1 σ γ H' b g):Later H0 (zof B γ σ) H1 (zof B g b) H':=⟨e.same,e.zm,f⟩
def Later.off (l:Later H0 Z H1 Z' H'):Same (off Z H1) (Pu.off Z' H'):=λb o h=>by
 obtain⟨j,i⟩:=XD h;obtain⟨g,f⟩:=l.2.2 b o j i;exact Ui g f
structure FF (K:Zt) (H0:Hp) (B:Addr->Prop) (H1:Hp) (σ:L2.St) (γ:Γ) (J:It) (n:Nat) (item:Nat->S):Prop where
 go:∀(i:Nat) (H':Hp) (Z':Addr->Prop),i<n->Later H0 (zof B γ σ) H1 Z' H'->J.go i H'/\∀x H'',J.yld i H' x H''->Same H' H''/\TV K Z' H0 H' H'' (item i) x
 stop:∀(H':Hp) (Z':Addr->Prop),Later H0 (zof B γ σ) H1 Z' H'->J.stop n H'
abbrev PTI:=Γ->(Nat->(Nat->S)->Prop)->XR->Prop
def SndI(K:Zt)(mg:Zx)(E:L2.St->XK)(b:TI)(f:PTI):Prop:=∀(H0:Hp) (B:Addr->Prop) (H:Hp) (σ:L2.St) (γ:Γ) (R:Nat->(Nat->S)->Prop) (X:XR) (Q:It->Hp->Prop),Jf K H0 B H σ γ->f γ R X->
 (∀n item J H1,R n item->Same H H1->FF K H0 B H1 σ γ J n item->Q J H1)->(∀c H',X c->Same H H'->XE mg (E σ) c H')->b σ H Q
structure Te (js:Z0) (γ:Γ) (g:PTG) (body:PTS) (R:Kl) (n:Nat) (item:Nat->S):Prop where
 w:∃inv:Nat->Γ->Prop,inv 0 (clr js γ)/\
 (∀i γ',i<n->inv i γ'->g (item i) γ' λγ2=>body {R with nx:=λγ3=>inv (i+1) (clr js γ3),ct:=λγ3=>inv (i+1) (clr js γ3),bk:=R.nx} γ2)/\∀γ',inv n γ'->R.nx γ'
noncomputable def DY(b:Z0)(f:PTI)(g:PTG)(body:PTS):PTS:=λR γ=>f γ (λn item=>Te b γ g body R n item) (R.ex γ)
def FI{wi g it pg}(G:Z0)(hi:SndI K mg E wi it)(hg:XZ K is g pg)(hb:Jm K mg E t p):Jm K mg E (EU wi g t) (DY G it pg p):=by
 intro H0 B H σ γ R D hB M h e;refine hi H0 B H σ γ _ _ _ M h (λn item J H1 h1 Y ok=>?_) λc H' hc S'=>e.ex σ γ c H' hc (M.grow S') (Fr.grow S');obtain⟨T,h0,hs,hd⟩:=h1.w;have C:=M.grow Y;refine⟨λi m r H'=>m=n-i/\i<=n/\∃b,T i b/\Jf K H0 B H' r b/\Fr B H1 σ γ H' r b,⟨n,by simp,Wp _,_,h0,(C.clr G).1,(C.clr G).2⟩,?_⟩;rintro i m r H' ⟨rfl,hin,b,U,e',f'⟩;by_cases L:i<n
 ·obtain⟨go,yl⟩:=ok.go i H' _ L (Later.of e' f');refine .inr ⟨go,λo H2=>∃l,T (i+1) l/\Jf K H0 B H2 o l/\Fr B H1 σ γ H2 o l,λo H2 ⟨l,a1,a2,a3⟩=>⟨n-(i+1),by lia,rfl,L,l,a1,a2,a3⟩,λx Q y=>?_⟩;obtain⟨S2,tv⟩:=yl x Q y;refine hg H0 B H' Q r b _ _ _ _ e' S2 tv (hs i b L U) λo l q2 e2 f2 _=>?_;have fall:=f'.trans f2;refine hb H0 B Q o l _ _ hB e2 q2 ⟨λf j N z s A=>?_,e.rt,λf j c N z s A=>e.ex f j c N z s ((Fr.grow Y).trans (fall.trans A)),λf j N z s A=>e.nx f j N z s ((Fr.grow Y).trans (fall.trans A)),λf j N z s A=>?_,λf j d v N z s A=>e.rv f j d v N z s ((Fr.grow Y).trans (fall.trans A))⟩
  ·exact⟨_,z,(s.clr G).1,(fall.trans A).trans (s.clr G).2⟩
  ·exact⟨_,z,(s.clr G).1,(fall.trans A).trans (s.clr G).2⟩
 ·have:i=n:=by lia
  subst this;exact .inl ⟨ok.stop H' _ (Later.of e' f'),e.nx r b H' (hd b U) e' ((Fr.grow Y).trans f')⟩
noncomputable def S.fix:S->Bool
 | .bor _=>true | .sh _=>true | .own (.nsl _ _)=>false | .own (.vls _ _ _ _)=>false | .own _=>true|_=>false
noncomputable def pIL(a:PTE):PTI:=λγ R X=>a γ (λs=>match s.d with
 | .lst f=>s.fix=true/\R f.length λi=>s.sub (f.getD i .non)
 | .scr b=>s.fix=true/\R b.length λi=>.sh (.int<|b.getD i 0)
 |_=>False) X
def TV.last (env:Jf K H0 B H σ γ) (J:Same H H1) (b:TV K (zof B γ σ) H0 H H1 s v) (A:s.fix=true) (j:s.d=.lst ds):∃l vs,v=.ref l/\vs.length=ds.length/\
  ∀H' Z',Later H0 (zof B γ σ) H1 Z' H'->H' l=some (.lst vs)/\∀(i:Nat) d,ds[i]?=some d->∃u,vs[i]?=some u/\TV K Z' H0 H' H' (s.sub d) u:=by
 have f:∀{s:S},(∀d,s.sub d=.sh d)->Rp K (Pu.off (zof B γ σ) H1) (.lst ds) v->∃l vs,v=.ref l/\vs.length=ds.length/\
   ∀H' Z',Later H0 (zof B γ σ) H1 Z' H'->H' l=some (.lst vs)/\∀i d,ds[i]?=some d->∃u,vs[i]?=some u/\TV K Z' H0 H' H' (s.sub d) u:=λL h=>by
  obtain⟨l,vs,rfl,z,g⟩:=Rp.lst_inv h;refine⟨l,vs,rfl,g.len,λH' Z' lt=>⟨off_sub _ _ (lt.off _ _ z),λi d r=>?_⟩⟩;obtain⟨u,y,w⟩:=g.get r;refine⟨u,y,?_⟩;rw[L];exact Rp.mono lt.off w
 cases s with
 |bor d=>
  have b:=Rp.strip b;rw[show d.strip=.lst ds from j]at b
  obtain⟨l,vs,rfl,z,g⟩:=Rp.lst_inv b;refine⟨l,vs,rfl,g.len,λH' Z' lt=>⟨lt.1 _ _ z,λi d r=>?_⟩⟩;obtain⟨u,y,w⟩:=g.get r;exact⟨u,y,P0 lt.2.1 lt.1 w⟩
 |sh d=>
  have:=j
  subst this;exact f (λ_=>rfl) b
 |own o=>
  cases o with
  |dK o|dT o|ins x C xs G|nst G|tl x o n=>cases j
  |nsl a G|vls a C xs M=>cases A
  |_=>
   cases j
   exact f (λ_=>rfl) (b.shd (env.grow J).same env.zm J rfl)
 |_=>cases A
def MZ(ha:VZ K mg E te a):SndI K mg E (PY K te) (pIL a):=by
 intro H0 B H σ γ R X Q g h q Y;refine ha H0 B H σ γ _ X _ g h (λs v H1 n J j=>?_) Y;have b:=g.grow J;split at n
 ·rename_i T z;obtain⟨l,A,rfl,hn,f⟩:=j.last g J n.1 z;obtain⟨L,_⟩:=f H1 _ (Later.of b Fr.refl);refine⟨l,rfl,⟨A,SqL.of L⟩,q _ _ _ H1 n.2 J ⟨λi H' Z' G lt=>?_,λH' Z' lt=>?_⟩⟩
  ·obtain⟨o,k2⟩:=f H' Z' lt;have hd:T[i]?=some (T.getD i .non):=by rw[Y2,Yx G];rfl
   obtain⟨u,r,U⟩:=k2 i _ hd;refine⟨⟨A,u,SqL.of o,r⟩,λx M y=>?_⟩;obtain⟨rfl,y⟩:=y
   have:=y A (SqL.of o)
   rw[r]at this;cases this
   exact⟨Same.refl _,U⟩
  ·exact⟨A,SqL.of (f H' Z' lt).1,by lia⟩
 ·rename_i C z
  have w:∃l,v=.ref l/\∀H' Z',Later H0 (zof B γ σ) H1 Z' H'->SqL K H' l (C.map V.int):=by
   cases s with
   |bor d=>
    have j:=Rp.strip j;rw[show d.strip=.scr C from z]at j
    cases j with
    |scr w=>exact⟨_,rfl,λH' Z' lt=>lt.1.seq w⟩
   |sh d=>
    have:=z
    subst this;cases j with
    |scr w=>exact⟨_,rfl,λH' Z' lt=>off_sub.seq (lt.off.seq w)⟩
   |own N|view N=>cases N<;>cases z
   |tmp d=>cases n.1
  obtain⟨l,rfl,f⟩:=w;refine⟨l,rfl,⟨_,f H1 _ (Later.of b Fr.refl)⟩,q _ _ _ H1 n.2 J ⟨λi H' Z' G lt=>?_,λH' Z' lt=>?_⟩⟩
  ·have o:=f H' Z' lt
   have r:(C.map V.int)[i]?=some (.int<|C.getD i 0):=by
    rw[YB,Yx G,Y2,Yx G];rfl
   refine⟨⟨_,_,o,r⟩,λx M y=>?_⟩;obtain⟨rfl,y⟩:=y
   have:=y _ o
   rw[r]at this;cases this
   exact⟨Same.refl _,.int _⟩
  ·exact⟨_,f H' Z' lt,by rw[Yy];exact Y1 _⟩
 ·exact n.elim
def fR1(R:Nat->(Nat->S)->Prop):List D->Prop
 |[.int j]=>(-(2 ^ 62)<=j/\j<2 ^ 62)/\R j.toNat λi=>.sh (.int (0+(i:Int)))
 |_=>False
def fR2(R:Nat->(Nat->S)->Prop):List D->Prop
 |[.int i,.int j]=>(-(2 ^ 62)<=i/\i<2 ^ 62/\-(2 ^ 62)<=j/\j<2 ^ 62)/\R (j-i).toNat λk=>.sh (.int (i+(k:Int)))
 |_=>False
noncomputable def EC(r:PTA):PTI:=λγ R X=>r γ (λb=>fR1 R (b.map S.d)) X
noncomputable def GA(r:PTA):PTI:=λγ R X=>r γ (λb=>fR2 R (b.map S.d)) X
def Rps.one_inv (h:Rps K H [d] vs):∃v,vs=[v]/\Rp K H d v:=by
 cases h with
 |cons h r=>cases r;exact⟨_,rfl,h⟩
def Rps.two_inv (h:Rps K H [d,e] vs):∃v u,vs=[v,u]/\Rp K H d v/\Rp K H e u:=by
 cases h with
 |cons h r=>cases r with|cons b r=>cases r;exact⟨_,_,rfl,h,b⟩
def G4{lo n}:FF K H0 B H1 σ γ (Itr lo n) n λi=>.sh (.int (lo+(i:Int))):=by
 refine⟨λi H' Z' b lt=>⟨b,λx f y=>?_⟩,λH' Z' lt=>Y1 _⟩;obtain⟨e,y⟩:=y;subst e y;exact⟨Same.refl _,.int _⟩
def GH(w:Jt K mg E l r):SndI K mg E (AY l) (EC r):=by
 intro H0 B H σ γ R X Q f h q s;refine w H0 B H σ γ _ X _ f h (λz y H1 b i n=>?_) s;have g:=n.rps (f.grow i).same;unfold fR1 at b;split at b
 ·rename_i j x;rw[x]at g;obtain⟨v,rfl,o⟩:=g.one_inv;rw[o.int_inv];exact⟨j,rfl,b.1.1,b.1.2,q _ _ _ H1 b.2 i G4⟩
 ·grind
def RO(y:Jt K mg E n r):SndI K mg E (DU n) (GA r):=by
 intro H0 B H σ γ R X Q b h q x;refine y H0 B H σ γ _ X _ b h (λC A H1 f l o=>?_) x;have g:=o.rps (b.grow l).same;unfold fR2 at f;split at f
 ·rename_i i j z;rw[z]at g;obtain⟨v,u,rfl,w,s⟩:=g.two_inv;rw[w.int_inv,s.int_inv];exact⟨i,j,rfl,f.1,q _ _ _ H1 f.2 l G4⟩
 ·grind
structure Gg (js:Z0) (γ:Γ) (c:PTT) (body:PTS) (R:Kl):Prop where
 w:∃(inv:Γ->Prop) (μ:Γ->Nat),inv (clr js γ)/\∀γ',inv γ'->c γ' (λb=>if b=true then
  body {R with nx:=λγ3=>inv (clr js γ3)/\μ (clr js γ3)<μ γ',ct:=λγ3=>inv (clr js γ3)/\μ (clr js γ3)<μ γ',bk:=R.nx} γ' else R.nx γ') (R.ex γ')
noncomputable def CQ(b:Z0)(c:PTT)(body:PTS):PTS:=λR γ=>Gg b γ c body R
def Za5(x:Z0)(G:JJ K mg E tt c)(hb:Jm K mg E t p):Jm K mg E (Er tt t) (CQ x c p):=by
 intro H0 B H σ γ R D hB A h e;obtain⟨z,C,h0,hs⟩:=h.w;refine⟨λm i H'=>∃f,m=C f/\z f/\Jf K H0 B H' i f/\Fr B H σ γ H' i f,⟨_,_,rfl,h0,(A.clr x).1,(A.clr x).2⟩,?_⟩;rintro m i H' ⟨f,rfl,hi,J,Q⟩;refine G H0 B H' i f _ _ _ J (hs f hi) (λb H1 N U=>?_) λc M G Y=>e.ex i f c M G (J.grow Y) (Q.trans<|Fr.grow Y);have T:=J.grow U;have f1:=Q.trans (Fr.grow U);cases b with
 |false=>
  exact e.nx i f H1 N T f1
 |true=>
  refine⟨λs L=>∃l,C l<C f/\z l/\Jf K H0 B L s l/\Fr B H σ γ L s l,λs L ⟨l,k,a1,a2,a3⟩=>⟨_,k,l,rfl,a1,a2,a3⟩,?_⟩;refine hb H0 B H1 i f _ _ hB T N ⟨λg j y n o r=>?_,e.rt,λg j c y n o r=>e.ex g j c y n o (f1.trans r),λg j y n o r=>e.nx g j y n o (f1.trans r),λg j y n o r=>?_,λg j d v y n o r=>e.rv g j d v y n o (f1.trans r)⟩
  ·exact⟨_,n.2,n.1,(o.clr x).1,(f1.trans r).trans (o.clr x).2⟩
  ·exact⟨_,n.2,n.1,(o.clr x).1,(f1.trans r).trans (o.clr x).2⟩
end
section
variable {K:Zt}{mg:Zx}{E:L2.St->XK}{H0 H H1 H':Hp}{B Z Z':Addr->Prop}{σ:L2.St}{γ:Γ}
noncomputable def U9(N:Z2)(ds:List D):Γ:=ds.map (λd=>some (arg d))++List.replicate (N.length-ds.length) none
def OU{ds vs}(r:Rps K H ds vs)(x:ds.length<=N.length):Jf K H (λb=>Mut (H b)) H (start N vs) (U9 N ds):=by
 have get:∀i s,(U9 N ds)[i]?=some (some s)->∃d,ds[i]?=some d/\s=arg d:=λi s h=>by
  unfold U9 at h;by_cases g:i<ds.length
  ·rw[W5 (by rw[Yy];exact g),YB,Yx g]at h;exact⟨_,Yx g,(YC<|YC h).symm⟩
  ·rw[Qb (by rw[Yy];lia),List.getElem?_replicate]at h;split at h<;>cases h
 have noown:∀(i:Nat) f,(U9 N ds)[i]?≠some (some<|.own f):=λi f h=>by
  obtain⟨d,_,e⟩:=get i _ h;rcases Bf d with q|q<;>rw[q]at e<;>cases e
 refine⟨Same.refl _,?_,λb h=>h,λi j a y f w b h=>absurd h (noown i f),λi s h=>?_⟩
 ·unfold L2.start U9;simp[r.len]
 ·obtain⟨d,u,rfl⟩:=get i s h;obtain⟨v,n,o⟩:=r.get u;refine⟨v,?_,?_⟩
  ·unfold L2.start;rw[W5 (by rw[Yy];exact(Wm.mp n).1),YB,n];rfl
  ·have l:=P0 (Z:=zof (λb=>Mut (H b)) (U9 N ds) (start N vs)) (H:=H) (λb z=>z.elim id λ⟨k,f,_,p,_⟩=>absurd p (noown k f)) (Same.refl _) o;rcases Bf d with q|q<;>rw[q]at l ⊢<;>exact l
def MM{t p vs Q u n}(h:Je mg c K vs H Q u)(j:Jm K mg (λ_=>u) t p)(C:n<=N.length)(l:∀ds R X,c ds R X->ds.length=n/\p {nx:=λ_=>R (.sh .non),rt:=R,ex:=λ_ e=>X e} (U9 N ds)):t {nx:=λ_ H'=>Q .non H',rt:=Q} (start N vs) H:=by
 obtain⟨ds,R,X,r,x,q,y⟩:=h;obtain⟨e,l⟩:=l ds R X x;refine j H (λb=>Mut (H b)) H _ _ _ _ (λb z=>T9 z) (OU r<|by lia) l ⟨λg i H' f o f1=>q _ _ H' f o.same .non,λs v H' f A w=>q s v H' f A w,λg i c H' f o f1=>y c H' f o.same,λ_ _ _ z=>z.elim,λ_ _ _ z=>z.elim,λ_ _ _ _ _ z=>z.elim⟩
def Zc1(h:Je mg c K vs H Q g)(b:∀ds R X,c ds R X->ds.length=n):vs.length=n:=by
 obtain⟨ds,R,X,r,f,_⟩:=h;rw[r.len]
 grind
noncomputable def atP(φ:Zz)(γ:Γ):Γ:=φ.map λo=>o.bind λj=>(γ[j]?).join
structure NJ (φ:Zz) (γ:Γ) (g:PTG) (c:PTT) (e:PTE) (n:Nat) (item:Nat->S) (R:S->Prop):Prop where
 w:n<=100000/\∃f:Nat->Option D,(∀i,i<n->g (item i) (atP φ γ) λγ2=>c γ2 (λb=>if b=true then e γ2 (λs=>∃d,s.shd=some d/\f i=some d) (λ_=>False)else f i=none) (λ_=>False))/\R (.own ((List.range n).filterMap f))
noncomputable def Sm(φ:Zz)(b:PTI)(g:PTG)(c:PTT)(e:PTE):PTE:=λγ R X=>b γ (λn item=>NJ φ γ g c e n item R) X
def Xp{i:Nat}{s}(h:(atP φ γ)[i]?=some (some s)):∃j,φ[i]?=some (some j)/\γ[j]?=some (some s):=by
 unfold atP at h;cases e:φ[i]? with
 |none=>grind
 |some o=>
  cases o with
  |_=>grind
theorem Td:∀{φ:Zz},(φ.filterMap id).Nodup->∀(i j k:Nat),φ[i]?=some (some k)->φ[j]?=some (some k)->i=j
 |[],_,i,_,_,h,_=>by simp at h
 |none::r,l,i,j,k,f,b=>by
  cases i with
  |zero=>simp at f
  |succ i=>
   cases j with
   |zero=>simp at b
   |succ j=>exact Wz (· + 1) (Td (by simpa using l) i j k (by simpa using f)<|by simpa using b)
 |some m::r,l,i,j,k,f,b=>by
  have g:m∉r.filterMap id/\(r.filterMap id).Nodup:=by simpa using l
  have n:∀{j:Nat},r[j]?=some (some k)->k∈r.filterMap id:=λh=>Vz.mpr ⟨some k,Wj h,rfl⟩;cases i with
  |zero=>
   cases j with
   |zero=>rfl
   |succ j=>simp_all
  |succ i=>
   cases j with
   |zero=>simp_all
   |succ j=>exact Wz (· + 1) (Td g.2 i j k (by simpa using f)<|by simpa using b)
def Xx{i j:Nat}(f:φ[i]?=some (some j)){v}(b:σ[j]?=some (some v)):(atStart φ σ)[i]?=some (some v):=by
 unfold atStart
 grind
def EV{L}(env:Jf K H0 B H σ γ)(p:H L=none):∀b o,H b=some o->¬zof B γ σ b->¬zof (λb=>zof B γ σ b\/b=L) (atP φ γ) (atStart φ σ) b:=λb o r z y=>by
 rcases y with(y|y)|⟨q,n,x,j,f,i⟩
 ·grind
 ·grind
 ·obtain⟨m,l,h⟩:=Xp j;obtain⟨w,g,_⟩:=env.slot m _ h;rw[Xx l g]at f;exact z (.inr ⟨m,n,x,h,by rw[g];exact Wz some (YC f),i⟩)
def RS{L}(env:Jf K H0 B H σ γ)(n:Same H H')(J:H L=none)(M:∃ys,H' L=some (.lst ys))(q:(φ.filterMap id).Nodup) :
  Jf K H0 (λb=>zof B γ σ b\/b=L) H' (atStart φ σ) (atP φ γ):=by
 refine⟨env.same.trans n,by unfold atStart atP;simp,λb z=>?_,λi j a a' C es b Y U T A Q N=>?_,λi s h=>?_⟩
 ·rcases z with z|rfl
  ·exact Uy n (env.zm b z)
  ·obtain⟨ys,e⟩:=M;rw[e];trivial
 ·obtain⟨k,g,f⟩:=Xp Y;obtain⟨l,y,w⟩:=Xp U;obtain⟨v,p,_⟩:=env.slot k _ f;obtain⟨u,r,_⟩:=env.slot l _ w;rw[Xx g p]at T;rw[Xx y r]at A
  have:=env.own k l a a' C es b f w (by grind) (by rw[r];exact Wz some (YC A)) Q N
  subst this;exact Td q i j k g y
 ·obtain⟨k,g,f⟩:=Xp h;obtain⟨v,p,o⟩:=env.slot k _ f;have G:Same (off (zof B γ σ) H) (off (zof (λb=>zof B γ σ b\/b=L) (atP φ γ)<|atStart φ σ) H'):=Jn n (EV env J);refine⟨v,Xx g p,?_⟩;cases s with
  |sh d=>exact Rp.mono G o
  |own C=>
   obtain⟨a,e1,e3,e4⟩:=o;exact⟨a,e1,e3,e4.mono G λb _ x=>n b x⟩
  |_=>exact o
def Sub.of {f:Z0} (g:b.length=σ.length) (l:∀j,j∉f->b[j]?=σ[j]?) (n:∀j∈f,∀v,σ[j]?≠some (some v)):Sub σ b:=⟨g,λi v e=>by
 by_cases h:i∈f
 ·grind
 ·rw[l i h];exact e⟩
structure Li (K:Zt) (H0:Hp) (B:Addr->Prop) (H1:Hp) (σ:L2.St) (γ:Γ) (J:It) (n:Nat) (item:Nat->S):Prop where
 go:∀(i:Nat) (H':Hp) (Z':Addr->Prop),i<n->Same H1 H'->Later H0 (zof B γ σ) H1 Z' H'->J.go i H'/\∀x H'',J.yld i H' x H''->Same H' H''/\TV K Z' H0 H' H'' (item i) x
 stop:∀(H':Hp) (Z':Addr->Prop),Same H1 H'->Later H0 (zof B γ σ) H1 Z' H'->J.stop n H'
def P9(K:Zt)(mg:Zx)(E:L2.St->XK)(b:TI)(f:PTI):Prop:=∀(H0:Hp) (B:Addr->Prop) (H:Hp) (σ:L2.St) (γ:Γ) (R:Nat->(Nat->S)->Prop) (X:XR) (Q:It->Hp->Prop),Jf K H0 B H σ γ->f γ R X->
 (∀n item J H1,R n item->Same H H1->Li K H0 B H1 σ γ J n item->Q J H1)->(∀c H',X c->Same H H'->XE mg (E σ) c H')->b σ H Q
def SndI.c (h:SndI K mg E f j):P9 K mg E f j:=λH0 B H σ γ R X Q b p q g=>
 h H0 B H σ γ R X Q b p (λn item J H1 o r ok=>q n item J H1 o r ⟨λi H' Z' l _ lt=>ok.go i H' Z' l lt,λH' Z' _ lt=>ok.stop H' Z' lt⟩) g
noncomputable def CV(a:PTE):PTI:=λγ R X=>a γ (λs=>match s.d with
 | .lst b=>R b.length λi=>s.sub (b.getD i .non)
 | .tup b=>False
 | .scr f=>R f.length λi=>.sh (.int<|f.getD i 0)
 |_=>False) X
def K4(ha:VZ K mg E te a):P9 K mg E (PY K te) (CV a):=by
 intro H0 B H σ γ R X Q env h q qx;refine ha H0 B H σ γ _ X _ env h (λs v H1 h1 S1 G=>?_) qx;have M:=env.grow S1;split at h1
 ·rename_i ds J;have Y:=G.rp M.same;rw[J]at Y;obtain⟨l,U,rfl,f,r1⟩:=Y.lst_inv;refine⟨l,rfl,⟨U,SqL.of f⟩,q _ _ _ H1 h1 S1 ⟨λi H' Z' hi L lt=>?_,λH' Z' L lt=>⟨U,SqL.of (L _ _ f),by rw[r1.len];exact Y1 _⟩⟩⟩;have N:ds[i]?=some (ds.getD i .non):=by rw[Y2,Yx hi];rfl
  have hi':∃u,U[i]?=some u/\TV K Z' H0 H' H' (s.sub<|ds.getD i .non) u:=by
   cases s with
   |bor d=>
    have G:=Rp.strip G;rw[show d.strip=.lst ds from J]at G
    obtain⟨T,o,A,r,p⟩:=Rp.lst_inv G;cases A
    rw[M.same _ _ r]at f;cases f
    obtain⟨u,j,g⟩:=p.get N;exact⟨u,j,P0 lt.2.1 lt.1 g⟩
   |sh d=>
    have:=J
    subst this;obtain⟨T,o,A,r,p⟩:=Rp.lst_inv G;cases A
    rw[off_sub _ _ r]at f;cases f
    obtain⟨u,j,g⟩:=p.get N;exact⟨u,j,Rp.mono lt.off g⟩
   |own w=>
    cases w with
    |dK w|dT w|ins x C xs cs|nst cs|tl x w n=>cases J
    |nsl x cs|vls x C xs ws=>
     obtain⟨u,j,g⟩:=r1.get N;exact⟨u,j,Uj lt.2.1 (Rp.mono L g)⟩
    |lsA x w=>
     cases J
     obtain⟨T,A,h0,_,o,r,p⟩:=G;cases A
     rw[r]at f;cases f
     obtain⟨u,j,g⟩:=p.get N;exact⟨u,j,Rp.mono lt.off (Rp.mono (Jn (Same.refl _) λb _ _ z y=>z (.inl y)) g)⟩
    |lst w=>
    cases J
    obtain⟨T,A,h0,o,r,p⟩:=G;cases A
    rw[r]at f;cases f
    obtain⟨u,j,g⟩:=p.get N;exact⟨u,j,Rp.mono lt.off (Rp.mono (Jn (Same.refl _) λb _ _ z y=>z (.inl y)) g)⟩
   |view w=>
    cases w with
    |dK w|dT w|ins x C xs cs|nst cs|tl x w n=>cases J
    |nsl x cs|vls x C xs ws=>
     obtain⟨u,j,g⟩:=r1.get N;exact⟨u,j,Uj lt.2.1 (Rp.mono L g)⟩
    |lsA x w=>
     cases J
     obtain⟨T,A,_,o,r,p⟩:=G;cases A
     rw[r]at f;cases f
     obtain⟨u,j,g⟩:=p.get N;exact⟨u,j,Rp.mono lt.off g⟩
    |lst w=>
    cases J
    obtain⟨T,A,o,r,p⟩:=G;cases A
    rw[r]at f;cases f
    obtain⟨u,j,g⟩:=p.get N;exact⟨u,j,Rp.mono lt.off g⟩
   |tmp d=>
    have:=J
    subst this;obtain⟨T,o,A,r,p⟩:=Rp.lst_inv G;cases A
    rw[r]at f;cases f
    obtain⟨u,j,g⟩:=p.get N;exact⟨u,j,Uj lt.2.1 (Rp.mono L g)⟩
  obtain⟨u,hu,tu⟩:=hi';refine⟨⟨U,u,SqL.of (L _ _ f),hu⟩,λx H'' y=>?_⟩;obtain⟨rfl,y⟩:=y
  have:=y U (SqL.of<|L _ _ f)
  rw[hu]at this;cases this
  exact⟨Same.refl _,tu⟩
 ·exact h1.elim
 ·rename_i ns J;have Y:=G.rp M.same;rw[J]at Y;cases Y with
  |scr hs=>
   refine⟨_,rfl,⟨_,hs⟩,q _ _ _ H1 h1 S1 ⟨λi H' Z' hi L lt=>?_,λH' Z' L lt=>⟨_,L.seq hs,by rw[Yy];exact Y1 _⟩⟩⟩
   have hu:(ns.map V.int)[i]?=some (.int<|ns.getD i 0):=by
    rw[YB,Yx hi,Y2,Yx hi];rfl
   refine⟨⟨_,_,L.seq hs,hu⟩,λx H'' y=>?_⟩;obtain⟨rfl,y⟩:=y
   have:=y _ (L.seq hs)
   rw[hu]at this;cases this
   exact⟨Same.refl _,.int _⟩
 ·exact h1.elim
def UD{φ is wi g tc te it pg c a}(hi:P9 K mg E wi it)(hg:XZ K is g pg)(hc:JJ K mg E tc c)(he:VZ K mg E te a)(h1:autoParam ((φ.filterMap id).Nodup) au_1)(h2:autoParam (∀j∈is,φ[j]?=some none) au_1):VZ K mg E (KY φ wi g tc te) (Sm φ it pg c a):=by
 intro H0 B H σ γ R X Q env h q qx;refine hi H0 B H σ γ _ X _ env h (λn item J H1 h1' S1 ok=>?_) qx;obtain⟨hn,f,hf,hR⟩:=h1'.w;have l:=env.grow S1;have hbig:n<=sizeLine:=Y8 hn (by decide);intro L U;refine⟨λi m G C=>m=n-i/\i<=n/\Same H1 C/\C L=some (.lst G)/\Rps K (off (λb=>zof B γ σ b\/b=L) C) ((List.range i).filterMap f) G,⟨n,by simp,Wp _,Jy U,Js,.nil⟩,?_⟩;rintro i m G C ⟨rfl,hin,u,hL,p⟩;have A:=l.grow u;by_cases r:i<n
 ·have envI2:=RS l u U ⟨G,hL⟩ h1;obtain⟨go,yl⟩:=ok.go i C _ r u ⟨A.same,envI2.zm,λb o Y z=>⟨u _ _ Y,EV l U b o Y z⟩⟩;refine .inr ⟨go,λx H3 y=>?_⟩;obtain⟨S3,tv⟩:=yl x H3 y;refine hg H0 _ C H3 _ _ _ _ _ _ envI2 S3 tv (hf i r) λN T p2 e2 f2 k2=>⟨?_,?_⟩
  ·refine Sub.of k2.2 k2.1 λj hj v z=>?_;obtain⟨k,k1,_⟩:=BB z;rw[h2 j hj]at k1;cases k1
  ·refine hc H0 _ H3 N T _ _ _ e2 p2 (λb H5 q5 S5=>?_) λ_ _ z=>z.elim;have e5:=e2.grow S5;cases b with
   |false=>
    rw[Y4 YH]at q5 ⊢;refine⟨n-(i+1),by lia,rfl,r,(u.trans S3).trans S5,(S3.trans S5) _ _ hL,?_⟩;rw[List.range_succ,Qu];simp only[WQ,q5,List.filterMap_nil,WZ];exact Rps.mono (Jn (S3.trans S5) λ_ _ _ z=>z) p
   |true=>
    refine he H0 _ H5 N T _ _ _ e5 q5 (λs v H6 q6 S6 t6=>?_) λ_ _ z=>z.elim;obtain⟨d,hd,hfd⟩:=q6;have M:=(S3.trans S5).trans S6
    have hlen:G.length<=i:=by
     rw[p.len];exact Y8 (List.length_filterMap_le _ _) (by rw[Qe];exact Y1 _)
    refine⟨M _ _ hL,by lia,n-(i+1),by lia,rfl,r,λb o Y=>?_,Js,?_⟩
    ·rw[Jg (J4 Y U)];exact M _ _ (u _ _ Y)
    ·rw[List.range_succ,Qu];have ef:[i].filterMap f=[d]:=by simp[hfd]
     rw[ef]
     have So:Same (off (λb=>zof B γ σ b\/b=L) H6) (off (λb=>zof B γ σ b\/b=L)<|upd H6 L<|.lst (G++[v])):=λb o h=>by
      obtain⟨a1,a2⟩:=XD h;refine Ui ?_ a2;rwa[Jg λz=>a2 (.inr z)]
     refine Rps.append (Rps.mono So<|Rps.mono (Jn M λ_ _ _ z=>z) p) (.cons (Rp.mono So<|Rp.mono (Jn (Same.refl _) λb _ _ z y=>z (.inl y)) (t6.shd (e5.grow S6).same e5.zm S6 hd)) .nil)
 ·have:i=n:=by lia
  subst this;exact .inl ⟨ok.stop C _ u (Later.of A<|Fr.grow u),q _ _ C hR (S1.trans u) ⟨L,rfl,(λ_ e=>e▸S1.free U),G,hL,p⟩⟩
noncomputable def E4:PTT:=λ_ R _=>R true
def Kj:JJ K mg E CD E4:=λ_ _ H _ _ _ _ _ _ p q _=>q _ H p (Same.refl _)
def RV{b g:Type}(xs:List b)(f:b->Option g):(List.range xs.length).filterMap (λi=>(xs[i]?).bind f)=xs.filterMap f:=by
 induction xs with
 |nil=>rfl
 |cons x r h=>
  rw[YX,List.range_succ_eq_map,WQ,List.filterMap_map,WQ];have e:(λi=>((x::r)[i]?).bind f)∘Nat.succ=λi=>(r[i]?).bind f:=rfl;rw[e,h];rfl
end
open M
section
variable {K:Zt}{mg:Zx}{E:L2.St->XK}{H0 H H1 H':Hp}{B Z Z':Addr->Prop}{σ:L2.St}{γ:Γ}
noncomputable def pCB(f:List S->(S->Prop)->Prop)(r:PTA):PTE:=λγ R X=>r γ (λb=>f b R) X
def Uv{f l r}(x:Jt K mg E l r)(h:∀H0 H H1 Z i vs R Q,Same H0 H1->Same H H1->(∀b,Z b->Mut (H b))->TVs K Z H0 H H1 i vs->f i R->(∀s z H',R s->Same H1 H'->TV K Z H0 H H' s z->Q z H')->u vs H1 Q) :
  VZ K mg E (tCB u l) (pCB f r):=by
 intro H0 B H σ γ R X Q g p q v;refine x H0 B H σ γ _ X _ g p (λi vs H1 y j o=>?_) v;exact h H0 H H1 _ i vs R Q (g.grow j).same j g.zm o y λs z H' w A n=>q s z H' w (j.trans A) n
noncomputable def S.free:S->List D->Bool
 | .bor _,b=>Jz b | .tmp _,b=>Jz b | .view (.nst _),b=>Jz b | .view (.nsl _ _),b=>Jz b | .view (.vls _ _ _ _),b=>Jz b | .own (.tl _ _ _),_=>false | .view (.tl _ _ _),_=>false|_,_=>true
def TVs.one_inv (h:TVs K Z H0 H H' [s] vs):∃v,vs=[v]/\TV K Z H0 H H' s v:=by
 cases h with
 |cons h r=>cases r;exact⟨_,rfl,h⟩
def TVs.two_inv (h:TVs K Z H0 H H' [s,t] vs):∃v u,vs=[v,u]/\TV K Z H0 H H' s v/\TV K Z H0 H H' t u:=by
 cases h with
 |cons h r=>cases r with|cons b r=>cases r;exact⟨_,_,rfl,h,b⟩
def TV.items (o:Same H0 H') (p:∀b,Z b->Mut (H b)) (w:Same H H') (h:TV K Z H0 H H' s v) (l:s.free ds=true) :
  (s.d=.lst ds->∃a vs,v=.ref a/\H' a=some (.lst vs)/\Rps K (off Z H') ds vs)/\(s.d=.tup ds->∃a vs,v=.ref a/\H' a=some (.tup vs)/\Rps K (off Z H') ds vs):=by
 have g:=λb z=>Uy w (p b z);cases s with
 |bor d=>
  have h:=Rp.strip h;refine⟨λe=>?_,λe=>?_⟩<;>rw[show d.strip=_ from e]at h
  ·obtain⟨a,vs,rfl,f,r⟩:=Rp.lst_inv h;exact⟨a,vs,rfl,o _ _ f,Rps.off g (Rps.mono o r) l⟩
  ·obtain⟨a,vs,rfl,f,r⟩:=Rp.tup_inv h;exact⟨a,vs,rfl,o _ _ f,Rps.off g (Rps.mono o r) l⟩
 |sh d=>
  refine⟨λe=>?_,λe=>?_⟩<;>(have q:=e;subst q)
  ·obtain⟨a,vs,rfl,f,r⟩:=Rp.lst_inv h;exact⟨a,vs,rfl,off_sub _ _ f,r⟩
  ·obtain⟨a,vs,rfl,f,r⟩:=Rp.tup_inv h;exact⟨a,vs,rfl,off_sub _ _ f,r⟩
 |own j=>
  cases j with
  |nsl x u|vls x C xs A=>
   refine⟨λe=>?_,λe=>by cases e⟩;have i:=h.shd o p w rfl;cases e
   obtain⟨a,vs,rfl,f,r⟩:=Rp.lst_inv i;exact⟨a,vs,rfl,off_sub _ _ f,r⟩
  |tl x j n=>cases l
  |nst u=>
   refine⟨(λe=>by cases e),λe=>?_⟩;have i:=h.shd o p w rfl;cases e
   obtain⟨a,vs,rfl,f,r⟩:=Rp.tup_inv i;exact⟨a,vs,rfl,off_sub _ _ f,r⟩
  |lst j=>
   refine⟨λe=>?_,λe=>by cases e⟩;cases e
   obtain⟨a,rfl,G,vs,e,r⟩:=h;exact⟨a,vs,rfl,e,Rps.mono (Jn (Same.refl _) λb _ _ z y=>z (.inl y)) r⟩
  |lsA x j=>
   refine⟨λe=>?_,λe=>by cases e⟩;cases e
   obtain⟨a,rfl,G,_,vs,e,r⟩:=h;exact⟨a,vs,rfl,e,Rps.mono (Jn (Same.refl _) λb _ _ z y=>z (.inl y)) r⟩
  |_=>exact⟨(λe=>by cases e),(λe=>by cases e)⟩
 |view j=>
  cases j with
  |nsl x u|vls x C xs A=>
   refine⟨λe=>?_,λe=>by cases e⟩;have i:=h.rp o;rw[e]at i;obtain⟨a,vs,rfl,f,r⟩:=Rp.lst_inv i;exact⟨a,vs,rfl,f,Rps.off g r l⟩
  |tl x j n=>cases l
  |nst u=>
   refine⟨(λe=>by cases e),λe=>?_⟩;have i:=h.rp o;rw[e]at i;obtain⟨a,vs,rfl,f,r⟩:=Rp.tup_inv i;exact⟨a,vs,rfl,f,Rps.off g r l⟩
  |lst j=>
   refine⟨λe=>?_,λe=>by cases e⟩;cases e
   obtain⟨a,rfl,vs,e,r⟩:=h;exact⟨a,vs,rfl,e,r⟩
  |lsA x j=>
   refine⟨λe=>?_,λe=>by cases e⟩;cases e
   obtain⟨a,rfl,_,vs,e,r⟩:=h;exact⟨a,vs,rfl,e,r⟩
  |_=>exact⟨(λe=>by cases e),(λe=>by cases e)⟩
 |tmp d=>
  refine⟨λe=>?_,λe=>?_⟩<;>(have q:=e;subst q)
  ·obtain⟨a,vs,rfl,f,r⟩:=Rp.lst_inv h;exact⟨a,vs,rfl,f,Rps.off g r l⟩
  ·obtain⟨a,vs,rfl,f,r⟩:=Rp.tup_inv h;exact⟨a,vs,rfl,f,Rps.off g r l⟩
def N1:List S->(S->Prop)->Prop
 |[s],R=>(match s.d with
  | .lst f=>R (.sh<|.int f.length) | .tup f=>R (.sh<|.int f.length) | .scr b=>R (.sh<|.int b.length) | .fL b=>R (.sh<|.int b.length) | .str x=>x.length<=sizeLine/\R (.sh<|.int x.length)|_=>False)
 |_,_=>False
def OS(y:Jt K mg E o r):VZ K mg E (tCB (λxs H Q=>∃x n,xs=[x]/\Tx K x H n/\Q (.int n) H) o) (pCB N1 r):=by
 refine Uv y λH0 H H1 Z C A R Q u G J l h q=>?_;unfold N1 at h;split at h
 ·rename_i s;obtain⟨v,rfl,p⟩:=l.one_inv;have b:=p.rp u;split at h
  ·rename_i z e;rw[e]at b;obtain⟨a,f,rfl,j,g⟩:=b.lst_inv;exact⟨_,_,rfl,.inl ⟨f,SqL.of j,rfl⟩,by rw[g.len];exact q _ _ H1 h (Same.refl _) (.int _)⟩
  ·rename_i z e;rw[e]at b;obtain⟨a,f,rfl,j,g⟩:=b.tup_inv;exact⟨_,_,rfl,.inr ⟨f,SqT.of j,rfl⟩,by rw[g.len];exact q _ _ H1 h (Same.refl _) (.int _)⟩
  ·rename_i w e;rw[e]at b;cases b with
   |scr i=>exact⟨_,_,rfl,.inl ⟨_,i,rfl⟩,by rw[Yy];exact q _ _ H1 h (Same.refl _) (.int _)⟩
  ·rename_i w e;rw[e]at b;cases b with
   |fL i=>exact⟨_,_,rfl,.inl ⟨_,.inl (.inr ⟨_,i⟩),rfl⟩,by rw[Yy];exact q _ _ H1 h (Same.refl _) (.int _)⟩
  ·rename_i x e;rw[e]at b;rw[b.str_inv];exact⟨_,_,rfl,⟨h.1,rfl⟩,q _ _ H1 h.2 (Same.refl _) (.int _)⟩
  ·exact h.elim
 ·exact h.elim
def Fg:List S->(S->Prop)->Prop
 |[s],R=>(match s.d with
  | .lst b=>s.free b=true/\R (.own b) | .tup b=>s.free b=true/\R (.own b)|_=>False)
 |_,_=>False
def TZ(y:Jt K mg E x r):VZ K mg E (tCB (λxs H Q=>∃p ys,xs=[.ref p]/\(SqL K H p ys\/SqT K H p ys)/\∀l,H l=none->Q (.ref l) (upd H l<|.lst ys)) x) (pCB Fg r):=by
 refine Uv y λH0 H H1 Z C A R Q o f u w h q=>?_;unfold Fg at h;split at h
 ·rename_i s;obtain⟨v,rfl,n⟩:=w.one_inv;split at h
  ·rename_i z e;obtain⟨a,g,rfl,j,i⟩:=(n.items o u f h.1).1 e;exact⟨a,g,rfl,.inl (SqL.of j),λl b=>q _ _ _ h.2 (Jy b) (Xz f b i)⟩
  ·rename_i z e;obtain⟨a,g,rfl,j,i⟩:=(n.items o u f h.1).2 e;exact⟨a,g,rfl,.inr (SqT.of j),λl b=>q _ _ _ h.2 (Jy b) (Xz f b i)⟩
  ·grind
 ·grind
def DT:List S->(S->Prop)->Prop
 |[s],R=>(match s.d with
  | .lst b=>s.free b=true/\R (.sh<|.tup b) | .tup b=>s.free b=true/\R (.sh<|.tup b)|_=>False)
 |_,_=>False
def Dp(C:Jt K mg E A r):VZ K mg E (tCB (λxs H Q=>∃p ys,xs=[.ref p]/\((SqL K H p ys/\∀l,H l=none->Q (.ref l) (upd H l<|.tup ys))\/(SqT K H p ys/\Q (.ref p) H))) A) (pCB DT r):=by
 refine Uv C λH0 H H1 Z L J R Q x j u y h q=>?_;have f:=λb z=>Uy j (u b z);unfold DT at h;split at h
 ·rename_i s;obtain⟨v,rfl,w⟩:=y.one_inv;split at h
  ·rename_i G e;obtain⟨a,i,rfl,g,n⟩:=(w.items x u j h.1).1 e;refine⟨a,i,rfl,.inl ⟨SqL.of g,λl o=>q _ _ _ h.2 (Jy o) (.tup (Ui Js λz=>?_)<|Rps.mono (Jn (Jy o) λ_ _ _ z=>z) n)⟩⟩
   have:=f l z
   rw[o]at this;exact this
  ·rename_i G e;obtain⟨a,i,rfl,g,n⟩:=(w.items x u j h.1).2 e;refine⟨a,i,rfl,.inr ⟨SqT.of g,q _ _ _ h.2 (Same.refl _) (.tup (Ui g λz=>?_) n)⟩⟩
   have:=f a z
   rw[g]at this;exact this
  ·grind
 ·exact h.elim
theorem Rps.ints:∀{b:Zv}{vs:List V},Rps K H (b.map D.int) vs->vs=b.map V.int
 |[],_,.nil=>rfl
 |j::r,_,.cons h t=>by rw[Rp.int_inv h,Rps.ints t];rfl
theorem Rps.of_ints:∀(b:Zv),Rps K H (b.map D.int) (b.map V.int)
 |[]=>.nil
 |j::r=>.cons (.int j) (Rps.of_ints r)
def ET:List S->(S->Prop)->Prop
 |[s],R=>∃f:Zv,s.d=.lst (f.map D.int)/\f.length<64/\∀b:Zv,b.Perm f->b.Pairwise (·<=·)->R (.own<|b.map D.int)
 |_,_=>False
def Tw{f r}(C:Jt K mg E f r):VZ K mg E (tCB (λxs H Q=>∃p b,xs=[.ref p]/\b.length<64/\(SqL K H p (b.map V.int)\/H p=some (XT w p b))/\
  ∀l (ns:Zv),H l=none->ns.Perm b->ns.Pairwise (·<=·)->Q (.ref l) (upd H l<|.lst<|ns.map V.int)) f) (pCB ET r):=by
 refine Uv C λH0 H H1 Z M J R Q x u N n h q=>?_;unfold ET at h;split at h
 ·rename_i s;obtain⟨v,rfl,o⟩:=n.one_inv;obtain⟨b,e,z,k⟩:=h;have g:=o.rp x;rw[e]at g;obtain⟨a,L,rfl,j,y⟩:=g.lst_inv;rw[y.ints]at j;exact⟨a,b,rfl,z,.inl (SqL.of j),λl ns i G A=>q _ _ _ (k ns G A) (Jy i) (Xz u i<|Rps.of_ints ns)⟩
 ·grind
def Dl:List S->(S->Prop)->Prop
 |[s,t],R=>(match s.d,t.d with | .int i,.int j=>R (.sh<|.int (if j>i then j else i))|_,_=>False)
 |_,_=>False
def Hu(s:Jt K mg E n r):VZ K mg E (tCB (λxs H Q=>∃i j,xs=[.int i,.int j]/\Q (.int (if j>i then j else i)) H) n) (pCB Dl r):=by
 refine Uv s λH0 H H1 Z z y R Q b A C l h q=>?_;unfold Dl at h;split at h
 ·obtain⟨v,u,rfl,p,o⟩:=l.two_inv;have g:=p.rp b;have f:=o.rp b;split at h
  ·rename_i i j x w;rw[x]at g;rw[w]at f;rw[g.int_inv,f.int_inv];exact⟨i,j,rfl,q _ _ H1 h (Same.refl _) (.int _)⟩
  ·grind
 ·grind
def Zdn:List S->(S->Prop)->Prop
 |[s],R=>(match s.d with | .int i=>R (.sh<|.int (if i<0 then -i else i))|_=>False)
 |_,_=>False
noncomputable def tyD:D->Option String
 | .int _=>some "int" | .bl _=>some "bool" | .non=>some "NoneType" | .str _=>some "str" | .tup _=>some "tuple" | .lst _=>some "list" | .fL _=>some "list" | .dK _=>some "dict" | .dT _=>some "dict" |_=>none
inductive JK:String->String->Bool->Prop
 |same (n:String):JK n n true
 |ib:JK "int" "bool" false
 |bi:JK "bool" "int" true
 |tl:JK "tuple" "list" false
 |lt:JK "list" "tuple" false
 |it:JK "int" "tuple" false
 |il:JK "int" "list" false
 |bt:JK "bool" "tuple" false
 |bL:JK "bool" "list" false
 |ti:JK "tuple" "int" false
 |li:JK "list" "int" false
 |si:JK "str" "int" false
 |is:JK "int" "str" false
 |ni:JK "NoneType" "int" false
 |nl:JK "NoneType" "list" false
 |nt:JK "NoneType" "tuple" false
def JK.kit (h:JK m n b):PySem.W.kitOne K (.type m) (.type n)=some b:=by
 cases h with
 |same=>exact HL K _
 |_=>rfl
def DC:List S->(S->Prop)->Prop
 |[s,t],R=>(match tyD s.d,t.d with|some m,.ty n=>∃b,JK m n b/\R (.sh<|.bl b)|_,_=>False)
 |_,_=>False
def Hy(h:Rp K H d v)(e:tyD d=some m):JZ K H v (.type m):=by
 cases h with
 |int i=>cases e;exact .int i
 |bl b=>cases e;exact .bl b
 |non=>cases e;exact .non
 |str x=>cases e;exact .str x
 |tup h r=>cases e;exact .tup h
 |lst h r=>cases e;exact .lst h
 |dK h=>cases e;exact .dK h
 |dT h=>cases e;exact .dT h
 |fL h=>cases e;exact .frz h
 |_=>cases e
def Kg(p:Jt K mg E j r):VZ K mg E (tCB (λxs H Q=>∃x n t b,xs=[x,.ty n]/\JZ K H x t/\PySem.W.kitOne K t (.type n)=some b/\Q (.bl b) H) j) (pCB DC r):=by
 refine Uv p λH0 H H1 Z A z R Q f C G i h q=>?_;unfold DC at h;split at h
 ·obtain⟨v,u,rfl,o,l⟩:=i.two_inv;have g:=l.rp f;split at h
  ·rename_i m n y w;rw[w]at g;rw[g.ty_inv];obtain⟨b,k,s⟩:=h;exact⟨v,n,_,b,rfl,Hy (o.rp f) y,k.kit,q _ _ H1 s (Same.refl _) (.bl _)⟩
  ·grind
 ·grind
noncomputable def pBM(f:S->List S->(S->Prop)->Prop)(a:PTE)(r:PTA):PTE:=λγ R X=>a γ (λs=>(∃g,s.d=.lst g)/\r γ (λb=>f s b R) X) X
def LC{f te w a r}(Y:VZ K mg E te a)(N:Jt K mg E w r)(h:∀H0 H H1 Z s v n vs R Q,Same H0 H1->Same H H1->(∀b,Z b->Mut (H b))->TV K Z H0 H H1 s v->TVs K Z H0 H H1 n vs->f s n R->(∀s z H',R s->Same H1 H'->TV K Z H0 H H' s z->Q z H')->L v vs H1 Q) :
  VZ K mg E (tBM K "list" L te w) (pBM f a r):=by
 intro H0 B H σ γ R X Q i p q A;refine Y H0 B H σ γ _ X _ i p (λs v H1 u j x=>?_) A;have g:=i.grow j;obtain⟨⟨ds,ed⟩,u⟩:=u;have y:=x.rp g.same;rw[ed]at y;obtain⟨l,C,rfl,T,_⟩:=y.lst_inv;refine⟨.inl ⟨rfl,C,SqL.of T⟩,N H0 B H1 σ γ _ X _ g u (λn vs H2 h2 o J=>?_) λc H' U S'=>A c H' U (j.trans S')⟩;exact h H0 H H2 _ s _ n vs R Q (g.grow o).same (j.trans o) i.zm (x.grow o) (TVs.weakG j J) h2 λs z H' M S3 G=>q s z H' M ((j.trans o).trans S3) G
def GU:S->List S->(S->Prop)->Prop:=λs b R=>match b with
 |[t]=>(match t.d with | .int z=>∃xs:Zv,s.d=.lst (xs.map D.int)/\z∈xs/\R (.sh<|.int (xs.idxOf z:Nat))|_=>False)
 |_=>False
def Gp{a r}(y:VZ K mg E te a)(x:Jt K mg E n r):VZ K mg E (tBM K "list" (PP K) te n) (pBM GU a r):=by
 refine LC y x λH0 H H1 Z s v L G R Q g M N p o h q=>?_;unfold GU at h;split at h
 ·obtain⟨u,rfl,f⟩:=o.one_inv;have i:=f.rp g;split at h
  ·rename_i z e;rw[e]at i;obtain⟨xs,C,w,A⟩:=h;have b:=p.rp g;rw[C]at b;obtain⟨l,J,rfl,j,b⟩:=b.lst_inv;rw[b.ints]at j;exact⟨l,xs,z,rfl,by rw[i.int_inv],SqL.of j,w,q _ _ H1 A (Same.refl _) (.int _)⟩
  ·grind
 ·exact h.elim
noncomputable def prD(p:Int×Int):D:=.tup [.int p.1,.int p.2]
inductive InR:D->D->Bool->Prop
 |li (i:Int) (hs:Zv):InR (.int i) (.lst<|hs.map D.int) (decide (i∈hs))
 |ti (i:Int) (hs:Zv):InR (.int i) (.tup<|hs.map D.int) (decide (i∈hs))
 |lp (q:Int×Int) (ps:Zu):InR (prD q) (.lst<|ps.map prD) (decide (q∈ps))
def fIn(neg:Bool):S->S->(S->Prop)->Prop:=λx y R=>∃b,InR x.d y.d b/\R (.sh<|.bl (if neg then !b else b))
def Rp.pair (h:Rp K H (prD q) v):JU H v q:=by
 obtain⟨a,i,rfl,b,r⟩:=Rp.tup_inv h;obtain⟨x,y,rfl,g,f⟩:=r.two_inv;rw[g.int_inv,f.int_inv]at b;exact⟨a,rfl,b⟩
def Rps.lv {vs} (h:Rps K H (ps.map prD) vs):LV JU H vs ps:=by
 refine⟨by rw[h.len,Yy],λi p b=>?_⟩;obtain⟨v,g,f⟩:=h.get (by rw[YB,b];rfl);exact⟨v,g,f.pair⟩
def Pw{A z a b}(T:VZ K mg E A a)(N:VZ K mg E z b):VZ K mg E (tOp (λx y H Q=>rIn K neg x y H Q\/Pv neg x y H Q) A z) (p2 a b<|fIn neg):=by
 refine Uq T N λH0 H w Z x y v u R Q C U Y J G h q=>?_;obtain⟨k,o,s⟩:=h;have j:=J.rp C;have g:=G.rp C;generalize ex:x.d=dx at o j;generalize ey:y.d=dy at o g;cases o with
 |li i M=>
  obtain⟨l,n,rfl,f,r⟩:=g.lst_inv;rw[r.ints]at f;rw[j.int_inv];refine .inl ⟨l,_,rfl,.inl (SqL.of f),rfl,Xi _,?_⟩;rw[DJ];exact q _ _ w s (Same.refl _) (.bl _)
 |ti i M=>
  obtain⟨l,n,rfl,f,r⟩:=g.tup_inv;rw[r.ints]at f;rw[j.int_inv];refine .inl ⟨l,_,rfl,.inr (SqT.of f),rfl,Xi _,?_⟩;rw[DJ];exact q _ _ w s (Same.refl _) (.bl _)
 |lp p L=>
  obtain⟨l,n,rfl,f,r⟩:=g.lst_inv;exact .inr ⟨l,L,p,rfl,j.pair,⟨n,f,r.lv⟩,q _ _ w s (Same.refl _) (.bl _)⟩
def Kx(neg:Bool):S->S->(S->Prop)->Prop:=λx y R=>match x.d,y.d with
 | .lst g,.lst f=>∃xs b:Zv,g=xs.map D.int/\f=b.map D.int/\R (.sh<|.bl (if neg then !decide (xs=b)else decide (xs=b)))
 |_,_=>fEq neg x y R
def XI{a b}(T:VZ K mg E L a)(N:VZ K mg E J b):VZ K mg E (tOp (λx y H Q=>rEq x y H Q\/Xy K false x y H Q) L J) (p2 a b<|Kx false):=by
 refine Uq T N λH0 H p Z x y v u R Q w s1 s G C h q=>?_;have g:=G.rp w;have f:=C.rp w;unfold Kx at h;split at h
 ·rename_i ds es o n;obtain⟨xs,Y,rfl,rfl,U⟩:=h;rw[o]at g;rw[n]at f;obtain⟨l,us,rfl,A,r⟩:=g.lst_inv;obtain⟨m,ws,rfl,s,M⟩:=f.lst_inv;rw[r.ints]at A;rw[M.ints]at s;refine .inr ⟨l,m,_,_,rfl,rfl,SqL.of A,SqL.of s,Xi _,Xi _,?_⟩;rw[NI];exact q _ _ p U (Same.refl _) (.bl _)
 ·refine .inl ?_;unfold fEq at h;split at h
  ·rename_i i j o n;rw[o]at g;rw[n]at f;rw[g.int_inv,f.int_inv];refine⟨rfl,?_⟩;rw[Kz λ_ _ z=>V.int.inj z];exact q _ _ p h (Same.refl _) (.bl _)
  ·rename_i i j o n;rw[o]at g;rw[n]at f;rw[g.str_inv,f.str_inv];refine⟨rfl,?_⟩;rw[Kz λ_ _ z=>V.str.inj z];exact q _ _ p h (Same.refl _) (.bl _)
  ·rename_i i j o n;rw[o]at g;rw[n]at f;rw[g.bl_inv,f.bl_inv];refine⟨rfl,?_⟩;rw[Kz λ_ _ z=>V.bl.inj z];exact q _ _ p h (Same.refl _) (.bl _)
  ·exact h.elim
def NV{a b}(T:VZ K mg E L a)(N:VZ K mg E J b):VZ K mg E (tOp (λx y H Q=>rNe x y H Q\/Xy K true x y H Q) L J) (p2 a b<|Kx true):=by
 refine Uq T N λH0 H p Z x y v u R Q w s1 s G C h q=>?_;have g:=G.rp w;have f:=C.rp w;unfold Kx at h;split at h
 ·rename_i ds es o n;obtain⟨xs,Y,rfl,rfl,U⟩:=h;rw[o]at g;rw[n]at f;obtain⟨l,us,rfl,A,r⟩:=g.lst_inv;obtain⟨m,ws,rfl,s,M⟩:=f.lst_inv;rw[r.ints]at A;rw[M.ints]at s;refine .inr ⟨l,m,_,_,rfl,rfl,SqL.of A,SqL.of s,Xi _,Xi _,?_⟩;rw[NI];exact q _ _ p U (Same.refl _) (.bl _)
 ·refine .inl ?_;unfold fEq at h;split at h
  ·rename_i i j o n;rw[o]at g;rw[n]at f;rw[g.int_inv,f.int_inv];refine⟨rfl,?_⟩;rw[Kz λ_ _ z=>V.int.inj z];exact q _ _ p h (Same.refl _) (.bl _)
  ·rename_i i j o n;rw[o]at g;rw[n]at f;rw[g.str_inv,f.str_inv];refine⟨rfl,?_⟩;rw[Kz λ_ _ z=>V.str.inj z];exact q _ _ p h (Same.refl _) (.bl _)
  ·rename_i i j o n;rw[o]at g;rw[n]at f;rw[g.bl_inv,f.bl_inv];refine⟨rfl,?_⟩;rw[Kz λ_ _ z=>V.bl.inj z];exact q _ _ p h (Same.refl _) (.bl _)
  ·exact h.elim
noncomputable abbrev EB(K:Zt)(b:TE):TT:=λσ H Q=>b σ H λx H'=>∃k,Bc K x H' k/\Q k H'
noncomputable def E9(a:PTE):PTT:=λγ R X=>a γ (λx=>match x.d with
 | .bl b=>R b | .lst f=>R (!f.isEmpty) | .tup f=>R (!f.isEmpty) | .int i=>R (i != 0) | .non=>R false|_=>False) X
def BI{f b:Type}{l:List f}{m:List b}(h:l.length=m.length):l.isEmpty=m.isEmpty:=by
 cases l<;>cases m<;>simp at h ⊢
def XW(w:VZ K mg E te a):JJ K mg E (EB K te) (E9 a):=by
 intro H0 B H σ γ R X Q n p q u;refine w H0 B H σ γ _ X _ n p (λx v H1 g h s=>?_) u;have f:=s.rp (n.grow h).same;split at g
 ·rename_i b e;rw[e]at f;rw[f.bl_inv];exact⟨b,rfl,q _ H1 g h⟩
 ·rename_i y e;rw[e]at f;obtain⟨l,j,rfl,o,r⟩:=f.lst_inv;exact⟨!j.isEmpty,.inl ⟨j,SqL.of o,rfl⟩,by rw[BI r.len];exact q _ H1 g h⟩
 ·rename_i y e;rw[e]at f;obtain⟨l,j,rfl,o,r⟩:=f.tup_inv;exact⟨!j.isEmpty,.inr (.inl ⟨j,SqT.of o,rfl⟩),by rw[BI r.len];exact q _ H1 g h⟩
 ·rename_i i e;rw[e]at f;rw[f.int_inv];exact⟨_,rfl,q _ H1 g h⟩
 ·rename_i e;rw[e]at f;rw[f.non_inv];exact⟨_,rfl,q _ H1 g h⟩
 ·exact g.elim
noncomputable def cutD{b:Type}(xs:List b)(lo f:Option Int):List b:=(xs.drop<|HT.sIx xs.length 0 lo).take (HT.sIx xs.length xs.length f-HT.sIx xs.length 0 lo)
noncomputable def EN:PTO:=λ_ R _=>R none
noncomputable def F0(a:PTE):PTO:=λγ R X=>a γ (λs=>match s.d with | .int i=>R (some i)|_=>False) X
def Co:Py K mg E Ci EN:=λ_ _ H _ _ _ _ _ _ p q _=>q _ H p (Same.refl _)
def D2(n:VZ K mg E te a):Py K mg E (E7 te) (F0 a):=by
 intro H0 B H σ γ R X Q b p q l;refine n H0 B H σ γ _ X _ b p (λx v H1 g h j=>?_) l;have f:=j.rp (b.grow h).same;split at g
 ·rename_i i e;rw[e]at f;exact⟨i,f.int_inv,q _ H1 g h⟩
 ·grind
noncomputable def pSl(a:PTE)(l u:PTO):PTE:=λγ R X=>a γ (λs=>l γ (λlo=>u γ (λf=>match s.d with | .lst b=>s.free b=true/\R (.own<|cutD b lo f)|_=>False) X) X) X
def Rps.cut {lo b} (r:Rps K H ds vs):Rps K H (cutD ds lo b) (KM vs lo b):=by
 unfold cutD KM;rw[r.len];exact Rps.take _ (Rps.drop _ r)
def Ai{a l u}(N:VZ K mg E te a)(L:Py K mg E A l)(J:Py K mg E C u):VZ K mg E (tSl (Sd K) te A C) (pSl a l u):=by
 intro H0 B H σ γ R X Q f p q j;refine N H0 B H σ γ _ X _ f p (λx v H1 U h G=>?_) j;refine L H0 B H1 σ γ _ X _ (f.grow h) U (λlo Y T i=>?_) λc H' n s=>j c H' n (h.trans s);refine J H0 B Y σ γ _ X _ ((f.grow h).grow i) T (λhi H3 o y=>?_) λc H' n s=>j c H' n ((h.trans i).trans s);have g:=(h.trans i).trans y;split at o
 ·rename_i ds e;obtain⟨b,z,rfl,M,r⟩:=((G.grow<|i.trans y).items (f.grow g).same f.zm g o.1).1 e;exact⟨b,z,rfl,SqL.of M,λm w=>q _ _ _ o.2 (g.trans<|Jy w) (Xz g w r.cut)⟩
 ·grind
def FG:S->S->(S->Prop)->Prop:=λx y R=>match x.d,y.d with
 | .lst f,.lst b=>x.free f=true/\y.free b=true/\f.length+b.length<=100000/\R (.own (f++b))
 |_,_=>False
def Pq{a b}(N:VZ K mg E G a)(M:VZ K mg E C b):VZ K mg E (tOp BW G C) (p2 a b FG):=by
 refine Uq N M λH0 H H2 Z x y v u R Q n f w A z h q=>?_;unfold FG at h;split at h
 ·rename_i ds Y U T;obtain⟨l,j,rfl,L,r⟩:=(A.items n w f h.1).1 U;obtain⟨m,i,rfl,g,o⟩:=(z.items n w f h.2.1).1 T;have J:j.length+i.length<=sizeLine:=by rw[r.len,o.len];exact Y8 h.2.2.1 (by decide)
  exact⟨l,m,j,i,rfl,rfl,L,g,J,λp s=>q _ _ _ h.2.2.2 (Jy s) (Xz f s<|r.append o)⟩
 ·grind
noncomputable def BH(i:Nat)(a:PTE):PTS:=λR γ=>match γ[i]? with
 |some (some<|.own<|.lst b)=>a γ (λs=>match s.shd with
  |some d=>b.length<10000000/\R.nx (γ.set i<|some<|.own (b++[d]))
  |none=>False) (R.ex γ)
 |some (some<|.own<|.lsA x b)=>a γ (λs=>match s.shd with
  |some d=>b.length<10000000/\R.nx (γ.set i<|some<|.own<|.lsA x (b++[d]))
  |none=>False) (R.ex γ)
 |_=>False
def Gh(i:Nat){te a}(N:VZ K mg E te a):Jm K mg E (P5<|tBM K "list" Fi (UE i)<|J3 te JS) (BH i a):=by
 intro H0 B H σ γ R D Q f h e;unfold BH at h;split at h
 ·rename_i L q;obtain⟨v,p,b,rfl,C,us,r,o⟩:=f.slot i _ q;refine⟨_,p,.inl ⟨rfl,us,SqL.of r⟩,N H0 B H σ γ _ _ _ f h (λs u H1 l j y=>?_) λc H' A w=>e.ex σ γ c H' A (f.grow w) (Fr.grow w)⟩;have g:=f.grow j;split at l
  ·rename_i d n;refine⟨b,us,u,rfl,rfl,j _ _ r,by rw[o.len];exact Qt l.1 (by decide),?_⟩;obtain⟨n,J⟩:=g.mutate (es:=.lst (L++[d])) (us:=.lst (us++[u])) q p trivial λF H' M G=>⟨_,G,Rps.mono M (Rps.append (Rps.mono (Jn j λ_ _ _ z=>z) o)<|.cons (y.shd g.same f.zm j n) .nil)⟩;exact e.nx _ _ _ l.2 n ((Fr.grow j).trans J)
  ·exact l.elim
 ·rename_i x L q;obtain⟨v,p,b,rfl,C,rfl,us,r,o⟩:=f.slot i _ q;refine⟨_,p,.inl ⟨rfl,us,SqL.of r⟩,N H0 B H σ γ _ _ _ f h (λs u H1 l j y=>?_) λc H' A w=>e.ex σ γ c H' A (f.grow w) (Fr.grow w)⟩;have g:=f.grow j;split at l
  ·rename_i d n;refine⟨b,us,u,rfl,rfl,j _ _ r,by rw[o.len];exact Qt l.1 (by decide),?_⟩;obtain⟨n,J⟩:=g.mutate (es:=.lsA b (L++[d])) (us:=.lst (us++[u])) q p trivial λF H' M G=>⟨rfl,_,G,Rps.mono M (Rps.append (Rps.mono (Jn j λ_ _ _ z=>z) o)<|.cons (y.shd g.same f.zm j n) .nil)⟩;exact e.nx _ _ _ l.2 n ((Fr.grow j).trans J)
  ·exact l.elim
 ·exact h.elim
end
section
variable {X:Cx}{K:Zt}
def PK(b:X.A.in1.units<cLine)(f:autoParam (X.K=K) au_0):OpR X (compareOp .In) (λx y H Q=>rIn K false x y H Q\/Pv false x y H Q):=(Zav f).or (Zar b)
def OM(b:X.A.in1.units<cLine)(f:autoParam (X.K=K) au_0):OpR X (compareOp .NotIn) (λx y H Q=>rIn K true x y H Q\/Pv true x y H Q):=(Ik f).or (Zbl b)
def Tu(b:X.A.units<cLine)(f:autoParam (X.K=K) au_0):OpR X (compareOp .Eq) (λx y H Q=>rEq x y H Q\/Xy K false x y H Q):=by subst f;exact op_eq.or (Ox b)
def Zcc(b:X.A.units<cLine)(f:autoParam (X.K=K) au_0):OpR X (compareOp .NotEq) (λx y H Q=>rNe x y H Q\/Xy K true x y H Q):=by subst f;exact op_ne.or (DR b)
def XA(f:PE X e te)(g:autoParam (X.K=K) au_0)(b:autoParam (∀whole,isTrue e X.env whole=(do let v ←whole;standAt e.pos;holding [v] (truthy v))) au_3):PT X e (EB K te):=by
 subst g;exact Zbo f b
def PH(b:autoParam (X.K=K) au_0):JC X (.type "list") (λxs H Q=>∃p ys,xs=[.ref p]/\(SqL K H p ys\/SqT K H p ys)/\∀l,H l=none->Q (.ref l) (upd H l<|.lst ys)):=by subst b;exact G2
def F7(b:autoParam (X.K=K) au_0):JC X (.type "tuple") (λxs H Q=>∃p ys,xs=[.ref p]/\((SqL K H p ys/\∀l,H l=none->Q (.ref l) (upd H l<|.tup ys))\/(SqT K H p ys/\Q (.ref p) H))):=by subst b;exact HU
def K0(f:autoParam (X.K=K) au_0):JC X (.builtin "isinstance") (λxs H Q=>∃x n t b,xs=[x,.ty n]/\JZ K H x t/\PySem.W.kitOne K t (.type n)=some b/\Q (.bl b) H):=by subst f;exact R1
def AO(b:autoParam (X.K=K) au_0):SlR X (Sd K):=by subst b;exact Hi
def Nd(f:X.calm=true){w}(g:autoParam (X.K=K) au_0)(hw:autoParam (X.w=w) au_0):JC X (.builtin "sorted") (λxs H Q=>∃p b,xs=[.ref p]/\b.length<64/\(SqL K H p (b.map V.int)\/H p=some (XT w p b))/\
  ∀l (ns:Zv),H l=none->ns.Perm b->ns.Pairwise (·<=·)->Q (.ref l) (upd H l<|.lst<|ns.map V.int)):=by subst g;subst hw;exact Ez f
def X1{f l b}(g:PE X l b)(h:autoParam (X.K=K) au_0):PI X f l (PY K b):=by subst h;exact Fk g
end
section
variable {P:Program}{w:World}{K:Zt}{mg:Zx}{base:Heap}{H H':Hp}
def AA(C:Callee P w K mg base CX k x ps sp)(h:∀ds R X vs H Q E,Rps K H ds vs->c ds R X->(∀s v H',R s->Same H H'->TV K (λb=>Mut (H b)) H H H' s v->Q v H')->(∀e H',X e->Same H H'->XE mg E e H')->sp vs H Q E) :
  Callee P w K mg base CX k x ps (Je mg c K):=by
 obtain⟨f,l,F,rest⟩:=C.ex;exact⟨f,l,F.imp λvs H Q E ⟨ds,R,X,r,g,j,i⟩=>h ds R X vs H Q E r g j i,rest⟩
def Rp.ints_inv {ns:Zv}{v} (h:Rp K H (.lst<|ns.map D.int) v):∃a,v=.ref a/\H a=some (.lst<|ns.map V.int):=by
 obtain⟨a,f,rfl,b,r⟩:=h.lst_inv;rw[r.ints]at b
 grind
def Rp.pairs_inv {v} (h:Rp K H (.lst<|ps.map prD) v):∃a,v=.ref a/\LAt JU H a ps:=by
 obtain⟨a,b,rfl,f,r⟩:=h.lst_inv;exact⟨a,rfl,b,f,r.lv⟩
def A2{ns:Zv}(n:H a=none)(h:H' a=some (.lst<|ns.map V.int)):TV K (λb=>Mut (H b)) H H H' (.own<|ns.map D.int) (.ref a):=⟨a,rfl,(λ_ e=>e▸n),_,h,Rps.of_ints ns⟩
theorem UJ:∀(ns:Zv),Jz (ns.map D.int)=true
 |[]=>rfl
 |n::r=>by rw[YE];unfold Jz;rw[UJ r];unfold imm;rfl
def HP(p:Int×Int):imm (prD p)=true:=rfl
theorem Ar:∀(ps:Zu),Jz (ps.map prD)=true
 |[]=>rfl
 |p::r=>by rw[YE];unfold Jz;rw[Ar r,HP];rfl
def Zdm{b:Type}{f:b->D}{xs:List b}{i}(h:i<xs.length):(xs.map f).getD i .non=f xs[i]:=by grind
def UM{b:Type}{f:b->D}{xs:List b}{i}(g:0<=i)(h:i<(xs.length:Int)):atI (xs.map f) i=some (f (xs[i.toNat]'(by lia))):=by
 have j:i.toNat<xs.length:=by lia
 exact Xc (T8 g<|Yx j)
def Ge{b:Type}{f:b->D}{xs:List b}{i}(h:i<xs.length):atI (xs.map f) (i:Int)=some (f xs[i]):=Xc (TL<|Yx h)
def J6{j:Type}{φ}{γ}{g}{c}{e}{s:S}{R}{xs:List j}{emb}(f:j->Option D)(l:xs.length<=100000)(turn:∀x∈xs,g (s.sub<|emb x) (atP φ γ) λh=>c h (λb=>if b=true then e h (λs=>∃d,s.shd=some d/\f x=some d) (λ_=>False)else f x=none) λ_=>False)(done:R (.own<|xs.filterMap f)) :
  NJ φ γ g c e (xs.map emb).length (λi=>s.sub ((xs.map emb).getD i .non)) R:=by
 rw[Yy];refine⟨⟨l,λi=>(xs[i]?).bind f,λi n=>?_,by rw[RV];exact done⟩⟩;simp_all
def Sa{g c e item R n}(f:Nat->Option D)(l:n<=100000)(turn:∀i,i<n->g (item i) (atP φ j) λh=>c h (λb=>if b=true then e h (λs=>∃d,s.shd=some d/\f i=some d) (λ_=>False)else f i=none) λ_=>False)(done:R (.own ((List.range n).filterMap f))) :
  NJ φ j g c e n item R:=⟨⟨l,f,turn,done⟩⟩
def Uk{n:Type}{js}{γ}{g}{body}{s:S}{R}{xs:List n}{emb}(f:Nat->Γ->Prop)(p:f 0 (clr js γ))(turn:∀i o b,f i b->g (s.sub (emb xs[i])) b λl=>body {R with nx:=λj=>f (i+1) (clr js j),ct:=λj=>f (i+1) (clr js j),bk:=R.nx} l)(done:∀b,f xs.length b->R.nx b) :
  Te js γ g body R (xs.map emb).length (λi=>s.sub ((xs.map emb).getD i .non)):=by
 refine⟨⟨f,p,λi b o h=>?_,λb h=>?_⟩⟩
 ·grind
 ·grind
def Xt{n item}(b:Nat->Γ->Prop)(p:b 0 (clr l o))(turn:∀i f,i<n->b i f->g (item i) f λj=>body {R with nx:=λh=>b (i+1) (clr l h),ct:=λh=>b (i+1) (clr l h),bk:=R.nx} j)(done:∀f,b n f->R.nx f):Te l o g body R n item:=⟨⟨b,p,turn,done⟩⟩
def B8(h:Γ->Prop)(i:Γ->Nat)(n:h (clr j l))(turn:∀f,h f->c f (λb=>if b=true then body {R with nx:=λg=>h (clr j g)/\i (clr j g)<i f,ct:=λg=>h (clr j g)/\i (clr j g)<i f,bk:=R.nx} f else R.nx f) (R.ex f)):Gg j l c body R:=⟨⟨h,i,n,turn⟩⟩
def TK(J:Γ->Prop)(h:p {R with nx:=J} f)(g:∀b,J b->q R b):Ei p q R f:=⟨⟨J,h,g⟩⟩
theorem Ul{b:Type}(c:b->Bool)(emb:b->D):∀f:List b,f.filterMap (λq=>if c q=true then some (emb q)else none)=(f.filter c).map emb
 |[]=>rfl
 |q::r=>by
  by_cases h:c q=true
  ·rw[List.filterMap_cons_some (by rw[Y5 h]),List.filter_cons_of_pos h,YE,Ul c emb r]
  ·rw[List.filterMap_cons_none (by grind),List.filter_cons_of_neg h,Ul c emb r]
def UR{b:Type}(emb:b->D)(f:List b):f.filterMap (λq=>some (emb q))=f.map emb:=by simp
def T4(f:g->D)(xs:List g)(lo b:Option Int):cutD (xs.map f) lo b=(cutD xs lo b).map f:=by
 unfold cutD;simp
def GE(xs:List b){n}(h:0<=n):cutD xs none (some n)=xs.take n.toNat:=by
 unfold cutD;have e:n=(n.toNat:Int):=by lia
 rw[HT.GO,e,HT.Cs,List.drop_zero,Nat.sub_zero,Wk];by_cases c:n.toNat<=xs.length
 ·simp
 ·simp
def Ej(xs:List b){n}(h:0<=n):cutD xs (some n) none=xs.drop n.toNat:=by
 unfold cutD;have e:n=(n.toNat:Int):=by lia
 rw[HT.GO,e,HT.Cs,Wk];by_cases c:n.toNat<=xs.length
 ·grind
 ·rw[Nat.min_eq_right (by lia),List.drop_of_length_le (Y1 _),List.drop_of_length_le (by lia)];simp
noncomputable def NO(K:Zt):Sp:=λb H Q _=>∃(a:Addr) (f:Zv),b=[.ref a]/\SqL K H a (f.map V.int)/\∀H',Q (.bl true) H'
noncomputable def Eg:Pc:=λf R _=>∃b:Zv,f=[.scr b]/\R (.sh<|.bl true)
def B4(h:NO K vs H Q i):Je mg Eg K vs H Q i:=by
 obtain⟨a,b,rfl,g,q⟩:=h;refine⟨[.scr b],λs=>s=.sh (.bl true),λ_=>False,.cons (.scr g) .nil,⟨b,rfl,rfl⟩,λs v H' e j f=>?_,λ_ _ z=>z.elim⟩;subst e;cases f
 grind
end
section
variable {K:Zt}{mg:Zx}{E:L2.St->XK}{H0 H H1 H':Hp}{B Z Z':Addr->Prop}{σ:L2.St}{γ:Γ}
noncomputable def PJ:D->Option V
 | .int i=>some (.int i) | .bl b=>some (.bl b) | .non=>some .non | .str x=>some (.str x)|_=>none
noncomputable def vD:V->D
 | .int i=>.int i | .bl b=>.bl b | .str x=>.str x|_=>.non
noncomputable def TH:V->Bool
 | .int _=>true | .bl _=>true | .str _=>true | .non=>true|_=>false
def NM(h:TH v=true):Rp K H (vD v) v:=by
 cases v with
 |int i=>exact .int i
 |bl b=>exact .bl b
 |str x=>exact .str x
 |non=>exact .non
 |_=>cases h
def By(h:Rp K H d v)(e:PJ d=some u):v=u:=by
 cases h with
 |int i|bl b|non|str x=>cases e;rfl
 |_=>cases e
noncomputable def Pr:D->Option Key
 | .int i=>some (.inl i) | .str x=>some (.inr x)|_=>none
noncomputable def K7:List D->Option (List Key)
 |[]=>some []
 |d::r=>match Pr d,K7 r with
  |some k,some b=>some (k::b)
  |_,_=>none
noncomputable def Kh:D->Option (List Key)
 | .tup b=>K7 b
 |_=>none
def P1(h:Rp K H d v)(e:Pr d=some k):v=kV k:=by
 cases h with
 |int i|str x=>cases e;rfl
 |_=>cases e
def Mc:∀{ds vs}{b:List Key},Rps K H ds vs->K7 ds=some b->vs=b.map kV:=by
 intro ds
 induction ds with
 |nil=>
  intro _ _ h e;cases h
  cases e
  rfl
 |cons _ _ f=>
  intro _ b h e;cases h with
  |cons h r=>
   unfold K7 at e;split at e
   ·rename_i k j i g;cases e
    rw[P1 h i,f r g];rfl
   ·grind
def P2(h:Rp K H d v)(e:Kh d=some f):∃b,v=.ref b/\H b=some (.tup<|f.map kV):=by
 cases h with
 |tup h r=>
  rw[Mc r e]at h
  grind
 |_=>cases e
def Rp.dK_inv (h:Rp K H (.dK b) v):∃a,v=.ref a/\H a=some (.dK b):=by
 cases h with
 |dK h=>grind
def Rp.dT_inv (h:Rp K H (.dT b) v):∃a,v=.ref a/\H a=some (.dT b):=by
 cases h with
 |dT h=>grind
noncomputable def Zdb:PTE:=λ_ R _=>R (.own<|.dK [])
noncomputable def RQ:PTE:=λ_ R _=>R (.own<|.dT [])
def D4:VZ K mg E Ac Zdb:=by
 intro H0 B H σ γ R X Q f p q _ l b;exact q _ _ _ p (Jy b) ⟨l,rfl,(λ_ e=>e▸b),Js⟩
def LO:VZ K mg E Aa RQ:=by
 intro H0 B H σ γ R X Q f p q _ l b;exact q _ _ _ p (Jy b) ⟨l,rfl,(λ_ e=>e▸b),Js⟩
def Cq:S->S->(S->Prop)->Prop:=λx y R=>match x.d with
 | .dK b=>∃k v,Pr y.d=some k/\Jh b k=some v/\TH v=true/\R (.sh<|vD v)
 | .dT b=>∃k v,Kh y.d=some k/\Jh b k=some v/\TH v=true/\R (.sh<|vD v)
 |_=>False
def XY{a b}(L:VZ K mg E J a)(n:VZ K mg E g b):VZ K mg E (GK J g) (p2 a b Cq):=by
 refine Uq L n λH0 H C Z x y v u R Q z M N G g h q=>?_;have f:=G.rp z;have A:=g.rp z;unfold Cq at h;split at h
 ·rename_i i e;rw[e]at f;obtain⟨l,rfl,j⟩:=f.dK_inv;obtain⟨k,w,s,r,p,o⟩:=h;refine⟨l,w,rfl,?_,q _ _ C o (Same.refl _) (NM p)⟩;rw[P1 A s,←r];exact DGet.k j
 ·rename_i i e;rw[e]at f;obtain⟨l,rfl,j⟩:=f.dT_inv;obtain⟨k,w,s,r,p,o⟩:=h;obtain⟨b,rfl,n⟩:=P2 A s;refine⟨l,w,rfl,?_,q _ _ C o (Same.refl _) (NM p)⟩;rw[←r];exact DGet.t j n
 ·grind
def TY(neg:Bool):S->S->(S->Prop)->Prop:=λy x R=>match x.d with
 | .dK b=>∃k,Pr y.d=some k/\R (.sh<|.bl (if neg then !(Jh b k).isSome else(Jh b k).isSome))
 | .dT b=>∃k,Kh y.d=some k/\R (.sh<|.bl (if neg then !(Jh b k).isSome else(Jh b k).isSome))
 |_=>False
def F9{r f a b}(C:VZ K mg E f a)(n:VZ K mg E r b):VZ K mg E (EJ f r) (p2 a b<|TY false):=by
 refine Uq C n λH0 H z Z y x u v R Q s G J f A h q=>?_;have g:=A.rp s;have w:=f.rp s;unfold TY at h;split at h
 ·rename_i i e;rw[e]at g;obtain⟨l,rfl,j⟩:=g.dK_inv;obtain⟨k,p,o⟩:=h;refine⟨l,_,rfl,?_,q _ _ z o (Same.refl _) (.bl _)⟩;rw[P1 w p];exact DGet.k j
 ·rename_i i e;rw[e]at g;obtain⟨l,rfl,j⟩:=g.dT_inv;obtain⟨k,p,o⟩:=h;obtain⟨b,rfl,n⟩:=P2 w p;exact⟨l,_,rfl,DGet.t j n,q _ _ z o (Same.refl _) (.bl _)⟩
 ·grind
def Ia{r f a b}(C:VZ K mg E f a)(n:VZ K mg E r b):VZ K mg E (A3 f r) (p2 a b<|TY true):=by
 refine Uq C n λH0 H z Z y x u v R Q s G J f A h q=>?_;have g:=A.rp s;have w:=f.rp s;unfold TY at h;split at h
 ·rename_i i e;rw[e]at g;obtain⟨l,rfl,j⟩:=g.dK_inv;obtain⟨k,p,o⟩:=h;refine⟨l,_,rfl,?_,q _ _ z o (Same.refl _) (.bl _)⟩;rw[P1 w p];exact DGet.k j
 ·rename_i i e;rw[e]at g;obtain⟨l,rfl,j⟩:=g.dT_inv;obtain⟨k,p,o⟩:=h;obtain⟨b,rfl,n⟩:=P2 w p;exact⟨l,_,rfl,DGet.t j n,q _ _ z o (Same.refl _) (.bl _)⟩
 ·grind
noncomputable def Fs(i:Nat)(b a:PTE):PTS:=λR γ=>match γ[i]? with
 |some (some<|.own<|.dK f)=>a γ (λs=>b γ (λy=>∃k u,Pr y.d=some k/\PJ s.d=some u/\f.length<100000/\R.nx (γ.set i<|some<|.own<|.dK<|putK f k u)) (R.ex γ)) (R.ex γ)
 |some (some<|.own<|.dT f)=>a γ (λs=>b γ (λy=>∃k u,Kh y.d=some k/\PJ s.d=some u/\f.length<100000/\R.nx (γ.set i<|some<|.own<|.dT<|putK f k u)) (R.ex γ)) (R.ex γ)
 |_=>False
def TN(i:Nat){ty tv a b}(hb:VZ K mg E ty b)(ha:VZ K mg E tv a):Jm K mg E (Cw (UE i) ty tv) (Fs i b a):=by
 intro H0 B H σ γ R D hB j h e;have hx:=λc H' A q=>e.ex σ γ c H' A (j.grow q) (Fr.grow q);unfold Fs at h;split at h
 ·rename_i n x;obtain⟨v,r,l,rfl,T,Q⟩:=j.slot i _ x;refine ha H0 B H σ γ _ _ _ j h (λs u H1 h1 o G=>⟨_,r,?_⟩) hx;have f:=j.grow o;refine hb H0 B H1 σ γ _ _ _ f h1 (λy w H2 h2 p C=>?_) λc H' A q=>hx c H' A (o.trans q);obtain⟨k,z,N,M,L,J⟩:=h2;have g:=f.grow p;have eu:=By (G.rp f.same) M;have ew:=P1 (C.rp g.same) N;subst eu ew;refine⟨l,_,rfl,DPut.k (p _ _<|o _ _ Q) (Qt L<|by decide),?_⟩;obtain⟨e2,f2⟩:=g.mutate (es:=.dK (putK n k u)) (us:=.dK (putK n k u)) x r trivial λF H' SF Y=>Y;exact e.nx _ _ _ J e2 ((Fr.grow<|o.trans p).trans f2)
 ·rename_i n x;obtain⟨v,r,l,rfl,T,Q⟩:=j.slot i _ x;refine ha H0 B H σ γ _ _ _ j h (λs u H1 h1 o G=>⟨_,r,?_⟩) hx;have f:=j.grow o;refine hb H0 B H1 σ γ _ _ _ f h1 (λy w H2 h2 p C=>?_) λc H' A q=>hx c H' A (o.trans q);obtain⟨k,z,N,M,L,J⟩:=h2;have g:=f.grow p;have eu:=By (G.rp f.same) M;obtain⟨b',rfl,U⟩:=P2 (C.rp g.same) N;subst eu;refine⟨l,_,rfl,DPut.t (p _ _<|o _ _ Q) U (Qt L<|by decide),?_⟩;obtain⟨e2,f2⟩:=g.mutate (es:=.dT (putK n k u)) (us:=.dT (putK n k u)) x r trivial λF H' SF Y=>Y;exact e.nx _ _ _ J e2 ((Fr.grow<|o.trans p).trans f2)
 ·exact h.elim
noncomputable def Ag(a:PTE):PTS:=λR γ=>a γ (λs=>match s.shd with|some d=>R.rt (.sh d)|none=>False) (R.ex γ)
def Of(p:VZ K mg E te a):Jm K mg E (KE te) (Ag a):=by
 intro H0 B H σ γ R D q f h e;refine p H0 B H σ γ _ _ _ f h (λs v H1 i g l=>?_) λc H' o j=>e.ex σ γ c H' o (f.grow j) (Fr.grow j);split at i
 ·rename_i d n;exact e.rt (.sh d) v H1 i (f.same.trans g) (Rp.mono (Jn (Same.refl _) λb _ _ z y=>z (.inl y)) (l.shd (f.grow g).same f.zm g n))
 ·grind
noncomputable def AQ(i:Nat)(γ:Γ):Nat:=match γ[i]? with
 |some (some<|.own<|.lst b)=>b.length
 |_=>0
noncomputable def pIE(r:PTA):PTI:=λγ R X=>r γ (λf=>match f with
 |[s]=>(match s.d with
  | .lst b=>s.fix=true/\Jz b=true/\R b.length λi=>.sh (.tup [.int i,b.getD i .non])
  |_=>False)
 |_=>False) X
theorem Au:∀{ds}{i:Nat}{d:D},Jz ds=true->ds[i]?=some d->imm d=true
 |[],i,d,_,e=>by simp at e
 |a::r,0,d,h,e=>by
  unfold Jz at h
  grind
 |a::r,i+1,d,h,e=>by
  exact Au (YU _ _▸h).2 (by trivial)
def La{s:S}{d}(h:imm d=true):(s.sub d).shd=some d:=by
 cases s with
 |bor b=>show(arg d).shd=_;unfold arg;rw[h];rfl
 |tmp b=>show(J5 d).shd=_;unfold J5;rw[h];rfl
 |sh b=>rfl
 |own b|view b=>
  cases b with
  |nst f|nsl a f|vls a C xs g|tl x i n=>show(J5 d).shd=_;unfold J5;rw[h];rfl
  |_=>rfl
def Zbm(hr:Jt K mg E M r):SndI K mg E (Ad K M) (pIE r):=by
 intro H0 B H σ γ R X Q f h q U;refine hr H0 B H σ γ _ X _ f h (λss g H1 b w N=>?_) U;split at b
 ·rename_i s;obtain⟨v,rfl,j⟩:=N.one_inv;split at b
  ·rename_i J ed;obtain⟨l,g,rfl,hn,p⟩:=j.last f w b.1 ed;obtain⟨o,_⟩:=p H1 _ (Later.of (f.grow w) Fr.refl);refine⟨l,rfl,⟨g,SqL.of o⟩,q _ _ _ H1 b.2.2 w ⟨λi H' Z' hi lt=>?_,λH' Z' lt=>?_⟩⟩
   ·obtain⟨A,Y⟩:=p H' Z' lt;have G:J[i]?=some (J.getD i .non):=by grind
    obtain⟨u,C,L⟩:=Y i _ G;refine⟨⟨g,u,SqL.of A,C⟩,λx H'' y=>?_⟩;obtain⟨T,v,n,hv,rfl,rfl⟩:=y
    have:=hv g (SqL.of A)
    rw[C]at this;cases this
    refine⟨Jy n,.tup (Ui Js λz=>?_) (.cons (.int _)<|.cons (Rp.mono (Jn (Jy n) λ_ _ _ z=>z)<|L.shd lt.1 lt.2.1 (Same.refl _)<|La<|Au b.2.1 G) .nil)⟩
    have:=lt.2.1 T z
    rw[n]at this;exact this
   ·exact⟨g,SqL.of (p H' Z' lt).1,by lia⟩
  ·exact b.elim
 ·exact b.elim
def RF{n:Type}{js}{γ}{g}{body}{R}{xs:List n}{emb}(f:Nat->Γ->Prop)(p:f 0 (clr js γ))(turn:∀i o b,f i b->g (.sh<|.tup [.int i,emb xs[i]]) b λl=>body {R with nx:=λj=>f (i+1) (clr js j),ct:=λj=>f (i+1) (clr js j),bk:=R.nx} l)(done:∀b,f xs.length b->R.nx b) :
  Te js γ g body R (xs.map emb).length (λi=>.sh (.tup [.int i,(xs.map emb).getD i .non])):=by
 refine⟨⟨f,p,λi b o h=>?_,λb h=>?_⟩⟩
 ·grind
 ·grind
def BC(d:b)(ds:List b):atI (d::ds) 0=some d:=T8 (by simp) rfl
noncomputable def em(l:Int)(p:Zv):D:=.lst ((l::p).map D.int)
def Se(l:Int)(p:Zv):atI ((l::p).map D.int) (-1)=some (.int<|Ju l p):=by
 refine Xc ?_;unfold atI ixN;rw[Y4 (by lia),Y5 (by grind)];have e:(-1+((l::p).length:Int)).toNat=p.length:=by grind
 rw[e];exact Bz l p
def G3:List S->(S->Prop)->Prop
 |[s],R=>∃b:Zv,s.d=.lst (b.map D.int)/\R (.sh<|.int b.sum)
 |_,_=>False
def SG(l:Jt K mg E g r):VZ K mg E (tCB (λxs H Q=>∃(p:Addr) (ns:Zv),xs=[.ref p]/\SqL K H p (ns.map V.int)/\Q (.int ns.sum) H) g) (pCB G3 r):=by
 refine Uv l λH0 H H1 Z u s R Q j w x f h q=>?_;unfold G3 at h;split at h
 ·obtain⟨v,rfl,i⟩:=f.one_inv;obtain⟨ns,e,o⟩:=h;have b:=i.rp j;rw[e]at b;obtain⟨a,rfl,n⟩:=b.ints_inv;exact⟨a,ns,rfl,SqL.of n,q _ _ H1 o (Same.refl _) (.int _)⟩
 ·grind
def FH:List S->(S->Prop)->Prop
 |[s],R=>∃b:Zv,s.d=.lst (b.map D.int)/\0<b.length/\∀m,m∈b->(∀a∈b,m<=a)->R (.sh<|.int m)
 |_,_=>False
def IK(n:Jt K mg E i r):VZ K mg E (tCB (λxs H Q=>∃(p:Addr) (ns:Zv),xs=[.ref p]/\SqL K H p (ns.map V.int)/\0<ns.length/\∀M,M∈ns->(∀a∈ns,M<=a)->Q (.int M) H) i) (pCB FH r):=by
 refine Uv n λH0 H H1 Z y x R Q l z A g h q=>?_;unfold FH at h;split at h
 ·obtain⟨v,rfl,j⟩:=g.one_inv;obtain⟨ns,e,b,s⟩:=h;have f:=j.rp l;rw[e]at f;obtain⟨a,rfl,o⟩:=f.ints_inv;exact⟨a,ns,rfl,SqL.of o,b,λm w u=>q _ _ H1 (s m w u) (Same.refl _) (.int _)⟩
 ·grind
def FQ:List S->(S->Prop)->Prop
 |[s],R=>∃bs:List Bool,s.d=.lst (bs.map D.bl)/\R (.sh<|.bl<|bs.any id)
 |_,_=>False
theorem Rps.bls:∀{b:List Bool}{vs:List V},Rps K H (b.map D.bl) vs->vs=b.map V.bl
 |[],_,.nil=>rfl
 |j::r,_,.cons h t=>by rw[Rp.bl_inv h,Rps.bls t];rfl
def Ca(o:Jt K mg E i r):VZ K mg E (tCB (λxs H Q=>∃(p:Addr) (bs:List Bool),xs=[.ref p]/\SqL K H p (bs.map V.bl)/\Q (.bl<|bs.any id) H) i) (pCB FQ r):=by
 refine Uv o λH0 H H1 Z x u R Q l y z g h q=>?_;unfold FQ at h;split at h
 ·obtain⟨v,rfl,j⟩:=g.one_inv;obtain⟨bs,e,s⟩:=h;have b:=j.rp l;rw[e]at b;obtain⟨a,w,rfl,f,n⟩:=b.lst_inv;rw[n.bls]at f;exact⟨a,bs,rfl,SqL.of f,q _ _ H1 s (Same.refl _) (.bl _)⟩
 ·grind
def A5(neg:Bool):S->S->(S->Prop)->Prop:=λx y R=>match x.d,y.d with
 | .lst b,.lst []=>R (.sh<|.bl (if neg then !b.isEmpty else b.isEmpty))
 |_,_=>False
def Zap{i g a b}(G:VZ K mg E i a)(C:VZ K mg E g b):VZ K mg E (tOp (D3 K neg) i g) (p2 a b<|A5 neg):=by
 refine Uq G C λH0 H M Z x y v u R Q j T U w s h q=>?_;have o:=w.rp j;have n:=s.rp j;unfold A5 at h;split at h
 ·rename_i Y L J;rw[L]at o;rw[J]at n;obtain⟨l,p,rfl,A,r⟩:=o.lst_inv;obtain⟨m,N,rfl,f,z⟩:=n.lst_inv;cases z
  refine⟨l,m,p,rfl,rfl,SqL.of A,SqL.of f,?_⟩;rw[BI r.len];exact q _ _ M h (Same.refl _) (.bl _)
 ·grind
def EG(xs:List f)(lo b:Option Int):(cutD xs lo b).Sublist xs:=(QM _ _).trans (List.drop_sublist _ _)
end
end Pu
namespace PySem
open Sem (wp)
structure MW {K:Type} (es:List DictEntry) (kvs:List (K×Value)):Prop where
 length:es.length=kvs.length
 get?:∀{i:Nat} {e:DictEntry} {k:K} {v:Value},es[i]?=some e->kvs[i]?=some (k,v)->True/\e.val=v
def VDict{K:Type}(h:Heap)(a:Addr)(b:List (K×Value))(g:Nat):Prop:=
 ∃o f,h.get? a=some o/\o.ExactDict/\o.data=.dict f g/\True/\MW f.toList b/\True
section
variable {prog:Program}{w:World}{K:Type}{A:Around}{E:Zy}{s:Shared}
def Md(d:Addr)(f:(d==sysModules)=false) :
  MeetsIn prog w (Builtin.«dict.values» ⟨[.ref d],[]⟩) (λ_ R s=>s.TypeIs (.ref d) "dict"/\
   R (.ok<|.ret<|.ref s.heap.objs.size) {s with heap:=s.heap.push {cls:=.type "dict_values",data:=.fields #[.ref d]}}):=
 .of_wp λA R s ⟨b,h⟩=>by
  refine Yw ?_;unfold Builtin.Dict.noArgs;refine Yw (wpAny_notOrdered_dict b ?_);show wpAny _ _ (pure d) _ _ s;refine Yz ?_;show wpAny _ _ (Builtin.Dict.showsAll d >>= _) _ _ s;unfold Builtin.Dict.showsAll;rw[Y4 (by rw[f];exact YH)];refine Yw (Yz ?_);exact Yw (Wn<|Yz ⟨_,rfl,h⟩)
def Zau{v d:Addr}{f:List (K×Value)}{p:Nat}{Q:Zy}(h:s.heap.IsValuesView v d)(r:VDict s.heap d f p)(y:Q (.ref s.heap.objs.size) {s with heap:=s.heap.push {cls:=.type "dict_valueiterator",data:=.fields #[.ref d,.int 0 0,.int f.length 0,.int p 0]}}) :
  wpAny (model prog w) A (pyIter<|.ref v) Q E s:=by
 obtain⟨B,j,u,l⟩:=id h;obtain⟨o,z,n,H,b,G,q,C⟩:=id r;refine QS h.typeIs F.slot_dict_values_iter (WB F.slot_dict_values_iter h.typeIs F.entry_dict_values_iter ?_<|F.args_dict_values_iter_1 _);unfold Builtin.«dict_values.__iter__»;refine Yw (Yz ?_);refine Yw ?_;unfold Builtin.Dict_items.dictOf;refine Yw (Vy j l (x:=.ref d) rfl<|Yz ?_);refine Yw ?_;unfold Builtin.Dict_items.newIterator;refine Yw (wpAny_dictEntries n b ?_);refine Yw (wpAny_dictEpoch n b ?_);have i:z.size=f.length:=by rw[←q.length];simp
 have g:Builtin.Dict_items.ownsTuple "dict_valueiterator"=false:=by decide
 simp only[g,YW,Ws];refine Wn (Yz ⟨_,rfl, "dict_valueiterator",_,⟨_,Y7 _ rfl,rfl⟩,F.slot_dict_valueiterator_next.lookup,?_⟩);simpa [rawInt,i]using y
def M5{j d:Addr}{i z:Nat}{b:List (K×Value)}{k:K}{v:Value}{Q:Z5->Shared->Prop}(f:s.heap.IsValIter j d i b.length z)(H:VDict s.heap d b z)(hx:b[i]?=some (k,v))(M:∀h',h'.IsValIter j d (i+1) b.length z->Heap.SameBut j s.heap h'->Q (some v) {s with heap:=h'}) :
  wpAny (model prog w) A (pyNext<|.ref j) Q E s:=by
 obtain⟨o,B,L,y⟩:=id f;obtain⟨N,x,r,J,u,U,G,T⟩:=id H;unfold pyNext
 refine Yw (Va (QK (name:=Str.ofString "__next__") f.typeIs WK
  (WB WK f.typeIs F.entry_dict_valueiterator_next ?_<|F.args_dict_valueiterator_next_1 _)))
 refine Yw (Yz ?_);refine Yw ?_;refine Yw ?_
 first|refine Yw (WN f.typeIs<|Yz ?_)|refine Yw (Qk f.typeIs<|Yz ?_)
 refine Yw (wpAny_fieldsOf B y ?_);have q:Builtin.Dict_items.ownsTuple "dict_valueiterator"=false:=by decide
 simp only[q,YW,Ws];show wpAny _ _ (if (Value.ref d==Value.none)=true then _ else _) _ _ s;rw[Y4 (show ¬((Value.ref d==Value.none)=true)from YH)]
 refine Yw (Yz ?_);refine Yw (wpAny_dictEntries r u ?_);have p:x.size=b.length:=by rw[←G.length];simp
 rw[Y4 (by rw[p];simp)];refine Yw (Yz ?_);refine Yw (wpAny_dictEpoch r u ?_);rw[Y4 (by simp)];refine Yz ?_
 have C:i<b.length:=by
  rcases Nat.lt_or_ge i b.length with h|h
  ·exact h
  ·simp[WE h]at hx
 have l:i<x.size:=by rw[p];exact C
 have n:x[i].val=v:=(G.get? (e:=x[i]) (by simp[l]) hx).2;simp only[show ¬((i:Int)<0)from by omega,Ws,Wk,W6 l]
 refine Yw ?_
 first|refine Yw (WN f.typeIs<|Yz ?_)|refine Yw (Qk f.typeIs<|Yz ?_)
 refine Yw (Vg f.typeIs ?_);show wpAny _ _ (setField (.ref j) 1 (rawInt ((i:Int)+1)) >>= _) _ _ s;refine Yw (WC B y (by simp) ?_)
 have g:(s.heap.update j<|Obj.mapFields (·.setIfInBounds 1 (rawInt ((i:Int)+1)))).IsValIter j d (i+1) b.length z:=
  ⟨_,Wu _ B (WD<|Ww y _),(QR ..).trans L,by rw[Ww y];simp[rawInt]⟩
 refine Yw (W8 ?_);refine Yw (Vg (s:={s with heap:=s.heap.update j (Obj.mapFields (·.setIfInBounds 1 (rawInt ((i:Int)+1))))}) g.typeIs ?_)
 refine Yw (Vg (s:={s with heap:=s.heap.update j (Obj.mapFields (·.setIfInBounds 1 (rawInt ((i:Int)+1))))}) g.typeIs ?_)
 show wpAny _ _ (pure x[i].val) _ _ _;exact Yz (Yz ⟨_,rfl,Yz (n▸M _ g (Wf ..))⟩)
def LF{p d:Addr}{i x:Nat}{g:List (K×Value)}{Q:Z5->Shared->Prop}(B:A.handled=none)(f:s.heap.IsValIter p d i g.length x)(z:VDict s.heap d g x)(hx:g[i]?=none)(G:∀h',Heap.ExtBut p s.heap h'->Q none {s with heap:=h'}):wpAny (model prog w) A (pyNext<|.ref p) Q E s:=by
 obtain⟨o,r,M,u⟩:=id f;obtain⟨H,v,l,C,n,L,y,J⟩:=id z;unfold pyNext
 refine Yw (Va (QK (name:=Str.ofString "__next__") f.typeIs WK
  (WB WK f.typeIs F.entry_dict_valueiterator_next ?_<|F.args_dict_valueiterator_next_1 _)))
 refine Yw (Yz ?_);refine Yw ?_;refine Yw ?_
 first|refine Yw (WN f.typeIs<|Yz ?_)|refine Yw (Qk f.typeIs<|Yz ?_)
 refine Yw (wpAny_fieldsOf r u ?_);have j:Builtin.Dict_items.ownsTuple "dict_valueiterator"=false:=by decide
 simp only[j,YW,Ws];show wpAny _ _ (if (Value.ref d==Value.none)=true then _ else _) _ _ s;rw[Y4 (show ¬((Value.ref d==Value.none)=true)from YH)]
 refine Yw (Yz ?_);refine Yw (wpAny_dictEntries l n ?_);have h:v.size=g.length:=by rw[←y.length];simp
 rw[Y4 (by rw[h];simp)];refine Yw (Yz ?_);refine Yw (wpAny_dictEpoch l n ?_);rw[Y4 (by simp)];refine Yz ?_;have q:v.size<=i:=by rw[h];simpa using hx
 simp only[show ¬((i:Int)<0)from by omega,Ws,Wk,QX q]
 refine Yw ?_
 first|refine Yw (WN f.typeIs<|Yz ?_)|refine Yw (Qk f.typeIs<|Yz ?_)
 show wpAny _ _ (setField (.ref p) 0 .none >>= _) _ _ s;refine Yw (WC r u (by simp) ?_);show wpAny _ _ (newExc (.type "StopIteration") [] >>= _) _ _ _;refine Yw ?_;simp only[newExc,newTuple];refine Yw (Wn ?_<|by size_fits);refine Yw (m:=firstArgMember _ _) (wpAny_of_eq (a:=Value.none) (by first|rfl|(simp only[firstArgMember];rfl)) ?_)
 refine Wn ?_ (by size_fits);simp only[raiseNew];refine Yw (wpAny_handled ?_);rw[show A.in1.handled=none from B]
 refine Yw (Yz<|wpAny_throw ?_);refine Yw (wpAny_isInstance (T:="StopIteration") (b:=true) ⟨_,Y7 _ rfl,rfl⟩ isSubtype_stop ?_);exact Yz (G _ (((Wf ..).extBut.push _).push _))
end
end PySem
open PySem PySem.Spec PyProof.Rows
namespace Own
open L2
noncomputable def BS(K:Zt):R2:=λx y H Q=>∃a b xs f,x=.ref a/\y=.ref b/\SqT K H a xs/\SqT K H b f/\xs.length+f.length<=sizeLine/\
 (xs=[]->Q (.ref b) H)/\(xs≠[]->f=[]->Q (.ref a) H)/\(xs≠[]->f≠[]->∀p,H p=none->Q (.ref p) (upd H p<|.tup (xs++f)))
section
variable {X:Cx}{K:Zt}
def A8(hK:autoParam (X.K=K) au_0):OpR X (binaryOp .Add) (BS K):=by
 subst hK;intro pins s C H x y v u Q I J G h;obtain⟨a,b,xs,E,rfl,rfl,A,z,hz,T,N,M⟩:=h;cases J
 cases G
 by_cases hx:xs=[]
 ·obtain⟨o,L,U,_⟩:=I.tuple A;obtain⟨f,r2,p2,_⟩:=I.tuple z;have e:=L.nil_iff.mpr hx;obtain⟨⟨cls,dd,data,sl⟩,q,w,n,r⟩:=id U;obtain⟨⟨B,p,data2,l⟩,g,j,Y,i⟩:=id p2;simp only at w r j i;subst w r j i
  exact concat_meets ⟨_,q,rfl⟩ ⟨_,g,rfl⟩ noFill_tuple_add seq_tuple_add QW QJ (Q8 _ _)
   (tuple_addW0 a b o.toArray f.toArray n Y dd p sl l<|by grind) ⟨q,g,⟨.ref b,H,I,rfl,T hx⟩⟩
 ·exact Zbd pins s C H (.ref a) (.ref b) _ _ Q I rfl rfl ⟨a,b,xs,E,rfl,rfl,A,z,hx,hz,N hx,M hx⟩
def MY(h:VV [(.ref b,x)] f):∃r,f=[(.ref b,r)]/\RelV x r:=by
 cases h with
 |cons h t=>
  cases t
  rename_i y;obtain⟨u,r⟩:=y;obtain⟨g,i⟩:=h;cases g
  grind
noncomputable def Cj(j i:TE):TE:=λg H Q=>∀p,H p=none->j g (upd H p<|.dT []) λy l=>i g l λx f=>f p=some (.dT [])/\∃b h,y=.ref b/\f b=some (.tup<|h.map kV)/\Q (.ref p) (upd f p<|.dT [(h,x)])
def Zbj{o n pos}(J:X.A.units+1<cLine)(M:PE X k o)(G:PE X v n):PE X (.Dict [some k] [v] pos) (Cj o n):=by
 intro pins s w H Q I q
 refine wpAny_Dict_any rfl rfl (by simp) (by simp) (thn ((Zcg M G Zal) pins _ w _ (λr i=>match r with
  |[(y,x)]=>i s.heap.objs.size=some (.dT [])/\∃b g,y=.ref b/\i b=some (.tup<|g.map kV)/\Q (.ref s.heap.objs.size) (upd i s.heap.objs.size<|.dT [(g,x)])
  |_=>False) (I.laid (t':=s.toks) (λ_ _ q=>Y0 _ q) (Y1 _)<|AS s.heap I.big)<|q _<|I.hok.fresh<|Y1 s.heap.objs.size) λws s2 ⟨r,i,l,rel,h⟩=>?_)
 split at h
 ·rename_i y x;obtain⟨e,b,g,ey,u,E⟩:=h;subst ey;obtain⟨B,ew,C⟩:=MY rel;subst ew;obtain⟨z,N,xs,f,dd⟩:=Tj l.hok e;cases f
  unfold storeAll;rw[Q3];refine Yw (Yw (wpAny_dictSet_heap (Nat.lt_of_succ_lt J) (Kr l.hok u) dd λh' j L=>Yz ?_))
  dsimp only
  refine Yz ?_;obtain⟨p,es,ep,hq,h,Y,U,_,T⟩:=j;refine⟨.ref s.heap.objs.size,_,Nz (ob:=.dT [(g,x)]) l (by rw[e];exact True.intro) L ⟨p,hq⟩ ⟨(by show 1<=sizeLine;decide),N,[(g,b,B)],?_,p,es,ep,hq,h,Y,U,T⟩,rfl,E⟩;refine .cons ⟨rfl,?_,C⟩ .nil;rwa[Jg (Av u e (λz=>nomatch z))]
 ·exact h.elim
end
section
variable {prog:Program}{w:World}{A:Around}{K:Type}{d r:Addr}{kvs:List (K×Value)}{ep:Nat}{h h':Heap}
def VDict.at (x:VDict h d kvs ep) (e:∀o,h.get? d=some o->h'.get? d=some o):VDict h' d kvs ep:=let ⟨o,f,b,r⟩:=x;⟨o,f,e _ b,r⟩
def VDict.lt (x:VDict h d kvs ep):d<h.objs.size:=let ⟨_,_,b,_⟩:=x;Y6 b
def Ru(hh:A.handled=none)(I d:Addr)(hne:d≠I)(kvs:List (K×Value))(ep:Nat) :
  Walks prog w A I [I,d] [I] kvs.length (λi v=>∃k,kvs[i]?=some (k,v)) (λi h=>h.IsValIter I d i kvs.length ep/\VDict h d kvs ep) where
 sub:=λb hb=>by simp at hb;simp[hb]
 frame:=λ_ _ _ st hk=>⟨st.1.at λo e=>hk I (by simp) o e,VDict.at st.2 λo e=>hk d (by simp) o e⟩
 item:=λi s Q E hi st hQ=>by
  refine M5 (k:=(kvs[i]).1) (v:=(kvs[i]).2) st.1 st.2 (by grind) λh' hit' hs'=>?_;exact hQ _ h' s.toks ⟨(kvs[i]).1,by simp[hi]⟩ ⟨hit',VDict.at st.2 λo e=>hs'.extBut d o hne e⟩ λb o hb e=>hs'.extBut b o (λh=>hb (by grind)) e
 done:=λs Q E st hQ=>LF hh st.1 st.2 (by simp) λh' he'=>hQ h' s.toks λb o hb e=>he' b o (λh=>hb (by grind)) e
 self:=λ_ _ _ _ st hQ=>wpAny_pyIter_valiter st.1 hQ
def HN:PySem.W.KdlSrc prog w "dict_values" r d kvs.length (λi v=>∃k,kvs[i]?=some (k,v)) (λh=>h.IsValuesView r d/\VDict h d kvs ep) where
 type:=λ_ hm=>hm.1.typeIs
 there:=λ_ hm=>⟨let ⟨_,ho,_⟩:=hm.1;Y6 ho,VDict.lt hm.2⟩
 keep:=λ_ _ hm hk=>⟨let ⟨o,ho,x⟩:=hm.1;⟨o,hk r (.inl rfl) o ho,x⟩,VDict.at hm.2 λo e=>hk d (.inr rfl) o e⟩
 notList:=by decide
 notTuple:=by decide
 hint:=λ_ _ _ _ hm hq=>PySem.W.kdl_hint_values hm.1.typeIs hq
 iter:=λ_ _ hh hm=>⟨_,_,(λ_ _ hq=>Zau hm.1 hm.2 hq),Ru hh _ d (YJ<|VDict.lt hm.2) kvs ep,⟨⟨_,Y7 _ rfl,rfl,rfl⟩,VDict.at hm.2 λo e=>Y0 _ e⟩⟩
end
noncomputable def P7(v d:Addr):HO:=.ext λh=>h.IsValuesView v d
def NX:V->List V->Hp->VK->Prop:=λx f H Q=>∃d b,x=.ref d/\f=[]/\H d=some (.dT b)/\∀v,H v=none->Q (.ref v) (upd H v<|P7 v d)
section
variable {X:Cx}
def RM:MtR X "dict.values" NX:=by
 intro pins s p H x xs v u Q I g i h;obtain⟨d,j,rfl,rfl,l,q⟩:=h;cases g
 have f:=i.zero;subst f;obtain⟨z,lo,xs,rel,n⟩:=Tj I.hok l;obtain⟨o,A,B,b,hx,_⟩:=id n;refine call_meetsIn PySem.F.slot_dict_values ⟨o,b,hx.1⟩ PySem.F.entry_dict_values (PySem.F.args_dict_values_1 _) (Md d lo) ⟨⟨o,b,hx.1⟩,?_⟩;refine⟨.ref s.heap.objs.size,_,I.laid (o:=P7 s.heap.objs.size d) (λ_ _ q=>Y0 _ q) (Y1 _) ⟨⟨_,Y7 _ rfl,rfl,rfl⟩,⟨_,Y7 _ rfl⟩,λy w ⟨o,b,r⟩ e=>⟨o,e o b,r⟩⟩,rfl,q _ (I.hok.fresh<|Y1 _)⟩
def HA{K}{o}{to}{name:Str}{apos cpos}(g:PE X o to)(i:autoParam (X.K=K) au_0)(h:autoParam (name = "values") au_0)(f:autoParam (attributeBase o name X.env (eval o X.env)=eval o X.env) au_0)(b:autoParam ((apos.endLine==cpos.line)=true) au_0):PE X (.Call (.Attribute o name apos) [] [] cpos) (Th K "dict" NX to):=by
 subst i h;exact A0 PySem.F.plainAttrs_dict PySem.F.slot_dict_values PySem.F.type_dict_values RM g f b
def Gz:∀{kvs}{xs:List (List Key×Addr×Value)},KT H kvs xs->Vals (kvs.map (·.2)) (xs.map (·.2.2)):=by
 intro f
 induction f with
 |nil=>
  intro _ h;cases h
  exact .nil
 |cons _ _ b=>
  intro _ h;cases h with
  |cons h r=>
   exact .cons h.2.2 (b r)
def RD(N:X.calm=true):JC X (.type "list") (λxs H Q=>∃v d b,xs=[.ref v]/\H v=some (P7 v d)/\H d=some (.dT b)/\∀l,H l=none->Q (.ref l) (upd H l<|.lst<|b.map (·.2))):=by
 intro pins s σ H xs us Q I B h;obtain⟨v,d,b,rfl,E,M,q⟩:=h;obtain⟨u,rfl,C⟩:=B.one;obtain rfl:=C;obtain⟨z,lo,xs,rel,dd⟩:=Tj I.hok M;obtain⟨o,U,Y,J,hx,n,y,w,hn⟩:=id dd;have hl:xs.length=b.length:=by simpa using(Gz rel).length.symm
 have A:VDict s.heap d (xs.map λx=>((),x.2.2)) Y:=by
  refine⟨o,U,J,hx,n,trivial,⟨by rw[y,Yy,Yy],λ{i e k v} r p=>⟨trivial,?_⟩⟩,trivial⟩;rw[y,YB]at r;rw[YB]at p;cases L:xs[i]? with
  |none=>grind
  |some x=>
   rw[L]at r p;cases r
   cases p
   rfl
 refine PySem.W.kdl_call HN (I.ok.hd N) ⟨((I.hok v _ E).1),A⟩ (by rw[Yy];lia) λh' tk g c' w T f=>?_;refine⟨.ref s.heap.objs.size,upd H s.heap.objs.size (.lst<|b.map (·.2)),?_,rfl,q _ (I.hok.fresh<|Y1 _)⟩;refine I.laid w (Y1 _) ⟨by rw[Yy];exact z,g.toList,c',?_,by simpa using T⟩;rw[(PySem.W.kdl_vals_eq g.toList (by rw[We];exact f.1) λj u G=>f.2 j u (by rw[←G,Wo])),Wa];exact Gz rel
end
end Own
namespace Pu
open L2 Own M
section
variable {K:Zt}{mg:Zx}{E:L2.St->XK}{H0 H H1 H':Hp}{B Z Z':Addr->Prop}{σ:L2.St}{γ:Γ}
noncomputable def Ko:Option D->Option (List D)
 |some (.tup b)=>some b|_=>none
def Np(h:Ko o=some ds):o=some (.tup ds):=by
 unfold Ko at h;split at h
 ·grind
 ·grind
def HZ:S->S->(S->Prop)->Prop:=λx y R=>∃f b,Ko x.shd=some f/\Ko y.shd=some b/\f.length+b.length<=100000/\R (.sh<|.tup (f++b))
def FB{a b}(T:VZ K mg E J a)(N:VZ K mg E G b):VZ K mg E (tOp (BS K) J G) (p2 a b HZ):=by
 refine Uq T N λH0 H H2 Z x y v u R Q o f n C A h q=>?_;obtain⟨ds,es,e1,e2,M,h⟩:=h;have L:=C.shd o n f (Np e1);have r:=A.shd o n f (Np e2);obtain⟨l,w,rfl,Y,j⟩:=Rp.tup_inv L;obtain⟨m,s,rfl,U,i⟩:=Rp.tup_inv r;refine⟨l,m,w,s,rfl,rfl,SqT.of (off_sub _ _ Y),SqT.of (off_sub _ _ U),by rw[j.len,i.len];exact Y8 M (by decide),λe=>?_,λ_ e=>?_,λ_ _ p g=>?_⟩
 ·subst e;cases j
  exact q _ _ _ h (Same.refl _) r
 ·subst e;cases i
  refine q _ _ _ h (Same.refl _) ?_;rw[WZ];trivial
 ·refine q _ _ _ h (Jy g) (.tup (Ui Js λz=>?_)<|Rps.mono (Jn (Jy g) λ_ _ _ z=>z)<|j.append i)
  have:=(λb z=>Uy f (n b z)) p z
  rw[g]at this;exact this
noncomputable def pIT(a:PTE):PTI:=λγ R X=>a γ (λs=>∃b,Ko s.shd=some b/\R b.length λi=>.sh (b.getD i .non)) X
def Pb(J:VZ K mg E te a):SndI K mg E (NC K te) (pIT a):=by
 intro H0 B H σ γ R X Q b h q A;refine J H0 B H σ γ _ X _ b h (λs v H1 j n z=>?_) A;obtain⟨r,L,j⟩:=j;obtain⟨l,f,rfl,g,o⟩:=Rp.tup_inv (z.shd (b.grow n).same b.zm n (Np L));refine⟨l,rfl,⟨f,SqT.of (off_sub _ _ g)⟩,q _ _ _ H1 j n ⟨λi H' Z' C lt=>?_,λH' Z' lt=>?_⟩⟩
 ·have G:r[i]?=some (r.getD i .non):=by rw[Y2,Yx C];rfl
  obtain⟨u,p,w⟩:=o.get G;have k:=off_sub _ _ (lt.off _ _ g);refine⟨⟨f,u,SqT.of k,p⟩,λx M y=>?_⟩;obtain⟨rfl,y⟩:=y
  have:=y f (SqT.of k)
  rw[p]at this;cases this
  exact⟨Same.refl _,Rp.mono lt.off w⟩
 ·exact⟨f,SqT.of (off_sub _ _<|lt.off _ _ g),by rw[o.len];exact Y1 _⟩
noncomputable def Ki:List (List Key×V)->Bool
 |[]=>true
 |p::r=>TH p.2&&Ki r
theorem BY:∀{b:List (List Key×V)},Ki b=true->Rps K H (b.map λp=>vD p.2) (b.map (·.2))
 |[],_=>.nil
 |p::r,h=>by
  unfold Ki at h;rw[YU]at h;exact .cons (NM h.1) (BY h.2)
def Zac:List V->Hp->VK->Prop:=λxs H Q=>∃(v d:Addr) (b:List (List Key×V)),xs=[.ref v]/\H v=some (P7 v d)/\H d=some (.dT b)/\∀l,H l=none->Q (.ref l) (upd H l<|.lst<|b.map (·.2))
noncomputable def Lm(a:PTE):PTE:=λγ R X=>a γ (λs=>∃b,s.d=.dT b/\Ki b=true/\R (.own<|.lst (b.map λp=>vD p.2))) X
def Rv(y:VZ K mg E te a):VZ K mg E (tCB Zac<|J3 (Th K "dict" NX te) JS) (Lm a):=by
 intro H0 B H σ γ R X Q f h q w;refine y H0 B H σ γ _ X _ f h (λs v H1 A i u=>?_) w;obtain⟨b,e,x,z⟩:=A;have j:=u.rp (f.grow i).same;rw[e]at j;obtain⟨l,rfl,g⟩:=j.dT_inv;refine⟨.inr (.inr<|.inl ⟨rfl,.inr ⟨b,g⟩⟩),l,b,rfl,rfl,g,λp n=>?_⟩;refine⟨p,l,b,rfl,Js,by rw[Jg (J4 g n)];exact g,λm o=>?_⟩;have r:Same H1 (upd H1 p<|P7 p l):=Jy n;exact q _ _ _ z ((i.trans r).trans (Jy o)) ⟨m,rfl,(λ_ e=>e▸(i.trans r).free o),_,Js,BY x⟩
noncomputable def L7(a b:PTE):PTE:=λγ R X=>a γ (λy=>b γ (λx=>∃f u,Kh y.d=some f/\PJ x.d=some u/\R (.own<|.dT [(f,u)])) X) X
def Zc5{a b}(ha:VZ K mg E G a)(Y:VZ K mg E C b):VZ K mg E (Cj G C) (L7 a b):=by
 intro H0 B H σ γ R X Q s h q A p n;have l:Same H (upd H p<|.dT []):=Jy n;have env0:=s.grow l;refine ha H0 B _ σ γ _ X _ env0 h (λy v H1 h1 j L=>?_) λc H' g z=>A c H' g (l.trans z);have f:=env0.grow j;refine Y H0 B H1 σ γ _ X _ f h1 (λx w H2 h2 i J=>?_) λc H' g z=>A c H' g ((l.trans j).trans z);obtain⟨M,u,U,T,N⟩:=h2;have eu:=By (J.rp (f.grow i).same) T;obtain⟨b',rfl,r⟩:=P2 (Rp.mono i<|L.rp f.same) U;subst eu;refine⟨i _ _ (j _ _ Js),b',M,rfl,r,q _ _ _ N (λc o g=>?_) ⟨p,rfl,(λ_ e=>e▸n),Js⟩⟩
 have:c≠p:=λe=>by subst e;rw[n]at g;cases g
 rw[Jg this];exact i _ _ (j _ _<|l _ _ g)
end
section
variable {X:Cx}{K:Zt}
def Po{f l b}(g:PE X l b)(h:autoParam (X.K=K) au_0):PI X f l (NC K b):=by subst h;exact OC g
end
end Pu
namespace M
open L2 Own Pu
noncomputable def tD(b:Zv):D:=.tup (b.map D.int)
noncomputable def kT(b:Zv):List Key:=b.map Sum.inl
def AG(b:Zv):arg (tD b)=.sh (tD b):=by
 unfold arg tD imm;rw[UJ]
def KP:U9 N (tD b::ds)=some (.sh<|tD b)::(ds.map (λd=>some (arg d))++List.replicate (N.length-(ds.length+1)) none):=by
 unfold U9;rw[YE,AG];rfl
def Ts(b:Zv):Kh (tD b)=some (kT b):=by
 show K7 (b.map D.int)=some (b.map Sum.inl)
 induction b with
 |nil=>rfl
 |cons m r f=>
  rw[YE,YE];unfold K7;rw[f];rfl
def Zde(b:Zv):Ko (some<|tD b)=some (b.map D.int):=rfl
def Hj(b:Zv):imm (tD b)=true:=UJ b
noncomputable def Jj(b:Zv)(h:Int):Zv:=b.filter λm=>decide (m≠h)
noncomputable def US(b:Zu)(f:Zv)(h:Int):Bool:=!(b.any λq=>decide (q.1=h)&&decide (q.2∈f))
noncomputable def firstM(b:Zu)(f:Zv)(h:Int):Bool:=!(b.any λq=>decide (q.2=h)&&decide (q.1∈f))
noncomputable def Jo(b:Zv):List (Zv):=b.foldl (λS h=>S++S.map (·++[h])) [[]]
def X2(b:Zv)(h:Int):Jo (b++[h])=Jo b++(Jo b).map (·++[h]):=by
 unfold Jo;simp
def Kt{P:Zv->Prop}(g:P [])(f:∀r h,P r->P (r++[h]))(l:Zv):P l:=by
 have b:∀r:Zv,P r.reverse:=λr=>by
  induction r with
  |_=>grind
 rw[←List.reverse_reverse l]
 grind
def NL(b:Zv):(Jo b).length=2 ^ b.length:=by
 refine Kt (P:=λb=>(Jo b).length=2 ^ b.length) rfl (λr h f=>?_) b;rw[X2,YK,Yy,f,YK,Qv,Nat.pow_succ];lia
def K6(f:Zv):∀b∈Jo f,b.Sublist f:=by
 refine Kt (P:=λf=>∀b∈Jo f,b.Sublist f) (λb h=>?_) (λr h g b hm=>?_) f
 ·have:b=[]:=by simpa [Jo]using h
  grind
 ·rw[X2,Wc]at hm;rcases hm with hm|hm
  ·grind
  ·grind
noncomputable def oc(c:Int->Int->Int):Zv->Int
 |[]=>0
 |a::r=>(r.map<|c a).sum+oc c r
def Keeps(f:Zu)(o:Zv):Prop:=o.Pairwise λa b=>(b,a)∉f
structure Ub (ws:Zu) (c:Int->Int->Int) (ms:Zv) (v:Int):Prop where
 is:∃o:Zv,o.Perm ms/\Keeps ws o/\oc c o=v
 le:∀o:Zv,o.Perm ms->Keeps ws o->v<=oc c o
def Ub.uniq (h:Ub b c i v) (k:Ub b c i u):v=u:=by
 obtain⟨o,o1,g,l⟩:=h.is;obtain⟨p,f,p2,j⟩:=k.is
 have:=h.le p f p2
 have:=k.le o o1 g
 lia
theorem Sn(c:Int->Int->Int)(l:Int):∀o,oc c (o++[l])=oc c o+(o.map (c · l)).sum
 |[]=>by simp[oc]
 |a::r=>by
  rw[Qw];unfold oc;rw[Sn c l r]
  grind
def Kn{f:Int->Int}{xs ys:Zv}(h:xs.Perm ys):(xs.map f).sum=(ys.map f).sum:=by
 induction h with
 |nil=>rfl
 |trans _ _ g b=>lia
 |_=>grind
def UI{b:Zv}{h}(f:b.Nodup)(g:h∈b):b.Perm (h::Jj b h):=by
 have e:Jj b h=b.erase h:=by
  unfold Jj;rw[f.erase_eq_filter]
  grind
 grind
def less_sub:(Jj b h).Sublist b:=Vt
def lastM_iff:US f g h=true↔∀b∈g,(h,b)∉f:=by
 unfold US;constructor
 ·grind
 ·grind
def firstM_iff:firstM f g h=true↔∀b∈g,(b,h)∉f:=by
 unfold firstM;constructor
 ·grind
 ·grind
def L8{ms}{vs:Int->Int}{M}(n:ms.Nodup)(hw:∀q∈h,q.1≠q.2)(u:∀l∈ms,Ub h c (Jj ms l) (vs l))(B:∃l∈ms,US h ms l=true/\M=vs l+((Jj ms l).map (c · l)).sum)(A:∀l∈ms,US h ms l=true->M<=vs l+((Jj ms l).map (c · l)).sum):Ub h c ms M:=by
 constructor
 ·obtain⟨l,g,f,e⟩:=B;obtain⟨o,o1,i,v⟩:=(u l g).is;refine⟨o++[l],?_,?_,?_⟩
  ·exact(List.perm_append_singleton l o).trans (((List.Perm.cons l o1)).trans (UI n g).symm)
  ·refine Vo.mpr ⟨i,List.pairwise_singleton _ _,λa y b s=>?_⟩;rw[Y3.mp s];exact lastM_iff.mp f a (less_sub.subset<|o1.mem_iff.mp y)
  ·rw[Sn,v,e,Kn o1]
 ·intro o o1 i;rcases List.eq_nil_or_concat o with rfl|⟨p,l,rfl⟩
  ·grind
  ·rw[List.concat_eq_append]at o1 i ⊢;have g:l∈ms:=o1.mem_iff.mp (by simp);obtain⟨x,_,w⟩:=Vo.mp i
   have j:p.Perm (Jj ms l):=by
    have:=((List.perm_append_singleton l p).symm.trans o1).trans (UI n g)
    exact this.cons_inv
   have f:=lastM_iff.mpr λb s=>by
    rcases YA.mp ((UI n g).mem_iff.mp s)with e|r
    ·subst e;exact λz=>hw _ z rfl
    ·exact w b (j.mem_iff.mpr r) l (Y3.mpr rfl)
   have a1:=A l g f;have a2:=(u l g).le p j x;rw[Sn,Kn j];lia
def Cn(a b:Zv)(l:Int):Jj (a++b) l=Jj a l++Jj b l:=List.filter_append ..
def BX(h:l∉a):Jj a l=a:=Vv.mpr λm b=>YG λe=>h (e▸b)
def Hd(b:Zv):∃T,Jo b=[]::T:=by
 refine Kt (P:=λb=>∃T,Jo b=[]::T) ⟨[],rfl⟩ (λr h ⟨T,e⟩=>?_) b;rw[X2,e]
 grind
def Lq(b:Zv):(Jo b).getLast?=some b:=by
 refine Kt (P:=λb=>(Jo b).getLast?=some b) rfl (λr h e=>?_) b;rw[X2,List.getLast?_append,List.getLast?_map,e];rfl
def DH:f.Nodup->(Jo f).Nodup:=by
 refine Kt (P:=λf=>f.Nodup->(Jo f).Nodup) (λ_=>by simp[Jo]) (λr h j l=>?_) f;obtain⟨i,_,n⟩:=W3.mp l;rw[X2];refine W3.mpr ⟨j i,?_,λa p b o e=>?_⟩
 ·exact List.Pairwise.map _ (λa b g e=>g (List.append_cancel_right e)) (j i)
 ·obtain⟨c,q,rfl⟩:=YO.mp o;subst e;exact n h ((K6 r _ p).subset (by simp)) h (by simp) rfl
def Ea:f.Nodup->∀k b,(Jo f)[k]?=some b->∀l∈b,∃j:Nat,j<k/\(Jo f)[j]?=some (Jj b l):=by
 refine Kt (P:=λf=>f.Nodup->∀k b,(Jo f)[k]?=some b->∀l∈b,∃j,j<k/\(Jo f)[j]?=some (Jj b l)) (λ_ k b e l o=>?_) (λr h w x k b e l o=>?_) f
 ·have:b=[]:=by
   have:=Wj e
   simpa [Jo]using this
  subst this;cases o
 ·obtain⟨v,_,y⟩:=W3.mp x;rw[X2]at e ⊢;by_cases A:k<(Jo r).length
  ·rw[W5 A]at e;obtain⟨j,g,i⟩:=w v k b e l o;exact⟨j,g,by rw[W5 (by lia)];exact i⟩
  ·rw[Qb (by lia),YB]at e;cases q:(Jo r)[k-(Jo r).length]? with
   |none=>rw[q]at e;cases e
   |some n=>
    rw[q]at e;cases e
    have B:=λz=>y h ((K6 r n<|Wj q).subset z) h (by simp) rfl;by_cases s:l=h
    ·subst s
     have u:Jj (n++[l]) l=n:=by
      rw[Cn,BX B];simp[Jj]
     obtain⟨j,g,i⟩:=Wq.mp (Wj q);refine⟨j,by lia,?_⟩;rw[W5 g,u,Yx g,i]
    ·have p:l∈n:=by
      rcases Wc.mp o with z|z
      ·exact z
      ·exact absurd (Y3.mp z) s
     have u:Jj (n++[h]) l=Jj n l++[h]:=by
      rw[Cn];congr 1;exact BX λz=>s (Y3.mp z)
     obtain⟨j,g,i⟩:=w v _ n q l p;refine⟨(Jo r).length+j,by lia,?_⟩;rw[Qb (by lia),YB,Nat.add_sub_cancel_left,i,u];rfl
def Ti(h:kT a=kT b):a=b:=List.map_inj_right (λ_ _=>Sum.inl.inj) |>.mp h
def Ap(h:Zv)(g:Zu):Prop:=∀f:Zv,f.Sublist h->f≠[]->∃l∈f,∀b∈f,(l,b)∉g
structure Tab (ws:Zu) (c:Int->Int->Int) (S:List (Zv)) (kvs:List (List Key×V)):Prop where
 keys:kvs.map (·.1)=S.map kT
 val:∀ms∈S,∃v,Jh kvs (kT ms)=some (.int v)/\Ub ws c ms v
def RN(b:Zu)(c:Int->Int->Int):Tab b c [[]] [([],.int 0)]:=by
 refine⟨rfl,λh g=>?_⟩;rw[Y3.mp g];refine⟨0,rfl,⟨[],.refl _,.nil,rfl⟩,λo f _=>?_⟩;rw[f.eq_nil];exact Wh _
def Tab.put {S b g v} (T:Tab h c S b) (o:g∉S) (L:Ub h c g v):Tab h c (S++[g]) (putK b (kT g)<|.int v):=by
 have j:Jh b (kT g)=none:=by
  cases e:Jh b (kT g)with
  |none=>rfl
  |some u=>
   unfold Jh at e;cases q:b.find? (λl=>decide (l.1=kT g))with
   |none=>rw[q]at e;cases e
   |some x=>
    have p:=List.find?_some q;have i:x.1∈b.map (·.1):=YO.mpr ⟨x,(List.mem_of_find?_eq_some q),rfl⟩;rw[T.keys,YR p]at i;obtain⟨n,f,r⟩:=YO.mp i;rw[Ti r]at f;exact absurd f o
 constructor
 ·rw[Zcq _ j,YQ,YQ,T.keys];rfl
 ·intro n f;rw[P6];by_cases e:n=g
  ·grind
  ·rw[Y4 λz=>e (Ti z)];rcases Wc.mp f with z|z
   ·exact T.val n z
   ·exact absurd (Y3.mp z) e
open Classical in
def Dn{g:Zv}{P:Int->Int->Prop}(h:∀l∈g,∃v,P l v):∃f:Int->Int,∀l∈g,P l (f l):=
 ⟨λl=>if b:l∈g then Classical.choose (h l b)else 0,λl b=>by
  simp only[dif_pos b];exact Classical.choose_spec (h l b)⟩
def HH{r}(R:Ring l (g.map λq=>(q.2,q.1)) r):Ring l g r.reverse:=by
 have j:∀{x y:Int},(x,y)∈(g.map λq=>(q.2,q.1))->(y,x)∈g:=λh=>by
  obtain⟨q,hq,e⟩:=YO.mp h;cases e
  exact hq
 refine⟨by rw[Vw];exact R.two,List.pairwise_reverse.mpr (R.nodup.imp λh=>Ne.symm h),λx hx=>R.sub x (List.mem_reverse.mp hx),λi x y f b=>?_,λx y f b=>?_⟩
 ·have n:i+1<r.length:=by
   have:=(Wm.mp b).1
   rw[Vw]at this;exact this
  rw[Vh (by lia)]at f b;exact j (R.chain (r.length-1-(i+1)) y x b<|by rw[←f];congr 1;lia)
 ·have two:=R.two;rw[Vh (by lia)]at f;rw[Vw,Vh (by lia)]at b;exact j (R.last y x (by rw[←b];congr 1;lia)<|by rw[←f];congr 1)
def Cm{ws}(g:∀q∈ws,q.1≠q.2)(h:¬ ∃r,Ring i ws r):Ap i ws:=λf l b=>by
 refine WH λz=>h ?_
 have n:∀x∈f,∃y∈f,(y,x)∈(ws.map λq=>(q.2,q.1)):=λx hx=>by
  grind
 obtain⟨r,R⟩:=GJ (λq hq=>by
  obtain⟨p,j,e⟩:=YO.mp hq;subst e;exact λe=>g p j e.symm) b n
 have F:=HH R;exact⟨_,F.two,F.nodup,λx hx=>l.subset (F.sub x hx),F.chain,F.last⟩
theorem Gy:∀{b:List (List Key×V)},(b.map (·.1)).Nodup->∀p∈b,Jh b p.1=some p.2
 |[],_,p,h=>by cases h
 |q::r,f,p,h=>by
  rw[YE,Wi]at f;rcases YA.mp h with e|h
  ·rw[e];exact Uw rfl
  ·rw[U2 λe=>f.1 (YO.mpr ⟨p,h,e.symm⟩)];exact Gy f.2 p h
def TabV(f:Zu)(c:Int->Int->Int)(S:List (Zv))(vs:Zv):Prop:=vs.length=S.length/\∀(i:Nat) (b:Zv) (v:Int),S[i]?=some b->vs[i]?=some v->Ub f c b v
def Tab.vals {S f} (T:Tab r c S f) (y:S.Nodup):∃vs,f.map (·.2)=vs.map V.int/\TabV r c S vs:=by
 have x:(f.map (·.1)).Nodup:=by
  rw[T.keys];exact List.Pairwise.map _ (λa b o e=>o (Ti e)) y
 have w:∀p∈f,∃g∈S,p.1=kT g/\∃v,p.2=.int v/\Ub r c g v:=λp j=>by
  have n:p.1∈f.map (·.1):=YO.mpr ⟨p,j,rfl⟩;rw[T.keys]at n;obtain⟨g,s,e⟩:=YO.mp n;obtain⟨v,h,l⟩:=T.val g s;rw[e,Gy x p j]at h;exact⟨g,s,e.symm,v,YC h,l⟩
 have B:f.length=S.length:=by
  have:=Wz List.length T.keys
  rw[Yy,Yy]at this;exact this
 refine⟨f.map λp=>match p.2 with | .int v=>v|_=>0,?_,by rw[Yy,B],λi g v n h=>?_⟩
 ·rw[Wa];refine W4 λp j=>?_;obtain⟨g,_,_,v,e,_⟩:=w p j;show p.2=V.int (match p.2 with | .int v=>v|_=>0)
  rw[e]
 ·rw[YB]at h;cases q:f[i]? with
  |none=>rw[q]at h;cases h
  |some p=>
   obtain⟨z,A,C,u,G,L⟩:=w p (Wj q);have l:(f.map (·.1))[i]?=some p.1:=by rw[YB,q];rfl
   rw[T.keys,YB,n]at l;have E:=Ti ((YC l).trans C);simp_all
theorem G8:∀{kvs}{vs:Zv},kvs.map (·.2)=vs.map V.int->Ki kvs=true/\kvs.map (λp=>vD p.2)=vs.map D.int
 |[],[],_=>⟨rfl,rfl⟩
 |p::r,v::vs,h=>by
  rw[YE,YE,Q4]at h;obtain⟨f,b⟩:=G8 h.2;unfold Ki;rw[f,YE,YE,b,h.1];trivial
structure UA (ws:Zu) (c:Int->Int->Int) (ms o:Zv):Prop where
 perm:o.Perm ms
 keeps:Keeps ws o
 le:∀p:Zv,p.Perm ms->Keeps ws p->oc c o<=oc c p
 first:∀p:Zv,p.Perm ms->Keeps ws p->oc c p=oc c o->o=p\/sl o p
def Ha(f:Zu)(c:Int->Int->Int):UA f c [] []:=by
 refine⟨.refl _,.nil,λp b _=>?_,λp b _ _=>.inl b.eq_nil.symm⟩;simp_all
def As{ms}{vs:Int->Int}{V g}{p}(j:ms.Nodup)(x:∀q∈i,q.1≠q.2)(s:∀l∈ms,Ub i c (Jj ms l) (vs l))(C:Ub i c ms V)(u:(g::p).Perm ms)(y:Keeps i (g::p))(e:oc c (g::p)=V):g∈ms/\firstM i ms g=true/\vs g+((Jj ms g).map (c g)).sum=V/\p.Perm (Jj ms g)/\oc c p=vs g:=by
 have h:=u.mem_iff.mp (Wb ..);have r:=(u.trans<|UI j h).cons_inv;obtain⟨J,w⟩:=WW.mp y
 have A:=firstM_iff.mpr λb n=>by
  rcases YA.mp ((UI j h).mem_iff.mp n)with e|B
  ·subst e;exact λz=>x _ z rfl
  ·grind
 have a1:=(s g h).le p r w;obtain⟨o,o1,v,H⟩:=(s g h).is;have a2:=C.le (g::o) ((List.Perm.cons g o1).trans (UI j h).symm) (WW.mpr ⟨λb n=>firstM_iff.mp A b (less_sub.subset<|o1.mem_iff.mp n),v⟩);have M:oc c (g::p)=(p.map<|c g).sum+oc c p:=rfl;have L:oc c (g::o)=(o.map<|c g).sum+oc c o:=rfl;have G:=Kn (f:=c g) r;have E:=Kn (f:=c g) o1
 grind
def Zaq{h o}{vs:Int->Int}{V f}(u:h.Nodup)(E:∀q∈i,q.1≠q.2)(n:∀l∈h,Ub i c (Jj h l) (vs l))(v:Ub i c h V)(r:f∈h)(L:firstM i h f=true)(Q:vs f+((Jj h f).map (c f)).sum=V)(J:∀g∈h,firstM i h g=true->vs g+((Jj h g).map (c g)).sum=V->f<=g)(B:UA i c (Jj h f) o):UA i c h (f::o):=by
 have M:oc c o=vs f:=by
  obtain⟨p,j,p2,s⟩:=(n f r).is
  have:=(n f r).le o B.perm B.keeps
  have:=B.le p j p2
  lia
 have T:=Kn (f:=c f) B.perm
 have e:oc c (f::o)=V:=by
  show(o.map<|c f).sum+oc c o=V;lia
 refine⟨(List.Perm.cons f B.perm).trans (UI u r).symm,WW.mpr ⟨λb H=>firstM_iff.mp L b (less_sub.subset<|B.perm.mem_iff.mp H),B.keeps⟩,λp j p2=>?_,λp j p2 s=>?_⟩
 ·rw[e];exact v.le p j p2
 ·cases p with
  |nil=>grind
  |cons g p=>
   obtain⟨C,A,y,x,w⟩:=As u E n v j p2 (s.trans e);have G:=J g C A y;by_cases N:f=g
   ·subst N;rcases B.first p x (WW.mp p2).2 (w.trans M.symm)with z|z
    ·exact .inl (by rw[z])
    ·exact .inr (sl_cons.mpr z)
   ·exact .inr (.inl<|by lia)
end M
namespace Pu
open L2 Own
section
variable {K:Zt}{mg:Zx}{E:L2.St->XK}{H0 H H1 H':Hp}{B Z Z':Addr->Prop}{σ:L2.St}{γ:Γ}
abbrev PTW:=Γ->(Γ->D->Prop)->(Γ->Str->Prop)->Prop
variable {te:TE}{w:PTW}
end
def CZ{b:Type}{us:List b}(h:us.length=1):∃a,us=[a]:=List.length_eq_one_iff.mp h
def FO{f:Type}{us:List f}(h:us.length=2):∃a b,us=[a,b]:=by
 cases us with
 |nil=>grind
 |cons a r=>obtain⟨b,rfl⟩:=CZ (by simpa using h);exact⟨a,b,rfl⟩
def Dt{f:Type}{us:List f}(h:us.length=3):∃a b c,us=[a,b,c]:=by
 cases us with
 |nil=>grind
 |cons a r=>obtain⟨b,c,rfl⟩:=FO (by simpa using h);exact⟨a,b,c,rfl⟩
def F8{f:Type}{us:List f}(h:us.length=4):∃a b c d,us=[a,b,c,d]:=by
 cases us with
 |nil=>grind
 |cons a r=>obtain⟨b,c,d,rfl⟩:=Dt (by simpa using h);exact⟨a,b,c,d,rfl⟩
def Zao{f:Type}{us:List f}(h:us.length=5):∃a b c d e,us=[a,b,c,d,e]:=by
 cases us with
 |nil=>grind
 |cons a r=>obtain⟨b,c,d,e,rfl⟩:=F8 (by simpa using h);exact⟨a,b,c,d,e,rfl⟩
section
variable {P:Program}{w:World}{K:Zt}{mg:Zx}{base:Heap}{W:Addr->Prop}
def SO:XB (ExcR.CXe P w) X E0:=λ_ _ _ _ _ _ _ h=>by
 obtain⟨a,T,C,b,f,_,_,z⟩:=h
 grind
end
abbrev PTF:=Γ->Str->(Str->Prop)->XR->Prop
open M
noncomputable abbrev plD(f:Zu):D:=.lst (f.map prD)
def Ak(e:Option Str)(X:Str->Prop)(R:Prop):Prop:=match e with|some c=>X c|none=>R
noncomputable def Pg(ps:Zu)(p:Int):Int×Int:=ps.getD (p-1).toNat (0,0)
def FE{p}(f:1<=p)(b:p<=ps.length):atI (ps.map prD) (p-1)=some (prD<|Pg ps p):=by
 rw[UM (by lia) (by lia)];unfold Pg;rw[Y2,Yx (by lia)];rfl
def OT{p}(g:1<=p)(f:p<=ps.length):Pg ps p∈ps:=by
 have b:(p-1).toNat<ps.length:=by lia
 unfold Pg;rw[Y2,Yx b]
 grind
section
variable {K:Zt}{mg:Zx}{E:L2.St->XK}
noncomputable def DZ(i:Nat)(a:PTE):PTS:=λR b=>match b[i]? with
 |some (some<|.own<|.lst g)=>a b (λs=>match s.shd with
  |some (.lst f)=>g.length+f.length<=10000000/\R.nx (b.set i<|some<|.own (g++f))
  |_=>False) (R.ex b)
 |_=>False
def Zdf(i:Nat){te a}(Q:VZ K mg E te a):Jm K mg E (P5<|tBM K "list" Ee (UE i)<|J3 te JS) (DZ i a):=by
 intro H0 B H q r R D hB f h e;unfold DZ at h;split at h
 ·rename_i Y A;obtain⟨v,y,b,rfl,N,us,C,x⟩:=f.slot i _ A;refine⟨_,y,.inl ⟨rfl,us,SqL.of C⟩,Q H0 B H q r _ _ _ f h (λs u H1 o l L=>?_) λc J M G=>e.ex q r c J M (f.grow G) (Fr.grow G)⟩;have g:=f.grow l;split at o
  ·rename_i es p;obtain⟨a',w,rfl,n,j⟩:=Rp.lst_inv (L.shd g.same f.zm l p);refine⟨b,a',us,w,rfl,rfl,l _ _ C,off_sub _ _ n,by rw[x.len,j.len];exact Y8 o.1 (by decide),?_⟩;obtain⟨p,U⟩:=g.mutate (es:=.lst (Y++es)) (us:=.lst (us++w)) A y trivial λF J SF T=>⟨_,T,Rps.mono SF (Rps.append (Rps.mono (Jn l λ_ _ _ z=>z) x) j)⟩;exact e.nx _ _ _ o.2 p ((Fr.grow l).trans U)
  ·grind
 ·exact h.elim
end
noncomputable def nextM(b r:Zv):List (Zv):=(b.filter λh=>!decide (h∈r)).map λh=>r++[h]
noncomputable def UV(b:Zv):Nat->List (Zv)
 | 0=>[[]]
 |k+1=>(UV b k).flatMap (nextM b)
def next_mem:o∈nextM b r↔∃h,h∈b/\h∉r/\o=r++[h]:=by
 unfold nextM;constructor
 ·grind
 ·grind
theorem rows_mem:∀{k}{r:Zv},r∈UV f k↔r.length=k/\r.Nodup/\∀x∈r,x∈f
 | 0,r=>by
  unfold UV;constructor
  ·intro h;rw[Y3]at h;subst h;exact⟨rfl,Qi,by simp⟩
  ·rintro⟨h,_⟩;rw[WO.mp h];exact Y3.mpr rfl
 |k+1,r=>by
  unfold UV;rw[List.mem_flatMap];constructor
  ·rintro⟨p,g,i⟩;obtain⟨h,n,l,rfl⟩:=next_mem.mp i;obtain⟨a,b,c⟩:=rows_mem.mp g
   ·rw[W3]
    grind
  ·rintro⟨a,b,c⟩;rcases List.eq_nil_or_concat r with rfl|⟨p,h,rfl⟩
   ·cases a
   ·rw[List.concat_eq_append]at a b c ⊢;rw[W3]at b;obtain⟨b1,_,j⟩:=b;refine⟨p,rows_mem.mpr ⟨by rw[YK]at a;simpa using a,b1,λx hx=>c x (WI _ hx)⟩,next_mem.mpr ⟨h,c h (by simp),λz=>j h z h (by simp) rfl,rfl⟩⟩
def Zbv(g:f.Nodup):r∈UV f f.length↔r.Perm f:=by
 rw[rows_mem];constructor
 ·rintro⟨l,j,i⟩;rw[Q0 j g];refine λx=>⟨i x,λhx=>?_⟩;by_cases c:x∈r
  ·lia
  ·have:=List.Nodup.length_le_of_subset (Wi.mpr ⟨c,j⟩) (by
    intro y b;rcases YA.mp b with rfl|b
    ·exact hx
    ·exact i y b)
   grind
 ·intro h;exact⟨h.length_eq,h.nodup_iff.mpr g,λx hx=>h.mem_iff.mp hx⟩
theorem EM:∀{a b:Zv},sl a b->¬sl b a
 |[],_,h,_|_::_,[],h,_=>by cases h
 |a::r,b::t,h,k=>by
  rcases h with h|⟨e,h⟩
  ·rcases k with k|⟨e,_⟩<;>lia
  ·rcases k with k|⟨_,k⟩
   ·lia
   ·exact EM h k
def UA.uniq (h:UA b c f o) (k:UA b c f p):o=p:=by
 have e:oc c p=oc c o:=by
  have i:=h.le p k.perm k.keeps;have g:=k.le o h.perm h.keeps;lia
 rcases h.first p k.perm k.keeps e with z|z
 ·lia
 ·rcases k.first o h.perm h.keeps e.symm with y|y
  ·grind
  ·exact absurd y (EM z)
noncomputable def wdM(ps:Zu)(x:Int):Int:=(Pg ps x).2
noncomputable def JT(ps:Zu)(r:Zv)(x:Int):Int:=wdM ps x*(((Jk 1 (x-1).toNat).filter λy=>!decide (y∈r)).map (wdM ps)).sum
noncomputable def stD(q:Zv×Int):D:=.tup [tD q.1,.int q.2]
noncomputable def U6(ps:Zu)(q:Zv×Int):List (Zv×Int):=((Jk 1 ps.length).filter λx=>!decide (x∈q.1)).map λx=>(q.1++[x],q.2+JT ps q.1 x)
def Zcy(q:Zv×Int):imm (stD q)=true:=by
 unfold stD imm Jz;rw[Hj];rfl
def IH(q:Zv×Int):arg (stD q)=.sh (stD q):=by
 unfold arg;rw[Zcy]
def run_mem:x∈Jk 1 n↔1<=x/\x<=n:=by
 unfold Jk;rw[YO];constructor
 ·grind
 ·rintro⟨f,b⟩;exact⟨(x-1).toNat,Vx.mpr (by lia),by lia⟩
def RW(ps:Zu)(q:Zv×Int):(U6 ps q).length<=ps.length:=by
 unfold U6;rw[Yy]
 have:=YV (λx=>!decide (x∈q.1)) (Jk 1 ps.length)
 rwa[U8]at this
theorem SJ(h:ps.length<=7):∀S:List (Zv×Int),(S.flatMap<|U6 ps).length<=S.length*7
 |[]=>by simp
 |q::t=>by
  rw[QU,YK,YX,Nat.succ_mul];have f:=RW ps q;have b:=SJ h t;lia
noncomputable def JP(ps:Zu):Nat->List (Zv×Int)
 | 0=>[([],0)]
 |k+1=>(JP ps k).flatMap (U6 ps)
theorem Ga:∀{k}{q:Zv×Int},q∈JP ps k->q.1.length=k
 | 0,q,h=>by
  unfold JP at h
  grind
 |k+1,q,h=>by
  obtain⟨p,b,hq⟩:=List.mem_flatMap.mp h;obtain⟨x,_,rfl⟩:=YO.mp hq;rw[YK,Ga b];rfl
theorem DN(h:ps.length<=7):∀k,(JP ps k).length<=7 ^ k
 | 0=>by unfold JP;simp
 |k+1=>by
  exact Y8 (SJ h _) (Nat.mul_le_mul_right _<|DN h k)
noncomputable def UC(ps:Zu):Zv->Zv->Int
 |_,[]=>0
 |pre,x::t=>JT ps pre x+UC ps (pre++[x]) t
theorem Ck(ps:Zu)(x:Int):∀t pre,UC ps pre (t++[x])=UC ps pre t+JT ps (pre++t) x
 |[],pre=>by
  show JT ps pre x+0=0+JT ps (pre++[]) x;simp
 |y::t,pre=>by
  show JT ps pre y+UC ps (pre++[y]) (t++[x])=JT ps pre y+UC ps (pre++[y]) t+JT ps (pre++y::t) x;rw[Ck ps x t (pre++[y]),Qr]
  grind
theorem BE(ps:Zu):∀k,JP ps k=(UV (Jk 1 ps.length) k).map λr=>(r,UC ps [] r)
 | 0=>rfl
 |k+1=>by
  unfold JP UV;rw[BE ps k,List.flatMap_map,List.map_flatMap];congr 1;funext r;unfold U6 nextM;rw[Wa];apply W4;intro x _;show(r++[x],UC ps [] r+JT ps r x)=(r++[x],UC ps [] (r++[x]));rw[Ck,List.nil_append]
noncomputable def Xo(ps:Zu):Zv->Int
 |[]=>0
 |x::t=>wdM ps x*((t.filter λy=>decide (y<x)).map (wdM ps)).sum+Xo ps t
def TB(n:Nat):(Jk 1 n).Nodup:=by
 unfold Jk;rw[List.Nodup,V5];exact List.nodup_range.imp λh z=>h (by lia)
theorem NH:∀{t pre:Zv},(pre++t).Perm (Jk 1 ps.length)->UC ps pre t=Xo ps t
 |[],_,_=>rfl
 |x::t,pre,h=>by
  have f:=h.nodup_iff.mpr (TB _)
  have g:∀y,y∈pre\/y=x\/y∈t↔1<=y/\y<=ps.length:=λy=>by
   rw[←run_mem,←h.mem_iff,Wc,YA]
  rw[W3]at f;obtain⟨n,j,l⟩:=f;have i:=Wi.mp j
  have b:((Jk 1 (x-1).toNat).filter λy=>!decide (y∈pre)).Perm (t.filter λy=>decide (y<x)):=by
   rw[Q0 ((TB _).filter _) (i.2.filter _)];intro y;rw[YS,YS,run_mem];constructor
   ·grind
   ·grind
  show JT ps pre x+UC ps (pre++[x]) t=wdM ps x*_+Xo ps t;rw[NH (by simp_all)];unfold JT;rw[Kn b]
end Pu
namespace Own
open L2
section
variable {prog:Program}{w:World}{A:Around}{s:Shared}{E:Zy}
noncomputable def JL(b:Heap)(vs:Z1):Heap:=
 (b.push (seqObj "list" #[] 0)).update b.objs.size
  (Obj.mapSeq (·++vs.toArray))
def L9(b:Heap)(vs:Z1):(JL b vs).objs.size=b.objs.size+1:=by
 unfold JL;simp
def Fm{o}(g:f.get? b=some o):(JL f vs).get? b=some o:=by
 unfold JL;rw[Heap.get?_update_ne _ _ _ _ (YJ<|Y6 g)];exact Y0 _ g
end
end Own
namespace Pu
open L2 Own M
noncomputable def Nf(f:Zu)(a b:Int):Option Str:=if ¬(1<=a/\a<=10)then some "BadHolder" else if ¬(1<=b/\b<=10)then some "BadHolder" else if a=b then some "LikeHolders" else if (a,b)∈f then some "WishStands" else if 20<=f.length then some "TooManyWishes" else none
def Zb6(h:PB f)(e:Nf f a b=none):PB (f++[(a,b)]):=by
 unfold Nf at e;split at e
 ·cases e
 split at e
 ·cases e
 split at e
 ·cases e
 split at e
 ·cases e
 split at e
 ·cases e
 rename_i s r p j o;obtain⟨n,i,l⟩:=h;refine⟨by rw[YK,Qv];lia,?_,λq hq=>?_⟩
 ·rw[W3];exact⟨i,by simp,λx hx y g z=>by rw[Y3]at g;subst g;exact j (z▸hx)⟩
 ·grind
def HR:PB []:=by trivial
noncomputable def BJ(m:Zv)(k:Int):Int:=1+(k*m.getD 1 0+m.getD 2 0) % 10
def Zdl(f:Pd m){x y}(hx:0<=x/\x<=9)(i:0<=y/\y<=9)(h:x≠y):BJ m x≠BJ m y:=by
 obtain⟨a,b,c,d,e,rfl,p,⟨_,_,o⟩,n,l,j⟩:=f;intro z;have g:1+(x*b+c) % 10=1+(y*b+c) % 10:=z
 grind
def two_ne{o r p:Int}(f:0<=o/\o<p)(b:0<=r/\r<p-1):(0<=(o+1+r) % p/\(o+1+r) % p<p)/\o≠(o+1+r) % p:=by
 by_cases h:o+1+r<p
 ·rw[Int.emod_eq_of_lt (by lia) h];lia
 ·rw[←Int.sub_emod_right,Int.emod_eq_of_lt (by lia) (by lia)];lia
def Zag{a b}(l:1<=a/\a<=10)(j:1<=b/\b<=10)(i:a≠b)(h:(a,b)∉f)(g:f.length<20):Nf f a b=none:=by
 unfold Nf
 grind
noncomputable def Ka(ps:Zu)(os:Zv):Option Str:=if os.isPerm (Jc ps)=true then none else some "BadOrder"
def DE{os}(h:os.Perm (Jc ps)):Ka ps os=none:=by
 unfold Ka;rw[Y5 (List.isPerm_iff.mpr h)]
def Mh{os ns}(b:ns.Perm os)(f:ns.Pairwise (·<=·)):(ns=Jc ps)↔os.isPerm (Jc ps)=true:=by
 rw[List.isPerm_iff];exact⟨λz=>z▸b.symm,λz=>R6 z b f⟩
noncomputable abbrev d3(k:Str)(a b:Int):D:=.tup [.str k,.int a,.int b]
end Pu
namespace Pu
open L2 Own
section
variable {K:Zt}{mg:Zx}{E:L2.St->XK}{H:Hp}
theorem Rps.reverse:∀{ds}{vs:List V},Rps K H ds vs->Rps K H ds.reverse vs.reverse
 |_,_,.nil=>.nil
 |_,_,.cons h r=>by rw[QN,QN];exact Rps.append (Rps.reverse r) (.cons h .nil)
end
end Pu
namespace M
open L2 Own Pu
def PR{o:Zv}(f:Field ps)(h:o.Perm (Jc ps)):∀p∈ps,p.1∈o:=λp b=>h.mem_iff.mpr ((Pk f).mpr (YO.mpr ⟨p,b,rfl⟩))
end M
namespace Pu
open L2 Own
section
variable {K:Zt}{mg:Zx}{E:L2.St->XK}
def ER:List S->(S->Prop)->Prop
 |[s],R=>(match s.d with | .int i=>R (.sh<|.int i) | .bl k=>R (.sh<|.int (if k then 1 else 0))|_=>False)
 |_,_=>False
def M1(o:Jt K mg E j r):VZ K mg E (tCB (λxs H Q=>(∃i,xs=[.int i]/\Q (.int i) H)\/∃k,xs=[.bl k]/\Q (.int (if k then 1 else 0)) H) j) (pCB ER r):=by
 refine Uv o λy H f Z u p R Q n w x g h q=>?_;unfold ER at h;split at h
 ·rename_i s;obtain⟨v,rfl,l⟩:=g.one_inv;have b:=l.rp n;split at h
  ·rename_i i e;rw[e]at b;exact .inl ⟨i,by rw[b.int_inv],q _ _ f h (Same.refl _) (.int _)⟩
  ·rename_i k e;rw[e]at b;exact .inr ⟨k,by rw[b.bl_inv],q _ _ f h (Same.refl _) (.int _)⟩
  ·grind
 ·exact h.elim
end
structure DI (K:Zt) (x:Str) (st:Stmt):Prop where
 ex:∃f fd,PySem.W.nsIn K mainGlobals x=some (some<|.ref f)/\Fun K x x st f fd
section
variable {K:Zt}{h:Heap}{mg:Zx}
def di{st f oc j n g kV i pm b ct}(a:PySem.W.nsIn K mainGlobals x=some (some<|.ref f))(l:K.lookup f=some ⟨oc,j,.func (PySem.W.fnOf x x (UG st) (JI st) (Jb st) .none kV i pm n b ct),g⟩)(c:PySem.W.codeIn K b x=true)(k:PySem.W.keepIn K (.ref f)=true):DI K x st:=⟨f,_,a,SR l c k⟩
def DI.d {st ps} (D:DI K x st) (X:K.In h) (j:h.Ns mainGlobals mg)
  (b:∀kV f pm i g ct us,us.length=ps.length->bindArgs (PySem.W.fnOf x x (UG st) (JI st) (Jb st) .none kV f pm i g ct) ⟨us,[]⟩=pure (ps.zip us)):Def K mg x st ps:=
 let ⟨_,_,a,F⟩:=D.ex
 ⟨_,_,F,Vd X j a,F.binds b⟩
end
def fs{N P b}(n:autoParam (b.kind=.function) au_0)(l:autoParam (b.isCoroutine=false) au_0)(j:autoParam (b.isGenerator=false) au_0)(i:autoParam (N.Nodup) au_5)(h:autoParam (N.take P.length=P) au_0)(g:autoParam (∀x∈P,b.names.lookup x=some .local\/b.names.lookup x=some .cell) au_5)(f:autoParam (∀y∈b.names,y.2≠.free) au_5):Jd N P b:=⟨n,l,j,i,h,g,f⟩
def pz{pos x e te b}(i:Nat)(l:X.N.Nodup)(j:PE X e te)(g:autoParam (X.N[i]?=some x) au_0)(hx:autoParam (Loc X.env.scope x) au_6)(f:autoParam (swapsWith e (some<|.Name x b) pos.line X.env=pure false) au_0)(h:autoParam (X.fn x=true\/X.env.scope.names.lookup x=some .local) au_2) :
  PS X (.Assign [.Name x b] e pos) (KD te<|Xw i):=IC l g hx j f h
section
variable {K:Zt}{mg:Zx}{E:L2.St->XK}{H0 H H1 H':Hp}{B Z Z':Addr->Prop}{σ:L2.St}{γ:Γ}
def two(o1 f:O)(a1 a2:Addr):Addr->Prop:=λb=>o1.adr a1 b\/f.adr a2 b
end
open M
def TabV.uniq {S vs us} (h:TabV g c S vs) (k:TabV g c S us):vs=us:=by
 refine Vf (by rw[h.1,k.1]) λi f j=>?_;have b:i<S.length:=by rw[←h.1];exact f
 exact(h.2 i S[i] vs[i] (Yx b) (Yx f)).uniq (k.2 i S[i] us[i] (Yx b) (Yx j))
end Pu
namespace M
open L2 Own Pu
noncomputable def ltS(k:Int):Zu->Int
 |[]=>0
 |q::l=>(if q.1<k then q.2 else 0)+ltS k l
noncomputable def XS:Zu->Int
 |[]=>0
 |p::l=>ltS p.1 l*p.2+XS l
theorem AZ(k:Int)(a b:Int×Int)(B:Zu):∀A,ltS k (A++a::b::B)=ltS k (A++b::a::B)
 |[]=>by simp only[List.nil_append,ltS];lia
 |q::A=>by simp only[Qw,ltS];rw[AZ k a b B A]
theorem Fo(a b:Int×Int)(B:Zu):∀A,XS (A++a::b::B)+(if a.1<b.1 then a.2*b.2 else 0)=XS (A++b::a::B)+(if b.1<a.1 then a.2*b.2 else 0)
 |[]=>by
  simp only[List.nil_append,XS,ltS];by_cases f:a.1<b.1
  ·grind
  ·grind
 |q::A=>by
  simp only[Qw,XS];rw[AZ q.1 a b B A]
  have:=Fo a b B A
  lia
noncomputable def hdN(ps:Zu)(m:Int):Int:=(ps.getD (m-1).toNat (0,0)).1
def Ld{p}(j:1<=p)(f:p<ns.length):∃A x y B,ns=A++x::y::B/\A.length+1=p/\Ue ns p=A++y::x::B/\ns.getD (p-1) 0=x/\ns.getD p 0=y:=by
 have b:ns.drop (p-1)=ns[p-1]'(by lia)::ns.drop (p-1+1):=WG (by lia);have i:p-1+1=p:=by lia
 rw[i,(WG f)]at b;have h:ns.getD p 0=ns[p]:=by rw[Y2,Yx f];rfl
 have g:ns.getD (p-1) 0=ns[p-1]'(by lia):=by grind
 refine⟨ns.take (p-1),ns[p-1]'(by lia),ns[p],ns.drop (p+1),by rw[←b,List.take_append_drop],by rw[Wg];lia,?_,g,h⟩;unfold Ue;rw[h,g];simp
def RX{p}(f:1<=p)(b:p<ns.length):(Ue ns p).length=ns.length:=(Sv f b).length_eq
noncomputable def rkN(ps:Zu)(o:Zv)(m:Int):Int:=(o.idxOf (hdN ps m):Nat)
def FW(b:Zv)(p:Nat):Prop:=(∀q,1<=q->q<(if p=0 then b.length else p)->b.getD (q-1) 0<=b.getD q 0)/\(p=0\/(1<=p/\p<b.length/\b.getD p 0<b.getD (p-1) 0))
def FW.uniq (h:FW f p) (k:FW f g):p=g:=by
 have j:∀{a b:Nat},FW f a->FW f b->b≠0->(a=0\/b<a)->False:=λ{a b} o l i n=>by
  obtain⟨q,s,r⟩:=l.2.resolve_left i
  have:=o.1 b q (by grind)
  lia
 by_cases u:p=0
 ·grind
 ·grind
abbrev Mo:=Int×Int×Int×Int
inductive Mv (ps:Zu) (f:Int->Int):Zv->List Mo->Prop
 |done (ns:Zv):FW (ns.map f) 0->Mv ps f ns []
 |step (ns:Zv) (p:Nat) (ms:List Mo):FW (ns.map f) p->p≠0->Mv ps f (Ue ns p) ms->Mv ps f ns (((p:Int),ns.getD (p-1) 0,ns.getD p 0,exM ps ns p)::ms)
def KZ{f:Int->Int}{ns:Zv}{i}(h:i<ns.length):(ns.map f).getD i 0=f (ns.getD i 0):=by grind
def Rq(h:ps.Perm b):Jc ps=Jc b:=by
 unfold Jc;congr 1;funext z;by_cases c:z∈ps.map (·.1)
 ·grind
 ·grind
noncomputable def Uh(f:Int->Int)(ns:Zv):Int:=XS (ns.map λm=>(f m,1))
def DP(f:Int->Int){ns p}(g:1<=p)(b:p<ns.length)(h:f (ns.getD p 0)<f (ns.getD (p-1) 0)):Uh f ns=Uh f (Ue ns p)+1:=by
 obtain⟨A,x,y,B,e,_,j,i,ey⟩:=Ld g b;rw[i,ey]at h;rw[j,e];unfold Uh;rw[YQ,YE,YE,YQ,YE,YE];have k:=Fo (f x,1) (f y,1) (B.map λm=>(f m,1)) (A.map λm=>(f m,1));lia
theorem AK(f:Int->Int)(k:Int):∀l:Zv,0<=ltS k (l.map λm=>(f m,1))/\ltS k (l.map λm=>(f m,1))<=l.length
 |[]=>⟨Wh 0,Wh 0⟩
 |m::l=>by
  have:=AK f k l
  rw[YE,YX];unfold ltS;lia
theorem Kb(f:Int->Int):∀l,0<=Uh f l/\Uh f l<=(l.length:Int)*l.length
 |[]=>⟨Wh 0,Wh 0⟩
 |m::l=>by
  have b:=Kb f l;have g:=AK f (f m) l;unfold Uh at b ⊢;rw[YE,YX];unfold XS
  grind
noncomputable def toI:D->Int
 | .int i=>i
 |_=>0
noncomputable def mvN(b:List (Option Pu.S)):Nat:=match b[2]?,b[3]? with
 |some (some<|Pu.S.own<|Pu.O.lst f),some (some<|Pu.S.own<|Pu.O.lst g)=>(Uh (λm=>(f.map toI).getD (m-1).toNat 0)<|g.map toI).toNat
 |_,_=>0
def Br(xs:Zv):(xs.map D.int).map toI=xs:=by
 rw[Wa];exact List.map_id _
end M
namespace Pu
open L2 Own M
noncomputable abbrev mvD(m:Mo):D:=.tup [.int m.1,.int m.2.1,.int m.2.2.1,.int m.2.2.2]
end Pu
namespace M
open L2 Own Pu
def Mv.len (h:Mv ps f ns g):(g.length:Int)<=Uh f ns:=by
 induction h with
 |done ns hw=>exact(Kb f ns).1
 |step ns p g j n q o=>
  obtain⟨l,b,i⟩:=j.2.resolve_left n;rw[Yy]at b;rw[KZ b,KZ (by lia)]at i
  have:=DP f l b i
  grind
end M
namespace Pu
open L2 Own
section
variable {X:Cx}{k j:Nat}{x:Str}{ps:Z2}{sp:Sp}{e a b c:Expr}{es:Z3}{t:TA}{te tf tg:TE}{p pos:Pos}
def fz(C:Callee X.prog X.w X.K X.mg X.base CX0 k x ps sp)(h:Jl j X.A)(o:PA X (e::es) t)(i:autoParam (k<=j) au_1)(l:autoParam (Gl X x) au_0)(g:autoParam ((x==("__debug__" : Str))=false) au_1)(n:autoParam (starEach (e::es) X.env=(false,eval e X.env)::starEach es X.env) au_0)(f:autoParam ((backTo pos<|starEach es X.env).any (·.1)=false) au_0) :
  PE X (.Call (.Name x p) (e::es) [] pos) (Pt sp [] E0 t):=Pn C (h.mono i) RH o l g n f
def jx(K:Zt)(h:PE X a te)(g:PE X b tf)(i:autoParam (X.K=K) au_0)(f:autoParam (SX b) au_7):PE X (.Subscript a b pos) (tOp (λx y H Q=>XF K x y H Q\/X0 K x y H Q) te tf):=BL (LZ i) h g f
def gz(i:Nat)(h:X.N.Nodup)(f:autoParam (X.N[i]?=some x) au_0)(hx:autoParam (Loc X.env.scope x) au_6)(g:autoParam (X.fn x=true\/X.env.scope.names.lookup x=some .local) au_2):PG X (.Name x pos) (Xw i):=Na h f hx g
def ln(K:Zt)(h:X.mg "len"=none)(l:PE X a te)(o:autoParam (X.K=K) au_0)(i:autoParam (Gl X "len") au_0)(g:autoParam (starEach [a] X.env=(false,eval a X.env)::starEach [] X.env) au_0)(f:autoParam ((backTo pos<|starEach [] X.env).any (·.1)=false) au_0) :
  PE X (.Call (.Name "len" p) [a] [] pos) (tCB (λxs H Q=>∃x n,xs=[x]/\Tx K x H n/\Q (.int (n:Nat)) H)<|J3 te JS):=J2 (Lv o) i h PySem.boot_len (Jw l J9 g) (by decide) rfl g f
def cq(K:Zt)(f:Jl j X.A)(h:PE X a te)(g:PE X b tf)(i:autoParam (X.K=K) au_0):PT X (.Compare a [.Eq] [b] pos) (Tg<|tOp (λx y H Q=>rEq x y H Q\/Xy K false x y H Q) te tf):=Xf (Tu f.units0 i) h g (UZ _)
def cn(K:Zt)(f:Jl j X.A)(h:PE X a te)(g:PE X b tf)(i:autoParam (X.K=K) au_0):PT X (.Compare a [.NotEq] [b] pos) (Tg<|tOp (λx y H Q=>rNe x y H Q\/Xy K true x y H Q) te tf):=Xf (Zcc f.units0 i) h g (UZ _)
def az(f:PE X a te)(g:autoParam (starEach [a] X.env=(false,eval a X.env)::starEach [] X.env) au_0):PA X [a] (J3 te JS):=Jw f J9 g
def bz(g:PE X a te)(f:PE X b tf)(i:autoParam (starEach [a,b] X.env=(false,eval a X.env)::starEach [b] X.env) au_0)(h:autoParam (starEach [b] X.env=(false,eval b X.env)::starEach [] X.env) au_0):PA X [a,b] (J3 te<|J3 tf JS):=Jw g (Jw f J9 h) i
def dz(h:PE X a te)(g:PE X b tf)(f:PE X c tg)(n:autoParam (starEach [a,b,c] X.env=(false,eval a X.env)::starEach [b,c] X.env) au_0)(l:autoParam (starEach [b,c] X.env=(false,eval b X.env)::starEach [c] X.env) au_0)(i:autoParam (starEach [c] X.env=(false,eval c X.env)::starEach [] X.env) au_0):PA X [a,b,c] (J3 te<|J3 tf<|J3 tg JS):=Jw h (Jw g (Jw f J9 i) l) n
end
section
variable {K:Zt}{mg:Zx}{E:L2.St->XK}{ta tb tc:TE}{a b c:PTE}
def sz(f:VZ K mg E ta a):Jt K mg E (J3 ta JS) (Uc a UL):=JX f Xq
def tz(g:VZ K mg E ta a)(f:VZ K mg E tb b):Jt K mg E (J3 ta<|J3 tb JS) (Uc a<|Uc b UL):=JX g (sz f)
def uz(h:VZ K mg E ta a)(g:VZ K mg E tb b)(f:VZ K mg E tc c):Jt K mg E (J3 ta<|J3 tb<|J3 tc JS) (Uc a<|Uc b<|Uc c UL):=JX h (tz g f)
end
section
variable {K:Zt}{h:Heap}{mg:Zx}{C C':Addr}{x m q:Str}{st:Stmt}{ps:Z2}
abbrev Bd(x q:Str)(st:Stmt)(ps:Z2):Prop:=∀(kV f i:Value) (l:Z6) (g j:Value) (b:Z1),b.length=ps.length->bindArgs (PySem.W.fnOf x q (UG st) (JI st) (Jb st) .none kV f i l g j) ⟨b,[]⟩=pure (ps.zip b)
def DI.e (D:DI K x st) (X:K.In h) (g:h.Ns mainGlobals mg) (b:Bd x x st ps:=by
  intro _ _ _ _ _ _ us f
  first
   |(obtain⟨_,rfl⟩:=Pu.CZ f;rfl)
   |(obtain⟨_,_,rfl⟩:=Pu.FO f;rfl)
   |(obtain⟨_,_,_,rfl⟩:=Pu.Dt f;rfl)
   |(obtain⟨_,_,_,_,rfl⟩:=Pu.F8 f;rfl)
   |(obtain⟨_,_,_,_,_,rfl⟩:=Pu.Zao f;rfl)):Def K mg x st ps:=D.d X g b
end
section
variable {P:Program}{w:World}{K:Zt}{mg:Zx}{base:Heap}{N ps:Z2}{sp:Sp}{p:PTS}{x q:Str}{st:Stmt}{k:Nat}{W:Addr->Prop}
structure Uz (K:Zt) (mg:Zx) (N ps:Z2) (sp:Sp) (p:PTS):Prop where
 len:∀vs H Q E,sp vs H Q E->vs.length=ps.length
 run:∀vs H Q E t,sp vs H Q E->Jm K mg (λ_=>E) t p->t {nx:=λ_ H'=>Q .non H',rt:=Q} (start N vs) H
def Uz.a (b:∀ds R X,c ds R X->ds.length=ps.length/\p {nx:=λ_=>R (.sh .non),rt:=R,ex:=λ_ e=>X e} (U9 N ds)) (f:autoParam (ps.length<=N.length) au_1):Uz K mg N ps (Je mg c K) p:=
 ⟨λ_ _ _ _ h=>Zc1 h λds R X z=>(b ds R X z).1,λ_ _ _ _ _ h s=>MM h s f b⟩
def _root_.Own.Def.oz (D:Def K mg x st ps) (S:Jd N ps (Jb st))
  (g:∀f b A outer s H E,Jl k (A.deeper<|envOfC x (Jb st) s.heap.objs.size f b)->
   ∃t,PSs (JG CX0 P w K mg base N x (Jb st) f b A outer s H E).nox (JI st) t/\Jm K mg (λ_=>E) t p) (u:Uz K mg N ps sp p):Callee P w K mg base CX0 (k+1) x ps sp:=
 D.ok S u.len λf b A outer s H j Q E i h=>(g f b A outer s H E i).elim λt z=>⟨t,z.1,u.run _ _ _ _ _ h z.2⟩
def _root_.Own.Def.ox (D:Def K mg x st ps) (S:Jd N ps (Jb st))
  (g:∀f b A outer s H E,Jl k (A.deeper<|envOfC x (Jb st) s.heap.objs.size f b)->
   ∃t,PSs (JG (ExcR.CXe P w) P w K mg base N x (Jb st) f b A outer s H E) (JI st) t/\Jm K mg (λ_=>E) t p) (u:Uz K mg N ps sp p):Callee P w K mg base (ExcR.CXe P w) (k+1) x ps sp:=
 ExcR.Def.okX D S u.len λf b A outer s H j Q E i h=>(g f b A outer s H E i).elim λt z=>⟨t,z.1,u.run _ _ _ _ _ h z.2⟩
end
section
variable {K:Zt}{h:Heap}{mg:Zx}{x:Str}{C:Addr}
structure EI (K:Zt) (x:Str) (C:Addr):Prop where
 a:PySem.W.nsIn K mainGlobals x=some (some<|.ref C)
 g:ExcR.KR K C
def ei(a:PySem.W.nsIn K mainGlobals x=some (some<|.ref C))(q:PySem.W.excIn K C [.type "ValueError",.type "Exception",.type "BaseException",.type "object"] "ValueError.__new__"=true)(f:PySem.W.findIn K (.ref C) "__getattribute__"=some (some<|.builtin "BaseException.__getattribute__"))(b:PySem.W.findIn K (.ref C) "__getattr__"=some none)(g:PySem.W.findIn K (.ref C) "__class__"=some (some<|.builtin "object.__class__"))(i:PySem.W.clsIn K C=some d):EI K x C:=⟨a,⟨⟨q⟩,f,b,g,by rw[i];rfl⟩⟩
def EI.c (y:EI K x C) (X:K.In h) (b:h.Ns mainGlobals mg):ExcR.Ud mg x=C:=ExcR.Ms (Vd X b y.a)
def EI.m (y:EI K x C) (X:K.In h) (b:h.Ns mainGlobals mg):mg x=some (.ref<|ExcR.Ud mg x):=by rw[y.c X b];exact Vd X b y.a
def EI.k (y:EI K x C) (X:K.In h) (b:h.Ns mainGlobals mg):ExcR.KR K (ExcR.Ud mg x):=by rw[y.c X b];exact y.g
end
end Pu
namespace M
open L2 Own Pu
noncomputable def Tf(n:Nat):Nat->Nat
 | 0=>1
 |k+1=>Tf n k*(n-k)
noncomputable def ND:Nat->Nat
 | 0=>1
 |k+1=>ND k*(k+1)
def L5:∀n,n<8->Tf n n=ND n/\ND n<=5040:=by decide
def Rz{b r}(j:b.Nodup)(i:r.Nodup)(o:∀x∈r,x∈b):(nextM b r).length=b.length-r.length:=by
 have g:(b.filter λh=>decide (h∈r)).Perm r:=by grind
 have p:=g.length_eq;unfold nextM;rw[Yy]
 have f:∀l:Zv,(l.filter λh=>!decide (h∈r)).length+(l.filter λh=>decide (h∈r)).length=l.length:=λl=>by
  induction l with
  |nil=>rfl
  |cons x l n=>grind
 have:=f b
 lia
theorem E5{b g:Type}{f:b->List g}{c}:∀{l:List b},(∀x∈l,(f x).length=c)->(l.flatMap f).length=l.length*c
 |[],_=>by simp
 |x::l,h=>by
  rw[QU,YK,h x Wb,E5 λy i=>h y (YT _ i),YX,Nat.add_mul];lia
theorem Aj(f:g.Nodup):∀k,(UV g k).length=Tf g.length k
 | 0=>rfl
 |k+1=>by
  unfold UV Tf;rw[E5 λr b=>by rw[Rz f (rows_mem.mp b).2.1 (rows_mem.mp b).2.2,(rows_mem.mp b).1],Aj f k]
def Dr(f:ps.length<=7):(JP ps ps.length).length<=5040:=by
 have h:=Aj (TB ps.length) ps.length;rw[U8]at h;obtain⟨b,g⟩:=L5 ps.length (by lia);rw[BE,Yy,h,b];lia
def stands_mem:q∈JP ps ps.length↔q.1.Perm (Jk 1 ps.length)/\q.2=Xo ps q.1:=by
 have b:=λr=>by
  have:=Zbv (r:=r) (TB ps.length)
  rwa[U8]at this
 rw[BE,YO];constructor
 ·rintro⟨r,f,rfl⟩;exact⟨(b r).mp f,NH ((b r).mp f)⟩
 ·rintro⟨g,h⟩;refine⟨q.1,(b _).mpr g,?_⟩;rw[NH (pre:=[]) g,←h]
theorem EW(h:∀x,0<=wdM ps x):∀r,0<=Xo ps r
 |[]=>Wh _
 |x::t=>by
  have b:∀l:Zv,0<=(l.map<|wdM ps).sum:=λl=>by
   induction l with
   |nil=>simp
   |cons y l f=>grind
  have i:=EW h t;have g:=Int.mul_nonneg (h x) (b (t.filter λy=>decide (y<x)));show 0<=wdM ps x*_+Xo ps t;lia
end M
namespace Stb
open PySem PyProof.Rows
noncomputable def Pz(zs:Array Nat)(i:Nat):Nat:=(zs[i]?).getD 0
def PU{i j}(h:zs[i]?=ys[j]?):Pz zs i=Pz ys j:=by unfold Pz;rw[h]
def NP{b d}(f:b<zs.size)(g:d<=b)(k:Nat):Pz (bubble zs b d) k=if k=b-d then Pz zs b else if b-d<k/\k<=b then Pz zs (k-1)else Pz zs k:=by
 have e:=Qo f d g k
 repeat' split
 all_goals exact PU (by grind)
def XX{i j}(f:j<=zs.size)(k:Nat):Pz (mirror zs i j ((j-i) / 2)) k=if i<=k/\k<j then Pz zs (i+j-1-k)else Pz zs k:=by
 have e:=WR (i:=i) f k;by_cases b:i<=k/\k<j
 ·rw[Y5 b]at e ⊢;exact PU e
 ·rw[Y4 b]at e ⊢;exact PU e
structure At (a₀:Array Keyed) (st:SortSt) (zs:Array Nat) (n:Nat):Prop where
 base:SBase a₀ st
 perm:zs.Perm (Array.range a₀.size)
 look:∀i:Nat,(arrOf st)[i]?=(zs[i]?).bind λk=>a₀[k]?
 low:∀i,i<n->Pz zs i<n
 idle:∀i,n<=i->i<a₀.size->Pz zs i=i
section
variable {a₀:Array Keyed}{st:SortSt}{zs:Array Nat}{n:Nat}
def At.size (h:At a₀ st zs n):zs.size=a₀.size:=by rw[h.perm.size_eq,Array.size_range]
def At.grow (h:At a₀ st zs n) (b:n<=m) (j:m<=a₀.size):At a₀ st zs m:=
 ⟨h.base,h.perm,h.look,λi f=>by
  by_cases q:i<n
  ·exact YM (h.low i q) b
  ·rw[h.idle i (by lia) (by lia)];exact f,λi l g=>h.idle i (by lia) g⟩
def At.bub (h:At a₀ st zs n) (f:b<a₀.size) (g:d<=b) (lo:∀i,i<m->Pz (bubble zs b d) i<m) (j:∀i,m<=i->i<a₀.size->Pz (bubble zs b d) i=i) :
  At a₀ (setArr st<|bubble (arrOf st) b d) (bubble zs b d) m:=
 ⟨h.base.setArr (bubble_perm _ _ _),(bubble_perm _ _ _).trans h.perm,λi=>by
  rw[Qo (by rw[h.base.size];exact f) d g,Qo (by rw[h.size];exact f) d g,h.look,h.look,h.look]
  repeat' split
  all_goals rfl,lo,j⟩
def At.mir {i j m} (h:At a₀ st zs n) (b:j<=a₀.size) (lo:∀k,k<m->Pz (mirror zs i j ((j-i) / 2)) k<m) (f:∀k,m<=k->k<a₀.size->Pz (mirror zs i j ((j-i) / 2)) k=k) :
  At a₀ (setArr st<|mirror (arrOf st) i j ((j-i) / 2)) (mirror zs i j ((j-i) / 2)) m:=
 ⟨h.base.setArr (mirror_perm _ _ _ _),(mirror_perm _ _ _ _).trans h.perm,λk=>by
  rw[WR (by rw[h.base.size];exact b),WR (by rw[h.size];exact b),h.look,h.look];split<;>rfl,lo,f⟩
end
def Lx(xs:Array Keyed)(zs:Array Nat)(i j:Nat):Prop:=K xs i<K xs j\/(K xs i=K xs j/\Pz zs i<Pz zs j)
def Asc(xs:Array Keyed)(zs:Array Nat)(n:Nat):Prop:=∀i j,i<j->j<n->Lx xs zs i j
def Dsc(xs:Array Keyed)(zs:Array Nat)(n:Nat):Prop:=∀i j,i<j->j<n->Lx xs zs j i
def Asc.sorted (h:Asc xs zs n):SortedTo xs n:=λi j f b=>by
 by_cases q:i=j
 ·grind
 ·rcases h i j (by lia) b with z|z
  ·lia
  ·lia
def Asc.more {st zs n m} (h:Asc (arrOf st) zs n) (A:At a₀ st zs n) (g:SortedTo (arrOf st) m) (o:m<=a₀.size):Asc (arrOf st) zs m:=λi j b l=>by
 by_cases q:j<n
 ·exact h i j b q
 ·have e:=g i j (by lia) l;have r:=A.idle j (by lia) (by lia)
  have p:Pz zs i<j:=by
   by_cases f:i<n
   ·exact YM (A.low i f) (by lia)
   ·rw[A.idle i (by lia) (by lia)];exact b
  by_cases z:K (arrOf st) i<K (arrOf st) j
  ·exact .inl z
  ·exact .inr ⟨by lia,by lia⟩
section
variable {prog:Program}{w:World}{A:Around}{E:Zy}{s:Shared}{a₀:Array Keyed}
def ins{st zs n ok Q}(h0:IntKeys a₀)(hn:n<=a₀.size)(hok:ok<=n)(hA:At a₀ st zs ok)(hs:Asc (arrOf st) zs ok)(h:∀st' zs',At a₀ st' zs' n->Asc (arrOf st') zs' n->Q true st'):wpS (model prog w) A E s (binarySort' 0 n ok) Q st:=by
 rw[binarySort'_eq];simp only[Vq]
 refine YF (wpS_mono (W9 (I:=λk c st'=>c=(none,())/\∃z,At a₀ st' z (min k n)/\Asc (arrOf st') z (min k n))
  (Q:=λc st'=>c=(none,())/\∃z,At a₀ st' z n/\Asc (arrOf st') z n) ?step ?fin ⟨rfl,zs,hA.grow (by lia) (by lia),λi j hij hj=>hs i j hij (by lia)⟩) ?post)
 case post=>
  rintro c st' ⟨rfl,z,a,b⟩;exact YZ (h st' z a b)
 case fin=>
  rintro c st' ⟨hc,z,a,b⟩;rw[show min (max (max ok 1) n) n=n by lia]at a b;exact⟨hc,z,a,b⟩
 case step=>
  rintro k c st' hak hkn ⟨rfl,z,a,b⟩;rw[show min k n=k by lia]at a b;have hk:k<a₀.size:=by lia
  refine YF (wpS_mono (W9 (I:=λx c st''=>st''=st'/\∃l r,c=(none,l,r)/\l<=r/\r<=k/\r-l<=k-x/\
    (∀i,i<l->K (arrOf st') i<=K (arrOf st') k)/\∀i,r<=i->i<k->K (arrOf st') k<K (arrOf st') i)
   (Q:=λc st''=>st''=st'/\∃l r,c=(none,l,r)/\l<=k/\(∀i,i<l->K (arrOf st') i<=K (arrOf st') k)/\∀i,l<=i->i<k->K (arrOf st') k<K (arrOf st') i) ?half ?ends
   ⟨rfl,0,k,rfl,by lia,by lia,by lia,λi hi=>by lia,λi h1 h2=>by lia⟩) ?put)
  case ends=>
   rintro c st'' ⟨rfl,l,r,rfl,hlr,hrk,hm,hlo,hhi⟩
   have:l=r:=by lia
   subst this;exact⟨rfl,l,l,rfl,hrk,hlo,hhi⟩
  case half=>
   rintro x c st'' _ hxk ⟨rfl,l,r,rfl,hlr,hrk,hm,hlo,hhi⟩
   dsimp only
   by_cases hge:l>=r
   ·rw[Y5 hge]
    have:l=r:=by lia
    subst this;exact YZ ⟨rfl,l,l,rfl,hrk,hlo,hhi⟩
   ·rw[Y4 hge];refine YF (wpS_ltK a.base h0 hk (by lia) ?_);by_cases hl:K (arrOf st'') k<K (arrOf st'') ((l+r) / 2)
    ·simp only[hl,WT,if_true];exact YZ ⟨rfl,l,(l+r) / 2,rfl,by lia,by lia,by lia,hlo,λi h1 h2=>Int.lt_of_lt_of_le hl (b.sorted _ _ h1 h2)⟩
    ·simp only[hl,WX,YW,Ws];exact YZ ⟨rfl,(l+r) / 2+1,r,rfl,by lia,by lia,by lia,λi h1=>Int.le_trans (b.sorted i ((l+r) / 2) (by lia)<|by lia) (Int.not_lt.mp hl),hhi⟩
  case put=>
   rintro c st'' ⟨rfl,l,r,rfl,hlk,hlo,hhi⟩;show wpS _ _ _ _ (do moveDown' k l;pure (ForInStep.yield (none,()))) _ _
   rw[moveDown'_eq];have hz:=a.size
   have pz:∀i,Pz (bubble z k (k-l)) i=if i=l then Pz z k else if l<i/\i<=k then Pz z (i-1)else Pz z i:=λi=>by
    rw[NP (by lia) (by lia),show k-(k-l)=l by lia]
   have kz:∀i,K (bubble (arrOf st'') k (k-l)) i=if i=l then K (arrOf st'') k else if l<i/\i<=k then K (arrOf st'') (i-1)else K (arrOf st'') i:=λi=>by
    rw[K_bubble (by rw[a.base.size];exact hk) (by lia),show k-(k-l)=l by lia]
   have ek:=a.idle k (Y1 _) hk;refine YF (wpS_modify<|YZ ⟨rfl,bubble z k (k-l),?_,?_⟩)
   ·rw[show min (k+1) n=k+1 by lia];refine a.bub hk (by lia) (λi hi=>?_) λi h1 h2=>?_
    ·rw[pz];split
     ·lia
     ·split
      ·have:=a.low (i-1) (by lia)
       lia
      ·have:=a.low i (by lia)
       lia
    ·rw[pz,Y4 (by lia),Y4 (by lia)];exact a.idle i (by lia) h2
   ·rw[show min (k+1) n=k+1 by lia];intro i j hij hj;show Lx (bubble (arrOf st'') k (k-l)) _ i j
    have g1:∀i,i<l->K (bubble (arrOf st'') k (k-l)) i=K (arrOf st'') i/\Pz (bubble z k (k-l)) i=Pz z i:=λi hi=>by
     rw[kz,pz,Y4 (by lia),Y4 (by lia),Y4 (by lia),Y4 (by lia)];exact⟨rfl,rfl⟩
    have g2:K (bubble (arrOf st'') k (k-l)) l=K (arrOf st'') k/\Pz (bubble z k (k-l)) l=k:=by
     rw[kz,pz,Y5 rfl,Y5 rfl];exact⟨rfl,ek⟩
    have g3:∀i,l<i->i<=k->K (bubble (arrOf st'') k (k-l)) i=K (arrOf st'') (i-1)/\Pz (bubble z k (k-l)) i=Pz z (i-1):=λi h1 h2=>by
     have q:¬i=l:=by lia
     rw[kz,pz,Y4 q,Y4 q,Y5 ⟨h1,h2⟩,Y5 ⟨h1,h2⟩];exact⟨rfl,rfl⟩
    unfold Lx;by_cases hi:i<l
    ·rw[(g1 i hi).1,(g1 i hi).2];by_cases hj0:j<l
     ·rw[(g1 j hj0).1,(g1 j hj0).2];exact b i j hij (by lia)
     ·by_cases hj1:j=l
      ·subst hj1;rw[g2.1,g2.2];have a1:=hlo i hi;have a2:=a.low i (by lia);lia
      ·rw[(g3 j (by lia)<|by lia).1,(g3 j (by lia)<|by lia).2];exact b i (j-1) (by lia) (by lia)
    ·rw[(g3 j (by lia)<|by lia).1,(g3 j (by lia)<|by lia).2];by_cases hi1:i=l
     ·subst hi1;rw[g2.1];exact .inl (hhi (j-1) (by lia)<|by lia)
     ·rw[(g3 i (by lia)<|by lia).1,(g3 i (by lia)<|by lia).2];exact b (i-1) (j-1) (by lia) (by lia)
structure UB (a₀:Array Keyed) (st:SortSt) (x q:Nat):Prop where
 le:q+1<=x
 ex:∃zs,At a₀ st zs (x-(q+1))/\Dsc (arrOf st) zs (x-(q+1))
 same:∀i,x-(q+1)<=i->i<x->K (arrOf st) i=K (arrOf st) (x-1)
 less:∀i,i<x-(q+1)->K (arrOf st) (x-1)<K (arrOf st) i
def UB.turn {st x q} (F:UB a₀ st x q) (hx:x<=a₀.size) :
  (∃zs,At a₀ (setArr st<|mirror (arrOf st) (x-(q+1)) x ((x-(x-(q+1))) / 2)) zs x/\Dsc (mirror (arrOf st) (x-(q+1)) x ((x-(x-(q+1))) / 2)) zs x)/\
   ∀i,K (mirror (arrOf st) (x-(q+1)) x ((x-(x-(q+1))) / 2)) i=K (arrOf st) i:=by
 obtain⟨zs,a,d⟩:=F.ex;have o:=a.size;have b:=K_mirror_equal (by rw[a.base.size];exact hx) F.same;have pz:∀i,Pz (mirror zs (x-(q+1)) x ((x-(x-(q+1))) / 2)) i=_:=λi=>XX (by lia) i;refine⟨⟨_,a.mir hx (λi p=>?_) λi r n=>?_,λi j g l=>?_⟩,b⟩
 ·rw[pz];split
  ·rw[a.idle _ (by lia) (by lia)];lia
  ·have:=a.low i (by lia)
   lia
 ·rw[pz,Y4 (by lia)];exact a.idle i (by lia) n
 ·unfold Lx;rw[pz,pz,b,b];by_cases f:j<x-(q+1)
  ·rw[Y4 (by lia),Y4 (by lia)];exact d i j g f
  ·by_cases h:i<x-(q+1)
   ·left;rw[F.same j (by lia) l];exact F.less i h
   ·right;rw[Y5 (by lia),Y5 (by lia),a.idle _ (by lia) (by lia),a.idle _ (by lia) (by lia),F.same j (by lia) l,F.same i (by lia) (by lia)];exact⟨rfl,by lia⟩
def Pj{st x q b t}{Q:b->SortSt->Prop}(h:wpS (model prog w) A E s t Q (setArr st<|mirror (arrOf st) (x-(q+1)) x ((x-(x-(q+1))) / 2)))(hx:q+1<=x) :
  wpS (model prog w) A E s (if q>0 then do reverseSlice' (x-(q+1)) x;t else t) Q st:=by
 by_cases hq:q>0
 ·rw[Y5 hq];trivial
 ·rw[Y4 hq];rw[show(x-(x-(q+1))) / 2=0 by lia]at h;exact h
def tail{st zs n nrem Q}(B:IntKeys a₀)(x:nrem<=a₀.size)(q:1<=n)(l:n<=nrem)(a:At a₀ st zs n)(d:Dsc (arrOf st) zs n)(h:∀m b f,1<=m->m<=nrem->At a₀ b f m->Asc (arrOf b) f m->Q (some m) b):wpS (model prog w) A E s (tail3 n nrem) Q st:=by
 have C:=a.size;have pz:∀i,Pz (mirror zs 0 n ((n-0) / 2)) i=_:=λi=>XX (by lia) i;have u:∀i,K (mirror (arrOf st) 0 n ((n-0) / 2)) i=_:=λi=>K_mirror (by rw[a.base.size];lia) i;refine YF (wpS_reverse ?_)
 have r:At a₀ (setArr st<|mirror (arrOf st) 0 n ((n-0) / 2)) (mirror zs 0 n ((n-0) / 2)) n:=a.mir (by lia) (λi H=>by
  rw[pz,Y5 (by lia)];exact a.low _ (by lia)) λi q z=>by
  rw[pz,Y4 (by lia)];exact a.idle i q z
 have v:Asc (mirror (arrOf st) 0 n ((n-0) / 2)) (mirror zs 0 n ((n-0) / 2)) n:=λi j y G=>by
  unfold Lx;rw[pz,pz,u,u,Y5 (by lia),Y5 (by lia),Y5 (by lia),Y5 (by lia)];exact d _ _ (by lia) (by lia)
 exact YF (wpS_ascLoop B x q l r.base v.sorted λm p o g _=>YZ (h m _ _ (by lia) o (r.grow p<|by lia)<|Asc.more v r g<|by lia))
def NR{st n nrem Q}(h0:IntKeys a₀)(hn:nrem<=a₀.size)(hnn:n<=nrem)(F:UB a₀ st n 0)(h:∀m q st',n<=m->m<=nrem->UB a₀ st' m q->Q (none,m,q) st'):wpS (model prog w) A E s (descLoop n nrem) Q st:=by
 refine W9 (I:=λx c st'=>∃q,c=(none,x,q)/\UB a₀ st' x q) ?step ?fin ⟨0,rfl,F⟩
 case fin=>
  rintro c st' ⟨q,rfl,F'⟩;rw[show max n nrem=nrem by lia]at F' ⊢;exact h nrem q st' hnn (Y1 _) F'
 case step=>
  rintro x c st' hax hxn ⟨q,rfl,F'⟩
  dsimp only
  have hB:=F'.ex.elim λz y=>y.1.base;have hle:=F'.le;refine YF (wpS_ltK hB h0 (by lia) (by lia) ?_);by_cases hless:K (arrOf st') x<K (arrOf st') (x-1)
  ·simp only[hless,WT,if_true];obtain⟨⟨zs,a,d⟩,kz⟩:=F'.turn (by lia);refine Pj (YZ ⟨0,rfl,by lia,⟨zs,a,d⟩,λi h1 h2=>by congr 1;lia,λi hi=>?_⟩) hle;rw[kz,kz,show x+1-1=x by lia];by_cases z:i<x-(q+1)
   ·exact Int.lt_trans hless (F'.less i z)
   ·rw[F'.same i (by lia) (by lia)];exact hless
  ·simp only[hless,WX,YW,Ws];refine YF (wpS_ltK hB h0 (by lia) (by lia) ?_);by_cases hl:K (arrOf st') (x-1)<K (arrOf st') x
   ·simp only[hl,WT,if_true];exact YZ (h x q st' hax (by lia) F')
   ·simp only[hl,WX,YW,Ws];have e:K (arrOf st') x=K (arrOf st') (x-1):=by lia
    have ex:x+1-(q+1+1)=x-(q+1):=by lia
    refine YZ ⟨q+1,rfl,by lia,by rw[ex];exact F'.ex,λi h1 h2=>?_,λi hi=>?_⟩
    ·rw[show x+1-1=x by lia];by_cases hix:i=x
     ·subst hix;rfl
     ·rw[e];exact F'.same i (by lia) (by lia)
    ·rw[show x+1-1=x by lia,e];exact F'.less i (by lia)
def Pp{st zs n nrem Q}(o:IntKeys a₀)(l:nrem<=a₀.size)(g:n+1<=nrem)(a:At a₀ st zs n)(d:Dsc (arrOf st) zs n)(r:∀i,i<n->K (arrOf st) n<K (arrOf st) i)(h:∀m b f,1<=m->m<=nrem->At a₀ b f m->Asc (arrOf b) f m->Q (some m) b):wpS (model prog w) A E s (descPart n nrem) Q st:=by
 refine YF (wpS_lift<|Qf ⟨rfl,?_⟩);refine YF (NR o l g ⟨by lia,⟨zs,a,d⟩,λi y x=>by congr 1;lia,r⟩ λm q b p j F=>?_)
 dsimp only
 obtain⟨⟨z,v,u⟩,_⟩:=F.turn (by lia);exact Pj (tail o l (by lia) j v u h) F.le
def run{st zs nrem Q}(z:IntKeys a₀)(C:nrem<=a₀.size)(L:1<=nrem)(a:At a₀ st zs 0)(h:∀m f o,1<=m->m<=nrem->At a₀ f o m->Asc (arrOf f) o m->Q (some m) f):wpS (model prog w) A E s (countRun' 0 nrem) Q st:=by
 rw[countRun0_eq];have T:=a.size
 refine YF (wpS_ascLoop z C (Y1 1) L a.base (λi j u y=>by
  have:i=j:=by lia
  subst this;exact Wh _) λn r q g B=>?_)
 have p:At a₀ st zs n/\Asc (arrOf st) zs n:=⟨a.grow (by lia) (by lia),Asc.more (λi j _ y=>by lia) a g (by lia)⟩
 dsimp only
 by_cases l:n=nrem
 ·rw[Y5 (by simpa using l)];exact YZ (h n st zs r q p.1 p.2)
 ·rw[Y4 (by simpa using l)];have G:=B.resolve_left l;by_cases v:n>1
  ·rw[Y5 v];refine YF (wpS_ltK a.base z (by lia) (by lia) ?_);by_cases J:K (arrOf st) 0<K (arrOf st) (n-1)
   ·simp only[J,WT,if_true];exact YZ (h n st zs r q p.1 p.2)
   ·simp only[J,WX,YW,Ws]
    have b:∀k,0<=k->k<n->K (arrOf st) k=K (arrOf st) (n-1):=λk _ M=>by
     have a1:=g 0 k (by lia) M;have a2:=g k (n-1) (by lia) (by lia);lia
    have x:=K_mirror_equal (by rw[a.base.size];lia) b;have pz:∀i,Pz (mirror zs 0 n ((n-0) / 2)) i=_:=λi=>XX (by lia) i;refine YF (wpS_reverse<|Pp z C (by lia) (a.mir (by lia) (λi H=>?_) λi L N=>?_) (λi j u y=>?_) (λi H=>?_) h)
    ·rw[pz,Y5 (by lia),a.idle _ (by lia) (by lia)];lia
    ·rw[pz,Y4 (by lia)];exact a.idle i (by lia) N
    ·show Lx (mirror _ _ _ _) _ _ _;unfold Lx;right;rw[pz,pz,x,x,Y5 (by lia),Y5 (by lia),a.idle _ (by lia) (by lia),a.idle _ (by lia) (by lia),b i (by lia) (by lia),b j (by lia) y];exact⟨rfl,by lia⟩
    ·show K (mirror _ _ _ _) _<K (mirror _ _ _ _) _;rwa[x,x,b i (by lia) H]
  ·rw[Y4 v]
   have:n=1:=by lia
   subst this;refine Pp z C (by lia) p.1 (λi j u y=>by lia) (λi H=>?_) h
   have:i=0:=by lia
   subst this;exact G
structure Done (a₀:Array Keyed) (st:SortSt):Prop where
 perm:(arrOf st).Perm a₀
 failed:failedOf st=none
 ex:∃zs:Array Nat,zs.Perm (Array.range a₀.size)/\(∀i:Nat,(arrOf st)[i]?=(zs[i]?).bind λk=>a₀[k]?)/\Asc (arrOf st) zs a₀.size
def At.done {st zs} (a:At a₀ st zs a₀.size) (b:Asc (arrOf st) zs a₀.size):Done a₀ (setPending st ((pendingOf st).push (0,a₀.size,0)))/\pendingOf (setPending st ((pendingOf st).push (0,a₀.size,0)))=#[(0,a₀.size,0)]:=
 ⟨⟨a.base.perm,a.base.failed,zs,a.perm,a.look,b⟩,by show(pendingOf st).push _=_;rw[a.base.pend];rfl⟩
def runs{st zs Q}(h0:IntKeys a₀)(a:At a₀ st zs 0)(h2:2<=a₀.size)(h64:a₀.size<64)(h:∀st',Done a₀ st'->Q () st'):wpS (model prog w) A E s sortRuns' Q st:=by
 rw[sortRuns'_eq];refine YF (wpS_get ?_)
 dsimp only
 have hmr:minRun' a₀.size a₀.size 0=a₀.size:=by
  obtain⟨f,hf⟩:∃f,a₀.size=f+1:=⟨a₀.size-1,by lia⟩
  have:minRun' (f+1) a₀.size 0=a₀.size:=by rw[minRun'_succ,Y5 h64];rfl
  rwa[←hf]at this
 simp only[a.base.size,hmr]
 refine YF (wpS_mono (W9
  (I:=λx c st'=>(x=0/\c=(none,0)/\At a₀ st' zs 0)\/(1<=x/\c=(none,a₀.size)/\Done a₀ st'/\pendingOf st'=#[(0,a₀.size,0)]))
  (Q:=λc st'=>c=(none,a₀.size)/\Done a₀ st'/\pendingOf st'=#[(0,a₀.size,0)]) ?step ?fin (.inl ⟨rfl,rfl,a⟩)) ?post)
 case fin=>
  rintro c st' (⟨hx,_,_⟩|⟨_,hc,hD⟩)
  ·lia
  ·exact⟨hc,hD⟩
 case step=>
  rintro x c st' _ hx (⟨rfl,rfl,a'⟩|⟨hx1,rfl,hD⟩)
  ·dsimp only
   rw[Y4 (by lia)];simp only[Nat.sub_zero,V9,Vq];refine YF (run h0 (Y1 _) (by lia) a' λm st2 z2 hm1 hm2 a2 b2=>?_)
   dsimp only
   by_cases hlt:m<a₀.size
   ·rw[Y5 hlt];refine YF (wpS_lift<|Qf ⟨rfl,?_⟩);refine YF (ins h0 (Y1 _) hm2 a2 b2 λst3 z3 a3 b3=>?_);refine YF (wpS_get ?_);rw[show(pendingOf st3).back?=none by rw[a3.base.pend];rfl];exact YF (wpS_modify<|YZ<|.inr ⟨by lia,rfl,a3.done b3⟩)
   ·rw[Y4 hlt];have hm:m=a₀.size:=by lia
    subst hm;refine YF (wpS_get ?_);rw[show(pendingOf st2).back?=none by rw[a2.base.pend];rfl];exact YF (wpS_modify<|YZ<|.inr ⟨by lia,rfl,a2.done b2⟩)
  ·dsimp only
   rw[Y5 (Y1 _)];exact YZ ⟨rfl,hD⟩
 case post=>
  rintro c st' ⟨rfl,hD,hp⟩
  dsimp only
  refine YF (wpS_mono (W9 (I:=λ_ c st''=>st''=st'/\c=(none,())) ?_ (λ_ _ hh=>hh) ⟨rfl,rfl⟩) ?_)
  ·rintro x c st'' _ _ ⟨rfl,rfl⟩;refine YF (wpS_get ?_);rw[Y5 (by rw[hp];exact Y1 1)];exact YZ ⟨rfl,rfl⟩
  ·rintro c st'' ⟨rfl,rfl⟩;exact YZ (h _ hD)
end
def Lz(b:Zv)(i j:Nat):Prop:=b.getD i 0<b.getD j 0\/(b.getD i 0=b.getD j 0/\i<j)
def Out{f:Type}(g:Zv)(d:f)(xs ys:List f):Prop:=∃b:Z0,b.Perm (List.range xs.length)/\b.Pairwise (Lz g)/\ys=b.map λi=>xs.getD i d
def Out.lt {b:Type}{d:b}{xs:List b}{f:Z0} (h:f.Perm (List.range xs.length)) {i} (g:i∈f):i<xs.length:=by grind
def Out.length {xs ys:List f} (h:Out g d xs ys):ys.length=xs.length:=by
 obtain⟨i,b,_,rfl⟩:=h;rw[Yy,b.length_eq,Qe]
def Out.perm {xs ys:List f} (h:Out b d xs ys) (l:b.length=xs.length):∃ps:List (Int×f),ps.Perm (b.zip xs)/\ys=ps.map Prod.snd:=by
 obtain⟨g,j,_,rfl⟩:=h;refine⟨g.map λi=>(b.getD i 0,xs.getD i d),?_,by rw[Wa];rfl⟩;refine(j.map _).trans (List.Perm.of_eq ?_);refine Vf (by grind) λi o n=>?_
 grind
def Ht{keys:Z7}{vs:Z1}{kz}(b:IntsAre keys.toList kz)(f:kz.length=vs.length){k}(h:k<vs.length) :
  ∃t,(keys.zip vs.toArray)[k]?=some (.int (kz.getD k 0) t,vs.getD k .none):=by
 have e:(keys.zip vs.toArray)[k]?=(keys.toList.zip vs)[k]?:=by rw[←ksk_zip,Wo]
 have i:k<keys.toList.length:=by rw[b.length];lia
 have g:numOf (keys.toList[k])=kz.getD k 0:=by
  have:=b.nums
  grind
 obtain⟨n,t,j⟩:=b.all _ (YD i);rw[j]at g;have l:n=kz.getD k 0:=g
 grind
def Cz{keys:Z7}{vs}{kz}(u:IntsAre keys.toList kz)(f:kz.length=vs.length){xs:Array Keyed}{zs:Array Nat}(s:zs.Perm (Array.range vs.length))(look:∀i:Nat,xs[i]?=(zs[i]?).bind λk=>(keys.zip vs.toArray)[k]?)(v:Asc xs zs vs.length):Out kz Value.none vs (xs.map (·.2)).toList:=by
 have b:zs.toList.Perm (List.range vs.length):=by simpa using Array.perm_iff_toList_perm.mp s
 have A:zs.toList.length=vs.length:=by rw[b.length_eq,Qe]
 have at_:∀i (h:i<zs.toList.length),∃t,xs[i]?=some (.int (kz.getD (zs.toList[i]) 0) t,vs.getD (zs.toList[i]) .none):=λi h=>by
  obtain⟨t,e⟩:=Ht u f (Out.lt (d:=Value.none) b<|YD h);have g:i<zs.size:=by simpa using h
  refine⟨t,?_⟩;rw[look i,W7 zs i g,←e];rfl
 refine⟨zs.toList,b,?_,?_⟩
 ·rw[Qg];intro i j o n l;obtain⟨z,x⟩:=at_ i o;obtain⟨y,w⟩:=at_ j n
  have:=v i j l (by lia)
  have r:K xs i=kz.getD (zs.toList[i]) 0:=by unfold K;rw[x];rfl
  have q:K xs j=kz.getD (zs.toList[j]) 0:=by unfold K;rw[w];rfl
  have p:Pz zs i=zs.toList[i]:=by unfold Pz;rw[W7 zs i (by simpa using o)];rfl
  have p2:Pz zs j=zs.toList[j]:=by unfold Pz;rw[W7 zs j (by simpa using n)];rfl
  unfold Lx at this;rw[r,q,p,p2]at this;exact this
 ·refine QT λi=>?_;by_cases h:i<zs.toList.length
  ·obtain⟨t,e⟩:=at_ i h;rw[Wo,Array.getElem?_map,e,YB,Yx h];rfl
  ·grind
def Out.rel {d:q} (e:p) {xs ys us} (h:Out g d xs ys) (j:us.length=xs.length):∃b:Z0,ys=b.map (λi=>xs.getD i d)/\Out g e us (b.map λi=>us.getD i e)/\∀i∈b,i<xs.length:=by
 obtain⟨b,f,o,n⟩:=h;exact⟨b,n,⟨b,by rw[j];exact f,o,rfl⟩,λi l=>Out.lt (d:=d) f l⟩
end Stb
namespace Lam
open L2 Own
section
variable {X:Cx}{pins:Zw}{σ:L2.St}{H:Hp}{A:Around}{E:Zy}{s:Shared}{kS D:Addr}{vs:Z1}{kz:Zv}{keys:Z7}{e e1:Nat}
def X9(I:Inv X pins σ H s)(f:J1 X pins H b)(h:s.heap.get? b=some o)(i:∀v,o.data≠.cell v):Inv X (pins++[(b,o)]) σ H s:=
 I.pins_of λp g=>(Wc.mp g).elim (λz=>I.pin p (YI _ z)) λz=>by
  rw[Y3.mp z];exact⟨h,f.1,f.2.1,f.2.2.1,i⟩
def KB(I:Inv X pins σ H s)(h:∀p∈pins',p∈pins):Inv X pins' σ H s:=I.pins_of λp b=>I.pin p (YI _<|h p b)
def K9:∀v,(seqObj c xs n).data≠.cell v:=by simp
def Bl{h'}{t'}(I:Inv X pins σ H s)(f:J1 X pins H b)(h:Heap.SameBut b s.heap h')(i:h'.get? b=some o')(j:∀v,o'.data≠.cell v):Inv X (pins++[(b,o')]) σ H {s with heap:=h',toks:=t'}:=
 X9 (I.turned (λc o l g=>(h.2 c l).trans g) f.1 f.2.1 f.2.2.2.1 f.2.2.2.2.1 f.2.2.2.2.2) f i j
def Zck{H h a o}(x:HOk P w H h)(f:H a=none)(new:ObjOk P w (upd H a o) h a o):HOk P w (upd H a o) h:=λb u e=>by
 by_cases g:b=a
 ·subst g;rw[Js]at e;cases e;exact new
 ·rw[Jg g]at e;exact(x b u e).stay (λc v _ q=>q) (λc q=>by rw[Jg (J4 q f)];exact q) λc xs q=>by rw[Jg (J4 q f)];exact q
def adopt{n}(I:Inv X pins σ H s)(f:J1 X pins H b)(J:X.s₀.heap.objs.size<=b)(G:s.heap.get? b=some (seqObj "list" us.toArray n))(r:Vals xs us)(C:xs.length<=sizeLine) :
  Inv X pins σ (upd H b<|.lst xs) s:=by
 have B:∀c o,X.s₀.heap.get? c=some o->c≠b:=λc o g z=>by
  have:=Y6 g
  grind
 have j:=f.1;refine⟨I.ok,I.os,I.bare,⟨λc o g i h l=>I.base.keep c o g i h l,λc o g i h l=>I.base.slot c o g i h l,λc o g i h=>?_,I.base.there,λc v g=>?_,λc o u g=>?_,λc y g=>?_⟩,I.loc,I.cell,?_,λx c g=>?_,λp w=>?_,?_,I.len⟩
 ·rw[Jg (B c o g)];exact I.base.free c o g i h
 ·rw[Jg (J4 (I.base.tups c v g) j)];exact I.base.tups c v g
 ·rw[Jg (J4 (I.base.frzs c o u g) j)];exact I.base.frzs c o u g
 ·obtain⟨m,q⟩:=I.base.tbls c y g;exact⟨m,by rw[Jg (J4 q j)];exact q⟩
 ·rw[Jg (Ne.symm f.2.1)];exact I.free
 ·rw[Jg (f.2.2.2.2.1 x c g)];exact I.freeC x c g
 ·obtain⟨a1,a2,a3,a4,a5⟩:=I.pin p w;exact⟨a1,by rw[Jg (f.2.2.2.2.2 p w)];exact a2,a3,a4,a5⟩
 ·exact Zck I.hok j ⟨C,us,n,r,G⟩
def TQ(f:J1 X pins H b)(h:c≠b):J1 X (pins++[(c,o)]) H b:=
 ⟨f.1,f.2.1,f.2.2.1,f.2.2.2.1,f.2.2.2.2.1,λp g=>(Wc.mp g).elim (λz=>f.2.2.2.2.2 p (WI _ z)) λz=>(Wc.mp z).elim (λz=>f.2.2.2.2.2 p (YI _ z)) λz=>by
  rw[Y3.mp z];exact h⟩
def Zcm{b}(f:J1 X pins H b)(h:∀p∈pins',p∈pins):J1 X pins' H b:=
 ⟨f.1,f.2.1,f.2.2.1,f.2.2.2.1,f.2.2.2.2.1,λp g=>f.2.2.2.2.2 p ((Wc.mp g).elim (λz=>WI _ z) λz=>YI _ (h p z))⟩
variable {P:PySem.Fin->Shared->Prop}
def GI{st}(I:Inv X (pins++[(kS,seqObj "list" keys e)]++[(D,seqObj "list" #[] e1)]) σ H s)(n:J1 X pins H kS)(U:J1 X pins H D)(r:kS≠D)(M:IntsAre keys.toList kz)(B:kz.length=vs.length)(Q:vs.length<64)(q:(arrOf st).Perm (keys.zip vs.toArray))(L:Stb.Out kz Value.none vs ((arrOf st).map (·.2)).toList)(u:failedOf st=none)(h:∀h' y f c,Inv X (pins++[(D,seqObj "list" f c)]) σ H {s with heap:=h',toks:=y}->Stb.Out kz Value.none vs f.toList->P (.done<|.ret .none) {s with heap:=h',toks:=y}) :
  wpAny (model X.prog X.w) A (ksk_tail D false e1 (.ref kS) st) P E s:=by
 have G:=(I.pin (kS,seqObj "list" keys e)<|by simp).1;have J:=(I.pin (D,seqObj "list" #[] e1)<|by simp).1
 have j:keys.size=vs.length:=by
  have T:=M.length;rw[We]at T;lia
 have i:(arrOf st).size=vs.length:=by rw[q.size_eq,Array.size_zip,j,YL,V9]
 have l:((arrOf st).map (·.2)).size=vs.length:=by simp only[Array.size_map];exact i
 have z:=Wf s.heap kS (Obj.mapSeq λ_=>(#[]:Z7));have b:=(z.2 D r.symm).trans J;have C:=Wf (s.heap.update kS (Obj.mapSeq λ_=>(#[]:Z7))) D (Obj.mapSeq λ_=>(arrOf st).map (·.2))
 obtain⟨x,v⟩:∃x,((s.heap.update kS (Obj.mapSeq λ_=>(#[]:Z7))).update D (Obj.mapSeq λ_=>(arrOf st).map (·.2))).get? D=some (seqObj "list" ((arrOf st).map (·.2)) x):=
  ⟨_,get?_update_seq b λ_=>(arrOf st).map (·.2)⟩
 have I0:Inv X pins σ H s:=KB I λp q=>by simp[q]
 have I1:Inv X pins σ H {s with heap:=s.heap.update kS (Obj.mapSeq λ_=>(#[]:Z7)),toks:=s.toks}:=I0.turned (λc o N g=>(z.2 c N).trans g) n.1 n.2.1 n.2.2.2.1 n.2.2.2.2.1 n.2.2.2.2.2
 have Y:=Bl (t':=s.toks) I1 U C v K9;unfold ksk_tail
 try dsimp only
 refine Yw (Ql G rfl ?_ (by rw[j,Wx];lia)<|Wp _);refine Yw (wpAny_letGo ?_);refine Yw (seqEpoch_at b rfl ?_);refine Yw (Ql b rfl ?_ (Wp _)<|Y8 (WV l)<|by rw[Wx];lia);rw[u];simp only[bne_self_eq_false,YW,Ws];refine Yz (h _ _ _ x Y ?_);exact L
def Hq(I:Inv X (pins++[(kS,seqObj "list" keys e)]++[(D,seqObj "list" #[] e1)]) σ H s)(B:J1 X pins H kS)(C:J1 X pins H D)(r:kS≠D)(l:IntsAre keys.toList kz)(b:kz.length=vs.length)(n:vs.length<64)(h:∀h' y p c,Inv X (pins++[(D,seqObj "list" p c)]) σ H {s with heap:=h',toks:=y}->Stb.Out kz Value.none vs p.toList->P (.done<|.ret .none) {s with heap:=h',toks:=y}) :
  wpAny (model X.prog X.w) A (ksk_end D false vs.toArray e1 (.ref kS) keys) P E s:=by
 have q:keys.size=vs.length:=by
  have M:=l.length;rw[We]at M;lia
 have f:(keys.zip vs.toArray).size=vs.length:=by rw[Array.size_zip,q,YL,V9]
 unfold ksk_end;simp only[YW,Ws];have rp:(Array.range (keys.zip vs.toArray).size).Perm (Array.range vs.length):=by rw[f]
 have z:∀i,(keys.zip vs.toArray)[i]?=((Array.range (keys.zip vs.toArray).size)[i]?).bind λk=>(keys.zip vs.toArray)[k]?:=λi=>by
  by_cases h:i<(keys.zip vs.toArray).size
  ·have e:(Array.range (keys.zip vs.toArray).size)[i]?=some i:=by
    rw[W7 (Array.range _) i (by simpa using h),Array.getElem_range]
   rw[e];rfl
  ·rw[Vr (Array.range _) i (by simpa using h),Vr _ i h];rfl
 have J:∀i,i<(keys.zip vs.toArray).size->Stb.Pz (Array.range (keys.zip vs.toArray).size) i=i:=λi h=>by
  unfold Stb.Pz;rw[W7 (Array.range _) i (by simpa using h)];simp
 by_cases o:vs.toArray.size<2
 ·rw[Y5 o,Y5 o];refine Yw (Yz ?_)
  try dsimp only
  refine GI I B C r l b n (Array.Perm.refl _) (Stb.Cz l b rp z λi j L U=>?_) rfl h;rw[YL]at o;lia
 ·rw[Y4 o,Y4 o];rw[YL]at o;rw[ksk_kind l (by rw[q];lia)];refine Yw (Yz ?_)
  refine Yw (Wl (Stb.runs
   (Q:=λ_ g=>Stb.Done (keys.zip vs.toArray) g)
   (ksk_intKeys l) ⟨⟨Array.Perm.refl _,rfl,rfl,rfl⟩,Array.Perm.refl _,z,λi Y=>by lia,λi _ h=>J i h⟩ (by rw[f];lia) (by rw[f];exact n) λg a=>a) ?_ λ_ _ e=>e)
  rintro⟨⟨⟩,g⟩ T ⟨rfl,u⟩
  try dsimp only
  obtain⟨N,x,G,v⟩:=u.ex;rw[f]at x v;exact GI I B C r l b n u.perm (Stb.Cz l b x G v) u.failed h
def Rt(I:Inv X (pins++[(kS,seqObj "list" #[] 0)]++[(D,seqObj "list" #[] e1)]) σ H s)(fk:J1 X pins H kS)(fd:J1 X pins H D)(hka:kS≠D)(hlen:kz.length=vs.length)(h64:vs.length<64)
  (turn:∀(i:Nat) v k pins' s',vs[i]?=some v->kz[i]?=some k->(∀p∈pins,p∈pins')->Inv X pins' σ H s'->
   wpAny (model X.prog X.w) A (call f [v]) (λr s''=>(∃t,r=.int k t)/\Inv X pins' σ H s'') (λ_ _=>False) s')
  (h:∀s' out c,Inv X (pins++[(D,seqObj "list" out c)]) σ H s'->Stb.Out kz Value.none vs out.toList->P (.done<|.ret .none) s') :
  wpAny (model X.prog X.w) A (ksk_rest D f false vs.toArray e1<|.ref kS) P E s:=by
 refine Yw (Qf ?_)
 first
  |rw[List.forIn_toArray]
  |(rw[←Array.forIn_toList];simp only[List.toList_toArray])
  |rw[←Array.forIn_toList]
 refine Yw (ksk_fold (λi s'=>∃kA e,Inv X (pins++[(kS,seqObj "list" kA e)]++[(D,seqObj "list" #[] e1)]) σ H s'/\IntsAre kA.toList (kz.take i)) vs 0 s
  ⟨#[],0,I,by simpa using IntsAre.nil⟩ ?step ?done)
 case step=>
  rintro j x s' hx ⟨kA,e,I',hk⟩;simp only[Vq]at hk ⊢;have hj:=(Wm.mp hx).1;obtain⟨k,hkj⟩:∃k,kz[j]?=some k:=⟨_,Yx (by lia)⟩
  have hz:kA.size<=vs.length:=by
   have h1:=hk.length;rw[We,Wg]at h1;lia
  refine Yw (Va (Wl (turn j x k _ s' hx hkj (λp hp=>by simp[hp]) I') (λv s'' he=>?_) λ_ _ hF=>hF.elim));obtain⟨⟨t2,rfl⟩,I2⟩:=he
  try dsimp only
  have nk:=(I2.pin (kS,seqObj "list" kA e)<|by simp).1;have s1:=Wf s''.heap kS (Obj.mapSeq (·.push (.int k t2)));obtain⟨c2,hc2⟩:∃c2,(s''.heap.update kS<|Obj.mapSeq (·.push (.int k t2))).get? kS=some (seqObj "list" (kA.push<|.int k t2) c2):=⟨_,get?_update_seq nk (·.push (.int k t2))⟩;have ek:kz.take (j+1)=kz.take j++[k]:=by rw[List.take_add_one,hkj];simp
  have ea:(kA.push<|Value.int k t2).toList=kA.toList++[Value.int k t2]:=by simp
  refine Yw (Ql nk rfl ?_ (by rw[Wx];lia)<|Y8 (WV (Array.size_push ..))<|by rw[Wx];lia);have I3:Inv X pins σ H s'':=KB I2 λp hp=>by simp[hp]
  have I4:=Bl (t':=s''.toks) I3 fk s1 hc2 K9;refine Yz ⟨rfl,kA.push (.int k t2),c2,X9 I4 (TQ fd hka) ((s1.2 D hka.symm).trans ((I2.pin (D,seqObj "list" #[] e1)<|by simp).1)) K9,by rw[ea,ek];exact ksk_snoc hk⟩
 case done=>
  rintro s' ⟨kA,e,I',hk⟩
  have hk':IntsAre kA.toList kz:=by
   have e3:kz.take (0+vs.length)=kz:=QY (by lia);rw[e3]at hk;exact hk
  try dsimp only
  refine Yw (QE ((I'.pin (kS,seqObj "list" kA e)<|by simp).1) rfl ?_);exact Hq I' fk fd hka hk' hlen h64 λh3 tk3 out c I3 k3=>h _ out c I3 k3
def HG{n}(I:Inv X pins σ H s)(M:J1 X pins H D)(G:s.heap.get? D=some (seqObj "list" vs.toArray n))(u:kz.length=vs.length)(J:vs.length<64)
  (turn:∀(i:Nat) v k pins' j,vs[i]?=some v->kz[i]?=some k->(∀p∈pins,p∈pins')->Inv X pins' σ H j->
   wpAny (model X.prog X.w) A (call f [v]) (λr B=>(∃t,r=.int k t)/\Inv X pins' σ H B) (λ_ _=>False) j)
  (h:∀j l c,Inv X (pins++[(D,seqObj "list" l c)]) σ H j->Stb.Out kz Value.none vs l.toList->P (.done<|.ret .none) j) :
  wpAny (model X.prog X.w) A (ksk_tree D f false) P E s:=by
 obtain⟨e1,q⟩:∃e1,(s.heap.update D (Obj.mapSeq λ_=>(#[]:Z7))).get? D=some (seqObj "list" #[] e1):=⟨_,get?_update_seq G λ_=>#[]⟩;refine Yw (QE G rfl ?_);refine Yw (Ql G rfl ?_ (by rw[YL,Wx];lia)<|Wp _);refine Yw (seqEpoch_at q rfl ?_);refine Yw (wpAny_newTuple ?_<|by show vs.length<=_;rw[Wx];lia);refine Yw (Vb ?_<|Wp _);refine W8 ?_;have N:=(Bl (t':=s.toks) I M (Wf s.heap D (Obj.mapSeq λ_=>(#[]:Z7))) q K9).kept (h':=(s.heap.update D (Obj.mapSeq λ_=>(#[]:Z7))).push (seqObj "tuple" vs.toArray 0)) (t':=s.toks) λb o g=>Y0 _ g;generalize U:(s.heap.update D (Obj.mapSeq λ_=>(#[]:Z7))).push (seqObj "tuple" vs.toArray 0)=L at *;have Q:=N.fpOk (Y1 _) (N.hok.fresh<|Y1 _);have x:L.objs.size≠D:=λz=>Q.2.2.2.2.2 (D,seqObj "list" #[] e1) (by simp) z.symm;have y:J1 X pins H L.objs.size:=Zcm Q λp C=>by simp[C]
 have T:=N.kept (h':=L.push (seqObj "list" #[] 0)) (t':=s.toks) λb o g=>Y0 _ g;exact Rt (X9 (X9 (KB T λp C=>by simp[C]) y (Y7 _ rfl) K9) (TQ M x) (T.pin (D,seqObj "list" #[] e1)<|by simp).1 K9) y M x u J turn h
end
theorem Bg(r:Vals xs vs):∀{b:Z0},(∀i∈b,i<vs.length)->Vals (b.map λi=>xs.getD i V.non) (b.map λi=>vs.getD i Value.none)
 |[],_=>.nil
 |i::b,h=>by
  have f:i<xs.length:=by rw[r.length];exact(h i<|by simp)
  obtain⟨u,l,g⟩:=r.get (Yx f);refine .cons ?_ (Bg r λj n=>h j (by grind))
  grind
def Le{q:L2.St}{H}{s}{Q}{E}{f l}{xs}{vs}{kz}(I:Inv X pins q H s)(hl:PlainL s.heap l vs.toArray)(r:Vals xs vs)(u:kz.length=xs.length)(M:xs.length<64)
  (turn:∀(i:Nat) v k pins' j,vs[i]?=some v->kz[i]?=some k->(∀p∈pins,p∈pins')->Inv X pins' q H j->
   wpAny (model X.prog X.w) X.A.in1.in1 (call (.ref f) [v]) (λr B=>(∃t,r=.int k t)/\Inv X pins' q H B) (λ_ _=>False) j)
  (h:∀D ys j,H D=none->Inv X pins q (upd H D<|.lst ys) j->Stb.Out kz V.non xs ys->Q (.ref D) j) :
  wpAny (model X.prog X.w) X.A (call (.builtin "sorted") [.ref l] [(Str.ofString "key",.ref f)]) Q E s:=by
 have x:vs.length<64:=by rw[←r.length];exact M
 refine call_function_entry_kw kind_sorted plain_sorted entry_sorted (ksk_s1 _ _) ?_;unfold Builtin.«sorted»;refine Yw (Yz ?_);refine Yw (collect_list (let ⟨o,n,e1,e2,_,e3⟩:=hl;⟨o,e1,e2,n,e3⟩) ?_<|by rw[Wx];lia);refine Yw (Vb ?_<|by rw[Wx];lia);show wpAny _ _ _ _ _ {s with heap:=(JL s.heap vs).push (seqObj "list" vs.toArray 0)}
 have k1:∀b o,s.heap.get? b=some o->(JL s.heap vs).get? b=some o:=λb o g=>Fm g;have y:Inv X pins q H {s with heap:=JL s.heap vs,toks:=s.toks}:=I.kept k1
 have N:=y.fpOk (Y1 _) (y.hok.fresh<|Y1 _);have hb:=y.sz;have I2:Inv X pins q H {s with heap:=(JL s.heap vs).push (seqObj "list" vs.toArray 0),toks:=s.toks}:=y.kept λb o g=>Y0 _ g
 have U:((JL s.heap vs).push (seqObj "list" vs.toArray 0)).get? (JL s.heap vs).objs.size=some (seqObj "list" vs.toArray 0):=Y7 _ rfl;show wpAny _ _ (do let _ ←holding _ (call (.builtin "list.sort") [.ref (JL s.heap vs).objs.size] _);_) _ _ _
 generalize eD:(JL s.heap vs).objs.size=D at *;refine Yw (W8<|wpAny_call_entry_kw slot_list_sort ⟨_,U,rfl⟩ entry_list_sort ?body<|ksk_l1 _ _);show wpAny _ _ (Builtin.«list.sort» ⟨[.ref D],[(Str.ofString "key",.ref f)]⟩) _ _ _;rw[ksk_t1];refine HG I2 N U (by rw[u,r.length]) x turn λj C c Y k'=>⟨_,rfl,?_⟩;obtain⟨is,G,T,J⟩:=k'.rel V.non r.length;have hD:=(Y.pin (D,seqObj "list" C c)<|by simp).1;have I3:Inv X pins q H j:=KB Y λp hp=>by simp[hp]
 have L:(is.map λi=>xs.getD i V.non).length<=sizeLine:=by
  rw[T.length,Wx];lia
 have I4:=adopt I3 N hb (by rw[Array.toArray_toList];exact hD) (by rw[G];exact Bg r J) L;have z:=h D _ j N.1 I4 T;rw[←eD]at z;exact Yz ⟨_,rfl,z⟩
open PySem.W
structure KG (X:Cx) (c P:Addr):Prop where
 code:X.env.code=.ref c
 hd:CodeHd X.base c P
 gne:mainGlobals≠P
 blt:X.base.BuiltinsAt X.mg P
 ex:P∈X.ex
noncomputable abbrev Xb(P:Addr):Addr×Obj:=(P,tabObj #[])
noncomputable def K5(X:Cx)(N':Z2)(qual:Str)(h:Scope)(j:Z8)(f:Addr)(i:Value)(A:Around)(b:Shared)(g:Hp):Cx:=
 {X with A:=A.deeper (envX qual h b.heap.objs.size f i j),N:=N',s₀:=b,H₀:=g,env:=envX qual h b.heap.objs.size f i j,outer:=X.stack,stack:=envX qual h b.heap.objs.size f i j::X.stack,ex:=[],fn:=λ_=>false,pn:=[],xe:=λ_ _=>False}
structure Kq (X:Cx) (N':Z2) (φ:Zz) (sc:Scope) (x:Str):Prop where
 kind:sc.kind=.function
 co:sc.isCoroutine=false
 gen:sc.isGenerator=false
 nocell:∀y∈sc.names,y.2≠.cell
 par:sc.names.lookup x=some .local
 first:N'[0]?=some x
 frees:∀y∈sc.names,y.2=.free->X.env.scope.names.lookup y.1=some .cell
 len:φ.length=N'.length
 pick:∀(i:Nat) (y:Str) (j:Nat),N'[i]?=some y->φ[i]?=some (some j)->X.N[j]?=some y/\sc.names.lookup y=some .free
noncomputable def Dc(b f:Scope)(N N':Z2)(φ:Zz)(x:Str):Bool:=
 b.kind == .function && !b.isCoroutine && !b.isGenerator&&b.names.lookup x==some .local&&N'[0]? == some x&&(b.names.all λy=>y.2 != .cell&&(y.2 != .free || f.names.lookup y.1==some .cell)) &&
  φ.length==N'.length&&((N'.zip φ).all λp=>match p.2 with|none=>true|some j=>N[j]? == some p.1&&b.names.lookup p.1==some .free)
def Kq.of {N'}{φ b x} (h:Dc b X.env.scope X.N N' φ x=true):Kq X N' φ b x:=by
 unfold Dc at h;simp only[YU,beq_iff_eq,WS,Bool.or_eq_true,bne_iff_ne,ne_eq,V6]at h;obtain⟨⟨⟨⟨⟨⟨⟨w,v⟩,u⟩,s⟩,r⟩,q⟩,p⟩,o⟩:=h;refine⟨w,v,u,λy f=>(q y f).1,s,r,λy f z=>?_,p,λi y j n l=>?_⟩
 ·grind
 ·have g:(N'.zip φ)[i]?=some (y,some j):=by rw[List.getElem?_zip_eq_some];exact⟨n,l⟩
  have:=o _ (Wj g)
  grind
section
variable {X:Cx}{pins:Zw}{σ:L2.St}{H:Hp}{A:Around}{E:Zy}{s:Shared}{N':Z2}{φ:Zz}{sc:Scope}{x qual:Str}{cl:Z8}{f c':Addr}{body:Expr}{te:TE}{params:Arguments}{pm ctv:Value}{oc:Obj}
noncomputable def X8(φ:Zz)(σ:L2.St)(v:V):L2.St:=(atStart φ σ).set 0 (some v)
def Ou(I:Inv X pins σ H s)(S:Kq X N' φ sc x)(L:A.depth<recursionLimit)(hh:A.handled=none)(C:A.frames=some X.stack)(Y:∀y c,cl.lookup y=some c->X.env.cells.lookup y=some c)(p3:∀y∈sc.names,y.2=.free->∃c,cl.lookup y.1=some c)(hf:(f,kla_obj "<lambda>" qual params body sc cl pm c' ctv)∈pins)(hc:(c',oc)∈pins)(hoc:∃vs t,oc.data=.fields vs/\vs[1]?=some (.str qual t))(N:bindArgs (kla_fn "<lambda>" qual params body sc cl pm (.ref c') ctv) ⟨[v],[]⟩=pure [(x,v)])(hin:∀U H₃,PE (K5 X N' qual sc cl f (.ref c') A U H₃) body te)(r:RelV x1 v)(h:te (X8 φ σ x1) H λy H'=>H'=H/\y=.int k) :
  wpAny (model X.prog X.w) A (call (.ref f) [v]) (λr s''=>(∃t,r=.int k t)/\Inv X pins σ H s'') (λ_ _=>False) s:=by
 obtain⟨vs,t,hd,hq⟩:=hoc;refine wpAny_call (kla_callFunE L (I.pin _<|YI _ hf).1 rfl S.co S.gen rfl ⟨c',oc,vs,t,rfl,(I.pin _<|YI _ hc).1,hd,hq⟩ ?_);rw[N];refine Yz (wpAny_newFunctionEnv S.nocell (by intro y B;rw[Y3.mp B];exact S.par) (λh₁ hns hsb=>?_) S.kind);have l:=λb o g=>hsb.extBut b o (YJ<|Y6 g) (Y0 _ g);refine⟨I.nolimit.keeps l,?_⟩;have G:∀b,b∉(K5 X N' qual sc cl f (.ref c') A s H).ex:=λb z=>absurd (show b∈([]:List Addr)from z) (by simp)
 have OK:(K5 X N' qual sc cl f (.ref c') A s H).Ok:=by
  refine⟨I.ok.mod,S.kind,rfl,rfl,Y1 _,λy z c T q=>I.ok.inj y z c (Y y c T) (Y z c q),λy B=>?_,(λy c hx=>by cases hx),λ_=>hh,Around.frames_deeper C,.inr ⟨rfl,rfl⟩,λb z=>absurd z (G b),I.bs,Y8 I.ok.bsz I.sz,λb _ _=>G b,λb z=>absurd z (G b),I.stack,I.stkFree⟩;have B:=B;rcases B with B|B
  ·exact absurd rfl (S.nocell _<|Wt B)
  ·exact p3 _ (Wt B) rfl
 have M:(X8 φ σ x1).length=N'.length:=by unfold X8;rw[Qa];unfold atStart;rw[Yy];exact S.len
 have J:Inv (K5 X N' qual sc cl f (.ref c') A s H) [] (X8 φ σ x1) H {s with heap:=h₁,toks:=s.toks+([(x,v)]:List (Str×Value)).length}:=by
  refine⟨OK,rfl,I.bare,Un.kept l,⟨_,hns,λi y w T q h3=>?_⟩,λy c hx=>?_,(I.hok.fresh<|Y1 _),λy c hx=>I.freeC y c (Y y c hx),λp hp=>?_,I.hok.kept l,M⟩
  ·have T:N'[i]?=some y:=T;unfold X8 at q;by_cases hi:i=0
   ·subst hi;rw[S.first]at T
    cases T
    have e0:w=x1:=by
     rw[List.getElem?_set]at q;rw[Y5 rfl]at q;split at q
     ·cases q;rfl
     ·cases q
    subst e0;exact⟨v,r,.inl ⟨S.par,by simp⟩⟩
   ·rw[Vj (λz=>hi z.symm)]at q;obtain⟨j,hj,hv⟩:=BB q;obtain⟨hN,C⟩:=S.pick i y j T hj;obtain⟨m,_,hl⟩:=I.loc;have hm:=Wt C;have n:=S.frees _ hm rfl;obtain⟨u,ru,lk⟩:=hl j y w hN hv (.inr<|.inl n);refine⟨u,ru,.inr ⟨.inr C,?_⟩⟩;obtain⟨c,hc⟩:=p3 _ hm rfl;rcases lk with⟨hk,_⟩|⟨_,c1,hc1,hcl1⟩
    ·have hk':X.env.scope.names.lookup y=some .local:=hk;rw[n]at hk';cases hk'
    ·have e:=Y _ _ hc;rw[hc1]at e;cases e
     obtain⟨o,ho,hd⟩:=hcl1;exact⟨_,hc,o,l _ o ho,hd⟩
  ·obtain⟨w,o,ho,hd⟩:=I.cell y c (Y y c hx);exact⟨w,o,l _ o ho,hd⟩
  ·exact absurd hp (by simp[K5])
 refine kla_codeExpr (Wl (hin s H [] _ _ _ _ J h) (λu s' hq=>?_) λ_ _ z=>z.elim);obtain⟨y,H',J',ry,eH,ey⟩:=hq;subst eH;subst ey;obtain⟨y,H2,I2,ry2,eH2,ey2⟩:=(I.after (Q:=λy H1=>H1=H'/\y=.int k) ⟨.int k,_,J'.os,J'.bare,J'.base,J'.hok,ry,rfl,rfl⟩);subst eH2;subst ey2;exact⟨ry2,I2⟩
def Zc0{Q}(I:Inv X (Xb P::pins) σ H s)(T:KG X c P)(L:∀p∈X.pn++pins,p.1≠P)(S:Kq X N' φ sc x)(n:defaultsOf params X.env=([],[]))
  (h:∀f c' (oc:Obj) cl pm ctv ps J,Inv X (pins++[(P,tabObj ps)]++[(c',oc)]++[(f,kla_obj "<lambda>" (X.env.qual++"<lambda>") params body sc cl pm c' ctv)]) σ H J->
   (∃vs t,oc.data=.fields vs/\vs[1]?=some (.str (X.env.qual++"<lambda>") t))->(∀y c,cl.lookup y=some c->X.env.cells.lookup y=some c)->(∀y∈sc.names,y.2=.free->∃c,cl.lookup y.1=some c)->Q (.ref f) J) :
  wpAny (model X.prog X.w) A (eval (.Lambda params body sc pos) X.env) Q E s:=by
 obtain⟨cl,B,Y,U⟩:=Gj λx hx hf=>I.ok.has x.1 (.inl<|S.frees x hx hf);obtain⟨bm,ob,b1,b2,b3,b4,b5,b6⟩:=T.blt;have i:=I.pin (Xb P) (by simp);have C:Inv X pins σ H s:=KB I λp hp=>by simp[hp]
 refine kla_eval n (kla_makeFunction B I.ok.glob (I.mod.glob.keeps I.bk) T.code (T.hd.keeps I.bk) i.1 True.intro rfl T.gne ⟨bm,ob,b1,b2,b3,b4,I.bk _ _ b5,b6⟩ λc' ctv h' G hx j v l r=>?_);have q:Inv X pins σ H {s with heap:=h',toks:=G}:=C.turned (λb o hb g=>hx b o hb g) i.2.1 i.2.2.1 (.inl T.ex) (I.ok.exf P T.ex).2 L
 have fP:J1 X pins H P:=⟨i.2.1,i.2.2.1,i.2.2.2.1,.inl T.ex,(I.ok.exf P T.ex).2,L⟩;have q:=X9 q fP r λw z=>by cases z
 have fc:J1 X (pins++[(P,tabObj (#[]++#[rawInt pos.line,rawInt pos.col,.ref c']))]) H c':=TQ (C.fpOk j<|C.hok.fresh j) (YJ<|YM (Y6 i.1) j);obtain⟨N,oc,vs,t,e2,u,M,hv⟩:=l;cases e2
 exact h _ c' oc cl _ ctv _ _ (X9 (X9 (q.kept (h':=h'.push (kla_obj "<lambda>" (X.env.qual++"<lambda>") params body sc cl ((X.mg "__name__").getD .none) c' ctv)) (t':=G) λb o g=>Y0 _ g) fc (Y0 _ u) λw z=>by rw[M]at z;cases z) (TQ (q.fpOk (Y1 _)<|q.hok.fresh<|Y1 _)<|YJ v) (Y7 _ rfl) λw z=>by cases z) ⟨vs,t,M,hv⟩ Y U
end
def PEl(X:Cx)(P:Addr)(e:Expr)(t:TE):Prop:=
 ∀(pins:Zw) (s:Shared) (b:L2.St) (H:Hp) (Q:VK),(∀p∈X.pn++pins,p.1≠P)->Inv X (Xb P::pins) b H s->t b H Q->wpAny (model X.prog X.w) X.A (eval e X.env) (λu f=>∃g,EP X ((P,tabObj g)::pins) b Q u f) X.xe s
def PSl(X:Cx)(P:Addr)(st:Stmt)(t:TS):Prop:=
 ∀(pins:Zw) (s:Shared) (b:L2.St) (H:Hp) (D:Ends),(∀p∈X.pn++pins,p.1≠P)->Inv X (Xb P::pins) b H s->t D b H->wpAny (model X.prog X.w) X.A (exec st X.env) (λf g=>∃h,SP X ((P,tabObj h)::pins) D f g) X.xe s
def UH(X:Cx)(P:Addr)(st:Z4)(t:TS):Prop:=
 ∀(pins:Zw) (s:Shared) (b:L2.St) (H:Hp) (D:Ends),(∀p∈X.pn++pins,p.1≠P)->Inv X (Xb P::pins) b H s->t D b H->wpAny (model X.prog X.w) X.A (execs st X.env) (λf g=>∃h,SP X ((P,tabObj h)::pins) D f g) X.xe s
noncomputable def DQ(K:Zt)(φ:Zz)(te:TE)(t:TA):TE:=λh H Q=>t h H λn f=>∃(l:Addr) (b:List V) (g:Zv),n=[.ref l]/\SqL K f l b/\b.length<64/\g.length=b.length/\
 (∀(i:Nat) u k,b[i]?=some u->g[i]?=some k->te (X8 φ h u) f λy o=>o=f/\y=.int k)/\
 ∀(D:Addr) (j:List V),f D=none->Stb.Out g V.non b j->Q (.ref D) (upd f D<|.lst j)
section
variable {X:Cx}{P c:Addr}{N':Z2}{φ:Zz}{sc:Scope}{x:Str}{params:Arguments}{body e a b:Expr}{es:Z3}{te t ta tb:TE}{tl tr:TA}{u:TS}{pos p1 lpos kpos:Pos}{k:Nat}{st:Stmt}{rest:Z4}{v w:TS}
def LM(T:KG X c P)(hr:Jl k X.A)(S:Kq X N' φ sc x)(hg:Gl X "sorted")(hm:X.mg "sorted"=none)(ha:PA X [a] tl)(q:∀qual C pm c' ctv v,bindArgs (kla_fn "<lambda>" qual params body sc C pm (.ref c') ctv) ⟨[v],[]⟩=pure [(x,v)])(U:∀qual C f cv A g j,PE (K5 X N' qual sc C f cv A g j) body te)(B:autoParam (defaultsOf params X.env=([],[])) au_0)(he:autoParam (starEach [a] X.env=[(false,eval a X.env)]) au_0) :
  PEl X P (.Call (.Name "sorted" p1) [a] [⟨some "key",.Lambda params body sc lpos,kpos⟩] pos) (DQ X.K φ te tl):=by
 intro pins s σ H Q ne I h;refine Q7 (X3 I hg hm Qq ?_ (by decide)<|by decide);refine callWith_kw (thn (ha pos (Xb P::pins) s σ H _ I h) ?_) (by show backTo pos (starEach [a] X.env)=_;rw[he];rfl) (by rw[he];rfl);rintro us s1 ⟨vs,H1,I1,r1,J⟩;obtain⟨l,xs,kz,rfl,hl,Y,r,turn,fin⟩:=J;obtain⟨u1,rfl,G⟩:=r1.one;obtain rfl:=G;unfold evalAll;refine Yw (Yw (Zc0 I1 T ne S B λf c' oc C pm ctv pt s2 I2 N J q3=>?_));refine Yw (wpAny_standAt<|Yz<|Yw<|W8<|Yz<|Yz ?_);obtain⟨its2,o,L,_⟩:=I2.list hl;refine Le I2 L o r Y (λi v1 kk pins' s' hv hk n E=>?_) λD ys s' hD E h1=>?_
 ·obtain⟨y,hy,ry⟩:=(show ∃y,xs[i]?=some y/\RelV y v1 from by
   have z:i<xs.length:=by rw[o.length];exact((Wm.mp hv).1)
   obtain⟨u,hu,G⟩:=o.get (Yx z);rw[hv]at hu;cases hu
   exact⟨_,Yx z,G⟩)
  have hd:=hr.dp;exact Ou (pm:=pm) (ctv:=ctv) (c':=c') E S (by show X.A.depth<_;lia) hr.hd E.ok.frames J q3 (n _<|by simp) (n _<|by simp) N (q _ _ _ _ _ _) (λg j=>U _ _ _ _ _ g j) ry (turn i y kk hy hk)
 ·exact⟨pt,.ref D,_,KB E λp M=>by
   rcases YA.mp M with rfl|M
   ·simp
   ·simp[M],rfl,fin D ys hD h1⟩
end
section
variable {X:Cx}{P c:Addr}{pins pins':Zw}{e a b:Expr}{es:Z3}{te t ta tb:TE}{tc:TT}{u:TS}{pos:Pos}{st:Stmt}{ss rest:Z4}{v w:TS}{D:Ends}
def Zcz(h:PSs X ss u):UH X P ss u:=λpins s f H D _ I q=>thn (h _ s f H D I q) λ_ _ z=>⟨#[],z⟩
def TC(o:PS X st v)(n:UH X P rest u):UH X P (st::rest) (N9 v u):=by
 intro pins s i H D l I h;refine Qj (thn (o _ s i H {D with nx:=u D} I h) λf j q=>?_)
 cases f with
 |next=>
  obtain⟨g,r,p,q⟩:=q;exact n pins j g r D l p q
 |_=>exact⟨#[],q⟩
def IG(p:PSl X P st v)(o:PSs X rest u):UH X P (st::rest) (BM v u):=by
 intro pins s i H D n I h;obtain⟨J,h,k⟩:=h;refine Qj (thn (p pins s i H {D with nx:=J} n I h) λf j ⟨l,q⟩=>?_)
 cases f with
 |next=>
  obtain⟨g,x,r,q⟩:=q;exact thn (o _ j g x D r<|k _ _ q) λ_ _ z=>⟨l,z⟩
 |_=>trivial
def Zci(l:PSl X P st v):UH X P [st] v:=by
 intro pins s i H D j I h;refine Qj (thn (l pins s i H D j I h) ?_);rintro f n ⟨g,q⟩;cases f with
 |next=>exact Q2 ⟨g,q⟩
 |_=>exact⟨g,q⟩
def Zab{c a b}(o:PT X c tc)(q:UH X P a v)(p:UH X P b w):PSl X P (.If c a b pos) (Su tc v w):=by
 intro pins s f H D j I h;refine wpAny_If (thn (o _ s f H _ I h) ?_);rintro d g ⟨n,l,i⟩;cases d with
 |true=>exact q pins g f n D j l i
 |false=>exact p pins g f n D j l i
def IL{pos'}(i:Nat)(z:X.N.Nodup)(r:PEl X P e te)(p:autoParam (X.N[i]?=some x) au_0)(hx:autoParam (Loc X.env.scope x) au_6)(o:autoParam (swapsWith e (some<|.Name x pos') pos.line X.env=pure false) au_0)(q:autoParam (X.fn x=true\/X.env.scope.names.lookup x=some .local) au_2) :
  PSl X P (.Assign [.Name x pos'] e pos) (KD te<|Xw i):=by
 intro pins s f H D n I h;refine wpAny_Assign_Name (thn (r pins s f H _ n I h) λv G ⟨l,y,C,B,g,j⟩=>?_) o;exact XM B z p hx g (λE A=>⟨l,_,C,A,j⟩) q
end
def LawT(P:Program)(w:World)(K:Frag)(j:Zx)(base:Heap)(k:Nat)(f:Addr)(l:FuncData)(x:Str)(sp:Sp)(g:Addr):Prop:=
 ∀(A:Around) (s:Shared) (H:Hp) (args:Args) (u:Value) (v:V) (Q:VK),Jl k A->Ke P w K j base A [] s H->s.heap.get? g=some (tabObj #[])->H g=none->base.get? g=none->BindsTo s l args [(x,u)]->RelV v u->sp [v] H Q (λ_ _ _=>False)->
  codeAny (model P w) A (.call (.ref f) args) (λr b=>∃u v h i,r=.ok (.ret u)/\b.os=s.os/\AllBare b.gens/\Un [] [g] H h s.heap b.heap/\HOk P w h b.heap/\RelV v u/\Q v h/\b.heap.get? g=some (tabObj i)) s
noncomputable abbrev UX(P:Program)(w:World)(K:Frag)(b:Zx)(base:Heap)(N:Z2)(qual:Str)(scope:Scope)(f:Addr)(cd:Value)(A:Around)(s:Shared)(H:Hp)(g:Addr):Cx:=
 { (JG CX0 P w K b base N qual scope f cd A [] s H (λ_ _ _=>False)).nox with ex:=[g]}
section
variable {P:Program}{w:World}{K:Frag}{mg:Zx}{base:Heap}{N ps:Z2}{qual x:Str}{scope:Scope}{f:Addr}{cd:Value}{A:Around}{s s1:Shared}{H:Hp}{us:Z1}{vs:List V}{Pl c:Addr}
def Zat(S:Jd N ps scope)(B:A.handled=none)(J:Ke P w K mg base A [] s H)(n:vs.length=ps.length)(r:Vals vs us)(j:s.heap.get? Pl=some (tabObj #[]))(G:H Pl=none)(C:base.get? Pl=none)(y:InCallC s s.heap.objs.size (bindL (envOfC qual scope s.heap.objs.size f cd).kindOf (ps.zip us) λ_=>none) (cellsFrom (s.heap.objs.size+1) scope.names []) (bindC (envOfC qual scope s.heap.objs.size f cd).kindOf (ps.zip us) λ_=>none) s1) :
  Inv (UX P w K mg base N qual scope f cd A s H Pl) [Xb Pl] (start N vs) H s1:=by
 have I:=(Fq (CX:=CX0) (E:=λ_ _ _=>False) S B J n r y).wish λ_ _=>False;obtain⟨M,L,rfl,u⟩:=y.done;have g:=Y6 j;have o:=I.ok;have nofs:∀b,b∉(UX P w K mg base N qual scope f cd A s H Pl).fs:=λb z=>absurd (show b∈([]:List Addr)from z) (by simp)
 have i:=λ{b} z=>Y3.mp (show b∈[Pl]from z)
 have cne:∀x c,(envOfC qual scope s.heap.objs.size f cd).cells.lookup x=some c->c≠Pl:=λx c h z=>by
  have:=y.above x c (Wt h)
  grind
 refine⟨⟨o.mod,o.kind,o.glob,o.blt,o.above,o.inj,o.has,o.cab,o.hd,o.frames,o.stk,λb z=>?_,o.bs,o.bsz,λb q hq z=>?_,λb z=>nofs b,o.funs,o.frf⟩,I.os,I.bare,?_,I.loc,I.cell,I.free,I.freeC,λp l=>?_,I.hok,I.len⟩
 ·rw[i z];exact⟨YJ g,cne⟩
 ·rw[i z]at hq;have hq:base.get? Pl=some q:=hq;rw[C]at hq;cases hq
 ·exact I.base.mono (λ_ z=>z) λb z=>absurd (show b∈([]:List Addr)from z) (by simp)
 ·have e:p=Xb Pl:=by
   have:p∈([]++[Xb Pl]:Zw):=l
   simpa using this
  subst e;exact⟨u _ _ j,G,YJ g,nofs _,λv z=>by cases z⟩
def B4{dV kV B pm ct oc an od E k sp}(lk:K.lookup f=some ⟨oc,od,.func (PySem.W.fnOf name qual params body scope dV kV B pm an cd ct),E⟩)(U:PySem.W.codeIn K cd qual=true)(S:Jd N [x] scope)(hc:cd=.ref c)(hC:CodeHd base c Pl)(hB:base.BuiltinsAt mg Pl)(M:mainGlobals≠Pl)
  (n:∀A s H v Q,Jl k (A.deeper<|envOfC qual scope s.heap.objs.size f cd)->KG (UX P w K mg base N qual scope f cd A s H Pl) c Pl->sp [v] H Q (λ_ _ _=>False)->
   ∃t,UH (UX P w K mg base N qual scope f cd A s H Pl) Pl body t/\t {nx:=λ_ g=>Q .non g,rt:=Q} (start N [v]) H) :
  LawT P w K mg base (k+1) f (PySem.W.fnOf name qual params body scope dV kV B pm an cd ct) x sp Pl:=by
 intro A s H args u v Q L z hT hH hb Y r G;have KX:=z.mod.kin.keeps λb o e=>(z.bs b o e).1
 have l:∀y∈[(x,u)],scope.names.lookup y.1=some .local\/(scope.names.lookup y.1=some .cell/\((cellsFrom (s.heap.objs.size+1) scope.names []).lookup y.1).isSome=true):=λy hy=>by
  rw[Y3.mp hy];rcases S.par x (by simp)with q|q
  ·exact .inl q
  ·exact .inr ⟨q,QV _ _ _ (.inl q)⟩
 refine codeAny_call_function L.depth (KX _ _ lk) rfl S.co S.gen rfl (PySem.W.codeRec_of KX U) (Y _ _ _ _ ?_);refine wpAny_newFunctionEnv_cells S.kind l λenv he s1 y=>?_;subst he;refine⟨(z.mod.nolimit.keeps λb o e=>(z.bs b o e).1).keeps y.toInCall.keep,codeAny_func ?_⟩;have T:KG (UX P w K mg base N qual scope f cd A s H Pl) c Pl:=⟨hc,hC,M,hB,Y3.mpr rfl⟩;obtain⟨t,ht,hq⟩:=n A s H v Q (L.deeper _) T G;have I:=Zat S L.hd z rfl (.cons r .nil) hT hH hb y;refine Wl (ht [] s1 (start N [v]) H _ (λp hp=>by simp[UX,JG]at hp) I hq) (λfl i j=>?_) λe i j=>False.elim j
 have fin:∀{h:L2.St} {g:Hp} {v:V} {u:Value} {pt:Z7},Inv (UX P w K mg base N qual scope f cd A s H Pl) [(Pl,tabObj pt)] h g i->RelV v u->Q v g->
   ∃u' v g ps,(Except.ok (Flow.ret u):Result)=.ok (.ret u')/\i.os=s.os/\AllBare i.gens/\Un [] [Pl] H g s.heap i.heap/\HOk P w g i.heap/\RelV v u'/\Q v g/\i.heap.get? Pl=some (tabObj ps):=
  λ{h g v u pt} J C q=>⟨u,v,g,pt,rfl,J.os,J.bare,J.base,J.hok,C,q,(J.pin (Pl,tabObj pt)<|by simp).1⟩
 obtain⟨pt,j⟩:=j;cases fl with
 |ret u=>
  obtain⟨v,h,g,J,C,q⟩:=j;exact fin J C q
 |next=>
  obtain⟨h,g,J,q⟩:=j;exact fin (v:=V.non) J rfl q
 |_=>
  obtain⟨_,_,_,q⟩:=j;exact False.elim q
end
def Zaz{K A mb k fa a g c fd x sp f vs ns}(KX:K.In f.heap)(p:f.heap.Ns mainGlobals A)(j:f.heap.Ns builtinsNs mb)(hbb:∀x:Str,x≠"__name__"->mb x=bootBuiltins x)(N:f.heap.NoLimit)(hg:f.gens=#[])(hbm:∃G ob,A "__builtins__"=some (.ref G)/\G≠builtinsNs/\f.heap.get? G=some ob/\ob.cls=.type "module"/\ob.dict=some builtinsNs/\ob.data=.plain)(T:f.heap.get? g=some (tabObj #[]))(hKP:K.lookup g=none)(hC:codeHdIn K c g=true)(E:f.heap.get? a=some {cls:=.type "list",data:=.seq vs.toArray})(hi:IntsAre vs ns)(hl:ns.length<=sizeLine)(hr:Jl k callerA)(F:∀base,K.In base->base.Ns mainGlobals A->CodeHd base c g->base.BuiltinsAt A g->mainGlobals≠g->LawT P w K A base k fa fd x sp g)(B:∀s u,BindsTo s fd ⟨[u],[]⟩ [(x,u)])(hsp:∀H,Bq H->SqL K H a (ns.map V.int)->sp [.ref a] H (λv _=>v=.bl true) λ_ _ _=>False) :
  codeAny (model P w) callerA (.call (.ref fa) ⟨[.ref a],[]⟩) (λr y=>r=.ok (.ret<|.bool true)/\OldK f.heap y.heap/\y.os=f.os/\AllBare y.gens) f:=by
 have rv:=TJ hi;have lenV:=hi.length;have haP:a≠g:=λz=>by rw[z,T]at E;cases E
 obtain⟨G,ob,b1,b2,b3,b4,b5,Y⟩:=hbm
 have core:∀H,Bq H->SqL K H a (ns.map V.int)->HOk P w H f.heap->(∀b,H b≠none->b=a)->(H a≠none->K.lookup a=none)->
   codeAny (model P w) callerA (.call (.ref fa) ⟨[.ref a],[]⟩) (λr y=>r=.ok (.ret<|.bool true)/\OldK f.heap y.heap/\y.os=f.os/\AllBare y.gens) f:=by
  intro H hO hS M hA hK
  have hHP:H g=none:=by
   cases q:H g with
   |none=>rfl
   |some u=>exact absurd (hA g<|by rw[q];simp) haP.symm
  have Q:∀{b:Addr},b≠g->H b=none->upd H g (.tbl #[]) b=none:=λ{b} n e=>by rw[Jg n];exact e
  have base_of:∀{b:Addr} {o:Obj},f.heap.get? b=some o->b≠g->H b=none->(U1 f.heap<|upd H g (.tbl #[])).get? b=some o:=λe n q=>GY e (Q n q)
  have notA:∀{b:Addr} {o:Obj},f.heap.get? b=some o->(∀e n,o.data≠.seq e n)->H b=none:=λ{b o} e d=>by
   cases q:H b with
   |none=>rfl
   |some u=>
    have e':=hA b (by rw[q];simp);subst e';rw[E]at e;cases e;exact absurd rfl (d _ _)
  have notP:∀{b:Addr} {o:Obj},f.heap.get? b=some o->(∀e,o.data≠.fields e)->b≠g:=λ{b o} e d z=>by
   rw[z,T]at e;cases e;exact absurd rfl (d _)
  have l:∀{b:Addr} {m:Zx},f.heap.Ns b m->(U1 f.heap<|upd H g (.tbl #[])).Ns b m:=λ{b m} ⟨o,es,ep,e,d,r⟩=>
   ⟨o,es,ep,base_of e (notP e λ_ z=>by rw[d]at z;cases z) (notA e λ_ _ z=>by rw[d]at z;cases z),d,r⟩
  have C:=λb o e=>base_of (KX b o e) (λz=>by rw[z,hKP]at e;cases e) (by
   cases q:H b with
   |none=>rfl
   |some u=>
    have e':=hA b (by rw[q];simp);subst e';rw[hK (by rw[q];simp)]at e;cases e)
  have hM:Mod K A (U1 f.heap<|upd H g (.tbl #[])):=⟨C,l p,⟨mb,l j,hbb⟩,let ⟨mc,h1,h2⟩:=N;⟨mc,l h1,h2⟩⟩
  have bP:∀{b:Addr} {o:Obj},(U1 f.heap<|upd H g (.tbl #[])).get? b=some o->b≠g:=λ{b o} e z=>by
   have:=(SL e).2
   rw[z,Js]at this;cases this
  have e0:Ke P w K A (U1 f.heap<|upd H g (.tbl #[])) callerA [] f H:=⟨rfl,hM,λb o e=>⟨(SL e).1,by have:=(SL e).2;rw[Jg (bP e)]at this;exact this⟩,WV (R9 _ _),trivial,λb j=>absurd (show b∈([]:List Addr)from j) (by simp),M,.of_eq hg⟩
  have hC':=codeHd_of_K C hC;have hC1:=codeHd_of_K KX hC
  have hgP:mainGlobals≠g:=by
   obtain⟨o,es,ep,e,d,_⟩:=p;exact notP e λ_ z=>by rw[d]at z;cases z
  have hgB:G≠mainGlobals:=λz=>by
   obtain⟨o,es,ep,e,d,_⟩:=p;rw[z,e]at b3;cases b3;rw[d]at Y;cases Y
  have i:=notP b3 λ_ z=>by rw[Y]at z;cases z
  have hB:(U1 f.heap<|upd H g (.tbl #[])).BuiltinsAt A g:=⟨G,ob,b1,b2,hgB,i,base_of b3 i (notA b3 λ_ _ z=>by rw[Y]at z;cases z),b4,b5,Y⟩
  have hbn:(U1 f.heap<|upd H g (.tbl #[])).get? g=none:=by
   cases q:(U1 f.heap<|upd H g (.tbl #[])).get? g with
   |none=>rfl
   |some o=>exact absurd rfl (bP q)
  refine Q6 (F _ C (l p) hC' hB hgP callerA f H ⟨[.ref a],[]⟩ (.ref a) (.ref a) _ hr e0 T hHP hbn (B f<|.ref a) rfl<|hsp H hO hS) λr y h=>?_;obtain⟨u,v,H',pt,rfl,os,bare,un,L,r',q,U⟩:=h;have q':=q;subst q';obtain rfl:=r';refine⟨rfl,⟨λb o e=>?_,λb o e=>?_⟩,os,bare⟩
  ·by_cases i:b=g
   ·subst i;rw[T]at e;cases e;exact .inr (.inl ⟨(hC1.tab T).isCodeTable,rfl,#[],pt,rfl,by rw[U];simp⟩)
   ·refine .inl ?_;cases q:H b with
    |none=>exact un.keep b o e q (by intro z;exact absurd z (by simp)) (by simpa using i)
    |some u=>
     rcases hO b with z|⟨ob,xs,z⟩
     ·rw[q]at z;cases z
     ·have z2:=un.frzs b ob _ z;obtain⟨e1,_⟩:=M b _ z;obtain⟨e2,_⟩:=L b _ z2;rw[e]at e1;cases e1;exact e2
  ·by_cases i:b=g
   ·exact⟨_,by rw[i];exact U⟩
   ·exact un.there b o e (by simpa using i)
 cases hk:K.lookup a with
 |some o=>
  have e:=KX a o hk;rw[E]at e;cases e
  refine core (λ_=>none) (λ_=>.inl rfl) (.inr ⟨_,vs.toArray,_,hk,rfl,rfl,rfl,by rw[YL,lenV];exact hl,by simpa using rv⟩) (λb u z=>by have J:=z;cases J) (λb z=>absurd rfl z) λz=>absurd rfl z
 |none=>
  refine core (λb=>if b=a then some (.frz {cls:=.type "list",data:=.seq vs.toArray} (.lst<|ns.map V.int))else none) (λb=>?_) (.inl<|.inr ⟨{cls:=.type "list",data:=.seq vs.toArray},Y5 rfl⟩) (λb u z=>?_) (λb z=>?_) λ_=>hk
  ·by_cases j:b=a
   ·exact .inr ⟨_,_,Y5 j⟩
   ·exact .inl (Y4 j)
  ·by_cases j:b=a
   ·have J:=(Y5 j).symm.trans z;cases J
    subst j;exact⟨E,by rw[Yy];exact hl,vs,_,rv,E⟩
   ·have J:=(Y4 j).symm.trans z;cases J
  ·by_cases j:b=a
   ·exact j
   ·exact absurd (Y4 j) z
def Ro{l:PySem.W.OpenLaw}{n k}{q}{loose}{XP}{YP}{d}{K:Params->Zt}{sp:Zt->Sp}{x}{Pl}(U:l.most=some n)(A:n<=sizeLine)(C:d.params.defaults=[])(Q:Jl k callerA)(hY:∀w h,YP w h->(K w.params).In h)(hP:∀w h,YP w h->h.get? Pl=some (tabObj #[]))
  (F:∀w j y h,(K w.params).In h->h.Ns mainGlobals j->j d.name=some (.ref y)->
   ∃J c,(∀s u,BindsTo s J ⟨[u],[]⟩ [(x,u)])/\(K w.params).lookup Pl=none/\codeHdIn (K w.params) c Pl=true/\
    ∀base,(K w.params).In base->base.Ns mainGlobals j->CodeHd base c Pl->base.BuiltinsAt j Pl->mainGlobals≠Pl->LawT l.prog w (K w.params) j base k y J x (sp<|K w.params) Pl)
  (z:∀K H a (ns:Zv),ns.length<=n->Bq H->SqL K H a (ns.map V.int)->sp K [.ref a] H (λv _=>v=.bl true) λ_ _ _=>False) :
  PySem.W.WalkO q loose XP YP l.row.toRowW d [] (λf vs=>PySem.call f vs):=by
 refine Att.IE U C λw M L j mb y o pm cd doc a vs ns G Y ho hd hcd B r p i hg=>?_;have N:=hY w _ Y;obtain⟨J,c,hb,E,hC,hF⟩:=F w j y _ N G.T.g B;exact Zaz N G.T.g G.T.b G.T.builtins G.T.nolimit hg G.T.bmain (hP w _ Y) E hC r p (Y8 i A) Q hF hb λH hO hS=>z (K w.params) H a ns i hO hS
end Lam
namespace Lam
open L2 Own Pu
def Still(te:TE):Prop:=∀(b:L2.St) (H:Hp) (Q f:VK),te b H Q->(∀v,Q v H->f v H)->te b H f
def CY(i:Nat):Still (UE i):=λ_ _ _ _ ⟨v,e,q⟩ k=>⟨v,e,k v q⟩
def Mi(v:V):Still (tC v):=λ_ _ _ _ q k=>k v q
def Ls{K o n}(r:Still o)(p:Still n):Still (tOp (λx y H Q=>XF K x y H Q\/X0 K x y H Q) o n):=λl H Q w h k=>
 r l H _ _ h λx u=>p l H _ _ u λy s=>s.imp (λ⟨a,xs,i,v,j,g,f,b,q⟩=>⟨a,xs,i,v,j,g,f,b,k v q⟩) λ⟨a,xs,i,v,j,g,f,b,q⟩=>⟨a,xs,i,v,j,g,f,b,k v q⟩
def OG(i:Still f)(b:L2.St)(H:Hp)(Q g:List V->Hp->Prop)(h:J3 f JS b H Q)(k:∀v,Q v H->g v H):J3 f JS b H g:=i b H _ _ h λx q=>k _ q
def RZ{K g f}(j:Still g)(i:Still f):Still (tBM K "list" (PP K) g<|J3 f JS):=λb H Q v h k=>
 j b H _ _ h λx ⟨n,l⟩=>⟨n,OG i b H _ _ l λu ⟨a,xs,z,s,r,p,o,q⟩=>⟨a,xs,z,s,r,p,o,k _ q⟩⟩
section
variable {K:Zt}{mg:Zx}{E:L2.St->XK}{H0 H H':Hp}{B:Addr->Prop}{σ:L2.St}{γ:Γ}{φ:Zz}
def HY(env:Jf K H0 B H σ γ)(q:(φ.filterMap id).Nodup):Jf K H0 (zof B γ σ) H (atStart φ σ) (atP φ γ):=by
 have Y:∀b,zof (zof B γ σ) (atP φ γ) (atStart φ σ) b->zof B γ σ b:=λb y=>by
  rcases y with y|⟨i',n,x,T,r,Q⟩
  ·exact y
  ·obtain⟨m,U,G⟩:=Xp T;obtain⟨w,A,_⟩:=env.slot m _ G;rw[Xx U A]at r;exact .inr ⟨m,n,x,G,by rw[A];exact Wz some (YC r),Q⟩
 refine⟨env.same,by unfold atStart atP;simp,env.zm,λi j a a' n es b h1 h2 h3 M h5 h6=>?_,λi s h=>?_⟩
 ·obtain⟨k,g,f⟩:=Xp h1;obtain⟨l,L,J⟩:=Xp h2;obtain⟨v,p,_⟩:=env.slot k _ f;obtain⟨u,C,_⟩:=env.slot l _ J;rw[Xx g p]at h3;rw[Xx L C]at M
  have:=env.own k l a a' n es b f J (by grind) (by rw[C];exact Wz some (YC M)) h5 h6
  subst this;exact Td q i j k g L
 ·obtain⟨k,g,f⟩:=Xp h;obtain⟨v,p,o⟩:=env.slot k _ f;have N:Same (off (zof B γ σ) H) (off (zof (zof B γ σ) (atP φ γ)<|atStart φ σ) H):=Jn (Same.refl _) λb _ _ z y=>z (Y b y);refine⟨v,Xx g p,?_⟩;cases s with
  |sh d=>exact Rp.mono N o
  |own n=>
   obtain⟨a,e1,e3,e4⟩:=o;exact⟨a,e1,e3,e4.mono N λ_ _ _ x=>x⟩
  |_=>exact o
noncomputable def BV(φ:Zz)(γ:Γ)(d:D):Γ:=(atP φ γ).set 0 (some<|.sh d)
structure Mm (φ:Zz) (γ:Γ) (a:PTE) (ss:List S) (R:S->Prop):Prop where
 w:∃(s:S) (ds:List D) (kz:Zv),ss=[s]/\s.d=.lst ds/\Jz ds=true/\ds.length<64/\kz.length=ds.length/\
  (∀(i:Nat) d k,ds[i]?=some d->kz[i]?=some k->a (BV φ γ d) (λt=>t.d=.int k) λ_=>False)/\∀qs:List (Int×D),qs.Perm (kz.zip ds)->Stb.Out kz D.non ds (qs.map Prod.snd)->R (.own<|qs.map Prod.snd)
noncomputable def Rh(φ:Zz)(a:PTE)(r:PTA):PTE:=λγ R X=>r γ (λb=>Mm φ γ a b R) X
theorem E3:∀{ds}{i:Nat}{d:D},Jz ds=true->ds[i]?=some d->imm d=true
 |[],_,_,_,h=>by simp at h
 |x::r,0,d,e,h=>by
  unfold Jz at e
  grind
 |x::r,i+1,d,e,h=>by
  unfold Jz at e;rw[YU]at e;exact E3 e.2 (by trivial)
theorem Sr(r:Rps K F ds vs):∀{b:Z0},(∀i∈b,i<vs.length)->Rps K F (b.map λi=>ds.getD i D.non) (b.map λi=>vs.getD i V.non)
 |[],_=>.nil
 |i::b,h=>by
  obtain⟨d,l,f⟩:=r.getV (Yx<|h i<|by simp);refine .cons ?_ (Sr r λj g=>h j (by grind))
  grind
def ML{a r}(hs:Still te)(he:VZ K mg (λ_ _ _ _=>False) te a)(hr:Jt K mg E Y r)(h1:autoParam ((φ.filterMap id).Nodup) au_1):VZ K mg E (DQ K φ te Y) (Rh φ a r):=by
 intro H0 B H σ γ R X Q h p q qx;refine hr H0 B H σ γ _ X _ h p (λss vs H1 hw y t1=>?_) qx;obtain⟨s,ds,kz,rfl,ed,G,x,f,turn,fin⟩:=hw.w;obtain⟨v,rfl,U⟩:=t1.one_inv;have b:=h.grow y;have A:=U.rp b.same;rw[ed]at A;obtain⟨l,N,rfl,hl,rp⟩:=A.lst_inv;refine⟨l,N,kz,rfl,SqL.of hl,by rw[rp.len];exact x,by rw[rp.len];exact f,λi u k hu hk=>?_,λD ys C hw=>?_⟩
 ·obtain⟨d,J,rd⟩:=rp.getV hu;have M:=HY b h1;obtain⟨j,_⟩:=M.set (s:=.sh d) (Same.refl _) (Rp.off M.zm rd<|E3 G J) rfl;refine hs _ _ _ _ (he H0 _ H1 (X8 φ σ u) (BV φ γ d) _ _ (λv _=>v=.int k) j (turn i d k J hk) (λt w H2 ht S2 T=>?_) λ_ _ z=>z.elim) λw hw=>⟨rfl,hw⟩;have g:=T.rp (j.same.trans S2);rw[ht]at g;exact g.int_inv
 ·obtain⟨is,j,n,o⟩:=hw.rel Pu.D.non rp.len.symm;obtain⟨qs,hq,L⟩:=n.perm f;rw[j];refine q _ _ _ (by rw[L]at n;exact fin qs hq n) (y.trans<|Jy C) (Xz y C ?_);rw[←L];exact Sr (Rps.off b.zm rp G) o
end
def LawC(P:Program)(w:World)(K:Zt)(h:Zx)(base:Heap)(k:Nat)(st:Stmt)(sp:Sp):Prop:=
 ∀(f:Addr) (g:FuncData) (c b:Addr),Fun K "law" "law" st f g->g.code=.ref c->PySem.W.CodeHd base c b->base.BuiltinsAt h b->mainGlobals≠b->LawT P w K h base k f g "_law_script" sp b
def LB{K h base N sp p st k}(S:Jd N ["_law_script"] (Jb st))
  (n:∀f b c g A s H,Jl k (A.deeper<|envOfC "law" (Jb st) s.heap.objs.size f b)->KG (UX P w K h base N "law" (Jb st) f b A s H g) c g->
   ∃t,UH (UX P w K h base N "law" (Jb st) f b A s H g) g (JI st) t/\Jm K h (λ_ _ _ _=>False) t p) (u:Uz K h N ["_law_script"] sp p):LawC P w K h base (k+1) st sp:=by
 intro f J c g F x y B j;obtain⟨oc,G,kV,C,E,M,b,L,o,rfl,q,l⟩:=F.ex;exact B4 q l S x y B j λA s H v Q r T i=>(n f b c g A s H r T).elim λt z=>⟨t,z.1,u.run _ _ _ _ _ i z.2⟩
def LawT.imp {K j base k f l x sp b}{Pl} (F:LawT P w K j base k f l x sp Pl) (h:∀vs H Q E,b vs H Q E->sp vs H Q E):LawT P w K j base k f l x b Pl:=
 λA s H args u v Q n y p q o i r g=>F A s H args u v Q n y p q o i r (h _ _ _ _ g)
open M
theorem Tn:∀ps:Zu,Jz (ps.map prD)=true
 |[]=>rfl
 |q::r=>by
  rw[YE];unfold Jz;rw[Tn r];rfl
def Zbk{o:Zv}{ps}(p:o.length=ps.length){f:List (Int×D)}(h:f.Perm (o.zip<|ps.map prD)):∃n:Zu,n.Perm ps/\f.map Prod.snd=n.map prD:=by
 have j:=h.map Prod.snd;rw[List.map_snd_zip (by rw[Yy];lia)]at j
 have un:∀d,d∈ps.map prD->prD ((match d with | .tup [.int a,.int b]=>(a,b)|_=>(0,0)):Int×Int)=d:=λd g=>by
  obtain⟨q,_,rfl⟩:=YO.mp g;rfl
 refine⟨(f.map Prod.snd).map λd=>((match d with | .tup [.int a,.int b]=>(a,b)|_=>(0,0)):Int×Int),?_,?_⟩
 ·have i:=j.map λd=>((match d with | .tup [.int a,.int b]=>(a,b)|_=>(0,0)):Int×Int)
  rw[Wa (l:=ps)]at i;have e:((λd=>((match d with | .tup [.int a,.int b]=>(a,b)|_=>(0,0)):Int×Int))∘prD)=id:=rfl
  rw[e,List.map_id]at i;exact i
 ·rw[Wa];have e:∀d∈f.map Prod.snd,(prD∘λd=>((match d with | .tup [.int a,.int b]=>(a,b)|_=>(0,0)):Int×Int)) d=d:=λd g=>un d (j.mem_iff.mp g)
  rw[W4 e];simp
end Lam
namespace ExcR
open L2
open Sem (wp)
open Builtin Builtin.ObjectAttr
noncomputable def Pe:Z1:=[.type "ValueError",.type "Exception",.type "BaseException",.type "object"]
noncomputable def SQ:Z1->Bool
 | .ref _::r=>SQ r
 |l=>l==Pe
structure Hz (K:Zt) (C:Addr):Prop where
 po:(PySem.W.clsIn K C).any (λcd=>SQ cd.mro&&cd.hasDict)=true
 sa:PySem.W.findIn K (.ref C) "__setattr__"=some (some<|.builtin "object.__setattr__")
end ExcR
namespace ExcR
open L2
section
variable {X:Cx}{pins:Zw}{σ:L2.St}{H:Hp}{s:Shared}{a b:Addr}
noncomputable def er(H:Hp)(a:Addr):Hp:=λb=>if b=a then none else H b
end
def Od(K:Zt)(C f:Addr):Prop:=∃(o:Z6) (b:ClassData) (sl:Array (Z5)) (g:Z1) (n l j i h:Z5),K.lookup C=some ⟨.type "type",o,.cls b,sl⟩/\b.mro=.ref C::g/\
 sl.toList=[n,l,j,i,some (.builtin "ValueError.__new__"),h]/\b.hasDel=false/\PySem.W.tailIn K Pe g=true/\PySem.W.nsOkIn K b.ns=true/\PySem.W.nsIn K b.ns "__init__"=some (some<|.ref f)
structure Mw (K:Zt) (C f:Addr):Prop where
 q:Od K C f
 fn:PySem.W.typeIn K (.ref f)=some (.type "function")
 st:Hz K C
 ga:PySem.W.findIn K (.ref C) "__getattribute__"=some (some<|.builtin "BaseException.__getattribute__")
 gt:PySem.W.findIn K (.ref C) "__getattr__"=some none
 nm:Iv K C "members"
 cl:PySem.W.findIn K (.ref C) "__class__"=some (some<|.builtin "object.__class__")
end ExcR
namespace Pu
open L2 Own
structure RI (K:Zt) (x:Str) (C:Addr) (q:Str) (st:Stmt):Prop where
 a:PySem.W.nsIn K mainGlobals x=some (some<|.ref C)
 ex:∃f fd,ExcR.Mw K C f/\Fun K "__init__" q st f fd
section
variable {K:Zt}{h:Heap}{mg:Zx}{x q:Str}{st:Stmt}{C M N f:Addr}
def Iu{cd:ClassData}(m:PySem.W.excIn K M ExcR.Pe "ValueError.__new__"=true):PySem.W.tailIn K ExcR.Pe (.ref M::ExcR.Pe)=true:=by
 unfold PySem.W.excIn at m;split at m
 next w cd sl b=>
  split at m
  next z y r p o l n j u s=>
   simp only[YU,beq_iff_eq,V6]at m;obtain⟨⟨⟨_,v⟩,i⟩,g⟩:=m;unfold PySem.W.tailIn;rw[Bool.or_eq_true];right
   try dsimp only
   rw[b]
   try dsimp only
   rw[i,g];rfl
  grind
 next=>cases m
def ri{cd sl v k0 k1 k2 k3 k5 J es n oc y L g kV p pm b ct}(a:PySem.W.nsIn K mainGlobals x=some (some<|.ref C))(l:K.lookup C=some ⟨.type "type",dd,.cls cd,sl⟩)(r:cd.mro=.ref C :: .ref M::[.type "ValueError",.type "Exception",.type "BaseException",.type "object"])(dl:cd.hasDel=false)(o:cd.hasDict=true)(j:sl.toList=[k0,k1,k2,k3,some (.builtin "ValueError.__new__"),k5])(s:cd.ns=N)(A:K.lookup N=some ⟨J,Q,.dict es n,v⟩)(w:(es.toList.all λe=>match e.key with | .str _ _=>true|_=>false)=true)(i:PySem.W.nsIn K N "__init__"=some (some<|.ref f))(m:PySem.W.excIn K M [.type "ValueError",.type "Exception",.type "BaseException",.type "object"] "ValueError.__new__"=true)(fn:PySem.W.isFn K (.ref f)=true)(u:PySem.W.findIn K (.ref C) "__setattr__"=some (some<|.builtin "object.__setattr__"))(G:PySem.W.findIn K (.ref C) "__getattribute__"=some (some<|.builtin "BaseException.__getattribute__"))(E:PySem.W.findIn K (.ref C) "__getattr__"=some none)(B:PySem.W.findIn K (.ref C) "__class__"=some (some<|.builtin "object.__class__"))(nm:PySem.W.findIn K (.ref C) "members"=some none)(z:K.lookup f=some ⟨oc,y,.func (PySem.W.fnOf "__init__" q (UG st) (JI st) (Jb st) .none kV p pm L b ct),g⟩)(c:PySem.W.codeIn K b q=true)(k:PySem.W.keepIn K (.ref f)=true):RI K x C q st:=by
 have H:PySem.W.clsIn K C=some cd:=by unfold PySem.W.clsIn;rw[l]
 refine⟨a,f,_,⟨?_,beq_iff_eq.mp fn,⟨?_,u⟩,G,E,nm,B⟩,SR z c k⟩
 ·refine⟨dd,cd,sl,_,k0,k1,k2,k3,k5,l,r,j,dl,Iu (cd:=cd) m,?_,by rw[s];exact i⟩;rw[s];unfold PySem.W.nsOkIn;rw[A];show(es.all _)=true;rw[←Array.all_toList];omega
 ·rw[H];show(ExcR.SQ cd.mro&&cd.hasDict)=true;rw[r,o];rfl
end
end Pu
namespace M
open L2 Own Pu
noncomputable def pcc(ps:Zu):Int->Int->Int:=λx y=>pcM ps x y ps.length
end M
namespace Pu
open L2 Own
def hq{A}(h:Jl j A)(b:autoParam (k<=j) au_1):Jl k A:=h.mono b
section
variable {X:Cx}{sc:Scope}{elt iter tg:Expr}{ifs:Z3}{pos:Pos}{wi:TI}{g:TG}{tc:TT}{te:TE}{x:Str}
def cz(N':Z2)(φ:Zz)(n:PI X tg iter wi)(i:∀{j C b f ex},PG (J7 X N' sc j C b f ex) tg g/\XN (J7 X N' sc j C b f ex) ifs tc/\PE (J7 X N' sc j C b f ex) elt te)(h:autoParam (X.calm=true) au_0)(S:autoParam (KN sc X.env.scope X.N N' φ=true) au_0)(l:autoParam (∀x,foldedSetIterable iter X.env x=pure x) au_3):PE X (.ListComp elt [⟨tg,iter,ifs,0⟩] sc pos) (KY φ wi g tc te):=SU h (.of S) n (λ_ _ _ _ _=>i) l
def gk(i:Nat)(h:autoParam (decide X.N.Nodup=true) au_8)(b:autoParam (X.N[i]?=some x) au_0)(hx:autoParam (Loc X.env.scope x) au_6)(f:autoParam (X.fn x=true\/X.env.scope.names.lookup x=some .local) au_2):PG X (.Name x pos) (Xw i):=Na (YR h) b hx f
end
section
variable {P:Program}{w:World}{K:Zt}{mg:Zx}{base:Heap}{N ps:Z2}{sp:Sp}{p:PTS}{x q:Str}{st:Stmt}{k:Nat}{W:Addr->Prop}
def _root_.Own.Def.ez (D:Def K mg x st ps) (S:Jd N ps (Jb st))
  (g:∀{f b A outer s H} {E:XK},Jl k (A.deeper<|envOfC x (Jb st) s.heap.objs.size f b)->
   ∃t,PSs (JG CX0 P w K mg base N x (Jb st) f b A outer s H E).nox (JI st) t/\Jm K mg (λ_=>E) t p) (u:Uz K mg N ps sp p):Callee P w K mg base CX0 (k+1) x ps sp:=D.oz S (λ_ _ _ _ _ _ _=>g) u
def _root_.Own.Def.ey (D:Def K mg x st ps) (S:Jd N ps (Jb st))
  (g:∀{f b A outer s H} {E:XK},Jl k (A.deeper<|envOfC x (Jb st) s.heap.objs.size f b)->
   ∃t,PSs (JG (ExcR.CXe P w) P w K mg base N x (Jb st) f b A outer s H E) (JI st) t/\Jm K mg (λ_=>E) t p) (u:Uz K mg N ps sp p):Callee P w K mg base (ExcR.CXe P w) (k+1) x ps sp:=D.ox S (λ_ _ _ _ _ _ _=>g) u
end
structure Fit {ι:Type} (F:ι->Cx) (K:Zt) (mg:Zx):Prop where
 k:∀j,(F j).K=K
 m:∀j,(F j).mg=mg
section
variable {ι:Type} (F:ι->Cx) (K:Zt) (mg:Zx) (E:L2.St->XK)
structure CE (e:Expr) (p:PTE):Prop where
 h:Fit F K mg->∃t,(∀j,PE (F j) e t)/\VZ K mg E t p
structure CT (e:Expr) (p:PTT):Prop where
 h:Fit F K mg->∃t,(∀j,PT (F j) e t)/\JJ K mg E t p
structure CW (e:Expr) (p:PTT):Prop where
 h:Fit F K mg->∃t,(∀j,PW (F j) e t)/\JJ K mg E t p
structure CA (es:Z3) (p:PTA):Prop where
 h:Fit F K mg->∃t,(∀j,PA (F j) es t)/\Jt K mg E t p
structure CS (s:Stmt) (p:PTS):Prop where
 h:Fit F K mg->∃t,(∀j,PS (F j) s t)/\Jm K mg E t p
structure CB (b:Z4) (p:PTS):Prop where
 h:Fit F K mg->∃t,(∀j,PSs (F j) b t)/\Jm K mg E t p
structure CI (tg e:Expr) (p:PTI):Prop where
 h:Fit F K mg->∃t,(∀j,PI (F j) tg e t)/\SndI K mg E t p
structure CJ (tg e:Expr) (p:PTI):Prop where
 h:Fit F K mg->∃t,(∀j,PI (F j) tg e t)/\P9 K mg E t p
structure CG (e:Expr) (is:Z0) (p:PTG):Prop where
 h:Fit F K mg->∃t,(∀j,PG (F j) e t)/\XZ K is t p
structure CGs (es:Z3) (is:Z0) (p:Km):Prop where
 h:Fit F K mg->∃t,(∀j,PGs (F j) es t)/\P4 K is t p
structure CF (es:Z3) (p:PTT):Prop where
 h:Fit F K mg->∃t,(∀j,XN (F j) es t)/\JJ K mg E t p
end
section
variable {ι:Type}{F:ι->Cx}{K:Zt}{mg:Zx}{E:L2.St->XK}{e f g:Expr}{es:Z3}{a b c:PTE}{r:PTA}{x:Str}{pos p1:Pos}{k n:Nat}{s:Stmt}{d1 d2:Z4}{p q:PTS}{t u:PTT}{is:Z0}{pg:PTG}{it:PTI}
def xv(i:Nat)(v:autoParam (∀j,(F j).N[i]?=some x) au_3)(h:autoParam (∀j,Vis (F j).env.scope x) au_9)(l:autoParam ((x==("__debug__" : Str))=false) au_1)(o:autoParam ((x==("__classdict__" : Str))=false) au_1):CE F K mg E (.Name x pos) (Nw i):=.mk λ_=>⟨_,λj=>pv i (v j) (h j) l o,Ja i⟩
def xi:CE F K mg E (.Constant (.int i) k pos) (pC<|.int i):=.mk λ_=>⟨_,λ_=>Jp,Jq⟩
def xb:CE F K mg E (.Constant (.bool i) k pos) (pC<|.bl i):=.mk λ_=>⟨_,λ_=>UN,UP⟩
def xs:CE F K mg E (.Constant (.str i) k pos) (pC<|.str i):=.mk λ_=>⟨_,λ_=>Zbs,Zb4⟩
def xe(h:∀{j},PE (F j) e te)(k:VZ K mg E te a):CE F K mg E e a:=.mk λ_=>⟨_,λ_=>h,k⟩
def xo{r}(w:∀{X},OpR X (binaryOp i) r)(v:∀{t u},VZ K mg E t a->VZ K mg E u b->VZ K mg E (tOp r t u) c)(A:CE F K mg E e a)(B:CE F K mg E f b):CE F K mg E (.BinOp e i f pos) c:=
 .mk λh=>let ⟨_,z,o⟩:=A.h h;let ⟨_,y,l⟩:=B.h h;⟨_,λj=>UK w (z j) (y j),v o l⟩
def xx(A:CE F K mg E e a)(B:CE F K mg E f b)(o:autoParam (SX f) au_7):CE F K mg E (.Subscript e f pos) (p2 a b fIx):=
 .mk λh=>let ⟨_,w,l⟩:=A.h h;let ⟨_,v,i⟩:=B.h h;⟨_,λj=>jx K (w j) (v j) (h.k j) o,Ug l i⟩
def xl(v:mg "len"=none)(A:CE F K mg E e a)(w:autoParam (∀j,Gl (F j) "len") au_3)(o:autoParam (∀j,starEach [e] (F j).env=(false,eval e (F j).env)::starEach [] (F j).env) au_3)(i:autoParam (∀j,(backTo pos (starEach [] (F j).env)).any (·.1)=false) au_3) :
  CE F K mg E (.Call (.Name "len" p1) [e] [] pos) (pCB N1<|Uc a UL):=
 .mk λh=>let ⟨_,y,l⟩:=A.h h;⟨_,λj=>ln K (by rw[h.m j];exact v) (y j) (h.k j) (w j) (o j) (i j),OS (sz l)⟩
def xf{ps o}(C:Callee P w K mg base CX0 k x ps (Je mg o K))(G:∀j,Jl m (F j).A)(A:CA F K mg E (e::es) r)(M:autoParam (∀j,(F j).prog=P/\(F j).w=w/\(F j).base=base) au_10)(H:autoParam (k<=m) au_1)(J:autoParam (∀j,Gl (F j) x) au_3)(l:autoParam ((x==("__debug__" : Str))=false) au_1)(L:autoParam (∀j,starEach (e::es) (F j).env=(false,eval e (F j).env)::starEach es (F j).env) au_3)(i:autoParam (∀j,(backTo pos (starEach es (F j).env)).any (·.1)=false) au_3) :
  CE F K mg E (.Call (.Name x p1) (e::es) [] pos) (Af o r):=
 .mk λh=>let ⟨_,N,B⟩:=A.h h;⟨_,λj=>fz (by obtain⟨z,y,v⟩:=M j;rw[z,y,v,h.k j,h.m j];exact C) (G j) (N j) H (J j) l (L j) (i j),J0 B⟩
def xt(A:CA F K mg E es r):CE F K mg E (.Tuple es k pos) (AM r):=.mk λh=>let ⟨_,l,i⟩:=A.h h;⟨_,λj=>Xn (l j),XG i⟩
def xL(A:CA F K mg E es r):CE F K mg E (.List es pos) (Aq r):=.mk λh=>let ⟨_,l,i⟩:=A.h h;⟨_,λj=>Xl (l j),Pf i⟩
def a0:CA F K mg E [] UL:=.mk λ_=>⟨_,λ_=>J9,Xq⟩
def ac(A:CE F K mg E e a)(B:CA F K mg E es r)(w:autoParam (∀j,starEach (e::es) (F j).env=(false,eval e (F j).env)::starEach es (F j).env) au_3):CA F K mg E (e::es) (Uc a r):=
 .mk λh=>let ⟨_,v,l⟩:=A.h h;let ⟨_,o,i⟩:=B.h h;⟨_,λj=>Jw (v j) (o j) (w j),JX l i⟩
def a1(A:CE F K mg E e a)(h:autoParam (∀j,starEach [e] (F j).env=(false,eval e (F j).env)::starEach [] (F j).env) au_3):CA F K mg E [e] (Uc a UL):=ac A a0 h
def a2(A:CE F K mg E e a)(B:CE F K mg E f b)(i:autoParam (∀j,starEach [e,f] (F j).env=(false,eval e (F j).env)::starEach [f] (F j).env) au_3)(h:autoParam (∀j,starEach [f] (F j).env=(false,eval f (F j).env)::starEach [] (F j).env) au_3):CA F K mg E [e,f] (Uc a<|Uc b UL):=ac A (a1 B h) i
def a3(A:CE F K mg E e a)(B:CE F K mg E f b)(C:CE F K mg E g c)(l:autoParam (∀j,starEach [e,f,g] (F j).env=(false,eval e (F j).env)::starEach [f,g] (F j).env) au_3)(i:autoParam (∀j,starEach [f,g] (F j).env=(false,eval f (F j).env)::starEach [g] (F j).env) au_3)(h:autoParam (∀j,starEach [g] (F j).env=(false,eval g (F j).env)::starEach [] (F j).env) au_3):CA F K mg E [e,f,g] (Uc a<|Uc b<|Uc c UL):=ac A (a2 B C i h) l
def te(h:∀{j},PT (F j) e tt)(k:JJ K mg E tt t):CT F K mg E e t:=.mk λ_=>⟨_,λ_=>h,k⟩
def tc{r}(w:∀{X},OpR X (compareOp i) r)(v:∀{t u},VZ K mg E t a->VZ K mg E u b->VZ K mg E (tOp r t u) c)(A:CE F K mg E e a)(B:CE F K mg E f b)(y:behindInMarks i f=false:=by exact UZ _):CT F K mg E (.Compare e [i] [f] pos) (X7 c):=
 .mk λh=>let ⟨_,C,o⟩:=A.h h;let ⟨_,z,l⟩:=B.h h;⟨_,λj=>Xf w (C j) (z j) y,Up (v o l)⟩
def tq(o:∀j,Jl n (F j).A)(A:CE F K mg E e a)(B:CE F K mg E f b):CT F K mg E (.Compare e [.Eq] [f] pos) (X7<|p2 a b<|Kx false):=
 .mk λh=>let ⟨_,w,l⟩:=A.h h;let ⟨_,v,i⟩:=B.h h;⟨_,λj=>cq K (o j) (w j) (v j) (h.k j),Up (XI l i)⟩
def tn(o:∀j,Jl n (F j).A)(A:CE F K mg E e a)(B:CE F K mg E f b):CT F K mg E (.Compare e [.NotEq] [f] pos) (X7<|p2 a b<|Kx true):=
 .mk λh=>let ⟨_,w,l⟩:=A.h h;let ⟨_,v,i⟩:=B.h h;⟨_,λj=>cn K (o j) (w j) (v j) (h.k j),Up (NV l i)⟩
def ti(o:∀j,Jl n (F j).A)(A:CE F K mg E e a)(B:CE F K mg E f b)(v:autoParam (behindInMarks .In f=false) au_11):CT F K mg E (.Compare e [.In] [f] pos) (X7<|p2 a b<|fIn false):=
 .mk λh=>let ⟨_,y,l⟩:=A.h h;let ⟨_,w,i⟩:=B.h h;⟨_,λj=>Xf (PK (JH<|o j)<|h.k j) (y j) (w j) v,Up (Pw l i)⟩
def tI(o:∀j,Jl n (F j).A)(A:CE F K mg E e a)(B:CE F K mg E f b)(v:autoParam (behindInMarks .NotIn f=false) au_11):CT F K mg E (.Compare e [.NotIn] [f] pos) (X7<|p2 a b<|fIn true):=
 .mk λh=>let ⟨_,y,l⟩:=A.h h;let ⟨_,w,i⟩:=B.h h;⟨_,λj=>Xf (OM (JH<|o j)<|h.k j) (y j) (w j) v,Up (Pw l i)⟩
def tt(A:CE F K mg E e a)(l:autoParam (∀j whole,isTrue e (F j).env whole=(do let v ←whole;standAt e.pos;holding [v] (truthy v))) au_7):CT F K mg E e (E9 a):=.mk λh=>let ⟨_,o,i⟩:=A.h h;⟨_,λj=>XA (o j) (h.k j) (l j),XW i⟩
def tN(A:CT F K mg E e t):CT F K mg E (.UnaryOp .Not e pos) (DS t):=.mk λh=>let ⟨_,l,i⟩:=A.h h;⟨_,λj=>XU (l j),X5 i⟩
def tp(A:CW F K mg E e t):CT F K mg E e t:=.mk λh=>let ⟨_,l,i⟩:=A.h h;⟨_,λj=>(l j).pt,i⟩
def wa(A:CT F K mg E e t)(B:CW F K mg E (.BoolOp .And (f::es) pos) u):CW F K mg E (.BoolOp .And (e::f::es) pos) (GG t u):=.mk λh=>let ⟨_,v,l⟩:=A.h h;let ⟨_,o,i⟩:=B.h h;⟨_,λj=>NU (v j) (o j),Ni l i⟩
def wo(A:CT F K mg E e t)(B:CW F K mg E (.BoolOp .Or (f::es) pos) u):CW F K mg E (.BoolOp .Or (e::f::es) pos) (pOr t u):=.mk λh=>let ⟨_,v,l⟩:=A.h h;let ⟨_,o,i⟩:=B.h h;⟨_,λj=>BZ (v j) (o j),En l i⟩
def wA(A:CT F K mg E e t):CW F K mg E (.BoolOp .And [e] pos) t:=.mk λh=>let ⟨_,l,i⟩:=A.h h;⟨_,λj=>B0 (l j),i⟩
def wO(A:CT F K mg E e t):CW F K mg E (.BoolOp .Or [e] pos) t:=.mk λh=>let ⟨_,l,i⟩:=A.h h;⟨_,λj=>Fc (l j),i⟩
def se(h:∀{j},PS (F j) s i)(k:Jm K mg E i p):CS F K mg E s p:=.mk λ_=>⟨_,λ_=>h,k⟩
def sS(i:Nat)(y:∀j,(F j).N.Nodup)(A:CE F K mg E e a)(v:autoParam (∀j,(F j).N[i]?=some x) au_3)(hx:autoParam (∀j,Loc (F j).env.scope x) au_12)(o:autoParam (∀j,swapsWith e (some<|.Name x p1) pos.line (F j).env=pure false) au_3)(w:autoParam (∀j,(F j).fn x=true\/(F j).env.scope.names.lookup x=some .local) au_13):CS F K mg E (.Assign [.Name x p1] e pos) (N7 a<|Pm i):=
 .mk λh=>let ⟨_,z,l⟩:=A.h h;⟨_,λj=>pz i (y j) (z j) (v j) (hx j) (o j) (w j),JV l (Jx i)⟩
def sR(A:CE F K mg E e a):CS F K mg E (.Return (some e) pos) (E2 a):=.mk λh=>let ⟨_,l,i⟩:=A.h h;⟨_,λj=>Ur (l j),Xk i⟩
def sF(i:Nat)(A:CS F K mg E s p):CS F K mg E s (AV i p):=.mk λh=>let ⟨_,l,j⟩:=A.h h;⟨_,l,OX i j⟩
def sI(A:CT F K mg E e t)(B:CB F K mg E d1 p)(C:CB F K mg E d2 q):CS F K mg E (.If e d1 d2 pos) (FX t p q):=.mk λh=>let ⟨_,y,o⟩:=A.h h;let ⟨_,w,l⟩:=B.h h;let ⟨_,v,i⟩:=C.h h;⟨_,λj=>X6 (y j) (w j) (v j),Xg o l i⟩
def sE(A:CE F K mg E e a)(l:autoParam (∀j,swapsWith e none pos.line (F j).env=pure false) au_3):CS F K mg E (.Expr e pos) (Dz a):=.mk λh=>let ⟨_,o,i⟩:=A.h h;⟨_,λj=>XH (o j) (l j),OQ i⟩
def sO(i:Z0)(z:∀{j},PassesOwn (model (F j).prog (F j).w) (F j).A (F j).env (F j).xe)(I:CI F K mg E f e it)(G:CG F K mg f is pg)(B:CB F K mg E d1 p)(C:autoParam (∀j,(F j).calm=true) au_3)(y:autoParam (∀j x,foldedSetIterable e (F j).env x=pure x) au_7) :
  CS F K mg E (.For f e d1 [] pos) (DY i it pg p):=
 .mk λh=>let ⟨_,L,v⟩:=I.h h;let ⟨_,J,o⟩:=G.h h;let ⟨_,H,l⟩:=B.h h;⟨_,λj=>G9 z (C j) (L j) (J j) (H j) (y j),FI i v o l⟩
def sW(i:Z0)(v:∀{j},PassesOwn (model (F j).prog (F j).w) (F j).A (F j).env (F j).xe)(A:CT F K mg E e t)(B:CB F K mg E d1 p):CS F K mg E (.While e d1 [] pos) (CQ i t p):=
 .mk λh=>let ⟨_,z,o⟩:=A.h h;let ⟨_,y,l⟩:=B.h h;⟨_,λj=>Du v (z j) (y j),Za5 i o l⟩
def b0:CB F K mg E [] CM:=.mk λ_=>⟨_,λ_=>Xr,Xd⟩
def b1(A:CS F K mg E s p):CB F K mg E [s] p:=.mk λh=>let ⟨_,l,i⟩:=A.h h;⟨_,λj=>U5 (l j),i⟩
def bc(A:CS F K mg E s p)(B:CB F K mg E d1 q):CB F K mg E (s::d1) (F6 p q):=.mk λh=>let ⟨_,v,l⟩:=A.h h;let ⟨_,o,i⟩:=B.h h;⟨_,λj=>JR (v j) (o j),Ua l i⟩
def bj(A:CS F K mg E s p)(B:CB F K mg E d1 q):CB F K mg E (s::d1) (Et p q):=.mk λh=>let ⟨_,v,l⟩:=A.h h;let ⟨_,o,i⟩:=B.h h;⟨_,λj=>SY (v j) (o j),TU l i⟩
def ie(h:∀{j},PI (F j) f e i)(k:SndI K mg E i it):CI F K mg E f e it:=.mk λ_=>⟨_,λ_=>h,k⟩
def iL(A:CE F K mg E e a):CI F K mg E f e (pIL a):=.mk λh=>let ⟨_,l,i⟩:=A.h h;⟨_,λj=>X1 (l j) (h.k j),MZ i⟩
def ir(o:mg "range"=none)(A:CA F K mg E [e] r)(v:autoParam (∀j,Gl (F j) "range") au_3)(l:autoParam (∀j,starEach [e] (F j).env=[(false,eval e (F j).env)]) au_3):CI F K mg E f (.Call (.Name "range" p1) [e] [] pos) (EC r):=
 .mk λh=>let ⟨_,w,i⟩:=A.h h;⟨_,λj=>Fh (v j) (by rw[h.m j];exact o) (w j) (l j),GH i⟩
def iR(v:mg "range"=none)(A:CA F K mg E [e,g] r)(w:autoParam (∀j,Gl (F j) "range") au_3)(o:autoParam (∀j,starEach [e,g] (F j).env=[(false,eval e (F j).env),(false,eval g (F j).env)]) au_3)(i:autoParam (∀j,starEach [g] (F j).env=[(false,eval g (F j).env)]) au_3):CI F K mg E f (.Call (.Name "range" p1) [e,g] [] pos) (GA r):=
 .mk λh=>let ⟨_,y,l⟩:=A.h h;⟨_,λj=>MN (w j) (by rw[h.m j];exact v) (y j) (o j) (i j),RO l⟩
def je(h:∀{j},PI (F j) f e i)(k:P9 K mg E i it):CJ F K mg E f e it:=.mk λ_=>⟨_,λ_=>h,k⟩
def jL(A:CE F K mg E e a):CJ F K mg E f e (CV a):=.mk λh=>let ⟨_,l,i⟩:=A.h h;⟨_,λj=>X1 (l j) (h.k j),K4 i⟩
def jI(I:CI F K mg E f e it):CJ F K mg E f e it:=.mk λh=>let ⟨_,j,i⟩:=I.h h;⟨_,j,i.c⟩
def gN(i:Nat)(o:autoParam (∀j,decide (F j).N.Nodup=true) au_14)(h:autoParam (∀j,(F j).N[i]?=some x) au_3)(hx:autoParam (∀j,Loc (F j).env.scope x) au_12)(l:autoParam (∀j,(F j).fn x=true\/(F j).env.scope.names.lookup x=some .local) au_13):CG F K mg (.Name x pos) [i] (Pm i):=.mk λ_=>⟨_,λj=>gk i (o j) (h j) (hx j) (l j),Jx i⟩
def gT(n:Nat){pr}(G:CGs F K mg es is pr)(v:autoParam (∀j,(F j).calm=true) au_3)(o:autoParam (∀j,(assignEach es (F j).env).length=n) au_3)(i:autoParam (∀j,(assignEach es (F j).env).findIdx? (·.1)=none) au_3):CG F K mg (.Tuple es k pos) is (Nh n pr):=
 .mk λh=>let ⟨_,w,l⟩:=G.h h;⟨_,λj=>T6 (v j) (w j) (h.k j) (o j) (i j),Bh l⟩
def g0:CGs F K mg [] [] AL:=.mk λ_=>⟨_,λ_=>PN,SA⟩
def gc(G:CG F K mg e is pg)(B:CGs F K mg es v i)(w:autoParam (∀j,(assignEach (e::es) (F j).env).map (·.2)=assign e (F j).env::(assignEach es (F j).env).map (·.2)) au_3):CGs F K mg (e::es) (is++v) (FY pg i):=
 .mk λh=>let ⟨_,z,o⟩:=G.h h;let ⟨_,y,l⟩:=B.h h;⟨_,λj=>XC (z j) (y j) (w j),Pa o l⟩
def f0:CF F K mg E [] E4:=.mk λ_=>⟨_,λ_=>X4,Kj⟩
def f1(A:CT F K mg E e t):CF F K mg E [e] t:=.mk λh=>let ⟨_,l,i⟩:=A.h h;⟨_,λj=>Nb (l j),i⟩
noncomputable abbrev Blk(F:ι->Cx)(N':Z2)(h:Scope):ι×Z8×Addr×Shared×Hp×List Addr->Cx:=λj=>J7 (F j.1) N' h j.2.1 j.2.2.1 j.2.2.2.1 j.2.2.2.2.1 j.2.2.2.2.2
def xC(N':Z2)(φ:Zz)(I:CJ F K mg E f e it)(G:CG (Blk F N' o) K mg f is pg)(T:CF (Blk F N' o) K mg E es t)(A:CE (Blk F N' o) K mg E g a)(hc:autoParam (∀j,(F j).calm=true) au_3)(S:autoParam (∀j,KN o (F j).env.scope (F j).N N' φ=true) au_3)(Y:autoParam (∀j x,foldedSetIterable e (F j).env x=pure x) au_7)(h1:autoParam ((φ.filterMap id).Nodup) au_1)(h2:autoParam (∀j∈is,φ[j]?=some none) au_1) :
  CE F K mg E (.ListComp g [⟨f,e,es,0⟩] o pos) (Sm φ it pg t a):=.mk λh=>by
 have v:Fit (Blk F N' o) K mg:=⟨λj=>h.k j.1,λj=>h.m j.1⟩;obtain⟨_,U,J⟩:=I.h h;obtain⟨_,Q,H⟩:=G.h v;obtain⟨_,M,B⟩:=T.h v;obtain⟨_,L,z⟩:=A.h v;exact⟨_,λj=>SU (hc j) (.of<|S j) (U j) (λy C i l w=>⟨Q (j,y,C,i,l,w),M (j,y,C,i,l,w),L (j,y,C,i,l,w)⟩) (Y j),UD J H B z h1 h2⟩
def sr(A:CE F K mg E e a):CS F K mg E (.Return (some e) pos) (Ag a):=.mk λh=>let ⟨_,l,i⟩:=A.h h;⟨_,λj=>Ur (l j),Of i⟩
def sV(i:Nat)(v:autoParam (∀j,(F j).N[i]?=some x) au_3)(h:autoParam (∀j,Vis (F j).env.scope x) au_9)(l:autoParam ((x==("__debug__" : Str))=false) au_1)(o:autoParam ((x==("__classdict__" : Str))=false) au_1):CS F K mg E (.Return (some<|.Name x p1) pos) (Bw i):=.mk λ_=>⟨_,λj=>Ur (pv i (v j) (h j) l o),O3 i⟩
def sA(i:Nat)(A:CE F K mg E e a)(H:autoParam (∀j,(F j).N[i]?=some x) au_3)(B:autoParam (∀j,Vis (F j).env.scope x) au_9)(C:autoParam ((x==("__debug__" : Str))=false) au_1)(G:autoParam ((x==("__classdict__" : Str))=false) au_1){apos cpos}(v:autoParam (∀j,attributeBase (.Name x p1) "append" (F j).env (eval (.Name x p1) (F j).env)=eval (.Name x p1) (F j).env) au_3)(w:autoParam (∀j,((backTo cpos (starEach [e] (F j).env)).all (λx=>!x.1)&&(backToKw cpos (keywordEach [] (F j).env)).all (λx=>x.1.isSome)&&decide ([e].length+([]:List Keyword).length+(if ([]:List Keyword).isEmpty then 0 else 1)<30))=true) au_3)(o:autoParam ((apos.endLine==cpos.line)=true) au_0)(y:autoParam (∀j,starEach [e] (F j).env=(false,eval e (F j).env)::starEach [] (F j).env) au_3)(l:autoParam (∀j,(backTo cpos (starEach [] (F j).env)).any (·.1)=false) au_3)(hw:autoParam (∀j,swapsWith (.Call (.Attribute (.Name x p1) "append" apos) [e] [] cpos) none pos.line (F j).env=pure false) au_3):CS F K mg E (.Expr (.Call (.Attribute (.Name x p1) "append" apos) [e] [] cpos) pos) (BH i a):=
 .mk λh=>let ⟨_,J,z⟩:=A.h h;⟨_,λj=>XH (SZ Wv QF QG Nc (pv i (H j) (B j) C G) (Jw (J j) J9<|y j) (h.k j) (v j) (w j) o (y j)<|l j) (hw j),Gh i z⟩
def sU(i:Nat){l o}(B:∀j,(F j).N.Nodup)(w:∀{X},PIp X l (ipI o))(A:CE F K mg E e a)(y:autoParam (∀j,(F j).N[i]?=some x) au_3)(hx:autoParam (∀j,Loc (F j).env.scope x) au_12)(z:autoParam (∀j,(F j).fn x=true\/(F j).env.scope.names.lookup x=some .local) au_13):CS F K mg E (.AugAssign (.Name x p1) l e pos) (SH i o a):=
 .mk λh=>let ⟨_,C,v⟩:=A.h h;⟨_,λj=>Zb9 (B j) (y j) (hx j) (C j) w (z j),Re v⟩
def sC(i:Nat)(N':Z2)(φ:Zz){y py spos}(hN:∀j,(F j).N.Nodup)(I:CJ F K mg E f e it)(G:CG (Blk F N' v) K mg f is pg)(T:CF (Blk F N' v) K mg E es t)(A:CE (Blk F N' v) K mg E g a)(hy:autoParam (∀j,(F j).N[i]?=some y) au_3)(hl:autoParam (∀j,(F j).env.scope.names.lookup y=some .local) au_3)(hc:autoParam (∀j,(F j).calm=true) au_3)(S:autoParam (∀j,KN v (F j).env.scope (F j).N N' φ=true) au_3)(hs:autoParam (∀j x,foldedSetIterable e (F j).env x=pure x) au_7)(h1:autoParam ((φ.filterMap id).Nodup) au_1)(h2:autoParam (∀j∈is,φ[j]?=some none) au_1)(hw:autoParam (∀j,swapsWith (.ListComp g [⟨f,e,es,0⟩] v pos) (some<|.Name y py) spos.line (F j).env=pure true) au_3) :
  CS F K mg E (.Assign [.Name y py] (.ListComp g [⟨f,e,es,0⟩] v pos) spos) (N7 (Sm φ it pg t a)<|Pm i):=.mk λh=>by
 have w:Fit (Blk F N' v) K mg:=⟨λj=>h.k j.1,λj=>h.m j.1⟩;obtain⟨_,i1,M⟩:=I.h h;obtain⟨_,Y,L⟩:=G.h w;obtain⟨_,U,J⟩:=T.h w;obtain⟨_,Q,H⟩:=A.h w;exact⟨_,λj=>Lc (hN j) (hy j) (hl j) (hc j) (.of<|S j) (i1 j) (λB C l o z=>⟨Y (j,B,C,l,o,z),U (j,B,C,l,o,z),Q (j,B,C,l,o,z)⟩) (hs j) (hw j),JV (UD M L J H h1 h2) (Jx i)⟩
structure CO {ι:Type} (F:ι->Cx) (K:Zt) (mg:Zx) (E:L2.St->XK) (o:Option Expr) (p:PTO):Prop where
 h:Fit F K mg->∃t,(∀j,PO (F j) o t)/\Py K mg E t p
def o0:CO F K mg E none EN:=.mk λ_=>⟨_,λ_=>CP,Co⟩
def o1(A:CE F K mg E e a):CO F K mg E (some e) (F0 a):=.mk λh=>let ⟨_,l,i⟩:=A.h h;⟨_,λj=>Cp (l j),D2 i⟩
def xp{lo i l u o}(A:CE F K mg E e a)(L:CO F K mg E lo l)(U:CO F K mg E i u):CE F K mg E (.Subscript e (.Slice lo i none o) pos) (pSl a l u):=
 .mk λh=>let ⟨_,C,y⟩:=A.h h;let ⟨_,B,w⟩:=L.h h;let ⟨_,z,v⟩:=U.h h;⟨_,λj=>GF (AO<|h.k j) (C j) (B j) (z j),Ai y w v⟩
def xn(A:CE F K mg E e a):CE F K mg E (.UnaryOp .Not e pos) (Fy a):=.mk λh=>let ⟨_,l,i⟩:=A.h h;⟨_,λj=>FT (l j),Gd i⟩
def x0:CE F K mg E (.Constant .none k pos) (pC .non):=.mk λ_=>⟨_,λ_=>OW,Zbh⟩
def sQ{cpos o}(z:ExcR.KR K (ExcR.Ud mg x))(w:mg x=some (.ref<|ExcR.Ud mg x))(G:∀{j},ExcR.Bj (F j) o)(A:CA F K mg (λ_=>o) (e::es) r)(C:autoParam (∀j,(F j).calm=true) au_3)(y:autoParam (∀j,Gl (F j) x) au_3)(l:autoParam ((x==("__debug__" : Str))=false) au_1)(B:autoParam (∀j,starEach (e::es) (F j).env=(false,eval e (F j).env)::starEach es (F j).env) au_3)(i:autoParam (∀j,(backTo cpos (starEach es (F j).env)).any (·.1)=false) au_3)(hx:autoParam (TM x=none) au_0) :
  CS F K mg (λ_=>o) (.Raise (some<|.Call (.Name x p1) (e::es) [] cpos) none pos) (EX x r):=
 .mk λh=>let ⟨_,H,v⟩:=A.h h;⟨_,λj=>ExcR.Mu (by rw[h.k j];exact z.c) (by rw[h.m j];exact w) G (C j) (H j) (y j) l (B j) (i j),Lb v hx⟩
def xg{ps v o}(C:Callee P w K mg base (ExcR.CXe P w) k x ps (Je mg v K))(H:∀j,Jl m (F j).A)(hx:∀{j},XB (ExcR.CXe P w) (F j) o)(A:CA F K mg (λ_=>o) (e::es) r)(N:autoParam (∀j,(F j).prog=P/\(F j).w=w/\(F j).base=base) au_10)(J:autoParam (k<=m) au_1)(L:autoParam (∀j,Gl (F j) x) au_3)(l:autoParam ((x==("__debug__" : Str))=false) au_1)(M:autoParam (∀j,starEach (e::es) (F j).env=(false,eval e (F j).env)::starEach es (F j).env) au_3)(i:autoParam (∀j,(backTo pos (starEach es (F j).env)).any (·.1)=false) au_3) :
  CE F K mg (λ_=>o) (.Call (.Name x p1) (e::es) [] pos) (Gf v r):=
 .mk λh=>let ⟨_,Q,G⟩:=A.h h;⟨_,λj=>Pn (by obtain⟨B,z,y⟩:=N j;rw[B,z,y,h.k j,h.m j];exact C) ((H j).mono J) hx (Q j) (L j) l (M j) (i j),O2 G⟩
variable {pw:PTW}
end
section
variable {P:Program}{w:World}{K:Zt}{mg:Zx}{base:Heap}{N ps:Z2}{sp:Sp}{p:PTS}{x q:Str}{st:Stmt}{k:Nat}{W:Addr->Prop}
def _root_.Own.Def.fz (D:Def K mg x st ps) (S:Jd N ps (Jb st))
  (i:∀{f b A outer s H} {E:XK},(∀{g:Type},g->Jl k (A.deeper<|envOfC x (Jb st) s.heap.objs.size f b))->(Unit->N.Nodup)->
   CB (λ_:Unit=>(JG CX0 P w K mg base N x (Jb st) f b A outer s H E).nox) K mg (λ_=>E) (JI st) p) (u:Uz K mg N ps sp p):Callee P w K mg base CX0 (k+1) x ps sp:=
 D.ez S (λj=>let ⟨t,h,l⟩:=(i (λ_=>j) λ_=>S.nd).h ⟨λ_=>rfl,λ_=>rfl⟩;⟨t,h (),l⟩) u
def _root_.Own.Def.fy (D:Def K mg x st ps) (S:Jd N ps (Jb st))
  (i:∀{f b A outer s H} {E:XK},(∀{g:Type},g->Jl k (A.deeper<|envOfC x (Jb st) s.heap.objs.size f b))->(Unit->N.Nodup)->
   CB (λ_:Unit=>JG (ExcR.CXe P w) P w K mg base N x (Jb st) f b A outer s H E) K mg (λ_=>E) (JI st) p) (u:Uz K mg N ps sp p):Callee P w K mg base (ExcR.CXe P w) (k+1) x ps sp:=
 D.ey S (λj=>let ⟨t,h,l⟩:=(i (λ_=>j) λ_=>S.nd).h ⟨λ_=>rfl,λ_=>rfl⟩;⟨t,h (),l⟩) u
end
mutual
noncomputable def py:D->PyData
 | .int i=>.int i
 | .bl b=>.bool b
 | .str x=>.str x
 | .tup f=>.tuple (pys f)
 | .lst f=>.list (pys f)
 | .fL g=>.list (g.map .int)
 |_=>.none
noncomputable def pys:List D->List PyData
 |[]=>[]
 |d::r=>py d::pys r
end
mutual
noncomputable def okS:D->Bool
 | .int _=>true
 | .bl _=>true
 | .str _=>true
 | .tup b=>Xa b
 | .lst b=>Xa b
 | .fL _=>true
 | .non=>true
 |_=>false
noncomputable def Xa:List D->Bool
 |[]=>true
 |d::r=>okS d&&Xa r
end
theorem okSs_iff:∀{ds:List D},Xa ds=true↔∀d∈ds,okS d=true
 |[]=>by simp[Xa]
 |d::r=>by
  unfold Xa;rw[YU,okSs_iff];simp
theorem Kv{b:Type}(f:b->D):∀xs:List b,pys (xs.map f)=xs.map λx=>py (f x)
 |[]=>rfl
 |x::r=>by
  rw[YE,YE];unfold pys;rw[Kv f r]
def RdV(H:Hp)(v:V)(p:PyData):Prop:=∀(P:Program) (w:World) (h:Heap) (u:Value),HOk P w H h->RelV v u->∃b,Reads h u p b
def Hn(H:Hp)(vs:List V)(ps:List PyData):Prop:=∀(P:Program) (w:World) (h:Heap) (b:Z1),HOk P w H h->Vals vs b->∃f,ReadsAll h b ps f
theorem G6{h:Heap}:∀{ns:Zv}{us:Z1},Vals (ns.map V.int) us->∃b,ReadsAll h us (ns.map .int) b
 |[],_,r=>by cases r;exact⟨_,.nil⟩
 |n::ns,_,r=>by
  cases r with
  |cons g f=>
   obtain⟨t,rfl⟩:=g;obtain⟨b,q⟩:=G6 f;exact⟨_,.cons (.int _ _) q⟩
section
variable {K:Zt}{H:Hp}
def Rp.reads {d:D}{v:V}:Rp K H d v->okS d=true->RdV H v (py d):=by
 have f:∀{d} {P:Prop},okS d=false->okS d=true->P:=λh e=>by rw[h]at e;cases e
 refine Rp.rec (motive_1:=λd v _=>okS d=true->RdV H v (py d)) (motive_2:=λs y _=>Xa s=true->Hn H y (pys s)) ?_ ?_ ?_ ?_ (λ_=>f rfl) ?_ ?_ (λ_=>f rfl) (λ_=>f rfl) (λ_=>f rfl) (λ_=>f rfl) (λ_ _=>f rfl) (λ_=>f rfl) (λ_=>f rfl) (λ_ _ _=>f rfl) ?_ (λ_ _ _ _=>f rfl) ?_ ?_
 ·intro i _ P w h u ok r;obtain⟨t,rfl⟩:=r;exact⟨_,.int _ _⟩
 ·intro b _ P w h u ok r;cases r
  exact⟨_,.bool _⟩
 ·intro _ P w h u ok r;cases r
  exact⟨_,.none⟩
 ·intro x _ P w h u ok r;obtain⟨t,rfl⟩:=r;exact⟨_,.str _ _⟩
 ·intro s y a p C z e P w h u ok r;cases r
  obtain⟨_,g,j,o,l,N,n,M⟩:=(show ObjOk P w H h _ (.tup _)from ok _ _ p)
  obtain⟨A,q⟩:=z (by unfold okS at e;exact e) P w h g ok j;exact⟨_,.tuple l N M (by simpa using q)⟩
 ·intro s y a p C z e P w h u ok r;cases r
  obtain⟨_,g,n,j,l⟩:=(show ObjOk P w H h _ (.lst _)from ok _ _ p)
  obtain⟨A,q⟩:=z (by unfold okS at e;exact e) P w h g ok j;exact⟨_,.list l rfl rfl (by simpa using q)⟩
 ·intro a o Q p _ P w h u ok r;cases r
  obtain⟨_,_,g,n,j,l⟩:=(show ObjOk P w H h _ (.frz _<|.lst _)from ok _ _ p)
  obtain⟨A,q⟩:=G6 (h:=h) j;exact⟨_,.list l rfl rfl (by simpa using q)⟩
 ·intro _ P w h B ok r;cases r
  exact⟨_,.nil⟩
 ·intro d v s y _ _ L J e P w h B ok r;unfold Xa at e;rw[YU]at e;cases r with
  |cons a b=>
   obtain⟨A,G⟩:=L e.1 P w h _ ok a;obtain⟨bs,E⟩:=J e.2 P w h _ ok b;exact⟨_,.cons G E⟩
end
structure Rk (p:PyData) (k b:Nat):Prop where
 ls:p.leavesShort 24=true
 sh:p.showable=true
 hd:p.hasDict=false
 bk:p.bulk<=b
 dp:p.depth<=k
structure RkA (ps:List PyData) (k b:Nat):Prop where
 ls:PyData.leavesShortAll 24 ps=true
 sh:PyData.showableAll ps=true
 hd:PyData.hasDictAll ps=false
 bk:PyData.bulkAll ps<=b
 dp:PyData.depthAll ps<=k
def Rk.int {i:Int} (h:i.natAbs<10 ^ 23) (k b:Nat):Rk (.int i) k b:=by
 refine⟨?_,?_,by simp only[PyData.hasDict],by simp only[PyData.bulk];lia,by simp only[PyData.depth];lia⟩
 ·simp only[PyData.leavesShort,WL]
  have:=int_text_length_le10 (a:=i) (k:=23) (by decide) h
  rw[PyData.shown_int,PySem.ofString_length];exact this
 ·simp only[PyData.showable,WL];by_cases z:i.natAbs=0
  ·rw[z];decide
  ·exact YM ((Nat.log2_lt z).mpr (Qt h<|show 10 ^ 23<2 ^ 77 by decide)) (by decide)
def RkA.nil (k b:Nat):RkA [] k b:=⟨rfl,rfl,rfl,by simp only[PyData.bulkAll];lia,by simp only[PyData.depthAll];lia⟩
def RkA.cons {p:PyData}{ps:List PyData}{k b1 b2 b:Nat} (h:Rk p k b1) (r:RkA ps k b2) (f:b1+1+b2<=b):RkA (p::ps) k b:=by
 refine⟨?_,?_,?_,?_,?_⟩
 ·simp only[PyData.leavesShortAll,h.ls,r.ls,Bool.and_self]
 ·simp only[PyData.showableAll,h.sh,r.sh,Bool.and_self]
 ·simp only[PyData.hasDictAll,h.hd,r.hd,Bool.or_self]
 ·simp only[PyData.bulkAll];have:=h.bk;have:=r.bk;lia
 ·simp only[PyData.depthAll];have:=h.dp;have:=r.dp;lia
theorem RkA.map {g:Type}{f:g->PyData}{k b:Nat}:∀{xs:List g},(∀x∈xs,Rk (f x) k b)->RkA (xs.map f) k (xs.length*(b+1))
 |[],_=>.nil _ _
 |x::r,h=>by
  rw[YE];refine .cons (h x Wb) (RkA.map λy i=>h y (YT _ i)) ?_;rw[YX,Nat.add_mul];lia
def Rk.list {ps:List PyData}{k b b':Nat} (h:RkA ps k b) (f:autoParam (b<=b') au_15):Rk (.list ps) (k+1) b':=by
 refine⟨?_,?_,?_,?_,?_⟩
 ·simp only[PyData.leavesShort];exact h.ls
 ·simp only[PyData.showable];exact h.sh
 ·simp only[PyData.hasDict];exact h.hd
 ·simp only[PyData.bulk];have:=h.bk;lia
 ·simp only[PyData.depth];have:=h.dp;lia
def Rk.tuple {ps:List PyData}{k b b':Nat} (h:RkA ps k b) (f:autoParam (b<=b') au_15):Rk (.tuple ps) (k+1) b':=by
 refine⟨?_,?_,?_,?_,?_⟩
 ·simp only[PyData.leavesShort];exact h.ls
 ·simp only[PyData.showable];exact h.sh
 ·simp only[PyData.hasDict];exact h.hd
 ·simp only[PyData.bulk];have:=h.bk;lia
 ·simp only[PyData.depth];have:=h.dp;lia
def Rk.mono {p:PyData}{k f b b':Nat} (h:Rk p k b) (g:k<=f) (i:b<=b'):Rk p f b':=⟨h.ls,h.sh,h.hd,Y8 h.bk i,Y8 h.dp g⟩
def Rk.fits {p:PyData}{k b:Nat} (h:Rk p k b) (f:b<=200000):p.shown.length<=sizeLine:=by
 have i:=PyData.shown_le_bulk 24 (by decide) p h.ls;have g:=h.bk;rw[Wx];lia
end Pu
namespace Own
open L2
section
variable {X:Cx}
def FL:List V->Hp->VK->Prop:=λxs H Q=>∃a p,xs=[.ref a]/\Pu.RdV H (.ref a) p/\Pu.Rk p 60 200000/\Q (.str p.shown) H
def Ew(j:X.A.guards=some [])(v:X.A.units+64<cLine):JC X (.builtin "repr") FL:=by
 intro pins s l H xs n Q I r h;obtain⟨a,p,rfl,i,b,q⟩:=h;obtain⟨u,rfl,f⟩:=r.one;obtain rfl:u=Value.ref a:=f;obtain⟨y,g⟩:=i X.prog X.w s.heap (.ref a) I.hok rfl;exact repr_of_reads' g b.sh (PyData.noDict_hsm b.hd) j (by have:=b.dp;lia) (λ_ _ e=>e) (λx u o hx=>⟨.str _,H,I.kept hx,⟨_,rfl⟩,q⟩) (b.fits<|Y1 _)
end
end Own
namespace Pu
open L2 Own
section
variable {K:Zt}{mg:Zx}{E:L2.St->XK}
structure Mk (d:D) (R:S->Prop):Prop where
 w:okS d=true/\(∃ds,d=.lst ds)/\Rk (py d) 60 200000/\R (.sh (.str (py d).shown))
def Ed:List S->(S->Prop)->Prop
 |[s],R=>Mk s.d R
 |_,_=>False
def A4{f:TA}{r:PTA}(n:Jt K mg E f r):VZ K mg E (tCB FL f) (pCB Ed r):=by
 refine Uv n λL H y Z B z R Q j C G g h q=>?_;unfold Ed at h;split at h
 ·rename_i s;obtain⟨v,rfl,i⟩:=g.one_inv;have b:=i.rp j;obtain⟨x,⟨J,o⟩,u,p⟩:=h.w;have l:=b.reads x;rw[o]at b;obtain⟨a,A,rfl,_,_⟩:=b.lst_inv;exact⟨a,_,rfl,l,u,q _ _ y p (Same.refl _) (.str _)⟩
 ·exact h.elim
end
end Pu
namespace M
open L2 Own Pu
def Mv.uniq {ps:Zu}{f:Int->Int}{ns:Zv}{i b:List Mo} (h:Mv ps f ns i) (k:Mv ps f ns b):i=b:=by
 induction h generalizing b with
 |done ns hw=>
  cases k with
  |done=>rfl
  |step _ p _ g n _=>exact absurd (g.uniq hw) n
 |step ns p i g n r o=>
  cases k with
  |done _ hw=>exact absurd (g.uniq hw) n
  |step _ q _ j _ l=>
   obtain rfl:=g.uniq j;rw[o l]
def KQ{ps:Zu}(b:Field ps)(j:Nat):0<=(ps.getD j (0,0)).2/\(ps.getD j (0,0)).2<=1000:=by
 rw[Y2];by_cases h:j<ps.length
 ·rw[Yx h]
  have:=b _ (YD h)
  show 0<=ps[j].2/\ps[j].2<=1000;lia
 ·rw[WE (by lia)];exact⟨Wh 0,by decide⟩
theorem A1{ps:Zu}(b:Field ps)(y:Int):∀n:Nat,0<=tpM ps y n/\tpM ps y n<=1000*n
 | 0=>⟨Wh 0,Wh 0⟩
 |n+1=>by
  have h:=A1 b y n;have w:=KQ b n;unfold tpM;split<;>lia
theorem D7{ps:Zu}(b:Field ps)(f:ps.length<=40)(x y:Int):∀n:Nat,n<=ps.length->0<=pcM ps x y n/\pcM ps x y n<=40000000*n
 | 0,_=>⟨Wh 0,Wh 0⟩
 |n+1,g=>by
  have h:=D7 b f x y n (by lia);have w:=KQ b n;have t:=A1 b y n;unfold pcM;split
  ·have j:=Int.mul_nonneg t.1 w.1;have i:tpM ps y n*(ps.getD n (0,0)).2<=40000*1000:=QI (by lia) w.2 w.1 (by decide);lia
  ·lia
theorem Fw{c:Int->Int->Int}(f:∀x y,0<=c x y/\c x y<=1600000000):∀o:Zv,o.length<=10->0<=oc c o/\oc c o<=16000000000*o.length
 |[],_=>⟨Wh 0,Wh 0⟩
 |a::r,g=>by
  rw[YX]at g;have h:=Fw f r (by lia)
  have s:∀l:Zv,0<=(l.map<|c a).sum/\(l.map<|c a).sum<=1600000000*l.length:=λl=>by
   induction l with
   |nil=>exact⟨Wh 0,Wh 0⟩
   |cons b l i=>
    have:=f a b
    rw[YE,List.sum_cons,YX];lia
  have s:=s r;unfold oc;rw[YX];lia
def M7{ps g:Zu}{b:Zv}{v:Int}(l:Field ps)(i:ps.length<=40)(j:b.length<=10)(h:Ub g (pcc ps) b v):0<=v/\v<=160000000000:=by
 obtain⟨o,f,_,rfl⟩:=h.is
 have:=Fw (c:=pcc ps) (λx y=>by have:=D7 l i x y ps.length (Y1 _);unfold pcc;lia) o (by rw[f.length_eq];exact j)
 have:=f.length_eq
 lia
def O9{ps l:Zu}{b vs:Zv}(r:Field ps)(n:ps.length<=40)(j:b.length<=10)(h:TabV l (pcc ps) (Jo b) vs):vs.length<=1024/\∀v∈vs,0<=v/\v<=160000000000:=by
 obtain⟨p,o⟩:=h;have e:=NL b;refine⟨?_,λv g=>?_⟩
 ·rw[p,e];exact Y8 (Qy (by decide) j) (by decide)
 ·obtain⟨i,q,ei⟩:=List.getElem_of_mem g;have f:i<(Jo b).length:=by lia
  refine M7 r n ?_ (o i (Jo b)[i] v (Yx f) (by rw[Yx q,ei]));exact Y8 (K6 b _<|YD f).length_le j
def Iz{ps:Zu}{f:Int->Int}{ns:Zv}{l:List Mo}(s:Field ps)(x:ps.length<=40)(h:Mv ps f ns l)(n:ns.Perm (Jk 1 ps.length)):∀m∈l,(0<=m.1/\m.1<=40)/\(0<=m.2.1/\m.2.1<=40)/\(0<=m.2.2.1/\m.2.2.1<=40)/\(0<=m.2.2.2/\m.2.2.2<=1000000):=by
 induction h with
 |done=>intro m q;cases q
 |step ns p l hw w q u=>
  obtain⟨v,o,_⟩:=hw.2.resolve_left w;rw[Yy]at o;have y:ns.length=ps.length:=by rw[n.length_eq,U8]
  have g:∀i,i<ns.length->0<=ns.getD i 0/\ns.getD i 0<=40:=λi r=>by
   rw[Y2,Yx r]
   have:=run_mem.mp (n.mem_iff.mp<|YD r)
   show 0<=ns[i]/\ns[i]<=40;lia
  intro m j;rcases YA.mp j with rfl|j
  ·refine⟨by dsimp only;lia,g _ (by lia),g _ o,?_⟩;have a:=KQ s (ns.getD (p-1) 0-1).toNat;have b:=KQ s (ns.getD p 0-1).toNat;exact⟨Int.mul_nonneg a.1 b.1,Int.le_trans (QI a.2 b.2 b.1<|by decide) (by decide)⟩
  ·exact u ((Sv v o).trans n) m j
def MB{ps:Zu}{f:Int->Int}{b:List Mo}(l:ps.length<=40)(h:Mv ps f (Jk 1 ps.length) b):b.length<=1600:=by
 have j:=h.len;have g:=(Kb f<|Jk 1 ps.length).2;rw[U8]at g;have i:(ps.length:Int)*(ps.length:Int)<=40*40:=QI (by lia) (by lia) (by lia) (by lia);lia
end M
namespace Pu
open L2 Own M
def Rk.nat {i:Int} (h:0<=i/\i<=160000000000) (k b:Nat):Rk (.int i) k b:=by
 have c:(160000000001:Nat)<=10 ^ 23:=by decide
 exact .int (by lia) k b
def Rk.ints {ns:Zv} (h:∀n∈ns,0<=n/\n<=160000000000):Rk (py<|.lst<|ns.map D.int) 1 ns.length:=by
 have e:py (.lst<|ns.map D.int)=.list (ns.map PyData.int):=by unfold py;rw[Kv];rfl
 rw[e];exact .list (RkA.map (b:=0) λn f=>.nat (h n f) _ _) (by lia)
def Rk.pairs {ps:Zu} (h:∀q∈ps,(0<=q.1/\q.1<=1000)/\(0<=q.2/\q.2<=1000)):Rk (py<|plD ps) 2 (ps.length*3):=by
 have e:py (plD ps)=.list (ps.map λq=>.tuple [.int q.1,.int q.2]):=by unfold plD py;rw[Kv];rfl
 rw[e];exact .list (RkA.map (b:=2) λq hq=>.tuple (b:=2) (.cons (b1:=0) (b2:=1) (.nat (by have:=h q hq;lia) _ _) (.cons (b1:=0) (b2:=0) (.nat (by have:=h q hq;lia) _ _) (.nil _ _)<|by lia)<|by lia)) (by lia)
def Rk.mvs {f:List Mo} (h:∀m∈f,(0<=m.1/\m.1<=40)/\(0<=m.2.1/\m.2.1<=40)/\(0<=m.2.2.1/\m.2.2.1<=40)/\(0<=m.2.2.2/\m.2.2.2<=1000000)):Rk (py<|.lst<|f.map mvD) 2 (f.length*5):=by
 have e:py (.lst<|f.map mvD)=.list (f.map λm=>.tuple [.int m.1,.int m.2.1,.int m.2.2.1,.int m.2.2.2]):=by unfold py;rw[Kv];rfl
 rw[e];exact .list (RkA.map (b:=4) λm g=>.tuple (b:=4) (.cons (b1:=0) (b2:=3) (.nat (by have:=h m g;lia) _ _) (.cons (b1:=0) (b2:=2) (.nat (by have:=h m g;lia) _ _) (.cons (b1:=0) (b2:=1) (.nat (by have:=h m g;lia) _ _) (.cons (b1:=0) (b2:=0) (.nat (by have:=h m g;lia) _ _) (.nil _ _)<|by lia)<|by lia)<|by lia)<|by lia)) (by lia)
def HB(ns:Zv):okS (.lst<|ns.map D.int)=true:=by
 unfold okS;exact okSs_iff.mpr λd b=>by obtain⟨n,_,rfl⟩:=YO.mp b;rfl
def Lu(ps:Zu):okS (plD ps)=true:=by
 unfold plD okS;exact okSs_iff.mpr λd b=>by obtain⟨n,_,rfl⟩:=YO.mp b;rfl
def Zda(b:List Mo):okS (.lst<|b.map mvD)=true:=by
 unfold okS;exact okSs_iff.mpr λd f=>by obtain⟨n,_,rfl⟩:=YO.mp f;rfl
end Pu
namespace Pu
open L2 Own
section
variable {K:Zt}{mg:Zx}{E:L2.St->XK}{H0 H H1 H':Hp}{B Z Z':Addr->Prop}{σ:L2.St}{γ:Γ}
abbrev PTL:=Γ->(List (List D)->Prop)->(Str->Prop)->Prop
noncomputable def pLn:PTL:=λ_ R _=>R []
noncomputable def pLc(a:PTE)(r:PTL):PTL:=λγ R X=>a γ (λs=>match s with
 | .own (.lst f)=>Jz f=true/\r γ (λb=>R (f::b)) X
 |_=>False) X
def Tp(K:Zt)(mg:Zx)(E:L2.St->XK)(g:Bool)(t:TA)(r:PTL):Prop:=∀(H0:Hp) (B:Addr->Prop) (H:Hp) (σ:L2.St) (γ:Γ) (R:List (List D)->Prop) (X:Str->Prop) (Q:List V->Hp->Prop),Jf K H0 B H σ γ->r γ R X->
 (∀(b:List (Addr×List D)) (H':Hp),R (b.map (·.2))->Same H H'->(∀c∈b,(H c.1=none\/g=false/\DX γ σ c.1)/\Jz c.2=true/\∃f,H' c.1=some (.lst f)/\Rps K H' c.2 f)->(b.map (·.1)).Nodup->Q (b.map λc=>V.ref c.1) H')->
 (∀c H',X c->Same H H'->XE mg (E σ) c H')->t σ H Q
def Ra:Tp K mg E true JS pLn:=λ_ _ H _ _ _ _ _ _ h q _=>q [] H h (Same.refl _) (λc b=>by cases b) Qi
def sl_cons{u:Bool}{te:TE}{a:PTE}{n:TA}{r:PTL}(T:VZ K mg E te a)(N:Tp K mg E u n r):Tp K mg E u (J3 te n) (pLc a r):=by
 intro H0 B H σ γ R X Q f h q o;refine T H0 B H σ γ _ X _ f h (λs v H1 i j J=>?_) o;have g:=f.grow j;split at i
 ·rename_i U;obtain⟨a,rfl,a0,G,a1,a2⟩:=J;refine N H0 B H1 σ γ _ X _ g i.2 (λY H2 M l p L=>?_) λc H' b S'=>o c H' b (j.trans S');refine q ((a,U)::Y) H2 M (j.trans l) (λc b=>?_) ?_
  ·rcases YA.mp b with rfl|b
   ·exact⟨.inl (a0 a rfl),i.1,G,l _ _ a1,Rps.mono (off_sub.trans l) a2⟩
   ·obtain⟨C,A,y⟩:=p c b;exact⟨C.imp (λz=>j.free z) id,A,y⟩
  ·refine Wi.mpr ⟨λz=>?_,L⟩;obtain⟨c,b,x⟩:=YO.mp z;rcases(p c b).1 with w|⟨_,w⟩
   ·rw[show c.1=a from x,a1]at w
    cases w
   ·rw[show c.1=a from x]at w
    have:=f.zm a (.inr w)
    rw[a0 a rfl]at this;exact this
 ·exact i.elim
def ME{L:Addr}{f:List (Addr×List D)}(l:H L=none)(n:∀b,Z b->Mut (H b))(k2:∀c∈f,Jz c.2=true/\∃vs,H c.1=some (.lst vs)/\Rps K H c.2 vs)(k3:(f.map (·.1)).Nodup) :
  OR K (off (λb=>Z b\/(O.nsl L f).adr L b)<|upd H L<|.lst (f.map λc=>V.ref c.1)) (upd H L<|.lst (f.map λc=>V.ref c.1)) L (.nsl L f):=by
 have i:=Jy (o:=.lst (f.map λc=>V.ref c.1)) l
 have p:∀b,Z b\/(O.nsl L f).adr L b->Mut (upd H L (.lst (f.map λc=>V.ref c.1)) b):=λb z=>by
  rcases z with z|z|⟨c,h,z⟩
  ·exact Uy i (n b z)
  ·rw[z,Js];trivial
  ·obtain⟨_,j,g,_⟩:=k2 c h;rw[z,i _ _ g];trivial
 refine⟨rfl,Js,λc h=>?_,Wi.mpr ⟨λz=>?_,k3⟩⟩
 ·obtain⟨s,j,r,q⟩:=k2 c h;exact⟨j,i _ _ r,Rps.off p (Rps.mono i q) s⟩
 ·obtain⟨c,h,u⟩:=YO.mp z;obtain⟨_,j,g,_⟩:=k2 c h;rw[show c.1=L from u,l]at g
  cases g
noncomputable def MA(r:PTL):PTE:=λγ R X=>r γ (λb=>b.length<=1000/\∀(x:Addr) (f:List (Addr×List D)),f.map (·.2)=b->R (.own<|.nsl x f)) X
def GX{n:TA}{r:PTL}(v:Tp K mg E true n r):VZ K mg E (SS n) (MA r):=by
 intro H0 B H σ γ R X Q g h q s;refine v H0 B H σ γ _ X _ g h (λw H1 p l o u=>?_) s;refine⟨by rw[Yy];have:=p.1;rw[Yy]at this;exact Tr this,λL i=>?_⟩;refine q _ _ _ (p.2 L w rfl) (l.trans<|Jy i) ⟨L,rfl,λb f=>?_,ME i (λb z=>Uy l (g.zm b z)) (λc j=>(o c j).2) u⟩;rcases f with f|⟨c,j,f⟩
 ·rw[f];exact l.free i
 ·rw[f];exact(o c j).1.resolve_right λz=>by cases z.1
end
end Pu
namespace Stp
open PySem PyProof.Rows
open Stb (Pz PU NP XX)
noncomputable def KT(b:Keyed->Int)(xs:Array Keyed)(i:Nat):Int:=((xs[i]?).map b).getD 0
def Ph(b:Keyed->Int)(xs:Array Keyed)(k:Nat):Prop:=∀i j,i<=j->j<k->KT b xs i<=KT b xs j
def Sb{b:Keyed->Int}{xs ys:Array Keyed}{i j:Nat}(h:xs[i]?=ys[j]?):KT b xs i=KT b ys j:=by unfold KT;rw[h]
def Oi{f:Keyed->Int}{xs:Array Keyed}{b d:Nat}(h:b<xs.size)(i:d<=b)(k:Nat):KT f (bubble xs b d) k=if k=b-d then KT f xs b else if b-d<k/\k<=b then KT f xs (k-1)else KT f xs k:=by
 have e:=Qo h d i k
 repeat' split
 all_goals (rename_i g;first|(rename_i j;simp only[g,j,if_true,Ws]at e)|simp only[g,if_true,Ws]at e)
 all_goals exact Sb (by first|exact e|simpa [*]using e)
def Cu{b:Keyed->Int}{xs:Array Keyed}{i j:Nat}(g:j<=xs.size)(k:Nat):KT b (mirror xs i j ((j-i) / 2)) k=if i<=k/\k<j then KT b xs (i+j-1-k)else KT b xs k:=by
 have e:=WR (i:=i) g k;by_cases f:i<=k/\k<j
 ·rw[Y5 f]at e ⊢;exact Sb e
 ·rw[Y4 f]at e ⊢;exact Sb e
def DM{b:Keyed->Int}{xs:Array Keyed}{i j:Nat}(f:j<=xs.size)(h:∀k,i<=k->k<j->KT b xs k=KT b xs (j-1))(k:Nat):KT b (mirror xs i j ((j-i) / 2)) k=KT b xs k:=by
 rw[Cu f];split
 ·rw[h (i+j-1-k) (by lia) (by lia),h k (by lia) (by lia)]
 ·rfl
structure SB (κ:SortKind) (a₀:Array Keyed) (st:SortSt):Prop where
 perm:(arrOf st).Perm a₀
 kind:kindOf st=κ
 failed:failedOf st=none
 pend:pendingOf st=#[]
def SB.size {κ:SortKind}{a₀:Array Keyed}{st:SortSt} (h:SB κ a₀ st):(arrOf st).size=a₀.size:=h.perm.size_eq
def SB.setArr {κ:SortKind}{a₀:Array Keyed}{st:SortSt} (h:SB κ a₀ st) {xs:Array Keyed} (p:xs.Perm (arrOf st)):SB κ a₀ (setArr st xs):=⟨p.trans h.perm,h.kind,h.failed,h.pend⟩
def Xm(prog:Program)(w:World)(A:Around)(E:Zy)(s:Shared)(κ:SortKind)(b:Keyed->Int)(a₀:Array Keyed):Prop:=
 ∀{st:SortSt} {i j:Nat} {Q:Option Bool->SortSt->Prop},SB κ a₀ st->i<a₀.size->j<a₀.size->Q (some<|decide (KT b (arrOf st) i<KT b (arrOf st) j)) st->wpS (model prog w) A E s (ltAt' i j) Q st
structure At (κ:SortKind) (a₀:Array Keyed) (st:SortSt) (zs:Array Nat) (n:Nat):Prop where
 base:SB κ a₀ st
 perm:zs.Perm (Array.range a₀.size)
 look:∀i:Nat,(arrOf st)[i]?=(zs[i]?).bind λk=>a₀[k]?
 low:∀i,i<n->Pz zs i<n
 idle:∀i,n<=i->i<a₀.size->Pz zs i=i
section
variable {κ:SortKind}{a₀:Array Keyed}{st:SortSt}{zs:Array Nat}{n:Nat}
def At.size (h:At κ a₀ st zs n):zs.size=a₀.size:=by rw[h.perm.size_eq,Array.size_range]
def At.grow {m:Nat} (h:At κ a₀ st zs n) (b:n<=m) (j:m<=a₀.size):At κ a₀ st zs m:=
 ⟨h.base,h.perm,h.look,λi f=>by
  by_cases q:i<n
  ·exact YM (h.low i q) b
  ·rw[h.idle i (by lia) (by lia)];exact f,λi l g=>h.idle i (by lia) g⟩
def At.bub {b d m:Nat} (h:At κ a₀ st zs n) (f:b<a₀.size) (g:d<=b) (lo:∀i,i<m->Pz (bubble zs b d) i<m) (j:∀i,m<=i->i<a₀.size->Pz (bubble zs b d) i=i) :
  At κ a₀ (setArr st<|bubble (arrOf st) b d) (bubble zs b d) m:=
 ⟨h.base.setArr (bubble_perm _ _ _),(bubble_perm _ _ _).trans h.perm,λi=>by
  show(bubble (arrOf st) b d)[i]?=_;rw[Qo (by rw[h.base.size];exact f) d g,Qo (by rw[h.size];exact f) d g,h.look,h.look,h.look]
  repeat' split
  all_goals rfl,lo,j⟩
def At.mir {i j m:Nat} (h:At κ a₀ st zs n) (b:j<=a₀.size) (lo:∀k,k<m->Pz (mirror zs i j ((j-i) / 2)) k<m) (f:∀k,m<=k->k<a₀.size->Pz (mirror zs i j ((j-i) / 2)) k=k) :
  At κ a₀ (setArr st<|mirror (arrOf st) i j ((j-i) / 2)) (mirror zs i j ((j-i) / 2)) m:=
 ⟨h.base.setArr (mirror_perm _ _ _ _),(mirror_perm _ _ _ _).trans h.perm,λk=>by
  show(mirror (arrOf st) i j ((j-i) / 2))[k]?=_;rw[WR (by rw[h.base.size];exact b),WR (by rw[h.size];exact b),h.look,h.look];split<;>rfl,lo,f⟩
end
def Lx(b:Keyed->Int)(xs:Array Keyed)(zs:Array Nat)(i j:Nat):Prop:=KT b xs i<KT b xs j\/(KT b xs i=KT b xs j/\Pz zs i<Pz zs j)
def Asc(b:Keyed->Int)(xs:Array Keyed)(zs:Array Nat)(n:Nat):Prop:=∀i j,i<j->j<n->Lx b xs zs i j
def Dsc(b:Keyed->Int)(xs:Array Keyed)(zs:Array Nat)(n:Nat):Prop:=∀i j,i<j->j<n->Lx b xs zs j i
def Asc.sorted {b:Keyed->Int}{xs:Array Keyed}{zs:Array Nat}{n:Nat} (h:Asc b xs zs n):Ph b xs n:=λi j g f=>by
 by_cases q:i=j
 ·subst q;exact Wh _
 ·rcases h i j (by lia) f with z|z
  ·lia
  ·lia
def Asc.more {κ:SortKind}{f:Keyed->Int}{a₀:Array Keyed}{st:SortSt}{zs:Array Nat}{n m:Nat} (h:Asc f (arrOf st) zs n) (A:At κ a₀ st zs n) (l:Ph f (arrOf st) m) (p:m<=a₀.size):Asc f (arrOf st) zs m:=λi j b o=>by
 by_cases q:j<n
 ·exact h i j b q
 ·have e:=l i j (by lia) o;have s:=A.idle j (by lia) (by lia)
  have r:Pz zs i<j:=by
   by_cases g:i<n
   ·exact YM (A.low i g) (by lia)
   ·rw[A.idle i (by lia) (by lia)];exact b
  by_cases z:KT f (arrOf st) i<KT f (arrOf st) j
  ·exact .inl z
  ·exact .inr ⟨by lia,by lia⟩
section
variable {prog:Program}{w:World}{A:Around}{E:Zy}{s:Shared}{a₀:Array Keyed}{κ:SortKind}{Kf:Keyed->Int}
def A6{st:SortSt}{a nrem:Nat}{Q:AscSt->SortSt->Prop}(h0:Xm prog w A E s κ Kf a₀)(hn:nrem<=a₀.size)(h1:1<=a)(ha:a<=nrem)(hB:SB κ a₀ st)(hs:Ph Kf (arrOf st) a)(h:∀n,a<=n->n<=nrem->Ph Kf (arrOf st) n->(n=nrem\/KT Kf (arrOf st) n<KT Kf (arrOf st) (n-1))->Q (none,n) st):wpS (model prog w) A E s (ascLoop a nrem) Q st:=by
 unfold ascLoop;refine W9 (I:=λx c st'=>st'=st/\c=(none,x)/\Ph Kf (arrOf st) x) ?step ?fin ⟨rfl,rfl,hs⟩
 case fin=>
  rintro c st' ⟨rfl,rfl,F⟩;rw[show max a nrem=nrem by lia]at F ⊢;exact h nrem ha (Y1 _) F (.inl rfl)
 case step=>
  rintro x c st' hax hxn ⟨rfl,rfl,F⟩
  dsimp only
  refine YF (h0 hB (by lia) (by lia) ?_);by_cases hl:KT Kf (arrOf st') x<KT Kf (arrOf st') (x-1)
  ·simp only[hl,WT,if_true];exact YZ (h x hax (by lia) F<|.inr hl)
  ·simp only[hl,WX,YW,Ws];refine YZ ⟨rfl,rfl,λi j hij hj=>?_⟩;by_cases q:j<x
   ·exact F i j hij q
   ·have:j=x:=by lia
    subst this;by_cases z:i=j
    ·subst z;exact Wh _
    ·have:=F i (j-1) (by lia) (by lia)
     lia
def ins{st:SortSt}{zs:Array Nat}{n ok:Nat}{Q:Bool->SortSt->Prop}(h0:Xm prog w A E s κ Kf a₀)(hn:n<=a₀.size)(hok:ok<=n)(hA:At κ a₀ st zs ok)(hs:Asc Kf (arrOf st) zs ok)(h:∀st' zs',At κ a₀ st' zs' n->Asc Kf (arrOf st') zs' n->Q true st'):wpS (model prog w) A E s (binarySort' 0 n ok) Q st:=by
 rw[binarySort'_eq];simp only[Vq]
 refine YF (wpS_mono (W9 (I:=λk c st'=>c=(none,())/\∃z,At κ a₀ st' z (min k n)/\Asc Kf (arrOf st') z (min k n))
  (Q:=λc st'=>c=(none,())/\∃z,At κ a₀ st' z n/\Asc Kf (arrOf st') z n) ?step ?fin ⟨rfl,zs,hA.grow (by lia) (by lia),λi j hij hj=>hs i j hij (by lia)⟩) ?post)
 case post=>
  rintro c st' ⟨rfl,z,a,b⟩;exact YZ (h st' z a b)
 case fin=>
  rintro c st' ⟨hc,z,a,b⟩;rw[show min (max (max ok 1) n) n=n by lia]at a b;exact⟨hc,z,a,b⟩
 case step=>
  rintro k c st' hak hkn ⟨rfl,z,a,b⟩;rw[show min k n=k by lia]at a b;have hk:k<a₀.size:=by lia
  refine YF (wpS_mono (W9 (I:=λx c st''=>st''=st'/\∃l r,c=(none,l,r)/\l<=r/\r<=k/\r-l<=k-x/\
    (∀i,i<l->KT Kf (arrOf st') i<=KT Kf (arrOf st') k)/\∀i,r<=i->i<k->KT Kf (arrOf st') k<KT Kf (arrOf st') i)
   (Q:=λc st''=>st''=st'/\∃l r,c=(none,l,r)/\l<=k/\(∀i,i<l->KT Kf (arrOf st') i<=KT Kf (arrOf st') k)/\∀i,l<=i->i<k->KT Kf (arrOf st') k<KT Kf (arrOf st') i) ?half ?ends
   ⟨rfl,0,k,rfl,by lia,by lia,by lia,λi hi=>by lia,λi h1 h2=>by lia⟩) ?put)
  case ends=>
   rintro c st'' ⟨rfl,l,r,rfl,hlr,hrk,hm,hlo,hhi⟩
   have:l=r:=by lia
   subst this;exact⟨rfl,l,l,rfl,hrk,hlo,hhi⟩
  case half=>
   rintro x c st'' _ hxk ⟨rfl,l,r,rfl,hlr,hrk,hm,hlo,hhi⟩
   dsimp only
   by_cases hge:l>=r
   ·rw[Y5 hge]
    have:l=r:=by lia
    subst this;exact YZ ⟨rfl,l,l,rfl,hrk,hlo,hhi⟩
   ·rw[Y4 hge];refine YF (h0 a.base hk (by lia) ?_);by_cases hl:KT Kf (arrOf st'') k<KT Kf (arrOf st'') ((l+r) / 2)
    ·simp only[hl,WT,if_true];exact YZ ⟨rfl,l,(l+r) / 2,rfl,by lia,by lia,by lia,hlo,λi h1 h2=>Int.lt_of_lt_of_le hl (b.sorted _ _ h1 h2)⟩
    ·simp only[hl,WX,YW,Ws];exact YZ ⟨rfl,(l+r) / 2+1,r,rfl,by lia,by lia,by lia,λi h1=>Int.le_trans (b.sorted i ((l+r) / 2) (by lia)<|by lia) (Int.not_lt.mp hl),hhi⟩
  case put=>
   rintro c st'' ⟨rfl,l,r,rfl,hlk,hlo,hhi⟩;show wpS _ _ _ _ (do moveDown' k l;pure (ForInStep.yield (none,()))) _ _
   rw[moveDown'_eq];have hz:=a.size
   have pz:∀i,Pz (bubble z k (k-l)) i=if i=l then Pz z k else if l<i/\i<=k then Pz z (i-1)else Pz z i:=λi=>by
    rw[NP (by lia) (by lia),show k-(k-l)=l by lia]
   have kz:∀i,KT Kf (bubble (arrOf st'') k (k-l)) i=if i=l then KT Kf (arrOf st'') k else if l<i/\i<=k then KT Kf (arrOf st'') (i-1)else KT Kf (arrOf st'') i:=λi=>by
    rw[Oi (by rw[a.base.size];exact hk) (by lia),show k-(k-l)=l by lia]
   have ek:=a.idle k (Y1 _) hk;refine YF (wpS_modify<|YZ ⟨rfl,bubble z k (k-l),?_,?_⟩)
   ·rw[show min (k+1) n=k+1 by lia];refine a.bub hk (by lia) (λi hi=>?_) λi h1 h2=>?_
    ·rw[pz];split
     ·lia
     ·split
      ·have:=a.low (i-1) (by lia)
       lia
      ·have:=a.low i (by lia)
       lia
    ·rw[pz,Y4 (by lia),Y4 (by lia)];exact a.idle i (by lia) h2
   ·rw[show min (k+1) n=k+1 by lia];intro i j hij hj;show Lx Kf (bubble (arrOf st'') k (k-l)) _ i j
    have g1:∀i,i<l->KT Kf (bubble (arrOf st'') k (k-l)) i=KT Kf (arrOf st'') i/\Pz (bubble z k (k-l)) i=Pz z i:=λi hi=>by
     rw[kz,pz,Y4 (by lia),Y4 (by lia),Y4 (by lia),Y4 (by lia)];exact⟨rfl,rfl⟩
    have g2:KT Kf (bubble (arrOf st'') k (k-l)) l=KT Kf (arrOf st'') k/\Pz (bubble z k (k-l)) l=k:=by
     rw[kz,pz,Y5 rfl,Y5 rfl];exact⟨rfl,ek⟩
    have g3:∀i,l<i->i<=k->KT Kf (bubble (arrOf st'') k (k-l)) i=KT Kf (arrOf st'') (i-1)/\Pz (bubble z k (k-l)) i=Pz z (i-1):=λi h1 h2=>by
     have q:¬i=l:=by lia
     rw[kz,pz,Y4 q,Y4 q,Y5 ⟨h1,h2⟩,Y5 ⟨h1,h2⟩];exact⟨rfl,rfl⟩
    unfold Lx;by_cases hi:i<l
    ·rw[(g1 i hi).1,(g1 i hi).2];by_cases hj0:j<l
     ·rw[(g1 j hj0).1,(g1 j hj0).2];exact b i j hij (by lia)
     ·by_cases hj1:j=l
      ·subst hj1;rw[g2.1,g2.2];have a1:=hlo i hi;have a2:=a.low i (by lia);lia
      ·rw[(g3 j (by lia)<|by lia).1,(g3 j (by lia)<|by lia).2];exact b i (j-1) (by lia) (by lia)
    ·rw[(g3 j (by lia)<|by lia).1,(g3 j (by lia)<|by lia).2];by_cases hi1:i=l
     ·subst hi1;rw[g2.1];exact .inl (hhi (j-1) (by lia)<|by lia)
     ·rw[(g3 i (by lia)<|by lia).1,(g3 i (by lia)<|by lia).2];exact b (i-1) (j-1) (by lia) (by lia)
structure UB (κ:SortKind) (Kf:Keyed->Int) (a₀:Array Keyed) (st:SortSt) (x q:Nat):Prop where
 le:q+1<=x
 ex:∃zs,At κ a₀ st zs (x-(q+1))/\Dsc Kf (arrOf st) zs (x-(q+1))
 same:∀i,x-(q+1)<=i->i<x->KT Kf (arrOf st) i=KT Kf (arrOf st) (x-1)
 less:∀i,i<x-(q+1)->KT Kf (arrOf st) (x-1)<KT Kf (arrOf st) i
def UB.turn {st:SortSt}{x q:Nat} (F:UB κ Kf a₀ st x q) (hx:x<=a₀.size) :
  (∃zs,At κ a₀ (setArr st<|mirror (arrOf st) (x-(q+1)) x ((x-(x-(q+1))) / 2)) zs x/\Dsc Kf (mirror (arrOf st) (x-(q+1)) x ((x-(x-(q+1))) / 2)) zs x)/\
   ∀i,KT Kf (mirror (arrOf st) (x-(q+1)) x ((x-(x-(q+1))) / 2)) i=KT Kf (arrOf st) i:=by
 obtain⟨zs,a,d⟩:=F.ex;have n:=F.le;have p:=a.size;have b:∀i,KT Kf (mirror (arrOf st) (x-(q+1)) x ((x-(x-(q+1))) / 2)) i=KT Kf (arrOf st) i:=DM (by rw[a.base.size];exact hx) F.same;have pz:∀i,Pz (mirror zs (x-(q+1)) x ((x-(x-(q+1))) / 2)) i=_:=λi=>XX (by lia) i;refine⟨⟨_,a.mir (m:=x) hx (λi r=>?_) λi u o=>?_,λi j g l=>?_⟩,b⟩
 ·rw[pz];split
  ·rw[a.idle _ (by lia) (by lia)];lia
  ·have:=a.low i (by lia)
   lia
 ·rw[pz,Y4 (by lia)];exact a.idle i (by lia) o
 ·unfold Lx;rw[pz,pz,b,b];by_cases f:j<x-(q+1)
  ·rw[Y4 (by lia),Y4 (by lia)];exact d i j g f
  ·by_cases h:i<x-(q+1)
   ·left;rw[F.same j (by lia) l];exact F.less i h
   ·right;rw[Y5 (by lia),Y5 (by lia),a.idle _ (by lia) (by lia),a.idle _ (by lia) (by lia),F.same j (by lia) l,F.same i (by lia) (by lia)];exact⟨rfl,by lia⟩
def Pj{st:SortSt}{x q:Nat}{b:Type}{t:StateT SortSt Sem b}{Q:b->SortSt->Prop}(h:wpS (model prog w) A E s t Q (setArr st<|mirror (arrOf st) (x-(q+1)) x ((x-(x-(q+1))) / 2)))(hx:q+1<=x) :
  wpS (model prog w) A E s (if q>0 then do reverseSlice' (x-(q+1)) x;t else t) Q st:=by
 by_cases hq:q>0
 ·rw[Y5 hq];exact YF (wpS_reverse h)
 ·rw[Y4 hq];rw[show(x-(x-(q+1))) / 2=0 by lia]at h;exact h
def tail{st:SortSt}{zs:Array Nat}{n nrem:Nat}{Q:Option Nat->SortSt->Prop}(B:Xm prog w A E s κ Kf a₀)(x:nrem<=a₀.size)(q:1<=n)(l:n<=nrem)(a:At κ a₀ st zs n)(d:Dsc Kf (arrOf st) zs n)(h:∀m b f,1<=m->m<=nrem->At κ a₀ b f m->Asc Kf (arrOf b) f m->Q (some m) b):wpS (model prog w) A E s (tail3 n nrem) Q st:=by
 unfold tail3;have C:=a.size;have pz:∀i,Pz (mirror zs 0 n ((n-0) / 2)) i=_:=λi=>XX (by lia) i;have u:∀i,KT Kf (mirror (arrOf st) 0 n ((n-0) / 2)) i=_:=λi=>Cu (by rw[a.base.size];lia) i;refine YF (wpS_reverse ?_)
 have r:At κ a₀ (setArr st<|mirror (arrOf st) 0 n ((n-0) / 2)) (mirror zs 0 n ((n-0) / 2)) n:=a.mir (by lia) (λi H=>by
  rw[pz,Y5 (by lia)];exact a.low _ (by lia)) λi q z=>by
  rw[pz,Y4 (by lia)];exact a.idle i q z
 have v:Asc Kf (mirror (arrOf st) 0 n ((n-0) / 2)) (mirror zs 0 n ((n-0) / 2)) n:=λi j y G=>by
  unfold Lx;rw[pz,pz,u,u,Y5 (by lia),Y5 (by lia),Y5 (by lia),Y5 (by lia)];exact d _ _ (by lia) (by lia)
 exact YF (A6 B x q l r.base v.sorted λm p o g _=>YZ (h m _ _ (by lia) o (r.grow p<|by lia)<|Asc.more v r g<|by lia))
def NR{st:SortSt}{n nrem:Nat}{Q:DescSt->SortSt->Prop}(h0:Xm prog w A E s κ Kf a₀)(hn:nrem<=a₀.size)(hnn:n<=nrem)(F:UB κ Kf a₀ st n 0)(h:∀m q st',n<=m->m<=nrem->UB κ Kf a₀ st' m q->Q (none,m,q) st'):wpS (model prog w) A E s (descLoop n nrem) Q st:=by
 unfold descLoop;refine W9 (I:=λx c st'=>∃q,c=(none,x,q)/\UB κ Kf a₀ st' x q) ?step ?fin ⟨0,rfl,F⟩
 case fin=>
  rintro c st' ⟨q,rfl,F'⟩;rw[show max n nrem=nrem by lia]at F' ⊢;exact h nrem q st' hnn (Y1 _) F'
 case step=>
  rintro x c st' hax hxn ⟨q,rfl,F'⟩
  dsimp only
  have hB:=F'.ex.elim λz y=>y.1.base;have hle:=F'.le;refine YF (h0 hB (by lia) (by lia) ?_);by_cases hless:KT Kf (arrOf st') x<KT Kf (arrOf st') (x-1)
  ·simp only[hless,WT,if_true];obtain⟨⟨zs,a,d⟩,kz⟩:=F'.turn (by lia);refine Pj (YZ ⟨0,rfl,by lia,⟨zs,a,d⟩,λi h1 h2=>by congr 1;lia,λi hi=>?_⟩) hle;show KT Kf (mirror _ _ _ _) _<KT Kf (mirror _ _ _ _) _;rw[kz,kz,show x+1-1=x by lia];by_cases z:i<x-(q+1)
   ·exact Int.lt_trans hless (F'.less i z)
   ·rw[F'.same i (by lia) (by lia)];exact hless
  ·simp only[hless,WX,YW,Ws];refine YF (h0 hB (by lia) (by lia) ?_);by_cases hl:KT Kf (arrOf st') (x-1)<KT Kf (arrOf st') x
   ·simp only[hl,WT,if_true];exact YZ (h x q st' hax (by lia) F')
   ·simp only[hl,WX,YW,Ws];have e:KT Kf (arrOf st') x=KT Kf (arrOf st') (x-1):=by lia
    have ex:x+1-(q+1+1)=x-(q+1):=by lia
    refine YZ ⟨q+1,rfl,by lia,by rw[ex];exact F'.ex,λi h1 h2=>?_,λi hi=>?_⟩
    ·rw[show x+1-1=x by lia];by_cases hix:i=x
     ·subst hix;rfl
     ·rw[e];exact F'.same i (by lia) (by lia)
    ·rw[show x+1-1=x by lia,e];exact F'.less i (by lia)
def Pp{st:SortSt}{zs:Array Nat}{n nrem:Nat}{Q:Option Nat->SortSt->Prop}(o:Xm prog w A E s κ Kf a₀)(l:nrem<=a₀.size)(g:n+1<=nrem)(a:At κ a₀ st zs n)(d:Dsc Kf (arrOf st) zs n)(r:∀i,i<n->KT Kf (arrOf st) n<KT Kf (arrOf st) i)(h:∀m b f,1<=m->m<=nrem->At κ a₀ b f m->Asc Kf (arrOf b) f m->Q (some m) b):wpS (model prog w) A E s (descPart n nrem) Q st:=by
 unfold descPart;refine YF (wpS_lift<|Qf ⟨rfl,?_⟩);refine YF (NR o l g ⟨by lia,⟨zs,a,d⟩,λi y x=>by congr 1;lia,r⟩ λm q b p j F=>?_)
 dsimp only
 obtain⟨⟨z,v,u⟩,_⟩:=F.turn (by lia);exact Pj (tail o l (by lia) j v u h) F.le
def run{st:SortSt}{zs:Array Nat}{nrem:Nat}{Q:Option Nat->SortSt->Prop}(B:Xm prog w A E s κ Kf a₀)(G:nrem<=a₀.size)(L:1<=nrem)(a:At κ a₀ st zs 0)(h:∀m f o,1<=m->m<=nrem->At κ a₀ f o m->Asc Kf (arrOf f) o m->Q (some m) f):wpS (model prog w) A E s (countRun' 0 nrem) Q st:=by
 rw[countRun0_eq];have T:=a.size
 refine YF (A6 B G (Y1 1) L a.base (λi j v z=>by
  have:i=j:=by lia
  subst this;exact Wh _) λn r q g C=>?_)
 have p:At κ a₀ st zs n/\Asc Kf (arrOf st) zs n:=⟨a.grow (by lia) (by lia),Asc.more (n:=0) (λi j _ z=>by lia) a g (by lia)⟩
 dsimp only
 by_cases l:n=nrem
 ·rw[Y5 (by simpa using l)];exact YZ (h n st zs r q p.1 p.2)
 ·rw[Y4 (by simpa using l)];have u:KT Kf (arrOf st) n<KT Kf (arrOf st) (n-1):=C.resolve_left l;by_cases x:n>1
  ·rw[Y5 x];refine YF (B a.base (by lia) (by lia) ?_);by_cases J:KT Kf (arrOf st) 0<KT Kf (arrOf st) (n-1)
   ·simp only[J,WT,if_true];exact YZ (h n st zs r q p.1 p.2)
   ·simp only[J,WX,YW,Ws]
    have b:∀k,0<=k->k<n->KT Kf (arrOf st) k=KT Kf (arrOf st) (n-1):=λk _ M=>by
     have a1:=g 0 k (by lia) M;have a2:=g k (n-1) (by lia) (by lia);lia
    have y:∀i,KT Kf (mirror (arrOf st) 0 n ((n-0) / 2)) i=KT Kf (arrOf st) i:=DM (by rw[a.base.size];lia) b;have pz:∀i,Pz (mirror zs 0 n ((n-0) / 2)) i=_:=λi=>XX (by lia) i;refine YF (wpS_reverse<|Pp B G (by lia) (a.mir (m:=n) (by lia) (λi H=>?_) λi L N=>?_) (λi j v z=>?_) (λi H=>?_) h)
    ·rw[pz,Y5 (by lia),a.idle _ (by lia) (by lia)];lia
    ·rw[pz,Y4 (by lia)];exact a.idle i (by lia) N
    ·show Lx Kf (mirror _ _ _ _) _ _ _;unfold Lx;right;rw[pz,pz,y,y,Y5 (by lia),Y5 (by lia),a.idle _ (by lia) (by lia),a.idle _ (by lia) (by lia),b i (by lia) (by lia),b j (by lia) z];exact⟨rfl,by lia⟩
    ·show KT Kf (mirror _ _ _ _) _<KT Kf (mirror _ _ _ _) _;rw[y,y,b i (by lia) H];exact u
  ·rw[Y4 x]
   have:n=1:=by lia
   subst this;refine Pp B G (by lia) p.1 (λi j v z=>by lia) (λi H=>?_) h
   have:i=0:=by lia
   subst this;exact u
structure Done (Kf:Keyed->Int) (a₀:Array Keyed) (st:SortSt):Prop where
 perm:(arrOf st).Perm a₀
 failed:failedOf st=none
 ex:∃zs:Array Nat,zs.Perm (Array.range a₀.size)/\(∀i:Nat,(arrOf st)[i]?=(zs[i]?).bind λk=>a₀[k]?)/\Asc Kf (arrOf st) zs a₀.size
def At.done {st:SortSt}{zs:Array Nat} (a:At κ a₀ st zs a₀.size) (b:Asc Kf (arrOf st) zs a₀.size):Done Kf a₀ (setPending st ((pendingOf st).push (0,a₀.size,0)))/\pendingOf (setPending st ((pendingOf st).push (0,a₀.size,0)))=#[(0,a₀.size,0)]:=
 ⟨⟨a.base.perm,a.base.failed,zs,a.perm,a.look,b⟩,by show(pendingOf st).push _=_;rw[a.base.pend];rfl⟩
def runs{st:SortSt}{zs:Array Nat}{Q:Unit->SortSt->Prop}(h0:Xm prog w A E s κ Kf a₀)(a:At κ a₀ st zs 0)(h2:2<=a₀.size)(h64:a₀.size<64)(h:∀st',Done Kf a₀ st'->Q () st'):wpS (model prog w) A E s sortRuns' Q st:=by
 rw[sortRuns'_eq];refine YF (wpS_get ?_)
 dsimp only
 have hmr:minRun' a₀.size a₀.size 0=a₀.size:=by
  obtain⟨f,hf⟩:∃f,a₀.size=f+1:=⟨a₀.size-1,by lia⟩
  have:minRun' (f+1) a₀.size 0=a₀.size:=by rw[minRun'_succ,Y5 h64];rfl
  rwa[←hf]at this
 simp only[a.base.size,hmr]
 refine YF (wpS_mono (W9
  (I:=λx c st'=>(x=0/\c=(none,0)/\At κ a₀ st' zs 0)\/(1<=x/\c=(none,a₀.size)/\Done Kf a₀ st'/\pendingOf st'=#[(0,a₀.size,0)]))
  (Q:=λc st'=>c=(none,a₀.size)/\Done Kf a₀ st'/\pendingOf st'=#[(0,a₀.size,0)]) ?step ?fin (.inl ⟨rfl,rfl,a⟩)) ?post)
 case fin=>
  rintro c st' (⟨hx,_,_⟩|⟨_,hc,hD⟩)
  ·lia
  ·exact⟨hc,hD⟩
 case step=>
  rintro x c st' _ hx (⟨rfl,rfl,a'⟩|⟨hx1,rfl,hD⟩)
  ·dsimp only
   rw[Y4 (by lia)];simp only[Nat.sub_zero,V9,Vq];refine YF (run h0 (Y1 _) (by lia) a' λm st2 z2 hm1 hm2 a2 b2=>?_)
   dsimp only
   by_cases hlt:m<a₀.size
   ·rw[Y5 hlt];refine YF (wpS_lift<|Qf ⟨rfl,?_⟩);refine YF (ins h0 (Y1 _) hm2 a2 b2 λst3 z3 a3 b3=>?_);simp only[Bool.not_true,YW,Ws];refine YF (wpS_get ?_);rw[show(pendingOf st3).back?=none by rw[a3.base.pend];rfl];exact YF (wpS_modify<|YZ<|.inr ⟨by lia,rfl,a3.done b3⟩)
   ·rw[Y4 hlt];have hm:m=a₀.size:=by lia
    subst hm;refine YF (wpS_get ?_);rw[show(pendingOf st2).back?=none by rw[a2.base.pend];rfl];exact YF (wpS_modify<|YZ<|.inr ⟨by lia,rfl,a2.done b2⟩)
  ·dsimp only
   rw[Y5 (Y1 _)];exact YZ ⟨rfl,hD⟩
 case post=>
  rintro c st' ⟨rfl,hD,hp⟩
  dsimp only
  refine YF (wpS_mono (W9 (I:=λ_ c st''=>st''=st'/\c=(none,())) (Q:=λc st''=>st''=st'/\c=(none,())) ?_ (λ_ _ hh=>hh) ⟨rfl,rfl⟩) ?_)
  ·rintro x c st'' _ _ ⟨rfl,rfl⟩;refine YF (wpS_get ?_);rw[Y5 (by rw[hp];exact Y1 1)];exact YZ ⟨rfl,rfl⟩
  ·rintro c st'' ⟨rfl,rfl⟩;exact YZ (h _ hD)
end
end Stp
namespace Stp
open L2
def PairAt(h:Heap)(v:Value)(q:Int×Int):Prop:=∃(a:Addr) (f b:Tok),v=.ref a/\IsTup h a #[.int q.1 f,.int q.2 b]
noncomputable def UO(p q:Int×Int):Bool:=decide (p.1<q.1\/(p.1=q.1/\p.2<q.2))
section
variable {prog:Program}{w:World}{A:Around}{E:Zy}{s:Shared}
def OZ{a b:Int}{t u:Tok}{Q:Bool->Shared->Prop}(q:Q (decide (a<b)) s):wpAny (model prog w) A (oneLt' false (.int a t)<|.int b u) Q E s:=by
 rw[oneLt'_eq];refine Yw (m:=richCompare .Lt (.int a t) (.int b u)) ?_;refine lt_int (Q:=λv f=>wpAny (model prog w) A (truthOfDropped v) Q E f) ?_;exact Yz q
def MF{x y:Value}{p q:Int×Int}{Q:Bool->Shared->Prop}(hx:PairAt s.heap x p)(v:PairAt s.heap y q)(h:Q (UO p q) s):wpAny (model prog w) A (keyLt' (tuples' true) x y) Q E s:=by
 obtain⟨a,u,r,rfl,o1,B,_,n,G⟩:=hx;obtain⟨b,o,l,rfl,H,z,_,m,C⟩:=v
 have e:keyLt' (tuples' true) (.ref a) (.ref b)=(do
  let xs ←Builtin.List.listItems (.ref a)
  let j ←Builtin.List.listItems (.ref b)
  for ((p,q),i) in (xs.toList.zip j.toList).zipIdx do
   if !(←eqBool p q)then
    return (←oneLt' (true&&i==0) p q)
  return decide (xs.size<j.size)):=rfl
 rw[e];refine Yw (QE B G ?_);refine Yw (QE z C ?_);show wpAny _ _ (do let __s ←forIn [((Value.int p.1 u,Value.int q.1 o),0),((Value.int p.2 r,Value.int q.2 l),1)] _ _;_) _ _ _
 rw[Q3];simp only[bind_assoc];refine Yw (wpAny_eqBool_int ?_);by_cases f:p.1=q.1
 ·simp only[f,beq_self_eq_true,Bool.not_true,YW,Ws,pure_bind];rw[Q3];simp only[bind_assoc];refine Yw (wpAny_eqBool_int ?_);by_cases g:p.2=q.2
  ·simp only[g,beq_self_eq_true,Bool.not_true,YW,Ws,pure_bind,List.forIn_nil];refine Yz ?_
   have:UO p q=false:=by unfold UO;simp[f,g]
   rw[this]at h;exact h
  ·have:(p.2==q.2)=false:=by simpa using g
   simp only[this,Bool.not_false,if_true,bind_assoc];refine Yw (OZ ?_)
   have:UO p q=decide (p.2<q.2):=by unfold UO;simp[f]
   rw[this]at h;exact Yz h
 ·have:(p.1==q.1)=false:=by simpa using f
  simp only[this,Bool.not_false,if_true,bind_assoc];refine Yw (oneLt_int ?_)
  have:UO p q=decide (p.1<q.1):=by unfold UO;simp[f]
  rw[this]at h;exact Yz h
inductive JQ (h:Heap):Z1->Zu->Prop
 |nil:JQ h [] []
 |cons {v:Value} {p:Int×Int} {vs:Z1} {ps:Zu}:PairAt h v p->JQ h vs ps->JQ h (v::vs) (p::ps)
def M3{v:Value}{p:Int×Int}{Q:Z5->Shared->Prop}(g:PairAt s.heap v p)(h:∀t,Q (some<|.int p.1 t) s):wpAny (model prog w) A (firstOfTuple' v) Q E s:=by
 obtain⟨a,f,l,rfl,o,b,i,n,j⟩:=g
 have e:firstOfTuple' (.ref a)=(do
  if (←typeOf (.ref a)) != Value.type "tuple" then return none
  return (←Builtin.List.listItems (.ref a))[0]?):=rfl
 rw[e];refine Yw (wpAny_typeOf_ref b ?_);rw[Y4 (by rw[i];simp)];refine Yw (QE b j ?_);exact Yz (h f)
theorem BU:∀{vs:Z1}{ps:Zu}{Q:List (Z5)->Shared->Prop},JQ s.heap vs ps->(∀fs ns,IntsAre fs ns->fs.length=vs.length->Q (fs.map some) s)->wpAny (model prog w) A (vs.mapM firstOfTuple') Q E s
 |_,_,_,.nil,h=>by
  rw[List.mapM_nil];exact Yz (h [] [] .nil rfl)
 |_,_,_,.cons (p:=p) f r,h=>by
  rw[List.mapM_cons];refine Yw (M3 f λt=>?_);refine Yw (BU r λfs ns a b=>?_);exact Yz (h (.int p.1 t::fs) (p.1::ns) (.cons _ _ a)<|by simp[b])
def Lw{vs:Z1}{ps:Zu}{Q:SortKind->Shared->Prop}(g:JQ s.heap vs ps)(i:vs≠[])(h:Q (tuples' true) s):wpAny (model prog w) A (keyKind' vs.toArray) Q E s:=by
 rw[keyKind'_eq,List.mapM_toArray,map_eq_pure_bind,bind_assoc];refine Yw (BU g λfs p a b=>?_);rw[pure_bind];have o:((fs.map some).toArray.all λx=>x.isSome)=true:=by simp
 rw[Y5 o];refine Yw (Qf ?_);have n:Array.filterMap id (fs.map some).toArray=fs.toArray:=by simp
 rw[n,oneTypeOnly'_eq,List.mapM_toArray,mapM_typeOf_ints a,map_pure,pure_bind]
 match fs,a,b with
 |[],_,b=>exact(i<|WO.mp b.symm).elim
 |f::r,_,_=>
  have l:(List.map (λ_=>Value.type "int") (f::r)).toArray[0]?=some (Value.type "int"):=rfl;have j:((List.map (λ_=>Value.type "int") (f::r)).toArray.all λx=>x==Value.type "int")=true:=by simp
  rw[l]
  dsimp only
  rw[Y5 j,pure_bind];exact Yz h
def PairAt.one {h:Heap}{v:Value}{p q:Int×Int} (i:PairAt h v p) (hq:PairAt h v q):p=q:=by
 obtain⟨a,y,x,rfl,o,j,_,n,l⟩:=i;obtain⟨b,u,r,e,z,f,_,m,g⟩:=hq;cases e
 rw[j]at f;obtain rfl:=YC f;rw[l]at g;injection g with hx _;simp only[Array.mk.injEq,Q4,Value.int.injEq,and_true]at hx;exact Prod.ext hx.1.1 hx.2.1
noncomputable def JN(q:Int×Int):Int:=q.1*1000000000+q.2
def Um(q:Int×Int):Prop:=0<=q.2/\q.2<1000000000
def Za6{p q:Int×Int}(b:Um p)(hq:Um q):UO p q=decide (JN p<JN q):=by
 obtain⟨i,p2⟩:=b;obtain⟨g,f⟩:=hq;unfold UO JN;congr 1;apply propext;constructor
 ·rintro(h|⟨l,j⟩)<;>lia
 ·intro h;by_cases z:p.1<q.1
  ·exact .inl z
  ·exact .inr ⟨by lia,by lia⟩
open Classical in
noncomputable def Xu(h:Heap)(p:Keyed):Int:=if e:∃q,PairAt h p.1 q then JN e.choose else 0
def Eo{h:Heap}{p:Keyed}{q:Int×Int}(hq:PairAt h p.1 q):Xu h p=JN q:=by
 have e:∃q,PairAt h p.1 q:=⟨q,hq⟩;unfold Xu;rw[dif_pos e,e.choose_spec.one hq]
def LI{a₀:Array Keyed}(G:∀p∈a₀.toList,∃q,PairAt s.heap p.1 q/\Um q):Xm prog w A E s (tuples' true) (Xu s.heap) a₀:=by
 intro st i j Q f C B h
 have get:∀k,k<a₀.size->∃p q,(arrOf st)[k]?=some p/\PairAt s.heap p.1 q/\Um q/\KT (Xu s.heap) (arrOf st) k=JN q:=λk z=>by
  have b:k<(arrOf st).size:=by rw[f.size];exact z
  have e:(arrOf st)[k]?=some ((arrOf st)[k]):=W7 _ k b
  have m:(arrOf st)[k]∈a₀.toList:=by
   have:=f.perm.mem_iff.mp (Array.getElem_mem b)
   simpa using this
  obtain⟨q,g,o⟩:=G _ m;exact⟨_,q,e,g,o,by unfold KT;rw[e];exact Eo g⟩
 obtain⟨x,p,H,r,n,v⟩:=get i C;obtain⟨y,q,ey,py,l,u⟩:=get j B;rw[v,u,←Za6 n l]at h;rw[ltAt'_eq];refine YF (wpS_get ?_)
 dsimp only
 rw[elem'_eq,elem'_eq,H,ey];refine YF (YZ ?_);refine YF (YZ ?_);rw[lt'_eq];refine YF (wpS_get ?_);rw[f.kind];refine YF (wpS_lift<|Va<|MF r py ?_);exact⟨rfl,YZ h⟩
def JQ.get:∀{h:Heap}{vs:Z1}{ps:Zu},JQ h vs ps->vs.length=ps.length/\∀k,k<vs.length->PairAt h (vs.getD k .none) (ps.getD k (0,0))
 |_,_,_,.nil=>⟨rfl,λk f=>by simp at f⟩
 |_,_,_,.cons g r=>by
  obtain⟨a,b⟩:=r.get;refine⟨by simp[a],λk f=>?_⟩;cases k with
  |zero=>simpa using g
  |succ k=>simpa using b k (by simpa using f)
def AJ{f:Heap}{vs:Z1}{ps:Zu}(u:JQ f vs ps){xs:Array Keyed}{zs:Array Nat}(v:zs.Perm (Array.range vs.length))(look:∀i:Nat,xs[i]?=(zs[i]?).bind λk=>(vs.toArray.zip vs.toArray)[k]?)(y:Asc (Xu f) xs zs vs.length):Stb.Out (ps.map JN) Value.none vs (xs.map (·.2)).toList:=by
 obtain⟨C,x⟩:=u.get;have b:zs.toList.Perm (List.range vs.length):=by simpa using Array.perm_iff_toList_perm.mp v
 have B:zs.toList.length=vs.length:=by rw[b.length_eq,Qe]
 have zip:∀k,k<vs.length->(vs.toArray.zip vs.toArray)[k]?=some (vs.getD k .none,vs.getD k .none):=λk h=>by
  have z:k<(vs.toArray.zip vs.toArray).size:=by simp;exact h
  rw[W7 _ k z];simp[List.getD,Yx h]
 have at_:∀i (h:i<zs.toList.length),xs[i]?=some (vs.getD (zs.toList[i]) .none,vs.getD (zs.toList[i]) .none):=λi h=>by
  have g:i<zs.size:=by simpa using h
  rw[look i,W7 zs i g,←zip _ (Stb.Out.lt (d:=Value.none) b<|YD h)];rfl
 refine⟨zs.toList,b,?_,?_⟩
 ·rw[Qg];intro i j p o l
  have:=y i j l (by lia)
  have n:∀k (h:k<zs.toList.length),KT (Xu f) xs k=(ps.map JN).getD (zs.toList[k]) 0:=λk h=>by
   have lt:=Stb.Out.lt (d:=Value.none) b (YD h);unfold KT;rw[at_ k h];show Xu _ _=_;rw[Eo (x _ lt)];have r:zs.toList[k]<ps.length:=by lia
   rw[Y2,Y2,YB,Yx r];rfl
  have q:Stb.Pz zs i=zs.toList[i]:=by unfold Stb.Pz;rw[W7 zs i (by simpa using p)];rfl
  have p2:Stb.Pz zs j=zs.toList[j]:=by unfold Stb.Pz;rw[W7 zs j (by simpa using o)];rfl
  unfold Lx at this;rw[n i p,n j o,q,p2]at this;exact this
 ·refine QT λi=>?_;rw[Wo,Array.getElem?_map,YB];by_cases h:i<zs.toList.length
  ·rw[at_ i h,Yx h];rfl
  ·rw[look i,Vr zs i (by simpa using h),WE (by simpa using h)];rfl
def JQ.keep {h h':Heap}:∀{vs:Z1}{ps:Zu},JQ h vs ps->(∀a o,h.get? a=some o->o.cls=.type "tuple"->h'.get? a=some o)->JQ h' vs ps
 |_,_,.nil,_=>.nil
 |_,_,.cons ⟨a,f,b,e,o,g,c,d⟩ r,k=>.cons ⟨a,f,b,e,o,k _ _ g c,c,d⟩ (r.keep k)
def JQ.all:∀{h:Heap}{vs:Z1}{ps:Zu},JQ h vs ps->∀v∈vs,∃q∈ps,PairAt h v q
 |_,_,_,.cons g r,v,hm=>by
  rcases YA.mp hm with rfl|hm
  ·exact⟨_,Wb,g⟩
  ·obtain⟨q,f,b⟩:=r.all v hm;exact⟨q,YT _ f,b⟩
def LR{a:Addr}{n:Nat}{vs:Z1}{ps:Zu}{P:PySem.Fin->Shared->Prop}(B:s.heap.get? a=some (seqObj "list" vs.toArray n))(hv:JQ s.heap vs ps)(hs:∀q∈ps,Um q)(G:vs.length<64)(h:∀f:Z7,Stb.Out (ps.map JN) Value.none vs f.toList->P (.done<|.ret .none) {s with heap:=sortedHeap s.heap a vs f}):wpAny (model prog w) A (Builtin.«list.sort» {pos:=[Value.ref a]}) P E s:=by
 have Y:=Wf s.heap a (Obj.mapSeq λ_=>(#[]:Z7));obtain⟨v,x⟩:∃v,(s.heap.update a (Obj.mapSeq λ_=>(#[]:Z7))).get? a=some (seqObj "list" #[] v):=⟨_,get?_update_seq B λ_=>#[]⟩;have C:vs.length<=sizeLine:=by rw[Wx];lia
 rw[list_sort_plain];refine Yw (QE B rfl ?_);refine Yw (Ql B rfl ?_ (by rw[YL];exact C)<|Wp _);refine Yw (seqEpoch_at x rfl ?_);refine Yw (wpAny_newTuple ?_ C);refine Yw (Vb ?_<|Wp _);refine W8 ?_;have M:∀b o,(s.heap.update a (Obj.mapSeq λ_=>(#[]:Z7))).get? b=some o->(((s.heap.update a (Obj.mapSeq λ_=>(#[]:Z7))).push (seqObj "tuple" vs.toArray 0)).push (seqObj "list" #[] 0)).get? b=some o:=λb o g=>Y0 _ (Y0 _ g);have y:=M _ _ x
 have l:JQ (((s.heap.update a (Obj.mapSeq λ_=>(#[]:Z7))).push (seqObj "tuple" vs.toArray 0)).push (seqObj "list" #[] 0)) vs ps:=hv.keep λb o g hc=>by
  by_cases z:b=a
  ·rw[z,B]at g;obtain rfl:=YC g;exact absurd hc (by unfold seqObj;simp)
  ·exact M _ _ ((Y.2 b z).trans g)
 show wpAny _ _ _ _ _ {s with heap:=((s.heap.update a (Obj.mapSeq λ_=>(#[]:Z7))).push (seqObj "tuple" vs.toArray 0)).push (seqObj "list" #[] 0)}
 have fin:∀f:Z7,Stb.Out (ps.map JN) Value.none vs f.toList->f.size<=sizeLine:=λf h=>by
  have:=h.length
  rw[We]at this;rw[this];exact C
 have zs:(vs.toArray.zip vs.toArray).size=vs.length:=by simp
 have rp:(Array.range (vs.toArray.zip vs.toArray).size).Perm (Array.range vs.length):=by rw[zs]
 have L:∀i:Nat,(vs.toArray.zip vs.toArray)[i]?=((Array.range (vs.toArray.zip vs.toArray).size)[i]?).bind λk=>(vs.toArray.zip vs.toArray)[k]?:=λi=>by
  by_cases h:i<(vs.toArray.zip vs.toArray).size
  ·have e:(Array.range (vs.toArray.zip vs.toArray).size)[i]?=some i:=by
    rw[W7 (Array.range _) i (by simpa using h),Array.getElem_range]
   rw[e];rfl
  ·rw[Vr (Array.range _) i (by simpa using h),Vr _ i h];rfl
 have rz:∀i,i<(vs.toArray.zip vs.toArray).size->Stb.Pz (Array.range (vs.toArray.zip vs.toArray).size) i=i:=λi h=>by
  unfold Stb.Pz;rw[W7 (Array.range _) i (by simpa using h)];simp
 dsimp only
 by_cases r:vs.toArray.size<2
 ·rw[Y5 r,Y5 r];refine Yw (Yz ?_);rw[StateT.run_pure];refine Yw (Yz ?_);have o:=AJ l rp L (λi j hij hj=>by rw[YL]at r;lia);refine Yw (seqEpoch_at y rfl ?_);refine Yw (Ql y rfl ?_ (Wp _)<|Nat.le_succ_of_le<|fin _ o);show wpAny _ _ (if (v != v)=true then _ else _) _ _ _;rw[Y4 (by simp)];exact Yz (h _ o)
 ·rw[Y4 r,Y4 r];rw[YL]at r;refine Yw (Lw l (λz=>by rw[z]at r;exact r (by decide)) ?_)
  refine Yw (Wl (Stp.runs (κ:=tuples' true) (a₀:=vs.toArray.zip vs.toArray) (st:=SortSt.mk' (tuples' true) (vs.toArray.zip vs.toArray) #[] 7 none) (zs:=Array.range (vs.toArray.zip vs.toArray).size)
   (Q:=λ_ u=>Done (Xu (((s.heap.update a (Obj.mapSeq λ_=>(#[]:Z7))).push (seqObj "tuple" vs.toArray 0)).push (seqObj "list" #[] 0))) (vs.toArray.zip vs.toArray) u)
   (LI λp N=>?_) ⟨⟨Array.Perm.refl _,rfl,rfl,rfl⟩,Array.Perm.refl _,L,λi hi=>by lia,λi _ h=>rz i h⟩ (by rw[zs];lia) (by rw[zs];exact G) λu a=>a) ?_ λ_ _ e=>e)
  ·rw[Array.toList_zip]at N;obtain⟨q,q1,q2⟩:=l.all p.1 (by simpa using(Vm<|show(p.1,p.2)∈_ from N).1)
   exact⟨q,q2,hs q q1⟩
  rintro⟨⟨⟩,u⟩ s' ⟨rfl,T⟩;obtain⟨z,J,U,H⟩:=T.ex;rw[zs]at J H;have o:=AJ l J U H
  dsimp only
  refine Yw (seqEpoch_at y rfl ?_);refine Yw (Ql y rfl ?_ (Wp _)<|Nat.le_succ_of_le<|fin _ o);rw[T.failed];show wpAny _ _ (if (v != v)=true then _ else _) _ _ _;rw[Y4 (by simp)];exact Yz (h _ o)
def Rf{l:Addr}{vs:Z1}{ps:Zu}{Q:Zy}(u:s.heap.IsList l vs.toArray)(p:JQ s.heap vs ps)(r:∀q∈ps,Um q)(j:vs.length<64)(h:∀f:Z7,Stb.Out (ps.map JN) Value.none vs f.toList->Q (.ref (s.heap.objs.size+1)) {s with heap:=sortedAll s.heap vs f}):wpAny (model prog w) A (call (.builtin "sorted") [.ref l]) Q E s:=by
 refine call_function_entry_kw kind_sorted plain_sorted entry_sorted (args_sorted1 _) ?_;unfold Builtin.«sorted»;refine Yw (m:=checkCount "sorted" 1 1 _) (Yz ?_);refine Yw (collect_list (vs:=vs) u ?_<|by rw[Wx];lia);refine Yw (Vb ?_<|by rw[Wx];lia);show wpAny _ _ _ _ _ {s with heap:=(Own.JL s.heap vs).push (seqObj "list" vs.toArray 0)}
 have n:((Own.JL s.heap vs).push (seqObj "list" vs.toArray 0)).get? (Own.JL s.heap vs).objs.size=some (seqObj "list" vs.toArray 0):=Y7 _ rfl;have i:JQ ((Own.JL s.heap vs).push (seqObj "list" vs.toArray 0)) vs ps:=p.keep λb o g _=>Y0 _ (Own.Fm g);show wpAny _ _ (do let _ ←holding _ (call (.builtin "list.sort") [.ref (Own.JL s.heap vs).objs.size] _);_) _ _ _
 refine Yw (W8<|wpAny_call_entry_kw slot_list_sort ⟨_,n,rfl⟩ entry_list_sort ?body<|args_list_sort _);refine LR (s:={s with heap:=(Own.JL s.heap vs).push (seqObj "list" vs.toArray 0)}) n i r j λf o=>⟨_,rfl,?_⟩
 have z:=h f o;unfold sortedAll at z;rw[←Own.L9 s.heap vs]at z;exact Yz ⟨_,rfl,z⟩
end
section
variable {X:Cx}{K:Zt}
theorem AF{pins:Zw}{f:L2.St}{H:Hp}{s:Shared}(I:Inv X pins f H s):∀{xs:List V}{vs:Z1}{ps:Zu},Vals xs vs->xs.length=ps.length->(∀(i:Nat) p,ps[i]?=some p->∃v,xs[i]?=some v/\M.JU H v p)->JQ s.heap vs ps
 |_,_,[],.nil,_,_=>.nil
 |_,_,p::ps,.cons (a:=x) (b:=u) j r,z,h=>by
  obtain⟨v,e,a,rfl,A⟩:=h 0 p rfl;cases e
  obtain rfl:u=Value.ref a:=j;obtain⟨_,y,l,g⟩:=(show ObjOk X.prog X.w H s.heap a (.tup [.int p.1,.int p.2])from I.hok a _ A)
  obtain⟨o,n,rfl⟩:=Own.Bb l;exact .cons ⟨a,o,n,rfl,g⟩ (AF I r (by simpa using z) λi q hq=>h (i+1) q hq)
def Da(T:autoParam (X.K=K) au_0):JC X (.builtin "sorted") (λxs H Q=>∃(p:Addr) (ys:List V) (ps:Zu),xs=[.ref p]/\ps.length<64/\(∀q∈ps,Um q)/\SqL K H p ys/\ys.length=ps.length/\(∀(i:Nat) q,ps[i]?=some q->∃v,ys[i]?=some v/\M.JU H v q)/\
  ∀(l:Addr) (zs:List V),H l=none->Stb.Out (ps.map JN) V.non ys zs->Q (.ref l) (upd H l<|.lst zs)):=by
 subst T;intro pins s σ H xs us Q I y h;obtain⟨p,ys,ps,rfl,U,B,N,E,C,q⟩:=h;obtain⟨u,rfl,z⟩:=y.one;obtain rfl:u=Value.ref p:=z;obtain⟨g,r,A,_⟩:=I.list N;have j:=r.length;refine Rf A.isList (AF I r E C) B (by lia) λf o=>?_;obtain⟨e,L⟩:=sortedAll_at s.heap g f;obtain⟨n,x,h2,Y⟩:=o;have J:H (s.heap.objs.size+1)=none:=I.hok.fresh (Qh _);have w:∀i∈n,i<g.length:=λi G=>Stb.Out.lt (d:=Value.none) x G
 have hq:(n.map λi=>ys.getD i V.non).length<=sizeLine:=by
  rw[Yy,x.length_eq,Qe,Wx];lia
 refine⟨.ref (s.heap.objs.size+1),upd H (s.heap.objs.size+1) (.lst (n.map λi=>ys.getD i V.non)),I.laid (t':=s.toks) (λb o e=>sortedAll_old e) (Qh _) ⟨hq,f.toList,e,by rw[Y];exact Lam.Bg r w,?_⟩,rfl,q _ _ J ⟨n,by rw[j];exact x,h2,rfl⟩⟩;simpa [seqObj]using L
end
end Stp
namespace Pu
open L2 Own M
section
variable {K:Zt}{mg:Zx}{E:L2.St->XK}
def lexLe(p q:Int×Int):Prop:=p.1<q.1\/(p.1=q.1/\p.2<=q.2)
def Oq{p q:Int×Int}(b:Stp.Um p)(hq:Stp.Um q)(h:Stp.JN p<=Stp.JN q):lexLe p q:=by
 obtain⟨i,p2⟩:=b;obtain⟨g,f⟩:=hq;unfold Stp.JN at h;by_cases z:p.1<q.1
 ·exact .inl z
 ·exact .inr ⟨by lia,by lia⟩
def Gq:List S->(S->Prop)->Prop
 |[s],R=>∃b:Zu,s.d=.lst (b.map prD)/\b.length<64/\(∀q∈b,Stp.Um q)/\∀os:Zu,os.Perm b->os.Pairwise lexLe->R (.own<|.lst<|os.map prD)
 |_,_=>False
def Dw{B:TA}{r:PTA}(hr:Jt K mg E B r):VZ K mg E (tCB (λxs H Q=>∃(p:Addr) (ys:List V) (ps:Zu),xs=[.ref p]/\ps.length<64/\(∀q∈ps,Stp.Um q)/\SqL K H p ys/\ys.length=ps.length/\(∀(i:Nat) q,ps[i]?=some q->∃v,ys[i]?=some v/\JU H v q)/\
  ∀(l:Addr) (zs:List V),H l=none->Stb.Out (ps.map Stp.JN) V.non ys zs->Q (.ref l) (upd H l<|.lst zs)) B) (pCB Gq r):=by
 refine Uv hr λH0 H H1 Z ss vs R Q s0 C hm Y h q=>?_;unfold Gq at h;split at h
 ·rename_i s;obtain⟨v,rfl,t1⟩:=Y.one_inv;obtain⟨ps,e,hz,N,k⟩:=h;have y:=t1.rp s0;rw[e]at y;obtain⟨a',ea,ys,M,hl,hp⟩:=y.pairs_inv;obtain⟨a,us,rfl,U,G⟩:=y.lst_inv;cases ea
  rw[U]at M;cases M
  have A:=G.len;rw[Yy]at A;refine⟨_,_,ps,rfl,hz,N,SqL.of U,A,λi x hx=>hp i x hx,λl zs J o=>?_⟩;obtain⟨n,o1,o2,rfl⟩:=o;have g:∀i∈n,i<ys.length:=λi u=>Stb.Out.lt (d:=V.non) o1 u;have ro:Rps K (off Z H1) (ps.map prD) ys:=Rps.off (λb z=>Uy C (hm b z)) G (Ar ps)
  have eo:(n.map λi=>(ps.map prD).getD i D.non)=(n.map λi=>ps.getD i (0,0)).map prD:=by
   rw[Wa];refine W4 λi u=>?_;have w:i<ps.length:=by have:=g i u;lia
   show _=prD (ps.getD i (0,0));rw[Y2,Y2,YB,Yx w];rfl
  have perm:(n.map λi=>ps.getD i (0,0)).Perm ps:=by
   refine(o1.map _).trans (List.Perm.of_eq ?_);refine Vf (by simp[A]) λi h2 h3=>?_;simp[List.getD,Yx h3]
  have pw:(n.map λi=>ps.getD i (0,0)).Pairwise lexLe:=by
   rw[V5];refine o2.imp_of_mem λ{i j} u hj h=>?_;have L:i<ps.length:=by have:=g i u;lia
   have w:j<ps.length:=by have:=g j hj;lia
   have f:∀k,k<ps.length->(ps.map Stp.JN).getD k 0=Stp.JN (ps.getD k (0,0))/\Stp.Um (ps.getD k (0,0)):=λk T=>by
    rw[Y2,Y2,YB,Yx T];exact⟨rfl,N _ (YD T)⟩
   unfold Stb.Lz at h;rw[(f i L).1,(f j w).1]at h;exact Oq (f i L).2 (f j w).2 (by lia)
  refine q _ _ _ (k _ perm pw) (Jy J) (Xz C J ?_);rw[←eo];exact Lam.Sr ro g
 ·exact h.elim
end
def Zdk{xs ys:Zu}(h:xs.Perm ys)(g:xs.Pairwise lexLe)(f:ys.Pairwise lexLe):xs=ys:=by
 refine h.eq_of_pairwise (λa b _ _ p q=>?_) g f;unfold lexLe at p q;exact Prod.ext (by lia) (by lia)
end Pu
namespace Pu
open L2 Own
section
variable {K:Zt}{mg:Zx}{E:L2.St->XK}
noncomputable def D8(i:Nat)(b:PTE):PTS:=λR f=>match f[i]? with
 |some (some<|.own<|.lst g)=>b f (λu=>match u.d with | .int n=>∀x,R.rt (.own<|.tl x g n)|_=>False) (R.ex f)
 |_=>False
def Zbx(i:Nat){J:TE}{b:PTE}(Y:VZ K mg E J b):Jm K mg E (KE<|Bk<|J3 (UE i)<|J3 J JS) (D8 i b):=by
 intro H0 B H A C R D hB f h e;unfold D8 at h;split at h
 ·rename_i ds M;obtain⟨v,L,x,rfl,x0,T,G,Q⟩:=f.slot i _ M;refine⟨_,L,Y H0 B H A C _ _ _ f h (λu w H1 r g U=>?_) λc H' p N=>e.ex A C c H' p (f.grow N) (Fr.grow N)⟩;split at r
  ·rename_i n en;have ri:=U.rp (f.grow g).same;rw[en]at ri;obtain rfl:=ri.int_inv;refine⟨by show 2<=sizeLine;decide,λl j=>?_⟩;have s:=Jy (o:=.tup [.ref x,.int n]) j;have S3:=f.same.trans (g.trans s);refine e.rt _ _ _ (r x) S3 ⟨l,rfl,λc p=>x0 c p,Ui Js λz=>?_,T,s _ _ (g _ _ G),Rps.mono (Jn (g.trans s) λb _ _ z y=>z (y.elim .inl λw=>.inr ⟨i,_,x,M,L,w⟩)) Q⟩;rcases z with z|z
   ·obtain⟨o,q⟩:=hB l z
    have:=g _ _ (f.same _ _ q)
    rw[j]at this;cases this
   ·have:=g _ _ G
    rw[←show l=x from z,j]at this
    cases this
  ·exact r.elim
 ·exact h.elim
def Aw:S->S->(S->Prop)->Prop:=λx y R=>match x,y.d with
 | .own (.tl _ b _),.int 0=>R (.own<|.lst b)
 |_,_=>False
def M9{g f:TE}{a b:PTE}(z:VZ K mg E g a)(w:VZ K mg E f b):VZ K mg E (tOp (λx y H Q=>XF K x y H Q\/X0 K x y H Q) g f) (p2 a b Aw):=by
 refine Uq z w λT H J Z x y v u R Q r L M p o h q=>?_;unfold Aw at h;have i:=o.rp r;split at h
 ·rename_i x N n G;rw[G]at i;obtain⟨l,rfl,x0,C,j,B,A⟩:=p;exact .inr ⟨l,_,0,.ref x,rfl,i.int_inv,SqT.of (off_sub _ _ C),rfl,q _ _ J h (Same.refl _) ⟨x,rfl,λc s=>x0 c s,j,B,A⟩⟩
 ·exact h.elim
noncomputable def G7(i:Nat):PTS:=λR b=>match b[i]? with
 |some (some<|.own<|.lst f)=>R.nx (b.set i<|some<|.own f.reverse)
 |_=>False
def LS(i:Nat):Jm K mg E (P5<|Th K "list" Dv<|UE i) (G7 i):=by
 intro z B H w x R D y f h e;unfold G7 at h;split at h
 ·rename_i s j;obtain⟨v,g,b,rfl,o,us,l,n⟩:=f.slot i _ j;refine⟨_,g,.inl ⟨rfl,us,SqL.of l⟩,b,us,rfl,rfl,l,?_⟩;obtain⟨r,q⟩:=f.mutate (es:=.lst s.reverse) (us:=.lst us.reverse) j g trivial λF A u p=>⟨_,p,Rps.mono u (Rps.reverse n)⟩;exact e.nx _ _ _ h r q
 ·exact h.elim
end
end Pu
namespace T
open L2
noncomputable def top(i:Nat):Stmt:=PySem.Challenge.pw_stripmeld_k20_new_lists.main.body.getD i (.Pass ⟨0,0,0,0⟩)
noncomputable abbrev N5:Stmt:=top 7
def LD:Jd ["strips"] ["strips"] (Jb N5):=Pu.fs
noncomputable abbrev NB:Stmt:=top 8
def ON:Jd ["strips","order"] ["strips","order"] (Jb NB):=Pu.fs
noncomputable abbrev BA:Stmt:=top 9
def R8:Jd ["strips","order","field","holder"] ["strips","order"] (Jb BA):=Pu.fs
noncomputable abbrev Nx:Stmt:=top 11
def IM:Jd ["strips"] ["strips"] (Jb Nx):=Pu.fs
noncomputable abbrev Bi:Stmt:=top 12
def Ov:Jd ["strips","numbers","place","left","right"] ["strips","numbers","place"] (Jb Bi):=Pu.fs
noncomputable abbrev SM:Stmt:=top 13
def OP:Jd ["numbers","place"] ["numbers","place"] (Jb SM):=Pu.fs
noncomputable abbrev SE:Stmt:=top 14
def HV:Jd ["numbers","ranks","place"] ["numbers","ranks"] (Jb SE):=Pu.fs
noncomputable abbrev Nk:Stmt:=top 15
def MP:Jd ["strips","order","ranks","numbers","moves","place"] ["strips","order"] (Jb Nk):=Pu.fs
noncomputable abbrev Ba:Stmt:=top 16
def Hh:Jd ["strips","place"] ["strips","place"] (Jb Ba):=Pu.fs
noncomputable abbrev Sh:Stmt:=top 17
def OO:Jd ["strips","places","numbers","cost","place"] ["strips","places"] (Jb Sh):=Pu.fs
noncomputable abbrev NS:Stmt:=top 19
def Zbg:Jd ["strips","wishes","holders"] ["strips","wishes"] (Jb NS):=Pu.fs
noncomputable abbrev Si:Stmt:=top 20
def Fx:Jd ["order","wishes","index_of","index","holder","between"] ["order","wishes"] (Jb Si):=Pu.fs
noncomputable abbrev SD:Stmt:=top 21
def ED:Jd ["paths","left","wishes","longer","reached","path","holder"] ["paths","left","wishes"] (Jb SD):=Pu.fs
noncomputable abbrev Nr:Stmt:=top 22
def MC:Jd ["least","holders","wishes","paths","left","rings","reached"] ["least","holders","wishes"] (Jb Nr):=Pu.fs
noncomputable abbrev BN:Stmt:=top 23
def My:Jd ["holders","wishes","ring","least","found"] ["holders","wishes"] (Jb BN):=Pu.fs
noncomputable abbrev N0:Stmt:=top 24
def Ii:Jd ["strips","wishes","ring"] ["strips","wishes"] (Jb N0):=Pu.fs
noncomputable abbrev Nv:Stmt:=top 27
def LH:Jd ["strips"] ["strips"] (Jb Nv):=Pu.fs
noncomputable abbrev SC:Stmt:=top 28
def Rb:Jd ["strips","stand","number","passed"] ["strips","stand","number"] (Jb SC):=Pu.fs
noncomputable abbrev B9:Stmt:=top 29
def Za0:Jd ["strips","stands","longer","stand","cost","number"] ["strips","stands"] (Jb B9):=Pu.fs
noncomputable abbrev NW:Stmt:=top 30
def Zbw:Jd ["strips","stands","length"] ["strips"] (Jb NW):=Pu.fs
noncomputable abbrev BG:Stmt:=top 32
def IF:Jd ["strips","ahead","behind","to_pass","cost","holder","width"] ["strips","ahead","behind"] (Jb BG):=Pu.fs
noncomputable abbrev Ny:Stmt:=top 34
def Dg:Jd ["strips","holders","costs","ahead","behind"] ["strips"] (Jb Ny):=Pu.fs
noncomputable abbrev Bo:Stmt:=top 35
def L0:Jd ["holders","sets","holder"] ["holders"] (Jb Bo):=Pu.fs
noncomputable abbrev BF:Stmt:=top 36
def Zcd:Jd ["members","holder"] ["members","holder"] (Jb BF):=Pu.fs
noncomputable abbrev Nq:Stmt:=top 37
def HS:Jd ["members","holder","wishes"] ["members","holder","wishes"] (Jb Nq):=Pu.fs
noncomputable abbrev Sj:Stmt:=top 38
def Za9:Jd ["members","holder","wishes"] ["members","holder","wishes"] (Jb Sj):=Pu.fs
noncomputable abbrev Bt:Stmt:=top 39
def Zcr:Jd ["members","last","least","pairs","others"] ["members","last","least","pairs"] (Jb Bt):=Pu.fs
noncomputable abbrev NT:Stmt:=top 40
def Ly:Jd ["members","first","least","pairs","others"] ["members","first","least","pairs"] (Jb NT):=Pu.fs
noncomputable abbrev NZ:Stmt:=top 41
def D1:Jd ["strips","wishes","pairs","least","members","lasts"] ["strips","wishes","pairs"] (Jb NZ):=Pu.fs
noncomputable abbrev Nm:Stmt:=top 42
def Io:Jd ["strips","wishes","least"] ["strips","wishes"] (Jb Nm):=Pu.fs
noncomputable abbrev N3:Stmt:=top 43
def CU:Jd ["strips","wishes","pairs","least","members","order","firsts","best"] ["strips","wishes"] (Jb N3):=Pu.fs
noncomputable abbrev Nj:Stmt:=top 45
def Zca:Jd ["_law_script","_law_k"] ["_law_script","_law_k"] (Jb Nj):=Pu.fs
noncomputable abbrev Nu:Stmt:=top 46
def MX:Jd ["_law_found"] ["_law_found"] (Jb Nu):=Pu.fs
noncomputable abbrev Bm:Stmt:=top 47
def ID:Jd ["_law_cell","_law_place","_law_first"] ["_law_cell","_law_place"] (Jb Bm):=Pu.fs
noncomputable abbrev Bu:Stmt:=top 48
def Ol:Jd ["_law_script","_law_k"] ["_law_script","_law_k"] (Jb Bu):=Pu.fs
noncomputable abbrev N4:Stmt:=top 49
def Ip:Jd ["_law_script"] ["_law_script"] (Jb N4):=Pu.fs
noncomputable abbrev Sx:Stmt:=top 50
def Zbz:Jd ["_law_cell","_law_wide","_law_least"] ["_law_cell"] (Jb Sx):=Pu.fs
noncomputable abbrev SW:Stmt:=top 51
def Zb8:Jd ["_law_menu_here","_law_k"] ["_law_menu_here","_law_k"] (Jb SW):=Pu.fs
noncomputable abbrev N8:Stmt:=top 52
def Ib:Jd ["_law_script","_law_menu_here","_law_many","_law_strips_here","_law_k","_law_cell","_law_width"] ["_law_script","_law_menu_here","_law_many"] (Jb N8):=Pu.fs
noncomputable abbrev Sl:Stmt:=top 53
def FS:Jd ["_law_script","_law_menu_here","_law_how","_law_pool","_law_wishes_here","_law_k","_law_cell","_law_one","_law_two","_law_pair"] ["_law_script","_law_menu_here"] (Jb Sl):=Pu.fs
noncomputable abbrev NY:Stmt:=top 54
def O5:Jd ["_law_found","_law_due","_law_k"] ["_law_found","_law_due"] (Jb NY):=Pu.fs
noncomputable abbrev Bx:Stmt:=top 55
def Zaj:Jd ["_law_found","_law_due","_law_k","_law_j"] ["_law_found","_law_due"] (Jb Bx):=Pu.fs
noncomputable abbrev NN:Stmt:=top 56
def Zdh:Jd ["_law_strips_here","_law_owners"] ["_law_strips_here"] (Jb NN):=Pu.fs
noncomputable abbrev NA:Stmt:=top 57
def Zb5:Jd ["_law_holders","_law_wishes_here","_law_left","_law_turn","_law_inside","_law_behind"] ["_law_holders","_law_wishes_here"] (Jb NA):=Pu.fs
noncomputable abbrev N6:Stmt:=top 58
def KI:Jd ["_law_holders","_law_cell","_law_left","_law_order","_law_rest"] ["_law_holders","_law_cell"] (Jb N6):=Pu.fs
noncomputable abbrev Nl:Stmt:=top 59
def Zbe:Jd ["_law_wishes_here","_law_holders","_law_kept","_law_pair"] ["_law_wishes_here","_law_holders"] (Jb Nl):=Pu.fs
noncomputable abbrev B7:Stmt:=top 60
def O6:Jd ["_law_which","_law_strips_here","_law_wishes_here","_law_order"] ["_law_which","_law_strips_here","_law_wishes_here","_law_order"] (Jb B7):=Pu.fs
noncomputable abbrev UY:Stmt:=top 61
def U4:Jd ["_law_script","_law_menu_here","_law_strips_here","_law_holders","_law_order","_law_wishes_here","_law_which","_law_field","_law_handed","_law_found","_law_kept"] ["_law_script"] (Jb UY):=Pu.fs
structure Glob (K:Zt) (mg:Zx):Prop where
 Zm:mg "any"=none
 Zp:mg "bool"=none
 Zh:mg "enumerate"=none
 Zn:mg "int"=none
 Za:mg "isinstance"=none
 len:mg "len"=none
 Zd:mg "list"=none
 Zq:mg "max"=none
 Zr:mg "min"=none
 Zb:mg "range"=none
 Zl:mg "repr"=none
 Zs:mg "set"=none
 Zc:mg "sorted"=none
 Zi:mg "sum"=none
 Ze:mg "tuple"=none
 Zo:∃u,mg "SMALL"=some u/\RelV (.int 7) u
 Zj:mg "NoStrip"=some (.ref<|ExcR.Ud mg "NoStrip")
 Zk:ExcR.KR K (ExcR.Ud mg "NoStrip")
 Zf:mg "BadOrder"=some (.ref<|ExcR.Ud mg "BadOrder")
 Zg:ExcR.KR K (ExcR.Ud mg "BadOrder")
end T
namespace M
open L2 Own Pu
noncomputable def F3(_:Zt):Sp:=λg H Q _=>∃(l:Addr) (b:Zu),g=[.ref l]/\LAt JU H l b/\Field b/\b.length<=50/\
 ∀(q:Addr) (f:Hp),H q=none->Same H f->f q=some (.lst ((Jc b).map V.int))->Q (.ref q) f
noncomputable def Ex:Pc:=λf R _=>∃b:Zu,f=[.lst (b.map prD)]/\Field b/\b.length<=50/\R (.own ((Jc b).map D.int))
def XQ{P:Program}{w:World}{K:Zt}{b:Zx}{base:Heap}(C:Callee P w K b base CX0 1 "holders_of" ["strips"] (F3 K)):Callee P w K b base CX0 1 "holders_of" ["strips"] (Je b Ex K):=AA C λz R X x H Q E r l p y=>by
 obtain⟨g,rfl,s,j,o⟩:=l;obtain⟨v,rfl,f⟩:=r.one_inv;obtain⟨a,rfl,n⟩:=f.pairs_inv;exact⟨a,g,rfl,n,s,j,λq u i S h=>p _ _ u o S (A2 i h)⟩
noncomputable def Zbt:Pc:=λf R _=>∃b:Zu,f=[.lst (b.map prD)]/\b.length<=1000/\R (.own ((Jk 1 b.length).map D.int))
noncomputable def Zc4:Pc:=λg R _=>∃(b:Zu) (f:Zv) (p:Int),g=[.lst (b.map prD),.lst (f.map D.int),.int p]/\Field b/\(∀n∈f,1<=n/\n<=b.length)/\1<=p/\p<f.length/\R (.sh<|.int<|exM b f p.toNat)
noncomputable def Me:Pc:=λf R _=>∃(b:Zv) (p:Int),f=[.lst (b.map D.int),.int p]/\1<=p/\p<b.length/\b.length<=1000/\R (.own ((Ue b p.toNat).map D.int))
noncomputable def Om:Pc:=λg R _=>∃b f:Zv,g=[.lst (b.map D.int),.lst (f.map D.int)]/\(∀m∈b,1<=m/\m<=f.length)/\b.length<=1000/\∀p:Nat,FW (b.map λm=>f.getD (m-1).toNat 0) p->R (.sh<|.int p)
noncomputable def LK:Pc:=λf R X=>∃(b:Zu) (p:Int),f=[.lst (b.map prD),.int p]/\(if p<1\/(b.length:Int)<=p then X "NoStrip" else R (.sh .non))
noncomputable def KC(os:Zv)(q:Int×Int):Bool:=decide (q.1∈os)&&decide (q.2∈os.take (os.idxOf q.1))
noncomputable def RB:Pc:=λf R _=>∃(os:Zv) (b:Zu),f=[.lst (os.map D.int),.lst (b.map prD)]/\os.Nodup/\os.length<=50/\b.length<=50/\R (.own ((b.filter<|KC os).map prD))
def LW(b:Zu)(l:Int)(ps:List (Zv))(f:Zv)(g:List (Zv)):Prop:=∀q∈g,∃p∈ps,∃h∈f,q=p++[h]/\(Ju l p,h)∈b
noncomputable def Zcx:Pc:=λi R _=>∃(l:Int) (f:List (Zv)) (b:Zv) (h:Zu),i=[.lst (f.map<|em l),.lst (b.map D.int),.lst (h.map prD)]/\(∀p∈f,p.length<=100)/\b.length<=100/\
 ∀g,LW h l f b g->g.length<=b.length->R (.own<|g.map<|em l)
noncomputable def HM:Pc:=λf R _=>∃b:Zu,f=[plD b]/\b.length<=7/\R (.sh .non)
noncomputable def Zce:Pc:=λf R _=>∃(b:Zu) (r:Zv) (x:Int),f=[plD b,tD r,.int x]/\Field b/\b.length<=50/\1<=x/\x<=b.length/\R (.sh<|.int<|JT b r x)
noncomputable def IU:Pc:=λf R _=>∃(b:Zu) (x y:Int),f=[.lst (b.map prD),.int x,.int y]/\Field b/\R (.sh<|.int<|pcM b x y b.length)
noncomputable def OF:Pc:=λf R _=>∃b:Zv,f=[.lst (b.map D.int)]/\b.length<=10/\R (.own ((Jo b).map tD))
noncomputable def RE:Pc:=λf R _=>∃(b:Zv) (h:Int),f=[tD b,.int h]/\b.length<=1000/\R (.sh<|tD<|Jj b h)
noncomputable def Zbf:Pc:=λg R _=>∃(f:Zv) (h:Int) (b:Zu),g=[tD f,.int h,.lst (b.map prD)]/\b.length<=50/\R (.sh<|.bl<|US b f h)
noncomputable def HD:Pc:=λg R _=>∃(f:Zv) (h:Int) (b:Zu),g=[tD f,.int h,.lst (b.map prD)]/\b.length<=50/\R (.sh<|.bl<|firstM b f h)
noncomputable def Ir:Pc:=λf R _=>∃(b:Zv) (k:Int),f=[.scr b,.int k]/\0<=k/\∀v:Int,R (.sh<|.int v)
noncomputable def Mn:Pc:=λb R _=>∃i:Int,b=[.int i]/\R (.sh<|.bl true)
noncomputable def Os:Pc:=λb R _=>∃c p:Int,b=[.int c,.int p]/\∀v:Int,R (.sh<|.int v)
noncomputable def Zbu:Pc:=λb R _=>∃c:Int,b=[.int c]/\∀m,Pd m->R (.own<|m.map D.int)
noncomputable def Hm:Pc:=λb R _=>∃(m:Zv) (k:Int),b=[.lst (m.map D.int),.int k]/\Pd m/\∀h:Int,1<=h->h<=10->h=BJ m k->R (.sh<|.int h)
noncomputable def IQ:Pc:=λf R _=>∃b:Zu,f=[.lst (b.map prD)]/\b.length<=50/\R (.own ((Jc b).map D.int))
noncomputable def R3:Pc:=λg R _=>∃(b:Zv) (f:Zu),g=[.lst (b.map D.int),.lst (f.map prD)]/\b.length<=50/\f.length<=50/\R (.sh<|.bl<|decide (Jr f b b.length=[]))
noncomputable def Cd(K:Zt):Sp:=λg H Q _=>∃(l:Addr) (b:Zv) (c:Int),g=[.ref l,.int c]/\SqL K H l (b.map V.int)/\b.length<=50/\
 ∀(q:Addr) (f:Hp) (os:Zv),H q=none->Same H f->f q=some (.lst<|os.map V.int)->os.Perm b->Q (.ref q) f
noncomputable def GL:Pc:=λf R _=>∃(b:Zv) (c:Int),f=[.lst (b.map D.int),.int c]/\b.length<=50/\∀os:Zv,os.Perm b->R (.own<|os.map D.int)
def Ob{P:Program}{w:World}{K:Zt}{b:Zx}{base:Heap}(C:Callee P w K b base CX0 1 "_law_shuffled" ["_law_holders","_law_cell"] (Cd K)):Callee P w K b base CX0 1 "_law_shuffled" ["_law_holders","_law_cell"] (Je b GL K):=AA C λB R X z H Q E r o x A=>by
 obtain⟨l,c,rfl,j,s⟩:=o;obtain⟨v,u,rfl,g,f⟩:=r.two_inv;obtain⟨a,rfl,p⟩:=g.ints_inv;rw[f.int_inv];exact⟨a,l,c,rfl,SqL.of p,j,λq y os i S h n=>x _ _ y (s os n) S (A2 i h)⟩
noncomputable def OJ:Pc:=λf R X=>∃(b:Zu) (os:Zv),f=[plD b,.lst (os.map D.int)]/\Field b/\b.length<=50/\os.length<64/\Ak (Ka b os) X (R<|.sh .non)
noncomputable def Hv:Pc:=λf R X=>∃b:Zu,f=[.lst (b.map prD),.lst []]/\Field b/\b.length<=50/\∀x,R (.own<|.tl x ((Jk 1 b.length).map D.int) 0)
noncomputable def Kd(ps:Zu)(q:Int×Int):Bool:=decide (q.1∈ps.map (·.1))&&decide (q.2∈ps.map (·.1))
noncomputable def Zbq:Pc:=λg R _=>∃(b f:Zu),g=[.lst (b.map prD),.lst (f.map prD)]/\Field b/\b.length<=50/\f.length<=50/\R (.own ((f.filter<|Kd b).map prD))
noncomputable def R7:Pc:=λg R _=>∃(l:Int) (b:Zv) (f:Zu),g=[.int l,.lst (b.map D.int),.lst (f.map prD)]/\b.length<=50/\(∀t,¬Ks b f l t)/\R (.sh<|.lst [])
noncomputable def O0:Pc:=λf R _=>∃(b:Zu) (S:List (Zv×Int)),f=[plD b,.lst (S.map stD)]/\Field b/\b.length<=7/\S.length<=1000000/\(∀q∈S,q.1.length<=10)/\R (.own ((S.flatMap<|U6 b).map stD))
noncomputable def Lf:Pc:=λg R _=>∃b:Zu,g=[.lst (b.map prD)]/\Field b/\b.length<=50/\
 ∀f:List (List Key×V),(∀x∈Jc b,∀y∈Jc b,Jh f [.inl x,.inl y]=some (.int<|pcM b x y b.length))->R (.own<|.dT f)
noncomputable def MT:Pc:=λg R _=>∃(b:Zv) (l:Int) (le f:List (List Key×V)) (c:Int->Int) (v:Int),g=[tD b,.int l,.dT le,.dT f]/\b.length<=1000/\Jh le (kT<|Jj b l)=some (.int v)/\
 (∀m∈Jj b l,Jh f [.inl m,.inl l]=some (.int<|c m))/\R (.sh<|.int (v+((Jj b l).map c).sum))
noncomputable def Hk:Pc:=λg R _=>∃(b:Zv) (l:Int) (le f:List (List Key×V)) (c:Int->Int) (v:Int),g=[tD b,.int l,.dT le,.dT f]/\b.length<=1000/\Jh le (kT<|Jj b l)=some (.int v)/\
 (∀m∈Jj b l,Jh f [.inl l,.inl m]=some (.int<|c m))/\R (.sh<|.int (v+((Jj b l).map c).sum))
noncomputable def Zdc:Pc:=λf R _=>∃(b:Zv) (k:Int),f=[.scr b,.int k]/\0<=k/\∀v:Int,R (.sh<|.int v)
noncomputable def LA:Pc:=λf R _=>∃b:Zv,f=[.scr b]/\∀v:Int,R (.sh<|.int v)
noncomputable def Lj:Pc:=λb R _=>∃xs:Zv,b=[.lst (xs.map D.int),.lst (xs.map D.int)]/\xs.length<=1000000/\R (.sh<|.bl true)
noncomputable def RK:Pc:=λf R _=>∃b:Zu,f=[.lst (b.map prD),.lst (b.map prD)]/\b.length<=1000000/\R (.sh<|.bl true)
noncomputable def OE:Pc:=λh R _=>∃(f:Zu) (b:Zv),h=[.lst (f.map prD),.lst (b.map D.int)]/\f.length<=40/\b.length<=50/\
 ∀g:Zu,g.Sublist f->Jr g b b.length=[]->R (.own<|g.map prD)
noncomputable def JY(ps:Zu)(os:Zv):Zu:=os.flatMap λh=>ps.filter λq=>decide (q.1=h)
noncomputable def IA:Pc:=λf R X=>∃(b:Zu) (os:Zv),f=[plD b,.lst (os.map D.int)]/\Field b/\b.length<=50/\os.length<64/\Ak (Ka b os) X (R<|.own ((JY b os).map prD))
noncomputable def He:Pc:=λg R _=>∃(b:Zu) (o:Zv),g=[plD b,.lst (o.map D.int)]/\Field b/\b.length<=40/\o.Perm (Jc b)/\∀f:List Mo,Mv b (rkN b o) (Jk 1 b.length) f->R (.own<|f.map mvD)
noncomputable def Zbr:Pc:=λg R _=>∃(b:Zv) (f:Zu),g=[.lst (b.map D.int),.lst (f.map prD)]/\b.length<=50/\(∀l∈b,∀t,¬Ks b f l t)/\R (.own<|.lst [])
noncomputable def Zc6:Pc:=λf R _=>∃b:Zu,f=[plD b]/\Field b/\b.length<=7/\R (.own ((JP b b.length).map stD))
noncomputable def LX:Pc:=λi R _=>∃(b f:Zu) (h:List (List Key×V)) (c:Int->Int->Int),i=[.lst (b.map prD),.lst (f.map prD),.dT h]/\Field b/\b.length<=50/\f.length<=50/\(∀q∈f,q.1≠q.2)/\
 (∀x∈Jc b,∀y∈Jc b,Jh h [.inl x,.inl y]=some (.int<|c x y))/\Ap (Jc b) f/\∀g,Tab f c (Jo<|Jc b) g->R (.own<|.dT g)
noncomputable def Ry:Pc:=λg R _=>∃(f m:Zv) (n:Int),g=[.scr f,.lst (m.map D.int),.int n]/\Pd m/\0<=n/\n<=1000/\∀b:Zu,Field b->b.length=n.toNat->R (.own<|b.map prD)
noncomputable def Ma:Pc:=λg R _=>∃(f m:Zv),g=[.scr f,.lst (m.map D.int)]/\Pd m/\∀b,PB b->R (.own<|b.map prD)
def Di{g:Zv}{b:Zu}{l:Int}(i:∀q∈b,q.1≠q.2)(o:¬ ∃r,Ring g b r)(j:l∈g):∀(n:Nat) (t:Zv),t.length<=n->¬Ks g b l t:=by
 intro n
 induction n with
 |zero=>exact λt s h=>o ⟨_,Gn i j h λu _=>by lia⟩
 |succ n p=>exact λt s h=>o ⟨_,Gn i j h λu f=>WH λz=>p u (by lia) f⟩
noncomputable def Ih:Pc:=λg R _=>∃(b f:Zu),g=[.lst (b.map prD),.lst (f.map prD)]/\Field b/\b.length<=50/\(∀q∈f,q.1≠q.2)/\(¬ ∃r,Ring (Jc b) f r)/\R (.sh .non)
noncomputable def HI:Pc:=λh R _=>∃(b f:Zu),h=[.lst (b.map prD),.lst (f.map prD)]/\Field b/\b.length<=50/\f.length<=50/\(∀q∈f,q.1≠q.2)/\(¬ ∃r,Ring (Jc b) f r)/\
 ∀g,TabV f (pcc b) (Jo<|Jc b) g->R (.own<|g.map D.int)
noncomputable def Zcp:Pc:=λg R _=>∃(b f:Zu),g=[.lst (b.map prD),.lst (f.map prD)]/\Field b/\b.length<=50/\f.length<=50/\(∀q∈f,q.1≠q.2)/\(¬ ∃r,Ring (Jc b) f r)/\
 ∀o,UA f (pcc b) (Jc b) o->R (.own<|o.map D.int)
def ToldK(w:Int)(ps f:Zu)(o:Zv)(xs:List D):Prop:=
 (w=0/\xs=(Jc ps).map D.int)\/(w=1/\xs=(JY ps o).map prD)\/(w=2/\xs=(f.filter<|Kd ps).map prD)\/(w=3/\xs=(f.filter<|KC o).map prD)\/(w=4/\xs=[])\/
 (w=5/\∃g,TabV f (pcc ps) (Jo<|Jc ps) g/\xs=g.map D.int)\/(w=6/\∃b,UA f (pcc ps) (Jc ps) b/\xs=b.map D.int)\/(w=7/\∃h,Mv ps (rkN ps o) (Jk 1 ps.length) h/\xs=h.map mvD)\/
 (w=8/\xs=(Jk 1 ps.length).map D.int)\/(w=9/\xs=(JP ps ps.length).map stD)
noncomputable def MU:Pc:=λg R _=>∃(w:Int) (b f:Zu) (o:Zv),g=[.int w,plD b,.lst (f.map prD),.lst (o.map D.int)]/\(0<=w/\w<10)/\Field b/\b.length<=40/\(w=9->b.length<=5)/\f.length<=40/\(∀q∈f,q.1≠q.2)/\
 o.Nodup/\o.length<=10/\(w≠9->o.Perm (Jc b)/\¬ ∃r,Ring (Jc b) f r)/\∀xs,ToldK w b f o xs->R (.own<|.lst xs)
structure Fv (P:Program) (w:World) (K:Zt) (mg:Zx) (base:Heap):Type
variable {P:Program}{w:World}{K:Zt}{mg:Zx}{base:Heap}
abbrev Cal(_:Fv P w K mg base):=Callee P w K mg base
abbrev Cxe(_:Fv P w K mg base):=ExcR.CXe P w
abbrev Lal(_:Fv P w K mg base):=Lam.LawC P w K mg base
variable (ζ:Fv P w K mg base)
abbrev Mr:Prop:=Cal ζ CX0 1 "holders_of" ["strips"] (Je mg Ex K)
abbrev Ef:Prop:=Cal ζ CX0 1 "own_numbers" ["strips"] (Je mg Zbt K)
abbrev AB:Prop:=Cal ζ CX0 1 "exchange_cost" ["strips","numbers","place"] (Je mg Zc4 K)
abbrev DB:Prop:=Cal ζ CX0 1 "exchanged" ["numbers","place"] (Je mg Me K)
abbrev DA:Prop:=Cal ζ CX0 1 "first_wrong_place" ["numbers","ranks"] (Je mg Om K)
abbrev Ep:Prop:=Cal ζ (Cxe ζ) 1 "check_neighbours" ["strips","place"] (Je mg LK K)
abbrev EK:Prop:=Cal ζ CX0 1 "broken_wishes" ["order","wishes"] (Je mg RB K)
abbrev E8:Prop:=Cal ζ CX0 1 "longer_paths" ["paths","left","wishes"] (Je mg Zcx K)
abbrev Dj:Prop:=Cal ζ CX0 1 "check_small" ["strips"] (Je mg HM K)
abbrev Es:Prop:=Cal ζ CX0 1 "cost_to_come_next" ["strips","stand","number"] (Je mg Zce K)
abbrev FM:Prop:=Cal ζ CX0 1 "pair_cost" ["strips","ahead","behind"] (Je mg IU K)
abbrev BR:Prop:=Cal ζ CX0 1 "sets_of" ["holders"] (Je mg OF K)
abbrev Cb:Prop:=Cal ζ CX0 1 "without" ["members","holder"] (Je mg RE K)
abbrev Dq:Prop:=Cal ζ CX0 1 "may_lie_last" ["members","holder","wishes"] (Je mg Zbf K)
abbrev Gi:Prop:=Cal ζ CX0 1 "may_lie_first" ["members","holder","wishes"] (Je mg HD K)
abbrev Sz:Prop:=Cal ζ CX0 1 "_law_at" ["_law_script","_law_k"] (Je mg Ir K)
abbrev F1:Prop:=Cal ζ CX0 1 "_law_whole" ["_law_found"] (Je mg Mn K)
abbrev Fl:Prop:=Cal ζ CX0 1 "_law_mix" ["_law_cell","_law_place"] (Je mg Os K)
abbrev DV:Prop:=Cal ζ CX0 1 "_law_menu" ["_law_cell"] (Je mg Zbu K)
abbrev Cg:Prop:=Cal ζ CX0 1 "_law_holder" ["_law_menu_here","_law_k"] (Je mg Hm K)
abbrev Al:Prop:=Cal ζ CX0 1 "_law_present" ["_law_strips_here"] (Je mg IQ K)
abbrev Az:Prop:=Cal ζ CX0 1 "_law_no_ring" ["_law_holders","_law_wishes_here"] (Je mg R3 K)
abbrev GW:Prop:=Cal ζ CX0 1 "_law_shuffled" ["_law_holders","_law_cell"] (Je mg GL K)
abbrev FR:Prop:=Cal ζ (Cxe ζ) 2 "check_order" ["strips","order"] (Je mg OJ K)
abbrev An:Prop:=Cal ζ (Cxe ζ) 2 "walk_places" ["strips","places"] (Je mg Hv K)
abbrev FD:Prop:=Cal ζ CX0 2 "counted_wishes" ["strips","wishes"] (Je mg Zbq K)
abbrev CC:Prop:=Cal ζ CX0 2 "ring_from" ["least","holders","wishes"] (Je mg R7 K)
abbrev Cy:Prop:=Cal ζ CX0 2 "longer_stands" ["strips","stands"] (Je mg O0 K)
abbrev Cf:Prop:=Cal ζ CX0 2 "pair_costs" ["strips"] (Je mg Lf K)
abbrev Eu:Prop:=Cal ζ CX0 2 "cost_with_last" ["members","last","least","pairs"] (Je mg MT K)
abbrev Ax:Prop:=Cal ζ CX0 2 "cost_with_first" ["members","first","least","pairs"] (Je mg Hk K)
abbrev S9:Prop:=Cal ζ CX0 2 "_law_draw" ["_law_script","_law_k"] (Je mg Zdc K)
abbrev AW:Prop:=Cal ζ CX0 2 "_law_spare" ["_law_script"] (Je mg LA K)
abbrev GB:Prop:=Cal ζ CX0 2 "_law_row" ["_law_found","_law_due"] (Je mg Lj K)
abbrev Ae:Prop:=Cal ζ CX0 2 "_law_tuples" ["_law_found","_law_due"] (Je mg RK K)
abbrev GR:Prop:=Cal ζ CX0 2 "_law_keepable" ["_law_wishes_here","_law_holders"] (Je mg OE K)
abbrev AH:Prop:=Cal ζ (Cxe ζ) 3 "gathered" ["strips","order"] (Je mg IA K)
abbrev EZ:Prop:=Cal ζ CX0 3 "told_moves" ["strips","order"] (Je mg He K)
abbrev FA:Prop:=Cal ζ CX0 3 "find_ring" ["holders","wishes"] (Je mg Zbr K)
abbrev Ce:Prop:=Cal ζ CX0 3 "all_stands" ["strips"] (Je mg Zc6 K)
abbrev Do:Prop:=Cal ζ CX0 3 "least_costs" ["strips","wishes","pairs"] (Je mg LX K)
abbrev Gk:Prop:=Cal ζ CX0 3 "_law_strips" ["_law_script","_law_menu_here","_law_many"] (Je mg Ry K)
abbrev FC:Prop:=Cal ζ CX0 3 "_law_wishes" ["_law_script","_law_menu_here"] (Je mg Ma K)
abbrev Ds:Prop:=Cal ζ CX0 4 "check_no_ring" ["strips","wishes"] (Je mg Ih K)
abbrev A7:Prop:=Cal ζ CX0 5 "cost_table" ["strips","wishes"] (Je mg HI K)
abbrev Gx:Prop:=Cal ζ CX0 5 "best_order" ["strips","wishes"] (Je mg Zcp K)
abbrev AI:Prop:=Cal ζ CX0 6 "_law_told" ["_law_which","_law_strips_here","_law_wishes_here","_law_order"] (Je mg MU K)
abbrev Zae(st:Stmt):Prop:=Lal ζ 7 st (Je mg Eg K)
end M
namespace M
open L2 Own Pu
def PM{b:Type}{xs:List b}{i:Nat}{d:b}(h:i<xs.length):xs.getD i d=xs[i]:=by rw[Y2,Yx h];rfl
def Dy{b:Type}{xs:List b}{i:Nat}{d:b}(h:i<xs.length):xs.getD i d=xs[i]:=by rw[Y2,Yx h];rfl
def HC{ns:Zv}{p:Int}(h:1<=p)(g:p<ns.length){b1:p.toNat<ns.length}{b2:(p-1).toNat<ns.length}:cutD (ns.map D.int) none (some (p-1))++[D.int ns[p.toNat],D.int ns[(p-1).toNat]]++cutD (ns.map D.int) (some (p+1)) none=(Ue ns p.toNat).map D.int:=by
 unfold Ue;rw[T4,T4,GE ns (by lia),Ej ns (by lia),YQ,YQ];have f:p.toNat-1=(p-1).toNat:=by lia
 have b:p.toNat+1=(p+1).toNat:=by lia
 rw[f,b,Dy b1,Dy b2];rfl
def T1{os:Zv}(b:os.Nodup){j:Nat}(f:j<os.length):os.idxOf os[j]=j:=b.idxOf_getElem j f
def Ao{os:Zv}{j:Nat}{z:Int}(b:j<os.length):z∈os.take (j+1)↔z∈os.take j\/z=os[j]:=by
 rw[YY b,Wc,Y3]
def Rm{os:Zv}(b:os.Nodup){x:Int}{j:Nat}(hx:x∈os):x∈os.take j↔os.idxOf x<j:=by
 obtain⟨k,f,rfl⟩:=Wq.mp hx;rw[T1 b f];constructor
 ·intro h;obtain⟨m,g,e⟩:=Wq.mp h;rw[Wg]at g;rw[V7]at e;have a1:=T1 b (j:=m) (by lia);rw[e,T1 b f]at a1;lia
 ·intro h;exact Wq.mpr ⟨k,by rw[Wg];lia,by rw[V7]⟩
def Za3{os:Zv}(g:os.Nodup)(q:Int×Int):KC os q=(decide (q.1∈os)&&decide (q.2∈os)&&decide (os.idxOf q.2<os.idxOf q.1)):=by
 unfold KC;by_cases f:q.1∈os
 ·by_cases b:q.2∈os
  ·simp only[f,b,WT,Vc,Rm g b]
  ·have:¬q.2∈os.take (os.idxOf q.1):=λz=>b (Vp z)
   simp[f,b,this]
 ·simp[f]
structure LWs (ws:Zu) (l:Int) (ps:List (Zv)) (ls:Zv) (lg:List (Zv)) (kvs:List (Key×V)):Prop where
 g:LW ws l ps ls lg
 nd:(lg.map<|Ju l).Nodup
 rc:∀h:Int,(Jh kvs<|.inl h).isSome=true↔h∈lg.map (Ju l)
 len:kvs.length<=lg.length
section
variable {ws:Zu}{l:Int}{ps:List (Zv)}{ls:Zv}{lg:List (Zv)}{kvs:List (Key×V)}
def LWs.len_le (L:LWs ws l ps ls lg kvs):lg.length<=ls.length:=by
 have:=NQ L.nd (ys:=ls) λh b=>by
  obtain⟨q,hq,e⟩:=YO.mp b;obtain⟨p,_,x,hx,rfl,_⟩:=L.g q hq;rw[XJ]at e;rw[←e];exact hx
 rwa[Yy]at this
def LWs.put {p:Zv}{h:Int} (j:p∈ps) (n:h∈ls) (G:LWs ws l ps ls lg kvs) (new:(Jh kvs<|.inl h).isSome=false) (hw:(Ju l p,h)∈ws):LWs ws l ps ls (lg++[p++[h]]) (putK kvs (.inl h)<|.bl true):=by
 have f:Ju l (p++[h])=h:=by rw[XJ];rfl
 have i:h∉lg.map (Ju l):=λz=>by rw[(G.rc h).mpr z]at new;cases new
 refine⟨λq hq=>?_,?_,λx=>?_,?_⟩
 ·rcases Wc.mp hq with hq|hq
  ·exact G.g q hq
  ·exact⟨p,j,h,n,Y3.mp hq,hw⟩
 ·rw[YQ,V2,f];refine W3.mpr ⟨G.nd,by simp,λa r b o=>?_⟩;rw[Y3.mp o];rintro rfl;exact i r
 ·rw[YQ,V2,f,P6,Wc,Y3];by_cases e:x=h
  ·subst e;rw[Y5 rfl];exact⟨λ_=>.inr rfl,λ_=>rfl⟩
  ·rw[Y4 (λz=>e (Sum.inl.inj z)),G.rc];exact⟨.inl,λz=>z.elim id λw=>absurd w e⟩
 ·rw[YK]
  have:=KO kvs (.inl h) (.bl true)
  have:=G.len
  simp;lia
end
def FN(c:Int->Bool):∀b:Zv,b.filterMap (λq=>if c q=true then some (D.int q)else none)=(b.filter c).map D.int:=Ul c D.int
def Rl(ps:Zu)(os:Zv):(JY ps os).length<=os.length*ps.length:=by
 unfold JY
 induction os with
 |nil=>simp
 |cons h r b=>
  rw[QU,YK,YX,Nat.add_mul]
  have:=YV (λq:Int×Int=>decide (q.1=h)) ps
  lia
noncomputable def Zc7(b:List (Option Pu.S)):Nat:=match b[4]? with
 |some (some<|Pu.S.sh<|Pu.D.tup f)=>f.length
 |_=>0
theorem EL{ps:Zu}:∀{o:Zv},o.Nodup->(JY ps o).Perm (ps.filter λq=>decide (q.1∈o))
 |[],_=>by
  unfold JY;rw[List.flatMap_nil,List.filter_eq_nil_iff.mpr (λq _=>by simp)]
 |h::r,f=>by
  obtain⟨i,g⟩:=Wi.mp f;have b:=EL (ps:=ps) g;unfold JY at b ⊢;rw[QU];have k:=List.filter_append_perm (λq:Int×Int=>decide (q.1=h)) (ps.filter λq=>decide (q.1∈h::r));rw[V3,V3]at k
  have l:(ps.filter λa=>decide (a.1=h)&&decide (a.1∈h::r))=ps.filter λq=>decide (q.1=h):=List.filter_congr λq _=>by
   by_cases e:q.1=h<;>simp[e]
  have j:(ps.filter λa=>!decide (a.1=h)&&decide (a.1∈h::r))=ps.filter λq=>decide (q.1∈r):=List.filter_congr λq _=>by
   by_cases e:q.1=h
   ·simp[e,i]
   ·simp[e]
  rw[l,j]at k;exact(b.append_left _).trans k
def EE{ps:Zu}{o:Zv}(f:o.Nodup)(b:∀q∈ps,q.1∈o):(JY ps o).Perm ps:=by
 have h:=EL (ps:=ps) f;rwa[Vv.mpr λq hq=>YG (b q hq)]at h
def ToldK.uniq {w:Int}{ps g:Zu}{o:Zv}{xs ys:List D} (h:ToldK w ps g o xs) (k:ToldK w ps g o ys):xs=ys:=by
 unfold ToldK at h k
 rcases h with⟨e,h⟩|⟨e,h⟩|⟨e,h⟩|⟨e,h⟩|⟨e,h⟩|⟨e,h⟩|⟨e,h⟩|⟨e,h⟩|⟨e,h⟩|⟨e,h⟩<;>
  rcases k with⟨f,k⟩|⟨f,k⟩|⟨f,k⟩|⟨f,k⟩|⟨f,k⟩|⟨f,k⟩|⟨f,k⟩|⟨f,k⟩|⟨f,k⟩|⟨f,k⟩<;>first|exact h.trans k.symm|exact absurd (e.symm.trans f) (by decide)|skip
 ·obtain⟨a,a1,rfl⟩:=h;obtain⟨b,b1,rfl⟩:=k;rw[TabV.uniq a1 b1]
 ·obtain⟨a,a1,rfl⟩:=h;obtain⟨b,b1,rfl⟩:=k;rw[UA.uniq a1 b1]
 ·obtain⟨a,a1,rfl⟩:=h;obtain⟨b,b1,rfl⟩:=k;rw[a1.uniq b1]
def BP{ps:Zu}(b:Field ps)(x:Int):0<=wdM ps x/\wdM ps x<=1000:=KQ b _
theorem Fj{ps:Zu}(f:Field ps):∀r:Zv,r.length<=40->Xo ps r<=40000000*r.length
 |[],_=>Wh 0
 |x::t,i=>by
  rw[YX]at i;have h:=Fj f t (by lia)
  have s:∀l:Zv,0<=(l.map<|wdM ps).sum/\(l.map<|wdM ps).sum<=1000*l.length:=λl=>by
   induction l with
   |nil=>exact⟨Wh 0,Wh 0⟩
   |cons b l h=>
    have:=BP f b
    rw[YE,List.sum_cons,YX];lia
  have g:=s (t.filter λy=>decide (y<x));have j:=YV (λy:Int=>decide (y<x)) t;have w:=BP f x;have m:wdM ps x*((t.filter λy=>decide (y<x)).map (wdM ps)).sum<=1000*40000:=QI w.2 (by lia) g.1 (by decide);unfold Xo;rw[YX];lia
def LL(f:List (Zv×Int)):okS (.lst<|f.map stD)=true:=by
 unfold okS;refine okSs_iff.mpr λd b=>?_;obtain⟨q,_,rfl⟩:=YO.mp b;have h:Xa (q.1.map D.int)=true:=okSs_iff.mpr λd b=>by obtain⟨n,_,rfl⟩:=YO.mp b;rfl
 show(okS (.tup<|q.1.map D.int)&&(okS (.int q.2)&&true))=true;unfold okS;rw[h];rfl
def Rk.stands {ps:Zu} (f:Field ps) (i:ps.length<=5):Rk (py<|.lst ((JP ps ps.length).map stD)) 50 100000:=by
 have e:py (.lst ((JP ps ps.length).map stD))=.list ((JP ps ps.length).map λq=>.tuple [.tuple (q.1.map PyData.int),.int q.2]):=by
  unfold py;rw[Kv];congr 1;refine W4 λq _=>?_;show PyData.tuple [.tuple (pys<|q.1.map D.int),.int q.2]=_;rw[Kv];rfl
 rw[e];have l:=Dr (ps:=ps) (by lia);refine(Rk.list (k:=2) (b':=100000) (RkA.map (b:=8) λq hq=>?_)<|by lia).mono (by decide) (Y1 _);obtain⟨g,o⟩:=stands_mem.mp hq;have j:q.1.length=ps.length:=by rw[g.length_eq,U8]
 have b:=Fj f q.1 (by lia);have b0:=EW (λx=>(BP f x).1) q.1;refine .tuple (b:=8) (.cons (b1:=5) (b2:=1) ((Rk.tuple (k:=0) (b':=5) (RkA.map (b:=0) λn h=>.nat ?_ _ _)<|by lia).mono (by decide) (Y1 _)) (.cons (b1:=0) (b2:=0) (.nat (by lia) _ _) (.nil _ _)<|by lia)<|by lia) (by lia)
 have:=runI_mem.mp (g.mem_iff.mp h)
 lia
def ToldK.fine {w:Int}{ps s:Zu}{o:Zv}{xs:List D} (r:Field ps) (u:ps.length<=40) (A:w=9->ps.length<=5) (z:∀q∈s,(0<=q.1/\q.1<=1000)/\(0<=q.2/\q.2<=1000)) (G:s.length<=40)
  (C:o.Nodup) (L:w≠9->o.Perm (Jc ps)) (h:ToldK w ps s o xs):okS (.lst xs)=true/\Rk (py<|.lst xs) 60 200000/\xs.length<10000000:=by
 have N:=UT ps
 have i:∀x∈Jc ps,0<=x/\x<=160000000000:=λx hx=>by
  obtain⟨q,hq,rfl⟩:=YO.mp ((Pk r).mp hx)
  have:=r q hq
  lia
 have intK:∀p:Zv,p.length<=2000->(∀n∈p,0<=n/\n<=160000000000)->okS (.lst<|p.map D.int)=true/\Rk (py<|.lst<|p.map D.int) 60 200000/\(p.map D.int).length<10000000:=λp M f=>
  ⟨HB p,(Rk.ints f).mono (by decide) (by lia),by rw[Yy];lia⟩
 have l:∀j:Zu,j.length<=100->(∀q∈j,(0<=q.1/\q.1<=1000)/\(0<=q.2/\q.2<=1000))->okS (.lst<|j.map prD)=true/\Rk (py<|.lst<|j.map prD) 60 200000/\(j.map prD).length<10000000:=λj M f=>
  ⟨Lu j,(Rk.pairs f).mono (by decide) (by lia),by rw[Yy];lia⟩
 unfold ToldK at h;rcases h with⟨e,h⟩|⟨e,h⟩|⟨e,h⟩|⟨e,h⟩|⟨e,h⟩|⟨e,h⟩|⟨e,h⟩|⟨e,h⟩|⟨e,h⟩|⟨e,h⟩
 ·rw[h];exact intK _ (by lia) i
 ·rw[h];have g:=EE C (PR r<|L<|by lia);exact l _ (by rw[g.length_eq];lia) λq hq=>by have:=r q (g.mem_iff.mp hq);lia
 ·rw[h];exact l _ (Y8 (YV _ _)<|by lia) λq hq=>z q (YS.mp hq).1
 ·rw[h];exact l _ (Y8 (YV _ _)<|by lia) λq hq=>z q (YS.mp hq).1
 ·rw[h];exact intK [] (by decide) λn f=>by cases f
 ·obtain⟨B,H,rfl⟩:=h;have J:=O9 r u N H;exact intK B (by lia) J.2
 ·obtain⟨b,y,rfl⟩:=h;exact intK b (by rw[y.perm.length_eq];lia) λn f=>i n (y.perm.mem_iff.mp f)
 ·obtain⟨E,v,rfl⟩:=h;have Q:=MB u v;exact⟨Zda E,(Rk.mvs<|Iz r u v<|.refl _).mono (by decide) (by lia),by rw[Yy];lia⟩
 ·rw[h];exact intK _ (by rw[U8];lia) λn f=>by have:=runI_mem.mp f;lia
 ·rw[h];have Q:=Dr (ps:=ps) (by have:=A e;lia);exact⟨LL _,(Rk.stands r<|A e).mono (by decide) (by decide),by rw[Yy];lia⟩
end M
namespace T
open L2 Own M
section
variable {P:Program}{w:World}{K:Zt}{mg:Zx}{base:Heap}
def Hs(G:Glob K mg)(D:Def K mg "holders_of" N5 ["strips"])
  : Callee P w K mg base CX0 1 "holders_of" ["strips"] (F3 K):=by
 refine D.ok (k:=0) LD (λj H Q E h=>?_) (λf cdv A outer s H j Q E hr h=>?_)
 ·obtain⟨l,b,rfl,⟨j,u,p⟩,C,B,q⟩:=h;rfl
 ·obtain⟨l,b,rfl,⟨j,u,p⟩,C,B,q⟩:=h;refine⟨_,(U5<|Ur<|J2 (Ez rfl) (by rfl) G.Zc Qq<|Jw (UF (Im rfl) (by rfl) G.Zs boot_set<|Jw (SU (N':=["holder","width"]) (φ:=[none,none]) rfl (K8.of<|by rfl) (Fk<|pv 0) (λ_ _ _ _ _=>⟨(T6 (K:=K) (n:=2) rfl<|XC (Na (i:=0) (show(["holder","width"]:Z2).Nodup from by decide +kernel) rfl (by first|exact Or.inl rfl|exact Or.inr rfl))<|XC (Na (i:=1) (show(["holder","width"]:Z2).Nodup from by decide +kernel) rfl (by first|exact Or.inl rfl|exact Or.inr rfl)) PN),X4,(pv 0)⟩)) J9) J9),?_⟩
  have e1:=p.1;refine⟨_,rfl,l,rfl,⟨_,SqL.of u⟩,λD y=>M4 (ds:=b) (λd=>some (V.int d.1)) (SqL.of u) e1 y (Y8 B<|by decide) (λi x d H2 hx U S k T=>?_) ?_⟩
  ·obtain⟨d',g,a,rfl,Y⟩:=p.get hx;rw[U]at g;cases g
   exact⟨a,_,rfl,SqT.of (S _ _ Y),rfl,_,_,rfl,_,_,rfl,rfl,.skip (.skip .refl),_,rfl,T⟩
  ·have em:b.filterMap (λd=>some (V.int d.1))=(b.map (·.1)).map V.int:=by
    rw[QZ,Wa];rfl
   rw[em];have S1:Same H (upd H D<|.lst ((b.map (·.1)).map V.int)):=Jy y;refine⟨D,b.map (·.1),rfl,SqL.of Js,by rw[Yy];lia,λv L=>?_⟩;have J:=Own.Same.new (o:=XT w v ((b.map (·.1)).foldl SetR.JE [])) S1 L;refine⟨v,_,rfl,?_,.inr Js,λr ns z N M=>?_⟩
   ·have:=Eh (b.map (·.1)) []
    rw[Yy]at this;simp at this ⊢;lia
   ·rw[Zby C N M];exact q r _ (J.free z) (Own.Same.new J z) Js
def RC(G:Glob K mg)(D:Def K mg "_law_shuffled" N6 ["_law_holders","_law_cell"])
  : Callee P w K mg base CX0 1 "_law_shuffled" ["_law_holders","_law_cell"] (Cd K):=by
 refine D.ok (k:=0) KI (λvs H Q E h=>?_) (λf cdv A outer s H vs Q E hr h=>?_)
 ·obtain⟨l,x,c,rfl,hl,hz,q⟩:=h;rfl
 ·obtain⟨l,x,c,rfl,hl,hz,q⟩:=h
  refine⟨_,(JR (Pu.pz 2 KI.nd<|UF G2 (by rfl) G.Zd boot_list<|Jw (pv 0) J9)
   (JR (Pu.pz 3 KI.nd<|Xl J9)
   (JR (Pu.pz 4 KI.nd<|pv 1)
   (JR (Du YN (Xf (DR hr.units0) (pv 2) (Xl J9)<|UZ _)
   (JR (XH<|KW Wv QF QG Nc (pv 3)<|Jw (BL NK (pv 2) (UK J8 (pv 4)<|J2 Ng (by rfl) G.len PySem.boot_len<|Jw (pv 2) J9) (λ_ _=>rfl)) J9)
   (JR (Pu.pz 4 KI.nd<|UK U0 (pv 4)<|J2 Ng (by rfl) G.len PySem.boot_len<|Jw (pv 2) J9)
   (U5<|XH<|KW Wv PySem.F.slot_list_remove PySem.F.type_list_remove Zcf (pv 2)<|Jw (BL NK (pv 3) (PZ To Jp) (λ_ _=>rfl)) J9))))
   (U5<|Ur<|pv 3))))),?_⟩
  refine⟨_,rfl,_,_,rfl,.inl hl,λL nL=>⟨by decide,λO Y=>⟨_,rfl,?_⟩⟩⟩;have S1:=Jy (o:=.lst (x.map V.int)) nL;have S2:=Own.Same.new (o:=.lst []) S1 Y;have r:L≠O:=λz=>by rw[←z,Js]at Y;cases Y
  have C:=S1.free Y;refine⟨λm σ v=>∃(xs os:Zv) (g:Int),m=xs.length/\σ=[some (.ref l),some (.int c),some (.ref L),some (.ref O),some (.int g)]/\v L=some (.lst<|xs.map V.int)/\v O=some (.lst<|os.map V.int)/\(os++xs).Perm x/\Same H v,⟨x.length,x,[],c,rfl,rfl,by rw[Jg r,Js],Js,List.Perm.refl _,S2⟩,?_⟩;rintro m σ v ⟨xs,os,g,rfl,rfl,hL,hO,hp,S⟩;refine⟨_,rfl,by decide,λe U=>⟨L,e,_,_,rfl,rfl,SqL.of (by rw[Jg (J4 hL U)];exact hL),SqL.of Js,Xi xs,Xi [],_,rfl,?_⟩⟩;show if (!eqL (xs.map V.int) (([]:Zv).map V.int))=true then _ else _;rw[NI];have S3:=Own.Same.new (o:=.lst []) S U;have n:(upd v e<|.lst []) L=some (.lst<|xs.map V.int):=by rw[Jg (J4 hL U)];exact hL
  have i:(upd v e<|.lst []) O=some (.lst<|os.map V.int):=by rw[Jg (J4 hO U)];exact hO
  generalize upd v e (.lst [])=T at S3 n i;have M:=hp.length_eq;rw[YK]at M;by_cases hx:xs=[]
  ·rw[YG hx];subst hx;refine JA ⟨_,rfl,q O T os C S3 i ?_⟩;simpa using hp
  ·rw[Wr hx];have hpos:0<xs.length:=Vu.mpr hx;refine Ky ⟨λy H'=>∃m',m'<xs.length/\∃(p B:Zv) (g:Int),m'=p.length/\y=[some (.ref l),some (.int c),some (.ref L),some (.ref O),some (.int g)]/\H' L=some (.lst<|p.map V.int)/\H' O=some (.lst<|B.map V.int)/\(B++p).Perm x/\Same H H',λy H' z=>z,?_⟩;have hi1:=Vs g (show(xs.length:Int)≠0 by omega);have hi2:=QH g (show(0:Int)<xs.length by omega);have hk:(g % (xs.length:Int)).toNat<xs.length:=by omega
   have ai:atI (xs.map V.int) (g % (xs.length:Int))=some (.int xs[(g % (xs.length:Int)).toNat]):=Xc (T8 hi1<|Yx hk);generalize hz0:xs[(g % (xs.length:Int)).toNat]=z at ai;have J:z∈xs:=by rw[←hz0];exact YD hk
   refine⟨_,rfl,.inl ⟨rfl,_,SqL.of i⟩,_,rfl,_,rfl,_,rfl,_,_,rfl,.inl ⟨_,SqL.of n,rfl⟩,_,_,rfl,rfl,(by show(0:Int)<_;rw[Yy];omega),.inl ⟨L,xs.map V.int,g % ((xs.map V.int).length:Int),.int z,rfl,rfl,SqL.of n,by rw[Yy];exact ai,O,_,_,rfl,rfl,i,F2 (by rw[Yy];omega),?_⟩⟩;have u:(upd T O<|.lst (os.map V.int++[.int z])) O=some (.lst ((os++[z]).map V.int)):=by rw[Js,YQ];rfl
   have j:(upd T O<|.lst (os.map V.int++[.int z])) L=some (.lst<|xs.map V.int):=by rw[Jg r];exact n
   have S4:Same H (upd T O<|.lst (os.map V.int++[.int z])):=λb o N=>by rw[Jg (J4 N C)];exact S3 b o N
   generalize upd T O (.lst (os.map V.int++[.int z]))=H4 at S4 j u;refine⟨_,rfl,_,rfl,_,_,rfl,.inl ⟨_,SqL.of j,rfl⟩,_,_,rfl,rfl,⟨by rw[Yy];omega,by rw[Yy];omega⟩,?_⟩;have al:atI ((os++[z]).map V.int) (-1)=some (.int z):=by rw[YQ];exact M6 _ _
   refine⟨_,rfl,.inl ⟨rfl,_,SqL.of j⟩,_,rfl,_,rfl,.inl ⟨O,_,_,_,rfl,rfl,SqL.of u,al,L,xs,z,rfl,rfl,j,J,?_⟩⟩;have hj:xs.idxOf z<xs.length:=QC.mpr J;have e1:(xs.eraseIdx<|xs.idxOf z).length<xs.length:=by rw[List.length_eraseIdx_of_lt hj];omega
   refine⟨_,e1,xs.eraseIdx (xs.idxOf z),os++[z],_,rfl,rfl,Js,by rw[Jg r.symm];exact u,?_,λb o N=>by rw[Jg (J4 N nL)];exact S4 b o N⟩;have pe:=SetR.T5 xs (xs.idxOf z) hj;have ez:xs[xs.idxOf z]=z:=V1 hj;rw[ez]at pe;rw[Qr];exact(pe.append_left os).trans hp
end
open Pu
section
variable {P:Program}{w:World}{K:Zt}{mg:Zx}{base:Heap} (ζ:Fv P w K mg base)
variable (G:Glob K mg) (ZC:Mr ζ) (ZE:Ef ζ) (ZI:AB ζ) (ZJ:DB ζ) (ZK:DA ζ) (ZV:Ep ζ) (ZW:EK ζ) (ZX:E8 ζ) (ZY:Dj ζ) (ZZ:Es ζ) (Ya:FM ζ) (Yb:BR ζ) (ZF:Cb ζ) (Yc:Dq ζ) (Yd:Gi ζ) (ZA:Sz ζ) (ZL:F1 ζ) (ZM:Fl ζ) (ZG:Cg ζ) (Ye:Az ζ) (ZN:FR ζ) (Yf:An ζ) (Yg:FD ζ) (Yh:CC ζ) (Yi:Cy ζ) (ZO:Cf ζ) (Yj:Eu ζ) (Yk:Ax ζ) (ZD:S9 ζ) (Yl:AH ζ) (Ym:EZ ζ) (ZP:FA ζ) (Yn:Ce ζ) (ZQ:Do ζ) (ZR:Ds ζ) (Yo:A7 ζ) (Yp:Gx ζ)
def Iq(h:Def K mg "own_numbers" Nx ["strips"])
  : Ef ζ:=by
 refine h.fz IM (λl n=>(b1<|sR<|xC ["index"] [none] (jI<|ir G.Zb<|a1<|xl G.len<|xv 0) (gN 0) f0<|xo JM JO (xv 0) xi)) (.a ?_)
 ·rintro o R X ⟨b,rfl,j,g⟩;refine⟨rfl,?_⟩;have f:(b.map prD).length=b.length:=Yy ..;refine⟨⟨by lia,by lia⟩,Sa (λi=>some (.int (0+(i:Int)+1))) (by lia) (λi _=>⟨_,rfl,rfl⟩) ?_⟩
  have e:(List.range ((b.map prD).length:Int).toNat).filterMap (λ(i:Nat)=>some (D.int (0+(i:Int)+1)))=(Jk 1 b.length).map D.int:=by
   unfold Jk;rw[QZ,Wa,f,Wk];refine W4 λi _=>?_;show D.int (0+(i:Int)+1)=D.int (1+(i:Int));congr 1;lia
  rw[e];exact g
def Ll(r:Def K mg "exchange_cost" Bi ["strips","numbers","place"])
  : AB ζ:=by
 refine r.fz Ov (λv n=>(bc (sS 3 n<|xx (xv 0)<|xo U3 Ux (xx (xv 1)<|xo U3 Ux (xv 2) xi) xi)<|bc (sS 4 n<|xx (xv 0)<|xo U3 Ux (xx (xv 1)<|xv 2) xi)<|b1<|sR<|xo Xe Xs (xx (xv 3) xi)<|xx (xv 4) xi)) (.a ?_)
 ·rintro z R X ⟨f,b,p,rfl,l,g,y,x,h⟩;refine⟨rfl,?_⟩;have b1:(p-1).toNat<b.length:=by omega
  have j:p.toNat<b.length:=by omega
  have u:=g _ (YD b1);have s:=g _ (YD j);refine⟨_,UM (by omega) (by omega),_,UM (by omega) (by omega),_,UM (by omega) (by omega),_,UM (by omega) (by omega),_,rfl,_,rfl,?_⟩;have i:(b[(p-1).toNat]-1).toNat<f.length:=by omega
  have q:(b[p.toNat]-1).toNat<f.length:=by omega
  have f1:=l _ (YD i);refine⟨.inl ⟨by show -(2 ^ 64)<(f[(b[(p-1).toNat]-1).toNat]).2;omega,by show(f[(b[(p-1).toNat]-1).toNat]).2<2 ^ 64;omega⟩,?_⟩
  have e:exM f b p.toNat=(f[(b[(p-1).toNat]-1).toNat]).2*(f[(b[p.toNat]-1).toNat]).2:=by
   unfold exM
   have o:b.getD (p.toNat-1) 0=b[(p-1).toNat]:=by
    rw[show p.toNat-1=(p-1).toNat by omega];exact PM b1
   rw[o,PM j,PM i,PM q]
  rw[e]at h;exact h
def O8(l:Def K mg "exchanged" SM ["numbers","place"])
  : DB ζ:=by
 refine l.fz OP (λq n=>(b1<|sR<|xo Px Pq (xo Px Pq (xp (xv 0) o0<|o1<|xo U3 Ux (xv 1) xi)<|xL<|a2 (xx (xv 0)<|xv 1)<|xx (xv 0)<|xo U3 Ux (xv 1) xi)<|xp (xv 0) (o1<|xo JM JO (xv 1) xi) o0)) (.a ?_)
 ·rintro r R X ⟨b,p,rfl,j,i,o,g⟩;refine⟨rfl,?_⟩;have b1:p.toNat<b.length:=by lia
  have b2:(p-1).toNat<b.length:=by lia
  have f:(cutD (b.map D.int) none<|some (p-1)).length<=1000:=by have:=(EG (b.map D.int) none<|some (p-1)).length_le;rw[Yy]at this;lia
  have h:(cutD (b.map D.int) (some (p+1)) none).length<=1000:=by have:=(EG (b.map D.int) (some (p+1)) none).length_le;rw[Yy]at this;lia
  refine⟨UJ _,_,UM (by lia) (by lia),_,UM (by lia) (by lia),by simp,rfl,rfl,Y8 (Nat.add_le_add f<|Y1 2) (by decide),UJ _,rfl,rfl,Y8 (Nat.add_le_add (by rw[YK];exact Nat.add_le_add f (Y1 2)) h) (by decide),?_⟩;have e:=HC j i (b1:=b1) (b2:=b2);rw[←e]at g;exact g
def MI(H:Def K mg "first_wrong_place" SE ["numbers","ranks"])
  : DA ζ:=by
 refine H.fz HV (λL n=>(bc (sO [2] YN (iR G.Zb<|a2 xi<|xl G.len<|xv 0) (gN 2)<|b1<|sI (tc Kk Kp (xx (xv 1)<|xo U3 Ux (xx (xv 0)<|xo U3 Ux (xv 2) xi) xi)<|xx (xv 1)<|xo U3 Ux (xx (xv 0)<|xv 2) xi) (b1<|sV 2) b0)<|b1<|sR xi)) (.a ?_)
 ·rintro Q R X ⟨b,h,rfl,v,J,B⟩;refine⟨rfl,?_⟩;have M:(b.map D.int).length=b.length:=Yy ..
  have A:∀(i:Nat) (k:Int),i<b.length->k=(i:Int)->atI (b.map D.int) k=some (.int<|b.getD i 0):=λi k l e=>by
   rw[e];exact Xc (f:=D.int) (TL<|by rw[Y2,Yx l];rfl)
  have x:∀i:Nat,i<b.length->atI (h.map D.int) (b.getD i 0-1)=some (.int (h.getD (b.getD i 0-1).toNat 0)):=λi l=>by
   have E:b.getD i 0∈b:=by
    rw[Y2,Yx l];exact YD l
   have:=v _ E
   generalize b.getD i 0=z at this;rw[UM (f:=D.int) (xs:=h) (by lia) (by lia),Y2,Yx (show(z-1).toNat<h.length by lia)];rfl
  have u:∀i:Nat,i<b.length->(b.map λm=>h.getD (m-1).toNat 0).getD i 0=h.getD (b.getD i 0-1).toNat 0:=λi l=>KZ l;have y:(b.map λm=>h.getD (m-1).toNat 0).length=b.length:=Yy ..;refine⟨⟨by lia,by lia⟩,Xt (λi o=>(∀q,1<=q->q<1+i->(b.map λm=>h.getD (m-1).toNat 0).getD (q-1) 0<=(b.map λm=>h.getD (m-1).toNat 0).getD q 0)/\o=[some (.bor<|.lst<|b.map D.int),some (.bor<|.lst<|h.map D.int),none]) ⟨λq r N=>by lia,rfl⟩ ?_ ?_⟩
  ·rintro i o l ⟨r,rfl⟩
   have j:i+1<b.length:=by
    have:i<((((b.map D.int).length:Nat):Int)-1).toNat:=l
    lia
   refine⟨_,A i _ (by lia) (by lia),_,x i (by lia),_,A (i+1) _ j (by lia),_,x (i+1) j,?_⟩;refine Ji (λg=>?_) (λg=>?_)
   ·have C:h.getD (b.getD (i+1) 0-1).toNat 0<h.getD (b.getD i 0-1).toNat 0:=YR g
    have:=B (i+1) ⟨λq p s=>r q p (by rw[Y4 (by lia)]at s;lia),.inr ⟨by lia,by rw[y];exact j,by rw[u _ j,QD,u _ (by lia)];exact C⟩⟩
    rw[show((i+1:Nat):Int)=1+(i:Int) by lia]at this;exact this
   ·have C:¬h.getD (b.getD (i+1) 0-1).toNat 0<h.getD (b.getD i 0-1).toNat 0:=λz=>g (YG z);refine⟨λq p s=>?_,rfl⟩;by_cases c:q<1+i
    ·exact r q p c
    ·have:q=i+1:=by lia
     subst this;rw[u _ j,QD,u _ (by lia)];lia
  ·rintro o ⟨r,rfl⟩;refine B 0 ⟨λq p s=>r q p ?_,.inl rfl⟩;rw[Y5 rfl,y]at s;lia
def LY(j:Def K mg "check_neighbours" Ba ["strips","place"])
  : Ep ζ:=by
 refine j.fy Hh (λl n=>(b1<|sI (tp<|wo (tc PX TX (xv 1) xi)<|wO<|tc MO L4 (xv 1)<|xl G.len<|xv 0) (b1<|sQ G.Zk G.Zj ExcR.FK<|a1 xs) b0)) (.a ?_)
 ·rintro r R X ⟨f,p,rfl,b⟩;refine⟨rfl,?_⟩;have o:(f.map prD).length=f.length:=Yy ..;refine Ji (λg=>Ky ?_) (λg=>?_)
  ·rw[Y5 (.inl<|YR g)]at b;exact⟨by simp,b⟩
  ·have q:¬p<1:=λz=>g (YG z);refine Ji (λi=>?_) (λi=>?_)
   ·have h:((f.map prD).length:Int)<=p:=YR i;rw[Y5 (.inr<|by lia)]at b;exact⟨by simp,b⟩
   ·have h:¬((f.map prD).length:Int)<=p:=λz=>i (YG z);rw[Y4 (by lia)]at b;exact b
def Mp(E:Def K mg "broken_wishes" Si ["order","wishes"])
  : EK ζ:=by
 refine E.fz Fx (λo n=>(bc (se (Pu.pz 2 Fx.nd EA)<|JV D4<|Jx 2)<|bc (sF 0<|sO [3,4] YN (ie (O7 rfl G.Zh<|az<|pv 0)<|Zbm<|sz<|Ja 0) (gT 2<|gc (gN 3)<|gc (gN 4) g0)<|b1<|se (Tt (JH<|o ()) (pv 2) (pv 4) (pv 3) rfl)<|TN 2 (Ja 4)<|Ja 3)<|bc (sC 5 ["ahead","behind","index_of"] [none,none,some 2] n (jL<|xv 1) (gT 2<|gc (gN 0)<|gc (gN 1) g0) (f1<|tp<|wa (te (NG<|AU (JH<|o ()) (pv 0)<|pv 2)<|Sq<|F9 (Ja 0)<|Ja 2)<|wA<|te (NG<|AU (JH<|o ()) (pv 1)<|pv 2)<|Sq<|F9 (Ja 1)<|Ja 2)<|xt<|a2 (xv 0)<|xv 1)<|b1<|sR<|xC ["ahead","behind","index_of"] [none,none,some 2] (jL<|xv 5) (gT 2<|gc (gN 0)<|gc (gN 1) g0) (f1<|tc PX TX (xe (XO (JH<|o ()) (pv 2) (pv 1) (λ_ _=>rfl))<|XY (Ja 2)<|Ja 1)<|xe (XO (JH<|o ()) (pv 2) (pv 0) (λ_ _=>rfl))<|XY (Ja 2)<|Ja 0)<|xt<|a2 (xv 0)<|xv 1)) (.a ?_)
 ·rintro L R X ⟨os,r,rfl,p,J,hw,B⟩;refine⟨rfl,rfl,UJ _,RF (xs:=os) (emb:=D.int) (λi f=>∃b:List (Key×V),f=[some (.bor<|.lst<|os.map D.int),some (.bor<|.lst<|r.map prD),some (.own<|.dK b),none,none,none]/\b.length<=i/\∀h:Int,Jh b (.inl h)=if h∈os.take i then some (.int<|os.idxOf h)else none) ⟨[],rfl,by simp,λh=>by simp[Jh]⟩ ?_ ?_⟩
  ·rintro i v f ⟨b,rfl,y,g⟩;refine⟨rfl,.inl os[i],.int i,rfl,rfl,by lia,_,rfl,Y8 (KO _ _ _) (by lia),λh=>?_⟩;rw[P6,g];by_cases e:h=os[i]
   ·subst e;rw[Y5 rfl,Y5 ((Ao v).mpr (.inr rfl)),T1 p v]
   ·rw[Y4 (λz=>e (Sum.inl.inj z))];simp only[Ao v,e,or_false]
  ·rintro f ⟨b,rfl,y,g⟩;rw[W2]at g;refine J6 (xs:=r) (emb:=prD) (λq=>if (decide (q.1∈os)&&decide (q.2∈os))=true then some (prD q)else none) (by lia) (λq hq=>⟨rfl,⟨_,rfl,?_⟩⟩) ?_
   ·have u:(Jh b<|.inl q.1).isSome=decide (q.1∈os):=by
     rw[g];by_cases e:q.1∈os<;>simp[e]
    have s:(Jh b<|.inl q.2).isSome=decide (q.2∈os):=by
     rw[g];by_cases e:q.2∈os<;>simp[e]
    refine Ji (λl=>⟨_,rfl,Ji (λx=>⟨by simp,_,rfl,Y5 ?_⟩) (λx=>Y4 λz=>x ?_)⟩) (λl=>JA (Y4 λz=>l ?_))
    ·rw[←u,←s,YU];exact⟨l,x⟩
    ·rw[←u,←s,YU]at z;exact z.2
    ·rw[←u,←s,YU]at z;exact z.1
   rw[Ul (λq=>decide (q.1∈os)&&decide (q.2∈os)) prD];have A:=YV (λq:Int×Int=>decide (q.1∈os)&&decide (q.2∈os)) r;refine J6 (xs:=r.filter λq=>decide (q.1∈os)&&decide (q.2∈os)) (emb:=prD) (λq=>if decide (os.idxOf q.2<os.idxOf q.1)=true then some (prD q)else none) (by lia) (λq hq=>?_) ?_
   ·have j:=(YS.mp hq).2;rw[YU,WL,WL]at j;refine⟨rfl,.inl q.2,.int (os.idxOf q.2),rfl,by rw[g,Y5 j.2],rfl,.inl q.1,.int (os.idxOf q.1),rfl,by rw[g,Y5 j.1],rfl,?_⟩;refine Ji (λl=>⟨by simp,_,rfl,Y5 ?_⟩) (λl=>Y4 λz=>l ?_)
    ·have C:((os.idxOf q.2:Nat):Int)<((os.idxOf q.1:Nat):Int):=YR l;exact YG (by lia)
    ·have H:=YR z;exact YG (show((os.idxOf q.2:Nat):Int)<((os.idxOf q.1:Nat):Int) by lia)
   rw[Ul (λq=>decide (os.idxOf q.2<os.idxOf q.1)) prD,V3]
   have e:(λq:Int×Int=>decide (os.idxOf q.2<os.idxOf q.1)&&(decide (q.1∈os)&&decide (q.2∈os)))=KC os:=by
    funext q;rw[Za3 p,Bool.and_comm]
   rw[e];exact B
def MS(T:Def K mg "longer_paths" SD ["paths","left","wishes"])
  : E8 ζ:=by
 refine T.fz ED (λx n=>(bc (sS 3 n<|xL a0)<|bc (se (Pu.pz 4 ED.nd EA)<|JV D4<|Jx 4)<|bc (sF 1<|sF 0<|sO [5,6] YN (iL<|xv 0) (gN 5)<|b1<|sF 1<|sO [6] YN (iL<|xv 1) (gN 6)<|b1<|sI (tp<|wa (te (NG<|Oj (JH<|x ()) (pv 6)<|pv 4)<|Sq<|Ia (Ja 6)<|Ja 4)<|wA<|ti x (xt<|a2 (xx (xv 5)<|xe (PZ To Jp)<|Sk Jq)<|xv 6)<|xv 2) (bc (se (Tt (JH<|x ()) (pv 4) (pv 6) UN rfl)<|TN 4 (Ja 6) UP)<|b1<|sF 6<|sA 3<|xo Px Pq (xv 5)<|xL<|a1<|xv 6) b0)<|b1<|sV 3)) (.a ?_)
 ·rintro U R X ⟨l,s,u,v,rfl,y,H,N⟩;refine⟨rfl,?_⟩
  refine⟨by simp,rfl,Uk (xs:=s) (emb:=em l) (λi f=>∃o b,f=[some (.bor<|.lst<|s.map<|em l),some (.bor<|.lst<|u.map D.int),some (.bor<|.lst<|v.map prD),some (.own<|o.map<|em l),some (.own<|.dK b),none,none]/\LWs v l s u o b)
   ⟨[],[],rfl,(λq hq=>by cases hq),Qi,(λh=>by simp[Jh]),Y1 _⟩ ?_ ?_⟩
  ·rintro i M f ⟨o,b,rfl,r⟩;have A:=YD M;have z:=y s[i] A;generalize s[i]=p at A z ⊢;refine⟨rfl,Uk (xs:=u) (emb:=D.int) (λj f=>∃o b,f=[some (.bor<|.lst<|s.map<|em l),some (.bor<|.lst<|u.map D.int),some (.bor<|.lst<|v.map prD),some (.own<|o.map<|em l),some (.own<|.dK b),some (.bor<|em l p),none]/\LWs v l s u o b) ⟨o,b,rfl,r⟩ ?_ ?_⟩
   ·rintro j L f ⟨o,b,rfl,r⟩;have C:=YD L;generalize u[j]=h at C ⊢;have B:=r.len_le;have J:=r.len;refine⟨.inl h,rfl,Ji (λg=>?_) (λg=>JA ⟨o,b,rfl,r⟩)⟩
    have Q:(Jh b<|.inl h).isSome=false:=by
     cases e:(Jh b<|.inl h).isSome with
     |false=>rfl
     |true=>rw[e]at g;cases g
    refine⟨_,Se l p,by simp,_,.lp (Ju l p,h) v,Ji (λE=>?_) (λE=>⟨o,b,rfl,r⟩)⟩;refine⟨.inl h,.bl true,rfl,rfl,by lia,by simp,UJ _,rfl,by simp;lia,by rw[Yy];lia,o++[p++[h]],_,?_,r.put A C Q (YR E)⟩;rw[YQ]
    have e:em l (p++[h])=.lst ((l::p).map D.int++[.int h]):=by
     unfold em;rw[←Qw,YQ];rfl
    rw[V2,e];rfl
   ·rintro f ⟨o,b,rfl,r⟩;exact⟨o,b,rfl,r⟩
  ·rintro f ⟨o,b,rfl,r⟩;exact N o r.g r.len_le
def Oe(h:Def K mg "check_small" Nv ["strips"])
  : Dj ζ:=by
 refine h.fz LH (λj n=>(b1<|sI (tc Kk Kp (xl G.len<|xv 0)<|xe (ExcR.Zb1 G.Zo) Jq) (b1<|se DW CK) b0)) (.a ?_)
 ·rintro p R X ⟨b,rfl,i,f⟩;refine⟨rfl,?_⟩;have l:(b.map prD).length=b.length:=Yy ..;refine Ji (λg=>?_) (λg=>f);have o:(7:Int)<((b.map prD).length:Int):=YR g;omega
def Ml(u:Def K mg "cost_to_come_next" SC ["strips","stand","number"])
  : Es ζ:=by
 refine u.fz Rb (λh n=>(bc (sC 3 ["other","strips","stand"] [none,some 0,some 1] n (jI<|iR G.Zb<|a2 xi<|xv 2) (gN 0) (f1<|tI h (xv 0)<|xv 2)<|xx (xx (xv 1)<|xo U3 Ux (xv 0) xi) xi)<|b1<|sR<|xo Xe Xs (xx (xx (xv 0)<|xo U3 Ux (xv 2) xi) xi)<|xe (J2 (Bv (K:=K) rfl) (by rfl) G.Zi boot_sum<|az<|pv 3)<|SG<|sz<|Ja 3)) (.a ?_)
 ·rintro A R X ⟨f,r,x,rfl,p,v,s,q,o⟩;refine⟨rfl,?_⟩;unfold U9;rw[YE,YE,AG];have z:(f.map prD).length=f.length:=Yy ..;have hw:∀y:Int,1<=y->y<=f.length->1<=wdM f y/\wdM f y<=1000:=λy a b=>(p _<|OT a b).2.2;refine⟨⟨by lia,by lia⟩,Sa (λi=>if (!decide ((1+(i:Int))∈r))=true then some (.int<|wdM f (1+(i:Int)))else none) (by show(x-1).toNat<=100000;lia) (λi l=>?_) ?_⟩
  ·have j:i<(x-1).toNat:=l;refine⟨_,.ti _ _,Ji (λg=>⟨_,FE (by lia) (by lia),_,rfl,_,rfl,Y5 g⟩) (λg=>Y4 g)⟩
  ·have e:(List.range (x-1).toNat).filterMap (λ(i:Nat)=>if (!decide ((1+(i:Int))∈r))=true then some (D.int<|wdM f (1+(i:Int)))else none)=(((Jk 1 (x-1).toNat).filter λy=>!decide (y∈r)).map (wdM f)).map D.int:=by
    unfold Jk;rw[List.filter_map,Wa,Wa,←List.filterMap_eq_map,List.filterMap_filter];rfl
   have:=hw x s q
   refine⟨_,FE (by lia) (by lia),_,rfl,_,Wz D.lst e,.inl ⟨by show -(2 ^ 64)<wdM f x;lia,by show wdM f x<2 ^ 64;lia⟩,o⟩
def Rw(C:Def K mg "pair_cost" BG ["strips","ahead","behind"])
  : FM ζ:=by
 refine C.fz IF (λq n=>(bc (sS 3 n xi)<|bc (sS 4 n xi)<|bc (sF 0<|sO [5,6] YN (iL<|xv 0) (gT 2<|gc (gN 5)<|gc (gN 6) g0)<|b1<|sI (tq q (xv 5)<|xv 2) (b1<|sU 3 n Nn<|xv 6)<|b1<|sI (tq q (xv 5)<|xv 1) (b1<|sU 4 n Nn<|xo Xe Xs (xv 3)<|xv 6) b0)<|b1<|sV 4)) (.a ?_)
 ·rintro E R X ⟨b,x,y,rfl,v,u⟩;refine⟨rfl,rfl,Uk (xs:=b) (emb:=prD) (λi f=>f=[some (.bor<|.lst<|b.map prD),some (.sh<|.int x),some (.sh<|.int y),some (.sh<|.int<|tpM b y i),some (.sh<|.int<|pcM b x y i),none,none]) rfl ?_ ?_⟩
  ·rintro i s f rfl;have r:b.getD i (0,0)=b[i]:=by rw[Y2,Yx s];rfl
   have hw:=v _ (YD s);have B:tpM b y (i+1)=tpM b y i+(if b[i].1=y then b[i].2 else 0):=by simp only[tpM];rw[r]
   have A:pcM b x y (i+1)=pcM b x y i+(if x≠y/\b[i].1=x then tpM b y i*b[i].2 else 0):=by simp only[pcM];rw[r]
   rw[B,A];generalize b[i]=p at hw;refine⟨rfl,Ji (λg=>?_) (λg=>Ji (λl=>?_) (λl=>?_))⟩
   ·have e:p.1=y:=YR g;rw[Y5 e,Y4 (by rintro⟨o,j⟩;exact o (j.symm.trans e)),VA];rfl
   ·have e:¬p.1=y:=λz=>g (YG z);have h:p.1=x:=YR l;rw[Y4 e,Y5 ⟨λz=>e (h.trans z),h⟩,VA];exact⟨.inr ⟨by show -(2 ^ 64)<p.2;lia,by show p.2<2 ^ 64;lia⟩,rfl⟩
   ·have e:¬p.1=y:=λz=>g (YG z);have h:¬p.1=x:=λz=>l (YG z);rw[Y4 e,Y4 (by rintro⟨o,j⟩;exact h j),VA,VA];rfl
  ·rintro f rfl;exact u
def Ic(s:Def K mg "sets_of" Bo ["holders"])
  : BR ζ:=by
 refine s.fz L0 (λv n=>(bc (sS 1 n<|xL<|a1<|xt a0)<|bc (sF 0<|sO [2] YN (iL<|xv 0) (gN 2)<|b1<|sF 2<|sS 1 n<|xo Px Pq (xv 1)<|xC ["members","holder"] [none,some 2] (jL<|xv 1) (gN 0) f0<|xe (UK (A8 (K:=K)) (pv 0)<|Xn<|az<|pv 1)<|FB (Ja 0)<|XG<|sz<|Ja 1)<|b1<|sV 1)) (.a ?_)
 ·rintro x R X ⟨g,rfl,u,r⟩;refine⟨rfl,by simp,by simp,rfl,Uk (xs:=g) (emb:=D.int) (λi f=>f=[some (.bor<|.lst<|g.map D.int),some (.own ((Jo<|g.take i).map tD)),none]) rfl ?_ ?_⟩
  ·rintro i q f rfl
   have l:(Jo<|g.take i).length<=1024:=by
    rw[NL,Wg];exact Qy (j:=10) (by decide) (by lia)
   have o:∀b∈Jo (g.take i),b.length<=10:=λb p=>by
    have:=(K6 _ b p).length_le
    rw[Wg]at this;lia
   rw[YY q,X2];generalize Jo (g.take i)=S at l o ⊢;generalize g[i]=h;refine J6 (xs:=S) (emb:=tD) (λb=>some (tD (b++[h]))) (by lia) (λb p=>?_) ?_
   ·refine⟨by simp,_,_,Zde b,rfl,?_,_,rfl,?_⟩
    ·have:=o b p
     rw[Yy];show b.length+1<=100000;lia
    ·unfold tD;rw[YQ];rfl
   ·rw[UR];refine⟨rfl,rfl,?_,?_⟩
    ·rw[Yy,Yy];lia
    ·show[_,_,_]=[_,_,_];rw[YQ,Wa];rfl
  ·rintro f rfl;rw[W2];exact r
def Iw(i:Def K mg "without" BF ["members","holder"])
  : Cb ζ:=by
 refine i.fz Zcd (λf n=>(b1<|sR<|xe (UF (F7 (K:=K)) (by rfl) G.Ze boot_tuple<|az<|cz ["member","holder"] [none,some 1] (Po (K:=K)<|pv 0) ⟨(gk 0),(Nb<|cn K (f ()) (pv 0)<|pv 1),(pv 0)⟩)<|Dp<|sz<|UD (SndI.c<|Pb<|Ja 0) (Jx 0) (Up<|NV (Ja 0)<|Ja 1)<|Ja 0)) (.a ?_)
 ·rintro o R X ⟨b,h,rfl,j,g⟩;refine⟨rfl,?_⟩;rw[KP];refine⟨_,rfl,J6 (s:=.sh .non) (xs:=b) (emb:=D.int) (λm=>if decide (m≠h)=true then some (.int m)else none) (by lia) (λm l=>?_) ?_⟩
  ·show if (!decide (m=h))=true then _ else _;by_cases e:m=h
   ·rw[YG e];exact JA (by simp[e])
   ·rw[Wr e];exact Ky ⟨_,rfl,Y5 (YG e)⟩
  ·rw[Ul (λm=>decide (m≠h))];exact⟨rfl,g⟩
def Og(l:Def K mg "may_lie_last" Nq ["members","holder","wishes"])
  : Dq ζ:=by
 refine l.fz HS (λi n=>(b1<|sR<|xn<|xe (J2 (FP (K:=K) rfl) (by rfl) G.Zm boot_any<|az<|cz ["ahead","behind","holder","members"] [none,none,some 1,some 0] (X1 (K:=K)<|pv 2) ⟨(T6 (K:=K) (n:=2) rfl<|XC (gk 0)<|XC (gk 1) PN),X4,(N2 (Ku (Tu (K:=K)<|show _<cLine from(i ()).units0) (pv 0) (pv 2)<|UZ _)<|Bp<|Ku (PK (K:=K)<|show _<cLine from JH (i ())) (pv 1) (pv 3)<|by with_unfolding_all rfl)⟩)<|Ca<|sz<|UD (K4<|Ja 2) (Bh<|Pa (Jx 0)<|Pa (Jx 1) SA) Kj<|Sf (XI (Ja 0)<|Ja 2)<|Pw (Ja 1)<|Ja 3)) (.a ?_)
 ·rintro p R X ⟨b,h,f,rfl,o,j⟩;refine⟨rfl,?_⟩;rw[KP];refine J6 (xs:=f) (emb:=prD) (λq=>some (.bl (decide (q.1=h)&&decide (q.2∈b)))) (by lia) (λq hq=>?_) ?_
  ·refine⟨rfl,?_⟩;show if true=true then(if decide (q.1=h)=true then _ else _)else(some (D.bl (decide (q.1=h)&&decide (q.2∈b)))=none);refine Ky (Ji (λg=>⟨_,.ti _ _,?_⟩) (λg=>?_))
   ·refine⟨_,rfl,?_⟩;rw[g,Vc];rfl
   ·refine⟨_,rfl,?_⟩;rw[Qs.mpr g,Bool.false_and]
  ·rw[UR];refine⟨f.map λq=>decide (q.1=h)&&decide (q.2∈b),by rw[Wa];rfl,?_⟩;rw[List.any_map];exact j
def IW(l:Def K mg "may_lie_first" Sj ["members","holder","wishes"])
  : Gi ζ:=by
 refine l.fz Za9 (λi n=>(b1<|sR<|xn<|xe (J2 (FP (K:=K) rfl) (by rfl) G.Zm boot_any<|az<|cz ["ahead","behind","holder","members"] [none,none,some 1,some 0] (X1 (K:=K)<|pv 2) ⟨(T6 (K:=K) (n:=2) rfl<|XC (gk 0)<|XC (gk 1) PN),X4,(N2 (Ku (Tu (K:=K)<|show _<cLine from(i ()).units0) (pv 1) (pv 2)<|UZ _)<|Bp<|Ku (PK (K:=K)<|show _<cLine from JH (i ())) (pv 0) (pv 3)<|by with_unfolding_all rfl)⟩)<|Ca<|sz<|UD (K4<|Ja 2) (Bh<|Pa (Jx 0)<|Pa (Jx 1) SA) Kj<|Sf (XI (Ja 1)<|Ja 2)<|Pw (Ja 0)<|Ja 3)) (.a ?_)
 ·rintro p R X ⟨b,h,f,rfl,o,j⟩;refine⟨rfl,?_⟩;rw[KP];refine J6 (xs:=f) (emb:=prD) (λq=>some (.bl (decide (q.2=h)&&decide (q.1∈b)))) (by lia) (λq hq=>?_) ?_
  ·refine⟨rfl,?_⟩;show if true=true then(if decide (q.2=h)=true then _ else _)else(some (D.bl (decide (q.2=h)&&decide (q.1∈b)))=none);refine Ky (Ji (λg=>⟨_,.ti _ _,?_⟩) (λg=>?_))
   ·refine⟨_,rfl,?_⟩;rw[g,Vc];rfl
   ·refine⟨_,rfl,?_⟩;rw[Qs.mpr g,Bool.false_and]
  ·rw[UR];refine⟨f.map λq=>decide (q.2=h)&&decide (q.1∈b),by rw[Wa];rfl,?_⟩;rw[List.any_map];exact j
def RU(i:Def K mg "_law_at" Nj ["_law_script","_law_k"])
  : Sz ζ:=by
 refine i.fz Zca (λj n=>(bc (sI (tc PX TX (xv 1)<|xl G.len<|xv 0) (b1<|sR<|xx (xv 0)<|xv 1) b0)<|b1<|sR xi)) (.a ?_)
 ·rintro o R X ⟨b,k,rfl,h,f⟩;refine⟨rfl,?_⟩;refine Ji (λg=>?_) (λ_=>f 0);have l:k<(b.length:Int):=YR g;exact⟨_,T8 h (Yx<|show k.toNat<b.length by omega),f _⟩
def MG(f:Def K mg "_law_whole" Nu ["_law_found"])
  : F1 ζ:=by
 refine f.fz MX (λg n=>(b1<|sR<|xe (N2 (J2 (K0 (K:=K)) (by rfl) G.Za Qp<|bz (pv 0)<|Kw (v:=.ty "int") rfl G.Zn boot_int rfl)<|Bp<|FT<|J2 (K0 (K:=K)) (by rfl) G.Za Qp<|bz (pv 0)<|Kw (v:=.ty "bool") rfl G.Zp boot_bool rfl)<|Sf (Kg<|tz (Ja 0) KA)<|Gd<|Kg<|tz (Ja 0) KA)) (.a ?_)
 ·rintro h R X ⟨i,rfl,b⟩;refine⟨rfl,?_⟩;exact⟨_,.same _,_,.ib,b⟩
def Zaa(f:Def K mg "_law_mix" Bm ["_law_cell","_law_place"])
  : Fl ζ:=by
 refine f.fz ID (λg n=>(bc (sS 2 n<|xo J8 JB (xo Xe Xs (xo JM JO (xo JM JO (xo J8 JB (xv 0) xi)<|xo Xe Xs xi<|xv 1) xi) xi) xi)<|b1<|sR<|xo J8 JB (xo Xe Xs (xo JM JO (xo JM JO (xv 2)<|xo Xe Xs xi<|xv 1) xi) xi) xi)) (.a ?_)
 ·rintro h R X ⟨c,p,rfl,b⟩;refine⟨rfl,?_⟩;exact⟨(by show(0:Int)<2147483647;decide),.inl ⟨by decide,by decide⟩,.inr ⟨by decide,by decide⟩,(by show(0:Int)<2147483647;decide),.inl ⟨by decide,by decide⟩,.inr ⟨by decide,by decide⟩,(by show(0:Int)<2147483647;decide),b _⟩
def HE(y:Def K mg "_law_menu" Sx ["_law_cell"])
  : DV ζ:=by
 refine y.fz Zbz (λz n=>(bc (sS 1 n<|xx (xL<|ac xi<|ac xi<|ac xi<|ac xi<|ac xi a0)<|xo J8 JB (xo U0 U7 (xv 0) xi) xi)<|bc (sS 2 n<|xx (xL<|ac xi<|ac xi<|ac xi<|ac xi<|ac xi a0)<|xo J8 JB (xo U0 U7 (xv 0) xi) xi)<|b1<|sF 2<|sF 1<|sR<|xL<|ac (xo JM JO xi<|xo J8 JB (xv 0) xi)<|ac (xx (xL<|ac xi<|ac xi<|ac xi<|ac xi a0)<|xo J8 JB (xo U0 U7 (xv 0) xi) xi)<|ac (xo J8 JB (xo U0 U7 (xv 0) xi) xi)<|ac (xv 1)<|ac (xv 2) a0)) (.a ?_)
 ·rintro A R X ⟨c,rfl,s⟩;refine⟨rfl,?_⟩;have o:0<=c / 10 % 4/\c / 10 % 4<4:=by lia
  have j:0<=c / 400 % 5/\c / 400 % 5<5:=by lia
  have r:∀v∈([1,3,7,9]:Zv),1<=v/\v<=9/\(v=1\/v=3\/v=7\/v=9):=by decide
  have g:∀i:Int,0<=i->i<5->∃d e:Int,atI [D.int 1000,.int 3,.int 1,.int 2,.int 3] i=some (.int d)/\atI [D.int 1,.int 1,.int 1,.int 1,.int 998] i=some (.int e)/\(1<=d/\d<=1000)/\1<=e/\e+d<=1001:=λi a b=>by
   have:i=0\/i=1\/i=2\/i=3\/i=4:=by lia
   rcases this with rfl|rfl|rfl|rfl|rfl
   ·exact⟨1000,1,rfl,rfl,by decide,by decide,by decide⟩
   ·exact⟨3,1,rfl,rfl,by decide,by decide,by decide⟩
   ·exact⟨1,1,rfl,rfl,by decide,by decide,by decide⟩
   ·exact⟨2,1,rfl,rfl,by decide,by decide,by decide⟩
   ·exact⟨3,998,rfl,rfl,by decide,by decide,by decide⟩
  obtain⟨d,e,x,u,q,p⟩:=g _ j.1 j.2;have h:=r _ (YD (l:=([1,3,7,9]:Zv)) (n:=(c / 10 % 4).toNat)<|by show(c / 10 % 4).toNat<4;lia);refine⟨by simp,⟨by decide,by decide⟩,(by show(0:Int)<5;decide),_,x,by simp,⟨by decide,by decide⟩,(by show(0:Int)<5;decide),_,u,(by show(0:Int)<10;decide),by simp,⟨by decide,by decide⟩,(by show(0:Int)<4;decide),_,UM (f:=D.int) (xs:=[1,3,7,9]) o.1 o.2,⟨by decide,by decide⟩,(by show(0:Int)<10;decide),by simp,?_⟩;exact s [_,_,_,_,_] ⟨_,_,_,_,_,rfl,by lia,h,by lia,q,p⟩
def IX(h:Def K mg "_law_holder" SW ["_law_menu_here","_law_k"])
  : Cg ζ:=by
 refine h.fz Zb8 (λi n=>(b1<|sR<|xo JM JO xi<|xo J8 JB (xo JM JO (xo Xe Xs (xv 1)<|xx (xv 0) xi)<|xx (xv 0) xi) xi)) (.a ?_)
 ·rintro r R X ⟨m,k,rfl,g,f⟩;refine⟨rfl,?_⟩;obtain⟨a,b,c,d,e,rfl,q,p,o,l,j⟩:=g;exact⟨_,rfl,.inr ⟨by lia,by lia⟩,_,rfl,(by show(0:Int)<10;decide),f _ (by lia) (by lia) rfl⟩
def Oo(j:Def K mg "_law_present" NN ["_law_strips_here"])
  : Al ζ:=by
 refine j.fz Zdh (λf n=>(bc (sS 1 n<|xC ["_law_strip"] [none] (jL<|xv 0) (gN 0) f0<|xx (xv 0) xi)<|b1<|sR<|xC ["_law_holder_here","_law_owners"] [none,some 1] (jI<|iR G.Zb<|a2 xi xi) (gN 0) (f1<|ti f (xv 0)<|xv 1)<|xv 0)) (.a ?_)
 ·rintro p R X ⟨b,rfl,l,h⟩;refine⟨rfl,?_⟩;refine J6 (xs:=b) (emb:=prD) (λq=>some (.int q.1)) (by lia) (λq hq=>⟨_,rfl,_,rfl,rfl⟩) ?_;rw[UR (λq:Int×Int=>D.int q.1),show b.map (λq:Int×Int=>D.int q.1)=(b.map (·.1)).map D.int by rw[Wa];rfl];refine⟨⟨by decide,by decide,by decide,by decide⟩,Sa (n:=10) (λi=>if decide ((1:Int)+(i:Int)∈b.map (·.1))=true then some (.int (1+(i:Int)))else none) (by decide) (λi o=>?_) ?_⟩
  ·exact⟨_,.li _ _,Ji (λg=>⟨_,rfl,Y5 g⟩) (λg=>Y4 g)⟩
  rw[Ul (λi:Nat=>decide ((1:Int)+(i:Int)∈b.map (·.1)))]
  have e:((List.range 10).filter λi:Nat=>decide ((1:Int)+(i:Int)∈b.map (·.1))).map (λi:Nat=>D.int (1+(i:Int)))=(Jc b).map D.int:=by
   unfold Jc;rw[Mt,List.filter_map,Wa];rfl
  rw[e];exact h
def RA(A:Def K mg "_law_no_ring" NA ["_law_holders","_law_wishes_here"])
  : Az ζ:=by
 refine A.fz Zb5 (λr n=>(bc (sS 2 n<|xe (UF (PH (K:=K)) (by rfl) G.Zd boot_list<|az<|pv 0)<|TZ<|sz<|Ja 0)<|bc (sF 0<|sO [3,4,5] YN (iL<|xv 0) (gN 3)<|bc (sC 4 ["_law_pair","_law_left"] [none,some 2] n (jL<|xv 1) (gN 0) (f1<|tp<|wa (ti r (xx (xv 0) xi)<|xv 1)<|wA<|ti r (xx (xv 0) xi)<|xv 1)<|xv 0)<|bc (sS 5 n<|xC ["_law_pair"] [none] (jL<|xv 4) (gN 0) f0<|xx (xv 0) xi)<|b1<|sS 2 n<|xC ["_law_holder_here","_law_behind"] [none,some 5] (jL<|xv 2) (gN 0) (f1<|ti r (xv 0)<|xv 1)<|xv 0)<|b1<|sR<|xe (Ku (Zba (K:=K)<|show _<cLine from(r ()).units0) (pv 2) (Xl J9)<|UZ _)<|Zap (Ja 2)<|Pf Xq)) (.a ?_)
 ·rintro H R X ⟨j,b,rfl,y,hw,z⟩;refine⟨rfl,UJ _,rfl,Uk (xs:=j) (emb:=D.int) (λi l=>l=[some (.bor<|.lst<|j.map D.int),some (.bor<|.lst<|b.map prD),some (.own ((Jr b j i).map D.int)),none,none,none]/\(Jr b j i).length<=50) ⟨rfl,y⟩ ?_ ?_⟩
  ·rintro i C l ⟨rfl,s⟩;generalize e:Jr b j i=f at s;have x:Jr b j (i+1)=Uo b f:=Wz (Uo b) e;have B:(UW b f).length<=50:=Y8 (YV _ _) hw;refine J6 (xs:=b) (emb:=prD) (λq=>if (decide (q.1∈f)&&decide (q.2∈f))=true then some (prD q)else none) (by lia) (λq hq=>?_) ?_
   ·refine⟨_,rfl,_,.li _ _,Ji (λv=>⟨_,rfl,_,.li _ _,Ji (λu=>⟨_,rfl,Y5 ?_⟩) (λu=>Y4 ?_)⟩) (λv=>JA (Y4 ?_))⟩
    ·have p:decide (q.1∈f)=true:=v;have o:decide (q.2∈f)=true:=u;rw[p,o];rfl
    ·have o:decide (q.2∈f)=false:=Qs.mpr u;rw[o,Bool.and_false];exact YH
    ·have p:decide (q.1∈f)=false:=Qs.mpr v;rw[p,Bool.false_and];exact YH
   rw[Ul (λq:Int×Int=>decide (q.1∈f)&&decide (q.2∈f))];show _;refine J6 (xs:=UW b f) (emb:=prD) (λq=>some (.int q.2)) (by lia) (λq hq=>⟨_,rfl,_,rfl,rfl⟩) ?_;rw[UR (λq:Int×Int=>D.int q.2),show(UW b f).map (λq:Int×Int=>D.int q.2)=((UW b f).map (·.2)).map D.int by rw[Wa];rfl];refine J6 (xs:=f) (emb:=D.int) (λh=>if decide (h∈(UW b f).map (·.2))=true then some (.int h)else none) (by lia) (λh E=>?_) ?_
   ·exact⟨_,.li _ _,Ji (λg=>⟨_,rfl,Y5 g⟩) (λg=>Y4 g)⟩
   rw[Ul (λh:Int=>decide (h∈(UW b f).map (·.2)))];exact⟨by rw[x];rfl,by rw[x];exact Y8 (YV _ _) s⟩
  ·rintro l ⟨rfl,s⟩;refine⟨Wp _,?_⟩;have e:((Jr b j j.length).map D.int).isEmpty=decide (Jr b j j.length=[]):=by cases Jr b j j.length<;>simp
   show R (.sh (.bl ((Jr b j j.length).map D.int).isEmpty));rw[e];exact z
def LG(s:Def K mg "check_order" NB ["strips","order"])
  : FR ζ:=by
 refine s.fy ON (λi n=>(b1<|sI (tn i (xe (J2 (Nd (K:=K) (w:=w) rfl) (by rfl) G.Zc Qq<|az<|pv 1)<|Tw<|sz<|Ja 1)<|xf ZC i<|a1<|xv 0) (b1<|sQ G.Zg G.Zf ExcR.FK<|a1 xs) b0)) (.a ?_)
 ·rintro u R X ⟨ps,os,rfl,o,j,l,b⟩;refine⟨rfl,os,rfl,l,λh r p=>⟨ps,rfl,o,j,_,_,rfl,rfl,?_⟩⟩;have q:=Mh (ps:=ps) r p;unfold Ka at b;refine Ji (λg=>?_) (λg=>?_)
  ·have f:¬h=Jc ps:=λz=>by rw[Y5 rfl,YG z]at g;cases g
   rw[Y4 (λz=>f (q.mpr z))]at b;exact⟨by simp,b⟩
  ·have f:h=Jc ps:=WH λz=>g (by rw[Y5 rfl,Wr z];rfl);rw[Y5 (q.mp f)]at b;exact b
def Zdg(l:Def K mg "walk_places" Sh ["strips","places"])
  : An ζ:=by
 refine l.fy OO (λf n=>(bc (sS 2 n<|xf ZE f<|a1<|xv 0)<|bc (sS 3 n xi)<|bc (sF 1<|sO [4] ExcR.Ft (iL<|xv 1) (gN 4)<|bc (sE<|xg ZV f ExcR.FU<|a2 (xv 0)<|xv 4)<|bc (sU 3 n Nn<|xf ZI f<|a3 (xv 0) (xv 2)<|xv 4)<|b1<|sS 2 n<|xf ZJ f<|a2 (xv 2)<|xv 4)<|b1<|se (Ur<|Xn<|bz (pv 2)<|pv 3)<|Zbx 2<|Ja 3)) (.a ?_)
 ·rintro q R X ⟨g,rfl,p,o,j⟩;refine⟨rfl,g,rfl,by lia,?_⟩;refine⟨rfl,Uk (xs:=([]:Zv)) (emb:=D.int) (λi b=>b=[some (.bor<|.lst<|g.map prD),some (.bor<|.lst []),some (.own ((Jk 1 g.length).map D.int)),some (.sh<|.int 0),none]) rfl ?_ ?_⟩
  ·rintro i h;cases h
  ·rintro b rfl;exact j
def RG(r:Def K mg "counted_wishes" NS ["strips","wishes"])
  : FD ζ:=by
 refine r.fz Zbg (λh n=>(bc (sS 2 n<|xf ZC h<|a1<|xv 0)<|b1<|sR<|xC ["ahead","behind","holders"] [none,none,some 2] (jL<|xv 1) (gT 2<|gc (gN 0)<|gc (gN 1) g0) (f1<|tp<|wa (ti h (xv 0)<|xv 2)<|wA<|ti h (xv 1)<|xv 2)<|xt<|a2 (xv 0)<|xv 1)) (.a ?_)
 ·rintro u R X ⟨b,s,rfl,i,o,hw,p⟩;refine⟨rfl,b,rfl,i,o,?_⟩;refine J6 (λq=>if Kd b q=true then some (prD q)else none) (by omega) (λq hq=>⟨rfl,⟨_,.li _ _,?_⟩⟩) ?_
  ·have g:decide (q.1∈Jc b)=decide (q.1∈b.map (·.1)):=by simp only[Pk i]
   have f:decide (q.2∈Jc b)=decide (q.2∈b.map (·.1)):=by simp only[Pk i]
   refine Ji (λl=>⟨_,.li _ _,Ji (λj=>?_) (λj=>?_)⟩) (λl=>JA ?_)
   ·refine⟨by simp,_,rfl,Y5 ?_⟩;unfold Kd;rw[←g,←f,YU];exact⟨l,j⟩
   ·refine Y4 λz=>j ?_;unfold Kd at z;rw[←g,←f,YU]at z;exact z.2
   ·refine Y4 λz=>l ?_;unfold Kd at z;rw[←g,←f,YU]at z;exact z.1
  ·rw[Ul];exact p
def Zc8(DD:Def K mg "ring_from" Nr ["least","holders","wishes"])
  : CC ζ:=by
 refine DD.fz MC (λC n=>(bc (sF 0<|sS 3 n<|xL<|a1<|xL<|a1<|xv 0)<|bc (sS 4 n<|xe (J2 (Nd (K:=K) (w:=w) rfl) (by rfl) G.Zc Qq<|az<|cz ["holder","least"] [none,some 0] (X1 (K:=K)<|pv 1) ⟨(gk 0),(Nb<|Xf Kk (pv 0) (pv 1)<|UZ _),(pv 0)⟩)<|Tw<|sz<|UD (K4<|Ja 1) (Jx 0) (Up<|Kp (Ja 0)<|Ja 1)<|Ja 0)<|bc (sW [5,6] YN (tt<|xv 3)<|bc (sF 0<|sC 5 ["path","wishes","least"] [none,some 2,some 0] n (jL<|xv 3) (gN 0) (f1<|ti C (xt<|a2 (xx (xv 0)<|xe (PZ To Jp)<|Sk Jq)<|xv 2)<|xv 1)<|xv 0)<|bc (sI (tt<|xv 5) (b1<|sr<|xx (xv 5) xi) b0)<|bc (sS 3 n<|xf ZX C<|a3 (xv 3) (xv 4)<|xv 2)<|bc (sS 6 n<|xC ["path"] [none] (jL<|xv 3) (gN 0) f0<|xx (xv 0)<|xe (PZ To Jp)<|Sk Jq)<|b1<|sC 4 ["holder","reached"] [none,some 6] n (jL<|xv 4) (gN 0) (f1<|tI C (xv 0)<|xv 1)<|xv 0)<|b1<|sr<|xL a0)) (.a ?_)
 ·rintro ds R X ⟨l,o,y,rfl,hz,hN,hR⟩;refine⟨rfl,by simp,by simp,J6 (xs:=o) (emb:=D.int) (λh=>if decide (l<h)=true then some (.int h)else none) (by lia) (λh _=>Ji (λg=>⟨_,rfl,Y5 g⟩) (λg=>Y4 g)) ?_⟩;rw[FN λh=>decide (l<h)];refine⟨o.filter λh=>decide (l<h),rfl,V0 (YV _ _) (by lia),λb j N=>?_⟩
  have u:∀h∈b,Gr o l h:=λh z=>by
   rw[j.mem_iff,YS,WL]at z;exact z
  have A:b.length<=o.length:=by
   rw[j.length_eq];exact YV _ _
  refine B8 (λv=>∃k f b,v=[some (.sh<|.int l),some (.bor<|.lst<|o.map D.int),some (.bor<|.lst<|y.map prD),some (.own<|f.map<|em l),some (.own<|b.map D.int),none,none]/\(∀p∈f,p.length=k/\Path (Gr o l) y l p)/\(∀h∈b,Gr o l h)/\f.length<=60/\b.length<=o.length/\(k+b.length<=o.length\/(f=[]/\k<=o.length+1)))
   (λM=>2*AQ 4 M+min 1 (AQ 3 M)) ⟨0,[[]],b,rfl,(λp z=>by rw[Y3.mp z];exact⟨rfl,trivial⟩),u,by simp,A,.inl (by lia)⟩ ?_
  rintro v ⟨k,f,b,rfl,L,u,Q,U,hk⟩;have J:(!(f.map<|em l).isEmpty)=decide (f≠[]):=by cases f<;>simp
  show if (!(f.map<|em l).isEmpty)=true then _ else _;rw[J];refine Ji (λg=>?_) (λg=>?_)
  ·have s:f≠[]:=YR g;have hk':k+b.length<=o.length:=hk.elim id λz=>absurd z.1 s;have E:∀p∈f,p.length<=60:=λp j=>by rw[(L p j).1];lia
   have T:∀p∈f,(Ju l p,l)∉y:=λp j z=>hN p ⟨(L p j).2,z⟩;refine J6 (xs:=f) (emb:=em l) (λ_=>none) (by lia) (λp j=>⟨_,Se l p,by simp,_,.lp (Ju l p,l) y,Ji (λg=>absurd (YR g) (T p j)) (λg=>rfl)⟩) ?_;have e0:f.filterMap (λ_=>(none:Option D))=[]:=by simp
   rw[e0];refine⟨l,f,b,y,rfl,λp j=>Y8 (E p j) (by decide),by lia,λi G Y=>?_⟩;refine J6 (xs:=i) (emb:=em l) (λp=>some (.int<|Ju l p)) (by lia) (λp _=>⟨_,Se l p,_,rfl,rfl⟩) ?_;have e1:i.filterMap (λp=>some (D.int<|Ju l p))=(i.map<|Ju l).map D.int:=by rw[QZ,Wa];rfl
   rw[e1];refine J6 (xs:=b) (emb:=D.int) (λh=>if decide (¬h∈i.map (Ju l))=true then some (.int h)else none) (by lia) (λh _=>⟨_,.li h _,?_⟩) ?_
   ·by_cases c:h∈i.map (Ju l)
    ·simp only[YG c];exact JA (Y4<|by simp[c])
    ·simp only[Wr c];exact Ky ⟨_,rfl,Y5 (by simp[c])⟩
   rw[FN λh=>decide (¬h∈i.map (Ju l))];have B:=YV (λh=>decide (¬h∈i.map (Ju l))) b
   have r:i≠[]->(b.filter λh=>decide (¬h∈i.map (Ju l))).length<b.length:=λs=>by
    obtain⟨q,hq⟩:=List.exists_mem_of_ne_nil i s
    have u:Ju l q∈b:=by
     obtain⟨p,_,x,hx,rfl,_⟩:=G q hq;rw[XJ];exact hx
    refine Nat.lt_of_le_of_ne B λz=>?_
    have:=Vv.mp (List.Sublist.eq_of_length (Vt (l:=b)) z) (Ju l q) u
    rw[WL]at this;exact this (List.mem_map_of_mem hq)
   refine⟨⟨k+1,i,_,rfl,λq hq=>?_,λh hh=>u h (YS.mp hh).1,by lia,by lia,?_⟩,?_⟩
   ·obtain⟨p,j,x,hx,rfl,hw⟩:=G q hq;exact⟨by rw[YK,(L p j).1];rfl,path_app.mpr ⟨(L p j).2,u x hx,hw,trivial⟩⟩
   ·by_cases c:i=[]
    ·exact .inr ⟨c,by lia⟩
    ·have:=r c
     exact .inl (by lia)
   ·show 2*((b.filter λh=>decide (¬h∈i.map (Ju l))).map D.int).length+min 1 (i.map<|em l).length<2*(b.map D.int).length+min 1 (f.map<|em l).length;rw[Yy,Yy,Yy,Yy]
    have:0<f.length:=Vu.mpr s
    by_cases c:i=[]
    ·rw[c];rw[c]at B;simp only[List.length_nil];lia
    ·have:=r c
     lia
  ·have H:f=[]:=WH λz=>g (YG z);subst H;exact⟨by simp,hR⟩
def Oz(L:Def K mg "longer_stands" B9 ["strips","stands"])
  : Cy ζ:=by
 refine L.fz Za0 (λo n=>(bc (sS 2 n<|xL a0)<|bc (sF 1<|sO [3,4,5] YN (iL<|xv 1) (gT 2<|gc (gN 3)<|gc (gN 4) g0)<|b1<|sO [5] YN (iL<|xf ZE o<|a1<|xv 0) (gN 5)<|b1<|sI (tI o (xv 5)<|xv 3) (b1<|sF 5<|sA 2<|xt<|a2 (xe (UK (A8 (K:=K)) (pv 3)<|Xn<|az<|pv 5)<|FB (Ja 3)<|XG<|sz<|Ja 5)<|xo JM JO (xv 4)<|xf ZZ o<|a3 (xv 0) (xv 3)<|xv 5) b0)<|b1<|sV 2)) (.a ?_)
 ·rintro Q R X ⟨b,h,rfl,E,y,M,hq,C⟩;refine⟨rfl,by simp,rfl,Uk (xs:=h) (emb:=stD) (λi f=>f=[some (.bor<|plD b),some (.bor<|.lst<|h.map stD),some (.own (((h.take i).flatMap (U6 b)).map stD)),none,none,none]) rfl ?_ ?_⟩
  ·rintro i v f rfl
   have H:(h.take (i+1)).flatMap (U6 b)=(h.take i).flatMap (U6 b)++U6 b h[i]:=by
    rw[YY v,List.flatMap_append];simp
   have s:=SJ y (h.take i);have z:(h.take i).length<=1000000:=by rw[Wg];lia
   have p:=hq _ (YD v);rw[H];generalize h[i]=q at p ⊢;generalize (h.take i).flatMap (U6 b)=A at s ⊢;rw[show(arg<|D.lst<|h.map stD).sub (stD q)=Pu.S.sh (stD q)from IH q]
   refine⟨rfl,b,rfl,by lia,?_⟩;refine⟨rfl,Uk (xs:=Jk 1 b.length) (emb:=D.int) (λj f=>f=[some (.bor<|plD b),some (.bor<|.lst<|h.map stD),some (.own ((A++((((Jk 1 b.length).take j).filter λx=>!decide (x∈q.1)).map λx=>(q.1++[x],q.2+JT b q.1 x))).map stD)),some (.sh<|tD q.1),some (.sh<|.int q.2),none]) (by simp;rfl) ?_ ?_⟩
   ·rintro j u f rfl;have r:=run_mem.mp (YD u);have J:(Jk 1 b.length).take (j+1)=(Jk 1 b.length).take j++[(Jk 1 b.length)[j]]:=YY u;have l:=YV (λx=>!decide (x∈q.1)) ((Jk 1 b.length).take j);rw[Wg]at l;have B:(Jk 1 b.length).length=b.length:=U8 _;rw[J,List.filter_append,YQ];generalize (Jk 1 b.length)[j]=x at r ⊢;generalize N:(((Jk 1 b.length).take j).filter λx=>!decide (x∈q.1))=P at l ⊢;refine⟨_,.ti _ _,Ji (λg=>?_) (λg=>?_)⟩
    ·refine⟨by simp,_,_,rfl,rfl,?_,b,q.1,x,rfl,E,by lia,r.1,r.2,by simp,?_,?_⟩
     ·show(q.1.map D.int).length+1<=100000;rw[Yy];lia
     ·rw[YK,Yy,Yy,Yy];lia
     ·rw[show([x].filter λx=>!decide (x∈q.1))=[x]from List.filter_cons_of_pos g]
      show[_,_,some (Pu.S.own<|O.lst ((A.map stD++(P.map λx=>(q.1++[x],q.2+JT b q.1 x)).map stD)++[.tup [.tup (q.1.map D.int++[D.int x]),.int (q.2+JT b q.1 x)]])),_,_,_]=_
      have e:D.tup [.tup (q.1.map D.int++[D.int x]),.int (q.2+JT b q.1 x)]=stD (q.1++[x],q.2+JT b q.1 x):=by
       unfold stD tD;rw[YQ];rfl
      rw[e];simp[YQ]
    ·rw[show([x].filter λx=>!decide (x∈q.1))=[]from List.filter_cons_of_neg g]
     simp;rfl
   ·rintro f rfl;rw[W2];rfl
  ·rintro f rfl;rw[W2];exact C
def Zam(B:Def K mg "pair_costs" Ny ["strips"])
  : Cf ζ:=by
 refine B.fz Dg (λp n=>(bc (sS 1 n<|xf ZC p<|a1<|xv 0)<|bc (se (Pu.pz 2 Dg.nd Lk)<|JV LO<|Jx 2)<|bc (sF 1<|sO [3,4] YN (iL<|xv 1) (gN 3)<|b1<|sF 1<|sO [4] YN (iL<|xv 1) (gN 4)<|b1<|sF 4<|sF 3<|se (Tt (JH<|p ()) (pv 2) (Xn<|bz (pv 3)<|pv 4) (fz Ya (p ())<|dz (pv 0) (pv 3)<|pv 4) rfl)<|TN 2 (XG<|tz (Ja 3)<|Ja 4)<|J0<|uz (Ja 0) (Ja 3)<|Ja 4)<|b1<|sV 2)) (.a ?_)
 ·rintro C R X ⟨h,rfl,s,u,r⟩;refine⟨rfl,h,rfl,s,u,?_⟩;have A:=UT h;generalize Jc h=f at A r ⊢
  refine⟨rfl,Uk (xs:=f) (emb:=D.int) (λi g=>∃b:List (List Key×V),g=[some (.bor<|.lst<|h.map prD),some (.sh<|.lst<|f.map D.int),some (.own<|.dT b),none,none]/\b.length<=i*10/\
   ∀x∈f.take i,∀y∈f,Jh b [.inl x,.inl y]=some (.int<|pcM h x y h.length)) ⟨[],rfl,by simp,by simp⟩ ?_ ?_⟩
  ·rintro i z g ⟨b,rfl,q,o⟩
   refine⟨rfl,Uk (xs:=f) (emb:=D.int) (λj g=>∃b:List (List Key×V),g=[some (.bor<|.lst<|h.map prD),some (.sh<|.lst<|f.map D.int),some (.own<|.dT b),some (.sh (.int f[i])),none]/\b.length<=i*10+j/\
    (∀x∈f.take i,∀y∈f,Jh b [.inl x,.inl y]=some (.int<|pcM h x y h.length))/\∀y∈f.take j,Jh b [.inl f[i],.inl y]=some (.int (pcM h f[i] y h.length))) ⟨b,rfl,by lia,o,by simp⟩ ?_ ?_⟩
   ·rintro j v g ⟨b,rfl,q,o,hw⟩;refine⟨h,_,_,rfl,s,by simp,_,_,rfl,rfl,by lia,_,rfl,Y8 (KO _ _ _) (by lia),λx hx y l=>?_,λy l=>?_⟩
    ·rw[P6];by_cases e:([.inl x,.inl y]:List Key)=[.inl f[i],.inl f[j]]
     ·rw[Y5 e];simp only[Q4,Sum.inl.injEq,and_true]at e;rw[e.1,e.2]
     ·rw[Y4 e];exact o x hx y l
    ·rw[P6];by_cases e:([.inl f[i],.inl y]:List Key)=[.inl f[i],.inl f[j]]
     ·rw[Y5 e];simp only[Q4,Sum.inl.injEq,and_true]at e;rw[e.2]
     ·rw[Y4 e];rw[YY v,Wc,Y3]at l;rcases l with l|l
      ·exact hw y l
      ·subst l;exact absurd rfl e
   ·rintro g ⟨b,rfl,q,o,hw⟩;rw[W2]at hw;refine⟨b,rfl,by lia,λx hx y l=>?_⟩;rw[YY z,Wc,Y3]at hx;rcases hx with hx|hx
    ·exact o x hx y l
    ·subst hx;exact hw y l
  ·rintro g ⟨b,rfl,q,o⟩;rw[W2]at o;exact r b o
def Zay(q:Def K mg "cost_with_last" Bt ["members","last","least","pairs"])
  : Eu ζ:=by
 refine q.fz Zcr (λf n=>(bc (sS 4 n<|xf ZF f<|a2 (xv 0)<|xv 1)<|b1<|sF 1<|sR<|xo JM JO (xe (XO (JH<|f ()) (pv 2) (pv 4) (λ_ _=>rfl))<|XY (Ja 2)<|Ja 4)<|xe (J2 (Bv (K:=K) rfl) (by rfl) G.Zi boot_sum<|az<|cz ["other","pairs","last"] [none,some 3,some 1] (Po (K:=K)<|pv 4) ⟨(gk 0),X4,(XO (JH<|f ()) (pv 1) (Xn<|bz (pv 0)<|pv 2) (λ_ _=>rfl))⟩)<|SG<|sz<|UD (SndI.c<|Pb<|Ja 4) (Jx 0) Kj<|XY (Ja 1)<|XG<|tz (Ja 0)<|Ja 2)) (.a ?_)
 ·rintro u R X ⟨b,l,le,r,c,v,rfl,g,i,o,p⟩;refine⟨rfl,?_⟩;rw[KP];have h:(Jj b l).length<=1000:=Y8 less_sub.length_le g;refine⟨b,l,rfl,g,_,_,Ts _,i,rfl,_,rfl,J6 (s:=.sh .non) (xs:=Jj b l) (emb:=D.int) (λm=>some (.int<|c m)) (by lia) (λm j=>?_) ?_⟩
  ·exact⟨by simp,_,_,rfl,o m j,rfl,_,rfl,rfl⟩
  ·rw[UR];exact⟨(Jj b l).map c,by rw[Wa];rfl,p⟩
def RY(q:Def K mg "cost_with_first" NT ["members","first","least","pairs"])
  : Ax ζ:=by
 refine q.fz Ly (λf n=>(bc (sS 4 n<|xf ZF f<|a2 (xv 0)<|xv 1)<|b1<|sF 1<|sR<|xo JM JO (xe (XO (JH<|f ()) (pv 2) (pv 4) (λ_ _=>rfl))<|XY (Ja 2)<|Ja 4)<|xe (J2 (Bv (K:=K) rfl) (by rfl) G.Zi boot_sum<|az<|cz ["other","pairs","first"] [none,some 3,some 1] (Po (K:=K)<|pv 4) ⟨(gk 0),X4,(XO (JH<|f ()) (pv 1) (Xn<|bz (pv 2)<|pv 0) (λ_ _=>rfl))⟩)<|SG<|sz<|UD (SndI.c<|Pb<|Ja 4) (Jx 0) Kj<|XY (Ja 1)<|XG<|tz (Ja 2)<|Ja 0)) (.a ?_)
 ·rintro u R X ⟨b,l,le,r,c,v,rfl,g,i,o,p⟩;refine⟨rfl,?_⟩;rw[KP];have h:(Jj b l).length<=1000:=Y8 less_sub.length_le g;refine⟨b,l,rfl,g,_,_,Ts _,i,rfl,_,rfl,J6 (s:=.sh .non) (xs:=Jj b l) (emb:=D.int) (λm=>some (.int<|c m)) (by lia) (λm j=>?_) ?_⟩
  ·exact⟨by simp,_,_,rfl,o m j,rfl,_,rfl,rfl⟩
  ·rw[UR];exact⟨(Jj b l).map c,by rw[Wa];rfl,p⟩
def MQ(h:Def K mg "_law_draw" Bu ["_law_script","_law_k"])
  : S9 ζ:=by
 refine h.fz Ol (λb n=>(bc (sI (tq b (xo J8 JB (xf ZA b<|a2 (xv 0) xi) xi) xi) (b1<|sR<|xf ZA b<|a2 (xv 0)<|xo JM JO xi<|xv 1) b0)<|b1<|sR<|xf ZM b<|a2 (xf ZA b<|a2 (xv 0) xi)<|xv 1)) (.a ?_)
 ·rintro j R X ⟨f,k,rfl,i,g⟩;refine⟨rfl,f,0,rfl,by decide,λv=>⟨(by show(0:Int)<2;decide),Ji (λ_=>?_) (λ_=>?_)⟩⟩
  ·exact⟨f,_,rfl,by omega,λv=>g v⟩
  ·exact⟨f,1,rfl,by decide,λu=>⟨_,_,rfl,λv=>g v⟩⟩
def Hf(h:Def K mg "_law_spare" N4 ["_law_script"])
  : AW ζ:=by
 refine h.fz Ip (λb n=>(bc (sI (tq b (xo J8 JB (xf ZA b<|a2 (xv 0) xi) xi) xi) (b1<|sR<|xo U0 U7 (xf ZA b<|a2 (xv 0) xi) xi) b0)<|b1<|sR<|xf ZM b<|a2 (xf ZA b<|a2 (xv 0) xi) xi)) (.a ?_)
 ·rintro i R X ⟨f,rfl,g⟩;refine⟨rfl,?_⟩;exact⟨f,0,rfl,by decide,λv=>⟨(by show(0:Int)<2;decide),Ji (λ_=>⟨f,0,rfl,by decide,λu=>⟨⟨by decide,by decide⟩,g _⟩⟩) (λ_=>⟨f,1,rfl,by decide,λu=>⟨_,_,rfl,λz=>g _⟩⟩)⟩⟩
def II(p:Def K mg "_law_row" NY ["_law_found","_law_due"])
  : GB ζ:=by
 refine p.fz O5 (λf n=>(bc (sI (tp<|wo (tN<|tt<|xe (J2 (K0 (K:=K)) (by rfl) G.Za Qp<|bz (pv 0)<|Kw (v:=.ty "list") rfl G.Zd boot_list rfl)<|Kg<|tz (Ja 0) KA)<|wO<|tn f (xl G.len<|xv 0)<|xl G.len<|xv 1) (b1<|sR xb) b0)<|bc (sO [2] YN (ir G.Zb<|a1<|xl G.len<|xv 1) (gN 2)<|b1<|sI (tp<|wo (tN<|tt<|xf ZL f<|a1<|xx (xv 0)<|xv 2)<|wO<|tn f (xx (xv 0)<|xv 2)<|xx (xv 1)<|xv 2) (b1<|sR xb) b0)<|b1<|sR xb)) (.a ?_)
 ·rintro s R X ⟨xs,rfl,q,o⟩;refine⟨rfl,?_⟩;have r:(xs.map D.int).length=xs.length:=Yy ..;refine⟨_,.same _,JA (PL rfl ?_)⟩;refine⟨⟨by lia,by lia⟩,Xt (λi b=>b=[some (.bor<|.lst<|xs.map D.int),some (.bor<|.lst<|xs.map D.int),none]) rfl ?_ ?_⟩
  ·rintro i b j rfl;have h:i<(((xs.map D.int).length:Nat):Int).toNat:=j;have ez:(0:Int)+(i:Int)=(i:Int):=by lia
   have l:i<xs.length:=by lia
   have g:atI (xs.map D.int) (0+(i:Int))=some (.int xs[i]):=by rw[ez];exact Ge l
   exact⟨_,g,_,rfl,JA ⟨_,g,_,g,PL rfl rfl⟩⟩
  ·rintro b rfl;exact o
def Lr(y:Def K mg "_law_tuples" Bx ["_law_found","_law_due"])
  : Ae ζ:=by
 refine y.fz Zaj (λh n=>(bc (sI (tp<|wo (tN<|tt<|xe (J2 (K0 (K:=K)) (by rfl) G.Za Qp<|bz (pv 0)<|Kw (v:=.ty "list") rfl G.Zd boot_list rfl)<|Kg<|tz (Ja 0) KA)<|wO<|tn h (xl G.len<|xv 0)<|xl G.len<|xv 1) (b1<|sR xb) b0)<|bc (sO [2,3] YN (ir G.Zb<|a1<|xl G.len<|xv 1) (gN 2)<|bc (sI (tp<|wo (tN<|tt<|xe (J2 (K0 (K:=K)) (by rfl) G.Za Qp<|bz (jx K (pv 0)<|pv 2)<|Kw (v:=.ty "tuple") rfl G.Ze boot_tuple rfl)<|Kg<|tz (Ug (Ja 0)<|Ja 2) KA)<|wO<|tn h (xl G.len<|xx (xv 0)<|xv 2)<|xl G.len<|xx (xv 1)<|xv 2) (b1<|sR xb) b0)<|b1<|sO [3] YN (ir G.Zb<|a1<|xl G.len<|xx (xv 1)<|xv 2) (gN 3)<|b1<|sI (tp<|wo (tN<|tt<|xf ZL h<|a1<|xx (xx (xv 0)<|xv 2)<|xv 3)<|wO<|tn h (xx (xx (xv 0)<|xv 2)<|xv 3)<|xx (xx (xv 1)<|xv 2)<|xv 3) (b1<|sR xb) b0)<|b1<|sR xb)) (.a ?_)
 ·rintro C R X ⟨f,rfl,A,x⟩;refine⟨rfl,?_⟩;have B:(f.map prD).length=f.length:=Yy ..;refine⟨_,.same _,JA (PL rfl ?_)⟩;refine⟨⟨by lia,by lia⟩,Xt (λi b=>∃t,b=[some (.bor<|.lst<|f.map prD),some (.bor<|.lst<|f.map prD),none,t]) ⟨_,rfl⟩ ?_ ?_⟩
  ·rintro i b s ⟨t,rfl⟩;have r:i<(((f.map prD).length:Nat):Int).toNat:=s;have ez:(0:Int)+(i:Int)=(i:Int):=by lia
   have u:i<f.length:=by lia
   have g:atI (f.map prD) (0+(i:Int))=some (prD f[i]):=by rw[ez];exact Ge u
   generalize f[i]=q at g;refine⟨_,g,_,.same _,JA ⟨_,g,_,g,?_⟩⟩;refine⟨_,g,⟨(by show -(2 ^ 62)<=(2:Int);decide),(by show(2:Int)<2 ^ 62;decide)⟩,Xt (λj b=>∃t,b=[some (.bor<|.lst<|f.map prD),some (.bor<|.lst<|f.map prD),some (.sh<|.int (0+(i:Int))),t]) ⟨_,rfl⟩ ?_ ?_⟩
   ·rintro j b p ⟨t,rfl⟩;have o:j<2:=p
    obtain⟨z,l⟩:∃z:Int,atI [D.int q.1,D.int q.2] (0+(j:Int))=some (.int z):=by
     have:j=0\/j=1:=by lia
     rcases this with rfl|rfl
     ·exact⟨_,rfl⟩
     ·exact⟨_,rfl⟩
    exact⟨_,g,_,l,z,rfl,JA ⟨_,g,_,l,_,g,_,l,PL rfl ⟨_,rfl⟩⟩⟩
   ·rintro b ⟨t,rfl⟩;exact⟨_,rfl⟩
  ·rintro b ⟨t,rfl⟩;exact x
def Hx(C:Def K mg "_law_keepable" Nl ["_law_wishes_here","_law_holders"])
  : GR ζ:=by
 refine C.fz Zbe (λv n=>(bc (sS 2 n<|xL a0)<|bc (sF 0<|sO [3] YN (iL<|xv 0) (gN 3)<|b1<|sI (tt<|xf Ye v<|a2 (xv 1)<|xo Px Pq (xv 2)<|xL<|a1<|xv 3) (b1<|sF 3<|sA 2<|xv 3) b0)<|b1<|sV 2)) (.a ?_)
 ·rintro E R X ⟨j,l,rfl,hw,u,B⟩;refine⟨rfl,by simp,rfl,Uk (xs:=j) (emb:=prD) (λi h=>∃b:Zu,h=[some (.bor<|.lst<|j.map prD),some (.bor<|.lst<|l.map D.int),some (.own<|b.map prD),none]/\b.Sublist (j.take i)/\Jr b l l.length=[]) ⟨[],rfl,List.nil_sublist _,?_⟩ ?_ ?_⟩
  ·cases l with
   |nil=>rfl
   |cons a r=>
    show Uo [] _=[];exact List.filter_eq_nil_iff.mpr λx _=>by simp[UW]
  ·rintro i A h ⟨b,rfl,f,o⟩;have y:=f.length_le;rw[Wg]at y;have s:b.Sublist (j.take (i+1)):=f.trans (List.take_sublist_take_left<|by omega)
   have p:(b++[j[i]]).Sublist (j.take (i+1)):=by
    rw[YY A];exact f.append (List.Sublist.refl _)
   generalize j[i]=q at p ⊢;have em:b.map prD++[prD q]=(b++[q]).map prD:=by rw[YQ];rfl
   refine⟨by simp,rfl,rfl,?_,l,b++[q],?_,u,?_,Ji (λg=>⟨?_,b++[q],?_,p,YR g⟩) (λg=>⟨b,rfl,s,o⟩)⟩
   ·rw[Yy];show b.length+1<=100000;omega
   ·exact Wz (λz=>[D.lst (l.map D.int),D.lst z]) em
   ·rw[YK];show b.length+1<=50;omega
   ·rw[Yy];omega
   ·rw[←em];rfl
  ·rintro h ⟨b,rfl,f,o⟩;rw[W2]at f;exact B b f o
def Zbp(x:Def K mg "gathered" BA ["strips","order"])
  : AH ζ:=by
 refine x.fy R8 (λo n=>(bc (sE<|xg ZN o ExcR.FU<|a2 (xv 0)<|xv 1)<|bc (sS 2 n<|xL a0)<|bc (sF 1<|sO [3] ExcR.Ft (iL<|xv 1) (gN 3)<|b1<|se (XH<|KW Wv PySem.F.slot_list_extend PySem.F.type_list_extend R5 (pv 2)<|az<|cz ["strip","holder"] [none,some 3] (X1 (K:=K)<|pv 0) ⟨(gk 0),(Nb<|cq K (o ()) (jx K (pv 0) Jp)<|pv 1),(pv 0)⟩)<|Zdf 2<|UD (K4<|Ja 0) (Jx 0) (Up<|XI (Ug (Ja 0) Jq)<|Ja 1)<|Ja 0)<|b1<|sV 2)) (.a ?_)
 ·rintro B R X ⟨b,os,rfl,u,l,r,h⟩;refine⟨rfl,b,os,rfl,u,l,r,?_⟩;cases e:Ka b os with
  |some c=>rw[e]at h;exact h
  |none=>
   rw[e]at h;have j:R (.own ((JY b os).map prD)):=h;refine⟨by simp,rfl,Uk (xs:=os) (emb:=D.int) (λi f=>f=[some (.bor<|plD b),some (.bor<|.lst<|os.map D.int),some (.own ((JY b<|os.take i).map prD)),none]) rfl ?_ ?_⟩
   ·rintro i s f rfl;have z:=Rl b (os.take i);have p:(os.take i).length<=64:=by rw[Wg];lia
    have y:=Nat.mul_le_mul p l;have A:=YV (λq:Int×Int=>decide (q.1=os[i])) b;refine J6 (xs:=b) (emb:=prD) (λq=>if decide (q.1=os[i])=true then some (prD q)else none) (by lia) (λq hq=>⟨_,rfl,Ji (λg=>⟨_,rfl,Y5 g⟩) (λg=>Y4 g)⟩) ?_;rw[Ul (λq:Int×Int=>decide (q.1=os[i]))];refine⟨by rw[Yy,Yy];lia,?_⟩
    have v:JY b (os.take (i+1))=JY b (os.take i)++b.filter λq=>decide (q.1=os[i]):=by
     unfold JY;rw[YY s,List.flatMap_append];simp
    rw[v,YQ];rfl
   ·rintro f rfl;rw[W2];exact j
def Zb7(DD:Def K mg "told_moves" Nk ["strips","order"])
  : EZ ζ:=by
 refine DD.fz MP (λy n=>(bc (sE<|xe (Pn ZN (hq<|y ()) SO<|bz (pv 0)<|pv 1)<|J0<|tz (Ja 0)<|Ja 1)<|bc (sC 2 ["holder","width","order"] [none,none,some 1] n (jL<|xv 0) (gT 2<|gc (gN 0)<|gc (gN 1) g0) f0<|xe (SZ (K:=K) Wv QL PySem.F.type_list_index (Df (K:=K)) (pv 2)<|az<|pv 0)<|Gp (Ja 2)<|sz<|Ja 0)<|bc (sS 3 n<|xf ZE y<|a1<|xv 0)<|bc (sS 4 n<|xL a0)<|bc (sS 5 n<|xf ZK y<|a2 (xv 3)<|xv 2)<|bc (sW [] YN (tc Kk Kp (xv 5) xi)<|bc (sF 5<|sA 4<|xt<|ac (xv 5)<|ac (xx (xv 3)<|xo U3 Ux (xv 5) xi)<|ac (xx (xv 3)<|xv 5)<|ac (xf ZI y<|a3 (xv 0) (xv 3)<|xv 5) a0)<|bc (sS 3 n<|xf ZJ y<|a2 (xv 3)<|xv 5)<|b1<|sS 5 n<|xf ZK y<|a2 (xv 3)<|xv 2)<|b1<|sV 4)) (.a ?_)
 ·rintro ds R X ⟨j,o,rfl,Y,hz,N,hR⟩;refine⟨rfl,?_⟩;have hh:=UT j;have hol:=N.length_eq;have T:=PR Y N;refine⟨j,o,rfl,Y,by lia,by lia,?_⟩;rw[DE N];refine J6 (xs:=j) (emb:=prD) (λq=>some (.int (o.idxOf q.1:Nat))) (by lia) (λq hq=>?_) ?_
  ·exact⟨rfl,⟨_,rfl⟩,o,rfl,T q hq,_,rfl,rfl⟩
  rw[UR (λq:Int×Int=>D.int (o.idxOf q.1:Nat))];have er:j.map (λq:Int×Int=>D.int (o.idxOf q.1:Nat))=(j.map λq:Int×Int=>((o.idxOf q.1:Nat):Int)).map D.int:=by rw[Wa];rfl
  rw[er];generalize J:(j.map λq:Int×Int=>((o.idxOf q.1:Nat):Int))=u;have lrs:u.length=j.length:=by rw[←J,Yy]
  have rk:∀m:Int,1<=m/\m<=j.length->u.getD (m-1).toNat 0=rkN j o m:=λm x=>by
   have U:(m-1).toNat<j.length:=by lia
   rw[←J];unfold rkN hdN;rw[Y2,Y2,YB,Yx U];rfl
  have keys:∀l:Zv,l.Perm (Jk 1 j.length)->l.map (λm=>u.getD (m-1).toNat 0)=l.map (rkN j o):=λl s=>W4 λm x=>rk m (runI_mem.mp<|s.mem_iff.mp x)
  have inr:∀l:Zv,l.Perm (Jk 1 j.length)->∀m∈l,1<=m/\m<=u.length:=λl s m x=>by
   have:=runI_mem.mp (s.mem_iff.mp x)
   lia
  refine⟨j,rfl,by lia,by simp,?_⟩;refine⟨_,u,rfl,inr _ (.refl _),by rw[U8];lia,λp0 E=>?_⟩;rw[keys _ (.refl _)]at E
  have e0:∀l:Zv,l.Perm (Jk 1 j.length)->Uh (λm=>u.getD (m-1).toNat 0) l=Uh (rkN j o) l:=λl s=>by
   unfold Uh;congr 1;exact W4 λm x=>by show(u.getD (m-1).toNat 0,(1:Int))=_;rw[rk m (runI_mem.mp<|s.mem_iff.mp x)]
  have b0:=Kb (rkN j o) (Jk 1 j.length)
  have nn:((j.length:Int))*j.length<=1600:=by
   have:=QI (a:=(j.length:Int)) (b:=j.length) (c:=40) (d:=40) (by lia) (by lia) (by lia) (by lia)
   lia
  rw[U8]at b0;refine B8 (λB=>∃(l:Zv) (r:List Mo) (p:Nat),FW (l.map<|rkN j o) p/\l.Perm (Jk 1 j.length)/\(∀C,Mv j (rkN j o) l C->Mv j (rkN j o) (Jk 1 j.length) (r++C))/\(r.length:Int)+Uh (rkN j o) l=Uh (rkN j o) (Jk 1 j.length)/\B=[some (.bor<|plD j),some (.bor<|.lst<|o.map D.int),some (.own<|u.map D.int),some (.own<|l.map D.int),some (.own<|r.map mvD),some (.sh<|.int p)]) mvN ⟨Jk 1 j.length,[],p0,E,.refl _,λC h=>h,by simp,rfl⟩ ?_;rintro B ⟨l,r,p,hw,s,hM,hc,rfl⟩;have hl:l.length=j.length:=by rw[s.length_eq,U8]
  have b1:=Kb (rkN j o) l;refine Ji (λg=>?_) (λg=>?_)
  ·have g':0<((p:Nat):Int):=YR g;obtain⟨h1,A,h3⟩:=hw.2.resolve_left (by lia);rw[Yy]at A;rw[KZ A,KZ (by lia)]at h3;have hs:=DP (rkN j o) h1 A h3;have v:(Ue l p).Perm (Jk 1 j.length):=(Sv h1 A).trans s;have b2:=Kb (rkN j o) (Ue l p)
   have ix:∀(i:Nat) (k:Int),i<l.length->k=(i:Int)->atI (l.map D.int) k=some (.int<|l.getD i 0):=λi k U e=>by
    rw[e];exact Xc (f:=D.int) (TL<|by rw[Y2,Yx U];rfl)
   have lm:(r.map mvD).length=r.length:=Yy ..;have L:∀m∈l,1<=m/\m<=j.length:=λm x=>runI_mem.mp (s.mem_iff.mp x);refine⟨_,ix (p-1) _ (by lia) (by lia),_,ix p _ A rfl,?_⟩;refine⟨j,l,p,rfl,Y,L,by lia,by lia,by simp,by lia,?_⟩;refine⟨l,p,rfl,by lia,by lia,by lia,?_⟩;rw[Wk];refine⟨Ue l p,u,rfl,inr _ v,by rw[RX h1 A];lia,λp' H=>?_⟩;rw[keys _ v]at H;refine⟨⟨Ue l p,r++[((p:Int),l.getD (p-1) 0,l.getD p 0,exM j l p)],p',H,v,λC Q=>?_,?_,?_⟩,?_⟩
   ·rw[Qr];exact hM _ (.step l p C hw (by lia) Q)
   ·rw[YK,Qv];lia
   ·rw[YQ];rfl
   ·show(Uh _ (((Ue l p).map D.int).map toI)).toNat<(Uh _ ((l.map D.int).map toI)).toNat;rw[Br,Br,Br,e0 _ v,e0 _ s];lia
  ·have g':¬0<((p:Nat):Int):=λz=>g (YG z);have M:p=0:=by lia
   subst M
   have:=hM [] (.done l hw)
   rw[WZ]at this;exact hR r this
def RL(x:Def K mg "find_ring" BN ["holders","wishes"])
  : FA ζ:=by
 refine x.fz My (λq n=>(bc (sS 2 n<|xL a0)<|bc (sO [3,4] YN (iL<|xe (J2 (Nd (K:=K) (w:=w) rfl) (by rfl) G.Zc Qq<|az<|pv 0)<|Tw<|sz<|Ja 0) (gN 3)<|bc (sS 4 n<|xf Yh q<|a3 (xv 3) (xv 0)<|xv 1)<|b1<|sI (tp<|wa (tt<|xv 4)<|wA<|tp<|wo (tN<|tt<|xv 2)<|wO<|tc PX TX (xl G.len<|xv 4)<|xl G.len<|xv 2) (b1<|sF 4<|sS 2 n<|xv 4) b0)<|b1<|sV 2)) (.a ?_)
 ·rintro y R X ⟨g,h,rfl,p,v,u⟩;refine⟨rfl,by simp,g,rfl,by lia,λf r j=>?_⟩;refine⟨rfl,Uk (xs:=f) (emb:=D.int) (λi b=>b=[some (.bor<|.lst<|g.map D.int),some (.bor<|.lst<|h.map prD),some (.own<|.lst []),none,none]) rfl ?_ ?_⟩
  ·rintro i s b rfl;have o:=v f[i] (r.mem_iff.mp<|YD s);generalize f[i]=l at o ⊢;exact⟨l,g,h,rfl,p,o,rfl⟩
  ·rintro b rfl;exact u
def Lh(s:Def K mg "all_stands" NW ["strips"])
  : Ce ζ:=by
 refine s.fz Zbw (λh n=>(bc (sE<|xf ZY h<|a1<|xv 0)<|bc (sS 1 n<|xL<|a1<|xt<|a2 (xt a0) xi)<|bc (sO [2] YN (ir G.Zb<|a1<|xl G.len<|xv 0) (gN 2)<|b1<|sS 1 n<|xf Yi h<|a2 (xv 0)<|xv 1)<|b1<|sV 1)) (.a ?_)
 ·rintro v R X ⟨b,rfl,p,g,o⟩;refine⟨rfl,?_⟩;have u:(b.map prD).length=b.length:=Yy ..;refine⟨b,rfl,g,by simp,by simp,by simp,?_⟩;refine⟨⟨by omega,by omega⟩,Xt (λi f=>f=[some (.bor<|plD b),some (.own ((JP b i).map stD)),none]) ?_ ?_ ?_⟩
  ·rfl
  ·rintro i f l rfl;have j:i<(((b.map prD).length:Nat):Int).toNat:=l;have r:(JP b i).length<=7 ^ 6:=Y8 (DN g i) (Qy (n:=7) (by decide)<|by omega);exact⟨b,JP b i,rfl,p,g,Y8 r (by decide),(λq hq=>by rw[Ga hq];omega),rfl⟩
  ·rintro f rfl;have e:(((b.map prD).length:Nat):Int).toNat=b.length:=by omega
   show R (.own ((JP b (((b.map prD).length:Nat):Int).toNat).map stD));rw[e];exact o
def LN(DD:Def K mg "least_costs" NZ ["strips","wishes","pairs"])
  : Do ζ:=by
 refine DD.fz D1 (λJ n=>(bc (se (Pu.pz 3 D1.nd<|Zbj (JH<|J ()) (Xn J9) Jp)<|JV (Zc5 (XG Xq) Jq)<|Jx 3)<|bc (sO [4,5] YN (iL<|xp (xf Yb J<|a1<|xf ZC J<|a1<|xv 0) (o1 xi) o0) (gN 4)<|bc (sC 5 ["holder","members","wishes"] [none,some 4,some 1] n (je (Po (K:=K)<|pv 4)<|SndI.c<|Pb<|Ja 4) (gN 0) (f1<|tt<|xf Yc J<|a3 (xv 1) (xv 0)<|xv 2)<|xv 0)<|b1<|se (Tt (JH<|J ()) (pv 3) (pv 4) (J2 (MH (K:=K) rfl) (by rfl) G.Zr boot_min<|az<|cz ["last","members","least","pairs"] [none,some 4,some 3,some 2] (X1 (K:=K)<|pv 5) ⟨(gk 0),X4,(fz Yj (J ())<|Jw (pv 1)<|Jw (pv 0)<|Jw (pv 2)<|Jw (pv 3) J9)⟩) rfl)<|TN 3 (Ja 4)<|IK<|sz<|UD (K4<|Ja 5) (Jx 0) Kj<|J0<|JX (Ja 1)<|JX (Ja 0)<|JX (Ja 2)<|JX (Ja 3) Xq)<|b1<|sV 3)) (.a ?_)
 ·rintro ds R X ⟨A,r,pa,c,rfl,hF,hz,hw,hu,hc,hL,hR⟩;refine⟨rfl,by simp,_,_,rfl,rfl,?_⟩;refine⟨A,rfl,hF,hz,_,rfl,UT A,?_⟩;have hh:=UT A;have nd:(Jc A).Nodup:=(Xv A).imp (λh=>VB h);generalize Jc A=hs at hh nd hc hL hR ⊢;have hsl:=NL hs;have u:=K6 hs;have x:=Ea nd;have B:=DH nd
  have v:(Jo hs).length<=1024:=by
   rw[hsl];exact Qy (j:=10) (by decide) hh
  obtain⟨T,eT⟩:=Hd hs;rw[eT]at u x B v hR ⊢;refine⟨rfl,rfl,?_⟩
  have ec:Pu.cutD (List.map tD ([]::T)) (some 1) none=T.map tD:=by
   rw[T4,Ej _ (by decide)];rfl
  rw[ec];refine Uk (xs:=T) (emb:=tD) (λi y=>∃b:List (List Key×V),y=[some (.bor<|.lst<|A.map prD),some (.bor<|.lst<|r.map prD),some (.bor<|.dT pa),some (.own<|.dT b),none,none]/\Tab r c ([]::T.take i) b) ⟨_,rfl,RN r c⟩ ?_ ?_
  ·rintro i hi y ⟨b,rfl,H⟩;have em:([]::T)[i+1]?=some T[i]:=by rw[List.getElem?_cons_succ,Yx hi]
   have U:T[i]∈[]::T:=Wj em;have o:=u _ U;have Q:T[i]≠[]:=λe=>(Wi.mp B).1 (e▸YD hi)
   have N:T[i]∉[]::T.take i:=λz=>by
    rcases YA.mp z with z|z
    ·exact Q z
    ·obtain⟨j,hj,e⟩:=Wq.mp z;rw[Wg]at hj;rw[V7]at e;exact Qg.mp (Wi.mp B).2 j i (by lia) hi (by lia) e
   have hml:T[i].length<=10:=Y8 o.length_le hh
   have C:∀l∈T[i],Jj T[i] l∈[]::T.take i:=λl p=>by
    obtain⟨j,hj,e⟩:=x (i+1) _ em l p
    have:([]::T.take i)=([]::T).take (i+1):=by rw[List.take_succ_cons]
    rw[this];refine Wj (i:=j) ?_;rw[WJ hj];exact e
   have ndm:T[i].Nodup:=nd.sublist o
   have hkl:b.length<=1024:=by
    have:=Wz List.length H.keys
    rw[Yy,Yy,YX,Wg]at this;rw[YX]at v;lia
   have etk:[]::T.take (i+1)=([]::T.take i)++[T[i]]:=by rw[YY hi];rfl
   rw[etk];generalize T[i]=f at *;obtain⟨vs,L⟩:=Dn λl p=>H.val _ (C l p);obtain⟨l0,hl0,hl0'⟩:=hL f o Q;refine⟨_,rfl,J6 (s:=.sh .non) (xs:=f) (emb:=D.int) (λh=>if US r f h=true then some (.int h)else none) (by lia) (λh hm=>?_) ?_⟩
   ·refine⟨f,h,r,rfl,hw,?_⟩;refine Ji (λg=>⟨_,rfl,Y5 g⟩) (λg=>Y4 g)
   ·rw[Ul (λh=>US r f h)];refine J6 (xs:=f.filter (λh=>US r f h)) (emb:=D.int) (λl=>some (.int (vs l+((Jj f l).map (c · l)).sum))) (Y8 (YV _ _)<|by lia) (λl p=>?_) ?_
    ·obtain⟨q,Y⟩:=YS.mp p;exact⟨f,l,b,pa,(c · l),vs l,rfl,by lia,(L l q).1,λm hm=>hc m (o.subset<|less_sub.subset hm) l (o.subset q),_,rfl,rfl⟩
    ·rw[UR];refine⟨(f.filter (λh=>US r f h)).map λl=>vs l+((Jj f l).map (c · l)).sum,by rw[Wa];rfl,?_,λM hM hle=>⟨_,_,Ts f,rfl,by lia,_,rfl,H.put N (L8 ndm hu (λl p=>(L l p).2) ?_ ?_)⟩⟩
     ·rw[Yy];exact List.length_pos_of_mem (YS.mpr ⟨hl0,lastM_iff.mpr hl0'⟩)
     ·obtain⟨l,p,e⟩:=YO.mp hM;obtain⟨q,Y⟩:=YS.mp p;exact⟨l,q,Y,e.symm⟩
     ·intro l p E;exact hle _ (YO.mpr ⟨l,YS.mpr ⟨p,E⟩,rfl⟩)
  ·rintro y ⟨b,rfl,H⟩;rw[W2]at H;exact hR b H
def Rj(C:Def K mg "_law_strips" N8 ["_law_script","_law_menu_here","_law_many"])
  : Gk ζ:=by
 refine C.fz Ib (λr n=>(bc (sS 3 n<|xL a0)<|bc (sO [4,5,6] YN (ir G.Zb<|a1<|xv 2) (gN 4)<|bc (sS 5 n<|xf ZD r<|a2 (xv 0)<|xo JM JO xi<|xv 4)<|bc (sS 6 n<|xo JM JO (xx (xv 1) xi)<|xo J8 JB (xo U0 U7 (xv 5)<|xx (xv 1) xi)<|xx (xv 1) xi)<|b1<|sF 6<|sA 3<|xt<|a2 (xf ZG r<|a2 (xv 1)<|xo J8 JB (xv 5)<|xx (xv 1) xi)<|xv 6)<|b1<|sV 3)) (.a ?_)
 ·rintro Y R X ⟨p,m,n,rfl,s,U,T,B⟩;refine⟨rfl,?_⟩;have l:=s;obtain⟨a,b,c,d,e,rfl,Q,N,M,L,J⟩:=s;refine⟨by simp,⟨by omega,by omega⟩,Xt (λi g=>∃f:Zu,g=[some (.bor<|.scr p),some (.bor<|.lst (([a,b,c,d,e]:Zv).map D.int)),some (.sh<|.int n),some (.own<|f.map prD),none,none,none]/\Field f/\f.length=i) ⟨[],rfl,(λq hq=>by cases hq),rfl⟩ ?_ ?_⟩
  ·rintro i g A ⟨f,rfl,o,j⟩;have y:(f.map prD).length=f.length:=Yy ..;have z:i<n.toNat:=A;refine⟨p,_,rfl,by omega,λv=>?_⟩;have H:=Vs (v / a) (show d≠0 by omega);have E:=QH (v / a) (show 0<d by omega);refine⟨_,rfl,_,rfl,⟨by omega,by omega⟩,_,rfl,(by show 0<d;omega),_,rfl,(by show 0<a;omega),[a,b,c,d,e],_,rfl,l,λh x u _=>⟨by simp,by omega,f++[(h,e+v / a % d)],?_,λq hq=>?_,by rw[YK,j];rfl⟩⟩
   ·rw[YQ];rfl
   ·rcases Wc.mp hq with hq|hq
    ·exact o q hq
    ·rw[Y3]at hq;subst hq;exact⟨x,u,by show 1<=e+v / a % d;omega,by show e+v / a % d<=1000;omega⟩
  ·rintro g ⟨f,rfl,o,j⟩;exact B f o j
def Zc9(DD:Def K mg "_law_wishes" Sl ["_law_script","_law_menu_here"])
  : FC ζ:=by
 refine DD.fz FS (λv n=>(bc (sS 2 n<|xf ZD v<|a2 (xv 0) xi)<|bc (sS 3 n<|xx (xL<|a2 xi<|xe (J2 (Rr rfl) (by rfl) G.Zq boot_max<|bz Jp<|jx K (pv 1) Jp)<|Hu<|tz Jq<|Ug (Ja 1) Jq)<|xo J8 JB (xo U0 U7 (xv 2) xi) xi)<|bc (sS 4 n<|xL a0)<|bc (sO [5,6,7,8,9] YN (ir G.Zb<|a1<|xo J8 JB (xv 2) xi) (gN 5)<|bc (sS 6 n<|xf ZD v<|a2 (xv 0)<|xo JM JO xi<|xv 5)<|bc (sS 7 n<|xo J8 JB (xv 6)<|xv 3)<|bc (sS 8 n<|xo J8 JB (xo JM JO (xo JM JO (xv 7) xi)<|xo J8 JB (xo U0 U7 (xv 6)<|xv 3)<|xo U3 Ux (xv 3) xi)<|xv 3)<|bj (sI (tp<|wa (tc Kk Kp (xo J8 JB (xo U0 U7 (xv 2) xi) xi) xi)<|wA<|tc Kk Kp (xv 7)<|xv 8) (b1<|sF 7<|sF 8<|se (Ho (i:=7) (j:=8) rfl FS.nd rfl rfl (by decide) rfl rfl (bz (pv 8)<|pv 7)<|by rfl)<|Zan<|tz (Ja 8)<|Ja 7) b0)<|bc (sS 9 n<|xt<|a2 (xf ZG v<|a2 (xv 1)<|xv 7)<|xf ZG v<|a2 (xv 1)<|xv 8)<|b1<|sI (tI v (xv 9)<|xv 4) (b1<|sF 9<|sA 4<|xv 9) b0)<|b1<|sV 4)) (.a ?_)
 ·rintro ds R X ⟨x,m,rfl,H,hR⟩;refine⟨rfl,?_⟩;have u:=H;obtain⟨a,b,c,d,e,rfl,ha,hb,hc,hd,he⟩:=H;refine⟨x,1,rfl,by decide,λl=>?_⟩
  have r:∃p:Int,atI [D.int 10,.int (if a>2 then a else 2)] (l / 63 % 2)=some (.int p)/\2<=p/\p<=10:=by
   have:l / 63 % 2=0\/l / 63 % 2=1:=by omega
   rcases this with e|e<;>rw[e]
   ·exact⟨10,rfl,by decide,by decide⟩
   ·exact⟨_,rfl,by split<;>omega,by split<;>omega⟩
  obtain⟨pool,ep,hp⟩:=r;refine⟨_,rfl,by simp,⟨by decide,by decide⟩,(by show(0:Int)<2;decide),_,ep,by simp,(by show(0:Int)<21;decide),⟨by omega,by omega⟩,Xt (λi f=>∃h:Zu,f=[some (.bor<|.scr x),some (.bor<|.lst (([a,b,c,d,e]:Zv).map D.int)),some (.sh<|.int l),some (.sh<|.int pool),some (.own<|h.map prD),none,none,none,none,none]/\PB h/\h.length<=i) ⟨[],rfl,HR,Y1 _⟩ ?_ ?_⟩
  ·rintro i f hi ⟨h,rfl,y,hl⟩;have hi':i<(l % 21).toNat:=hi;have Y:(h.map prD).length=h.length:=Yy ..;refine⟨x,_,rfl,by omega,λcell=>?_⟩;refine⟨(by show 0<pool;omega),⟨by omega,by omega⟩,(by show 0<pool-1;omega),(by show 0<pool;omega),?_⟩
   have q:(0<=cell % pool/\cell % pool<=9)/\(0<=(cell % pool+1+cell / pool % (pool-1)) % pool/\(cell % pool+1+cell / pool % (pool-1)) % pool<=9)/\cell % pool≠(cell % pool+1+cell / pool % (pool-1)) % pool:=by
    have J:=Vs cell (show pool≠0 by omega);have g2:=QH cell (show 0<pool by omega);have g3:=Vs (cell / pool) (show pool-1≠0 by omega);have g4:=QH (cell / pool) (show 0<pool-1 by omega);obtain⟨⟨U,k2⟩,T⟩:=two_ne ⟨J,g2⟩ ⟨g3,g4⟩;exact⟨⟨J,by omega⟩,⟨U,by omega⟩,T⟩
   refine TK (λf=>∃(o t:Int) (E C:Option S),((0<=o/\o<=9)/\(0<=t/\t<=9)/\o≠t)/\f=[some (.bor<|.scr x),some (.bor<|.lst (([a,b,c,d,e]:Zv).map D.int)),some (.sh<|.int l),some (.sh<|.int pool),some (.own<|h.map prD),E,C,some (.sh<|.int o),some (.sh<|.int t),none]) ?_ ?_
   ·refine⟨⟨by decide,by decide⟩,(by show(0:Int)<3;decide),Ji (λ_=>Ji (λ_=>?_) (λ_=>?_)) (λ_=>JA ?_)⟩
    ·exact⟨_,_,_,_,⟨q.2.1,q.1,λz=>q.2.2 z.symm⟩,rfl⟩
    ·exact⟨_,_,_,_,q,rfl⟩
    ·exact⟨_,_,_,_,q,rfl⟩
   ·rintro f ⟨o,t,E,C,s,rfl⟩;refine⟨_,_,rfl,u,λB Q N e1=>⟨_,_,rfl,u,λA M L e2=>?_⟩⟩;have b3:=Zdl u s.1 s.2.1 s.2.2;refine⟨by simp,_,.lp (B,A) h,Ji (λg=>?_) (λg=>?_)⟩
    ·have g':(B,A)∉h:=λz=>by rw[Y5 rfl,YG z]at g;cases g
     refine⟨by omega,h++[(B,A)],?_,Zb6 y (Zag ⟨Q,N⟩ ⟨M,L⟩ (by rw[e1,e2];exact b3) g'<|by omega),?_⟩
     ·rw[YQ];rfl
     ·rw[YK,Qv];omega
    ·exact⟨h,rfl,y,by omega⟩
  ·rintro f ⟨h,rfl,y,hl⟩;exact hR h y
def Zcw(r:Def K mg "check_no_ring" N0 ["strips","wishes"])
  : Ds ζ:=by
 refine r.fz Ii (λf n=>(bc (sS 2 n<|xf ZP f<|a2 (xf ZC f<|a1<|xv 0)<|xv 1)<|b1<|sI (tt<|xv 2) (b1<|se DW CK) b0)) (.a ?_)
 ·rintro s R X ⟨b,g,rfl,q,h,i,p,o⟩;refine⟨rfl,?_⟩;exact⟨b,rfl,q,h,_,g,rfl,Y8 (UT b) (by decide),λl j t=>Di i p j _ t (Y1 _),JA (A:=False) o⟩
def Za1(A:Def K mg "cost_table" Nm ["strips","wishes"])
  : A7 ζ:=by
 refine A.fz Io (λj n=>(bc (sE<|xf ZR j<|a2 (xv 0)<|xv 1)<|bc (sS 2 n<|xf ZQ j<|a3 (xv 0) (xv 1)<|xf ZO j<|a1<|xv 0)<|b1<|sR<|xe (UF (RD rfl) (by rfl) G.Zd boot_list<|Jw (HA (K:=K)<|pv 2) J9)<|Rv<|Ja 2)) (.a ?_)
 ·rintro B R X ⟨b,p,rfl,o,g,hw,i,q,x⟩;refine⟨rfl,b,p,rfl,o,g,i,q,b,rfl,o,g,λs l=>⟨b,p,s,pcc b,rfl,o,g,hw,i,l,Cm i q,λf T=>?_⟩⟩;have u:(Jc b).Nodup:=(Xv b).imp (λh=>VB h);obtain⟨r,e,v⟩:=T.vals (DH u);obtain⟨z,y⟩:=G8 e;refine⟨f,rfl,z,?_⟩;rw[y];exact x r v
def L3(DD:Def K mg "best_order" N3 ["strips","wishes"])
  : Gx ζ:=by
 refine DD.fz CU (λv n=>(bc (sE<|xf ZR v<|a2 (xv 0)<|xv 1)<|bc (sS 2 n<|xf ZO v<|a1<|xv 0)<|bc (se (Pu.pz 3 CU.nd<|fz ZQ (v ())<|dz (pv 0) (pv 1)<|pv 2)<|JV (J0<|uz (Ja 0) (Ja 1)<|Ja 2)<|Jx 3)<|bc (sS 4 n<|xe (UF (F7 (K:=K)) (by rfl) G.Ze boot_tuple<|az<|fz ZC (v ())<|az<|pv 0)<|Dp<|sz<|J0<|sz<|Ja 0)<|bc (sS 5 n<|xL a0)<|bc (sW [6,7] YN (tt<|xv 4)<|bc (sC 6 ["holder","members","wishes"] [none,some 4,some 1] n (je (Po (K:=K)<|pv 4)<|SndI.c<|Pb<|Ja 4) (gN 0) (f1<|tt<|xf Yd v<|a3 (xv 1) (xv 0)<|xv 2)<|xv 0)<|bc (sC 7 ["first","members","least","pairs"] [none,some 4,some 3,some 2] n (jL<|xv 6) (gN 0) (f1<|tq v (xf Yk v<|ac (xv 1)<|ac (xv 0)<|ac (xv 2)<|ac (xv 3) a0)<|xe (XO (JH<|v ()) (pv 2) (pv 1) (λ_ _=>rfl))<|XY (Ja 2)<|Ja 1)<|xv 0)<|bc (sA 5<|xx (xv 7) xi)<|b1<|sS 4 n<|xf ZF v<|a2 (xv 4)<|xx (xv 7) xi)<|b1<|sV 5)) (.a ?_)
 ·rintro ds R X ⟨u,i,rfl,hF,hz,hw,hu,hN,hR⟩;refine⟨rfl,u,i,rfl,hF,hz,hu,hN,u,rfl,hF,hz,λpa hpa=>⟨u,i,pa,pcc u,rfl,hF,hz,hw,hu,hpa,Cm hu hN,λY T=>⟨u,rfl,hF,hz,?_⟩⟩⟩;have hh:=UT u;have hri:=Xv u;have nd:(Jc u).Nodup:=hri.imp (λh=>VB h);have hpa':∀x∈Jc u,∀y∈Jc u,Jh pa [.inl x,.inl y]=some (.int<|pcc u x y):=hpa;generalize pcc u=c at *;generalize Jc u=Q at *
  refine⟨rfl,by simp,B8 (λU=>∃(b o:Zv),U=[some (.bor<|.lst<|u.map prD),some (.bor<|.lst<|i.map prD),some (.own<|.dT pa),some (.own<|.dT Y),some (.sh<|tD b),some (.own<|o.map D.int),none,none]/\b∈Jo Q/\o.length+b.length<=10/\
   ∀p,UA i c b p->UA i c Q (o++p)) Zc7 ⟨Q,[],rfl,List.mem_of_getLast? (Lq Q),by simpa using hh,λp hp=>hp⟩ ?_⟩
  rintro U ⟨b,o,rfl,J,hol,hB⟩;show if (!(b.map D.int).isEmpty)=true then _ else _;refine Ji (λg=>?_) (λg=>?_)
  ·have B:=K6 Q b J;have hne:b≠[]:=λe=>by subst e;simp at g
   have A:b.Nodup:=nd.sublist B;have hrm:=hri.sublist B
   have z:∀l∈b,Jj b l∈Jo Q:=λl L=>by
    obtain⟨k,hk,e⟩:=Wq.mp J;obtain⟨j,_,ej⟩:=Ea nd k b (by rw[Yx hk,e]) l L;exact Wj ej
   obtain⟨E,hvs⟩:=Dn λl L=>T.val _ (z l L);obtain⟨V,hV1,N⟩:=T.val b J;have hv2:∀l∈b,Ub i c (Jj b l) (E l):=λl L=>(hvs l L).2
   have H:∃f rest,(b.filter (λh=>firstM i b h)).filter (λf=>decide (E f+((Jj b f).map (c f)).sum=V))=f::rest:=by
    obtain⟨q,q1,q2,q3⟩:=N.is;cases q with
    |nil=>exact absurd q1.nil_eq.symm hne
    |cons g p=>
     obtain⟨r1,r2,r3,_⟩:=As A hu hv2 N q1 q2 q3;exact List.exists_cons_of_ne_nil (List.ne_nil_of_mem<|YS.mpr ⟨YS.mpr ⟨r1,r2⟩,YG r3⟩)
   obtain⟨f,rest,ef⟩:=H;have M:f∈(b.filter (λh=>firstM i b h)).filter (λf=>decide (E f+((Jj b f).map (c f)).sum=V)):=by rw[ef];exact Wb ..
   obtain⟨M,hf3⟩:=YS.mp M;obtain⟨C,hf2⟩:=YS.mp M
   have hmin:∀g∈b,firstM i b g=true->E g+((Jj b g).map (c g)).sum=V->f<=g:=λg h1 h2 h3=>by
    have hg:g∈(b.filter (λh=>firstM i b h)).filter (λf=>decide (E f+((Jj b f).map (c f)).sum=V)):=YS.mpr ⟨YS.mpr ⟨h1,h2⟩,YG h3⟩
    have v:(f::rest).Pairwise (· < ·):=by
     rw[←ef];exact(hrm.filter _).filter _
    rw[ef]at hg;rcases YA.mp hg with e|hg
    ·lia
    ·have:=(WW.mp v).1 g hg
     lia
   refine⟨_,rfl,J6 (s:=.sh .non) (xs:=b) (emb:=D.int) (λh=>if firstM i b h=true then some (.int h)else none) (by lia) (λh hm=>?_) ?_⟩
   ·refine⟨b,h,i,rfl,hw,?_⟩;refine Ji (λg=>⟨_,rfl,Y5 g⟩) (λg=>Y4 g)
   ·rw[Ul (λh=>firstM i b h)];refine J6 (xs:=b.filter (λh=>firstM i b h)) (emb:=D.int) (λf=>if decide (E f+((Jj b f).map (c f)).sum=V)=true then some (.int f)else none) (Y8 (YV _ _)<|by lia) (λl L=>?_) ?_
    ·obtain⟨hl1,hl2⟩:=YS.mp L;refine⟨b,l,Y,pa,c l,E l,rfl,by lia,(hvs l hl1).1,λm hm=>hpa' l (B.subset hl1) m (B.subset<|less_sub.subset hm),_,_,Ts b,hV1,rfl,?_⟩;refine Ji (λg=>⟨_,rfl,Y5 g⟩) (λg=>Y4 g)
    ·rw[Ul (λf=>decide (E f+((Jj b f).map (c f)).sum=V)),ef];refine⟨_,BC _ _,by rw[Yy];lia,_,BC _ _,b,f,rfl,by lia,⟨Jj b f,o++[f],?_,z f C,?_,λp hp=>?_⟩,?_⟩
     ·rw[YQ];rfl
     ·have:=(UI A C).length_eq
      rw[YK];rw[YX]at this;show o.length+1+_<=10;lia
     ·rw[Qr];exact hB _ (Zaq A hu hv2 N C hf2 (YR hf3) hmin hp)
     ·have:=(UI A C).length_eq
      rw[YX]at this;show((Jj b f).map D.int).length<(b.map D.int).length;rw[Yy,Yy];lia
  ·have e:b=[]:=by
    cases b with
    |nil=>rfl
    |cons a r=>exact absurd rfl g
   subst e
   have:=hB [] (Ha i c)
   rw[WZ]at this;exact hR o this
def Ow(DD:Def K mg "_law_told" B7 ["_law_which","_law_strips_here","_law_wishes_here","_law_order"])
  : AI ζ:=by
 refine DD.fz O6 (λf n=>(bc (sI (tq f (xv 0) xi) (b1<|sR<|xf ZC f<|a1<|xv 1) b0)<|bc (sI (tq f (xv 0) xi) (b1<|sR<|xe (Pn Yl (hq<|f ()) SO<|bz (pv 1)<|pv 3)<|J0<|tz (Ja 1)<|Ja 3) b0)<|bc (sI (tq f (xv 0) xi) (b1<|sR<|xf Yg f<|a2 (xv 1)<|xv 2) b0)<|bc (sI (tq f (xv 0) xi) (b1<|sR<|xf ZW f<|a2 (xv 3)<|xv 2) b0)<|bc (sI (tq f (xv 0) xi) (b1<|sR<|xf ZP f<|a2 (xv 3)<|xv 2) b0)<|bc (sI (tq f (xv 0) xi) (b1<|sR<|xf Yo f<|a2 (xv 1)<|xv 2) b0)<|bc (sI (tq f (xv 0) xi) (b1<|sR<|xf Yp f<|a2 (xv 1)<|xv 2) b0)<|bc (sI (tq f (xv 0) xi) (b1<|sR<|xf Ym f<|a2 (xv 1)<|xv 3) b0)<|bc (sI (tq f (xv 0) xi) (b1<|sR<|xe (jx K (Pn Yf (hq<|f ()) SO<|bz (pv 1)<|Xl J9) Jp)<|M9 (J0<|tz (Ja 1)<|Pf Xq) Jq) b0)<|b1<|sR<|xf Yn f<|a1<|xv 1)) (.a ?_)
 ·rintro ds R X ⟨w,p,s,o,rfl,hw,q,C,U,E,y,v,J,i,j⟩;refine⟨rfl,?_⟩;have hh:=UT p;have t:∀n:Int,decide (w=n)=true->w=n:=λn g=>YR g;refine Ji (λg=>?_) (λg0=>?_)
  ·exact⟨p,rfl,q,by lia,j _ (.inl ⟨t _ g,rfl⟩)⟩
  refine Ji (λg=>?_) (λg1=>?_)
  ·refine⟨p,o,rfl,q,by lia,by lia,?_⟩;rw[DE (i<|by have:=t _ g;lia).1];exact j _ (.inr<|.inl ⟨t _ g,rfl⟩)
  refine Ji (λg=>?_) (λg2=>?_)
  ·exact⟨p,s,rfl,q,by lia,by lia,j _ (.inr<|.inr<|.inl ⟨t _ g,rfl⟩)⟩
  refine Ji (λg=>?_) (λg3=>?_)
  ·exact⟨o,s,rfl,v,by lia,by lia,j _ (.inr<|.inr<|.inr<|.inl ⟨t _ g,rfl⟩)⟩
  refine Ji (λg=>?_) (λg4=>?_)
  ·obtain⟨L,T⟩:=i (by have:=t _ g;lia);exact⟨o,s,rfl,by lia,λl N u=>Di y (λ⟨r,h⟩=>T ⟨r,h.two,h.nodup,λx hx=>L.mem_iff.mp (h.sub x hx),h.chain,h.last⟩) N _ u (Y1 _),j _ (.inr<|.inr<|.inr<|.inr<|.inl ⟨t _ g,rfl⟩)⟩
  refine Ji (λg=>?_) (λg5=>?_)
  ·exact⟨p,s,rfl,q,by lia,by lia,y,(i<|by have:=t _ g;lia).2,λA H=>j _ (.inr<|.inr<|.inr<|.inr<|.inr<|.inl ⟨t _ g,A,H,rfl⟩)⟩
  refine Ji (λg=>?_) (λg6=>?_)
  ·exact⟨p,s,rfl,q,by lia,by lia,y,(i<|by have:=t _ g;lia).2,λb Q=>j _ (.inr<|.inr<|.inr<|.inr<|.inr<|.inr<|.inl ⟨t _ g,b,Q,rfl⟩)⟩
  refine Ji (λg=>?_) (λg7=>?_)
  ·exact⟨p,o,rfl,q,C,(i<|by have:=t _ g;lia).1,λB M=>j _ (.inr<|.inr<|.inr<|.inr<|.inr<|.inr<|.inr<|.inl ⟨t _ g,B,M,rfl⟩)⟩
  refine Ji (λg=>?_) (λY=>?_)
  ·exact⟨by simp,p,rfl,q,by lia,λx=>j _ (.inr<|.inr<|.inr<|.inr<|.inr<|.inr<|.inr<|.inr<|.inl ⟨t _ g,rfl⟩)⟩
  ·have n:∀n:Int,¬decide (w=n)=true->w≠n:=λn g e=>g (YG e);have z:w=9:=by have:=n _ g0;have:=n _ g1;have:=n _ g2;have:=n _ g3;have:=n _ g4;have:=n _ g5;have:=n _ g6;have:=n _ g7;have:=n _ Y;lia
   exact⟨p,rfl,q,by have:=U z;lia,j _ (.inr<|.inr<|.inr<|.inr<|.inr<|.inr<|.inr<|.inr<|.inr ⟨z,rfl⟩)⟩
def Za2(G:Glob K mg)(ZA:Sz ζ)(Yq:DV ζ)(Yr:Al ζ)(Ys:GW ζ)(ZD:S9 ζ)(ZS:AW ζ)(ZT:GB ζ)(ZH:Ae ζ)(Yt:GR ζ)(Yu:Gk ζ)(Yv:FC ζ)(ZU:AI ζ)
  : Zae ζ UY:=by
 refine Lam.LB (k:=6) U4 (λ_ _ _ _ _ _ _ j T=>⟨_,(Lam.TC (Pu.pz 1 U4.nd<|fz Yq j<|az<|fz ZD j<|bz (pv 0) Jp)
   (Lam.TC (Pu.pz 2 U4.nd<|fz Yu j<|dz (pv 0) (pv 1)<|UK J8 (UK U0 (fz ZA j<|bz (pv 0) Jp) Jp) Jp)
   (Lam.TC (Pu.pz 3 U4.nd<|fz Yr j<|az<|pv 2)
   (Lam.TC (Pu.pz 4 U4.nd<|fz Ys j<|bz (pv 3)<|UK U0 (fz ZS j<|az<|pv 0) Jp)
   (Lam.IG (Lam.Zab (cq K j (UK J8 (fz ZS j<|az<|pv 0) Jp) Jp)
   (Lam.Zci<|Lam.IL 2 U4.nd<|Lam.LM (N':=["_law_strip","_law_order"]) (φ:=[none,some 4]) (x:="_law_strip") T j (Lam.Kq.of<|by rfl) rfl G.Zc (az<|pv 2) (λ_ _ _ _ _ _=>rfl) (λ_ _ _ _ _ _ _=>(SZ (K:=K) Wv QL PySem.F.type_list_index (Df (K:=K)) (pv 1)<|az<|jx K (pv 0) Jp)))
   (Lam.Zcz Xr))
   (JR (Pu.pz 5 U4.nd<|fz Yt j<|bz (fz Yv j<|bz (pv 0)<|pv 1)<|pv 3)
   (JR (G9 YN rfl (Fh rfl G.Zb<|az Jp) (gz 6 U4.nd)
   (JR (Pu.pz 7 U4.nd<|GF (AO (K:=K)) (pv 2) CP<|Cp<|jx K (Xl<|bz Jp Jp)<|UF Zah (by rfl) G.Zn boot_int<|az<|Ku (Tu (K:=K)<|show _<cLine from j.units0) (pv 6) Jp<|UZ _)
   (JR (Pu.pz 8 U4.nd<|Xl<|dz (UF (PH (K:=K)) (by rfl) G.Zd boot_list<|az<|pv 7) (UF (PH (K:=K)) (by rfl) G.Zd boot_list<|az<|pv 5)<|UF (PH (K:=K)) (by rfl) G.Zd boot_list<|az<|pv 4)
   (JR (Pu.pz 9 U4.nd<|fz ZU j<|Jw (pv 6)<|Jw (jx K (pv 8) Jp)<|Jw (jx K (pv 8) Jp)<|Jw (jx K (pv 8) Jp) J9)
   (JR (X6 (XU<|XA (K:=K)<|J2 (K0 (K:=K)) (by rfl) G.Za Qp<|bz (pv 9)<|Kw (v:=.ty "list") rfl G.Zd boot_list rfl)
   (U5<|Ur UN)
   Xr)
   (JR (Pu.pz 10 U4.nd<|J2 (Ew j.gd j.units) (by rfl) G.Zl boot_repr<|az<|pv 9)
   (SY (X6 (PW.pt<|NU (Xf (PK (K:=K)<|show _<cLine from JH j) (pv 6) (Xl<|bz Jp Jp)<|by with_unfolding_all rfl)<|B0<|XU<|XA (K:=K)<|fz ZT j<|bz (J2 (Nd (K:=K) (w:=w) rfl) (by rfl) G.Zc Qq<|az<|pv 9)<|pv 3)
   (U5<|Ur UN)
   Xr)
   (SY (X6 (PW.pt<|NU (cq K j (pv 6) Jp)<|B0<|XU<|XA (K:=K)<|fz ZH j<|bz (J2 (Stp.Da (K:=K)) (by rfl) G.Zc Qq<|az<|pv 9)<|J2 (Stp.Da (K:=K)) (by rfl) G.Zc Qq<|az<|pv 2)
   (U5<|Ur UN)
   Xr)
   (JR (XH<|KW Wv QF QG Nc (pv 9)<|az Jp)
   (JR (XH<|A0 Wv PySem.F.slot_list_reverse PySem.F.type_list_reverse Zb3<|pv 9)
   (JR (X6 (PW.pt<|BZ (XU<|XA (K:=K)<|fz ZH j<|bz (jx K (pv 8) Jp)<|pv 7)<|Fc<|XU<|XA (K:=K)<|fz ZH j<|bz (jx K (pv 8) Jp)<|pv 5)
   (U5<|Ur UN)
   Xr)
   (JR (X6 (XU<|XA (K:=K)<|fz ZT j<|bz (jx K (pv 8) Jp)<|pv 4)
   (U5<|Ur UN)
   Xr)
   (U5 (X6 (cn K j (J2 (Ew j.gd j.units) (by rfl) G.Zl boot_repr<|az<|fz ZU j<|Jw (pv 6)<|Jw (jx K (pv 8) Jp)<|Jw (jx K (pv 8) Jp)<|Jw (jx K (pv 8) Jp) J9)<|pv 10)
   (U5<|Ur UN)
   Xr))))))))))))))
   (U5<|Ur UN)))))))),
   (Ua (JV (J0<|sz<|J0<|tz (Ja 0) Jq)<|Jx 1)
    (Ua (JV (J0<|uz (Ja 0) (Ja 1)<|JB (U7 (J0<|tz (Ja 0) Jq) Jq) Jq)<|Jx 2)
    (Ua (JV (J0<|sz<|Ja 2)<|Jx 3)
    (Ua (JV (J0<|tz (Ja 3)<|U7 (J0<|sz<|Ja 0) Jq)<|Jx 4)
    (TU (Xg (Up<|XI (JB (J0<|sz<|Ja 0) Jq) Jq) (JV (Lam.ML (Lam.RZ (Lam.CY 1)<|Lam.Ls (Lam.CY 0)<|Lam.Mi _) (Gp (Ja 1)<|sz<|Ug (Ja 0) Jq)<|sz<|Ja 2)<|Jx 2) Xd)
    (Ua (JV (J0<|tz (J0<|tz (Ja 0)<|Ja 1)<|Ja 3)<|Jx 5)
    (Ua (FI [6,7,8,9,10] (GH<|sz Jq) (Jx 6)
    (Ua (JV (Ai (Ja 2) Co<|D2<|Ug (Pf<|tz Jq Jq)<|M1<|sz<|XI (Ja 6) Jq)<|Jx 7)
    (Ua (JV (GX<|sl_cons (TZ<|sz<|Ja 7)<|sl_cons (TZ<|sz<|Ja 5)<|sl_cons (TZ<|sz<|Ja 4) Ra)<|Jx 8)
    (Ua (JV (J0<|JX (Ja 6)<|JX (Ug (Ja 8) Jq)<|JX (Ug (Ja 8) Jq)<|JX (Ug (Ja 8) Jq) Xq)<|Jx 9)
    (Ua (Xg (X5<|XW<|Kg<|tz (Ja 9) KA) (Xk UP) Xd)
    (Ua (JV (A4<|sz<|Ja 9)<|Jx 10)
    (TU (Xg (Ni (Up<|Pw (Ja 6)<|Pf<|tz Jq Jq)<|X5<|XW<|J0<|tz (Tw<|sz<|Ja 9)<|Ja 3) (Xk UP) Xd)
    (TU (Xg (Ni (Up<|XI (Ja 6) Jq)<|X5<|XW<|J0<|tz (Dw<|sz<|Ja 9)<|Dw<|sz<|Ja 2) (Xk UP) Xd)
    (Ua (Gh 9 Jq)
    (Ua (LS 9)
    (Ua (Xg (En (X5<|XW<|J0<|tz (Ug (Ja 8) Jq)<|Ja 7)<|X5<|XW<|J0<|tz (Ug (Ja 8) Jq)<|Ja 5) (Xk UP) Xd)
    (Ua (Xg (X5<|XW<|J0<|tz (Ug (Ja 8) Jq)<|Ja 4) (Xk UP) Xd)
    (Xg (Up<|NV (A4<|sz<|J0<|JX (Ja 6)<|JX (Ug (Ja 8) Jq)<|JX (Ug (Ja 8) Jq)<|JX (Ug (Ja 8) Jq) Xq)<|Ja 10) (Xk UP) Xd)))))))))))))
    (Xk UP))))))))⟩) (.a λds R X h=>?_)
 ·obtain⟨B,rfl,hR⟩:=h;refine⟨rfl,?_⟩;refine⟨B,0,rfl,by decide,λc0=>⟨c0,rfl,λm hM=>?_⟩⟩;refine⟨B,0,rfl,by decide,λa0=>⟨⟨by decide,by decide⟩,(by show(0:Int)<41;decide),B,m,_,rfl,hM,by lia,by lia,λn hF hlen=>?_⟩⟩;have hz:n.length<=40:=by lia
  have hh:=UT n;refine⟨n,rfl,by lia,?_⟩;refine⟨B,rfl,λs1=>⟨⟨by decide,by decide⟩,Jc n,_,rfl,by lia,λo ho=>?_⟩⟩;have hol:=ho.length_eq;have hin0:=PR hF ho;have C:o.Nodup:=ho.nodup_iff.mpr ((Xv n).imp λh=>VB h);refine TK (λl=>∃p:Zu,p.Perm n/\l=[some (.bor<|.scr B),some (.own<|m.map D.int),some (.own<|p.map prD),some (.own ((Jc n).map D.int)),some (.own<|o.map D.int),none,none,none,none,none,none]) ?_ ?_
  ·refine⟨B,rfl,λs2=>⟨(by show(0:Int)<2;decide),Ji (λ_=>?_) (λ_=>⟨n,.refl _,rfl⟩)⟩⟩;refine⟨⟨_,n.map prD,n.map λq=>((o.idxOf q.1:Nat):Int),rfl,rfl,Lam.Tn n,by rw[Yy];lia,by rw[Yy,Yy],λi d k hd hk=>?_,λp hq _=>?_⟩⟩
   ·rw[YB]at hd hk;cases e:n[i]? with
    |none=>rw[e]at hd;cases hd
    |some q=>
     rw[e]at hd hk;cases hd
     cases hk
     have hi:q.1∈o:=hin0 q (Wj e);exact⟨⟨_,rfl⟩,_,BC _ _,o,rfl,hi,rfl⟩
   ·obtain⟨rs,h1,h2⟩:=Lam.Zbk (by rw[Yy]) hq;exact⟨rs,h1,by rw[h2];rfl⟩
  rintro l ⟨p,hq,rfl⟩;have hFq:Field p:=λq h=>hF q (hq.mem_iff.mp h);have hql:=hq.length_eq;have ehold:Jc p=Jc n:=Rq hq;have hoq:o.Perm (Jc p):=by rw[ehold];exact ho
  refine⟨B,m,rfl,hM,λws0 hW=>?_⟩;have hW1:=hW.1;refine⟨ws0,Jc n,rfl,by lia,by lia,λs y N=>?_⟩;have hwl:=y.length_le;have hu:∀q∈s,q.1≠q.2:=λq hq=>(hW.2.2 q<|y.subset hq).2;have hN:¬ ∃r,Ring (Jc n) s r:=(LJ hu).mp N;have hWb:∀q∈s,(0<=q.1/\q.1<=1000)/\(0<=q.2/\q.2<=1000):=λq hq=>by have:=hW.2.2 q (y.subset hq);lia
  refine⟨⟨by decide,by decide⟩,Xt (λi l=>l=[some (.bor<|.scr B),some (.own<|m.map D.int),some (.own<|p.map prD),some (.own ((Jc n).map D.int)),some (.own<|o.map D.int),some (.own<|s.map prD),none,none,none,none,none]) ?_ ?_ ?_⟩
  ·rfl
  ·rintro i l hi rfl;have hi':i<10:=hi;generalize ew:(0:Int)+(i:Int)=w;have hw:0<=w/\w<10:=by lia
   have hsl:∃u:Int,0<=u/\atI [D.int 40,D.int 5] (if decide (w=9)=true then 1 else 0)=some (.int u)/\(w=9->u=5)/\(w≠9->u=40):=by
    by_cases e:w=9
    ·exact⟨5,by decide,by rw[Y5 (YG e)];rfl,λ_=>rfl,λz=>absurd e z⟩
    ·exact⟨40,by decide,by rw[Y4 (by simp[e])];rfl,λz=>absurd z e,λ_=>rfl⟩
   obtain⟨u,hu0,hat,hu9,Y⟩:=hsl;refine⟨by simp,_,hat,rfl,?_⟩;rw[T4,GE _ hu0];have A:Field (p.take u.toNat):=λq h=>hFq q (Vp h);have L:(p.take u.toNat).length<=40:=by rw[Wg];lia
   have M:w=9->(p.take u.toNat).length<=5:=λe=>by rw[hu9 e];exact List.length_take_le _ _
   have J:w≠9->p.take u.toNat=p:=λe=>by rw[Y e];exact QY (by show p.length<=40;lia)
   generalize p.take u.toNat=f at A L M J ⊢;refine⟨rfl,Lam.Tn f,rfl,Lam.Tn s,rfl,UJ o,by simp,λx cs U=>?_⟩
   have ec':∃a b c:Addr,cs=[(a,f.map prD),(b,s.map prD),(c,o.map D.int)]:=by
    rcases cs with _|⟨⟨a,d1⟩,_|⟨⟨b,d2⟩,_|⟨⟨c,d3⟩,_|⟨e,r⟩⟩⟩⟩
    ·cases U
    ·cases U
    ·cases U
    ·cases U
     exact⟨a,b,c,rfl⟩
    ·cases U
   clear U;obtain⟨a,b,c,rfl⟩:=ec';have H:w≠9->o.Perm (Jc f)/\¬ ∃r,Ring (Jc f) s r:=λe=>by rw[J e,ehold];exact⟨ho,hN⟩
   refine⟨_,rfl,_,rfl,_,rfl,w,f,s,o,rfl,hw,A,L,M,by lia,hu,C,by lia,H,λxs Q=>?_⟩;obtain⟨k1,k2,k3⟩:=Q.fine A L M hWb (by lia) C (λe=>(H e).1);refine⟨_,.same _,JA ⟨k1,⟨_,rfl⟩,k2,?_⟩⟩;refine TK (λl=>l=[some (.bor<|.scr B),some (.own<|m.map D.int),some (.own<|p.map prD),some (.own ((Jc n).map D.int)),some (.own<|o.map D.int),some (.own<|s.map prD),some (.sh<|.int w),some (.own<|f.map prD),some (.own<|.nsl x [(a,f.map prD),(b,s.map prD),(c,o.map D.int)]),some (.own<|.lst xs),some (.sh (.str (py<|.lst xs).shown))]) ?_ ?_
   ·refine⟨by simp,_,.li w [0,6],Ji (λg=>?_) (λ_=>JA rfl)⟩;have g':w∈[(0:Int),6]:=YR g;have e06:w=0\/w=6:=by simpa using g'
    have E:∃os:Zv,xs=os.map D.int/\os.Perm (Jc n):=by
     have ef:Jc f=Jc n:=by rw[J (by lia),ehold]
     unfold ToldK at Q;rw[ef]at Q;rcases Q with⟨e,h⟩|⟨e,h⟩|⟨e,h⟩|⟨e,h⟩|⟨e,h⟩|⟨e,h⟩|⟨e,h⟩|⟨e,h⟩|⟨e,h⟩|⟨e,h⟩<;>first|exact absurd e (by lia)|skip
     ·exact⟨_,h,.refl _⟩
     ·obtain⟨b,hb,h⟩:=h;exact⟨b,h,hb.perm⟩
    obtain⟨os,exs,E⟩:=E;refine⟨os,Wz D.lst exs,by rw[E.length_eq];lia,λvs v1 v2=>?_⟩;obtain rfl:vs=Jc n:=List.Perm.eq_of_pairwise (λ_ _ _ _ h h'=>Int.le_antisymm h h') v2 ((Xv n).imp λh=>Int.le_of_lt h) (v1.trans E);exact⟨Jc n,rfl,by lia,JA rfl⟩
   rintro l rfl;refine TK (λl=>l=[some (.bor<|.scr B),some (.own<|m.map D.int),some (.own<|p.map prD),some (.own ((Jc n).map D.int)),some (.own<|o.map D.int),some (.own<|s.map prD),some (.sh<|.int w),some (.own<|f.map prD),some (.own<|.nsl x [(a,f.map prD),(b,s.map prD),(c,o.map D.int)]),some (.own<|.lst xs),some (.sh (.str (py<|.lst xs).shown))]) ?_ ?_
   ·refine Ji (λg=>?_) (λ_=>JA rfl);have e1:w=1:=YR g
    have ex:xs=(JY f o).map prD:=by
     unfold ToldK at Q;rcases Q with⟨e,h⟩|⟨e,h⟩|⟨e,h⟩|⟨e,h⟩|⟨e,h⟩|⟨e,h⟩|⟨e,h⟩|⟨e,h⟩|⟨e,h⟩|⟨e,h⟩<;>first|exact absurd e (by lia)|skip
     exact h
    have g1:(JY f o).Perm p:=by
     have:=EE C (PR A (H<|by lia).1)
     rwa[J (by lia)]at this ⊢
    have sm:∀q∈p,Stp.Um q:=λq hq=>by have:=hFq q hq;unfold Stp.Um;lia
    refine⟨JY f o,Wz D.lst ex,by rw[g1.length_eq];lia,λq hq=>sm q (g1.mem_iff.mp hq),λas a1 a2=>⟨p,rfl,by lia,sm,λbs b1 b2=>?_⟩⟩;obtain rfl:as=bs:=Zdk ((a1.trans g1).trans b1.symm) a2 b2;exact⟨as,rfl,by rw[b1.length_eq];lia,JA rfl⟩
   rintro l rfl;refine⟨k3,?_⟩;refine⟨_,rfl,f,rfl,by lia,JA ⟨_,rfl,s,rfl,by lia,JA ⟨_,rfl,o,rfl,by lia,JA ?_⟩⟩⟩;refine⟨_,rfl,_,rfl,_,rfl,w,f,s,o,rfl,hw,A,L,M,by lia,hu,C,by lia,H,λys hT2=>?_⟩;obtain rfl:=Q.uniq hT2;refine⟨k1,⟨_,rfl⟩,k2,?_⟩;refine Ji (λg=>absurd g ?_) (λ_=>rfl);show ¬(!decide ((py<|.lst xs).shown=(py<|.lst xs).shown))=true;rw[YG rfl];decide
  ·rintro l rfl;exact hR
end
end T
namespace T
open L2 Own M
def RT{l:PySem.W.OpenLaw}{w:World}{K:Zt}{h:Heap}{f:Zx}{fa:Addr}(X:K.In h)(b:h.Ns mainGlobals f)(Y:f "law"=some (.ref fa))(a0:Pu.DI K "holders_of" N5)(a1:Pu.DI K "check_order" NB)(a2:Pu.DI K "gathered" BA)(a3:Pu.DI K "own_numbers" Nx)(a4:Pu.DI K "exchange_cost" Bi)(a5:Pu.DI K "exchanged" SM)(a6:Pu.DI K "first_wrong_place" SE)(a7:Pu.DI K "told_moves" Nk)(a8:Pu.DI K "check_neighbours" Ba)(a9:Pu.DI K "walk_places" Sh)(a10:Pu.DI K "counted_wishes" NS)(a11:Pu.DI K "broken_wishes" Si)(a12:Pu.DI K "longer_paths" SD)(a13:Pu.DI K "ring_from" Nr)(a14:Pu.DI K "find_ring" BN)(a15:Pu.DI K "check_no_ring" N0)(a16:Pu.DI K "check_small" Nv)(a17:Pu.DI K "cost_to_come_next" SC)(a18:Pu.DI K "longer_stands" B9)(a19:Pu.DI K "all_stands" NW)(a20:Pu.DI K "pair_cost" BG)(a21:Pu.DI K "pair_costs" Ny)(a22:Pu.DI K "sets_of" Bo)(a23:Pu.DI K "without" BF)(a24:Pu.DI K "may_lie_last" Nq)(a25:Pu.DI K "may_lie_first" Sj)(a26:Pu.DI K "cost_with_last" Bt)(a27:Pu.DI K "cost_with_first" NT)(a28:Pu.DI K "least_costs" NZ)(a29:Pu.DI K "cost_table" Nm)(a30:Pu.DI K "best_order" N3)(a31:Pu.DI K "_law_at" Nj)(a32:Pu.DI K "_law_whole" Nu)(a33:Pu.DI K "_law_mix" Bm)(a34:Pu.DI K "_law_draw" Bu)(a35:Pu.DI K "_law_spare" N4)(a36:Pu.DI K "_law_menu" Sx)(a37:Pu.DI K "_law_holder" SW)(a38:Pu.DI K "_law_strips" N8)(a39:Pu.DI K "_law_wishes" Sl)(a40:Pu.DI K "_law_row" NY)(a41:Pu.DI K "_law_tuples" Bx)(a42:Pu.DI K "_law_present" NN)(a43:Pu.DI K "_law_no_ring" NA)(a44:Pu.DI K "_law_shuffled" N6)(a45:Pu.DI K "_law_keepable" Nl)(a46:Pu.DI K "_law_told" B7){r:Addr}{C q:Z6}{B:Array (Z5)}{E n o j g p:Value}(a47:PySem.W.nsIn K mainGlobals "law"=some (some<|.ref r))(l47:K.lookup r=some ⟨E,C,.func (PySem.W.fnOf "law" "law" (UG UY) (JI UY) (Jb UY) .none n o j q g p),B⟩)(c47:PySem.W.codeIn K g "law"=true)(k47:PySem.W.keepIn K (.ref r)=true)(VE:PySem.W.nsIn K mainGlobals "any"=some none)(VF:PySem.W.nsIn K mainGlobals "bool"=some none)(VG:PySem.W.nsIn K mainGlobals "enumerate"=some none)(VH:PySem.W.nsIn K mainGlobals "int"=some none)(VI:PySem.W.nsIn K mainGlobals "isinstance"=some none)(VJ:PySem.W.nsIn K mainGlobals "len"=some none)(VL:PySem.W.nsIn K mainGlobals "list"=some none)(VM:PySem.W.nsIn K mainGlobals "max"=some none)(VN:PySem.W.nsIn K mainGlobals "min"=some none)(VO:PySem.W.nsIn K mainGlobals "range"=some none)(VP:PySem.W.nsIn K mainGlobals "repr"=some none)(VQ:PySem.W.nsIn K mainGlobals "set"=some none)(VR:PySem.W.nsIn K mainGlobals "sorted"=some none)(VS:PySem.W.nsIn K mainGlobals "sum"=some none)(VT:PySem.W.nsIn K mainGlobals "tuple"=some none){VW:Tok}(VU:PySem.W.nsIn K mainGlobals "SMALL"=some (some<|.int 7 VW)){VX:Addr}(VC:Pu.EI K "NoStrip" VX){VY:Addr}(VD:Pu.EI K "BadOrder" VY){U i:Addr}(hq:g=.ref U)(hPK:K.lookup i=none)(hPC:PySem.W.codeHdIn K U i=true)
  : ∃(fd:FuncData) (c:Addr),(∀(s:Shared) (v:Value),BindsTo s fd ⟨[v],[]⟩ [("_law_script",v)])/\K.lookup i=none/\PySem.W.codeHdIn K c i=true/\∀base:Heap,K.In base->base.Ns mainGlobals f->PySem.W.CodeHd base c i->base.BuiltinsAt f i->mainGlobals≠i->Lam.LawT l.prog w K f base 7 fa fd "_law_script" (Pu.NO K) i:=by
 have e:=Y.symm.trans (Vd X b a47);cases e
 have G:Glob K f:=⟨Wd X b VE,Wd X b VF,Wd X b VG,Wd X b VH,Wd X b VI,Wd X b VJ,Wd X b VL,Wd X b VM,Wd X b VN,Wd X b VO,Wd X b VP,Wd X b VQ,Wd X b VR,Wd X b VS,Wd X b VT,⟨_,Vd X b VU,⟨_,rfl⟩⟩,(VC.m X b),(VC.k X b),(VD.m X b),(VD.k X b)⟩;have F47:=SR (st:=UY) l47 c47 k47;refine⟨PySem.W.fnOf "law" "law" (UG UY) (JI UY) (Jb UY) .none n o j q g p,U,λs v=>.of_eq rfl,hPK,hPC,λbase _ _ hC hB hg=>?_⟩;have A:=@Hs l.prog w K f base G (a0.e X b);have C3:=@Iq l.prog w K f base ⟨⟩ G (a3.e X b);have C4:=@Ll l.prog w K f base ⟨⟩ (a4.e X b);have C5:=@O8 l.prog w K f base ⟨⟩ (a5.e X b);have C6:=@MI l.prog w K f base ⟨⟩ G (a6.e X b);have C8:=@LY l.prog w K f base ⟨⟩ G (a8.e X b);have C11:=@Mp l.prog w K f base ⟨⟩ G (a11.e X b);have C12:=@MS l.prog w K f base ⟨⟩ (a12.e X b);have C16:=@Oe l.prog w K f base ⟨⟩ G (a16.e X b);have C17:=@Ml l.prog w K f base ⟨⟩ G (a17.e X b);have C20:=@Rw l.prog w K f base ⟨⟩ (a20.e X b);have C22:=@Ic l.prog w K f base ⟨⟩ (a22.e X b);have y:=@Iw l.prog w K f base ⟨⟩ G (a23.e X b);have C24:=@Og l.prog w K f base ⟨⟩ G (a24.e X b);have C25:=@IW l.prog w K f base ⟨⟩ G (a25.e X b);have x:=@RU l.prog w K f base ⟨⟩ G (a31.e X b);have L:=@MG l.prog w K f base ⟨⟩ G (a32.e X b);have J:=@Zaa l.prog w K f base ⟨⟩ (a33.e X b);have C36:=@HE l.prog w K f base ⟨⟩ (a36.e X b);have H:=@IX l.prog w K f base ⟨⟩ (a37.e X b);have C42:=@Oo l.prog w K f base ⟨⟩ G (a42.e X b);have C43:=@RA l.prog w K f base ⟨⟩ G (a43.e X b);have C44:=@RC l.prog w K f base G (a44.e X b);have C1:=LG ⟨⟩ G (XQ A) (a1.e X b);have C9:=Zdg ⟨⟩ C3 C4 C5 C8 (a9.e X b);have C10:=RG ⟨⟩ (XQ A) (a10.e X b);have C13:=Zc8 ⟨⟩ G C12 (a13.e X b);have C18:=Oz ⟨⟩ C3 C17 (a18.e X b);have N:=Zam ⟨⟩ (XQ A) C20 (a21.e X b);have C26:=Zay ⟨⟩ G y (a26.e X b);have C27:=RY ⟨⟩ G y (a27.e X b);have u:=MQ ⟨⟩ x J (a34.e X b);have C35:=Hf ⟨⟩ x J (a35.e X b);have C40:=II ⟨⟩ G L (a40.e X b);have C41:=Lr ⟨⟩ G L (a41.e X b);have C45:=Hx ⟨⟩ C43 (a45.e X b);have C2:=Zbp ⟨⟩ C1 (a2.e X b);have C7:=Zb7 ⟨⟩ C3 C4 C5 C6 C1 (a7.e X b);have T:=RL ⟨⟩ G C13 (a14.e X b);have C19:=Lh ⟨⟩ G C16 C18 (a19.e X b);have M:=LN ⟨⟩ G (XQ A) C22 C24 C26 (a28.e X b);have C38:=Rj ⟨⟩ G H u (a38.e X b);have C39:=Zc9 ⟨⟩ G H u (a39.e X b);have Q:=Zcw ⟨⟩ (XQ A) T (a15.e X b);have C29:=Za1 ⟨⟩ G N M Q (a29.e X b);have C30:=L3 ⟨⟩ G (XQ A) y C25 N C27 M Q (a30.e X b);have C46:=Ow ⟨⟩ (XQ A) C11 C9 C10 C2 C7 T C19 C29 C30 (a46.e X b);have C47:=Za2 ⟨⟩ G x C36 C42 (Ob C44) u C35 C40 C41 C45 C38 C39 C46;exact(C47 fa _ U i F47 hq hC hB hg).imp λ_ _ _ _ z=>Pu.B4 z
end T
namespace PySem.W.Fast
def I:True:=⟨⟩
def tw8907500677340628092:=I
def tw6615757946836945920:=I
def tw12945181270671331328:=I
def tw11035925990815325184:=I
def tw10703075166561305632:=I
def tw14001391713592929376:=I
def tw6982121249715114112:=I
def tw1742077018595315872:=I
def tw7400331402044241280:=I
def tw13755322697671355840:=I
def tw3753368810030936512:=I
def tw9706347523157682624:=I
def tw16659324522154069568:=I
def tw8199949155044811360:=I
def tw8835706669024542304:=I
def tw15234964266232950400:=I
def tw3164642108507503232:=I
def tw15474535980293452416:=I
def tw16598993525849758368:=I
def tw9159394015605301120:=I
def tw17192191022540754848:=I
def tw1342694963230157857:=I
def tw18157125572010437857:=I
def tw12100461409221222689:=I
def tw8599326832720668001:=I
def tw17049255823658200545:=I
def tw1938628503459320321:=I
def tw12220506575690823201:=I
def tw18218498730049404609:=I
def tw5601384721970791361:=I
def tw15475614357618654145:=I
def tw1556817362784476129:=I
def tw6736176958474684418:=I
def tw13038864240434615458:=I
def tw11169237079471815010:=I
def tw8666133396884623746:=I
def tw12055537709885241826:=I
def tw17432402329604986370:=I
def tw12662610553185221282:=I
def tw18395613143552161442:=I
def tw9955077269378492162:=I
def tw13064146778203179842:=I
def tw8041581929298605922:=I
def tw12804766925804881890:=I
def tw8821547923312310242:=I
def tw13689621280922864707:=I
def tw14408804668337298499:=I
def tw7729859360879326403:=I
def tw15737170403612741891:=I
def tw2150570592723945763:=I
def tw15394192664420120931:=I
def tw1489624769020232195:=I
def tw1742795361689119235:=I
def tw16465980387210543779:=I
def tw5025702233413249827:=I
def tw18124610474372492195:=I
def tw2246447316656960451:=I
def tw6878239683859968995:=I
def tw1185935209410694148:=I
def tw6856977936319822916:=I
def tw11301672225131548836:=I
def tw199222404897350980:=I
def tw16388148180811921924:=I
def tw15602819643970371076:=I
def tw4697967949805595236:=I
def tw10552707573417887396:=I
def tw12735411459258373892:=I
def tw990269694720956260:=I
def tw5423318143276814308:=I
def tw9657892003871113221:=I
def tw230737746590444581:=I
def tw2773102396290088037:=I
def tw5849600559589573925:=I
def tw15365070889605527845:=I
def tw5148318041019528645:=I
def tw17197702083804706277:=I
def tw10199079746200861221:=I
def tw12438545280140720709:=I
def tw12201037860548963973:=I
def tw14336671005237648037:=I
def tw1128856836773459813:=I
def tw14853588102101982149:=I
def tw17839256977040976006:=I
def tw17329200098683021542:=I
def tw17236408485784888646:=I
def tw13698043996014494054:=I
def tw9295249923042994598:=I
def tw1828279338561536454:=I
def tw2852793601941558726:=I
def tw16661214822598850374:=I
def tw10334715560365392870:=I
def tw1334816905720709094:=I
def tw11042404911610941414:=I
def tw12012707554642628679:=I
def tw13706012438859537479:=I
def tw16051492628075029735:=I
def tw14157747195862579495:=I
def tw15943697054283735399:=I
def tw15759583672178421159:=I
def tw3615515280276365799:=I
def tw15932010030942212583:=I
def tw6139342498036959751:=I
def tw2053814729753435783:=I
def tw3135179945820263207:=I
def tw15406335625702479815:=I
def tw14874348995293376616:=I
def tw14410472365615423720:=I
def tw1300280476626938248:=I
def tw16492953060255420840:=I
def tw12198669643646974568:=I
def tw12728892417409311528:=I
def tw7296810638895657993:=I
def tw6167563043469258761:=I
def tw11320808476917492777:=I
def tw4865337538256454825:=I
def tw16709848813632393513:=I
def tw1830181353816922441:=I
def tw17813367868715205001:=I
def tw13179639896342241769:=I
def tw6539367118850491945:=I
def tw13673983766102513225:=I
def tw7375227799492410985:=I
def tw2898829058746174121:=I
def tw12128732021451238089:=I
def tw15784692442331585257:=I
def tw8466368187138549545:=I
def tw6393382918278802281:=I
def tw3382782638266994762:=I
def tw6087463737733299306:=I
def tw409225812769603818:=I
def tw4134489004154096970:=I
def tw13586753874809226634:=I
def tw18263839511320488330:=I
def tw8934483017762772394:=I
def tw14000241612252309994:=I
def tw6010324181930674698:=I
def tw3001676545766861450:=I
def tw12291814761566111594:=I
def tw17017600855765428138:=I
def tw218428240030520395:=I
def tw16088856732202315883:=I
def tw12954574340631879819:=I
def tw17295398697019577515:=I
def tw5234657974782906539:=I
def tw7882570616043001067:=I
def tw5258577028077758827:=I
def tw2662063633702359627:=I
def tw12007040419231567531:=I
def tw5483083232379411179:=I
def tw10103051489078714123:=I
def tw10658382882550234987:=I
def tw700357702490612587:=I
def tw8945753195601724428:=I
def tw10732337400545164300:=I
def tw2844542825344182316:=I
def tw11978356503639018636:=I
def tw17116828992642058476:=I
def tw2373437508523837676:=I
def tw9809358357853230348:=I
def tw6309300903602472332:=I
def tw5043304636268458412:=I
def tw545901146779171276:=I
def tw7505481999554789100:=I
def tw11124120094391171852:=I
def tw17514137284865351500:=I
def tw9965727268526356332:=I
def tw6100725413212351404:=I
def tw34379192885845964:=I
def tw7691440071722354636:=I
def tw7635460760326684749:=I
def tw10703823950714976365:=I
def tw7723247214153265261:=I
def tw2470562620525412557:=I
def tw130950353495606669:=I
def tw13507849950379409869:=I
def tw13200597909546985965:=I
def tw15852101840708477453:=I
def tw15367028486106426893:=I
def tw15862093103179281965:=I
def tw76223597957883501:=I
def tw294581266325456493:=I
def tw8100934512268700269:=I
def tw12679142785503070925:=I
def tw16807766188485004013:=I
def tw12300650858938738541:=I
def tw15953338119387847661:=I
def tw5391966771185731694:=I
def tw6621482578961186990:=I
def tw8671042743281814734:=I
def tw5087878858859576526:=I
def tw14737271508271455566:=I
def tw13605652723292762478:=I
def tw10944562741001121198:=I
def tw6721492310500343342:=I
def tw9551079493619231374:=I
def tw886534142609278670:=I
def tw12627810964018331374:=I
def tw12325204345453909806:=I
def tw3236874071810597903:=I
def tw13428736401926636687:=I
def tw1529475734853043375:=I
def tw17879870092058073519:=I
def tw16532045668319075823:=I
def tw14906243834202290703:=I
def tw17337251508591233807:=I
def tw13695808563082938191:=I
def tw11519936415548834832:=I
def tw1811115576138612912:=I
def tw1302908765220180240:=I
def tw17732626376313871760:=I
def tw14544722984305534480:=I
def tw17227286198940151312:=I
def tw14495645620414542576:=I
def tw15197804039989487568:=I
def tw4958705873945352273:=I
def tw11621754383436391537:=I
def tw2626717724890404113:=I
def tw14808671610217372977:=I
def tw1321545959424782705:=I
def tw4505381406258634129:=I
def tw7321340431229585841:=I
def tw15258330231948275185:=I
def tw9472691462395955857:=I
def tw12654252841849151121:=I
def tw9874194659070362385:=I
def tw11991164917654171633:=I
def tw6585773245684994033:=I
def tw17016460800621598866:=I
def tw3646373626712913490:=I
def tw3192457070858428018:=I
def tw3613916418928696018:=I
def tw18178829730828564210:=I
def tw2577651384653584210:=I
def tw6327514046563111858:=I
def tw9779383053722674130:=I
def tw13059754270236542995:=I
def tw216778520179858611:=I
def tw14760166477831751923:=I
def tw14359572263477508371:=I
def tw13162254324616169971:=I
def tw14351553026435228307:=I
def tw4433865009021438867:=I
def tw8218155051163328532:=I
def tw14880563391346882580:=I
def tw6275387844927605844:=I
def tw17492473876301011028:=I
def tw14724167976152788052:=I
def tw5078751197001285748:=I
def tw6487125061873977460:=I
def tw7863942331935710324:=I
def tw7875315248769168532:=I
def tw13384568321388358836:=I
def tw8624570240820915412:=I
def tw2860506034370543924:=I
def tw8078378272134728116:=I
def tw16185374385839679924:=I
def tw15362720586636529172:=I
def tw854749305724409460:=I
def tw17525924583332965012:=I
def tw17372088950576742036:=I
def tw2524508057978184468:=I
def tw12956225609488486164:=I
def tw9770035645642234644:=I
def tw6195343450795496244:=I
def tw9897376174936817460:=I
def tw15381961675581454196:=I
def tw12432075040833062900:=I
def tw10021267989129696309:=I
def tw18259320000042647637:=I
def tw15149267728645489781:=I
def tw5297928011344561461:=I
def tw8865933431548090741:=I
def tw11400061803636659669:=I
def tw99494717074416085:=I
def tw8518870023486837301:=I
def tw8029390425616196149:=I
def tw3422411607077584469:=I
def tw14658477216845847157:=I
def tw4146570262050705045:=I
def tw2902689146416910005:=I
def tw12555632036516343509:=I
def tw14360816962728814389:=I
def tw9094192001310285749:=I
def tw7198391362717749270:=I
def tw15867514178438886422:=I
def tw1743068985928851670:=I
def tw14244082781730751894:=I
def tw12631300701638439350:=I
def tw8142258454964175382:=I
def tw18372825384731340342:=I
def tw7175496508714631766:=I
def tw14287047821250152022:=I
def tw2284819512858429046:=I
def tw15712040885128119030:=I
def tw13818352887141984054:=I
def tw8088332643941728118:=I
def tw10631589965738133398:=I
def tw7966591460298005494:=I
def tw9994436430194297846:=I
def tw7863633631164344631:=I
def tw3526781625364041047:=I
def tw4793493197437699447:=I
def tw2549700271876994551:=I
def tw6553127468184948311:=I
def tw1145053580884046615:=I
def tw15914320643346947895:=I
def tw3604934006974537687:=I
def tw15043015966577343608:=I
def tw17154719399238304952:=I
def tw4025718652686939320:=I
def tw12180859363951092984:=I
def tw11996284230570724600:=I
def tw9853655093176965592:=I
def tw11967956792000962040:=I
def tw4978795809223105080:=I
def tw1994377598765198936:=I
def tw13376128382469125080:=I
def tw14217191071653169177:=I
def tw1101828735482344473:=I
def tw15674093593524066329:=I
def tw17935732614645273689:=I
def tw17616547370378481785:=I
def tw12900980258574809273:=I
def tw12459104530411105529:=I
def tw13677381852505171321:=I
def tw15265641474310263193:=I
def tw195145093818894777:=I
def tw6032457083325115865:=I
def tw14820947530738103769:=I
def tw12045078148930206233:=I
def tw7489124679724041242:=I
def tw10831440750724610106:=I
def tw13473031980120040570:=I
def tw11160729305245694138:=I
def tw15115695320331094266:=I
def tw11328423813681240442:=I
def tw17632607163804891546:=I
def tw1568207609401119162:=I
def tw14669977390780659194:=I
def tw14829848666989832762:=I
def tw10624264860723885626:=I
def tw9474875900159502970:=I
def tw13957973000383429274:=I
def tw257288168521339578:=I
def tw4297524030823244570:=I
def tw11523757835074672442:=I
def tw9542053720638288698:=I
def tw6185286358643880794:=I
def tw3538968559534474106:=I
def tw3925168884826583930:=I
def tw6359556879804903418:=I
def tw1801260743038058490:=I
def tw17169676939174874171:=I
def tw9060032315378673723:=I
def tw305999386972899419:=I
def tw5055079366979998811:=I
def tw7856832877912892571:=I
def tw9875461348754934235:=I
def tw2865878212552098363:=I
def tw13244305537234218715:=I
def tw1937579432662498107:=I
def tw2102401341166675803:=I
def tw14962645100883949531:=I
def tw3083605546030462939:=I
def tw4457272517802169436:=I
def tw11130655942496964796:=I
def tw16481978096791941500:=I
def tw1010902619138912668:=I
def tw14366765808953040348:=I
def tw12469215968479996444:=I
def tw7788757291929026108:=I
def tw6080279053342167612:=I
def tw12607339404863856284:=I
def tw10222435910629896956:=I
def tw15645035692836086524:=I
def tw17401909909199609628:=I
def tw3121698262785781596:=I
def tw6009305365815003004:=I
def tw13184635957332922397:=I
def tw17820944188262551613:=I
def tw7336375430308317309:=I
def tw6821122393403529501:=I
def tw12506743147799678269:=I
def tw3610941925201239453:=I
def tw17951273736504119805:=I
def tw3079665402559668765:=I
def tw5837167677829857853:=I
def tw14031959010878540477:=I
def tw931807532203807453:=I
def tw9173783778220300029:=I
def tw9625530970189851389:=I
def tw3345964157999935293:=I
def tw3502166632969507709:=I
def tw16896053950061466589:=I
def tw4578899184329710654:=I
def tw17983128115182584958:=I
def tw17901575714946747550:=I
def tw1238649701375402142:=I
def tw8874246334307843262:=I
def tw6115752931050520926:=I
def tw2213399809994461950:=I
def tw2840263224564430911:=I
def tw3051255822930792703:=I
def tw1808046312919241023:=I
def tw16940231795310189919:=I
def tw15701476577102660991:=I
def tw426150719583116703:=I
def tw10484031947317678527:=I
def tw3479530927808731583:=I
def tw485826902351741407:=I
def tw11766782988415739455:=I
def tw8632972768330386079:=I
def tw4881467875424582431:=I
def tw18199219476117101407:=I
def tw13343996313275360127:=I
def tw644646745545215935:=I
def tw9720724701614788575:=I
def tw2007201230474493951:=I
def tw11249745370974190591:=I
end PySem.W.Fast
open PySem PySem.W PyProof.Rows
set_option maxRecDepth 100000 in
set_option maxHeartbeats 0 in
theorem PySem.Challenge.cw_stripmeld_k20_new_lists_holds : PySem.Challenge.rw_stripmeld_k20_new_lists.Holds := by
 w_on;o_law;k_head;(case hw=>w_witness2)
 k_fill
 refine Lam.Ro (l:=PySem.Challenge.rw_stripmeld_k20_new_lists) (n:=63) (k:=7) (x:="_law_script") (sp:=Pu.NO) rfl (by decide) rfl ⟨rfl,by decide,by decide,rfl⟩ (fun w h Y=>PySem.W.km_in_of Y) (fun w h Y=>PySem.W.km_tabs_of Y _ Wb) ?F ?S
 case F=>
  intro w mg fa h KX G hmg
  refine' T.RT KX G hmg ?a0 ?a1 ?a2 ?a3 ?a4 ?a5 ?a6 ?a7 ?a8 ?a9 ?a10 ?a11 ?a12 ?a13 ?a14 ?a15 ?a16 ?a17 ?a18 ?a19 ?a20 ?a21 ?a22 ?a23 ?a24 ?a25 ?a26 ?a27 ?a28 ?a29 ?a30 ?a31 ?a32 ?a33 ?a34 ?a35 ?a36 ?a37 ?a38 ?a39 ?a40 ?a41 ?a42 ?a43 ?a44 ?a45 ?a46 ?a47 ?l47 ?c47 ?k47 ?VE ?VF ?VG ?VH ?VI ?VJ ?VL ?VM ?VN ?VO ?VP ?VQ ?VR ?VS ?VT ?VU ?VC ?VD ?hq ?hPK ?hPC
  (case a0|a1|a2|a3|a4|a5|a6|a7|a8|a9|a10|a11|a12|a13|a14|a15|a16|a17|a18|a19|a20|a21|a22|a23|a24|a25|a26|a27|a28|a29|a30|a31|a32|a33|a34|a35|a36|a37|a38|a39|a40|a41|a42|a43|a44|a45|a46=>apply Pu.di<;>k_is)
  (case a47|l47|c47|k47|VE|VF|VG|VH|VI|VJ|VL|VM|VN|VO|VP|VQ|VR|VS|VT|VU=>k_is)
  (case VC|VD=>apply Pu.ei<;>first|(k_is;done)|k_exc)
  (case hq=>exact rfl)
  (case hPK|hPC=>kernel_rfl)
 case S=>exact fun K H a ns hl hO hS=>⟨a,ns,rfl,hS,fun _=>rfl⟩
