import PyProof.Rows.All
import Wide.All
import OpenK.AllK
import Wide.FinOn
import Lean
import PyProof.EqAt
import PyProof.EqKinds
import PyProof.TupleCall
import PySem.Challenge.RW_stripmeld_k31_named_orders
set_option Elab.async false
set_option linter.all false
set_option compiler.extract_closed false
set_option genSizeOf false
set_option maxRecDepth 100000
def bu_0(h:True:=by rfl):True:=h
def au_0:Lean.Syntax:=bu_0._auto_1
def bu_1(h:True:=by decide):True:=h
def au_1:Lean.Syntax:=bu_1._auto_1
def bu_2(h:True:=by first | exact .inl rfl | exact .inr rfl | assumption):True:=h
def au_2:Lean.Syntax:=bu_2._auto_1
def bu_3(h:True:=by intro _; rfl):True:=h
def au_3:Lean.Syntax:=bu_3._auto_1
def bu_4(h:True:=by first | exact Or.inl rfl | exact Or.inr (Or.inl rfl) | exact Or.inr (Or.inr rfl)):True:=h
def au_4:Lean.Syntax:=bu_4._auto_1
def bu_5(h:True:=by decide +kernel):True:=h
def au_5:Lean.Syntax:=bu_5._auto_1
def bu_6(h:True:=by first | exact Or.inl rfl | exact Or.inr rfl):True:=h
def au_6:Lean.Syntax:=bu_6._auto_1
def bu_7(h:True:=by intro _ _; rfl):True:=h
def au_7:Lean.Syntax:=bu_7._auto_1
def bu_8(h:True:=by kernel_rfl):True:=h
def au_8:Lean.Syntax:=bu_8._auto_1
def bu_9(h:True:=by intro _; first | exact Or.inl rfl | exact Or.inr (Or.inl rfl) | exact Or.inr (Or.inr rfl)):True:=h
def au_9:Lean.Syntax:=bu_9._auto_1
def bu_10(h:True:=by intro _; exact ⟨rfl, rfl, rfl⟩):True:=h
def au_10:Lean.Syntax:=bu_10._auto_1
def bu_11(h:True:=by with_unfolding_all rfl):True:=h
def au_11:Lean.Syntax:=bu_11._auto_1
def bu_12(h:True:=by intro _; first | exact Or.inl rfl | exact Or.inr rfl):True:=h
def au_12:Lean.Syntax:=bu_12._auto_1
def bu_13(h:True:=by intro _; first | exact .inl rfl | exact .inr rfl | assumption):True:=h
def au_13:Lean.Syntax:=bu_13._auto_1
def bu_14(h:True:=by intro _; kernel_rfl):True:=h
def au_14:Lean.Syntax:=bu_14._auto_1
open PySem PySem.Spec PyProof.Rows
noncomputable section
def Wa:=@PySem.wpAny_bind
def Wb:=@List.getElem?_eq_getElem
def Wc:=@List.length_map
def Wd:=@PySem.Heap.get?_push_of_some
def We:=@PySem.wpAny_pure
def Wf:=@if_neg
def Wg:=@List.mem_singleton
def Wh:=@decide_eq_true
def Wi:=@PySem.Heap.lt_size
def Wj:=@if_pos
def Wk:=@Nat.le_refl
def Wl:=@List.getD_eq_getElem?_getD
def Wm:=@of_decide_eq_true
def Wn:=@PySem.Heap.get?_push_size
def Wo:=@List.mem_cons
def Wp:=@Option.some.inj
def Wq:=@List.getElem?_map
def Wr:=@List.mem_cons_of_mem
def Ws:=@decide_eq_false
def Wt:=@Nat.le_trans
def Wu:=@Nat.ne_of_lt
def Wv:=@Nat.lt_of_lt_of_le
def Ww:=@Bool.false_ne_true
def Wx:=@List.length_append
def Wy:=@List.mem_append_right
def Wz:=@List.mem_cons_self
def W1:=@Bool.and_eq_true
def W2:=@List.append_nil
def W3:=@PySem.W.mg_of
def W4:=@List.all_eq_true
def W5:=@List.size_toArray
def W6:=@List.mem_map
def W7:=@List.map_cons
def W8:=@PySem.W.mg_none_of
def W9:=@List.getElem_mem
def WA:=@congrArg
def WB:=@PySem.wpAny_mono
def WC:=@List.map_append
def WD:=@PySem.F.plainAttrs_list
def WE:=@List.mem_of_getElem?
def WG:=@PySem.PassesOwn.never
def WH:=@PySem.Heap.get?_update_other
def WI:=@List.getElem?_eq_some_iff
def WJ:=@Array.getElem?_eq_getElem
def WK:=@Int.toNat_natCast
def WL:=@PySem.Heap.get?_update_self
def WM:=@PySem.W.kia_one
def WN:=@List.length_take
def WO:=@List.take_succ_eq_append_getElem
def WQ:=@List.mem_iff_getElem
def WR:=@List.map_map
def WS:=@List.filterMap_eq_map'
def WT:=@PySem.wpAny_newObj_type
def WU:=@Array.length_toList
def WV:=@List.length_set
def WW:=@List.length_cons
def WX:=@List.lookup_cons
def WY:=@PySem.Obj.data_mapFields
def WZ:=@List.mem_append
def Qa:=@PySem.Heap.SameBut.update
def Qb:=@Array.getElem?_toList
def Qc:=@List.length_filter_le
def Qd:=@List.getElem?_append_left
def Qe:=@Nat.zero_le
def Qf:=@PySem.F.slot_list_append
def Qg:=@PySem.F.type_list_append
def Qh:=@Nat.lt_irrefl
def Qi:=@List.filterMap_cons
def Qj:=@PySem.mem_of_lookup
def Qk:=@PyProof.Rows.callWith_type1
def Ql:=@Nat.le_of_eq
def Qm:=@PySem.wpAny_passesOwn
def Qn:=@List.nodup_cons
def Qo:=@List.find?_cons
def Qp:=@PySem.Obj.isFreed_of_fields
def Qq:=@PyProof.Rows.boot_isinstance
def Qr:=@List.getElem?_append_right
def Qs:=@PySem.wpAny_truthy_bool
def Qt:=@PySem.wpAny_setState_of
def Qu:=@Int.le_refl
def Qv:=@PySem.wpAny_setField
def Qw:=@PySem.codeAny_mono
def Qx:=@beq_eq_false_iff_ne
def Qy:=@PySem.F.slot_list_index
def Qz:=@List.mem_filter
def Q0:=@Bool.eq_iff_iff
def Q1:=@PySem.wpAny_Call_Name_kw
def Q2:=@PySem.codeAny_builtin
def Q3:=@Int.emod_lt_of_pos
def Q4:=@Nat.le_succ
def Q5:=@PySem.F.plainAttrs_str
def Q6:=@List.getElem_take
def Q7:=@List.mem_range
def Q8:=@Nat.lt_trans
def Q9:=@List.getElem?_eq_none
def QA:=@List.filterMap_append
def QB:=@List.mem_append_left
def QC:=@PySem.Around.under_plainId
def QD:=@PySem.wpAny_call_entry
def QE:=@List.take_length
def QF:=@PySem.W.KT.empty_app
def QG:=@List.any_cons
def QH:=@Bool.true_and
def QI:=@Array.getElem?_eq_some_iff
def QJ:=@List.drop_eq_getElem_cons
def QK:=@Int.emod_nonneg
def QL:=@Nat.le_of_lt
def QM:=@PySem.W.callWith_K
def QN:=@Nat.lt_of_le_of_lt
def QO:=@PyProof.Rows.F.entry_set_update_loop
def QP:=@PyProof.Rows.F.plain_set_update_loop
def QR:=@List.idxOf_lt_length_iff
def QS:=@Int.add_zero
def QT:=@PySem.Heap.size_push
def QU:=@List.getElem?_replicate
def QV:=@PySem.F.type_list_index
def QW:=@PySem.fits_of_scanBound
def QX:=@Nat.lt_succ_of_lt
def QY:=@List.append_assoc
def QZ:=@Array.getElem?_eq_none
def Va:=@PySem.StrLaws.join_length_le
def Vb:=@List.all_cons
def Vc:=@PySem.wpAny_holding
def Vd:=@Nat.lt_succ_self
def Ve:=@List.not_mem_nil
def Vf:=@Nat.succ_le_succ
def Vg:=@PySem.W.methodCall_KW
def Vh:=@PySem.F.slot_str_join
def Vi:=@PySem.F.type_str_join
def Vj:=@PySem.Heap.get?_none_of_le
def Vk:=@List.getElem?_set_ne
def Vl:=@PySem.wpAny_execs_nil
def Vm:=@Nat.ne_of_gt
def Vn:=@PySem.call_meets
def Vo:=@Option.map_some
def Vp:=@Nat.not_lt
def Vq:=@List.isPerm_iff
def Vr:=@PySem.W.plainGet_of
def Vs:=@PySem.length_partsBetween
def Vt:=@ne_true_of_eq_false
def Vu:=@Nat.add_le_add
def Vv:=@List.mem_filterMap
def Vw:=@List.getElem_idxOf
def Vx:=@List.take_sublist
def Vy:=@Option.isSome_map
def Vz:=@List.nodup_append
def V0:=@List.ext_getElem?
def V1:=@decide_eq_true_eq
def V2:=@List.drop_length
abbrev Yb:=List (Int×Int)
abbrev Yc:=List Int
abbrev Yd:=List (PySem.Addr×PySem.Obj)
abbrev Ye:=PySem.Str->Option PySem.Value
abbrev Yf:=PySem.Value->PySem.Shared->Prop
abbrev Yg:=List (Option Nat)
abbrev Yh:=List Nat
abbrev Yi:=List PySem.Value
abbrev Yj:=List PySem.Str
abbrev Yk:=List PySem.Expr
abbrev Yl:=List PySem.Stmt
abbrev Ym:=Option PySem.Value
abbrev Yn:=Option PySem.Addr
abbrev Yo:=Array PySem.Value
abbrev Yp:=List (PySem.Str×PySem.Addr)
abbrev Yq:=Array (Int×PySem.Value)
abbrev Ya:=PySem.W.Frag
namespace L2
abbrev Key:=Sum Int Str
noncomputable def Pb:Key->Value->Bool
 | .inl k,v=>Value.isInt k v
 | .inr x,v=>Value.isStrOf x v
noncomputable def Zaq(w:World):Key->Int
 | .inl k=>hashInt k
 | .inr x=>hashStr w x
def XW:∀{k}{v:Value},Pb k v=true->(∃i t,k=Sum.inl i/\v=Value.int i t)\/(∃x t,k=Sum.inr x/\v=Value.str x t)
 | .inl i,v,h=>by
  obtain⟨t,e⟩:=Value.isInt_shape h
  grind
 | .inr x,v,h=>by
  obtain⟨t,e⟩:=Value.isStrOf_shape h
  grind
def Zan(i:Int)(t:Tok):Pb (.inl i) (.int i t)=true:=by simp[Pb,Value.isInt]
def RV(x:Str)(t:Tok):Pb (.inr x) (.str x t)=true:=by simp[Pb,Value.isStrOf]
def Zb4(a b:Int):decide ((Sum.inl a:Key)=Sum.inl b)=(a==b):=by grind
def IM(a b:Str):decide ((Sum.inr a:Key)=Sum.inr b)=decide (a=b):=by simp
def GV(a:Int)(b:Str):decide ((Sum.inl a:Key)=Sum.inr b)=false:=Ws (λq=>nomatch q)
def Hl(a:Str)(b:Int):decide ((Sum.inr a:Key)=Sum.inl b)=false:=Ws (λq=>nomatch q)
noncomputable def Xq(prog:Program)(w:World):PySem.KeyKind prog w Key where
 is:=Pb
 hash:=Zaq w
 inj:=λv a b ha hb=>by
  rcases XW ha with⟨i,t,rfl,rfl⟩|⟨x,t,rfl,rfl⟩
  ·rcases XW hb with⟨j,u,rfl,e⟩|⟨y,u,rfl,e⟩
   ·injection e with e1 _;rw[e1]
   ·exact nomatch e
  ·rcases XW hb with⟨j,u,rfl,e⟩|⟨y,u,rfl,e⟩
   ·exact nomatch e
   ·injection e with e1 _;rw[e1]
 byValue:=λk v h=>by
  rcases XW h with⟨i,t,rfl,rfl⟩|⟨x,t,rfl,rfl⟩<;>rfl
 pyHash:=λhv h=>by
  rcases XW hv with⟨i,t,rfl,rfl⟩|⟨x,t,rfl,rfl⟩
  ·exact wpAny_pyHash_int h
  ·exact wpAny_pyHash_str h
 eqBool:=λhu hv h=>by
  rcases XW hu with⟨i,t,rfl,rfl⟩|⟨x,t,rfl,rfl⟩
  ·rcases XW hv with⟨j,u,rfl,rfl⟩|⟨y,u,rfl,rfl⟩
   ·rw[Zb4]at h;exact wpAny_eqBool_int h
   ·rw[GV]at h;exact SeqAt.EqAt.int_str i t y u _ _ _ _ h
  ·rcases XW hv with⟨j,u,rfl,rfl⟩|⟨y,u,rfl,rfl⟩
   ·rw[Hl]at h;exact SeqAt.EqAt.str_int x t j u _ _ _ _ h
   ·rw[IM]at h;exact wpAny_eqBool_str h
 «strs»:=λk x t v h=>by
  rcases XW h with⟨i,u,rfl,e⟩|⟨y,u,rfl,e⟩
  ·exact nomatch e
  ·injection e with e1 _;subst e1;cases v<;>rfl
def Mp(prog:Program)(w:World)(i:Int)(t:Tok):(Xq prog w).is (.inl i) (.int i t)=true:=Zan i t
def Zbj(prog:Program)(w:World)(x:Str)(t:Tok):(Xq prog w).is (.inr x) (.str x t)=true:=RV x t
inductive V where
 |non|bl (b:Bool)|int (i:Int)|str (x:Str)|byt (b:Array UInt8)|flt (b:UInt64)|ref (a:Addr)|ty (n:String)
 deriving DecidableEq
def RelV:V->Value->Prop
 | .non,u=>u=Value.none
 | .bl b,u=>u=Value.bool b
 | .int i,u=>∃t,u=Value.int i t
 | .str x,u=>∃t,u=Value.str x t
 | .byt b,u=>∃t,u=Value.bytes b t
 | .flt b,u=>∃t,u=Value.float b t
 | .ref a,u=>u=Value.ref a
 | .ty n,u=>u=Value.type n
abbrev Vals:List V->Yi->Prop:=Paired RelV
def Vals.length (r:Vals xs us):xs.length=us.length:=Paired.length r
def Vals.get:∀{xs us}{i:Nat}{x:V},Vals xs us->xs[i]?=some x->∃u,us[i]?=some u/\RelV x u:=by
 intro l
 induction l with
 |nil=>
  intro _ i _ h e;simp at e
 |cons _ _ b=>
  intro _ i d h e;cases h with
  |cons h r=>
   cases i with
   |zero=>
    simp at e;subst e;exact⟨_,rfl,h⟩
   |succ i=>
    obtain⟨v,g,f⟩:=b r (by simpa using e);exact⟨v,by simpa using g,f⟩
theorem Vals.set (r:RelV x u):∀{xs us} i,Vals xs us->Vals (xs.set i x) (us.set i u)
 |_,_,_,.nil=>.nil
 |_,_,0,.cons _ t=>.cons r t
 |_,_,i+1,.cons q t=>.cons q (Vals.set r i t)
def Vals.append:∀{xs b}{us f:Yi},Vals xs us->Vals b f->Vals (xs++b) (us++f):=by
 intro l
 induction l with
 |nil=>
  intro _ _ _ h s;cases h
  exact s
 |cons _ _ g=>
  intro _ _ _ h s;cases h with
  |cons h r=>
   exact .cons h (g r s)
theorem Vals.take:∀{xs us} n,Vals xs us->Vals (xs.take n) (us.take n)
 |_,_,0,_|_,_,_+1,.nil=>.nil
 |_,_,n+1,.cons r t=>.cons r (Vals.take n t)
theorem Vals.drop:∀{xs us} n,Vals xs us->Vals (xs.drop n) (us.drop n)
 |_,_,0,r=>r
 |_,_,_+1,.nil=>.nil
 |_,_,n+1,.cons _ t=>Vals.drop n t
def RelO:Option V->Ym->Prop
 |some v,some u=>RelV v u
 |none,none=>True
 |_,_=>False
def KV{b:Type}:List (b×V)->List (b×Value)->Prop:=Paired λ(p:b×V) (q:b×Value)=>p.1=q.1/\RelV p.2 q.2
noncomputable def kV:Key->V
 | .inl i=>.int i
 | .inr x=>.str x
inductive HO where
 |lst (xs:List V)
 |tup (xs:List V)
 |dK (kvs:List (Key×V))|dT (kvs:List (List Key×V))
 |set (S:Int->Bool) (n:Nat)
 |ins (C dx:Addr) (fs:List (Str×V))
 |own (x:Addr)
 |xd (fs:List (Str×V))
 |met (f x:Addr)
 |rng (lo hi:Int)
 |frz (o:Obj) (u:HO)
 |tbl (ps:Yo)
 |ext (φ:Heap->Prop)
abbrev Hp:=Addr->Option HO
noncomputable def upd(H:Hp)(a:Addr)(o:HO):Hp:=λb=>if b=a then some o else H b
def Ut:upd H a o a=some o:=by unfold upd;rw[Wj rfl]
def Uj{a b o}(h:b≠a):upd H a o b=H b:=by unfold upd;rw[Wf h]
def Ow:upd (upd H a o) a u=upd H a u:=by
 funext b;unfold upd;split<;>rfl
def Og{H:Hp}{a b}{o u}(h:H a=some o)(f:H b=some u)(d:o≠u):a≠b:=by grind
def UC{H:Hp}{a b}{o}(h:H a=some o)(f:H b=none):a≠b:=by grind
section
variable (P:Program) (w:World)
def ObjOk(H:Hp)(h:Heap)(a:Addr):HO->Prop
 | .lst xs=>xs.length<=sizeLine/\∃(g:Yi) (n:Nat),Vals xs g/\h.get? a=some {cls:=.type "list",data:=.seq g.toArray n}
 | .tup xs=>xs.length<=sizeLine/\∃g:Yi,Vals xs g/\IsTup h a g.toArray
 | .dK b=>b.length<=sizeLine/\(a==sysModules)=false/\∃y,KV b y/\h.DictOf (Xq P w) a y
 | .dT b=>b.length<=sizeLine/\(a==sysModules)=false/\∃xs:List (List Key×Addr×Value),
   Paired (λ(p:List Key×V) (q:List Key×Addr×Value)=>p.1=q.1/\H q.2.1=some (.tup<|p.1.map kV)/\RelV p.2 q.2.2) b xs/\
   ∃o B J,h.get? a=some o/\o.ExactDict/\o.data=.dict B J/\B.toList=xs.map (entryOfKey<|tupleKind<|Xq P w)/\(xs.map (·.1)).Nodup
 | .set S n=>h.SetOf (intKind P w) a S n
 | .ins C r fs=>H r=some (.own a)/\fs.length<=1000/\r≠a/\h.get? a=some (PySem.W.instObj C r)/\
   ∃l,h.Ns1 r l/\(∀f,RelO (fs.lookup f) (l f))/\PySem.Within l (fs.map (·.1))
 | .own _=>∃o,h.get? a=some o
 | .xd fs=>∃l,h.Ns1 a l/\∀f,RelO (fs.lookup f) (l f)
 | .rng lo G=>∃t u v,h.get? a=some {cls:=.type "range",data:=.fields #[.int lo t,.int G u,.int 1 v]}
 | .frz o u=>h.get? a=some o/\ObjOk H h a u
 | .tbl E=>h.get? a=some {cls:=.none,data:=.fields E}
 | .met f x=>h.get? a=some (PySem.W.methodObj (.ref f)<|.ref x)
 | .ext s=>s h/\(∃o,h.get? a=some o)/\∀A z:Heap,s A->(∀o,A.get? a=some o->z.get? a=some o)->s z
def HOk(H:Hp)(h:Heap):Prop:=∀a o,H a=some o->ObjOk P w H h a o
end
section
variable {P:Program}{w:World}{H H':Hp}{h h':Heap}{a:Addr}{o:HO}
def ObjOk.lt (x:ObjOk P w H h a o):a<h.objs.size:=by
 cases o with
 |lst xs=>obtain⟨_,_,_,_,e⟩:=x;exact Wi e
 |tup xs=>obtain⟨_,_,_,p⟩:=x;exact p.lt
 |set S n=>obtain⟨o,_,_,_,e,_⟩:=x;exact Wi e
 |ins C r fs=>obtain⟨_,_,_,e,_⟩:=x;exact Wi e
 |own y=>obtain⟨_,e⟩:=x;exact Wi e
 |xd fs=>obtain⟨_,⟨_,_,_,e,_⟩,_⟩:=x;exact Wi e
 |rng lo q=>obtain⟨_,_,_,e⟩:=x;exact Wi e
 |frz l u=>obtain⟨e,_⟩:=x;exact Wi e
 |tbl g|met f y=>exact Wi x
 |ext b=>obtain⟨_,⟨_,e⟩,_⟩:=x;exact Wi e
 |_=>obtain⟨_,_,_,_,o,_,_,e,_⟩:=x;exact Wi e
def Paired.mapP:∀{l:List s}{g:List q},Paired F l g->(∀a b,F a b->G a b)->Paired G l g:=by
 intro p
 induction p with
 |nil=>
  intro _ h _;cases h
  exact .nil
 |cons _ _ n=>
  intro _ h f;cases h with
  |cons h r=>
   exact .cons (f _ _ h) (n r f)
def ObjOk.stay (x:ObjOk P w H h a o) (k:∀b u,(b=a\/H b=some (.own a))->h.get? b=some u->h'.get? b=some u)
  (Q:∀b,H b=some (.own a)->H' b=some (.own a)) (N:∀b xs,H b=some (.tup xs)->H' b=some (.tup xs)):ObjOk P w H' h' a o:=by
 induction o with
 |lst xs=>obtain⟨z,A,n,r,e⟩:=x;exact⟨z,A,n,r,k _ _ (.inl rfl) e⟩
 |tup xs=>obtain⟨z,A,r,g,e,c⟩:=x;exact⟨z,A,r,g,k _ _ (.inl rfl) e,c⟩
 |dK G=>obtain⟨z,y,J,r,g,l,s,e,c⟩:=x;exact⟨z,y,J,r,g,l,s,k _ _ (.inl rfl) e,c⟩
 |dT G=>
  obtain⟨z,y,xs,r,g,l,s,e,c⟩:=x;exact⟨z,y,xs,Paired.mapP r λp q z=>⟨z.1,N _ _ z.2.1,z.2.2⟩,g,l,s,k _ _ (.inl rfl) e,c⟩
 |set S n=>obtain⟨g,l,s,t,e,c⟩:=x;exact⟨g,l,s,t,k _ _ (.inl rfl) e,c⟩
 |ins C dx fs=>
  obtain⟨d,z,L,e,E,⟨B,l,s,T,c⟩,r⟩:=x;exact⟨Q _ d,z,L,k _ _ (.inl rfl) e,E,⟨B,l,s,k _ _ (.inr d) T,c⟩,r⟩
 |own y=>obtain⟨g,e⟩:=x;exact⟨g,k _ _ (.inl rfl) e⟩
 |xd fs=>obtain⟨E,⟨B,l,s,e,c⟩,r⟩:=x;exact⟨E,⟨B,l,s,k _ _ (.inl rfl) e,c⟩,r⟩
 |rng lo hi=>obtain⟨t,u,v,e⟩:=x;exact⟨t,u,v,k _ _ (.inl rfl) e⟩
 |frz g u M=>obtain⟨e,q⟩:=x;exact⟨k _ _ (.inl rfl) e,M q⟩
 |tbl Y=>
  have e:=x;exact k a _ (.inl rfl) e
 |met f y=>
  have e:=x;exact k a _ (.inl rfl) e
 |ext U=>obtain⟨p,⟨o,e⟩,st⟩:=x;exact⟨st _ _ p λo q=>k _ _ (.inl rfl) q,⟨o,k _ _ (.inl rfl) e⟩,st⟩
def HOk.lt (x:HOk P w H h) (e:H a=some o):a<h.objs.size:=(x a o e).lt
def HOk.fresh (x:HOk P w H h) (e:h.objs.size<=a):H a=none:=by
 cases q:H a with
 |none=>rfl
 |some u=>exact absurd (Wv (x.lt q) e) (Qh _)
def HOk.kept (x:HOk P w H h) (k:∀b u,h.get? b=some u->h'.get? b=some u):HOk P w H h':=λa o e=>
 (x a o e).stay (λb u _ q=>k b u q) (λ_ q=>q) λ_ _ q=>q
def HOk.laid (x:HOk P w H h) (k:∀b u,h.get? b=some u->h'.get? b=some u) (l:h.objs.size<=a) (new:ObjOk P w (upd H a o) h' a o):HOk P w (upd H a o) h':=λb u e=>by
 have f:=x.fresh l;by_cases g:b=a
 ·subst g;rw[Ut]at e;cases e;exact new
 ·rw[Uj g]at e;exact(x b u e).stay (λc v _ q=>k c v q) (λc q=>by rw[Uj (UC q f)];exact q) λc xs q=>by rw[Uj (UC q f)];exact q
end
def Rd(H:Hp)(a:Addr)(u:HO):Prop:=H a=some u\/∃o,H a=some (.frz o u)
def Rd.ok {H h a u} (r:Rd H a u) (x:HOk P w H h):ObjOk P w H h a u:=by
 rcases r with r|⟨o,r⟩
 ·exact x a u r
 ·obtain⟨_,q⟩:=x a _ r;lia
def Mut:Option HO->Prop
 |some (.lst _)=>True
 |some (.dK _)=>True
 |some (.dT _)=>True
 |some (.set _ _)=>True
 |some (.ins _ _ _)=>True
 |some (.ext _)=>True
 |_=>False
section
variable {P:Program}{w:World}{H:Hp}{h h':Heap}{x e:Addr}{o':HO}
def HOk.write (ok:HOk P w H h) (g:Mut (H x)) (A:e=x\/H e=some (.own x)) (k:∀b u,b≠e->h.get? b=some u->h'.get? b=some u) (l:∃u,h'.get? e=some u)
  (new:ObjOk P w (upd H x o') h' x o'):HOk P w (upd H x o') h':=λb u q=>by
 have nown:∀c y,H c=some (.own y)->c≠x:=λc y r z=>by subst z;rw[r]at g;exact g
 have ntup:∀c xs,H c=some (.tup xs)->c≠x:=λc xs r z=>by subst z;rw[r]at g;exact g
 by_cases p:b=x
 ·subst p;rw[Ut]at q;cases q;exact new
 ·rw[Uj p]at q;by_cases f:b=e
  ·have n:H b=some (.own x):=by
    rcases A with z|z
    ·grind
    ·rw[f];exact z
   rw[q]at n;cases n;obtain⟨v,s⟩:=l;exact⟨v,by rw[f];exact s⟩
  ·refine(ok b u q).stay (λc v o r=>k c v ?_ r) (λc r=>by rw[Uj (nown c b r)];exact r) λc xs r=>by rw[Uj (ntup c xs r)];exact r
   rcases o with rfl|o
   ·exact f
   ·grind
end
structure Un (fs ex:List Addr) (H H':Hp) (h h':Heap):Prop where
 keep:∀b o,h.get? b=some o->H b=none->b∉fs->b∉ex->h'.get? b=some o
 slot:∀b o,h.get? b=some o->H b=none->b∈fs->b∉ex->∃sl,h'.get? b=some {o with slots:=sl}
 free:∀b o,h.get? b=some o->H b=none->b∉ex->H' b=none
 there:∀b o,h.get? b=some o->b∉ex->∃o',h'.get? b=some o'
 tups:∀b xs,H b=some (.tup xs)->H' b=some (.tup xs)
 frzs:∀b o u,H b=some (.frz o u)->H' b=some (.frz o u)
 tbls:∀b ps,H b=some (.tbl ps)->∃more,H' b=some (.tbl (ps++more))
section
variable {fs fs' ex ex':List Addr}{H H1 H2:Hp}{h h1 h2 h':Heap}{a x e:Addr}{o:HO}
def Un.any (u:Un fs ex H H1 h h1) {b f} (q:h.get? b=some f) (n:H b=none) (hx:b∉ex):∃sl,h1.get? b=some {f with slots:=sl}:=by
 by_cases g:b∈fs
 ·exact u.slot b f q n g hx
 ·exact⟨f.slots,u.keep b f q n g hx⟩
def Un.kept (k:∀b u,h.get? b=some u->h'.get? b=some u):Un fs ex H H h h':=
 ⟨λb f q _ _ _=>k b f q,λb f q _ _ _=>⟨f.slots,k b f q⟩,λ_ _ _ n _=>n,λb f q _=>⟨f,k b f q⟩,λ_ _ q=>q,λ_ _ _ q=>q,λ_ g q=>⟨#[],by rw[q];simp⟩⟩
def Un.refl:Un fs ex H H h h:=Un.kept λ_ _ q=>q
def Un.laid (k:∀b u,h.get? b=some u->h'.get? b=some u) (hp:h.objs.size<=a) (hn:H a=none):Un fs ex H (upd H a o) h h' where
 keep:=λb u q _ _ _=>k b u q
 slot:=λb u q _ _ _=>⟨u.slots,k b u q⟩
 free:=λb u q n _=>by rw[Uj (Wu<|Wv (Wi q) hp)];exact n
 there:=λb u q _=>⟨u,k b u q⟩
 tups:=λb xs q=>by rw[Uj (UC q hn)];exact q
 frzs:=λb u xs q=>by rw[Uj (UC q hn)];exact q
 tbls:=λb ps q=>⟨#[],by rw[Uj (UC q hn),q];simp⟩
def Un.write (f:Mut (H x)) (v:e=x\/H e=some (.own x)) (k:∀b u,b≠e->h.get? b=some u->h'.get? b=some u) (s:∃u,h'.get? e=some u):Un fs ex H (upd H x o) h h':=by
 have hx:∀b,H b=none->b≠x:=λb n z=>by subst z;rw[n]at f;exact f
 have l:∀b,H b=none->b≠e:=λb n z=>by
  rcases v with r|r
  ·grind
  ·grind
 have g:∀b u,H b=some u->¬Mut (some u)->b≠x:=λb u q p z=>by subst z;rw[q]at f;exact p f
 refine⟨λb u q n _ _=>k b u (l b n) q,λb u q n _ _=>⟨u.slots,k b u (l b n) q⟩,λb u q n _=>by rw[Uj (hx b n)];exact n,λb u q _=>?_,
  λb xs q=>by rw[Uj (g b _ q λz=>z)];exact q,λb u xs q=>by rw[Uj (g b _ q λz=>z)];exact q,λb y q=>⟨#[],by rw[Uj (g b _ q λz=>z),q];simp⟩⟩
 by_cases w:b=e
 ·grind
 ·grind
end
noncomputable def trk(h:Heap)(H:Hp):List Addr:=(List.range h.objs.size).filter λa=>(H a).isSome
noncomputable def Ko(h:Heap)(H:Hp):Heap:=PySem.W.hideAll h (trk h H)
def Ro(h:Heap)(H:Hp):(Ko h H).objs.size=h.objs.size:=PySem.W.hideAll_size _ _
def OF{H b o}(e:h.get? b=some o)(n:H b=none):(Ko h H).get? b=some o:=
 PySem.W.hideAll_get _ e λf=>by
  have q:=(Qz.mp f).2
  grind
def R4(e:(Ko h H).get? b=some o):h.get? b=some o/\H b=none:=by
 have f:=PySem.W.of_hideAll (trk h H) e;refine⟨f,?_⟩;cases q:H b with
 |none=>rfl
 |some x=>
  have g:b∈trk h H:=Qz.mpr ⟨Q7.mpr (Wi f),by simp[q]⟩;have z:(Ko h H).get? b=none:=PySem.W.hideAll_none (trk h H) g
  grind
noncomputable def Zbh(g h:Heap)(L:Addr):Yd:=(List.range h.objs.size).filterMap λa=>if a=L\/(g.get? a).isSome=true then none else(h.get? a).map λo=>(a,o)
noncomputable def rest(g h:Heap)(L d:Addr):Yd:=(Zbh g h L).filter λp=>decide (p.1≠d)
structure Mod (K:Ya) (mg:Ye) (base:Heap):Prop where
 kin:K.In base
 glob:base.Ns mainGlobals mg
 blt:∃mb,base.Ns builtinsNs mb/\∀x:Str,x≠"__name__"->mb x=bootBuiltins x
 nolimit:base.NoLimit
structure Cx where
 prog:Program
 w:World
 K:Ya
 mg:Ye
 base:Heap
 A:Around
 N:Yj
 s₀:Shared
 H₀:Hp
 env:Env
 outer:List Env
 stack:List Env
 ex:List Addr
 fn:Str->Bool
 calm:Bool
 pn:Yd
 xe:Yf
noncomputable def frs(l:List Env):List Addr:=l.filterMap (·.frame)
noncomputable abbrev Cx.fs (X:Cx):List Addr:=frs X.outer
def Vis(b:Scope)(x:Str):Prop:=b.names.lookup x=some .local\/b.names.lookup x=some .cell\/b.names.lookup x=some .free
def Loc(b:Scope)(x:Str):Prop:=b.names.lookup x=some .local\/b.names.lookup x=some .cell
def Look(env:Env)(h:Heap)(m:Ye)(x:Str)(u:Value):Prop:=
 (env.kindOf x=some .local/\m x=some u)\/((env.kindOf x=some .cell\/env.kindOf x=some .free)/\∃c,env.cells.lookup x=some c/\h.IsCell c (some u))
structure Cx.Ok (X:Cx):Prop where
 mod:Mod X.K X.mg X.base
 kind:X.env.scope.kind=.function
 glob:X.env.globals=mainGlobals
 blt:X.env.builtins=builtinsNs
 above:X.s₀.heap.objs.size<=X.env.locals
 inj:∀x y c,X.env.cells.lookup x=some c->X.env.cells.lookup y=some c->x=y
 has:∀x,(X.env.kindOf x=some .cell\/X.env.kindOf x=some .free)->∃c,X.env.cells.lookup x=some c
 cab:∀x c,X.fn x=true->X.env.cells.lookup x=some c->X.s₀.heap.objs.size<=c
 hd:X.calm=true->X.A.handled=none
 frames:X.A.frames=some X.stack
 stk:X.stack=X.outer\/(X.stack=X.env::X.outer/\X.env.frame=some X.env.locals)
 exf:∀b∈X.ex,b≠X.env.locals/\∀x c,X.env.cells.lookup x=some c->c≠b
 bs:∀b o,X.base.get? b=some o->X.s₀.heap.get? b=some o/\X.H₀ b=none
 bsz:X.base.objs.size<=X.s₀.heap.objs.size
 noex:∀b o,X.base.get? b=some o->b∉X.ex
 exfs:∀b∈X.ex,b∉X.fs
 funs:X.s₀.heap.FunFrames X.base X.outer
 frf:∀b∈X.fs,X.H₀ b=none
structure Inv (X:Cx) (pins:Yd) (σ:List (Option V)) (H:Hp) (s:Shared):Prop where
 ok:X.Ok
 os:s.os=X.s₀.os
 bare:AllBare s.gens
 base:Un X.fs X.ex X.H₀ H X.s₀.heap s.heap
 loc:∃m,s.heap.Ns X.env.locals m/\∀(i:Nat) (x:Str) (v:V),X.N[i]?=some x->σ[i]?=some (some v)->Vis X.env.scope x->∃u,RelV v u/\Look X.env s.heap m x u
 cell:∀x c,X.env.cells.lookup x=some c->∃v,s.heap.IsCell c v
 free:H X.env.locals=none
 freeC:∀x c,X.env.cells.lookup x=some c->H c=none
 pin:∀p∈X.pn++pins,s.heap.get? p.1=some p.2/\H p.1=none/\p.1≠X.env.locals/\p.1∉X.fs/\∀v,p.2.data≠.cell v
 hok:HOk X.prog X.w H s.heap
 len:σ.length=X.N.length
section
variable {X:Cx}{pins:Yd}{σ:List (Option V)}{H H':Hp}{s:Shared}{h':Heap}
def Cx.Ok.nofr (ok:X.Ok) {b o} (e:X.base.get? b=some o):b∉X.fs:=λf=>by
 have:=(ok.funs.mem f).1
 grind
def Inv.bs (I:Inv X pins σ H s):∀b o,X.base.get? b=some o->s.heap.get? b=some o/\H b=none:=λb o e=>
 ⟨I.base.keep b o (I.ok.bs b o e).1 (I.ok.bs b o e).2 (I.ok.nofr e) (I.ok.noex b o e),I.base.free b o (I.ok.bs b o e).1 (I.ok.bs b o e).2 (I.ok.noex b o e)⟩
def Inv.bk (I:Inv X pins σ H s):∀b o,X.base.get? b=some o->s.heap.get? b=some o:=λb o e=>(I.bs b o e).1
def Inv.mod (I:Inv X pins σ H s):Mod X.K X.mg X.base:=I.ok.mod
def Inv.kIn (I:Inv X pins σ H s):X.K.In s.heap:=I.ok.mod.kin.keeps I.bk
def Inv.lt (I:Inv X pins σ H s):X.env.locals<s.heap.objs.size:=let ⟨_,b,_⟩:=I.loc;b.lt
def Inv.sz (I:Inv X pins σ H s):X.s₀.heap.objs.size<=s.heap.objs.size:=Wt I.ok.above (QL I.lt)
def Inv.nofs (I:Inv X pins σ H s) {a:Addr} (h:s.heap.objs.size<=a):a∉X.fs:=λf=>by
 obtain⟨_,o,b,_⟩:=I.ok.funs.mem f;exact absurd (Wv (Wi b)<|Wt I.sz h) (Qh _)
def Inv.cne (I:Inv X pins σ H s):∀x c,X.env.cells.lookup x=some c->c≠X.env.locals:=λx c e z=>by
 obtain⟨v,o,h,l⟩:=I.cell x c e;obtain⟨m,⟨g,n,p,b,f,_⟩,_⟩:=I.loc
 grind
def Inv.funs (I:Inv X pins σ H s):s.heap.FunFrames X.base X.outer:=by
 have all:∀l,(∀b∈frs l,b∈X.fs)->X.s₀.heap.FunFrames X.base l->s.heap.FunFrames X.base l:=by
  intro l
  induction l with
  |nil=>intro _ _;trivial
  |cons A r p=>
   intro n w;obtain⟨x,⟨L,o,f,v,u,y⟩,q⟩:=w;have h:=n L (by unfold frs;rw[Qi,f];exact Wz);obtain⟨sl,e⟩:=I.base.slot L o u (I.ok.frf L h) h λz=>I.ok.exfs L z h;exact⟨x,⟨L,_,f,v,e,y⟩,p (λb g=>n b (by unfold frs;rw[Qi,f];exact Wr _ g)) q⟩
 exact all X.outer (λ_ g=>g) I.ok.funs
def Inv.stack (I:Inv X pins σ H s):s.heap.FunFrames X.base X.stack:=by
 rcases I.ok.stk with e|⟨e,f⟩
 ·rw[e];exact I.funs
 ·rw[e];obtain⟨m,b,_⟩:=I.loc;refine .cons (by rw[I.ok.kind];decide) f b ?_ I.funs;exact Vj (Wt I.ok.bsz I.ok.above)
def Inv.stkSub (I:Inv X pins σ H s):∀b∈frs X.stack,b∈X.env.locals::X.fs:=λb f=>by
 rcases I.ok.stk with e|⟨e,g⟩
 ·grind
 ·rw[e]at f;unfold frs at f;rw[Qi,g]at f;trivial
def Inv.stkFree (I:Inv X pins σ H s):∀b∈frs X.stack,H b=none:=λb f=>by
 rcases Wo.mp (I.stkSub b f)with e|f
 ·rw[e];exact I.free
 ·obtain⟨_,o,g,_⟩:=I.ok.funs.mem f;exact I.base.free b o g (I.ok.frf b f) λz=>I.ok.exfs b z f
def Inv.step {d'}{ch:List Addr} (I:Inv X pins σ H s)
  (g:∀b∈ch,(b∈X.ex\/X.s₀.heap.objs.size<=b)/\b≠X.env.locals/\(∀x c,X.env.cells.lookup x=some c->c≠b)/\∀p∈X.pn++pins,p.1≠b)
  (keep:∀b o,b≠X.env.locals->b∉X.fs->b∉ch->s.heap.get? b=some o->H b=none->h'.get? b=some o)
  (slot:∀b o,b≠X.env.locals->b∈X.fs->b∉ch->s.heap.get? b=some o->H b=none->∃sl,h'.get? b=some {o with slots:=sl}) (free:∀b o,b∉ch->s.heap.get? b=some o->H b=none->H' b=none)
  (there:∀b o,b∉ch->s.heap.get? b=some o->∃o',h'.get? b=some o')
  (tups:∀b xs,H b=some (.tup xs)->H' b=some (.tup xs)) (frzs:∀b o u,H b=some (.frz o u)->H' b=some (.frz o u)) (tbls:∀b ps,H b=some (.tbl ps)->∃more,H' b=some (.tbl (ps++more)))
  (ns:∀m,s.heap.Ns X.env.locals m->h'.Ns X.env.locals m) (J:HOk X.prog X.w H' h') (hg:AllBare g') :
  Inv X pins σ H' {s with heap:=h',gens:=g',drawn:=d',toks:=t'}:=by
 have B:∀b o,X.s₀.heap.get? b=some o->b≠X.env.locals:=λb o e=>Wu (Wv (Wi e) I.ok.above)
 have f:∀b o,X.s₀.heap.get? b=some o->b∉X.ex->b∉ch:=λb o e hx y=>by
  rcases(g b y).1 with z|z
  ·exact hx z
  ·exact absurd (Wv (Wi e) z) (Qh _)
 have cellK:∀x c,X.env.cells.lookup x=some c->∀v,s.heap.IsCell c v->h'.IsCell c v:=λx c e v ⟨o,A,L⟩=>by
  have C:=λz=>(g c z).2.2.1 x c e rfl;by_cases M:c∈X.fs
  ·obtain⟨sl,q⟩:=slot c o (I.cne x c e) M C A (I.freeC x c e);exact⟨_,q,L⟩
  ·exact⟨o,keep c o (I.cne x c e) M C A (I.freeC x c e),L⟩
 refine⟨I.ok,I.os,hg,⟨λb o e n y hx=>?_,λb o e n y hx=>?_,λb o e n hx=>?_,λb o e hx=>?_,λb xs e=>tups b xs (I.base.tups b xs e),λb o xs e=>frzs b o xs (I.base.frzs b o xs e),λb ps e=>?_⟩,?_,λx c e=>?_,?_,λx c e=>?_,λp T=>?_,J,I.len⟩
 ·exact keep b o (B b o e) y (f b o e hx) (I.base.keep b o e n y hx) (I.base.free b o e n hx)
 ·obtain⟨sl,h⟩:=I.base.slot b o e n y hx;obtain⟨G,E⟩:=slot b _ (B b o e) y (f b o e hx) h (I.base.free b o e n hx);exact⟨G,E⟩
 ·obtain⟨o',h⟩:=I.base.there b o e hx;exact free b o' (f b o e hx) h (I.base.free b o e n hx)
 ·obtain⟨o',h⟩:=I.base.there b o e hx;exact there b o' (f b o e hx) h
 ·obtain⟨Q,h⟩:=I.base.tbls b ps e;obtain⟨N,E⟩:=tbls b _ h;exact⟨Q++N,by rw[E,Array.append_assoc]⟩
 ·obtain⟨m,U,Y⟩:=I.loc;refine⟨m,ns m U,λi x v h E e3=>?_⟩;obtain⟨u,r,l⟩:=Y i x v h E e3;refine⟨u,r,?_⟩;rcases l with l|⟨k,c,e,z⟩
  ·exact .inl l
  ·exact .inr ⟨k,c,e,cellK x c e _ z⟩
 ·obtain⟨v,z⟩:=I.cell x c e;exact⟨v,cellK x c e v z⟩
 ·obtain⟨m,⟨o,_,_,A,_⟩,_⟩:=I.loc;exact free _ o (λz=>(g _ z).2.1 rfl) A I.free
 ·obtain⟨v,o,A,L⟩:=I.cell x c e;exact free c o (λz=>(g c z).2.2.1 x c e rfl) A (I.freeC x c e)
 ·obtain⟨e,n,ne,nf,d⟩:=I.pin p T
  grind
def Inv.un (I:Inv X pins σ H s) (u:Un X.fs [] H H' s.heap h') (g:HOk X.prog X.w H' h'):Inv X pins σ H' {s with heap:=h',toks:=t'}:=by
 obtain⟨m,⟨o,C,E,q,r⟩,_⟩:=id I.loc;obtain⟨sl,y⟩:=u.any q I.free (by simp)
 exact I.step (ch:=[]) (λ_ z=>nomatch z) (λb o _ h _ e n=>u.keep b o e n h (by simp)) (λb o _ h _ e n=>u.slot b o e n h (by simp)) (λb o _ e n=>u.free b o e n (by simp)) (λb o _ e=>u.there b o e (by simp)) u.tups u.frzs u.tbls (λB x=>by
  obtain⟨A,l,p,f,v⟩:=x;rw[q]at f;cases f;exact⟨_,l,p,y,v⟩) g I.bare
def Inv.call {d'}{ch} (I:Inv X pins σ H s) (u:Un (frs X.stack) ch H H' s.heap h') (l:HOk X.prog X.w H' h') (E:AllBare J)
  (h:∀b∈ch,(b∈X.ex\/X.s₀.heap.objs.size<=b)/\b≠X.env.locals/\(∀x c,X.env.cells.lookup x=some c->c≠b)/\∀p∈X.pn++pins,p.1≠b) :
  Inv X pins σ H' {s with heap:=h',gens:=J,drawn:=d',toks:=t'}:=by
 obtain⟨m,⟨o,N,Q,A,r⟩,_⟩:=id I.loc;obtain⟨sl,q⟩:=u.any A I.free λz=>(h _ z).2.1 rfl
 exact I.step h (λb o q G f e n=>u.keep b o e n (λz=>(Wo.mp<|I.stkSub b z).elim q G) f) (λb o _ _ f e n=>u.any e n f) (λb o f e n=>u.free b o e n f) (λb o f e=>u.there b o e f) u.tups u.frzs u.tbls (λM C=>by
  obtain⟨L,v,y,g,B⟩:=C;rw[A]at g;cases g;exact⟨_,v,y,q,B⟩) l E
def Inv.turned {it} (I:Inv X pins σ H s) (k:∀b o,b≠it->s.heap.get? b=some o->h'.get? b=some o) (B:H it=none) (l:it≠X.env.locals)
  (J:it∈X.ex\/X.s₀.heap.objs.size<=it) (G:∀x c,X.env.cells.lookup x=some c->c≠it) (E:∀p∈X.pn++pins,p.1≠it):Inv X pins σ H {s with heap:=h',toks:=t'}:=by
 refine I.step (ch:=[it]) (λb C=>?_) (λb o _ _ f e _=>k b o (λz=>f (by simp[z])) e) (λb o _ _ f e _=>⟨o.slots,k b o (λz=>f (by simp[z])) e⟩) (λ_ _ _ _ n=>n)
  (λb o f e=>⟨o,k b o (λz=>f (by simp[z])) e⟩) (λ_ _ e=>e) (λ_ _ _ e=>e) (λb A e=>⟨#[],by rw[e];simp⟩) (λm h=>?_) (λb u e=>?_) I.bare
 ·grind
 ·obtain⟨o,w,y,g,r⟩:=h;exact⟨o,w,y,k _ o (Ne.symm l) g,r⟩
 ·refine(I.hok b u e).stay (λc v f q=>k c v ?_ q) (λ_ q=>q) λ_ _ q=>q;rcases f with z|z
  ·grind
  ·grind
def Inv.tok (I:Inv X pins σ H s) (t:Nat):Inv X pins σ H {s with toks:=t}:=I.un Un.refl I.hok
def Inv.kept (I:Inv X pins σ H s) (k:∀b u,s.heap.get? b=some u->h'.get? b=some u):Inv X pins σ H {s with heap:=h',toks:=t'}:=I.un (Un.kept k) (I.hok.kept k)
def Inv.laid {a:Addr}{o}{t'} (I:Inv X pins σ H s) (k:∀b u,s.heap.get? b=some u->h'.get? b=some u) (f:s.heap.objs.size<=a) (new:ObjOk X.prog X.w (upd H a o) h' a o) :
  Inv X pins σ (upd H a o) {s with heap:=h',toks:=t'}:=I.un (Un.laid k f<|I.hok.fresh f) (I.hok.laid k f new)
def Inv.write (I:Inv X pins σ H s) (g:Mut (H x)) (h:e=x\/H e=some (.own x)) (k:∀b u,b≠e->s.heap.get? b=some u->h'.get? b=some u) (f:∃u,h'.get? e=some u)
  (new:ObjOk X.prog X.w (upd H x o) h' x o):Inv X pins σ (upd H x o) {s with heap:=h',toks:=t'}:=I.un (Un.write g h k f) (I.hok.write g h k f new)
def Inv.weak (I:Inv X pins σ H s) (h:b.length=σ.length) (w:∀(i:Nat) v,b[i]?=some (some v)->σ[i]?=some (some v)):Inv X pins b H s:=
 ⟨I.ok,I.os,I.bare,I.base,let ⟨m,g,f⟩:=I.loc;⟨m,g,λi x v o n l=>f i x v o (w i v n) l⟩,I.cell,I.free,I.freeC,I.pin,I.hok,h.trans I.len⟩
def Inv.pins_of (I:Inv X pins σ H s) (h:∀p∈pins',s.heap.get? p.1=some p.2/\H p.1=none/\p.1≠X.env.locals/\p.1∉X.fs/\∀v,p.2.data≠.cell v):Inv X pins' σ H s:=
 ⟨I.ok,I.os,I.bare,I.base,I.loc,I.cell,I.free,I.freeC,λp b=>(WZ.mp b).elim (λz=>I.pin p (QB _ z)) (h p),I.hok,I.len⟩
def Sh{N:Yj}(f:N.Nodup){i j:Nat}{x}(a:N[i]?=some x)(b:N[j]?=some x):i=j:=by
 obtain⟨n,h⟩:=WI.mp a;obtain⟨l,g⟩:=WI.mp b;exact(List.getElem_inj f).mp (h.trans g.symm)
def O1{i x v u Q}(I:Inv X pins σ H s)(hN:X.N.Nodup)(hi:X.N[i]?=some x)(hx:Loc X.env.scope x)(r:RelV v u)(h:∀s',Inv X pins (σ.set i<|some v) H s'->(∃a,Heap.SameBut a s.heap s'.heap/\(a=X.env.locals\/X.env.cells.lookup x=some a))->Q () s')(hf:autoParam (X.fn x=true\/X.env.scope.names.lookup x=some .local) au_2):wpAny M A (storeName X.env x u) Q E s:=by
 obtain⟨m,hn,hl⟩:=id I.loc;have hcls:(X.env.scope.kind == .class || (X.env.scope.kind == .module&&X.env.locals != X.env.globals))=false:=by rw[I.ok.kind];rfl
 have J:i<σ.length:=by rw[I.len];exact(WI.mp hi).1
 have cne:=I.cne
 have tracked:∀{a:Addr} {h':Heap},(∃o,s.heap.get? a=some o/\H a=none)->Heap.SameBut a s.heap h'->HOk X.prog X.w H h':=λ{a h'} ha f b ob e=>by
  obtain⟨_,_,B⟩:=ha;refine(I.hok b ob e).stay (λc w' l q=>(f.2 c ?_).trans q) (λ_ q=>q) λ_ _ q=>q;rintro rfl;rcases l with rfl|l
  ·rw[B]at e;cases e
  ·rw[B]at l;cases l
 rcases hx with G|G
 ·refine wpAny_storeName_local G hn (λh' hn' f=>?_) hcls;obtain⟨oL,_,_,hoL,_⟩:=id hn;refine h _ ⟨I.ok,I.os,I.bare,⟨λb o e n U hx=>?_,λb o e n U hx=>?_,I.base.free,λb o e hx=>?_,I.base.tups,I.base.frzs,I.base.tbls⟩,⟨_,hn',λj y v' g C e3=>?_⟩,λy c e=>?_,I.free,I.freeC,λp hp=>?_,tracked ⟨oL,hoL,I.free⟩ f,by simpa using I.len⟩ ⟨_,f,.inl rfl⟩
  ·exact(f.2 b<|Wu<|Wv (Wi e) I.ok.above).trans (I.base.keep b o e n U hx)
  ·obtain⟨sl,g⟩:=I.base.slot b o e n U hx;exact⟨sl,(f.2 b<|Wu<|Wv (Wi e) I.ok.above).trans g⟩
  ·obtain⟨o',g⟩:=I.base.there b o e hx;exact⟨o',(f.2 b<|Wu<|Wv (Wi e) I.ok.above).trans g⟩
  ·by_cases L:j=i
   ·subst L;rw[hi]at g;cases g;rw[List.getElem?_set_self J]at C;cases C
    exact⟨u,r,.inl ⟨G,by simp⟩⟩
   ·rw[Vk (Ne.symm L)]at C;obtain⟨u',r',q⟩:=hl j y v' g C e3;refine⟨u',r',?_⟩;rcases q with⟨k,e⟩|⟨k,c,e,z⟩
    ·refine .inl ⟨k,?_⟩
     have:y≠x:=λe=>L (Sh hN g (e▸hi))
     simp[this,e]
    ·exact .inr ⟨k,c,e,z.sameBut f (cne y c e)⟩
  ·obtain⟨w',z⟩:=I.cell y c e;exact⟨w',z.sameBut f (cne y c e)⟩
  ·obtain⟨e,n,ne,nf,d⟩:=I.pin p hp;exact⟨(f.2 p.1 ne).trans e,n,ne,nf,d⟩
 ·have T:X.fn x=true:=by
   rcases hf with z|z
   ·exact z
   ·rw[z]at G;cases G
  obtain⟨c,l⟩:=I.ok.has x (.inl G);obtain⟨w',z⟩:=I.cell x c l;refine wpAny_storeName_cell I.ok.kind G l z (λh' hc' f=>?_);obtain⟨oc,hoc,Y⟩:=id z;refine h {s with heap:=h'} ⟨I.ok,I.os,I.bare,⟨λb o e n U hx=>?_,λb o e n U hx=>?_,I.base.free,λb o e hx=>?_,I.base.tups,I.base.frzs,I.base.tbls⟩,⟨m,hn.sameBut f (Ne.symm<|cne x c l),λj y v' g C e3=>?_⟩,λy c' e=>?_,I.free,I.freeC,λp hp=>?_,tracked ⟨oc,hoc,I.freeC x c l⟩ f,by simpa using I.len⟩ ⟨c,f,.inr l⟩
  ·exact(f.2 b<|Wu<|Wv (Wi e)<|I.ok.cab x c T l).trans (I.base.keep b o e n U hx)
  ·obtain⟨sl,g⟩:=I.base.slot b o e n U hx;exact⟨sl,(f.2 b<|Wu<|Wv (Wi e)<|I.ok.cab x c T l).trans g⟩
  ·obtain⟨o',g⟩:=I.base.there b o e hx;exact⟨o',(f.2 b<|Wu<|Wv (Wi e)<|I.ok.cab x c T l).trans g⟩
  ·by_cases L:j=i
   ·subst L;rw[hi]at g;cases g;rw[List.getElem?_set_self J]at C;cases C
    exact⟨u,r,.inr ⟨.inl G,c,l,hc'⟩⟩
   ·rw[Vk (Ne.symm L)]at C;obtain⟨u',r',q⟩:=hl j y v' g C e3;refine⟨u',r',?_⟩;rcases q with q|⟨k,c',e,z'⟩
    ·exact .inl q
    ·refine .inr ⟨k,c',e,z'.sameBut f ?_⟩;rintro rfl;exact L (Sh hN g (I.ok.inj _ _ _ e l▸hi))
  ·by_cases hcc:c'=c
   ·subst hcc;exact⟨_,hc'⟩
   ·obtain⟨w2,z2⟩:=I.cell y c' e;exact⟨w2,z2.sameBut f hcc⟩
  ·obtain⟨e,n,ne,nf,d⟩:=I.pin p hp;refine⟨(f.2 p.1 ?_).trans e,n,ne,nf,d⟩;intro q;rw[q,hoc]at e;exact d w' (by rw[←(Wp e)];exact Y)
def KD{i x v u Q}(I:Inv X pins σ H s)(l:X.N.Nodup)(f:X.N[i]?=some x)(hx:Loc X.env.scope x)(r:RelV v u)(h:∀b,Inv X pins (σ.set i<|some v) H b->Q () b)(g:autoParam (X.fn x=true\/X.env.scope.names.lookup x=some .local) au_2):wpAny M A (storeName X.env x u) Q E s:=
 O1 I l f hx r (λb n _=>h b n) g
def Inv.call' {ch} (I:Inv X pins σ H s) (l:f.os=s.os) (u:Un (frs X.stack) ch H H' s.heap f.heap) (g:HOk X.prog X.w H' f.heap) (n:AllBare f.gens)
  (h:∀b∈ch,(b∈X.ex\/X.s₀.heap.objs.size<=b)/\b≠X.env.locals/\(∀x c,X.env.cells.lookup x=some c->c≠b)/\∀p∈X.pn++pins,p.1≠b):Inv X pins σ H' f:=by
 obtain⟨h',r,v,o,q⟩:=f;subst l;exact I.call u g n h
end
abbrev XK:=Value->Yn->Hp->Prop
abbrev St:=List (Option V)
abbrev VK:=V->Hp->Prop
abbrev TE:=St->Hp->VK->Prop
abbrev TT:=St->Hp->(Bool->Hp->Prop)->Prop
abbrev TA:=St->Hp->(List V->Hp->Prop)->Prop
structure Ends where
 nx:St->Hp->Prop
 rt:VK
 bk:St->Hp->Prop:=λ_ _=>False
 ct:St->Hp->Prop:=λ_ _=>False
abbrev TS:=Ends->St->Hp->Prop
def EP(X:Cx)(pins:Yd)(f:St)(Q:VK)(u:Value)(g:Shared):Prop:=∃v b,Inv X pins f b g/\RelV v u/\Q v b
def TP(X:Cx)(pins:Yd)(g:St)(Q:Bool->Hp->Prop)(b:Bool)(h:Shared):Prop:=∃f,Inv X pins g f h/\Q b f
def AP(X:Cx)(pins:Yd)(g:St)(Q:List V->Hp->Prop)(us:Yi)(h:Shared):Prop:=∃b f,Inv X pins g f h/\Vals b us/\Q b f
def SP(X:Cx)(pins:Yd)(D:Ends)(f:Flow)(h:Shared):Prop:=
 match f with
 | .next=>∃b g,Inv X pins b g h/\D.nx b g
 | .brk=>∃b g,Inv X pins b g h/\D.bk b g
 | .cont=>∃b g,Inv X pins b g h/\D.ct b g
 | .ret u=>∃v b g,Inv X pins b g h/\RelV v u/\D.rt v g
def PE(X:Cx)(e:Expr)(t:TE):Prop:=
 ∀(pins:Yd) (s:Shared) (b:St) (H:Hp) (Q:VK),Inv X pins b H s->t b H Q->wpAny (model X.prog X.w) X.A (eval e X.env) (EP X pins b Q) X.xe s
def PT(X:Cx)(e:Expr)(t:TT):Prop:=
 ∀(pins:Yd) (s:Shared) (b:St) (H:Hp) (Q:Bool->Hp->Prop),Inv X pins b H s->t b H Q->wpAny (model X.prog X.w) X.A (isTrue e X.env<|eval e X.env) (TP X pins b Q) X.xe s
def PW(X:Cx)(e:Expr)(t:TT):Prop:=
 ∀(whole:Sem Value) (pins:Yd) (s:Shared) (b:St) (H:Hp) (Q:Bool->Hp->Prop),Inv X pins b H s->t b H Q->wpAny (model X.prog X.w) X.A (isTrue e X.env whole) (TP X pins b Q) X.xe s
def PW.pt (h:PW X e t):PT X e t:=h _
def PA(X:Cx)(es:Yk)(t:TA):Prop:=
 ∀(pos:Pos) (pins:Yd) (s:Shared) (b:St) (H:Hp) (Q:List V->Hp->Prop),Inv X pins b H s->t b H Q->wpAny (model X.prog X.w) X.A (spliced<|backTo pos<|starEach es X.env) (AP X pins b Q) X.xe s
def PS(X:Cx)(st:Stmt)(t:TS):Prop:=
 ∀(pins:Yd) (s:Shared) (b:St) (H:Hp) (D:Ends),Inv X pins b H s->t D b H->wpAny (model X.prog X.w) X.A (exec st X.env) (SP X pins D) X.xe s
def PSs(X:Cx)(st:Yl)(t:TS):Prop:=
 ∀(pins:Yd) (s:Shared) (b:St) (H:Hp) (D:Ends),Inv X pins b H s->t D b H->wpAny (model X.prog X.w) X.A (execs st X.env) (SP X pins D) X.xe s
def thn{M A E s}(h:wpAny M A t Q E s)(b:∀a s,Q a s->f a s):wpAny M A t f E s:=WB h b λ_ _ x=>x
section
variable {X:Cx}
def bin{z r}(G:PE X a z)(E:PE X b r){pins}{s}{g:St}{H}{R:V->V->Hp->Prop}(I:Inv X pins g H s)(h:z g H λx q=>r g q λy o=>R x y o){α}{Q}{f:Value->Value->Sem α}(T:∀v u p x y o,Inv X pins g o p->RelV x v->RelV y u->R x y o->wpAny (model X.prog X.w) X.A (f v u) Q X.xe p) :
  wpAny (model X.prog X.w) X.A (eval a X.env) (λv n=>wpAny (model X.prog X.w) X.A (eval b X.env) (λu l=>wpAny (model X.prog X.w) X.A (f v u) Q X.xe l) X.xe n) X.xe s:=by
 refine thn (G pins s g H _ I h) λv B ⟨x,q,J,M,C⟩=>?_;refine thn (E pins B g q _ J C) λu p ⟨y,o,U,L,N⟩=>?_
 grind
noncomputable def XG(i:Nat):TE:=λb H Q=>∃v,b[i]?=some (some v)/\Q v H
noncomputable def tC(v:V):TE:=λ_ H Q=>Q v H
def Zap{pos}(B:X.N[i]?=some x)(w:Vis X.env.scope x)(n:autoParam ((x==("__debug__" : Str))=false) au_1)(o:autoParam ((x==("__classdict__" : Str))=false) au_1):PE X (.Name x pos) (XG i):=by
 intro pins s q H Q I h;obtain⟨v,e,h⟩:=h;obtain⟨m,y,A⟩:=I.loc;obtain⟨u,r,l⟩:=A i x v B e w;have g:EP X pins q Q u s:=⟨v,H,I,r,h⟩;rcases l with⟨f,z⟩|⟨f,c,p,b⟩
 ·exact wpAny_Name (wpAny_loadName_local I.ok.kind f y z g) n
 ·rcases f with f|f
  ·exact wpAny_Name (wpAny_loadName_cell I.ok.kind f p b g) n
  ·exact wpAny_Name (wpAny_loadName_free I.ok.kind f p b g o) n
def Xk:PE X (.Constant (.int i) j pos) (tC<|.int i):=λ_ _ _ H _ I h=>wpAny_Constant_int ⟨.int i,H,I.tok _,⟨_,rfl⟩,h⟩
def Hi:PE X (.Constant (.bool b) j pos) (tC<|.bl b):=λ_ _ _ H _ I h=>Constant_bool ⟨.bl b,H,I,rfl,h⟩
def U0:PE X (.Constant (.str x) j pos) (tC<|.str x):=λ_ _ _ H _ I h=>Calls.Constant_str ⟨.str x,H,I.tok _,⟨_,rfl⟩,h⟩
def Gl(X:Cx)(x:Str):Prop:=X.env.kindOf x=some .globalImplicit
def K0{pins}{s}{b:St}{H}{x}{u}{pos}{Q}(I:Inv X pins b H s)(g:Gl X x)(f:X.mg x=some u)(h:Q u s)(l:autoParam ((x==("__debug__" : Str))=false) au_1):wpAny (model X.prog X.w) X.A (eval (.Name x pos) X.env) Q E s:=
 Calls.Name_function_global I.ok.kind g (Calls.loadGlobal_global (by rw[I.ok.glob];exact I.mod.glob.keeps I.bk) f h) l
def Po{E}{pins}{s}{b:St}{H}{x}{u}{pos}{Q}(I:Inv X pins b H s)(n:Gl X x)(l:X.mg x=none)(f:bootBuiltins x=some u)(h:Q u s)(g:autoParam (x≠"__name__") au_1)(o:autoParam ((x==("__debug__" : Str))=false) au_1):wpAny (model X.prog X.w) X.A (eval (.Name x pos) X.env) Q E s:=by
 obtain⟨r,q,p⟩:=I.mod.blt;exact Calls.Name_function_global I.ok.kind n (Calls.loadGlobal_builtin (by rw[I.ok.glob];exact I.mod.glob.keeps I.bk) l (by rw[I.ok.blt];exact q.keeps I.bk) ((p x g).trans f) h) o
def Fq{u pos}(f:Gl X x)(b:X.mg x=some u)(r:RelV v u)(g:autoParam ((x==("__debug__" : Str))=false) au_1):PE X (.Name x pos) (tC v):=
 λ_ _ _ H _ I h=>K0 I f b ⟨v,H,I,r,h⟩ g
def K7{u pos}(l:Gl X x)(g:X.mg x=none)(b:bootBuiltins x=some u)(r:RelV v u)(f:autoParam (x≠"__name__") au_1)(n:autoParam ((x==("__debug__" : Str))=false) au_1):PE X (.Name x pos) (tC v):=
 λ_ _ _ H _ I h=>Po I l g b ⟨v,H,I,r,h⟩ f n
variable {a b:Expr}{ta tb:TE}{pos:Pos}
def PC(X:Cx)(l:CmpOp)(a b:Expr)(t:TE):Prop:=
 ∀(pins:Yd) (s:Shared) (h:St) (H:Hp) (Q:VK),Inv X pins h H s->t h H Q->
  wpAny (model X.prog X.w) X.A (eval a X.env) (λv g=>wpAny (model X.prog X.w) X.A (eval b X.env) (λu f=>wpAny (model X.prog X.w) X.A (compareOp l v u) (EP X pins h Q) X.xe f) X.xe g) X.xe s
def CU(b:Expr){op}(h:op≠.In)(l:op≠.NotIn):behindInMarks op b=false:=by
 have g:(op==CmpOp.In)=false:=by grind
 have f:(op==CmpOp.NotIn)=false:=by grind
 cases b<;>simp[behindInMarks,g,f]
noncomputable def tB(t:TE):TT:=λf H Q=>t f H λx g=>∃c,x=.bl c/\Q c g
def RL(h:PC X f a b t)(l:behindInMarks f b=false:=by first|exact CU _ (by decide) (by decide)|rfl):PE X (.Compare a [f] [b] pos) t:=λpins s g H Q I hw=>wpAny_Compare1 (h pins s g H Q I hw) l
def P3(h:PC X g a b t)(f:behindInMarks g b=false:=by first|exact CU _ (by decide) (by decide)|rfl):PT X (.Compare a [g] [b] pos) (tB t):=by
 intro pins s l H Q I hw;refine wpAny_isTrue_Compare1 (thn (h pins s l H _ I hw) λv A f=>thn f λu z p=>thn p ?_) f;rintro c y ⟨x,w,r,n,o⟩;obtain⟨d,rfl,q⟩:=o;cases n
 exact Qs ⟨w,r,q⟩
variable {tA tB':TT}{rest:Yk}
noncomputable def E3(t u:TT):TT:=λf H Q=>t f H λc g=>if c=true then u f g Q else Q false g
noncomputable def tOr(t u:TT):TT:=λf H Q=>t f H λc g=>if c=true then Q true g else u f g Q
noncomputable def AL(t:TT):TT:=λf H Q=>t f H λc g=>Q (!c) g
def IA(g:PT X a tA):PW X (.BoolOp .And [a] pos) tA:=by
 intro l pins s f H Q I h;refine isTrue_and (thn (g pins s f H Q I h) λc n e=>?_);cases c with
 |true=>exact isTrue_and_nil e
 |false=>exact e
def OZ(g:PT X a tA):PW X (.BoolOp .Or [a] pos) tA:=by
 intro l pins s f H Q I h;refine isTrue_or (thn (g pins s f H Q I h) λc n e=>?_);cases c with
 |false=>exact isTrue_or_nil e
 |true=>exact e
def Zbm(p:PT X a tA)(o:PW X (.BoolOp .And (b::rest) pos) tB'):PW X (.BoolOp .And (a::b::rest) pos) (E3 tA tB'):=by
 intro g pins s f H Q I h;refine isTrue_and (thn (p pins s f H _ I h) λc l ⟨r,q,n⟩=>?_);cases c with
 |true=>exact o g pins l f r Q q n
 |false=>trivial
def Zak(p:PT X a tA)(o:PW X (.BoolOp .Or (b::rest) pos) tB'):PW X (.BoolOp .Or (a::b::rest) pos) (tOr tA tB'):=by
 intro g pins s f H Q I h;refine isTrue_or (thn (p pins s f H _ I h) λc l ⟨r,q,n⟩=>?_);cases c with
 |true=>trivial
 |false=>exact o g pins l f r Q q n
def Mo(g:PT X a tA):PT X (.UnaryOp .Not a pos) (AL tA):=by
 intro pins s f H Q I h;exact isTrue_not (g pins s f H (λc l=>Q (!c) l) I h)
noncomputable def CK(ta tb:TE):TE:=λf H Q=>ta f H λx g=>∃c,x=.bl c/\if c=true then tb f g Q else Q (.bl false) g
noncomputable def FY(ta:TE):TE:=λf H Q=>ta f H λx g=>∃c,x=.bl c/\Q (.bl (!c)) g
def Ab{t}(h:PE X a t):PE X (.BoolOp f [a] pos) t:=by trivial
def Gk(r:PE X a ta)(q:PE X (.BoolOp .And (b::rest) pos) tb):PE X (.BoolOp .And (a::b::rest) pos) (CK ta tb):=by
 intro pins s g H Q I h;refine BoolOp_and (thn (r pins s g H _ I h) ?_);rintro v o ⟨x,n,l,p,f⟩;obtain⟨c,rfl,f⟩:=f;cases p
 refine Qs ?_;cases c with
 |true=>exact q pins o g n Q l f
 |false=>exact⟨.bl false,n,l,rfl,f⟩
def HQ(n:PE X a ta):PE X (.UnaryOp .Not a pos) (FY ta):=by
 intro pins s g H Q I h;refine UnaryOp_ (thn (n pins s g H _ I h) ?_);rintro v q ⟨x,p,o,l,f⟩;obtain⟨c,rfl,f⟩:=f;cases l
 exact not_of (Qs ⟨.bl (!c),p,o,rfl,f⟩)
noncomputable def tIf(t:TT)(ta tb:TE):TE:=λf H Q=>t f H λc g=>if c=true then ta f g Q else tb f g Q
def Ox(p:PT X c tA)(r:PE X a ta)(q:PE X b tb):PE X (.IfExp c a b pos) (tIf tA ta tb):=by
 intro pins s f H Q I h;refine wpAny_IfExp (thn (p pins s f H _ I h) ?_);rintro d g ⟨o,n,l⟩;cases d with
 |true=>exact r pins g f o Q n l
 |false=>exact q pins g f o Q n l
end
def SqL(K:Ya)(H:Hp)(a:Addr)(xs:List V):Prop:=
 Rd H a (.lst xs)\/
  ∃(o:Obj) (b:Yo) (n:Nat),K.lookup a=some o/\o.cls=.type "list"/\o.dict=none/\o.data=.seq b n/\b.size<=sizeLine/\Vals xs b.toList
def SqT(K:Ya)(H:Hp)(a:Addr)(xs:List V):Prop:=
 Rd H a (.tup xs)\/
  ∃(o:Obj) (b:Yo) (n:Nat),K.lookup a=some o/\o.cls=.type "tuple"/\o.data=.seq b n/\b.size<=sizeLine/\Vals xs b.toList
noncomputable def Zay:Value->Option V
 | .none=>some .non
 | .bool b=>some (.bl b)
 | .int i _=>some (.int i)
 | .str x _=>some (.str x)
 | .bytes b _=>some (.byt b)
 | .float b _=>some (.flt b)
 | .ref a=>some (.ref a)
 | .type n=>some (.ty n)
 |_=>none
def RelV.abs (r:RelV x u):Zay u=some x:=by
 cases x with
 |non|bl _|ref _|ty _=>cases r;rfl
 |_=>obtain⟨t,rfl⟩:=r;rfl
def RelV.inj {u} (r:RelV x u) (q:RelV y u):x=y:=Wp (r.abs.symm.trans q.abs)
def Vals.inj:∀{xs b}{us:Yi},Vals xs us->Vals b us->xs=b:=by
 intro o
 induction o with
 |nil=>
  intro _ _ h g;cases h
  cases g
  rfl
 |cons _ _ n=>
  intro _ _ h g;cases h with
  |cons h r=>
   cases g with
   |cons l f=>rw[h.inj l,n r f]
section
variable {X:Cx}{pins:Yd}{σ:St}{H:Hp}{s:Shared}{a:Addr}{xs ys:List V}
def SqL.of {K} (h:H a=some (.lst xs)):SqL K H a xs:=.inl (.inl h)
def SqT.of {K} (h:H a=some (.tup xs)):SqT K H a xs:=.inl (.inl h)
def Inv.list (I:Inv X pins σ H s) (h:SqL X.K H a xs):∃b,Vals xs b/\PlainL s.heap a b.toArray/\xs.length<=sizeLine:=by
 rcases h with h|⟨o,b,n,g,p,l,f,q,r⟩
 ·obtain⟨z,b,n,r,e⟩:=h.ok I.hok;exact⟨b,r,⟨_,n,e,rfl,rfl,rfl⟩,z⟩
 ·refine⟨b.toList,r,⟨o,n,I.kIn a o g,p,l,by simpa using f⟩,?_⟩;have e:=r.length
  grind
def Inv.tuple (I:Inv X pins σ H s) (h:SqT X.K H a xs):∃b,Vals xs b/\IsTup s.heap a b.toArray/\xs.length<=sizeLine:=by
 rcases h with h|⟨o,b,n,g,l,f,q,r⟩
 ·obtain⟨z,b,r,p⟩:=h.ok I.hok
  grind
 ·refine⟨b.toList,r,⟨o,I.kIn a o g,l,n,by simpa using f⟩,?_⟩;have e:=r.length
  grind
def Inv.list_inj (I:Inv X pins σ H s) (h:SqL X.K H a xs) (l:SqL X.K H a ys):xs=ys:=by
 obtain⟨f,r,⟨o,n,e,_,_,d⟩,_⟩:=I.list h;obtain⟨b,g,⟨p,q,u,_,_,v⟩,_⟩:=I.list l
 have:f=b:=by grind
 subst this;exact r.inj g
end
noncomputable abbrev Cx.wish (X:Cx) (E:Yf):Cx:={X with xe:=E}
noncomputable abbrev Cx.nox (X:Cx):Cx:=X.wish λ_ _=>False
def Cx.Ok.wish {X:Cx} (ok:X.Ok) (E:Yf):(X.wish E).Ok:=
 ⟨ok.mod,ok.kind,ok.glob,ok.blt,ok.above,ok.inj,ok.has,ok.cab,ok.hd,ok.frames,ok.stk,ok.exf,ok.bs,ok.bsz,ok.noex,ok.exfs,ok.funs,ok.frf⟩
def Cx.Ok.unwish {X:Cx}{E} (ok:(X.wish E).Ok):X.Ok:=
 ⟨ok.mod,ok.kind,ok.glob,ok.blt,ok.above,ok.inj,ok.has,ok.cab,ok.hd,ok.frames,ok.stk,ok.exf,ok.bs,ok.bsz,ok.noex,ok.exfs,ok.funs,ok.frf⟩
section
variable {X:Cx}{pins:Yd}{σ:St}{H:Hp}{s:Shared}{E:Yf}
def Inv.wish (I:Inv X pins σ H s) (E:Yf):Inv (X.wish E) pins σ H s:=⟨I.ok.wish E,I.os,I.bare,I.base,I.loc,I.cell,I.free,I.freeC,I.pin,I.hok,I.len⟩
def Inv.unwish (I:Inv (X.wish E) pins σ H s):Inv X pins σ H s:=⟨I.ok.unwish,I.os,I.bare,I.base,I.loc,I.cell,I.free,I.freeC,I.pin,I.hok,I.len⟩
def SP.unwish (h:SP (X.wish E) pins D f l):SP X pins D f l:=by
 cases f with
 |ret u=>obtain⟨v,b,g,I,r,q⟩:=h;exact⟨v,b,g,I.unwish,r,q⟩
 |_=>obtain⟨b,g,I,q⟩:=h;exact⟨b,g,I.unwish,q⟩
def PSs.nox {st t} (h:PSs X.nox st t):PSs X st t:=λpins s σ H D I hw=>
 WB (h pins s σ H D (I.wish _) hw) (λ_ _ q=>q.unwish) λ_ _ z=>False.elim z
end
section
variable {X:Cx}{st:Stmt}{rest:Yl}{t u:TS}{e:Expr}{te:TE}{pos:Pos}
noncomputable def D5:TS:=λD b H=>D.nx b H
noncomputable def Ct(t u:TS):TS:=λD b H=>t {D with nx:=u D} b H
def Zbo:PSs X [] D5:=λ_ _ b H _ I h=>Vl ⟨b,H,I,h⟩
def Kr(o:PS X st t)(n:PSs X rest u):PSs X (st::rest) (Ct t u):=by
 intro pins s g H D I h;refine wpAny_execs_cons (thn (o pins s g H {D with nx:=u D} I h) λf l q=>?_)
 cases f with
 |next=>
  obtain⟨b,r,p,q⟩:=q;exact n pins l b r D p q
 |_=>exact q
def UE(g:PS X st t):PSs X [st] t:=by
 intro pins s b H D I h;refine wpAny_execs_cons (thn (g pins s b H D I h) λf l q=>?_);cases f with
 |next=>exact Vl q
 |_=>lia
def Inv.quiet {b:St}{H}{s} (I:Inv X pins b H s):interactive X.env=false:=by simp[interactive,I.ok.kind]
noncomputable def T1(te:TE):TS:=λD b H=>te b H λ_ f=>D.nx b f
def X6(l:PE X e te)(g:autoParam (swapsWith e none pos.line X.env=pure false) au_0):PS X (.Expr e pos) (T1 te):=by
 intro pins s b H D I h;exact wpAny_Expr_any (thn (l pins s b H _ I h) λv p ⟨x,o,n,q,f⟩=>⟨b,o,n,f⟩) I.quiet g
noncomputable def PY(te:TE):TS:=λD b H=>te b H D.rt
def U3(l:PE X e te):PS X (.Return (some e) pos) (PY te):=by
 intro pins s b H D I h;exact wpAny_Return_some (thn (l pins s b H _ I h) λv p ⟨x,o,n,f,g⟩=>⟨x,b,o,n,f,g⟩)
noncomputable def Dp(c:TT)(t u:TS):TS:=λD f H=>c f H λb g=>if b=true then t D f g else u D f g
def Mm{tc}(p:PT X c tc)(r:PSs X a t)(q:PSs X b u):PS X (.If c a b pos) (Dp tc t u):=by
 intro pins s f H D I h;refine wpAny_If (thn (p pins s f H _ I h) ?_);rintro d g ⟨o,n,l⟩;cases d with
 |true=>exact r pins g f o D n l
 |false=>exact q pins g f o D n l
noncomputable def DY:TS:=λ_ _ _=>False
def Xi:PS X st DY:=λ_ _ _ _ _ _ h=>h.elim
end
abbrev TG:=V->St->Hp->(St->Hp->Prop)->Prop
abbrev TGs:=List V->St->Hp->(St->Hp->Prop)->Prop
def PG(X:Cx)(target:Expr)(t:TG):Prop:=
 ∀(pins:Yd) (s:Shared) (f:St) (H:Hp) (v:V) (u:Value) (Q:St->Hp->Prop),Inv X pins f H s->RelV v u->t v f H Q->
  wpAny (model X.prog X.w) X.A (assign target X.env u) (λ_ h=>∃b g,Inv X pins b g h/\Q b g) X.xe s
def PGs(X:Cx)(n:Yk)(t:TGs):Prop:=
 ∀(pins:Yd) (s:Shared) (f:St) (H:Hp) (g:List V) (h:Yi) (Q:St->Hp->Prop),Inv X pins f H s->Vals g h->t g f H Q->
  wpAny (model X.prog X.w) X.A (assignInOrder ((assignEach n X.env).map (·.2)) h) (λ_ o=>∃b l,Inv X pins b l o/\Q b l) X.xe s
abbrev TIp:=V->V->Hp->VK->Prop
def PIp(X:Cx)(f:Operator)(t:TIp):Prop:=
 ∀(pins:Yd) (s:Shared) (b:St) (H:Hp) (x y:V) (v u:Value) (Q:VK),Inv X pins b H s->RelV x v->RelV y u->t x y H Q->
  wpAny (model X.prog X.w) X.A (inplaceOp f v u) (EP X pins b Q) X.xe s
section
variable {X:Cx}{pos:Pos}
noncomputable def Pk(i:Nat):TG:=λv b H Q=>Q (b.set i<|some v) H
def NB(g:X.N.Nodup)(b:X.N[i]?=some x)(hx:Loc X.env.scope x)(f:autoParam (X.fn x=true\/X.env.scope.names.lookup x=some .local) au_2):PG X (.Name x pos) (Pk i):=by
 intro pins s n H v u Q I r h;exact wpAny_assign_Name (KD I g b hx r (λo l=>⟨_,H,l,h⟩) f)
noncomputable def AN:TGs:=λf b H Q=>f=[]/\Q b H
noncomputable def Gp(t:TG)(u:TGs):TGs:=λg f H Q=>∃v r,g=v::r/\t v f H λb h=>u r b h Q
def Dl:PGs X [] AN:=by
 intro pins s b H f g Q I r h;obtain⟨e,h⟩:=h;exact assignInOrder_nil ⟨b,H,I,h⟩
def NC{t u}(q:PG X e t)(p:PGs X es u)(o:autoParam ((assignEach (e::es) X.env).map (·.2)=assign e X.env::(assignEach es X.env).map (·.2)) au_0):PGs X (e::es) (Gp t u):=by
 intro pins s f H z B Q I r h;obtain⟨v,A,w,h⟩:=h;subst w;cases r with
 |cons r l=>
  rw[o];refine assignInOrder_cons (thn (q pins s f H _ _ _ I r h) ?_);rintro _ g ⟨b,y,x,n⟩;exact p pins g b y _ _ Q x l n
noncomputable def NF(K:Ya)(n:Nat)(t:TGs):TG:=λv b H Q=>∃a xs,v=.ref a/\SqT K H a xs/\xs.length=n/\t xs b H Q
def Zao{k t n}(y:X.calm=true)(h:PGs X es t)(w:autoParam ((assignEach es X.env).length=n) au_0)(f:autoParam ((assignEach es X.env).findIdx? (·.1)=none) au_0):PG X (.Tuple es k pos) (NF X.K n t):=by
 intro pins s g H v u Q I r hw;obtain⟨a,xs,A,hq,x,hw⟩:=hw;subst A;cases r
 obtain⟨p,l,q,C⟩:=I.tuple hq;refine assign_Tuple_tuple (I.ok.hd y) q (by simp[w,←x,l.length]) f λz hx=>?_;have B:Inv X pins g H {s with heap:=z}:=I.kept λb o e=>hx b o (Wu<|Wi e) e
 exact h pins _ g H xs _ Q B (by lia) hw
noncomputable def Tr(te:TE)(g:TG):TS:=λD b H=>te b H λx f=>g x b f D.nx
def Zbx(r:X.N.Nodup)(o:X.N[i]?=some x)(hx:Loc X.env.scope x)(q:PE X e te)(n:autoParam (swapsWith e (some<|.Name x b) pos.line X.env=pure false) au_0)(p:autoParam (X.fn x=true\/X.env.scope.names.lookup x=some .local) au_2) :
  PS X (.Assign [.Name x b] e pos) (Tr te<|Pk i):=by
 intro pins s f H D I h;refine wpAny_Assign_Name (thn (q pins s f H _ I h) λv B ⟨y,z,w,g,l⟩=>?_) n;exact KD w r o hx g (λA u=>⟨_,z,u,l⟩) p
noncomputable def FI(i j:Nat)(g:TA):TS:=λD b H=>g b H λf h=>∃v w,f=[v,w]/\D.nx ((b.set i<|some v).set j (some w)) h
def Hc{x y a b G z py pt A k2 f}(hc:X.calm=true)(L:X.N.Nodup)(hi:X.N[i]?=some x)(hj:X.N[j]?=some y)(C:i≠j)(hx:X.env.scope.names.lookup x=some .local)(J:X.env.scope.names.lookup y=some .local)(ha:PA X [a,b] G)(hw:swappedStores [.Tuple [.Name x z,.Name y py] A pt] (.Tuple [a,b] k2 f) X.env=pure (some [x,y]))(hs:autoParam (swapsWithSole [.Tuple [.Name x z,.Name y py] A pt] (.Tuple [a,b] k2 f) pos.line X.env=pure false) au_0) :
  PS X (.Assign [.Tuple [.Name x z,.Name y py] A pt] (.Tuple [a,b] k2 f) pos) (FI i j G):=by
 intro pins s E H D I h;refine Wa (wpAny_standAt ?_);refine Wa (We ?_);refine Wa (Tuple_<|thn (ha _ pins s E H _ I h) ?_);rintro T n ⟨vs,Q,I1,Y,u⟩;obtain⟨v,w,e1,u⟩:=u;subst e1
 obtain⟨l,g,rfl,U,r⟩:∃l g,T=[l,g]/\RelV v l/\RelV w g:=by
  cases Y with
  |cons p q=>
   cases q with
   |cons p' q'=>
    cases q'
    exact⟨_,_,rfl,p,p'⟩
 refine WT ?_ (by show 2<=sizeLine;decide);have I2:Inv X pins E Q {n with heap:=n.heap.push {cls:=.type "tuple",data:=.seq [l,g].toArray}}:=I1.kept λb o e=>Wd _ e
 rw[hw];refine Wa (We ?_);refine Wa (wpAny_rule<|Wa (unpackItems_tuple (items:=#[l,g]) (I.ok.hd hc) (IsTup.new n.heap _) λh' B=>?_));refine Wa (assignInOrder_cons<|wpAny_bindName<|KD (I2.kept (t':=n.toks) λb o e=>B b o (Wu<|Wi e) e) L hj (.inl J) r (λs2 I4=>?_)<|.inr J);refine assignInOrder_cons (wpAny_bindName<|KD I4 L hi (.inl hx) U (λs3 M=>assignInOrder_nil (We ?_))<|.inr hx);rw[List.set_comm _ _ (Ne.symm C)]at M;exact⟨_,Q,M,u⟩
noncomputable def DB(i:Nat)(te:TE)(ti:TIp):TS:=λD b H=>∃x,b[i]?=some (some x)/\te b H λy g=>ti x y g λz f=>D.nx (b.set i<|some z) f
def IT(hN:X.N.Nodup)(C:X.N[i]?=some x)(hx:Loc X.env.scope x)(he:PE X e te)(T:PIp X B ti)(hf:autoParam (X.fn x=true\/X.env.scope.names.lookup x=some .local) au_2) :
  PS X (.AugAssign (.Name x q) B e pos) (DB i te ti):=by
 intro pins s p H D I h;obtain⟨v,e1,h⟩:=h;obtain⟨m,U,hl⟩:=I.loc;have o:Vis X.env.scope x:=by rcases hx with k|k;exact .inl k;exact .inr (.inl k)
 obtain⟨u,r,l⟩:=hl i x v C e1 o;refine wpAny_AugAssign_Name ?_
 have E:wpAny (model X.prog X.w) X.A (eval e X.env) (λw n=>wpAny (model X.prog X.w) X.A (inplaceOp B u w) (λr g=>wpAny (model X.prog X.w) X.A (storeName X.env x r) (λ_=>SP X pins D .next) X.xe g) X.xe n) X.xe s:=by
  refine thn (he pins s p H _ I h) λw G ⟨y,H1,I1,L,Q⟩=>?_;refine thn (T pins G p H1 v y u w _ I1 r L Q) λz s2 ⟨zv,H2,I2,J,M⟩=>?_;exact KD I2 hN C hx J (λs3 I3=>⟨_,H2,I3,M⟩) hf
 rcases l with⟨b,Y⟩|⟨b,c,hc,f⟩
 ·exact wpAny_loadName_local I.ok.kind b U Y E
 ·rcases b with b|b
  ·exact wpAny_loadName_cell I.ok.kind b hc f E
  ·rcases hx with k|k
   ·have:X.env.scope.names.lookup x=some .free:=b
    grind
   ·have:X.env.scope.names.lookup x=some .free:=b
    rw[k]at this;cases this
noncomputable def ipI(f:Int->Int->Int):TIp:=λx y H Q=>∃i j,x=.int i/\y=.int j/\Q (.int<|f i j) H
def BD:PIp X .Add (ipI λi j=>i+j):=by
 intro pins s n H x y v u Q I f b h;obtain⟨i,j,l,g,q⟩:=h;subst l;subst g;obtain⟨t,rfl⟩:=f;obtain⟨o,rfl⟩:=b;exact iadd_int ⟨.int _,H,I.tok _,⟨_,rfl⟩,q⟩
noncomputable def Zax(c:TT)(o:TS):TS:=λD f H=>∃W:Nat->St->Hp->Prop,(∃m,W m f H)/\∀m f H,W m f H->
 c f H λb l=>if b=true then ∃N:St->Hp->Prop,(∀g n,N g n->∃h,h<m/\W h g n)/\o {D with nx:=N,ct:=N,bk:=D.nx} f l else D.nx f l
def My{tc p}(r:PassesOwn (model X.prog X.w) X.A X.env X.xe)(T:PT X c tc)(U:PSs X body p):PS X (.While c body [] pos) (Zax tc p):=by
 intro pins s C H D I h;obtain⟨W,⟨Q,G⟩,turn⟩:=h;refine wpAny_While (codeAny_whileLoop (λn M=>∃l z,Inv X pins l z M/\W n l z) ?_ Q ⟨C,H,I,G⟩);rintro n L ⟨g,y,Y,E⟩;refine Qm r (thn (T pins L g y _ Y<|turn n g y E) λb J ⟨x,u,o⟩=>?_);cases b with
 |true=>
  obtain⟨N,hN,o⟩:=o;refine Qm r (thn (U pins J g x _ u o) λf s3 q=>?_);cases f with
  |brk|ret v=>exact q
  |_=>
   obtain⟨B,H3,I3,n3⟩:=q
   grind
 |false=>
  exact Vl ⟨g,x,u,o⟩
end
structure It where
 go:Nat->Hp->Prop
 yld:Nat->Hp->V->Hp->Prop
 stop:Nat->Hp->Prop
def Kk(X:Cx)(pins:Yd)(H:Hp)(b:Addr):Prop:=
 H b=none/\b≠X.env.locals/\b∉X.fs/\(b∈X.ex\/X.s₀.heap.objs.size<=b)/\(∀x c,X.env.cells.lookup x=some c->c≠b)/\∀p∈X.pn++pins,p.1≠b
def Inv.fpOk {g:St}{H H'}{s}{b:Addr} (I:Inv X pins g H s) (f:s.heap.objs.size<=b) (l:H' b=none):Kk X pins H' b:=by
 refine⟨l,Vm (Wv I.lt f),I.nofs f,.inr (Wt I.sz f),λx c e z=>?_,λp h z=>?_⟩
 ·obtain⟨v,q⟩:=I.cell x c e;exact absurd (Wv q.lt<|by grind) (Qh _)
 ·exact absurd (Wv (Wi (I.pin p h).1)<|by grind) (Qh _)
structure Turn (P:Program) (w:World) (K:Ya) (tg:Expr) (J:It) (fp:List Addr) (it:Addr) (tn:Nat->Heap->Prop):Prop where
 mem:it∈fp
 obj:∀i h,tn i h->∀b∈fp,∃o,h.get? b=some o/\∀v,o.data≠.cell v
 keep:∀i h h',tn i h->(∀b∈fp,∀o,h.get? b=some o->h'.get? b=some o)->tn i h'
 item:∀(X:Cx),X.prog=P->X.w=w->X.K=K->X.calm=true->∀(i:Nat) (pins:Yd) (s:Shared) (σ:St) (H:Hp) (E:Yf),Inv X pins σ H s->(∀b∈fp,Kk X pins H b)->tn i s.heap->J.go i H->
  wpAny (model P w) X.A (pyNext<|.ref it) (λr s1=>∃u,r=some u/\
   wpAny (model P w) X.A (letOwnedTupleGo tg (.ref it) u) (λ_ s2=>∃x H',Inv X pins σ H' s2/\RelV x u/\J.yld i H x H'/\tn (i+1) s2.heap/\∀b∈fp,H' b=none) E s1) E s
 done:∀(X:Cx),X.prog=P->X.w=w->X.K=K->X.calm=true->∀(i:Nat) (pins:Yd) (s:Shared) (σ:St) (H:Hp) (E:Yf),Inv X pins σ H s->(∀b∈fp,Kk X pins H b)->tn i s.heap->J.stop i H->
  wpAny (model P w) X.A (pyNext<|.ref it) (λr s1=>r=none/\Inv X pins σ H s1) E s
 self:∀(A:Around) (i:Nat) (s:Shared) (Q:Yf) (E:Yf),tn i s.heap->Q (.ref it) s->wpAny (model P w) A (pyIter<|.ref it) Q E s
abbrev TI:=St->Hp->(It->Hp->Prop)->Prop
def PIE(X:Cx)(pins:Yd)(o:St)(p:Expr)(R:It->Hp->Prop)(f:Value)(h:Shared):Prop:=
 ∃(l:Addr) (n:List Addr) (tn:Nat->Heap->Prop) (J:It) (g:Hp),f=.ref l/\Inv X pins o g h/\Turn X.prog X.w X.K p J n l tn/\tn 0 h.heap/\(∀b∈n,Kk X pins g b)/\R J g
def PI(X:Cx)(g iter:Expr)(f:TI):Prop:=
 ∀(pins:Yd) (s:Shared) (b:St) (H:Hp) (R:It->Hp->Prop),Inv X pins b H s->f b H R->
  wpAny (model X.prog X.w) X.A (eval iter X.env) (λv h=>wpAny (model X.prog X.w) X.A (pyIter v) (PIE X pins b g R) X.xe h) X.xe s
def Sw {s f g u o n vs Q} (h : s.heap.get? g = some o) (p : o.cls = .type n) (l : o.data = .fields vs)
    (q : ["enumerate", "zip", "dict_itemiterator", "dict_reverseitemiterator", "odict_iterator", "itertools.zip_longest", "itertools.pairwise"].contains n = false) (b : Q () s) : wpAny M A (letOwnedTupleGo f (.ref g) u) Q E s := by
  cases f <;> first
    | exact We b
    | (cases u <;> first
        | exact We b
        | (refine Wa (wpAny_load h ?_)
           rw [p, l]
           show wpAny M A (if (["enumerate", "zip", "dict_itemiterator", "dict_reverseitemiterator", "odict_iterator", "itertools.zip_longest", "itertools.pairwise"].contains n && vs[0]? == some (rawInt _)) = true then _ else _) Q E s
           rw [Wf (by grind)]
           exact We b))
noncomputable def Itl(K:Ya)(a:Addr):It:=
 ⟨λi H=>∃xs x,SqL K H a xs/\xs[i]?=some x,λi H x b=>b=H/\∀xs,SqL K H a xs->xs[i]?=some x,λi H=>∃xs,SqL K H a xs/\xs.length<=i⟩
noncomputable def Itr(lo:Int)(n:Nat):It:=⟨λi _=>i<n,λi H x b=>b=H/\x=.int (lo+i),λi _=>n<=i⟩
def Zbn{K tg}(a it:Addr):Turn P w K tg (Itl K a) [it] it (λi h=>h.IsListIter it a i) where
 mem:=by simp
 obj:=λi h st b hb=>by
  have e:b=it:=by simpa using hb
  subst e;obtain⟨o,e,c,d⟩:=st;exact⟨o,e,λv z=>by rw[d]at z;cases z⟩
 keep:=λi h h' st k=>st.at λo e=>k it (by simp) o e
 item:=by
  intro X hP hw hK hc i pins s σ H E I hf st hg;subst hP hw hK;obtain⟨xs,x,hq,hx⟩:=hg;obtain⟨its,rv,p,hz⟩:=I.list hq;obtain⟨u,hu,ru⟩:=rv.get hx;obtain⟨f0,f1,f2,f3,f4,f5⟩:=hf it (by simp);refine wpAny_pyNext_list_item st p.isList (by simpa using hu) λh' st' sb=>?_;have I1:Inv X pins σ H {s with heap:=h'}:=I.turned (λb o hb e=>(sb.2 b hb).trans e) f0 f1 f3 f4 f5
  obtain⟨o,e,c,d⟩:=id st';exact⟨u,rfl,Sw e c d (by decide) ⟨x,H,I1,ru,⟨rfl,λys hy=>by rw[I.list_inj hy hq];exact hx⟩,st',λb hb=>(hf b hb).1⟩⟩
 done:=by
  intro X hP hw hK hc i pins s σ H E I hf st hg;subst hP hw hK;obtain⟨xs,hq,hx⟩:=hg;obtain⟨its,rv,p,hz⟩:=I.list hq;obtain⟨f0,f1,f2,f3,f4,f5⟩:=hf it (by simp);have hl:=rv.length;exact wpAny_pyNext_list_end (I.ok.hd hc) st p.isList (by simp;lia) λh' eb=>⟨rfl,I.turned (λb o hb e=>eb b o hb e) f0 f1 f3 f4 f5⟩
 self:=λ_ _ _ _ _ st h=>wpAny_pyIter_listiter st h
def IC{K tg}(it:Addr)(lo:Int)(n:Nat):Turn P w K tg (Itr lo n) [it] it (λi h=>IsRangeIter h it (lo+(i:Nat)*1) ((n:Int)-(i:Nat)) 1) where
 mem:=by simp
 obj:=λi h st b hb=>by
  have e:b=it:=by simpa using hb
  subst e
  exact⟨_,st,λv z=>by
   cases z⟩
 keep:=λi h h' st k=>k it (by simp) _ st
 item:=by
  intro X hP hw hK hc i pins s σ H E I hf st hg;subst hP hw hK;obtain⟨f0,f1,f2,f3,f4,f5⟩:=hf it (by simp);refine(Walks.range (prog:=X.prog) (w:=X.w) (I.ok.hd hc) it lo 1 n).item i s _ _ hg st λv h' tk hv st' kk=>?_;obtain⟨t,rfl⟩:=hv;have I1:Inv X pins σ H {s with heap:=h',toks:=tk}:=I.turned (λb o hb e=>kk b o (by simpa using hb) e) f0 f1 f3 f4 f5
  refine⟨_,rfl,Sw st' rfl rfl (by decide) ⟨.int (lo+i),H,I1,⟨t,?_⟩,⟨rfl,rfl⟩,st',λb hb=>(hf b hb).1⟩⟩;rw[Int.mul_one]
 done:=by
  intro X hP hw hK hc i pins s σ H E I hf st hg;obtain⟨f0,f1,f2,f3,f4,f5⟩:=hf it (by simp);exact wpAny_pyNext_range_end (I.ok.hd hc) st (by have:n<=i:=hg;lia) λh' eb=>⟨rfl,I.turned (λb o hb e=>eb b o hb e) f0 f1 f3 f4 f5⟩
 self:=λ_ _ _ _ _ st h=>wpAny_pyIter_rangeiter st h
section
variable {X:Cx}{tg:Expr}
noncomputable def Nz(K:Ya)(g:TE):TI:=λf H R=>g f H λx b=>∃a,x=.ref a/\(∃xs,SqL K b a xs)/\R (Itl K a) b
def D3(z:PE X l r):PI X tg l (Nz X.K r):=by
 intro pins s n H R I h;refine thn (z pins s n H _ I h) λv g ⟨x,A,f,u,w⟩=>?_;obtain⟨a,e,⟨xs,hq⟩,q⟩:=w;subst e;cases u
 obtain⟨y,B,p,C⟩:=f.list hq;refine wpAny_pyIter_list p.isList ?_;refine⟨g.heap.objs.size,[g.heap.objs.size],_,_,A,rfl,f.kept λb o e=>Wd _ e,Zbn a _,⟨_,Wn _ rfl,rfl,rfl⟩,λb E=>?_,q⟩;have e:b=g.heap.objs.size:=by grind
 subst e;exact f.fpOk (Wk _) (f.hok.fresh<|Wk _)
def AD{g:St}{H}{s}{R}{E}{lo f}{t u v}{tk}(I:Inv X pins g H s)(x:-(2 ^ 62)<=lo)(r:lo<2 ^ 62)(p:-(2 ^ 62)<=f)(n:f<2 ^ 62)(q:R (Itr lo (f-lo).toNat) H):wpAny (model X.prog X.w) X.A (pyIter<|.ref s.heap.objs.size) (PIE X pins g tg R) E {s with heap:=s.heap.push {cls:=.type "range",data:=.fields #[.int lo t,.int f u,.int 1 v]},toks:=tk}:=by
 refine wpAny_pyIter_range (IsRange.new ..) (small_one x r p n) ?_;have h:Inv X pins g H {s with heap:=s.heap.push {cls:=.type "range",data:=.fields #[.int lo t,.int f u,.int 1 v]},toks:=tk}:=I.kept λb o e=>Wd _ e
 refine⟨(s.heap.push {cls:=.type "range",data:=.fields #[.int lo t,.int f u,.int 1 v]}).objs.size,[(s.heap.push {cls:=.type "range",data:=.fields #[.int lo t,.int f u,.int 1 v]}).objs.size],_,_,H,rfl,
  h.kept λb o e=>Wd _ e,IC _ lo (f-lo).toNat,?_,λb l=>?_,q⟩
 ·have z:lo+((0:Nat):Int)*1=lo:=by simp
  have y:(((f-lo).toNat:Nat):Int)-((0:Nat):Int)=Builtin.Range.rangeSize lo f 1:=by rw[rangeSize_one];split<;>lia
  rw[z,y];exact Wn _ rfl
 ·have e:b=(s.heap.push {cls:=.type "range",data:=.fields #[.int lo t,.int f u,.int 1 v]}).objs.size:=by simpa using l
  subst e;exact h.fpOk (Wk _) (h.hok.fresh<|Wk _)
noncomputable def G2(g:TA):TI:=λb H R=>g b H λf h=>∃j:Int,f=[.int j]/\-(2 ^ 62)<=j/\j<2 ^ 62/\R (Itr 0 j.toNat) h
noncomputable def AC(g:TA):TI:=λb H R=>g b H λf h=>∃i j:Int,f=[.int i,.int j]/\(-(2 ^ 62)<=i/\i<2 ^ 62/\-(2 ^ 62)<=j/\j<2 ^ 62)/\R (Itr i (j-i).toNat) h
def Rj(w:Gl X "range")(v:X.mg "range"=none)(x:PA X [a] g)(u:autoParam (starEach [a] X.env=[(false,eval a X.env)]) au_0):PI X tg (.Call (.Name "range" p) [a] [] pos) (G2 g):=by
 intro pins s f H R I h;refine Call_ (Po I w v boot_range<|Qk (thn (x pos pins s f H _ I h) λA B ⟨z,C,y,n,b⟩=>?_) u rfl);obtain⟨j,e,b,o,q⟩:=b;subst e;cases n with
 |cons r l=>
  cases l
  obtain⟨t,rfl⟩:=r;exact call_range_1 (AD y (by lia) (by lia) b o<|by grind)
def HL{p pos}(A:Gl X "range")(z:X.mg "range"=none)(B:PA X [a,b] o)(M:autoParam (starEach [a,b] X.env=[(false,eval a X.env),(false,eval b X.env)]) au_0)(l:autoParam (starEach [b] X.env=[(false,eval b X.env)]) au_0) :
  PI X tg (.Call (.Name "range" p) [a,b] [] pos) (AC o):=by
 intro pins s n H R I h;refine Call_ (Po I A z boot_range<|Qk (thn (B pos pins s n H _ I h) λG L ⟨E,N,C,u,g⟩=>?_) (by grind)<|by rw[l];rfl);obtain⟨i,j,e,⟨g,y,x,w⟩,q⟩:=g;subst e;cases u with
 |cons r f=>
  cases f with
  |cons v f=>
   cases f
   obtain⟨t,rfl⟩:=r;obtain⟨J,rfl⟩:=v;exact call_range_2 (AD C g y x w q)
noncomputable def EA(o:TI)(g:TG)(p:TS):TS:=λD b H=>o b H λJ r=>∃W:Nat->Nat->St->Hp->Prop,(∃m,W 0 m b r)/\∀i m b H,W i m b H->
 (J.stop i H/\D.nx b H)\/(J.go i H/\∃N:St->Hp->Prop,(∀f h,N f h->∃n,n<m/\W (i+1) n f h)/\∀x h,J.yld i H x h->g x b h λl q=>p {D with nx:=N,ct:=N,bk:=D.nx} l q)
noncomputable def Th(f:List Addr)(h:Heap):Yd:=f.filterMap λb=>(h.get? b).map λo=>(b,o)
def Nq{b o}(f:b∈g)(e:h.get? b=some o):(b,o)∈Th g h:=Vv.mpr ⟨b,f,by rw[e];rfl⟩
def GL(f:p∈Th g h):p.1∈g/\h.get? p.1=some p.2:=by
 obtain⟨b,l,e⟩:=Vv.mp f;cases q:h.get? b with
 |_=>grind
def Inv.pinned {f:St}{H}{s}{fp} (I:Inv X pins f H s) (h:∀b∈fp,Kk X pins H b) (n:∀b∈fp,∃o,s.heap.get? b=some o/\∀v,o.data≠.cell v):Inv X (pins++Th fp s.heap) f H s:=
 I.pins_of λp g=>(WZ.mp g).elim (λz=>I.pin p (Wy _ z)) λz=>by
  obtain⟨l,e⟩:=GL z;obtain⟨f0,f1,q,_⟩:=h p.1 l
  grind
def Inv.unpinned {b:St}{H}{s} (I:Inv X (pins++g) b H s):Inv X pins b H s:=I.pins_of λp f=>I.pin p (Wy _<|QB _ f)
def GO{wi g tb pos}(M:PassesOwn (model X.prog X.w) X.A X.env X.xe)(hc:X.calm=true)(hi:PI X tg iter wi)(hg:PG X tg g)(y:PSs X body tb)(hs:autoParam (∀x,foldedSetIterable iter X.env x=pure x) au_3):PS X (.For tg iter body [] pos) (EA wi g tb):=by
 intro pins s σ H D I h;refine wpAny_For (thn (hi pins s σ H _ I h) λv s1 h1=>thn h1 λitv s2 h2=>?_) hs;obtain⟨it,U,tn,J,H2,e,I2,T,st2,f2,W,⟨m0,w0⟩,turn⟩:=h2;subst e;have stat:∀{B:Hp},(∀b∈U,B b=none)->∀b∈U,Kk X pins B b:=λhn b y=>⟨hn b y,(f2 b y).2⟩;refine codeAny_forLoop_any (λn s'=>∃i q B,Inv X pins q B s'/\tn i s'.heap/\(∀b∈U,B b=none)/\W i n q B) ?_ m0 ⟨0,σ,H2,I2,st2,λb y=>(f2 b y).1,w0⟩;rintro n s3 ⟨i,p,Y,I3,L,Q,w3⟩;rcases turn i n p Y w3 with⟨stop,qn⟩|⟨go,N,hN,step⟩
 ·refine Qm M (thn (T.done X rfl rfl rfl hc i pins s3 p Y X.xe I3 (stat Q) L stop) ?_);rintro r s4 ⟨hr,I4⟩;subst hr;exact Vl ⟨p,Y,I4,qn⟩
 ·refine Qm M (thn (T.item X rfl rfl rfl hc i pins s3 p Y X.xe I3 (stat Q) L go) ?_);rintro r s4 ⟨u,hr,h4⟩;subst hr;refine Qm M (thn h4 ?_);rintro _ s5 ⟨x,H5,I5,r5,y5,E,fr5⟩;refine Qm M (thn (hg _ s5 p H5 x u _ (I5.pinned (stat fr5)<|T.obj _ _ E) r5<|step x H5 y5) ?_);rintro _ s6 ⟨σ6,H6,I6,q6⟩;refine Qm M (thn (y _ s6 σ6 H6 _ I6 q6) λf s7 G=>?_)
  have again:∀{l:St} {z:Hp},Inv X (pins++Th U s5.heap) l z s7->N l z->∃m,m<n/\∃i q B,Inv X pins q B s7/\tn i s7.heap/\(∀b∈U,B b=none)/\W i m q B:=λ{l z} C n7=>by
   obtain⟨m',hm,w7⟩:=hN l z n7;refine⟨m',hm,i+1,l,z,C.unpinned,T.keep _ _ _ E λb y o e=>(C.pin (b,o)<|Wy _<|Wy _<|Nq y e).1,λb y=>?_,w7⟩;obtain⟨o,e,d⟩:=T.obj _ _ E b y;exact(C.pin (b,o)<|Wy _<|Wy _<|Nq y e).2.1
  cases f with
  |brk=>obtain⟨l,z,C,G⟩:=G;exact⟨l,z,C.unpinned,G⟩
  |ret v=>obtain⟨x7,l,z,C,r7,G⟩:=G;exact⟨x7,l,z,C.unpinned,r7,G⟩
  |_=>obtain⟨l,z,C,n7⟩:=G;exact again C n7
end
abbrev R2:=V->V->Hp->VK->Prop
def OpR(X:Cx)(f:Value->Value->Sem Value)(r:R2):Prop:=
 ∀(pins:Yd) (s:Shared) (b:St) (H:Hp) (x y:V) (v u:Value) (Q:VK),Inv X pins b H s->RelV x v->RelV y u->r x y H Q->
  wpAny (model X.prog X.w) X.A (f v u) (EP X pins b Q) X.xe s
def UnR(X:Cx)(f:Value->Sem Value)(r:V->Hp->VK->Prop):Prop:=
 ∀(pins:Yd) (s:Shared) (b:St) (H:Hp) (x:V) (v:Value) (Q:VK),Inv X pins b H s->RelV x v->r x H Q->
  wpAny (model X.prog X.w) X.A (f v) (EP X pins b Q) X.xe s
def Xa(X:Cx)(f:Value)(r:List V->Hp->VK->Prop):Prop:=
 ∀(pins:Yd) (s:Shared) (b:St) (H:Hp) (xs:List V) (g:Yi) (Q:VK),Inv X pins b H s->Vals xs g->r xs H Q->
  wpAny (model X.prog X.w) X.A (call f g) (EP X pins b Q) X.xe s
def Za7(X:Cx)(r:V->Hp->(Bool->Hp->Prop)->Prop):Prop:=
 ∀(pins:Yd) (s:Shared) (b:St) (H:Hp) (x:V) (v:Value) (Q:Bool->Hp->Prop),Inv X pins b H s->RelV x v->r x H Q->
  wpAny (model X.prog X.w) X.A (truthy v) (TP X pins b Q) X.xe s
noncomputable def tOp(r:R2)(g f:TE):TE:=λb H Q=>g b H λx l=>f b l λy h=>r x y h Q
noncomputable def tUn(r:V->Hp->VK->Prop)(f:TE):TE:=λb H Q=>f b H λx g=>r x g Q
noncomputable def rI(C:Int->Int->Prop)(g:Int->Int->V):R2:=λx y H Q=>∃i j,x=.int i/\y=.int j/\C i j/\Q (g i j) H
noncomputable def rI0(g:Int->Int->V):R2:=λx y H Q=>∃i j,x=.int i/\y=.int j/\Q (g i j) H
def rU(g:Int->V):V->Hp->VK->Prop:=λx H Q=>∃i,x=.int i/\Q (g i) H
section
variable {X:Cx}{a b c:Expr}{ta tb tc:TE}{pos:Pos}
def Bx(C:PE X a ta)(B:PE X b tb){pins}{s}{g:St}{H}{R:V->V->Hp->Prop}(I:Inv X pins g H s)(h:ta g H λx q=>tb g q λy o=>R x y o){Q}{f:Value->Value->Sem Value}(M:∀v u p x y o,Inv X pins g o p->RelV x v->RelV y u->R x y o->wpAny (model X.prog X.w) X.A (f v u) Q X.xe p) :
  wpAny (model X.prog X.w) X.A (eval a X.env) (λv n=>wpAny (model X.prog X.w) X.A (eval b X.env) (λu l=>wpAny (model X.prog X.w) X.A (f v u) Q X.xe l) X.xe n) X.xe s:=by
 refine thn (C pins s g H _ I h) λv r ⟨x,q,E,J,z⟩=>?_;refine thn (B pins r g q _ E z) λu p ⟨y,o,N,G,L⟩=>?_
 grind
def Xm(p:OpR X (binaryOp o) r)(z:PE X a ta)(w:PE X b tb):PE X (.BinOp a o b pos) (tOp r ta tb):=by
 intro pins s f H Q I h;exact wpAny_BinOp (Bx z w I h λv u g x y B A n l q=>p pins g f B x y v u Q A n l q)
def BI(p:UnR X (unaryOp o) r)(q:PE X a ta):PE X (.UnaryOp o a pos) (tUn r ta):=by
 intro pins s f H Q I h;exact UnaryOp_ (thn (q pins s f H _ I h) λv g ⟨x,w,u,l,n⟩=>p pins g f w x v Q u l n)
def opI{C}{g:Int->Int->Int}(rule:∀i j t u s Q E,C i j->Q (.int (g i j) s.toks) {s with toks:=s.toks+1}->wpAny (model X.prog X.w) X.A (f (.int i t)<|.int j u) Q E s) :
  OpR X f (rI C λi j=>.int (g i j)):=by
 intro pins s r H x y v u Q I o n h;obtain⟨i,j,rfl,rfl,p,q⟩:=h;obtain⟨t,rfl⟩:=o;obtain⟨l,rfl⟩:=n;exact rule i j t l s _ _ p ⟨.int (g i j),H,I.tok _,⟨_,rfl⟩,q⟩
def Ag{g:Int->Int->Int}(rule:∀i j t u s Q E,Q (.int (g i j) s.toks) {s with toks:=s.toks+1}->wpAny (model X.prog X.w) X.A (f (.int i t)<|.int j u) Q E s) :
  OpR X f (rI0 λi j=>.int (g i j)):=by
 intro pins s p H x y v u Q I o n h;obtain⟨i,j,rfl,rfl,q⟩:=h;obtain⟨t,rfl⟩:=o;obtain⟨l,rfl⟩:=n;exact rule i j t l s _ _ ⟨.int (g i j),H,I.tok _,⟨_,rfl⟩,q⟩
def NG{g:Int->Int->Bool}(rule:∀i j t u s Q E,Q (.bool<|g i j) s->wpAny (model X.prog X.w) X.A (f (.int i t)<|.int j u) Q E s) :
  OpR X f (rI0 λi j=>.bl (g i j)):=by
 intro pins s p H x y v u Q I o n h;obtain⟨i,j,rfl,rfl,q⟩:=h;obtain⟨t,rfl⟩:=o;obtain⟨l,rfl⟩:=n;exact rule i j t l s _ _ ⟨.bl (g i j),H,I,rfl,q⟩
def Bu(i j:Int):Prop:=0<j/\j<1073741824
def CMul(i j:Int):Prop:=(-(2 ^ 64)<i/\i<2 ^ 64)\/(-(2 ^ 64)<j/\j<2 ^ 64)
def CMul.ok (h:CMul i j):IntMulOk i j:=by
 rcases h with⟨g,f⟩|⟨g,f⟩
 ·exact .of_left (intBits_le_64 g f)
 ·exact .of_right (intBits_le_64 g f)
def UM:OpR X (binaryOp .Add) (rI0 λi j=>.int (i+j)):=Ag λ_ _ _ _ _ _ _ q=>add_int q
def NA:OpR X (binaryOp .Sub) (rI0 λi j=>.int (i-j)):=Ag λ_ _ _ _ _ _ _ q=>sub_int q
def KJ:OpR X (binaryOp .Mult) (rI CMul λi j=>.int (i*j)):=opI λ_ _ _ _ _ _ _ f q=>mul_int q f.ok
def Xr:OpR X (binaryOp .FloorDiv) (rI Bu λi j=>.int (i / j)):=opI λi j _ _ _ _ _ f q=>by
 have h:=f.1;have g:=f.2;exact floordiv_int (by lia) (by rw[Int.fdiv_eq_ediv_of_nonneg i (by lia)];exact q) (.inl<|PyProof.noPylong_small<|by lia)
def U7:OpR X (binaryOp .Mod) (rI (λ_ j=>0<j) λi j=>.int (i % j)):=opI λi j _ _ _ _ _ f q=>by
 exact mod_int' (by lia) (by grind)
def unI{g:Int->Int}(rule:∀i t s Q E,Q (.int (g i) s.toks) {s with toks:=s.toks+1}->wpAny (model X.prog X.w) X.A (f<|.int i t) Q E s) :
  UnR X f (rU λi=>.int (g i)):=by
 intro pins s n H x v Q I l h;obtain⟨i,rfl,q⟩:=h;obtain⟨t,rfl⟩:=l;exact rule i t s _ _ ⟨.int (g i),H,I.tok _,⟨_,rfl⟩,q⟩
def Bq:UnR X (unaryOp .USub) (rU λi=>.int (-i)):=unI λ_ _ _ _ _ q=>neg_int q
end
noncomputable def Dh:V->V->Bool
 | .non,.non=>true | .non,.int _=>true | .int _,.non=>true | .non,.bl _=>true | .bl _,.non=>true | .non,.str _=>true | .str _,.non=>true
 | .int _,.int _=>true | .bl _,.bl _=>true | .str _,.str _=>true | .byt _,.byt _=>true
 | .int _,.str _=>true | .str _,.int _=>true | .bl _,.str _=>true | .str _,.bl _=>true
 |_,_=>false
noncomputable def rEq:R2:=λx y H Q=>Dh x y=true/\Q (.bl<|decide (x=y)) H
noncomputable def rNe:R2:=λx y H Q=>Dh x y=true/\Q (.bl (!decide (x=y))) H
def A8{i j:Int}:decide (V.int i=V.int j)=(i==j):=by
 rw[Q0];simp
def Gh{i j:Bool}:decide (V.bl i=V.bl j)=(i==j):=by
 rw[Q0];simp
def F9{i j:Str}:decide (V.str i=V.str j)=(i==j):=by
 rw[Q0];simp
def Ay{i j:Array UInt8}:decide (V.byt i=V.byt j)=(i.toList==j.toList):=by
 rw[Q0];cases i
 cases j
 simp
section
variable {X:Cx}{a b c:Expr}{ta tb tc:TE}{pos:Pos}
def Uu{f:St}{H}{s}{Q}{k g}(I:Inv X pins f H s)(q:Q (.bl k) H)(e:k=g):EP X pins f Q (.bool g) s:=by
 subst e;exact⟨.bl k,H,I,rfl,q⟩
def op_eq:OpR X (compareOp .Eq) rEq:=by
 intro pins s o H x y v u Q I n f h;obtain⟨l,q⟩:=h;cases x with
 |non=>
  cases n
  cases y with
  |non=>cases f;exact PySem.EqNone.eq_none_none (Uu I q<|by simp)
  |bl j=>cases f;exact PySem.EqNone.eq_none_bool (Uu I q<|by simp)
  |int j=>obtain⟨g,rfl⟩:=f;exact PySem.EqNone.eq_none_int (Uu I q<|by simp)
  |str j=>obtain⟨g,rfl⟩:=f;exact PySem.EqNone.eq_none_str (Uu I q<|by simp)
  |_=>exact absurd l Ww
 |bl i=>
  cases n
  cases y with
  |non=>cases f;exact PySem.EqNone.eq_bool_none (Uu I q<|by simp)
  |bl j=>cases f;exact eq_bool (Uu I q Gh)
  |str j=>obtain⟨g,rfl⟩:=f;exact PySem.EqMixed.eq_bool_str (Uu I q<|by simp)
  |_=>exact absurd l Ww
 |int i=>
  obtain⟨t,rfl⟩:=n;cases y with
  |non=>cases f;exact PySem.EqNone.eq_int_none (Uu I q<|by simp)
  |int j=>obtain⟨g,rfl⟩:=f;exact eq_int (Uu I q A8)
  |str j=>obtain⟨g,rfl⟩:=f;exact PySem.EqMixed.eq_int_str (Uu I q<|by simp)
  |_=>exact absurd l Ww
 |str i=>
  obtain⟨t,rfl⟩:=n;cases y with
  |non=>cases f;exact PySem.EqNone.eq_str_none (Uu I q<|by simp)
  |bl j=>cases f;exact PySem.EqMixed.eq_str_bool (Uu I q<|by simp)
  |int j=>obtain⟨g,rfl⟩:=f;exact PySem.EqMixed.eq_str_int (Uu I q<|by simp)
  |str j=>obtain⟨g,rfl⟩:=f;exact eq_str (Uu I q F9)
  |_=>exact absurd l Ww
 |byt i=>
  obtain⟨t,rfl⟩:=n;cases y with
  |byt j=>obtain⟨g,rfl⟩:=f;exact PySem.W.eq_bytes (Uu I q Ay)
  |_=>exact absurd l Ww
 |_=>cases y<;>exact absurd (show false=true from l) Ww
def op_ne:OpR X (compareOp .NotEq) rNe:=by
 intro pins s o H x y v u Q I n f h;obtain⟨l,q⟩:=h;cases x with
 |non=>
  cases n
  cases y with
  |non=>cases f;exact PySem.EqNone.ne_none_none (Uu I q<|by simp)
  |bl j=>cases f;exact PySem.EqNone.ne_none_bool (Uu I q<|by simp)
  |int j=>obtain⟨g,rfl⟩:=f;exact PySem.EqNone.ne_none_int (Uu I q<|by simp)
  |str j=>obtain⟨g,rfl⟩:=f;exact PySem.EqNone.ne_none_str (Uu I q<|by simp)
  |_=>exact absurd l Ww
 |bl i=>
  cases n
  cases y with
  |non=>cases f;exact PySem.EqNone.ne_bool_none (Uu I q<|by simp)
  |bl j=>cases f;exact ne_bool (Uu I q<|WA not Gh)
  |str j=>obtain⟨g,rfl⟩:=f;exact PySem.EqMixed.ne_bool_str (Uu I q<|by simp)
  |_=>exact absurd l Ww
 |int i=>
  obtain⟨t,rfl⟩:=n;cases y with
  |non=>cases f;exact PySem.EqNone.ne_int_none (Uu I q<|by simp)
  |int j=>obtain⟨g,rfl⟩:=f;exact ne_int (Uu I q<|WA not A8)
  |str j=>obtain⟨g,rfl⟩:=f;exact PySem.EqMixed.ne_int_str (Uu I q<|by simp)
  |_=>exact absurd l Ww
 |str i=>
  obtain⟨t,rfl⟩:=n;cases y with
  |non=>cases f;exact PySem.EqNone.ne_str_none (Uu I q<|by simp)
  |bl j=>cases f;exact PySem.EqMixed.ne_str_bool (Uu I q<|by simp)
  |int j=>obtain⟨g,rfl⟩:=f;exact PySem.EqMixed.ne_str_int (Uu I q<|by simp)
  |str j=>obtain⟨g,rfl⟩:=f;exact ne_str (Uu I q<|WA not F9)
  |_=>exact absurd l Ww
 |byt i=>
  obtain⟨t,rfl⟩:=n;cases y with
  |byt j=>obtain⟨g,rfl⟩:=f;exact PySem.W.ne_bytes (Uu I q<|WA not Ay)
  |_=>exact absurd l Ww
 |_=>cases y<;>exact absurd (show false=true from l) Ww
def Pr:OpR X (compareOp .Lt) (rI0 λi j=>.bl (decide (i<j))):=NG λ_ _ _ _ _ _ _ q=>lt_int q
def XQ:OpR X (compareOp .Gt) (rI0 λi j=>.bl (decide (j<i))):=NG λ_ _ _ _ _ _ _ q=>gt_int q
def FF:OpR X (compareOp .GtE) (rI0 λi j=>.bl (decide (j<=i))):=NG λ_ _ _ _ _ _ _ q=>ge_int q
def OpR.or (h:OpR X f r) (p:OpR X f o):OpR X f (λx y H Q=>r x y H Q\/o x y H Q):=by
 intro pins s g H x y v u Q I n l q;rcases q with q|q
 ·exact h pins s g H x y v u Q I n l q
 ·exact p pins s g H x y v u Q I n l q
def KB(b:Expr){op}(h:autoParam (op≠.In) au_1)(l:autoParam (op≠.NotIn) au_1):behindInMarks op b=false:=by
 have g:(op==CmpOp.In)=false:=by grind
 have f:(op==CmpOp.NotIn)=false:=by grind
 cases b<;>simp[behindInMarks,g,f]
def S9(p:OpR X (compareOp f) r)(A:PE X a ta)(z:PE X b tb)(w:behindInMarks f b=false):PE X (.Compare a [f] [b] pos) (tOp r ta tb):=by
 intro pins s g H Q I h;exact wpAny_Compare1 (Bx A z I h λv u l x y C B o n q=>p pins l g C x y v u Q B o n q) w
noncomputable def Ng(t:TE):TT:=λf H Q=>t f H λx g=>∃k,x=.bl k/\Q k g
def KH(C:OpR X (compareOp g) r)(J:PE X a ta)(G:PE X b tb)(E:behindInMarks g b=false):PT X (.Compare a [g] [b] pos) (Ng<|tOp r ta tb):=by
 intro pins s f H Q I h
 refine wpAny_isTrue_Compare1 (thn (J pins s f H _ I h) λv n ⟨x,Y,N,q,B⟩=>thn (G pins n f Y _ N B) λu l ⟨y,U,M,p,A⟩=>
  thn (C pins l f U x y v u _ M q p A) λc s3 ⟨z,T,L,o,k,e,w⟩=>?_) E
 subst e;cases o
 exact Qs ⟨T,L,w⟩
def SS(K:Ya)(x:V)(H:Hp)(k:Bool):Prop:=
 match x with
 | .non=>k=false
 | .bl b=>k=b
 | .int i=>k=(i != 0)
 | .str y=>y.length<=sizeLine/\k=((y.length:Int) != 0)
 | .byt y=>y.size<=sizeLine/\k=((y.size:Int) != 0)
 | .ref p=>(∃xs,SqL K H p xs/\k=!xs.isEmpty)\/(∃xs,SqT K H p xs/\k=!xs.isEmpty)\/∃f,H p=some (.dK f)/\k=!f.isEmpty
 |_=>False
def Rm(r:KV f vs):(!vs.isEmpty)=!f.isEmpty:=by
 cases r<;>rfl
def Dv(r:Vals xs f):(!f.toArray.isEmpty)=!xs.isEmpty:=by
 cases r<;>simp
def N4:(sizeLine:Nat)<2 ^ 63:=by trivial
def Zbg:Za7 X (λx H Q=>∃k,SS X.K x H k/\Q k H):=by
 intro pins s B H x v Q I l h;obtain⟨k,e,q⟩:=h;have G:=N4;have E:=sizeLine_eq;cases x with
 |non=>
  cases l
  have f:=e;subst f;exact truthy_none ⟨H,I,q⟩
 |bl b=>
  cases l
  have f:=e;subst f;exact Qs ⟨H,I,q⟩
 |int i=>
  obtain⟨t,rfl⟩:=l;have f:=e;subst f;exact PySem.P.truthy_int ⟨H,I,q⟩
 |str y=>
  obtain⟨t,rfl⟩:=l;obtain⟨z,f⟩:=e;subst f;exact PySem.P.truthy_str (by lia) ⟨H,I.tok _,q⟩
 |byt y=>
  obtain⟨t,rfl⟩:=l;obtain⟨z,f⟩:=e;subst f;exact PySem.W.truthy_bytes (by lia) ⟨H,I.tok _,q⟩
 |ref p=>
  cases l
  have f:=e;rcases f with⟨xs,hx,f⟩|⟨xs,hx,f⟩|⟨w,hx,f⟩
  ·subst f;obtain⟨o,r,n,u⟩:=I.list hx;have g:=r.length;exact wpAny_truthy_list n.isList (by simp only[W5];lia) ⟨H,I.tok _,by rw[Dv r];exact q⟩
  ·subst f;obtain⟨o,r,n,u⟩:=I.tuple hx;have g:=r.length;exact truthy_tuple n (by simp only[W5];lia) ⟨H,I.tok _,by rw[Dv r];exact q⟩
  ·subst f;obtain⟨u,A,C,r,m⟩:=I.hok p _ hx;have g:=Paired.length r;exact wpAny_truthy_dict A m (by lia) ⟨H,I.tok _,by rw[Rm r];exact q⟩
 |_=>exact e.elim
def Zca(p:PE X a ta)(o:∀whole,isTrue a X.env whole=(do let v ←whole;standAt a.pos;holding [v] (truthy v))) :
  PT X a (λf H Q=>ta f H λx H'=>∃k,SS X.K x H' k/\Q k H'):=by
 intro pins s f H Q I h;exact isTrue_plain (thn (p pins s f H _ I h) λv g ⟨x,r,q,l,n⟩=>Zbg pins g f r x v Q q l n) (o _)
def Pa:OpR X (binaryOp .Add) (λx y H Q=>∃i j,x=.str i/\y=.str j/\i.length+j.length<=sizeLine/\Q (.str (i++j)) H):=by
 intro pins s o H x y v u Q I l g h;obtain⟨i,j,rfl,rfl,n,q⟩:=h;obtain⟨t,rfl⟩:=l;obtain⟨f,rfl⟩:=g;exact add_str (λf p=>⟨.str (i++j),H,I.tok _,⟨_,rfl⟩,q⟩) n
def vals1(r:Vals [x] us):∃u,us=[u]/\RelV x u:=by
 cases r with
 |cons g f=>cases f;exact⟨_,rfl,g⟩
def vals2(r:Vals [x,y] us):∃u f,us=[u,f]/\RelV x u/\RelV y f:=by
 cases r with
 |cons n l=>
  cases l with
  |cons h g=>cases g;exact⟨_,_,rfl,n,h⟩
def GK(g:X.calm=true):Xa X (.builtin "max") (λxs H Q=>∃i j,xs=[.int i,.int j]/\Q (.int (if j>i then j else i)) H):=by
 intro pins s l H xs o Q I r h;obtain⟨i,j,rfl,q⟩:=h;obtain⟨u,n,rfl,⟨t,rfl⟩,⟨v,rfl⟩⟩:=vals2 r;refine max_two_ints (I.ok.hd g) λw p k=>⟨_,H,I.kept k,?_,q⟩;by_cases f:j>i
 ·rw[Wj f,Wj f];exact⟨_,rfl⟩
 ·rw[Wf f,Wf f];exact⟨_,rfl⟩
def Zbr:Xa X (.type "int") (λxs H Q=>(∃i,xs=[.int i]/\Q (.int i) H)\/∃k,xs=[.bl k]/\Q (.int (if k then 1 else 0)) H):=by
 intro pins s g H xs l Q I r h;rcases h with⟨i,rfl,q⟩|⟨k,rfl,q⟩
 ·obtain⟨u,rfl,t,rfl⟩:=vals1 r;exact call_int_int ⟨.int i,H,I,⟨_,rfl⟩,q⟩
 ·obtain⟨u,rfl,f⟩:=vals1 r;cases f
  exact call_int_bool ⟨.int (if k then 1 else 0),H,I.tok _,⟨_,rfl⟩,q⟩
def Tc:Xa X (.type "str") (λxs H Q=>∃i,xs=[.int i]/\i.natAbs.log2<1920/\Q (.str<|toString i) H):=by
 intro pins s g H xs l Q I r h;obtain⟨i,rfl,f,q⟩:=h;obtain⟨u,rfl,t,rfl⟩:=vals1 r;exact PySem.P.str_of_int f ⟨.str _,H,I.tok _,⟨_,rfl⟩,q⟩
def Np(K:Ya)(x:V)(H:Hp)(n:Nat):Prop:=
 match x with
 | .str y=>y.length<=sizeLine/\n=y.length
 | .byt y=>y.size<=sizeLine/\n=y.size
 | .ref p=>(∃xs,SqL K H p xs/\n=xs.length)\/∃xs,SqT K H p xs/\n=xs.length
 |_=>False
def BF:Xa X (.builtin "len") (λxs H Q=>∃x n,xs=[x]/\Np X.K x H n/\Q (.int n) H):=by
 intro pins s B H xs C Q I r h;obtain⟨x,n,rfl,e,q⟩:=h;obtain⟨u,rfl,l⟩:=vals1 r;have E:=sizeLine_eq;cases x with
 |str y=>
  obtain⟨t,rfl⟩:=l;obtain⟨A,g⟩:=e;subst g;exact len_str (by lia) ⟨.int _,H,I.tok _,⟨_,rfl⟩,q⟩
 |byt y=>
  obtain⟨t,rfl⟩:=l;obtain⟨A,g⟩:=e;subst g;exact PySem.W.len_bytes (by lia) ⟨.int _,H,I.tok _,⟨_,rfl⟩,q⟩
 |ref p=>
  cases l
  have g:=e;rcases g with⟨xs,hx,g⟩|⟨xs,hx,g⟩
  ·subst g;obtain⟨w,o,v,z⟩:=I.list hx;have f:=o.length;exact Calls.call_len_list v.isList (by simp only[W5];lia) ⟨.int xs.length,H,I.tok _,⟨_,by simp only[W5];rw[f]⟩,q⟩
  ·subst g;obtain⟨w,o,v,z⟩:=I.tuple hx;have f:=o.length;exact len_tuple v (by simp only[W5];lia) ⟨.int xs.length,H,I.tok _,⟨_,by simp only[W5];rw[f]⟩,q⟩
 |_=>exact e.elim
end
structure K4 (h:Heap) (x dx C:Addr) (mA:Ye):Prop where
 obj:h.get? x=some (PySem.W.instObj C dx)
 ns:h.Ns1 dx mA
 ne:dx≠x
def LF{h:Heap}{dx}{mA}(n:h.Ns1 dx mA):∃f,h.get? dx=some f/\∀name,PySem.W.lookIn name f=some (mA name):=by
 obtain⟨o,u,v,l,s,r,_,p⟩:=n;refine⟨o,l,λname=>?_⟩;have e:=p name;unfold nsFind findBy at e;unfold PySem.W.lookIn;rw[s]
 dsimp only
 split
 ·grind
 ·rename_i q
  have a:u.toList.any (·.refKey)=false:=by
   rw[List.any_eq_false];intro y g;obtain⟨z,t,b⟩:=r y (Array.mem_toList_iff.mp g);simp[DictEntry.refKey,b]
  grind
def K4.look (I:K4 h x n C f):∃b,PySem.W.InstAt h x (PySem.W.instObj C n) C (some b)/\∀name,PySem.W.lookIn name b=some (f name):=
 let ⟨b,g,l⟩:=LF I.ns
 ⟨b,⟨I.obj,rfl,rfl,g⟩,l⟩
section
variable {prog:Program}{w:World}{A:Around}{E:Yf}{s:Shared}{K:Ya}{x dx C f:Addr}{mA:Ye}{name:Str}{v:Value}
def Hs{Q}(X:K.In s.heap)(I:K4 s.heap x dx C mA)(l:PySem.W.plainGet K C name=true)(g:PySem.W.hasDictIn K C=true)(n:PySem.W.findIn K (.ref C) name=some none)(p:mA name=some v)(b:PySem.W.handedIn v=true)(h:Q v {s with toks:=s.toks+1}) :
  wpAny (model prog w) A (getAttr (.ref x) name expr) Q E s:=by
 obtain⟨o,J,q⟩:=I.look;exact PySem.W.get_value X J (Vr l).1 (PySem.W.findObj_own g n rfl<|by grind) b h
def Zch{Q}(X:K.In s.heap)(I:K4 s.heap x dx C mA)(b:PySem.W.plainGet K C name=true)(p:PySem.W.findIn K (.ref C) name=some (some<|.ref f))(n:PySem.W.isFn K (.ref f)=true)(l:mA name=none)(h:Q (.ref f,[.ref x]) s) :
  wpAny (model prog w) A (getMethod (.ref x) name q) Q E s:=by
 obtain⟨g,J,o⟩:=I.look;exact PySem.W.method_fn X J (Vr b).1 (Vr b).2 p (beq_iff_eq.mp n) (by show(PySem.W.lookIn name g).map (·.isSome)=some false;rw[o,l];rfl) h
def Rn(X:K.In s.heap)(I:K4 s.heap x dx C mA)(z:PySem.W.findIn K (.ref C) "__setattr__"=some (some<|.builtin "object.__setattr__"))(B:PySem.W.plainOver K C=true)(u:PySem.W.takerIn K C name=some none)(G:PySem.W.hasDictIn K C=true)(hw:PySem.Within mA ns)(hsz:ns.length<=sizeLine)(h:∀n,K4 n x dx C (λy=>if y=name then some v else mA y)->Heap.SameBut dx s.heap n->Q () {s with heap:=n,toks:=s.toks+2}) :
  wpAny (model prog w) A (setAttr (.ref x) name v) Q E s:=by
 obtain⟨N,J,U⟩:=I.look;refine PySem.W.set_plain X J z (PySem.W.osa_open X J B u λb=>?_);obtain⟨Y,H,q⟩:=PySem.W.any_some G;refine Wa (We<|Wa<|Wa<|wpAny_loadPart I.obj<|Wa<|PySem.W.Looks.here (PySem.W.looks_clsIn X H) ?_);rw[q];refine We (Wa<|We<|Wa ?_);refine wpAny_nsSet1 I.ns λn l g=>?_;obtain⟨T,L,M,o,p,r⟩:=l.count (PySem.Within.cons name v hw);refine Wa (wpAny_lookBehind o (by rw[p];exact pastItsLine_dict (Wt r<|by grind)) ?_);exact We (h _ ⟨(g.2 _<|Ne.symm I.ne).trans I.obj,l,I.ne⟩ g)
def Of{vs b}(X:K.In s.heap)(g:PySem.W.makesIn K C=true)(l:PySem.W.findIn K (.ref C) "__init__"=some (some<|.ref f))(n:PySem.W.typeIn K (.ref f)=some (.type "function"))
  (h:codeAny (model prog w) (A.under<|.builtin "type.__call__" ⟨.ref C::vs,b⟩) (.call (.ref f) ⟨.ref (s.heap.objs.size+1)::vs,b⟩) (PySem.W.InitBack (s.heap.objs.size+1) R)
   {s with heap:=(s.heap.push PySem.W.emptyDict).push (PySem.W.instObj C s.heap.objs.size)}) :
  codeAny (model prog w) A (.call (.ref C) ⟨vs,b⟩) R s:=PySem.W.make_core (PySem.W.makes_of X g) (PySem.W.looks_findIn X l) (λself=>PySem.W.bind_fn X self n) (.inl rfl) h
end
noncomputable def UR(f:Str)(v:V):List (Str×V)->List (Str×V)
 |[]=>[(f,v)]
 |(g,x)::r=>if g=f then(g,v)::r else(g,x)::UR f v r
theorem Es(f g:Str)(v:V):∀fs,(UR f v fs).lookup g=if g=f then some v else fs.lookup g
 |[]=>by
  show List.lookup g [(f,v)]=_;by_cases h:g=f
  ·have b:=beq_iff_eq.mpr h;simp only[List.lookup,b,Wj h]
  ·have b:=Qx.mpr h;simp only[List.lookup,b,Wf h]
 |(k,x)::r=>by
  rw[show UR f v ((k,x)::r)=(if k=f then(k,v)::r else(k,x)::UR f v r)from rfl]
  by_cases l:k=f
  ·rw[Wj l];by_cases h:g=k
   ·simp_all
   ·have b:=Qx.mpr h;simp only[List.lookup,b,Wf (λe:g=f=>h (e.trans l.symm))]
  ·rw[Wf l];by_cases h:g=k
   ·simp_all
   ·have b:=Qx.mpr h;simp only[List.lookup,b];exact(Es f g v r)
theorem Bg(f:Str)(v:V):∀fs,f∈(UR f v fs).map (·.1)/\∀g,g∈fs.map (·.1)->g∈(UR f v fs).map (·.1)
 |[]=>⟨by simp[UR],λg h=>by simp at h⟩
 |(k,x)::r=>by
  obtain⟨l,b⟩:=Bg f v r;rw[show UR f v ((k,x)::r)=(if k=f then(k,v)::r else(k,x)::UR f v r)from rfl]
  by_cases n:k=f
  ·grind
  ·grind
theorem CZ(f:Str)(v:V):∀fs,(UR f v fs).length<=fs.length+1
 |[]=>by simp[UR]
 |(k,x)::r=>by
  have b:=CZ f v r;rw[show UR f v ((k,x)::r)=(if k=f then(k,v)::r else(k,x)::UR f v r)from rfl]
  by_cases g:k=f
  ·grind
  ·grind
def RelO.some_of (r:RelO (some v) o):∃u,o=some u/\RelV v u:=by
 cases o with
 |none=>trivial
 |some u=>exact⟨u,rfl,r⟩
def RelO.none_of (r:RelO none o):o=none:=by
 cases o with
 |none=>rfl
 |some u=>trivial
def LP(r:RelV v u):PySem.W.handedIn u=true:=by
 cases v with
 |non|bl b|ref a|ty n=>cases r;rfl
 |_=>obtain⟨t,e⟩:=r;cases e;rfl
section
variable {P:Program}{w:World}{H H':Hp}{h h':Heap}{a C dx:Addr}{fs fs':List (Str×V)}
def Nb(g:HOk P w H h)(e:H a=some (.ins C dx fs)):∃b,K4 h a dx C b/\(∀f,RelO (fs.lookup f) (b f))/\PySem.Within b (fs.map (·.1))/\fs.length<=1000/\H dx=some (.own a):=by
 obtain⟨d,z,o,l,b,n,r,q⟩:=(g a _ e);exact⟨b,⟨l,n,o⟩,r,q,z,d⟩
end
structure Cls (K:Ya) (C:Addr):Prop where
 pg:PySem.W.plainGet K C Str.empty=true
 hd:PySem.W.hasDictIn K C=true
 po:PySem.W.plainOver K C=true
 sa:PySem.W.findIn K (.ref C) "__setattr__"=some (some<|.builtin "object.__setattr__")
def Cls.get {K C} (c:Cls K C) (f:Str):PySem.W.plainGet K C f=true:=c.pg
def NoAttr(K:Ya)(C:Addr)(f:Str):Prop:=PySem.W.findIn K (.ref C) f=some none
def NoAttr.taker {K C f} (n:NoAttr K C f):PySem.W.takerIn K C f=some none:=by
 unfold PySem.W.takerIn;rw[show PySem.W.findIn K (.ref C) f=some none from n]
 rfl
structure U6 (K:Ya) (C:Addr) (m:Str) (f:Addr):Prop where
 at_:PySem.W.findIn K (.ref C) m=some (some<|.ref f)
 fn:PySem.W.isFn K (.ref f)=true
 kp:PySem.W.keepIn K (.ref f)=true
section
variable {X:Cx}{pins:Yd}{σ:St}{H:Hp}{s:Shared}{a C dx:Addr}{fs:List (Str×V)}{f:Str}{v:V}{A:Around}{E:Yf}
def Hh{Q}(I:Inv X pins σ H s)(e:H a=some (.ins C dx fs))(c:Cls X.K C)(n:NoAttr X.K C f)(l:fs.lookup f=some v)(h:∀u g,Inv X pins σ H g->RelV v u->Q u g):wpAny (model X.prog X.w) A (getAttr (.ref a) f b) Q E s:=by
 obtain⟨q,O,r,_,_,_⟩:=Nb I.hok e;obtain⟨u,p,o⟩:=RelO.some_of (by rw[←l];exact r f);exact Hs I.kIn O (c.get f) c.hd n p (LP o) (h u _ (I.tok _) o)
def B0{Q}(I:Inv X pins σ H s)(e:H a=some (.ins C dx fs))(c:Cls X.K C)(k:U6 X.K C m g)(l:fs.lookup m=none)(h:Q (.ref g,[.ref a]) s):wpAny (model X.prog X.w) A (getMethod (.ref a) m b) Q E s:=by
 obtain⟨n,O,r,_,_,_⟩:=Nb I.hok e;exact Zch I.kIn O (c.get m) k.at_ k.fn (RelO.none_of<|by rw[←l];exact r m) h
def Zco(I:Inv X pins σ H s)(e:H a=some (.ins C dx fs))(c:Cls X.K C)(n:NoAttr X.K C f)(hl:fs.length<1000)(J:RelV y u)(h:∀x,Inv X pins σ (upd H a<|.ins C dx<|UR f y fs) x->Q () x):wpAny (model X.prog X.w) A (setAttr (.ref a) f u) Q E s:=by
 obtain⟨L,O,r,p,_,B⟩:=Nb I.hok e;have M:(fs.map (·.1)).length<=sizeLine:=by rw[Wc,sizeLine_eq];lia
 refine Rn I.kIn O c.sa c.po n.taker c.hd p M λY l G=>h _ ?_;have T:∃o,Y.get? dx=some o:=let ⟨o,_,_,e',_⟩:=l.ns;⟨o,e'⟩;refine I.write (by rw[e];exact True.intro) (.inr B) (λb q U z=>(G.2 b U).trans z) T ?_;refine⟨by rw[Uj O.ne];exact B,?_,O.ne,l.obj,_,l.ns,λg=>?_,λg N=>?_⟩
 ·have:=CZ f y fs;lia
 ·show RelO ((UR f y fs).lookup g) (if g=f then some u else L g);rw[Es];by_cases q:g=f
  ·rw[Wj q,Wj q];exact J
  ·grind
 ·by_cases q:g=f
  ·rw[q];exact(Bg f y fs).1
  ·refine(Bg f y fs).2 g (p g λz=>N ?_)
   grind
def Inv.made (I:Inv X pins σ H s):Inv X pins σ (upd (upd H s.heap.objs.size<|.own (s.heap.objs.size+1)) (s.heap.objs.size+1)<|.ins C s.heap.objs.size [])
  {s with heap:=(s.heap.push PySem.W.emptyDict).push (PySem.W.instObj C s.heap.objs.size)}:=by
 have h:(s.heap.push PySem.W.emptyDict).get? s.heap.objs.size=some PySem.W.emptyDict:=Wn s.heap rfl
 have r:((s.heap.push PySem.W.emptyDict).push (PySem.W.instObj C s.heap.objs.size)).get? (s.heap.objs.size+1)=some (PySem.W.instObj C s.heap.objs.size):=by
  have:=Wn (s.heap.push PySem.W.emptyDict) (o:=PySem.W.instObj C s.heap.objs.size) rfl
  rwa[QT]at this
 have p:(s.heap.push PySem.W.emptyDict).Ns s.heap.objs.size (λ_=>none):=⟨PySem.W.emptyDict,#[],_,h,rfl,(λe n=>absurd n (by simp)),λ_=>rfl⟩;refine(I.laid (o:=.own (s.heap.objs.size+1)) (t':=s.toks) (λb u q=>Wd _ q) (Wk _) ⟨_,h⟩).laid (λb u q=>Wd _ q) (Ql<|QT _ _) ?_;have g:s.heap.objs.size≠s.heap.objs.size+1:=Wu (Vd _);refine⟨by rw[Uj g,Ut],Qe _,g,r,λ_=>none,(Heap.Ns1.of_empty p).at λo q=>Wd _ q,λ_=>True.intro,λy l=>absurd rfl l⟩
def GW{env e f pos s Q}(g:attributeBase e f env (eval e env)=eval e env)(h:wpAny (model prog w) A (eval e env) (λo b=>wpAny (model prog w) A (getAttr o f true) Q E b) E s):wpAny (model prog w) A (eval (.Attribute e f pos) env) Q E s:=
 Attribute_any_ h (by rw[arm_eval_Attribute,g])
end
noncomputable def Sn(K:Ya)(h:TE)(f:Str):TE:=λg H Q=>h g H λx b=>∃a C l fs v,x=.ref a/\b a=some (.ins C l fs)/\Cls K C/\NoAttr K C f/\fs.lookup f=some v/\Q v b
noncomputable def GE(K:Ya)(n l:TE)(f:Str):TS:=λD b H=>l b H λy o=>n b o λx h=>∃a C g fs,x=.ref a/\h a=some (.ins C g fs)/\Cls K C/\NoAttr K C f/\fs.length<1000/\
 D.nx b (upd h a<|.ins C g<|UR f y fs)
section
variable {X:Cx}{o e value:Expr}{f:Str}{pos pos' tpos:Pos}{ta tv:TE}
def Ku(r:PE X e ta)(w:attributeBase e f X.env (eval e X.env)=eval e X.env):PE X (.Attribute e f pos) (Sn X.K ta f):=by
 intro pins s b H Q I h;refine GW w (thn (r pins s b H _ I h) ?_);rintro u L ⟨x,E,B,g,a,C,M,fs,v,y,z,c,n,l,q⟩;subst y;obtain rfl:=g;exact Hh B z c n l λG J A p=>⟨v,E,A,p,q⟩
def Bi(A:PE X o ta)(w:PE X value tv)(z:swapsWith value (some<|.Attribute o f pos') pos.line X.env=pure false):PS X (.Assign [.Attribute o f pos'] value pos) (GE X.K ta tv f):=by
 intro pins s b H D I h;refine plainObj_wpAny_Assign_Attribute (thn (w pins s b H _ I h) ?_) z;rintro u g ⟨y,M,L,p,q⟩;refine thn (A pins g b M _ L q) ?_;rintro T Q ⟨x,Y,J,r,a,C,U,fs,B,E,c,n,l,v⟩;subst B;obtain rfl:=r;exact Zco J E c n l p λN G=>⟨b,_,G,v⟩
def Zdf{m}{apos}{args}{pins}{s}{b:St}{H}{Q}{te}(E:PE X e te)(I:Inv X pins b H s)
  (h:te b H λx p=>∃a C v fs g,x=.ref a/\p a=some (.ins C v fs)/\Cls X.K C/\U6 X.K C m g/\fs.lookup m=none/\
   ∀n,Inv X pins b p n->wpAny (model X.prog X.w) X.A (callWith pos (.ref g) [.ref a] (backTo pos<|starEach args X.env)<|backToKw pos<|keywordEach [] X.env) Q X.xe n)
  (B:eval (.Call (.Attribute e m apos) args [] pos) X.env=(do
   let r ←eval e X.env
   standAt apos.atName
   let (f,first) ←holding [r] (getMethod r m L)
   callWith pos f first (backTo pos<|starEach args X.env) (backToKw pos<|keywordEach [] X.env))) :
  wpAny (model X.prog X.w) X.A (eval (.Call (.Attribute e m apos) args [] pos) X.env) Q X.xe s:=by
 refine Vg (thn (E pins s b H _ I h) ?_) B;rintro u n ⟨x,p,y,z,a,C,v,fs,g,G,J,c,k,l,q⟩;subst G;obtain rfl:=z;exact B0 y J c k l (q n y)
end
section
variable {X:Cx}{pins:Yd}{σ:St}{H:Hp}{s:Shared}{A:Around}{E:Yf}{Q:Yf}{c:Value}{b:Bool}
inductive UY (K:Ya) (H:Hp):V->Value->Prop where
 |non:UY K H .non (.type "NoneType")
 |bl (x:Bool):UY K H (.bl x) (.type "bool")
 |int (i:Int):UY K H (.int i) (.type "int")
 |str (x:Str):UY K H (.str x) (.type "str")
 |flt (x:UInt64):UY K H (.flt x) (.type "float")
 |lst {a:Addr} {xs:List V} (e:H a=some (.lst xs)):UY K H (.ref a) (.type "list")
 |frz {a:Addr} {o:Obj} {xs:List V} (e:H a=some (.frz o<|.lst xs)):UY K H (.ref a) (.type "list")
 |tup {a:Addr} {xs:List V} (e:H a=some (.tup xs)):UY K H (.ref a) (.type "tuple")
 |dK {a:Addr} {kvs:List (Key×V)} (e:H a=some (.dK kvs)):UY K H (.ref a) (.type "dict")
 |dT {a:Addr} {kvs:List (List Key×V)} (e:H a=some (.dT kvs)):UY K H (.ref a) (.type "dict")
 |ins {a C dx:Addr} {fs:List (Str×V)} (e:H a=some (.ins C dx fs)) (cl:Cls K C) (ha:PySem.W.findIn K (.ref C) "__class__"=some (some<|.builtin "object.__class__"))
   (hn:PySem.W.specialIn K (.builtin "object.__class__") "__get__"=some (some<|.builtin "getset_descriptor.__get__")) (htk:PySem.W.takesIn K (.builtin "object.__class__")=some true)
   (hm:PySem.W.mroIn K C (.type "object")=some true):UY K H (.ref a) (.ref C)
def Rk(I:Inv X pins σ H s)(f:RelV x u)(L:UY X.K H x t)(e:PySem.W.kitOne X.K t c=some b)(h:∀M,Q (.bool b) {s with toks:=M}) :
  wpAny (model X.prog X.w) A (call (.builtin "isinstance") [u,c]) Q E s:=by
 cases L with
 |non=>cases f;exact WM PySem.W.kitx_none I.kIn True.intro e (λz=>nomatch z) h
 |bl y=>cases f;exact WM PySem.W.kitx_bool I.kIn True.intro e (λz=>nomatch z) h
 |int i=>obtain⟨t,q⟩:=f;cases q;exact WM PySem.W.kitx_int I.kIn True.intro e (λz=>nomatch z) h
 |str y=>obtain⟨t,q⟩:=f;cases q;exact WM PySem.W.kitx_str I.kIn True.intro e (λz=>nomatch z) h
 |flt y=>obtain⟨t,q⟩:=f;cases q;exact WM PySem.W.kitx_float I.kIn True.intro e (λz=>nomatch z) h
 | @lst a xs g=>
  cases f
  obtain⟨_,_,n,_,l⟩:=(I.hok a _ g);exact WM PySem.W.kitx_list I.kIn ⟨_,l,rfl⟩ e (λz=>nomatch z) h
 | @frz a ob xs g=>
  cases f
  obtain⟨_,_,_,n,_,l⟩:=(I.hok a _ g);exact WM PySem.W.kitx_list I.kIn ⟨_,l,rfl⟩ e (λz=>nomatch z) h
 | @tup a xs g=>
  cases f
  obtain⟨_,_,_,p⟩:=(I.hok a _ g);obtain⟨o,l,r,_⟩:=p;exact WM PySem.W.kitx_tuple I.kIn ⟨o,l,r⟩ e (λz=>nomatch z) h
 | @dK a v g=>
  cases f
  obtain⟨_,_,vs,_,p⟩:=(I.hok a _ g);obtain⟨o,Y,ep,l,r,_⟩:=p;exact WM PySem.W.kitx_dict I.kIn ⟨o,l,r.1⟩ e (λz=>nomatch z) h
 | @dT a v g=>
  cases f
  obtain⟨_,_,xs,_,o,Y,ep,l,r,_⟩:=(I.hok a _ g);exact WM PySem.W.kitx_dict I.kIn ⟨o,l,r.1⟩ e (λz=>nomatch z) h
 | @ins a C dx fs g G U N B T=>
  cases f
  obtain⟨mA,O,_⟩:=Nb I.hok g;obtain⟨od,J,_⟩:=O.look;exact WM (PySem.W.kitx_own (G.get _) G.hd U N B T) I.kIn J e (λz=>nomatch z) h
end
structure Ui (k:Nat) (A:Around):Prop where
 hd:A.handled=none
 dp:A.depth+3*k+5<recursionLimit
 un:A.units+16*k+200<cLine
 gd:A.guards=some []
def Ui.mono {j k A} (r:Ui k A) (h:j<=k):Ui j A:=⟨r.hd,by have:=r.dp;lia,by have:=r.un;lia,r.gd⟩
def Ui.deeper (r:Ui (k+1) A) (env:Env):Ui k (A.deeper env):=
 ⟨r.hd,by have:=r.dp;show A.depth+1+3*k+5<_;lia,by have:=r.un;show A.units+3+16*k+200<_;lia,r.gd⟩
def HH{A:Around}{C}{us}{kw}:(A.under<|.builtin "type.__call__" ⟨.ref C::us,kw⟩).depth=A.depth+1:=by
 rfl
def Iu{A:Around}{C}{us}{kw}:(A.under<|.builtin "type.__call__" ⟨.ref C::us,kw⟩).units=A.units+1:=rfl
def MT{A:Around}{C:Addr}{us:Yi}{b:List (Str×Value)}(h:A.guards=some []):(A.under<|.builtin "type.__call__" ⟨.ref C::us,b⟩).guards=some []:=by
 simpa [Around.under,Code.guards,Code.isGuard,guardIds,pushGuards]using h
def Ui.make (r:Ui (k+1) A) (C:Addr) (us:Yi) (b:List (Str×Value)):Ui k (A.under<|.builtin "type.__call__" ⟨.ref C::us,b⟩):=
 ⟨r.hd,by have:=r.dp;rw[HH];lia,by have:=r.un;rw[Iu];lia,MT r.gd⟩
def Ui.depth (r:Ui k A):A.depth<recursionLimit:=by have:=r.dp;lia
def Ui.units (r:Ui k A):A.units+64<cLine:=by have:=r.un;lia
def Ui.units0 (r:Ui k A):A.units<cLine:=by have:=r.un;lia
noncomputable def Xc:TA:=λ_ H Q=>Q [] H
noncomputable def UG(g:TE)(f:TA):TA:=λb H Q=>g b H λx l=>f b l λxs h=>Q (x::xs) h
section
variable {X:Cx}{e:Expr}{es:Yk}{te:TE}{t:TA}{pos:Pos}
def UO:PA X [] Xc:=λ_ _ _ _ H Q I h=>Calls.spliced_nil ⟨[],H,I,.nil,h⟩
def Xd(r:PE X e te)(q:PA X es t)(p:autoParam (starEach (e::es) X.env=(false,eval e X.env)::starEach es X.env) au_0):PA X (e::es) (UG te t):=by
 intro pos pins s b H Q I h;rw[p];refine Calls.spliced_cons (thn (r pins s b H _ I h) ?_);rintro u f ⟨x,z,w,l,o⟩;exact thn (q pos pins f b z _ w o) λA B ⟨xs,y,v,g,n⟩=>⟨x::xs,y,v,.cons l g,n⟩
noncomputable def Gr(t:TA):TE:=λf H Q=>t f H λxs b=>xs.length<=sizeLine/\∀p,b p=none->Q (.ref p) (upd b p<|.tup xs)
noncomputable def AX(t:TA):TE:=λf H Q=>t f H λxs b=>xs.length<=sizeLine/\∀p,b p=none->Q (.ref p) (upd b p<|.lst xs)
def T6(h:PA X es t):PE X (.Tuple es p pos) (Gr t):=by
 intro pins s l H Q I hq;refine wpAny_Tuple_spliced (thn (h pos pins s l H _ I hq) ?_);rintro n f ⟨xs,o,g,r,z,q⟩;refine⟨by rw[←r.length];exact z,?_⟩;refine⟨.ref f.heap.objs.size,upd o f.heap.objs.size (.tup xs),g.laid (λb u e=>Wd _ e) (Wk _) ?_,rfl,q _ (g.hok.fresh<|Wk _)⟩;exact⟨z,n,r,⟨_,Wn _ rfl,rfl,_,rfl⟩⟩
def X4(h:PA X es t):PE X (.List es pos) (AX t):=by
 intro pins s l H Q I hq;refine wpAny_List_spliced (thn (h pos pins s l H _ I hq) ?_);rintro n f ⟨xs,o,g,r,z,q⟩;refine⟨by rw[←r.length];exact z,?_⟩;refine⟨.ref f.heap.objs.size,upd o f.heap.objs.size (.lst xs),g.laid (λb u e=>Wd _ e) (Wk _) ?_,rfl,q _ (g.hok.fresh<|Wk _)⟩;exact⟨z,n,0,r,Wn _ rfl⟩
end
abbrev Sp:=List V->Hp->VK->XK->Prop
abbrev CXT:=List Env->Hp->Shared->XK->Yf
structure Ks (P:Program) (w:World) (K:Ya) (mg:Ye) (base:Heap) (A:Around) (outer:List Env) (s:Shared) (H:Hp):Prop where
 frames:A.frames=some outer
 mod:Mod K mg base
 bs:∀b o,base.get? b=some o->s.heap.get? b=some o/\H b=none
 bsz:base.objs.size<=s.heap.objs.size
 funs:s.heap.FunFrames base outer
 frf:∀b∈frs outer,H b=none
 hok:HOk P w H s.heap
 bare:AllBare s.gens
def CE(outer:List Env)(P:Program)(w:World)(H:Hp)(s:Shared)(Q:VK)(u:Value)(b:Shared):Prop:=
 ∃v f,b.os=s.os/\AllBare b.gens/\Un (frs outer) [] H f s.heap b.heap/\HOk P w f b.heap/\RelV v u/\Q v f
def CR(CX:CXT)(outer:List Env)(P:Program)(w:World)(H:Hp)(s:Shared)(Q:VK)(E:XK)(r:Result)(b:Shared):Prop:=
 match r with
 | .ok (.ret u)=>CE outer P w H s Q u b
 | .ok _=>False
 | .error e=>CX outer H s E e b
structure UQ (P:Program) (w:World) (K:Ya) (mg:Ye) (base:Heap) (CX:CXT) (k:Nat) (f:Addr) (fd:FuncData) (ps:Yj) (sp:Sp):Prop where
 len:∀vs H Q E,sp vs H Q E->vs.length=ps.length
 run:∀(A:Around) (outer:List Env) (s:Shared) (H:Hp) (args:Args) (us:Yi) (vs:List V) (Q:VK) (E:XK),Ui k A->Ks P w K mg base A outer s H->BindsTo s fd args (ps.zip us)->Vals vs us->sp vs H Q E->
  codeAny (model P w) A (.call (.ref f) args) (CR CX outer P w H s Q E) s
def UQ.imp {K g base CX k f l ps sp b} (F:UQ P w K g base CX k f l ps sp)
  (h:∀vs H Q E,b vs H Q E->sp vs H Q E):UQ P w K g base CX k f l ps b:=
 ⟨λvs H Q E q=>F.len vs H Q E (h _ _ _ _ q),λA outer s H args n vs Q E r u v o p=>F.run A outer s H args n vs Q E r u v o (h _ _ _ _ p)⟩
def Ks.make {K b base A outer s H} (e:Ks P w K b base A outer s H) (C:Addr) (us:Yi) (f:List (Str×Value)) :
  Ks P w K b base (A.under<|.builtin "type.__call__" ⟨.ref C::us,f⟩) outer s H:=⟨by first|exact e.frames|(simpa [Around.under,Code.envs,Code.isFrame,pushEnvs]using e.frames),e.mod,e.bs,e.bsz,e.funs,e.frf,e.hok,e.bare⟩
section
variable {X:Cx}{pins:Yd}{σ:St}{H:Hp}{s s':Shared}
def Inv.env0 (I:Inv X pins σ H s):Ks X.prog X.w X.K X.mg X.base X.A X.stack s H:=
 ⟨I.ok.frames,I.ok.mod,I.bs,Wt I.ok.bsz I.sz,I.stack,I.stkFree,I.hok,I.bare⟩
def Inv.after (I:Inv X pins σ H s) (h:CE X.stack X.prog X.w H s Q u s'):EP X pins σ Q u s':=by
 obtain⟨v,n,os,bare,un,f,r,q⟩:=h;obtain⟨o,g,d,t,l⟩:=s';obtain rfl:=os;exact⟨v,n,I.call un f bare (λb z=>absurd z (by simp)),r,q⟩
end
noncomputable def KN(sp:Sp)(b:List V)(E:XK)(t:TA):TE:=λf H Q=>t f H λg h=>sp (g++b) h Q E
noncomputable def K5(C:Addr)(m:Str)(sp:Sp)(b:List V)(E:XK)(l:TE)(t:TA):TE:=λf H Q=>l f H λx g=>∃a n fs,x=.ref a/\g a=some (.ins C n fs)/\fs.lookup m=none/\
 t f g λh o=>sp (x::(h++b)) o Q E
noncomputable def NY(C:Addr)(sp:Sp)(f:List V)(E:XK)(t:TA):TE:=λh H Q=>t h H λl g=>∀x b,g x=none->g b=none->b≠x->
 sp (.ref x::(l++f)) (upd (upd g b<|.own x) x<|.ins C b []) (λv n=>v=.non/\Q (.ref x) n) E
def Binds(K:Ya)(f:FuncData)(ps:Yj)(ds:Yi):Prop:=
 ∀(s:Shared) (b:Yi),K.In s.heap->(b++ds).length=ps.length->BindsTo s f ⟨b,[]⟩ (ps.zip (b++ds))
def Binds.all {K f ps} (h:∀us,us.length=ps.length->bindArgs f ⟨us,[]⟩=pure (ps.zip us)):Binds K f ps []:=λs us _ b=>by
 rw[W2]at b ⊢;exact .of_eq (h us b)
def Xo(CX:CXT)(X:Cx)(E:XK):Prop:=∀(pins:Yd) (f:St) (H:Hp) (s:Shared) (e:Value) (b:Shared),Inv X pins f H s->CX X.stack H s E e b->X.xe e b
section
variable {X:Cx}{CX:CXT}{k:Nat}{f C:Addr}{fd:FuncData}{ps:Yj}{sp:Sp}{dvs:List V}{ds:Yi}{E:XK}{x m:Str}{p pos apos:Pos}{e o:Expr}{es:Yk}{ta:TE}{t:TA}
def N5{b:St}{H}{s}{Q}{us}{vs}(F:UQ X.prog X.w X.K X.mg X.base CX k f fd ps sp)(n:Ui k X.A)(y:Binds X.K fd ps ds)(v:Vals dvs ds)(hx:Xo CX X E)(I:Inv X pins b H s)(r:Vals vs us)(h:sp (vs++dvs) H Q E):wpAny (model X.prog X.w) X.A (call (.ref f) us) (EP X pins b Q) X.xe s:=by
 have g:=r.append v;have q:(us++ds).length=ps.length:=by rw[←g.length];exact F.len _ _ _ _ h
 refine wpAny_call (Qw (F.run X.A X.stack s H ⟨us,[]⟩ (us++ds) (vs++dvs) Q E n I.env0 (y s us I.kIn q) g h) λr l hq=>?_);cases r with
 |error e=>exact hx pins b H s e l I hq
 |ok z=>
  cases z with
  |ret u=>exact I.after hq
  |cont=>exact False.elim hq
  |_=>trivial
def OD(F:UQ X.prog X.w X.K X.mg X.base CX k f fd ps sp)(u:Ui k X.A)(z:Gl X x)(v:X.mg x=some (.ref f))(y:PySem.W.keepIn X.K (.ref f)=true)(J:Binds X.K fd ps ds)(G:Vals dvs ds)(hx:Xo CX X E)(L:PA X (e::es) t)(g:autoParam ((x==("__debug__" : Str))=false) au_1)(B:autoParam (starEach (e::es) X.env=(false,eval e X.env)::starEach es X.env) au_0)(b:autoParam ((backTo pos<|starEach es X.env).any (·.1)=false) au_0) :
  PE X (.Call (.Name x p) (e::es) [] pos) (KN sp dvs E t):=by
 intro pins s n H Q I h;refine Q1 (K0 I z v ?_ g);refine QM I.ok.mod.kin y (thn (L pos pins s n H _ I h) ?_) B b;rintro N T ⟨M,U,l,r,q⟩;refine⟨l.kIn,?_⟩;exact N5 F u J G hx l r q
def Os{pl}(T:PE X o ta)(c:Cls X.K C)(y:U6 X.K C m f)(F:UQ X.prog X.w X.K X.mg X.base CX k f fd ps sp)(N:Ui k X.A)(Y:Binds X.K fd ps ds)(U:Vals dvs ds)(hx:Xo CX X E)(ha:PA X (e::es) t)(b:autoParam (starEach (e::es) X.env=(false,eval e X.env)::starEach es X.env) au_0)(g:autoParam ((backTo pos<|starEach es X.env).any (·.1)=false) au_0)
  (M:autoParam (eval (.Call (.Attribute o m apos) (e::es) [] pos) X.env=(do
   let v ←eval o X.env
   standAt apos.atName
   let (f,first) ←holding [v] (getMethod v m pl)
   callWith pos f first (backTo pos<|starEach (e::es) X.env) (backToKw pos<|keywordEach [] X.env))) au_0) :
  PE X (.Call (.Attribute o m apos) (e::es) [] pos) (K5 C m sp dvs E ta t):=by
 intro pins s n H Q I h;refine Vg (thn (T pins s n H _ I h) ?_) M;rintro u G ⟨x,H1,B,J,a,dx,fs,ex,ea,l,q⟩;subst ex;obtain rfl:=J;refine B0 B ea c y l ?_;refine QM I.ok.mod.kin y.kp (thn (ha pos pins G n H1 _ B q) ?_) b g;rintro us s2 ⟨vs,H2,z,r,L⟩;refine⟨z.kIn,?_⟩;exact N5 (vs:=.ref a::vs) F N Y U hx z (.cons rfl r) L
def Lq(B:PE X o ta)(c:Cls X.K C)(n:U6 X.K C m f)(F:UQ X.prog X.w X.K X.mg X.base CX k f fd ps sp)(z:Ui k X.A)(J:Binds X.K fd ps ds)(G:Vals dvs ds)(hx:Xo CX X E)
  (y:autoParam (eval (.Call (.Attribute o m apos) [] [] pos) X.env=(do
   let g ←eval o X.env
   standAt apos.atName
   let (f,first) ←holding [g] (getMethod g m T)
   callWith pos f first (backTo pos<|starEach [] X.env) (backToKw pos<|keywordEach [] X.env))) au_0) :
  PE X (.Call (.Attribute o m apos) [] [] pos) (K5 C m sp dvs E ta Xc):=by
 intro pins s r H Q I h;refine Vg (thn (B pins s r H _ I h) ?_) y;rintro u N ⟨x,Y,b,v,a,U,fs,L,M,l,q⟩;subst L;obtain rfl:=v;refine B0 b M c n l ?_;exact PySem.W.callWith_K0 b.kIn n.kp (N5 (vs:=[.ref a]) F z J G hx b (.cons rfl .nil) q)
structure Mk (K:Ya) (C f:Addr):Prop where
 makes:PySem.W.makesIn K C=true
 init:PySem.W.findIn K (.ref C) "__init__"=some (some<|.ref f)
 fn:PySem.W.isFn K (.ref f)=true
 kp:PySem.W.keepIn K (.ref C)=true
def GU{n:St}{H}{s}{Q}{us}{vs}(M:Mk X.K C f)(F:UQ X.prog X.w X.K X.mg X.base CX k f fd ps sp)(G:Ui (k+1) X.A)(N:Binds X.K fd ps ds)(L:Vals dvs ds)(hx:Xo CX X E)(I:Inv X pins n H s)(r:Vals vs us)(h:∀x g,H x=none->H g=none->g≠x->sp (.ref x::(vs++dvs)) (upd (upd H g<|.own x) x<|.ins C g []) (λv H2=>v=.non/\Q (.ref x) H2) E) :
  wpAny (model X.prog X.w) X.A (call (.ref C) us) (EP X pins n Q) X.xe s:=by
 have hq:=h (s.heap.objs.size+1) s.heap.objs.size (I.hok.fresh<|Q4 _) (I.hok.fresh<|Wk _) (Wu<|Vd _);have l:=Inv.made (C:=C) I;have q:Vals (V.ref (s.heap.objs.size+1)::(vs++dvs)) (Value.ref (s.heap.objs.size+1)::(us++ds)):=.cons rfl (r.append L)
 have J:(Value.ref (s.heap.objs.size+1)::us++ds).length=ps.length:=by
  have e:=q.length;rw[F.len _ _ _ _ hq]at e
  grind
 refine wpAny_call (Of I.kIn M.makes M.init (beq_iff_eq.mp M.fn) (Qw (F.run _ X.stack _ _ ⟨Value.ref (s.heap.objs.size+1)::us,[]⟩ (Value.ref (s.heap.objs.size+1)::(us++ds)) _ _ E (G.make C us [])
  (l.env0.make C us []) (N _ (Value.ref (s.heap.objs.size+1)::us) l.kIn J) q hq) λr y b=>?_))
 cases r with
 |error e=>exact hx pins n _ _ e y l b
 |ok T=>
  cases T with
  |ret u=>
   obtain⟨v,H',Y,z,U,B⟩:=l.after b;subst U;exact⟨z,⟨V.ref (s.heap.objs.size+1),H',Y,rfl,B⟩⟩
  |_=>exact False.elim b
def Zcg(M:Mk X.K C f)(F:UQ X.prog X.w X.K X.mg X.base CX k f fd ps sp)(u:Ui (k+1) X.A)(y:Gl X x)(v:X.mg x=some (.ref C))(G:Binds X.K fd ps ds)(B:Vals dvs ds)(hx:Xo CX X E)(J:PA X (e::es) t)(g:autoParam ((x==("__debug__" : Str))=false) au_1)(z:autoParam (starEach (e::es) X.env=(false,eval e X.env)::starEach es X.env) au_0)(b:autoParam ((backTo pos<|starEach es X.env).any (·.1)=false) au_0) :
  PE X (.Call (.Name x p) (e::es) [] pos) (NY C sp dvs E t):=by
 intro pins s n H Q I h;refine Q1 (K0 I y v ?_ g);refine QM I.ok.mod.kin M.kp (thn (J pos pins s n H _ I h) ?_) z b;rintro N T ⟨L,U,l,r,q⟩;refine⟨l.kIn,?_⟩;exact GU M F u G B hx l r q
end
structure Uh (N P:Yj) (sc:Scope):Prop where
 kind:sc.kind=.function
 co:sc.isCoroutine=false
 gen:sc.isGenerator=false
 nd:N.Nodup
 pre:N.take P.length=P
 par:∀x∈P,sc.names.lookup x=some .local\/sc.names.lookup x=some .cell
 nofree:∀y∈sc.names,y.2≠.free
theorem Aj{kindOf x}:∀{binds}{m:Ye},(∀v,(x,v)∉binds)->bindL kindOf binds m x=m x
 |[],_,_=>rfl
 |(n,v)::r,m,h=>by
  unfold bindL;rw[Aj λw hw=>h w (Wr _ hw)];split
  ·grind
  ·rfl
theorem EG{kindOf x}:∀{binds}{m:Ye},(∀v,(x,v)∉binds)->bindC kindOf binds m x=m x
 |[],_,_=>rfl
 |(n,v)::r,m,h=>by
  unfold bindC;rw[EG λw hw=>h w (Wr _ hw)];split
  ·rfl
  ·grind
theorem Ak{kindOf}{x}{v}:∀{P:Yj}{vs}{i:Nat}{m:Ye},P.Nodup->P[i]?=some x->vs[i]?=some v->kindOf x=some .local->
  bindL kindOf (P.zip vs) m x=some v
 |[],_,_,_,_,h,_,_|_::_,[],_,_,_,_,h,_=>by simp at h
 |p::P,w::vs,0,m,b,l,g,f=>by
  simp at l g;subst l;subst g;show bindL kindOf ((p,w)::P.zip vs) m p=_;unfold bindL;rw[Aj λv n=>(Qn.mp b).1 (List.of_mem_zip n).1,Wj f];simp
 |p::P,w::vs,i+1,m,b,l,g,f=>by
  unfold bindL;exact Ak (Qn.mp b).2 (by trivial) (by grind) f
theorem Gs{kindOf}{x}{v}:∀{P:Yj}{vs}{i:Nat}{m:Ye},P.Nodup->P[i]?=some x->vs[i]?=some v->kindOf x≠some .local->
  bindC kindOf (P.zip vs) m x=some v
 |[],_,_,_,_,h,_,_|_::_,[],_,_,_,_,h,_=>by simp at h
 |p::P,w::vs,0,m,b,l,g,f=>by
  simp at l g;subst l;subst g;show bindC kindOf ((p,w)::P.zip vs) m p=_;unfold bindC;rw[EG λv n=>(Qn.mp b).1 (List.of_mem_zip n).1,Wf f];simp
 |p::P,w::vs,i+1,m,b,l,g,f=>by
  unfold bindC;exact Gs (Qn.mp b).2 (by trivial) (by grind) f
noncomputable def start(N:Yj)(vs:List V):St:=vs.map some++List.replicate (N.length-vs.length) none
noncomputable def Uy(CX:CXT)(P:Program)(w:World)(K:Ya)(mg:Ye)(base:Heap)(N:Yj)(qual:Str)(scope:Scope)(f:Addr)(cd:Value)(A:Around)(outer:List Env)(s:Shared)(H:Hp)(E:XK):Cx where
 prog:=P
 w:=w
 K:=K
 mg:=mg
 base:=base
 A:=A.deeper (envOfC qual scope s.heap.objs.size f cd)
 N:=N
 s₀:=s
 H₀:=H
 env:=envOfC qual scope s.heap.objs.size f cd
 outer:=outer
 stack:=envOfC qual scope s.heap.objs.size f cd::outer
 ex:=[]
 calm:=true
 fn:=λ_=>true
 pn:=[]
 xe:=λe s'=>wpAny (model P w) (A.deeper<|envOfC qual scope s.heap.objs.size f cd) (leaving (envOfC qual scope s.heap.objs.size f cd) e) (λ_ s''=>CX outer H s E e s'') (λe' s''=>CX outer H s E e' s'') s'
def Ge{b:Scope}{n}{x}(h:b.names.lookup x=some .cell):∃c,(cellsFrom n b.names []).lookup x=some c:=by
 exact Option.isSome_iff_exists.mp (PySem.W.cellsFrom_some b.names n []<|.inl h)
def Iv{P}{w}{K}{mg}{base}{N ps}{qual}{scope}{f}{cd}{A}{outer}{s L}{H}{E}{us}{vs}(S:Uh N ps scope)(Y:A.handled=none)(l:Ks P w K mg base A outer s H)(hl:vs.length=ps.length)(r:Vals vs us)(x:InCallC s s.heap.objs.size (bindL (envOfC qual scope s.heap.objs.size f cd).kindOf (ps.zip us) λ_=>none) (cellsFrom (s.heap.objs.size+1) scope.names []) (bindC (envOfC qual scope s.heap.objs.size f cd).kindOf (ps.zip us) λ_=>none) L) :
  Inv (Uy CX P w K mg base N qual scope f cd A outer s H E) [] (start N vs) H L:=by
 have U:ps.length<=N.length:=by have:=WA List.length S.pre;rw[WN]at this;lia
 obtain⟨J,tk,rfl,Q⟩:=x.done;have n:∀b,b∉(Uy CX P w K mg base N qual scope f cd A outer s H E).ex:=λb z=>absurd (show b∈([]:List Addr)from z) (by simp)
 refine⟨⟨l.mod,S.kind,rfl,rfl,Wk _,λy z c J g=>?_,λy o=>?_,λy c _ h=>?_,λ_=>Y,Around.frames_deeper l.frames,.inr ⟨rfl,rfl⟩,λb z=>absurd z (n b),l.bs,l.bsz,λb _ _=>n b,λb z=>absurd z (n b),l.funs,l.frf⟩,
  rfl,l.bare,Un.kept Q,⟨_,x.toInCall.ns,λi y v J g h3=>?_⟩,λy c h=>⟨_,x.cell y c h⟩,l.hok.fresh (Wk _),λy c h=>?_,λp C=>absurd (show p∈([]:Yd)from C) (by simp),l.hok.kept Q,?_⟩
 ·exact name_of_addr x.apart (Qj J) (Qj g)
 ·have o:=o;rcases o with o|o
  ·exact Ge o
  ·exact absurd rfl (S.nofree _<|Qj o)
 ·exact QL (x.above y c<|Qj h)
 ·have G:i<vs.length:=by
   unfold start at g;by_cases G:i<vs.length
   ·exact G
   ·rw[Qr (by simpa using G)]at g;rw[QU]at g;split at g<;>cases g
  have ha:vs[i]?=some v:=by
   unfold start at g;rw[Qd (by simpa using G),Wq]at g;cases e:vs[i]? with
   |none=>rw[e]at g;cases g
   |some a=>rw[e]at g;cases g;rfl
  obtain⟨u,M,T⟩:=r.get ha
  have C:ps[i]?=some y:=by
   rw[←S.pre,List.getElem?_take_of_lt (by lia)];exact J
  have B:ps.Nodup:=by rw[←S.pre];exact S.nd.sublist (Vx _ _)
  refine⟨u,T,?_⟩;rcases S.par y (WE C)with k|k
  ·exact .inl ⟨k,Ak B C M k⟩
  ·obtain⟨c,e⟩:=Ge k;refine .inr ⟨.inl k,c,e,?_⟩;have q:=x.cell y c e;rw[Gs B C M (by show scope.names.lookup y≠_;rw[k];decide)]at q;exact q
 ·exact l.hok.fresh (QL<|x.above y c<|Qj h)
 ·unfold start;show _=N.length;rw[Wx,Wc,List.length_replicate];lia
def Bb{K M base k f name qual params body scope dV kV L pm g ct oc an od Y N ps sp}(lk:K.lookup f=some ⟨oc,od,.func (PySem.W.fnOf name qual params body scope dV kV L pm an g ct),Y⟩)(hcd:PySem.W.codeIn K g qual=true)(S:Uh N ps scope)(len:∀vs H Q E,sp vs H Q E->vs.length=ps.length)
  (p:∀A outer s H vs Q E,Ui k (A.deeper<|envOfC qual scope s.heap.objs.size f g)->sp vs H Q E->
   ∃t,PSs (Uy CX P w K M base N qual scope f g A outer s H E) body t/\t {nx:=λ_ H'=>Q .non H',rt:=Q} (start N vs) H) :
  UQ P w K M base CX (k+1) f (PySem.W.fnOf name qual params body scope dV kV L pm an g ct) ps sp:=by
 refine⟨len,λA outer s H args us vs Q E hr G hb r z=>?_⟩;have KX:=G.mod.kin.keeps λb o e=>(G.bs b o e).1
 have l:∀y∈ps.zip us,scope.names.lookup y.1=some .local\/(scope.names.lookup y.1=some .cell/\((cellsFrom (s.heap.objs.size+1) scope.names []).lookup y.1).isSome=true):=λ⟨n,v⟩ hy=>by
  rcases S.par n (List.of_mem_zip hy).1 with q|q
  ·exact .inl q
  ·exact .inr ⟨q,PySem.W.cellsFrom_some _ _ _ (.inl q)⟩
 refine codeAny_call_function hr.depth (KX _ _ lk) rfl S.co S.gen rfl (PySem.W.codeRec_of KX hcd) (hb _ _ _ _ ?_);refine wpAny_newFunctionEnv_cells S.kind l λenv he s1 x=>?_;subst he;refine⟨(G.mod.nolimit.keeps λb o e=>(G.bs b o e).1).keeps x.toInCall.keep,codeAny_func ?_⟩;obtain⟨t,ht,hq⟩:=p A outer s H vs Q E (hr.deeper _) z;have I:Inv (Uy CX P w K M base N qual scope f g A outer s H E) [] (start N vs) H s1:=Iv S hr.hd G (len _ _ _ _ z) r x;refine WB (ht [] s1 (start N vs) H _ I hq) (λfl T B=>?_) λe T B=>B
 have C:∀{h:St} {H':Hp} {v:V} {u:Value},Inv (Uy CX P w K M base N qual scope f g A outer s H E) [] h H' T->RelV v u->Q v H'->CE outer P w H s Q u T:=
  λ{h H' v u} J U q=>⟨v,H',J.os,J.bare,J.base,J.hok,U,q⟩
 cases fl with
 |ret u=>
  obtain⟨v,h,H',J,U,q⟩:=B;exact C J U q
 |next=>
  obtain⟨h,H',J,q⟩:=B;exact C (v:=V.non) J rfl q
 |_=>
  obtain⟨_,_,_,q⟩:=B;exact False.elim q
section
variable {X:Cx}{x:Str}{p pos:Pos}{e:Expr}{es:Yk}{t:TA}{id T:String}{r:List V->Hp->VK->Prop}
noncomputable def tCB(r:List V->Hp->VK->Prop)(t:TA):TE:=λb H Q=>t b H λf g=>r f g Q
def Xe(B:Xa X (.builtin id) r)(z:Gl X x)(y:X.mg x=none)(v:bootBuiltins x=some (.builtin id))(C:PA X (e::es) t)(w:autoParam (x≠"__name__") au_1)(f:autoParam ((x==("__debug__" : Str))=false) au_1)(A:autoParam (starEach (e::es) X.env=(false,eval e X.env)::starEach es X.env) au_0)(b:autoParam ((backTo pos<|starEach es X.env).any (·.1)=false) au_0):PE X (.Call (.Name x p) (e::es) [] pos) (tCB r t):=by
 intro pins s g H Q I h;refine Q1 (Po I z y v ?_ w f);exact PyProof.Rows.callWith_builtin1 (thn (C pos pins s g H _ I h) λn o ⟨l,G,E,q,u⟩=>B pins o g G l n Q E q u) A b
def Xn(B:Xa X (.type T) r)(z:Gl X x)(y:X.mg x=none)(v:bootBuiltins x=some (.type T))(C:PA X (e::es) t)(w:autoParam (x≠"__name__") au_1)(f:autoParam ((x==("__debug__" : Str))=false) au_1)(A:autoParam (starEach (e::es) X.env=(false,eval e X.env)::starEach es X.env) au_0)(b:autoParam ((backTo pos<|starEach es X.env).any (·.1)=false) au_0):PE X (.Call (.Name x p) (e::es) [] pos) (tCB r t):=by
 intro pins s g H Q I h;refine Q1 (Po I z y v ?_ w f);exact Qk (thn (C pos pins s g H _ I h) λn o ⟨l,G,E,q,u⟩=>B pins o g G l n Q E q u) A b
end
end L2
namespace HT
open PySem PyProof.Rows
section
variable {prog:Program}{w:World}{A:Around}{E:Yf}{s:Shared}
noncomputable def sIx(n d:Nat):Option Int->Nat
 |none=>d
 |some v=>if v<0 then(v+(n:Int)).toNat else min v.toNat n
def A6(n d:Nat):sIx n d none=d:=rfl
def Ep(n d k:Nat):sIx n d (some (k:Int))=min k n:=rfl
end
end HT
namespace L2
abbrev TO:=St->Hp->(Option Int->Hp->Prop)->Prop
def PO(X:Cx)(e:Option Expr)(t:TO):Prop:=
 ∀(pins:Yd) (s:Shared) (b:St) (H:Hp) (Q:Option Int->Hp->Prop),Inv X pins b H s->t b H Q->
  wpAny (model X.prog X.w) X.A (evalPart e X.env) (λu g=>∃o f,Inv X pins b f g/\IsPart u o/\Q o f) X.xe s
noncomputable def CY:TO:=λ_ H Q=>Q none H
noncomputable def ET(t:TE):TO:=λb H Q=>t b H λx f=>∃i,x=.int i/\Q (some i) f
def A9:∀{us:Yi},Vals (ns.map V.int) us->IntsAre us ns:=by
 induction ns with
 |nil=>intro us r;rw[List.map_nil]at r;cases r;exact .nil
 |cons n ns g=>
  intro us r;cases r with
  |cons f b=>
   obtain⟨t,e⟩:=f;subst e;exact .cons n t (g b)
section
variable {X:Cx}{e:Expr}{te:TE}{lo hi:Option Expr}{tl th:TO}{pos p2:Pos}
def Bl:PO X none CY:=by
 intro pins s b H Q I h;exact We ⟨none,H,I,.none,h⟩
def Bw(h:PE X e te):PO X (some e) (ET te):=by
 intro pins s b H Q I hw;refine thn (h pins s b H _ I hw) ?_;rintro u o ⟨x,n,l,f,g⟩;obtain⟨i,rfl,q⟩:=g;obtain⟨t,rfl⟩:=f;exact⟨some i,n,l,.int i t,q⟩
def SlR(X:Cx)(r:V->Option Int->Option Int->Hp->VK->Prop):Prop:=
 ∀(pins:Yd) (s:Shared) (b:St) (H:Hp) (x:V) (v g f:Value) (lo hi:Option Int) (sl:Addr) (Q:VK),Inv X pins b H s->RelV x v->s.heap.IsSliceOf sl g f .none->IsPart g lo->IsPart f hi->r x lo hi H Q->
  ∃T id,typeLookup (.type T) "__getitem__"=pure (some<|.builtin id)/\s.TypeIs v T/\wpAny (model X.prog X.w) X.A (getItem v<|.ref sl) (EP X pins b Q) X.xe s
noncomputable def tSl(r:V->Option Int->Option Int->Hp->VK->Prop)(te:TE)(tl th:TO):TE:=λb H Q=>te b H λx h=>tl b h λl g=>th b g λu f=>r x l u f Q
def BW(M:SlR X r)(Y:PE X e te)(N:PO X lo tl)(J:PO X hi th):PE X (.Subscript e (.Slice lo hi none p2) pos) (tSl r te tl th):=by
 intro pins s f H Q I h;refine Subscript_ (thn (Y pins s f H _ I h) ?_);rintro v y ⟨x,H1,I1,z,C⟩;refine wpAny_Slice (thn (N pins y f H1 _ I1 C) ?_);rintro o w ⟨l,H2,I2,G,B⟩;refine thn (J pins w f H2 _ I2 B) ?_;rintro n g ⟨u,p,I3,E,A⟩;refine We ?_;have I4:Inv X pins f p {g with heap:=g.heap.push {cls:=.type "slice",data:=.fields #[o,n,.none]}}:=I3.kept λb ob q=>Wd _ q
 obtain⟨T,id,hT,L,U⟩:=M pins {g with heap:=g.heap.push {cls:=.type "slice",data:=.fields #[o,n,.none]}} f p x v o n l u g.heap.objs.size Q I4 z (Heap.IsSliceOf.new ..) G E A
 exact tail_any L hT U rfl
noncomputable def P2(xs:List V)(lo hi:Option Int):List V:=(xs.drop<|HT.sIx xs.length 0 lo).take (HT.sIx xs.length xs.length hi-HT.sIx xs.length 0 lo)
def OW(xs:List V)(lo hi:Option Int):(P2 xs lo hi).length<=xs.length:=by
 unfold P2
 grind
end
noncomputable def ixN(n:Nat)(i:Int):Option Nat:=if 0<=i then(if i<n then some i.toNat else none)else if -(n:Int)<=i then some (i+n).toNat else none
noncomputable def atI{b:Type}(xs:List b)(i:Int):Option b:=(ixN xs.length i).bind λj=>xs[j]?
def Zat(h:ixN n i=some j):seqIndex? i n=some j/\j<n/\-(n:Int)<=i/\i<n:=by
 unfold ixN at h;by_cases f:0<=i
 ·rw[Wj f]at h;by_cases b:i<n
  ·rw[Wj b]at h;have e:=Wp h;exact⟨by rw[seqIndex_of f b,e],by lia,by lia,b⟩
  ·grind
 ·rw[Wf f]at h;by_cases b:-(n:Int)<=i
  ·rw[Wj b]at h;have e:=Wp h;exact⟨by rw[seqIndex_neg (by lia) b,e],by lia,b,by lia⟩
  ·grind
def BK(h:atI xs i=some v):∃j,seqIndex? i xs.length=some j/\xs[j]?=some v/\j<xs.length/\-(xs.length:Int)<=i/\i<xs.length:=by
 unfold atI at h;cases e:ixN xs.length i with
 |none=>grind
 |some j=>
  obtain⟨l,g,f,b⟩:=Zat e
  grind
def Pv{j:Nat}{v}(h:xs[j]?=some v):atI xs (j:Int)=some v:=by
 have e:ixN xs.length (j:Int)=some j:=by
  unfold ixN
  grind
 unfold atI;rw[e];exact h
def MF(xs:List b)(v:b):atI (xs++[v]) (-1)=some v:=by
 have e:ixN (xs++[v]).length (-1)=some xs.length:=by
  unfold ixN
  grind
 unfold atI
 grind
def BP(b:Expr):Prop:=∀o i,subscripted b false o i=operate [o,i] (getItem o i)
def IxR(X:Cx)(r:R2):Prop:=
 ∀(value slice:Expr) (pins:Yd) (s:Shared) (b:St) (H:Hp) (x y:V) (v u:Value) (Q:VK),Inv X pins b H s->RelV x v->RelV y u->r x y H Q->
  subscripted slice false v u=operate [v,u] (getItem v u)->wpAny (model X.prog X.w) X.A (subscriptTail value slice v u) (EP X pins b Q) X.xe s
def MtR(X:Cx)(id:String)(r:V->List V->Hp->VK->Prop):Prop:=
 ∀(pins:Yd) (s:Shared) (b:St) (H:Hp) (x:V) (xs:List V) (v:Value) (f:Yi) (Q:VK),Inv X pins b H s->RelV x v->Vals xs f->r x xs H Q->
  wpAny (model X.prog X.w) X.A (call (.builtin id) (v::f)) (EP X pins b Q) X.xe s
section
variable {X:Cx}{a b:Expr}{ta tb:TE}{pos:Pos}
def IxR.or (h:IxR X r) (p:IxR X o):IxR X (λx y H Q=>r x y H Q\/o x y H Q):=by
 intro value slice pins s f H x y v u Q I l g q n;rcases q with q|q
 ·exact h value slice pins s f H x y v u Q I l g q n
 ·exact p value slice pins s f H x y v u Q I l g q n
def TB(p:IxR X r)(z:PE X a ta)(w:PE X b tb)(o:BP b):PE X (.Subscript a b pos) (tOp r ta tb):=by
 intro pins s f H Q I h;exact Subscript_ (Bx z w I h λv u g x y B A n l q=>p a b pins g f B x y v u Q A n l q (o _ _))
noncomputable def Te(K:Ya):R2:=λx y H Q=>∃p xs i v,x=.ref p/\y=.int i/\SqL K H p xs/\atI xs i=some v/\Q v H
noncomputable def Tj(K:Ya):R2:=λx y H Q=>∃p xs i v,x=.ref p/\y=.int i/\SqT K H p xs/\atI xs i=some v/\Q v H
noncomputable def De:R2:=λx y H Q=>∃z i c,x=.str z/\y=.int i/\z.length<=sizeLine/\atI z.cps.toList i=some c/\Q (.str ⟨#[c]⟩) H
def ix_list:IxR X (Te X.K):=by
 intro value slice pins s G H x y v u Q I L J h B;obtain⟨p,xs,i,z,rfl,rfl,hq,N,q⟩:=h;cases L
 obtain⟨t,rfl⟩:=J;obtain⟨o,r,n,hz⟩:=I.list hq;obtain⟨j,g,Y,h3,U,T⟩:=BK N;obtain⟨w,E,l⟩:=r.get Y;have M:=r.length;have hn:=N4;have f:EP X pins G Q w s:=⟨z,H,I,l,q⟩;by_cases C:0<=i
 ·have A:i.toNat=j:=by
   rw[seqIndex_of C T]at g;exact Wp g
  exact item_listR n.isList C (by lia) (by rw[A];simpa using E) f B
 ·have A:(i+(o.toArray.size:Int)).toNat=j:=by
   rw[seqIndex_neg (by lia) U]at g;rw[W5,←M];exact Wp g
  exact subscriptTail_builtinR n.isList.typeIs slot_list_getitem.lookup
   (wpAny_getItem_list_neg n.isList (by lia) (by rw[W5]<;>lia) (by lia) (by rw[A];simpa using E) ⟨rfl,f⟩) B
def Zbi:IxR X (Tj X.K):=by
 intro value slice pins s n H x y v u Q I A o h C;obtain⟨p,xs,i,z,rfl,rfl,hq,E,q⟩:=h;cases A
 obtain⟨t,rfl⟩:=o;obtain⟨B,r,l,L⟩:=I.tuple hq;obtain⟨j,J,G,U,T,N⟩:=BK E;obtain⟨w,Y,f⟩:=r.get G;have M:=N4;have g:EP X pins n Q w s:=⟨z,H,I,f,q⟩
 exact subscriptTail_builtinR l.typeIs slot_tuple_getitem.lookup
  (getItem_tuple l (by lia) (by lia) (by rw[W5,←r.length];exact J) (by grind) ⟨rfl,g⟩) C
def Oy:IxR X De:=by
 intro value slice pins s E H x y v u Q I l g h n;obtain⟨z,i,c,rfl,rfl,J,p,q⟩:=h;obtain⟨t,rfl⟩:=l;obtain⟨G,rfl⟩:=g;obtain⟨j,f,A,M,w,r⟩:=BK p;have o:z.cps.toList.length=z.length:=by simp[Str.length]
 rw[o]at f w r;have L:=N4
 exact tail_any (typeIs_str s z t) slot_str_getitem.lookup (getItem_str (by
  have C:decide (i < -(2 ^ 63:Int))=false:=Ws (by lia);have B:decide (i>=2 ^ 63)=false:=Ws (by lia);rw[C,B,Bool.or_false]) (by rw[f];simpa using A) ⟨.str ⟨#[c]⟩,H,I.tok _,⟨_,rfl⟩,q⟩) n
def RZ(lo f:Option Int)(n:Nat):(sliceBounds lo f none n).1=((HT.sIx n 0 lo:Nat):Int)/\(sliceBounds lo f none n).2.1=((HT.sIx n n f:Nat):Int)/\(sliceBounds lo f none n).2.2=1:=by
 refine⟨?_,?_,rfl⟩
 ·cases lo with
  |none=>simp[sliceBounds,HT.sIx]
  |some i=>
   simp only[sliceBounds,HT.sIx,Option.getD_none,show(1:Int)>0 by decide,if_true];by_cases h:i<0
   ·grind
   ·simp only[h,if_false]<;>lia
 ·cases f with
  |none=>simp[sliceBounds,HT.sIx]
  |some i=>
   simp only[sliceBounds,HT.sIx,Option.getD_none,show(1:Int)>0 by decide,if_true];by_cases h:i<0
   ·simp only[h,if_true]<;>lia
   ·simp only[h,if_false]<;>lia
def Lw(f:Yi)(lo g:Option Int):slicePick f.toArray lo g none=((f.drop<|HT.sIx f.length 0 lo).take (HT.sIx f.length f.length g-HT.sIx f.length 0 lo)).toArray:=by
 obtain⟨n,l,h⟩:=RZ lo g f.toArray.size;unfold slicePick;rw[n,l,h];simp only[sliceRange_one,pick_run,W5]<;>rfl
def BA(K:Ya):V->Option Int->Option Int->Hp->VK->Prop:=λx lo f H Q=>∃a xs,x=.ref a/\SqL K H a xs/\∀p,H p=none->Q (.ref p) (upd H p<|.lst<|P2 xs lo f)
def MQ:SlR X (BA X.K):=by
 intro pins s z H x v B A lo l sl Q I n y p o h;obtain⟨a,xs,rfl,hx,q⟩:=h;cases n
 obtain⟨u,r,g,w⟩:=I.list hx;have f:=r.length;refine⟨"list",_,slot_list_getitem.lookup,g.isList.typeIs,?_⟩;refine wpAny_getItem_list_slice g.isList y p o .none (by simp) ?_ (by grind);rw[Lw,←f];refine⟨.ref s.heap.objs.size,_,I.laid (λb C q=>Wd _ q) (Wk _) ?_,rfl,q _ (I.hok.fresh<|Wk _)⟩;exact⟨Wt (OW xs lo l) w,_,0,(r.drop<|HT.sIx xs.length 0 lo).take (HT.sIx xs.length xs.length l-HT.sIx xs.length 0 lo),Wn _ rfl⟩
noncomputable def UZ:V->Bool
 | .non=>true
 | .bl _=>true
 | .int _=>true
 | .str _=>true
 |_=>false
noncomputable def eqV:V->V->Bool
 | .non,.non=>true
 | .bl a,.bl b=>a==b
 | .bl a,.int b=>(if a then 1 else 0)==b
 | .int a,.bl b=>a==(if b then 1 else 0)
 | .int a,.int b=>a==b
 | .str a,.str b=>a==b
 |_,_=>false
def FO{y x u v}(h:RelV y u)(f:RelV x v)(fy:UZ y=true)(l:UZ x=true):SeqAt.EqAt A s u v (eqV y x):=by
 cases y with
 |non=>
  cases h
  cases x with
  |non=>cases f;exact SeqAt.EqAt.same _
  |bl b=>cases f;exact SeqAt.EqAt.none_bool b
  |int b=>obtain⟨t,rfl⟩:=f;exact SeqAt.EqAt.none_int b t
  |str b=>obtain⟨t,rfl⟩:=f;exact SeqAt.EqAt.none_str b t
  |_=>exact absurd l Ww
 |bl a=>
  cases h
  cases x with
  |non=>cases f;exact SeqAt.EqAt.bool_none a
  |bl b=>cases f;exact SeqAt.EqAt.bool_bool a b
  |int b=>obtain⟨t,rfl⟩:=f;exact SeqAt.EqAt.bool_int a b t
  |str b=>obtain⟨t,rfl⟩:=f;exact SeqAt.EqAt.bool_str a b t
  |_=>exact absurd l Ww
 |int a=>
  obtain⟨g,rfl⟩:=h;cases x with
  |non=>cases f;exact SeqAt.EqAt.int_none a g
  |bl b=>cases f;exact SeqAt.EqAt.int_bool a g b
  |int b=>obtain⟨t,rfl⟩:=f;exact SeqAt.EqAt.int_int a g b t
  |str b=>obtain⟨t,rfl⟩:=f;exact SeqAt.EqAt.int_str a g b t
  |_=>exact absurd l Ww
 |str a=>
  obtain⟨g,rfl⟩:=h;cases x with
  |non=>cases f;exact SeqAt.EqAt.str_none a g
  |bl b=>cases f;exact SeqAt.EqAt.str_bool a g b
  |int b=>obtain⟨t,rfl⟩:=f;exact SeqAt.EqAt.str_int a g b t
  |str b=>obtain⟨t,rfl⟩:=f;exact SeqAt.EqAt.str_str a g b t
  |_=>exact absurd l Ww
 |_=>exact absurd fy Ww
noncomputable def eqU(x:V)(u:Value):Bool:=match u with
 | .none=>eqV .non x
 | .bool b=>eqV (.bl b) x
 | .int i _=>eqV (.int i) x
 | .str z _=>eqV (.str z) x
 |_=>false
def DM{x y u}(r:RelV y u)(f:UZ y=true):eqU x u=eqV y x:=by
 cases y with
 |non|bl b=>cases r;rfl
 |int i|str z=>obtain⟨t,rfl⟩:=r;rfl
 |_=>trivial
theorem P4:∀{xs}{us:Yi},Vals xs us->xs.all UZ=true->us.any (eqU x)=xs.any λy=>eqV y x
 |_,_,.nil,_=>rfl
 |y::xs,u::us,.cons r t,f=>by
  rw[Vb,W1]at f;rw[QG,QG,DM r f.1,P4 t f.2]
theorem PZ{x v}(h:RelV x v)(l:UZ x=true):∀{xs}{us:Yi},Vals xs us->xs.all UZ=true->∀u∈us,SeqAt.EqAt A s u v (eqU x u)
 |_,_,.nil,_=>λu g=>by cases g
 |y::xs,u::us,.cons r t,f=>λn g=>by
  rw[Vb,W1]at f;rcases Wo.mp g with rfl|g
  ·rw[DM r f.1];exact FO r h f.1 l
  ·exact PZ h l t f.2 n g
noncomputable def inV(x:V)(xs:List V):Bool:=xs.any λy=>eqV y x
noncomputable def rIn(K:Ya)(neg:Bool):R2:=λx y H Q=>∃p xs,y=.ref p/\(SqL K H p xs\/SqT K H p xs)/\UZ x=true/\xs.all UZ=true/\Q (.bl (if neg then !inV x xs else inV x xs)) H
def Eu:OpR X (compareOp .In) (rIn X.K false):=by
 intro pins s A H x y v u Q I l o h;obtain⟨p,xs,rfl,hq,n,fs,q⟩:=h;cases o
 rcases hq with hq|hq
 ·obtain⟨f,r,g,z⟩:=I.list hq;refine SeqAt.in_listAt (eqU x) g.isList (λw hw=>PZ l n r fs w (by grind)) ⟨.bl _,H,I,rfl,?_⟩;rwa[show f.toArray.any (eqU x)=f.any (eqU x) by simp,P4 r fs]
 ·obtain⟨f,r,g,z⟩:=I.tuple hq;refine SeqAt.in_tupleAt (eqU x) g (λw hw=>PZ l n r fs w (by simpa using hw)) ⟨.bl _,H,I,rfl,?_⟩;rwa[show f.toArray.any (eqU x)=f.any (eqU x) by simp,P4 r fs]
def IG:OpR X (compareOp .NotIn) (rIn X.K true):=by
 intro pins s A H x y v u Q I l o h;obtain⟨p,xs,rfl,hq,n,fs,q⟩:=h;cases o
 rcases hq with hq|hq
 ·obtain⟨f,r,g,z⟩:=I.list hq;refine SeqAt.notIn_listAt (eqU x) g.isList (λw hw=>PZ l n r fs w (by grind)) ⟨.bl _,H,I,rfl,?_⟩;rwa[show f.toArray.any (eqU x)=f.any (eqU x) by simp,P4 r fs]
 ·obtain⟨f,r,g,z⟩:=I.tuple hq;refine SeqAt.notIn_tupleAt (eqU x) g (λw hw=>PZ l n r fs w (by grind)) ⟨.bl _,H,I,rfl,?_⟩;rwa[show f.toArray.any (eqU x)=f.any (eqU x) by simp,P4 r fs]
def Gw:Xa X (.type "list") (λxs H Q=>∃p v,xs=[.ref p]/\(SqL X.K H p v\/SqT X.K H p v)/\∀l,H l=none->Q (.ref l) (upd H l<|.lst v)):=by
 intro pins s N H xs U Q I r h;obtain⟨p,v,rfl,hq,q⟩:=h;obtain⟨u,rfl,T⟩:=vals1 r;cases T
 have C:∀f,Vals v f->v.length<=sizeLine->∀g y,(∀b M,s.heap.get? b=some M->g.get? b=some M)->
   g.get? s.heap.objs.size=some {cls:=.type "list",dict:=none,data:=.seq f.toArray y,slots:=#[]}->EP X pins N Q (.ref s.heap.objs.size) {s with heap:=g}:=λf x A g y z e=>
  ⟨.ref s.heap.objs.size,_,I.laid z (Wk _) (show ObjOk X.prog X.w _ g _ (.lst v)from⟨A,f,y,x,e⟩),rfl,q _ (I.hok.fresh<|Wk _)⟩
 rcases hq with hq|hq
 ·obtain⟨f,x,E,A⟩:=I.list hq;have B:=x.length;obtain⟨o,G,L,n,J⟩:=E.isList;exact call_list_seq p (.inl rfl) G L J (λg y z e=>C f x A g y z e) (by grind)
 ·obtain⟨f,x,E,A⟩:=I.tuple hq;have B:=x.length;obtain⟨o,G,L,n,J⟩:=E;exact call_list_seq p (.inr rfl) G L J (λg y z e=>C f x A g y z e) (by simp only[W5]<;>lia)
def tyV(K:Ya)(T:String)(x:V)(H:Hp):Prop:=match x with
 | .str _=>T = "str"
 | .int _=>T = "int"
 | .ref p=>(T = "list"/\∃xs,SqL K H p xs)\/(T = "tuple"/\∃o,K.lookup p=some o/\o.cls=.type "tuple"/\o.dict=none)\/
   (T = "dict"/\((∃f,H p=some (.dK f))\/∃f,H p=some (.dT f)))\/(T = "set"/\∃S n,H p=some (.set S n))
 |_=>False
def ON{A:St}{H}{s}{T}{x}{v}(I:Inv X pins A H s)(r:RelV x v)(h:tyV X.K T x H) :
  s.TypeIs v T/\∀a,v=.ref a->∃y,s.heap.get? a=some y/\y.dict=none:=by
 cases x with
 |str z=>
  obtain⟨t,rfl⟩:=r;cases h
  exact⟨typeIs_str s z t,λ_ e=>nomatch e⟩
 |int i=>
  obtain⟨t,rfl⟩:=r;cases h
  exact⟨typeIs_int s i t,λ_ e=>nomatch e⟩
 |ref p=>
  cases r
  rcases h with⟨rfl,xs,hq⟩|⟨rfl,o,f,C,q⟩|⟨rfl,f⟩|⟨rfl,S,n,f⟩
  ·obtain⟨B,_,w,_⟩:=I.list hq;refine⟨w.isList.typeIs,λa e=>?_⟩;cases e
   obtain⟨o,n,e,c,q,_⟩:=w;exact⟨o,e,q⟩
  ·refine⟨⟨o,I.kIn p o f,C⟩,λa e=>?_⟩;cases e
   exact⟨o,I.kIn _ o f,q⟩
  ·have z:∃o,s.heap.get? p=some o/\o.ExactDict:=by
    rcases f with⟨l,f⟩|⟨l,f⟩
    ·obtain⟨_,_,_,_,o,_,_,e,g,_⟩:=I.hok p _ f;exact⟨o,e,g⟩
    ·obtain⟨_,_,_,_,o,_,_,e,g,_⟩:=I.hok p _ f;exact⟨o,e,g⟩
   obtain⟨o,e,g⟩:=z;refine⟨⟨o,e,g.1⟩,λa u=>?_⟩;cases u
   exact⟨o,e,g.2.1⟩
  ·obtain⟨o,_,_,_,e,g,_⟩:=I.hok p _ f;refine⟨⟨o,e,g.1⟩,λa u=>?_⟩;cases u
   exact⟨o,e,g.2.1⟩
 |_=>exact False.elim h
noncomputable def tBM(K:Ya)(T:String)(r:V->List V->Hp->VK->Prop)(h:TE)(t:TA):TE:=λf H Q=>h f H λx g=>tyV K T x g/\t f g λxs l=>r x xs l Q
variable {o e:Expr}{es:Yk}{to:TE}{t:TA}{name:Str}{apos cpos:Pos}{T id:String}{r:V->List V->Hp->VK->Prop}
def Pq(M:PlainAttrs T)(slot:Slot T name id)(q:typeOf (.builtin id)=pure (.type "method_descriptor"))(Y:MtR X id r)(U:PE X o to)(ha:PA X (e::es) t)(g:autoParam (attributeBase o name X.env (eval o X.env)=eval o X.env) au_0)
  (l:autoParam (((backTo cpos<|starEach (e::es) X.env).all (λx=>!x.1)&&(backToKw cpos<|keywordEach [] X.env).all (λx=>x.1.isSome)
   && decide ((e::es).length+([]:List Keyword).length+(if ([]:List Keyword).isEmpty then 0 else 1)<30))=true) au_0)
  (f:autoParam ((apos.endLine==cpos.line)=true) au_0) (N:autoParam (starEach (e::es) X.env=(false,eval e X.env)::starEach es X.env) au_0) (n:autoParam ((backTo cpos<|starEach es X.env).any (·.1)=false) au_0) :
  PE X (.Call (.Attribute o name apos) (e::es) [] cpos) (tBM X.K T r to t):=by
 intro pins s p H Q I h;refine wpAny_Call_method_late g l f rfl (thn (U pins s p H _ I h) λv E ⟨x,H1,y,u,B,L⟩=>?_);obtain⟨h1,h2⟩:=ON y u B;refine⟨T,id,M,slot,q,h1,h2,?_⟩;have w:=ha cpos pins E p H1 _ y L;rw[N]at w ⊢;refine Calls.callWith_builtin (by grind) (Calls.evalArgs_plain ?_);exact thn w λA C ⟨z,H2,I2,G,J⟩=>Y pins C p H2 x z v A Q I2 u G J
end
def MtM(X:Cx)(id:String)(r:V->List V->Hp->VK->Prop):Prop:=
 ∀(pins:Yd) (s:Shared) (b:St) (H:Hp) (x:V) (xs:List V) (v:Value) (f:Yi) (Q:VK),Inv X pins b H s->RelV x v->Vals xs f->r x xs H Q->
  wpAny (model X.prog X.w) X.A (call (.builtin id) (v::f)) (EP X pins b Q) X.xe s
def Vals.one:∀{x}{us:Yi},Vals [x] us->∃u,us=[u]/\RelV x u:=by
 intro _ _ h;cases h with
 |cons r t=>
  cases t
  exact⟨_,rfl,r⟩
theorem Vals.eraseIdx:∀{xs us} i,Vals xs us->Vals (xs.eraseIdx i) (us.eraseIdx i)
 |_,_,_,.nil=>.nil
 |_,_,0,.cons _ t=>t
 |_,_,i+1,.cons r t=>.cons r (Vals.eraseIdx i t)
section
variable {X:Cx}{pins:Yd}{σ:St}{H:Hp}{s:Shared}{l b:Addr}{xs ys zs:List V}
def Inv.lset {g its':Yi}{n}{f}{t'} (I:Inv X pins σ H s) (w:H l=some (.lst xs))
  (e:s.heap.get? l=some {cls:=.type "list",data:=.seq g.toArray n}) (r:f g.toArray=its'.toArray) (o:Vals ys its') (h:ys.length<=sizeLine) :
  Inv X pins σ (upd H l<|.lst ys) {s with heap:=s.heap.update l (Obj.mapSeq f),toks:=t'}:=by
 have q:=PySem.IsL.update e f;rw[r]at q;refine I.write (by rw[w];exact trivial) (.inl rfl) (λx u v p=>(WH s.heap (Obj.mapSeq f)<|Ne.symm v).trans p) ⟨_,q⟩ ?_;exact⟨h,its',_,o,q⟩
def Inv.lnew (I:Inv X pins σ H s) (h:Vals ys f) (g:ys.length<=sizeLine) :
  Inv X pins σ (upd H s.heap.objs.size<|.lst ys) {s with heap:=s.heap.push {cls:=.type "list",data:=.seq f.toArray},toks:=t'}:=
 I.laid (λ_ _ q=>Wd _ q) (Wk _) ⟨g,f,0,h,Wn _ rfl⟩
def Inv.fresh (I:Inv X pins σ H s):H s.heap.objs.size=none:=I.hok.fresh (Wk _)
def Inv.lstM (I:Inv X pins σ H s) (g:H l=some (.lst xs)):xs.length<=sizeLine/\∃f n,Vals xs f/\xs.length=f.length/\s.heap.get? l=some {cls:=.type "list",data:=.seq f.toArray n}:=by
 obtain⟨z,f,n,r,e⟩:=I.hok l _ g;exact⟨z,f,n,r,r.length,e⟩
end
section
variable {X:Cx}
def ND:V->List V->Hp->VK->Prop:=λx b H Q=>∃l xs y,x=.ref l/\b=[y]/\H l=some (.lst xs)/\xs.length<sizeLine/\Q .non (upd H l<|.lst (xs++[y]))
def KP:MtM X "list.append" ND:=by
 intro pins s w H x A v B Q I g o h;obtain⟨l,xs,y,rfl,rfl,f,C,q⟩:=h;cases g
 obtain⟨u,rfl,p⟩:=o.one;obtain⟨z,b,n,r,E,e⟩:=I.lstM f;refine Vn F.slot_list_append ⟨_,e,rfl⟩ F.entry_list_append (F.args_list_append_2 _ _) (PySem.list_append l b.toArray n u<|by grind) ⟨e,?_⟩;refine⟨.non,_,I.lset f e (by simp) (r.append<|.cons p .nil) ?_,rfl,q⟩
 grind
noncomputable def Ee:R2:=λx y H Q=>∃l b xs f,x=.ref l/\y=.ref b/\H l=some (.lst xs)/\H b=some (.lst f)/\xs.length+f.length<=sizeLine/\∀p,H p=none->Q (.ref p) (upd H p<|.lst (xs++f))
def Ts:OpR X (binaryOp .Add) Ee:=by
 intro pins s J H x y v u Q I p o h;obtain⟨l,b,xs,L,rfl,rfl,B,C,T,q⟩:=h;cases p
 cases o
 obtain⟨z,g,n,r,U,e⟩:=I.lstM B;obtain⟨M,f,N,w,A,G⟩:=I.lstM C;refine PySem.P.add_list e G ?_ (by grind);have E:g.toArray++f.toArray=(g++f).toArray:=by simp
 rw[E];exact⟨.ref _,_,I.lnew (r.append w) (by grind),rfl,q _ I.fresh⟩
end
end L2
namespace Att
open PySem PySem.W PySem.Calls PyProof.Rows
def OO:∀ns vs,WellAll P h vs (ns.map WData.int)->IntsAre vs ns:=by
 intro ns
 induction ns with
 |nil=>
  intro vs w;cases w
  exact .nil
 |cons n ns f=>
  intro vs w;cases w with
  |cons a b=>
   cases a
   exact .cons _ _ (f _ b)
def Lv{l:OpenLaw}{n}(w:l.most=some n){P}{h}{args}{vals}(b:l.row.toRowW.claim.pre args=true)(o:WellAll P h vals args) :
  ∃a vs ns,vals=[Value.ref a]/\args=[WData.list (ns.map WData.int)]/\h.get? a=some {cls:=.type "list",data:=.seq vs.toArray}/\IntsAre vs ns/\ns.length<=n:=by
 have p:WShape.hasAll [] args [.list .int]=true:=(pre_splitW b).1;have x:l.pre.holds [] {args:=args}=true:=(pre_splitW b).2;obtain⟨d,r,rfl,A,z⟩:=hasAllW_cons p;obtain rfl:=hasAllW_nil z;obtain⟨xs,rfl,y⟩:=hasW_list A;obtain⟨ns,rfl⟩:=items_int y
 have f:ns.length<=n:=by
  have q:(WTm.not<|.lt (.lit<|.int (n:Int))<|.len<|.arg 0).holds [] {args:=[.list (ns.map .int)]}=true:=by
   have q:=(holds_andW x).1;rw[w]at q;lia
  have B:=condW_of q (w_not<|w_lt w_lit<|w_len_list<|w_arg rfl);simp_all
 cases o with
 |cons u s=>
  cases s
  cases u with
  |list v g=>exact⟨_,_,ns,rfl,rfl,v,OO ns _ g,f⟩
def R7(l:OpenLaw)(args:List WData):l.row.toRowW.claim.post args (.bool true) args=true:=
 postW_of
  rfl
  (w_eq_bool (w_res rfl) w_lit) rfl
def IX{l:OpenLaw}{n}{q}{loose}{XP}{YP}{d}(T:l.most=some n)(H:d.params.defaults=[])
  (call:∀w s₀ b y B v o A z h a vs ns,
   Ground q loose [] XP w s₀ y B b.heap->YP w b.heap->
   b.heap.get? v=some o->o.data=.func (docDef d.name d.params d.body d.scope A z h)->b.heap.CodeRec z d.name->y d.name=some (.ref v)->
   b.heap.get? a=some {cls:=.type "list",data:=.seq vs.toArray}->IntsAre vs ns->ns.length<=n->b.gens=#[]->
   codeAny (model l.prog w) callerA (.call (.ref v) ⟨[.ref a],[]⟩) (λr x=>r=.ok (.ret<|.bool true)/\OldK b.heap x.heap/\x.os=b.os/\AllBare x.gens) b) :
  WalkO q loose XP YP l.row.toRowW d [] (λf vs=>PySem.call f vs):=by
 intro w s₀ b y B G Y v o A z h dV kV Q hd J M E hg args vals as p L N C hlo;obtain rfl:=Dflts.none M H;obtain rfl:=Dflts.noKw M;obtain⟨a,vs,ns,rfl,rfl,s,g,u⟩:=Lv T p C;refine enter_call (Qw (call w s₀ b y B v o A z h a vs ns G Y Q (fd_plain hd) J E s g u hg) λr x hq=>?_);obtain⟨rfl,h2,h3,h4⟩:=hq;exact⟨.inl ⟨.bool true,.bool true,[],rfl,λ_=>rfl,.bool true,R7 l _,λ_=>⟨List.Pairwise.nil,λ_ U=>(nomatch U)⟩⟩,h2,h3,h4⟩
end Att
namespace L2
theorem Tx:∀{vs}{ns:Yc},IntsAre vs ns->Vals (ns.map V.int) vs
 |_,_,.nil=>.nil
 |_,_,.cons n t h=>.cons ⟨t,rfl⟩ (Tx h)
def TQ(H:Hp):Prop:=∀b,H b=none\/∃o xs,H b=some (.frz o<|.lst xs)
def RA{K B U CX k fa a fd x sp f vs ns}(KX:K.In f.heap)(G:f.heap.Ns mainGlobals B)(g:f.heap.Ns builtinsNs U)(hbb:∀x:Str,x≠"__name__"->U x=bootBuiltins x)(J:f.heap.NoLimit)(hg:f.gens=#[])(M:f.heap.get? a=some {cls:=.type "list",data:=.seq vs.toArray})(hi:IntsAre vs ns)(hl:ns.length<=sizeLine)(hr:Ui k callerA)(F:∀base,K.In base->base.Ns mainGlobals B->UQ P w K B base CX k fa fd [x] sp)(y:∀s u,BindsTo s fd ⟨[u],[]⟩ [(x,u)])(Y:∀H,TQ H->SqL K H a (ns.map V.int)->sp [.ref a] H (λv _=>v=.bl true) λ_ _ _=>False)(hCX:∀H e l,CX [] H f (λ_ _ _=>False) e l->False) :
  codeAny (model P w) callerA (.call (.ref fa) ⟨[.ref a],[]⟩) (λr l=>r=.ok (.ret<|.bool true)/\OldK f.heap l.heap/\l.os=f.os/\AllBare l.gens) f:=by
 have rv:=Tx hi
 have core:∀H,TQ H->SqL K H a (ns.map V.int)->HOk P w H f.heap->(∀b,H b≠none->b=a)->(H a≠none->K.lookup a=none)->
   codeAny (model P w) callerA (.call (.ref fa) ⟨[.ref a],[]⟩) (λr l=>r=.ok (.ret<|.bool true)/\OldK f.heap l.heap/\l.os=f.os/\AllBare l.gens) f:=by
  intro H hO hS E hA hK;have base_of:∀{b:Addr} {o:Obj},f.heap.get? b=some o->H b=none->(Ko f.heap H).get? b=some o:=λe n=>OF e n
  have T:∀{b:Addr} {o:Obj} {N:Array DictEntry} {Q:Nat},f.heap.get? b=some o->o.data=.dict N Q->H b=none:=λ{b o N Q} e d=>by
   cases q:H b with
   |none=>rfl
   |some u=>
    have e':=hA b (by rw[q];simp);subst e';rw[M]at e;cases e;cases d
  have p:∀{b:Addr} {m:Ye},f.heap.Ns b m->(Ko f.heap H).Ns b m:=λ{b m} ⟨o,N,Q,e,d,r⟩=>⟨o,N,Q,base_of e (T e d),d,r⟩
  have L:=λb o e=>base_of (KX b o e) (by
   cases q:H b with
   |none=>rfl
   |some u=>
    have e':=hA b (by rw[q];simp);subst e';rw[hK (by rw[q];simp)]at e;cases e)
  have hM:Mod K B (Ko f.heap H):=⟨L,p G,⟨U,p g,hbb⟩,let ⟨mc,h1,h2⟩:=J;⟨mc,p h1,h2⟩⟩;have e0:Ks P w K B (Ko f.heap H) callerA [] f H:=⟨rfl,hM,λb o e=>R4 e,Ql (Ro _ _),trivial,λb g=>absurd (show b∈([]:List Addr)from g) (by simp),E,.of_eq hg⟩
  refine Qw ((F _ L<|p G).run callerA [] f H ⟨[.ref a],[]⟩ [.ref a] [.ref a] _ _ hr e0 (y f<|.ref a) (.cons rfl .nil) (Y H hO hS)) λr l h=>?_;cases r with
  |error e=>exact(hCX H e l h).elim
  |ok fl=>
   cases fl with
   |ret u=>
    obtain⟨v,H',os,bare,un,C,r',q⟩:=h;subst q;obtain rfl:=r';refine⟨rfl,OldK.of_keep λb o e=>?_,os,bare⟩;cases q:H b with
    |none=>exact un.keep b o e q (by intro z;exact absurd (show b∈([]:List Addr)from z) (by simp)) (by simp)
    |some u=>
     rcases hO b with z|⟨ob,xs,z⟩
     ·rw[q]at z;cases z
     ·have z2:=un.frzs b ob _ z;obtain⟨e1,_⟩:=E b _ z;obtain⟨e2,_⟩:=C b _ z2;rw[e]at e1;cases e1;exact e2
   |_=>exact False.elim h
 cases hk:K.lookup a with
 |some o=>
  have e:=KX a o hk;rw[M]at e;cases e
  refine core (λ_=>none) (λ_=>.inl rfl) (.inr ⟨_,vs.toArray,_,hk,rfl,rfl,rfl,by rw[W5,hi.length];exact hl,by simpa using rv⟩) (λb u z=>by have A:=z;cases A) (λb z=>absurd rfl z) λz=>absurd rfl z
 |none=>
  refine core (λb=>if b=a then some (.frz {cls:=.type "list",data:=.seq vs.toArray} (.lst<|ns.map V.int))else none) (λb=>?_) (.inl<|.inr ⟨{cls:=.type "list",data:=.seq vs.toArray},Wj rfl⟩) (λb u z=>?_) (λb z=>?_) λ_=>hk
  ·by_cases g:b=a
   ·exact .inr ⟨_,_,Wj g⟩
   ·exact .inl (Wf g)
  ·by_cases g:b=a
   ·have A:=(Wj g).symm.trans z;cases A
    subst g;exact⟨M,by rw[Wc];exact hl,vs,_,rv,M⟩
   ·have A:=(Wf g).symm.trans z;cases A
  ·by_cases g:b=a
   ·exact g
   ·exact absurd (Wf g) z
def Zcq{l:PySem.W.OpenLaw}{n k}{q}{loose}{XP}{YP}{d}{K:Params->Ya}{CX:World->CXT}{sp:World->Sp}{x}(hn:l.most=some n)(J:n<=sizeLine)(M:d.params.defaults=[])(hr:Ui k callerA)(hY:∀w h,YP w h->(K w.params).In h)
  (F:∀w y B h,(K w.params).In h->h.Ns mainGlobals y->y d.name=some (.ref B)->
   ∃Q,(∀s u,BindsTo s Q ⟨[u],[]⟩ [(x,u)])/\
    ∀base,(K w.params).In base->base.Ns mainGlobals y->UQ l.prog w (K w.params) y base (CX w) k B Q [x] (sp w))
  (E:∀w H a (ns:Yc),ns.length<=n->TQ H->SqL (K w.params) H a (ns.map V.int)->sp w [.ref a] H (λv _=>v=.bl true) λ_ _ _=>False)
  (N:∀w H s e C,CX w [] H s (λ_ _ _=>False) e C->False) :
  PySem.W.WalkO q loose XP YP l.row.toRowW d [] (λf vs=>PySem.call f vs):=by
 refine Att.IX hn M λw U z y mb B o pm cd doc a vs ns G Y ho hd hcd L A r p hg=>?_;have KX:=hY w _ Y;obtain⟨Q,hb,hF⟩:=F w y B _ KX G.T.g L;exact RA KX G.T.g G.T.b G.T.builtins G.T.nolimit hg A r (Wt p J) hr hF hb (λH hO hS=>E w H a ns p hO hS) λH e C=>N w H z e C
def OC{l:PySem.W.OpenLaw}{n k}{q}{loose}{XP}{YP}{d}{K:Params->Ya}{CX}{sp:Ya->Sp}{x}(C:l.most=some n)(p:n<=sizeLine)(r:d.params.defaults=[])(B:Ui k callerA)(E:∀w h,YP w h->(K w.params).In h)
  (F:∀w b A h,(K w.params).In h->h.Ns mainGlobals b->b d.name=some (.ref A)->
   ∃z,(∀s u,BindsTo s z ⟨[u],[]⟩ [(x,u)])/\
    ∀base,(K w.params).In base->base.Ns mainGlobals b->UQ l.prog w (K w.params) b base CX k A z [x] (sp<|K w.params))
  (o:∀K H a (ns:Yc),ns.length<=n->TQ H->SqL K H a (ns.map V.int)->sp K [.ref a] H (λv _=>v=.bl true) λ_ _ _=>False)
  (y:∀H s e g,CX [] H s (λ_ _ _=>False) e g->False) :
  PySem.W.WalkO q loose XP YP l.row.toRowW d [] (λf vs=>PySem.call f vs):=
 Zcq C p r B E F (λw H a ns L J G=>o (K w.params) H a ns L J G) λ_ H s e g=>y H s e g
noncomputable def inClass(s:Stmt)(j:Nat):Stmt:=match s with
 | .ClassDef _ _ _ body _ _ _ _ _ _ _=>body.getD j (.Pass ⟨0,0,0,0⟩)
 |_=>.Pass ⟨0,0,0,0⟩
noncomputable def Xu(s:Stmt):Arguments:=match s with
 | .FunctionDef _ a _ _ _ _ _ _ _ _=>a
 |_=>{posonlyargs:=[],args:=[],vararg:=none,kwonlyargs:=[],kw_defaults:=[],kwarg:=none,defaults:=[]}
noncomputable def Uv(s:Stmt):Yl:=match s with
 | .FunctionDef _ _ b _ _ _ _ _ _ _=>b
 |_=>[]
noncomputable def Ud(s:Stmt):Scope:=match s with
 | .FunctionDef _ _ _ _ _ _ b _ _ _=>b
 |_=>{kind:=.function,names:=[],isGenerator:=false,isCoroutine:=false}
noncomputable abbrev CX0:CXT:=λ_ _ _ _ _ _=>False
noncomputable abbrev E0:XK:=λ_ _ _=>False
def Xt:Xo CX0 X E0:=λ_ _ _ _ _ _ _ h=>h.elim
structure Fun (K:Ya) (x qual:Str) (st:Stmt) (f:Addr) (fd:FuncData):Prop where
 ex:∃(oc:Value) (od:Yn) (kV doc pm:Value) (an:Yn) (cdv ct:Value) (osl:Array (Ym)),
  fd=PySem.W.fnOf x qual (Xu st) (Uv st) (Ud st) .none kV doc pm an cdv ct/\K.lookup f=some ⟨oc,od,.func fd,osl⟩/\PySem.W.codeIn K cdv qual=true
 kp:PySem.W.keepIn K (.ref f)=true
section
variable {P:Program}{w:World}{K:Ya}{mg:Ye}{base:Heap}
def Fun.ok {st f o N ps k sp} (F:Fun K x qual st f o) (S:Uh N ps (Ud st)) (len:∀vs H Q E,sp vs H Q E->vs.length=ps.length)
  (g:∀b A outer s H vs Q E,Ui k (A.deeper<|envOfC qual (Ud st) s.heap.objs.size f b)->sp vs H Q E->
   ∃t,PSs (Uy CX0 P w K mg base N qual (Ud st) f b A outer s H E).nox (Uv st) t/\t {nx:=λ_ H'=>Q .non H',rt:=Q} (start N vs) H):UQ P w K mg base CX0 (k+1) f o ps sp:=by
 obtain⟨oc,z,kV,v,y,C,b,B,p,rfl,r,n⟩:=F.ex;refine Bb r n S len λA outer s H vs Q E u l=>?_;obtain⟨t,h,q⟩:=g b A outer s H vs Q E u l;exact⟨t,h.nox,q⟩
def Fun.binds {st f o ps} (F:Fun K x qual st f o)
  (h:∀kV b l n g ct us,us.length=ps.length->bindArgs (PySem.W.fnOf x qual (Xu st) (Uv st) (Ud st) .none kV b l n g ct) ⟨us,[]⟩=pure (ps.zip us)):Binds K o ps []:=by
 obtain⟨oc,r,kV,b,l,n,g,ct,p,rfl,s,q⟩:=F.ex;exact .all (h kV b l n g ct)
def SD{st f oc p o h kV g n b ct}(l:K.lookup f=some ⟨oc,p,.func (PySem.W.fnOf x qual (Xu st) (Uv st) (Ud st) .none kV g n o b ct),h⟩)(c:PySem.W.codeIn K b qual=true)(k:PySem.W.keepIn K (.ref f)=true):Fun K x qual st f (PySem.W.fnOf x qual (Xu st) (Uv st) (Ud st) .none kV g n o b ct):=⟨⟨oc,p,kV,g,n,o,b,ct,h,rfl,l,c⟩,k⟩
end
def Kx{k}(b:Ui k A):A.units+1<cLine:=QN (Nat.add_le_add_left (by simp) _) b.units
def Dc(h:n<=1000):n<sizeLine:=QN h (by decide)
section
variable {X:Cx}
def pv(i:Nat){x pos}(h:autoParam (X.N[i]?=some x) au_0)(f:autoParam (Vis X.env.scope x) au_4)(g:autoParam ((x==("__debug__" : Str))=false) au_1)(b:autoParam ((x==("__classdict__" : Str))=false) au_1):PE X (.Name x pos) (XG i):=Zap h f g b
end
def U4{A B:Prop}(h:B):if false=true then A else B:=by grind
def Pp{A B:Prop}(h:A):if true=true then A else B:=by grind
def Uq{c A B:Prop}[Decidable c](f:c->A)(b:¬c->B):if c then A else B:=by grind
def KZ{c A B:Prop}[Decidable c](b:c)(h:B):if (!decide c)=true then A else B:=by grind
def Same(H H':Hp):Prop:=∀b o,H b=some o->H' b=some o
def Same.refl (H:Hp):Same H H:=λ_ _ h=>h
def Same.trans (a:Same H g) (b:Same g f):Same H f:=λc o h=>b c o (a c o h)
def Same.free (e:Same H H') {l} (h:H' l=Option.none):H l=Option.none:=by
 cases q:H l with
 |none=>rfl
 |some o=>
  rw[e l o q]at h;lia
def Same.seq {K H H'}{a xs} (e:Same H H') (h:SqL K H a xs):SqL K H' a xs:=by
 rcases h with(h|⟨o,h⟩)|h
 ·exact .inl (.inl<|e _ _ h)
 ·exact .inl (.inr ⟨o,e _ _ h⟩)
 ·exact .inr h
end L2
set_option maxHeartbeats 4000000
namespace L2
section
variable {κ:Type} [DecidableEq κ]
noncomputable def Us(b:List (κ×V))(k:κ):Option V:=(b.find? λf=>decide (f.1=k)).map (·.2)
noncomputable def putK(b:List (κ×V))(k:κ)(v:V):List (κ×V):=
 if (b.any λf=>decide (f.1=k))=true then b.map (λf=>if f.1=k then(f.1,v)else f)else b++[(k,v)]
def X5{p:κ×V}{r:List (κ×V)}{k:κ}(e:p.1=k):Us (p::r) k=some p.2:=by simp[Us,Qo,e]
def XA{p:κ×V}{r:List (κ×V)}{k:κ}(e:¬p.1=k):Us (p::r) k=Us r k:=by simp[Us,Qo,e]
theorem T8(k:κ):∀b:List (κ×V),(b.any λf=>decide (f.1=k))=(Us b k).isSome
 |[]=>rfl
 |p::r=>by
  rw[QG];by_cases e:p.1=k
  ·simp only[X5 e,Wh e,Bool.true_or,Option.isSome_some]
  ·rw[XA e,Ws e,Bool.false_or];exact T8 k r
theorem Da(k j:κ)(y:V):∀b:List (κ×V),Us (b.map λf=>if f.1=k then(f.1,y)else f) j=(Us b j).map λx=>if j=k then y else x
 |[]=>rfl
 |p::r=>by
  have g:=Da k j y r;rw[W7];by_cases h:p.1=k
  ·rw[Wj h];by_cases e:p.1=j
   ·rw[X5 (p:=(p.1,y)) e,X5 e,Vo,Wj (e.symm.trans h)]
   ·rw[XA (p:=(p.1,y)) e,XA e,g]
  ·rw[Wf h];by_cases e:p.1=j
   ·rw[X5 (p:=p) e,X5 e,Vo,Wf (λz=>h (e.trans z))]
   ·rw[XA (p:=p) e,XA e,g]
theorem An(k j:κ)(y:V):∀b:List (κ×V),Us b k=none->Us (b++[(k,y)]) j=if j=k then some y else Us b j
 |[],_=>by
  by_cases e:k=j
  ·rw[Wj e.symm];exact X5 (p:=(k,y)) e
  ·rw[Wf (λz=>e z.symm)];exact XA (p:=(k,y)) e
 |p::r,f=>by
  rw[List.cons_append];have g:¬p.1=k:=λz=>by rw[X5 z]at f;cases f
  rw[XA g]at f;have h:=An k j y r f;by_cases e:p.1=j
  ·rw[X5 e,X5 e,Wf (λz=>g (e.trans z))]
  ·rw[XA e,XA e,h]
def Hu(b:List (κ×V))(k j:κ)(y:V):Us (putK b k y) j=if j=k then some y else Us b j:=by
 unfold putK;by_cases a:(b.any λf=>decide (f.1=k))=true
 ·rw[Wj a,Da];rw[T8]at a;by_cases e:j=k
  ·obtain⟨x,hx⟩:=Option.isSome_iff_exists.mp a;rw[Wj e,e,hx,Vo,Wj rfl]
  ·rw[Wf e];cases Us b j with
   |none=>rfl
   |some x=>rw[Vo,Wf e]
 ·rw[Wf a];refine An k j y b ?_;rw[T8]at a;cases q:Us b k with
  |none=>rfl
  |some x=>rw[q]at a;exact(a rfl).elim
def SZ(b:List (κ×V))(k:κ)(v:V):(putK b k v).length<=b.length+1:=by
 unfold putK;split
 ·rw[Wc];omega
 ·rw[Wx,WW,List.length_nil];omega
def RelO.isSome_eq {o:Option V}{u:Ym} (r:RelO o u):o.isSome=u.isSome:=by
 cases o with
 |none=>cases u with
  |none=>rfl
  |some _=>exact(show False from r).elim
 |some _=>cases u with
  |none=>exact(show False from r).elim
  |some _=>rfl
def KV.val {f:List (κ×V)}{vs:List (κ×Value)} (r:KV f vs) (k:κ):RelO (Us f k) (valueAt vs k):=by
 unfold KV at r
 induction r with
 |nil=>exact True.intro
 | @cons p q u g h t o=>
  obtain⟨n,s⟩:=h;by_cases e:p.1=k
  ·have l:q.1=k:=n.symm.trans e;have b:valueAt (q::g) k=some q.2:=by simp[valueAt,Qo,l]
   rw[X5 e,b];exact s
  ·have l:¬q.1=k:=λz=>e (n.trans z);have b:valueAt (q::g) k=valueAt g k:=by simp[valueAt,Qo,l]
   rw[XA e,b];exact o
def KV.any {b:List (κ×V)}{vs:List (κ×Value)} (r:KV b vs) (k:κ):(b.any λf=>decide (f.1=k))=vs.any λf=>decide (f.1=k):=by
 unfold KV at r
 induction r with
 |nil=>rfl
 |cons h t g=>rw[QG,QG,g,h.1]
def KV.repl {f:List (κ×V)}{vs:List (κ×Value)} (r:KV f vs) (k:κ) {y:V}{u:Value} (l:RelV y u) :
  KV (f.map λb=>if b.1=k then(b.1,y)else b) (vs.map λb=>if b.1=k then(b.1,u)else b):=by
 unfold KV at r ⊢
 induction r with
 |nil=>exact .nil
 | @cons p q v s h t n=>
  rw[W7,W7];refine .cons ?_ n;obtain⟨g,o⟩:=h;by_cases e:p.1=k
  ·rw[Wj e,Wj (g.symm.trans e)];exact⟨g,l⟩
  ·rw[Wf e,Wf (λz=>e (g.trans z))];exact⟨g,o⟩
def KV.put {b:List (κ×V)}{vs:List (κ×Value)} (r:KV b vs) (k:κ) {y:V}{u:Value} (f:RelV y u):KV (putK b k y) (stored vs k u):=by
 unfold putK stored;rw[r.any k];by_cases e:(vs.any λg=>decide (g.1=k))=true
 ·rw[Wj e,Wj e];exact r.repl k f
 ·rw[Wf e,Wf e];exact Paired.snoc r ⟨rfl,f⟩
def KV.length {b:List (κ×V)}{vs:List (κ×Value)} (r:KV b vs):b.length=vs.length:=Paired.length r
end
def Nn{P:Program}{w:World}{k:Key}{u:Value}(r:RelV (kV k) u):(Xq P w).is k u=true:=by
 cases k with
 |inl i=>obtain⟨t,e⟩:=(show ∃t,u=Value.int i t from r);subst e;exact Mp P w i t
 |inr x=>obtain⟨t,e⟩:=(show ∃t,u=Value.str x t from r);subst e;exact Zbj P w x t
theorem Di{P:Program}{w:World}:∀{b:List Key}{us:Yi},Vals (b.map kV) us->ItemsAre (Xq P w) b us
 |[],_,r=>by rw[List.map_nil]at r;cases r;exact .nil
 |k::b,_,r=>by
  rw[W7]at r;cases r with
  |cons h t=>exact .cons (Nn h) (Di t)
abbrev KT(H:Hp):List (List Key×V)->List (List Key×Addr×Value)->Prop:=Paired λp q=>p.1=q.1/\H q.2.1=some (.tup<|p.1.map kV)/\RelV p.2 q.2.2
def KT.val {H:Hp}{f:List (List Key×V)}{xs:List (List Key×Addr×Value)} (r:KT H f xs) (k:List Key):RelO (Us f k) ((atKey xs k).map (·.2)):=by
 induction r with
 |nil=>exact True.intro
 | @cons p q u g h t o=>
  obtain⟨n,_,s⟩:=h;by_cases e:p.1=k
  ·have l:q.1=k:=n.symm.trans e;have b:atKey (q::g) k=some q.2:=by simp[atKey,Qo,l]
   rw[X5 e,b];exact s
  ·have l:¬q.1=k:=λz=>e (n.trans z);have b:atKey (q::g) k=atKey g k:=by simp[atKey,Qo,l]
   rw[XA e,b];exact o
def KT.repl {H:Hp}{b:List (List Key×V)}{xs:List (List Key×Addr×Value)} (r:KT H b xs) (k:List Key) {y:V}{u:Value} (n:RelV y u) :
  KT H (b.map λg=>if g.1=k then(g.1,y)else g) (xs.map<|putAt k u):=by
 induction r with
 |nil=>exact .nil
 | @cons p q w v h t o=>
  rw[W7,W7];refine .cons ?_ o;obtain⟨f,l,s⟩:=h;unfold putAt;by_cases e:p.1=k
  ·rw[Wj e,Wj (f.symm.trans e)];exact⟨f,l,n⟩
  ·rw[Wf e,Wf (λz=>e (f.trans z))];exact⟨f,l,s⟩
def KT.put {H:Hp}{f:List (List Key×V)}{xs:List (List Key×Addr×Value)} (r:KT H f xs) (k:List Key) {b:Addr}{y:V}{u:Value} (l:H b=some (.tup<|k.map kV)) (g:RelV y u) :
  KT H (putK f k y) (storedH xs k b u):=by
 have e:(f.any λh=>decide (h.1=k))=(atKey xs k).isSome:=by
  rw[T8,(r.val k).isSome_eq,Vy]
 unfold putK storedH;rw[e];by_cases q:(atKey xs k).isSome=true
 ·rw[Wj q,Wj q];exact r.repl k g
 ·rw[Wf q,Wf q];exact Paired.snoc r ⟨rfl,l,g⟩
def KT.keeps {H H':Hp}{f:List (List Key×V)}{xs:List (List Key×Addr×Value)} (r:KT H f xs) (h:∀b g,H b=some (.tup g)->H' b=some (.tup g)):KT H' f xs:=
 Paired.mapP r λ_ _ z=>⟨z.1,h _ _ z.2.1,z.2.2⟩
section
variable {P:Program}{w:World}{H:Hp}{h:Heap}{a:Addr}
def Cw{u:HO}(ok:HOk P w H h)(e:Rd H a u):ObjOk P w H h a u:=e.ok ok
def TK{b:List (Key×V)}(ok:HOk P w H h)(e:Rd H a (.dK b)):b.length<=sizeLine/\(a==sysModules)=false/\∃vs,KV b vs/\h.DictOf (Xq P w) a vs:=
 show ObjOk P w H h a (.dK b)from Cw ok e
def Zab{b:List (Key×V)}(ok:HOk P w H h)(e:H a=some (.dK b)):b.length<=sizeLine/\(a==sysModules)=false/\∃vs,KV b vs/\h.DictOf (Xq P w) a vs:=TK ok (.inl e)
def TH{b:List Key}(ok:HOk P w H h)(e:H a=some (.tup<|b.map kV)):(tupleKind<|Xq P w).is h b a:=by
 obtain⟨_,f,r,o,p,l,n,g⟩:=(show ObjOk P w H h a (.tup<|b.map kV)from ok a _ e)
 exact⟨o,f.toArray,n,p,l,g,by simpa using Di r⟩
def T7{b:List (List Key×V)}(ok:HOk P w H h)(e:Rd H a (.dT b)):b.length<=sizeLine/\(a==sysModules)=false/\
  ∃xs,KT H b xs/\h.DictOfH (tupleKind<|Xq P w) a xs:=by
 obtain⟨z,y,xs,r,o,A,B,v,u,s,n,g⟩:=(show ObjOk P w H h a (.dT b)from Cw ok e)
 refine⟨z,y,xs,r,o,A,B,v,u,s,n,λx hx=>?_,g⟩
 have all:∀{l:List (List Key×V)} {m:List (List Key×Addr×Value)},KT H l m->∀x∈m,(tupleKind<|Xq P w).is h x.1 x.2.1:=by
  intro l m q
  induction q with
  |nil=>intro x hx;exact nomatch hx
  | @cons p q E C hq t f=>
   intro x hx;rcases Wo.mp hx with e|hx
   ·subst e;exact TH ok (by rw[←hq.1];exact hq.2.1)
   ·exact f x hx
 exact all r x hx
def Ld{b:List (List Key×V)}(ok:HOk P w H h)(e:H a=some (.dT b)):b.length<=sizeLine/\(a==sysModules)=false/\
  ∃xs,KT H b xs/\h.DictOfH (tupleKind<|Xq P w) a xs:=T7 ok (.inl e)
end
def DGet(H:Hp)(a:Addr)(y:V)(r:Option V):Prop:=
 (∃f k,Rd H a (.dK f)/\y=kV k/\r=Us f k)\/∃f k b,Rd H a (.dT f)/\y=.ref b/\H b=some (.tup<|k.map kV)/\r=Us f k
def DPut(H:Hp)(a:Addr)(y v:V)(H':Hp):Prop:=
 (∃f k,H a=some (.dK f)/\y=kV k/\f.length<sizeLine/\H'=upd H a (.dK<|putK f k v))\/
 ∃f k b,H a=some (.dT f)/\y=.ref b/\H b=some (.tup<|k.map kV)/\f.length<sizeLine/\H'=upd H a (.dT<|putK f k v)
def DGet.k {H:Hp}{a:Addr}{b:List (Key×V)}{k:Key} (e:H a=some (.dK b)):DGet H a (kV k) (Us b k):=.inl ⟨b,k,.inl e,rfl,rfl⟩
def DGet.t {H:Hp}{a b:Addr}{f:List (List Key×V)}{k:List Key} (e:H a=some (.dT f)) (g:H b=some (.tup<|k.map kV)):DGet H a (.ref b) (Us f k):=.inr ⟨f,k,b,.inl e,rfl,g,rfl⟩
def DPut.k {H:Hp}{a:Addr}{b:List (Key×V)}{k:Key}{v:V} (e:H a=some (.dK b)) (f:b.length<sizeLine):DPut H a (kV k) v (upd H a<|.dK<|putK b k v):=.inl ⟨b,k,e,rfl,f,rfl⟩
def DPut.t {H:Hp}{a b:Addr}{f:List (List Key×V)}{k:List Key}{v:V} (e:H a=some (.dT f)) (h:H b=some (.tup<|k.map kV)) (g:f.length<sizeLine) :
  DPut H a (.ref b) v (upd H a<|.dT<|putK f k v):=.inr ⟨f,k,b,e,rfl,h,g,rfl⟩
section
variable {X:Cx}{pins:Yd}{σ:St}{H:Hp}{s:Shared}{a:Addr}{y v:V}{u r:Value}{o:Option V}{A:Around}{E:Yf}
def Inv.big (I:Inv X pins σ H s):sysModules<s.heap.objs.size:=by
 have h:mainGlobals<s.heap.objs.size:=(I.mod.glob.keeps I.bk).lt;exact Q8 (by decide) h
def OT{Q:Yf}(L:A.units+1<cLine)(I:Inv X pins σ H s)(g:DGet H a y (some v))(G:RelV y u)(h:∀n C,Inv X pins σ H C->RelV v n->Q n C) :
  wpAny (model X.prog X.w) A (getItem (.ref a) u) Q E s:=by
 rcases g with⟨q,k,e,ey,l⟩|⟨q,k,b,e,ey,T,l⟩
 ·subst ey;obtain⟨z,N,J,rel,B⟩:=TK I.hok e;obtain⟨n,hw,f⟩:=RelO.some_of (v:=v) (o:=valueAt J k) (by rw[l];exact rel.val k);exact wpAny_getItem_of (Nn G) B.mapOf hw (h n _ (I.tok _) f)
 ·subst ey;cases (show u=Value.ref b from G)
  obtain⟨z,N,xs,rel,B⟩:=T7 I.hok e;obtain⟨n,hw,f⟩:=RelO.some_of (v:=v) (o:=(atKey xs k).map (·.2)) (by rw[l];exact rel.val k);obtain⟨p,M,x⟩:=Option.map_eq_some_iff.mp hw;refine wpAny_getItem_heap (tupleKind_room_in1 L) (TH I.hok T) B M ?_;rw[x];exact h n _ (I.tok _) f
def Ms{Q:Yf}(C:A.units+1<cLine)(I:Inv X pins σ H s)(g:DGet H a y o)(B:RelV y u)(h:∀x,Inv X pins σ H x->Q (.bool o.isSome) x) :
  wpAny (model X.prog X.w) A (compareOp .In u<|.ref a) Q E s:=by
 rcases g with⟨f,k,e,ey,l⟩|⟨f,k,b,e,ey,G,l⟩
 ·subst ey;obtain⟨z,n,J,rel,p⟩:=TK I.hok e;refine wpAny_in_of (Nn B) n p.mapOf ?_;rw[←(rel.val k).isSome_eq,←l];exact h _ (I.tok _)
 ·subst ey;cases (show u=Value.ref b from B)
  obtain⟨z,n,xs,rel,p⟩:=T7 I.hok e;refine wpAny_in_heap (tupleKind_room_in1 C) (TH I.hok G) n p ?_;have q:=(rel.val k).isSome_eq;rw[Vy]at q;rw[←q,←l];exact h _ (I.tok _)
def Ex{f:Heap}{t':Nat}{g:HO}(I:Inv X pins σ H s)(h:Mut (H a))(l:Heap.SameBut a s.heap f)(n:∃q,f.get? a=some q)(new:ObjOk X.prog X.w (upd H a g) f a g) :
  Inv X pins σ (upd H a g) {s with heap:=f,toks:=t'}:=
 I.write (x:=a) (e:=a) h (.inl rfl) (λb q p z=>(l.2 b p).trans z) n new
def Mx{P:Program}{w:World}{H':Hp}{f:Heap}{b:List (Key×V)}{vs:List (Key×Value)}(z:b.length<=sizeLine)(g:(a==sysModules)=false)(rel:KV b vs)(dd:f.DictOf (Xq P w) a vs) :
  ObjOk P w H' f a (.dK b):=⟨z,g,vs,rel,dd⟩
def OV{H':Hp}{Q:Unit->Shared->Prop}(hu:A.units+1<cLine)(I:Inv X pins σ H s)(g:DPut H a y v H')(M:RelV y u)(rv:RelV v r)(h:∀L,Inv X pins σ H' L->Q () L) :
  wpAny (model X.prog X.w) A (setItem (.ref a) u r) Q E s:=by
 rcases g with⟨f,k,e,ey,l,G⟩|⟨f,k,b,e,ey,U,l,G⟩
 ·subst ey G;obtain⟨z,C,Y,rel,J⟩:=Zab I.hok e;have p:Y.length<=sizeLine:=by rw[←rel.length];exact z
  have B:(putK f k v).length<=sizeLine:=by have:=SZ f k v;omega
  refine wpAny_setItem_pairs (hsz:=p) (Nn M) J λN n x=>h _ ?_;have he:∃q,N.get? a=some q:=let ⟨q,_,_,hq,_⟩:=n;⟨q,hq⟩;exact Ex I (by rw[e];exact True.intro) x he (Mx B C (rel.put k rv) n)
 ·subst ey G;cases (show u=Value.ref b from M)
  obtain⟨z,C,xs,rel,J⟩:=Ld I.hok e;have p:xs.length<=sizeLine:=by rw[←Paired.length rel];exact z
  have B:(putK f k v).length<=sizeLine:=by have:=SZ f k v;omega
  refine wpAny_setItem_heap (hsz:=p) (tupleKind_room_in1 hu) (TH I.hok U) J λN n x=>h _ ?_;obtain⟨q,es,ep,hq,h2,h3,h4,_,h5⟩:=n;refine Ex I (by rw[e];exact True.intro) x ⟨q,hq⟩ ⟨B,C,_,(rel.put k U rv).keeps λc ys T=>?_,q,es,ep,hq,h2,h3,h4,h5⟩;rw[Uj (Og T e (λz=>nomatch z))];exact T
end
def FG(i:Expr):Prop:=∀b f,subscripted i false b f=operate [b,f] (getItem b f)
def Oh{prog:Program}{w:World}{A:Around}{E:Yf}{s:Shared}{env:Env}{value slice:Expr}{pos:Pos}{T id:String}{Q:Yf}(y:typeLookup (.type T) "__getitem__"=pure (some<|.builtin id))(v:FG slice)(h:wpAny (model prog w) A (eval value env) (λo l=>wpAny (model prog w) A (eval slice env) (λi b=>b.TypeIs o T/\wpAny (model prog w) A (getItem o i) Q E b) E l) E s) :
  wpAny (model prog w) A (eval (.Subscript value slice pos) env) Q E s:=by
 refine Subscript_ (WB h (λo l q=>WB q (λi b f=>?_) λ_ _ x=>x) λ_ _ x=>x);obtain⟨u,f⟩:=f;unfold subscriptTail;refine Wa ?_;rw[getitemInPython_of_ne u.not_modules];refine Wa (wpAny_specialOf u y ?_)
 have n:wpAny (model prog w) A (subscripted slice false o i) (λr g=>wpAny (model prog w) A (letTemporaryGo value o r >>= λ_=>pure r) Q E g) E b:=by
  rw[v o i];exact wpAny_operating (WB f (λr g p=>Wa (wpAny_letTemporaryGo<|We p)) λ_ _ x=>x)
 first
  |exact We (Wa n)
  |exact Wa (We<|Wa n)
  |exact Wa n
def Rw{X:Cx}{pins:Yd}{l:St}{H:Hp}{s:Shared}{a:Addr}{y:V}{o:Option V}(I:Inv X pins l H s)(g:DGet H a y o):s.TypeIs (.ref a) "dict":=by
 rcases g with⟨f,k,e,_,_⟩|⟨f,k,b,e,_,_,_⟩
 ·obtain⟨_,_,n,_,h⟩:=TK I.hok e;exact h.typeIs
 ·obtain⟨_,_,xs,_,h⟩:=T7 I.hok e;exact h.typeIs
noncomputable def Ao(h g:TE):TE:=λb H Q=>h b H λx l=>g b l λy f=>∃a v,x=.ref a/\DGet f a y (some v)/\Q v f
noncomputable def En(g h:TE):TE:=λb H Q=>g b H λy l=>h b l λx f=>∃a o,x=.ref a/\DGet f a y o/\Q (.bl o.isSome) f
noncomputable def Aa(l g h:TE):TS:=λD b H=>h b H λv p=>l b p λx o=>g b o λy n=>∃a f,x=.ref a/\DPut n a y v f/\D.nx b f
section
variable {X:Cx}{o i e value:Expr}{pos pos' tpos:Pos}{td ty tv:TE}
def ED(z:X.A.units+1<cLine)(C:PE X o td)(E:PE X i ty)(B:FG i):PE X (.Subscript o i pos) (Ao td ty):=by
 intro pins s f H Q I h;refine Oh PySem.F.slot_dict_getitem.lookup B (thn (C pins s f H _ I h) ?_);rintro u n ⟨x,N,L,q,w⟩;refine thn (E pins n f N _ L w) ?_;rintro iv Y ⟨y,M,l,p,a,v,G,g,r⟩;subst G;obtain rfl:u=Value.ref a:=q;exact⟨Rw l g,OT z l g p λT U J b=>⟨v,M,J,b,r⟩⟩
def F3(v:X.A.units+1<cLine)(z:PE X i ty)(w:PE X o td):PC X .In i o (En ty td):=by
 intro pins s b H Q I h;refine thn (z pins s b H _ I h) ?_;rintro T f ⟨y,L,G,l,q⟩;refine thn (w pins f b L _ G q) ?_;rintro u N ⟨x,J,E,n,a,r,B,g,p⟩;subst B;obtain rfl:u=Value.ref a:=n;exact Ms v E g l λM C=>⟨.bl r.isSome,J,C,rfl,p⟩
def Zbv(E:X.A.units+1<cLine)(J:PE X o td)(L:PE X i ty)(C:PE X value tv)(G:swapsWith value (some<|.Subscript o i pos') pos.line X.env=pure false) :
  PS X (.Assign [.Subscript o i pos'] value pos) (Aa td ty tv):=by
 intro pins s b H D I h;refine wpAny_Assign_Subscript (thn (C pins s b H _ I h) ?_) G;rintro r l ⟨v,H1,U,q,B⟩;refine thn (J pins l b H1 _ U B) ?_;rintro u f ⟨x,H2,T,p,z⟩;refine thn (L pins f b H2 _ T z) ?_;rintro iv s3 ⟨y,H3,Q,n,a,Y,M,g,w⟩;subst M;obtain rfl:u=Value.ref a:=p;exact OV E Q g n q λs4 N=>⟨b,Y,N,w⟩
end
def IW{P:Program}{w:World}{H:Hp}(h:Heap)(b:sysModules<h.objs.size):ObjOk P w H (h.push {cls:=.type "dict",data:=.dict #[]}) h.objs.size (.dK []):=
 ⟨Qe _,Qx.mpr (Ne.symm<|Wu b),[],.nil,Heap.DictOf.new h⟩
noncomputable def Cz:TE:=λ_ H Q=>∀p,H p=none->Q (.ref p) (upd H p<|.dK [])
section
variable {X:Cx}{pos:Pos}
def MM:PE X (.Dict [] [] pos) Cz:=λpins s b H Q I h=>
 wpAny_Dict_empty ⟨.ref s.heap.objs.size,_,I.laid (a:=s.heap.objs.size) (o:=.dK []) (t':=s.toks) (λ_ _ q=>Wd _ q) (Wk _) (IW s.heap I.big),rfl,h _ (I.hok.fresh<|Wk _)⟩
end
end L2
set_option genInjectivity false
set_option genSizeOfSpec false
namespace Own
open L2
structure Def (K:Ya) (mg:Ye) (x:Str) (st:Stmt) (ps:Yj):Prop where
 ex:∃f fd,Fun K x x st f fd/\mg x=some (.ref f)/\Binds K fd ps []
structure Callee (P:Program) (w:World) (K:Ya) (mg:Ye) (base:Heap) (CX:CXT) (k:Nat) (x:Str) (ps:Yj) (sp:Sp):Prop where
 ex:∃f fd,UQ P w K mg base CX k f fd ps sp/\mg x=some (.ref f)/\PySem.W.keepIn K (.ref f)=true/\(∃o:Obj,K.lookup f=some o/\o.data=.func fd)/\Binds K fd ps []
section
variable {P:Program}{w:World}{K:Ya}{mg:Ye}{base:Heap}
def Callee.at {st f b k ps sp} (C:Callee P w K mg base CX k x ps sp) (s:mg x=some (.ref f)) (F:Fun K x x st f b) (_:Def K mg x st ps):UQ P w K mg base CX k f b ps sp:=by
 obtain⟨v,l,A,h,_,u,_⟩:=C.ex;obtain⟨oc,q,kV,n,p,z,o,y,g,_,r,_⟩:=F.ex
 grind
def Def.ok {st N ps k sp} (D:Def K mg x st ps) (S:Uh N ps (Ud st)) (len:∀vs H Q E,sp vs H Q E->vs.length=ps.length)
  (g:∀f b A outer s H vs Q E,Ui k (A.deeper<|envOfC x (Ud st) s.heap.objs.size f b)->sp vs H Q E->
   ∃t,PSs (Uy CX0 P w K mg base N x (Ud st) f b A outer s H E).nox (Uv st) t/\t {nx:=λ_ H'=>Q .non H',rt:=Q} (start N vs) H):Callee P w K mg base CX0 (k+1) x ps sp:=by
 obtain⟨f,q,F,o,p⟩:=D.ex;refine⟨f,q,F.ok S len λb A outer s H vs Q E n h=>g f b A outer s H vs Q E n h,o,F.kp,?_,p⟩;obtain⟨oc,v,kV,r,u,B,b,z,l,_,y,_⟩:=F.ex
 grind
end
section
variable {X:Cx}{CX:CXT}{k:Nat}{ps:Yj}{sp:Sp}{E:XK}{x:Str}{p pos:Pos}{e:Expr}{es:Yk}{t:TA}
def Cv(C:Callee X.prog X.w X.K X.mg X.base CX k x ps sp)(h:Ui k X.A)(hx:Xo CX X E)(s:PA X (e::es) t)(o:autoParam (Gl X x) au_0)(g:autoParam ((x==("__debug__" : Str))=false) au_1)(q:autoParam (starEach (e::es) X.env=(false,eval e X.env)::starEach es X.env) au_0)(b:autoParam ((backTo pos<|starEach es X.env).any (·.1)=false) au_0) :
  PE X (.Call (.Name x p) (e::es) [] pos) (KN sp [] E t):=by
 obtain⟨f,u,F,l,n,_,r⟩:=C.ex;exact OD F h o l n r .nil hx s g q b
def Hq:Xa X (.builtin "isinstance") (λxs H Q=>∃x n t b,xs=[x,.ty n]/\UY X.K H x t/\PySem.W.kitOne X.K t (.type n)=some b/\Q (.bl b) H):=by
 intro pins s w H xs y Q I o h;obtain⟨x,n,t,b,rfl,g,e,q⟩:=h;cases o with
 |cons r u=>
  cases u with
  |cons v f=>
   cases f
   obtain rfl:=v;exact Rk I r g e λl=>⟨.bl b,H,I.tok l,rfl,q⟩
def BV:IxR X (λx y H Q=>Te X.K x y H Q\/Tj X.K x y H Q):=ix_list.or Zbi
end
noncomputable def FV(t u:TS):TS:=λD g H=>∃J:L2.St->Hp->Prop,t {D with nx:=J} g H/\∀b f,J b f->u D b f
def O5{st rest t u}(p:PS X st t)(o:PSs X rest u):PSs X (st::rest) (FV t u):=by
 intro pins s l H D I h;obtain⟨J,h,k⟩:=h;refine wpAny_execs_cons (thn (p pins s l H {D with nx:=J} I h) λf n q=>?_)
 cases f with
 |next=>
  obtain⟨b,g,r,q⟩:=q;exact o pins n b g D r (k b g q)
 |_=>exact q
def O3(K:Ya)(n:String):PySem.W.kitOne K (.type n) (.type n)=some true:=by
 unfold PySem.W.kitOne;simp
def Kn{xs i v}(h:atI xs i=some v):atI (xs.map f) i=some (f v):=by
 unfold atI at h ⊢;cases e:ixN xs.length i with
 |_=>grind
def Nf{i v}(b:0<=i)(h:xs[i.toNat]?=some v):atI xs i=some v:=by
 have:=Pv h
 grind
def US(h:H a=none):Same H (upd H a o):=λb u e=>by rw[Uj (UC e h)];exact e
def Same.upd (S:Same H H') (h:H a=none):Same H (upd H' a o):=λb u e=>by rw[Uj (UC e h)];exact S b u e
def Same.new (S:Same H H') (h:H' a=none):Same H (L2.upd H' a o):=Own.Same.upd S (S.free h)
def HY(names:List (Str×NameKind))(f:∀x∈names,x.2=.free->∃c,env.cells.lookup x.1=some c):∀b,(∀x c,b.lookup x=some c->env.cells.lookup x=some c)->
  ∃g,(forIn names b (λx w=>if (x.2 == .free)=true then(do let c ←cellOf env x.1;pure (ForInStep.yield ((x.1,c)::w)))else pure (ForInStep.yield w)):Sem (Yp))=pure g/\
   (∀x c,g.lookup x=some c->env.cells.lookup x=some c)/\(∀x,(∃c,b.lookup x=some c)->∃c,g.lookup x=some c)/\∀x∈names,x.2=.free->∃c,g.lookup x.1=some c:=by
 induction names with
 |nil=>
  intro b p;exact⟨b,rfl,p,λ_ h=>h,λx hx=>by cases hx⟩
 |cons y r z=>
  intro b p;have l:=z λx hx=>f x (Wr _ hx);obtain⟨n,k⟩:=y;by_cases u:k=.free
  ·subst u;obtain⟨c,v⟩:=f (n,.free) Wz rfl
   have A:∀x d,List.lookup x ((n,c)::b)=some d->env.cells.lookup x=some d:=λx d e=>by
    rw[WX]at e;by_cases hx:x=n
    ·subst hx;simp at e;subst e;exact v
    ·have:(x==n)=false:=by simpa using hx
     rw[this]at e;exact p x d e
   obtain⟨g,e,s,p2,q⟩:=l ((n,c)::b) A;refine⟨g,?_,s,λx hx=>p2 x ?_,λx hx o=>?_⟩
   ·rw[List.forIn_cons];have B:cellOf env n=pure c:=by unfold cellOf;rw[v]
    rwa[B]
   ·rw[WX];cases (x==n)
    ·exact hx
    ·exact⟨c,rfl⟩
   ·rcases Wo.mp hx with rfl|hx
    ·exact p2 n ⟨c,by simp[WX]⟩
    ·exact q x hx o
  ·obtain⟨g,e,s,p2,q⟩:=l b p;refine⟨g,?_,s,p2,λx hx o=>?_⟩
   ·grind
   ·rcases Wo.mp hx with rfl|hx
    ·exact absurd o u
    ·exact q x hx o
def LN{sc}(b:∀x∈sc.names,x.2=.free->∃c,env.cells.lookup x.1=some c) :
  ∃f,closureFor sc env=pure f/\(∀x c,f.lookup x=some c->env.cells.lookup x=some c)/\∀x∈sc.names,x.2=.free->∃c,f.lookup x.1=some c:=by
 obtain⟨f,e,l,_,g⟩:=HY sc.names b [] (λx c h=>by cases h);unfold closureFor
 grind
noncomputable def UB(X:Cx)(N':Yj)(g:Scope)(h:Yp)(C:Addr)(b:Shared)(f:Hp)(ex:List Addr):Cx:=
 {X with N:=N',s₀:=b,H₀:=f,env:=compEnvC g h C X.env,outer:=X.stack,ex:=ex,fn:=λ_=>false,pn:=[],xe:=λ_ _=>False}
structure Pg (X:Cx) (N':Yj) (φ:Yg) (sc:Scope):Prop where
 kind:sc.kind=.function
 okind:X.env.scope.kind=.function
 nocell:∀y∈sc.names,y.2≠.cell
 names:∀y∈sc.names,y.2=.local->sc.names.lookup y.1=some .local
 frees:∀y∈sc.names,y.2=.free->X.env.scope.names.lookup y.1=some .cell
 len:φ.length=N'.length
 pick:∀(i:Nat) (x:Str) (j:Nat),N'[i]?=some x->φ[i]?=some (some j)->X.N[j]?=some x/\sc.names.lookup x=some .free
noncomputable def atStart(φ:Yg)(b:L2.St):L2.St:=φ.map λo=>o.bind λj=>(b[j]?).join
def Sub(f b:L2.St):Prop:=b.length=f.length/\∀(i:Nat) (v:V),f[i]?=some (some v)->b[i]?=some (some v)
def Sub.refl:Sub b b:=⟨rfl,λ_ _ h=>h⟩
def Sub.skip (h:Sub f b):Sub (none::f) (x::b):=by
 refine⟨by simp[h.1],λi v e=>?_⟩;cases i with
 |zero=>grind
 |succ i=>simp at e ⊢;exact h.2 i v e
theorem Ad{env:Env}(o:env.scope.kind=.function):∀{names:List (Str×NameKind)}{x:Str},names.lookup x=some .free->env.scope.names.lookup x=some .cell->
  (names.map λ(n,k)=>if (k==NameKind.free&&env.scope.kind == .function&&env.kindOf n==some .cell)then(n,NameKind.cell)else(n,k)).lookup x=some .cell
 |[],_,h,_=>by simp at h
 |(n,k)::r,x,h,f=>by
  have g:=@Ad env o r x;show List.lookup x ((if (k==NameKind.free&&env.scope.kind == .function&&env.kindOf n==some .cell)=true then(n,NameKind.cell)else(n,k))::_)=_;cases hx:x==n with
  |true=>
   have l:env.kindOf x=some .cell:=f;simp_all
  |false=>
   simp only[WX,hx]at h;by_cases b:(k==NameKind.free&&env.scope.kind == .function&&env.kindOf n==some .cell)=true
   ·rw[Wj b];simp only[WX,hx];exact g h f
   ·rw[Wf b];simp only[WX,hx];exact g h f
theorem Fk{env:Env}:∀{names:List (Str×NameKind)}{x}{q:NameKind},
  (names.map λ(n,k)=>if (k==NameKind.free&&env.scope.kind == .function&&env.kindOf n==some .cell)then(n,NameKind.cell)else(n,k)).lookup x=some q->∃k,(x,k)∈names/\(q=k\/k=.free)
 |[],_,_,h=>by simp at h
 |(n,k)::r,x,q,h=>by
  have f:List.lookup x ((if (k==NameKind.free&&env.scope.kind == .function&&env.kindOf n==some .cell)=true then(n,NameKind.cell)else(n,k))::(r.map λ(n,k)=>if (k==NameKind.free&&env.scope.kind == .function&&env.kindOf n==some .cell)then(n,NameKind.cell)else(n,k)))=some q:=h;cases hx:x==n with
  |true=>
   have e:x=n:=by simpa using hx
   subst e;by_cases b:(k==NameKind.free&&env.scope.kind == .function&&env.kindOf x==some .cell)=true
   ·simp_all
   ·simp_all
  |false=>
   have o:List.lookup x (r.map λ(n,k)=>if (k==NameKind.free&&env.scope.kind == .function&&env.kindOf n==some .cell)then(n,NameKind.cell)else(n,k))=some q:=by
    by_cases b:(k==NameKind.free&&env.scope.kind == .function&&env.kindOf n==some .cell)=true
    ·rw[Wj b]at f;simp only[WX,hx]at f;exact f
    ·rw[Wf b]at f;simp only[WX,hx]at f;exact f
   obtain⟨g,l,hq⟩:=(@Fk env r x q) o;exact⟨g,Wr _ l,hq⟩
def Ly{H target iter B scope pos L J env}(I:Nat->Shared->Prop)
  (turn:∀n s,I n s->wpAny (model prog w) A (pyNext L) (λr g=>match r with
   |none=>R (.ok .next) g
   |some v=>wpAny (model prog w) A (letOwnedTupleGo target L v) (λ_ f=>wpAny (model prog w) A (assign target env v) (λ_ q=>
     wpAny (model prog w) A (forIn B true λc r=>if r=true then do let ok ←isTrue c env (eval c env);pure (ForInStep.yield ok)else pure (ForInStep.yield r)) (λok b=>
      if ok=true then wpAny (model prog w) A (eval H env) (λx p=>
       wpAny (model prog w) A (call (.builtin "list.append") [J,x]) (λ_ o=>∃m,m<n/\I m o) (λ_ _=>False) p) (λ_ _=>False) b
      else ∃m,m<n/\I m b) (λ_ _=>False) q) (λ_ _=>False) f) (λ_ _=>False) g) (λ_ _=>False) s)
  (n:Nat) (h:I n s) :
  codeAny (model prog w) A (.compLoop (.ListComp H [⟨target,iter,B,0⟩] scope pos) 0 L J env) R s:=by
 refine codeAny_loop rfl I (λn s M=>?_) n h;refine wpAny_noted ?_;rw[compTurn_list];refine Wa (wpAny_standAt<|Wa (WB (turn n s M) (λr g y=>?_) λ_ _ l=>l.elim));cases r with
 |none=>exact We y
 |some v=>
  refine Wa (WB y (λ_ f z=>?_) λ_ _ l=>l.elim);refine Wa (WB z (λ_ q G=>Wa (WB G (λok b u=>?_) λ_ _ l=>l.elim)) λ_ _ l=>l.elim);cases ok with
  |false=>exact We ⟨rfl,u⟩
  |true=>
   exact Wa (Wa (WB u (λx p E=>Wa (WB E (λ_ o C=>We (We ⟨rfl,C⟩)) λ_ _ l=>l.elim)) λ_ _ l=>l.elim))
def K9(X:Cx)(f:Yk)(t:TT):Prop:=
 ∀(pins:Yd) (s:Shared) (b:L2.St) (H:Hp) (Q:Bool->Hp->Prop),Inv X pins b H s->t b H Q->
  wpAny (model X.prog X.w) X.A (forIn f true λc r=>if r=true then do let ok ←isTrue c X.env (eval c X.env);pure (ForInStep.yield ok)else pure (ForInStep.yield r)) (TP X pins b Q) X.xe s
noncomputable def Az:TT:=λ_ H Q=>Q true H
def PU:K9 X [] Az:=λ_ _ _ H _ I h=>We ⟨H,I,h⟩
def MG(g:PT X c t):K9 X [c] t:=by
 intro pins s f H Q I h;rw[List.forIn_cons];refine Wa ?_;exact Wa (thn (g pins s f H Q I h) λb l q=>We (We q))
noncomputable def PL(φ:Yg)(u:TI)(g:TG)(tc:TT)(te:TE):TE:=λo H Q=>u o H λJ s=>∀D,s D=none->∃W:Nat->Nat->List V->Hp->Prop,(∃m,W 0 m [] (upd s D<|.lst []))/\
 ∀i m h n,W i m h n->(J.stop i n/\Q (.ref D) n)\/(J.go i n/\∀x r,J.yld i n x r->g x (atStart φ o) r λf v=>Sub (atStart φ o) f/\tc f v λb q=>
  if b=true then te f q λy p=>p D=some (.lst h)/\h.length<sizeLine/\∃l,l<m/\W (i+1) l (h++[y]) (upd p D<|.lst (h++[y]))else ∃l,l<m/\W (i+1) l h q)
def Inv.weak {f b:L2.St}{H}{s} (I:Inv X pins b H s) (S:Sub f b):Inv X pins f H s:=
 ⟨I.ok,I.os,I.bare,I.base,let ⟨m,g,h⟩:=I.loc;⟨m,g,λi x v o n l=>h i x v o (S.2 i v n) l⟩,I.cell,I.free,I.freeC,I.pin,I.hok,by rw[←S.1];exact I.len⟩
def FU{i:Nat}{v}(h:(atStart φ b)[i]?=some (some v)):∃j,φ[i]?=some (some j)/\b[j]?=some (some v):=by
 unfold atStart at h;cases e:φ[i]? with
 |none=>grind
 |some o=>
  cases o with
  |_=>grind
def CompEnd(X:Cx)(pins:Yd)(g:L2.St)(Q:VK)(use:Option (Value->Sem Unit))(h:Yf):Prop:=
 ∀(D C:Addr) (f:Hp) (b:Shared),Q (.ref D) f->Inv X pins g f b->(∃m,b.heap.Ns C m)->f C=none->C≠X.env.locals->X.s₀.heap.objs.size<=C->(∀x c,X.env.cells.lookup x=some c->c≠C)->(∀p∈X.pn++pins,p.1≠C)->C∉X.fs->
  compPost (model X.prog X.w) X.A X.xe use h (.ref D) C (.ok .next) b
def AW{elt iter tg}{ifs}{pos pos'}{wi}{g}{tc}{te}{use}{QQ}(hcalm:X.calm=true)(S:Pg X N' φ G)(hi:PI X tg iter wi)(hin:∀U C s₃ H₃ ex,PG (UB X N' G U C s₃ H₃ ex) tg g/\K9 (UB X N' G U C s₃ H₃ ex) ifs tc/\PE (UB X N' G U C s₃ H₃ ex) elt te)(hs:∀x,foldedSetIterable iter X.env x=pure x){pins}{s}{σ:L2.St}{H}{Q}(I:Inv X pins σ H s)(h:PL φ wi g tc te σ H Q)(fin:CompEnd X pins σ Q use QQ) :
  wpAny (model X.prog X.w) X.A (comprehension (.ListComp elt [⟨tg,iter,ifs,0⟩] G pos) G X.env pos' (newList []) false (eval iter X.env) use) QQ X.xe s:=by
 obtain⟨U,hcl,p1,p3⟩:=LN λx hx hf=>I.ok.has x.1 (.inl<|S.frees x hx hf);refine wpAny_comprehension_free rfl hs hcl S.kind S.names ?_;refine thn (hi pins s σ H _ I h) λv s1 h1=>thn h1 λitv s2 h2=>?_;obtain⟨it,L,tn,J,H2,e,I2,T,st2,f2,hR⟩:=h2;subst e;refine WT ?_;have hf:=I2.hok.fresh (Wk _);obtain⟨W,⟨m0,w0⟩,turn⟩:=hR s2.heap.objs.size hf;generalize eD:s2.heap.objs.size=D at *
 have I3:Inv X pins σ (upd H2 D<|.lst []) {s2 with heap:=s2.heap.push {cls:=.type "list",dict:=none,data:=.seq ([]:Yi).toArray}}:=
  I2.laid (λb u e=>Wd _ e) (Ql eD) ⟨Qe _,[],0,.nil,by rw[←eD];exact Wn _ rfl⟩
 have st3:tn 0 (s2.heap.push {cls:=.type "list",dict:=none,data:=.seq ([]:Yi).toArray}):=T.keep _ _ _ st2 λb _ o e=>Wd _ e
 have hfpD:∀b∈L,b≠D:=λb f z=>by
  obtain⟨o,ho,_⟩:=T.obj _ _ st2 b f
  have:=Wi ho
  rw[z,←eD]at this;exact Qh _ this
 have f3:∀b∈L,Kk X pins (upd H2 D<|.lst []) b:=λb f=>⟨by rw[Uj (hfpD b f)];exact(f2 b f).1,(f2 b f).2⟩;generalize es3:({s2 with heap:=s2.heap.push {cls:=.type "list",dict:=none,data:=.seq ([]:Yi).toArray}}:Shared)=l at *
 have st3':tn 0 l.heap:=by rw[←es3];exact st3
 generalize eH3:upd H2 D (.lst [])=H3 at *;refine wpAny_newFunctionEnv S.nocell (by intro y hy;simp at hy) (λh₁ E B=>?_) S.kind;have hh3:l.heap=s2.heap.push {cls:=.type "list",dict:=none,data:=.seq ([]:Yi).toArray}:=by rw[←es3]
 rw[hh3]at E B;rw[←hh3]at E B;have old:=λb o e=>B.extBut b o (Wu<|Wi e) (Wd _ e)
 have hC0:l.heap.get? l.heap.objs.size=none:=by
  cases e:l.heap.get? l.heap.objs.size with
  |none=>rfl
  |some o=>exact absurd (Wi e) (Qh _)
 generalize eC:l.heap.objs.size=C at *;have hH3C:=I3.hok.fresh (Ql eC)
 have OK:(UB X N' G U C l H3 L).Ok:=by
  refine⟨I.ok.mod,?_,I.ok.glob,I.ok.blt,Ql eC,λx y c h1 h2=>I.ok.inj x y c (p1 x c h1) (p1 y c h2),?_,(λx c hx=>by cases hx),I.ok.hd,I.ok.frames,.inl rfl,?_,I3.bs,Wt I.ok.bsz I3.sz,?_,?_,I3.stack,I3.stkFree⟩
  ·exact S.kind
  ·intro x hx;have hx':=hx.imp Fk Fk
   have hfr:(x,NameKind.free)∈G.names:=by
    rcases hx' with⟨k,hm,rfl|rfl⟩|⟨k,hm,rfl|rfl⟩
    ·exact absurd rfl (S.nocell _ hm)
    ·exact hm
    ·exact hm
    ·exact hm
   exact p3 _ hfr rfl
  ·intro b f;refine⟨λz=>?_,λx c hx=>(f3 b f).2.2.2.2.1 x c (p1 x c hx)⟩;obtain⟨o,ho,_⟩:=T.obj _ _ st3' b f;have z':b=C:=z;rw[z',hC0]at ho;cases ho
  ·intro b o f hx;obtain⟨_,_,_,q,_,_⟩:=f3 b hx;rcases q with q|q
   ·exact I.ok.noex b o f q
   ·have:=Wv (Wi f) (Wt I.ok.bsz q)
    exact Qh _ this
  ·intro b f hz;rcases Wo.mp (I.stkSub b hz)with q|q
   ·exact(f3 b f).2.1 q
   ·exact(f3 b f).2.2.1 q
 have hlen0:(atStart φ σ).length=N'.length:=by unfold atStart;rw[Wc];exact S.len
 have I4:Inv (UB X N' G U C l H3 L) [] (atStart φ σ) H3 {l with heap:=h₁,toks:=l.toks+([]:List (Str×Value)).length}:=by
  refine⟨OK,rfl,I3.bare,Un.kept old,⟨_,E,λi x v h1 h2 h3=>?_⟩,λx c hx=>?_,hH3C,λx c hx=>I3.freeC x c (p1 x c hx),λp hp=>?_,I3.hok.kept old,hlen0⟩
  ·obtain⟨j,hj,hv⟩:=FU h2;obtain⟨hN,hfr⟩:=S.pick i x j h1 hj;obtain⟨m,_,hl⟩:=I3.loc;have hm:=Qj hfr;have M:=S.frees _ hm rfl;obtain⟨u,ru,lk⟩:=hl j x v hN hv (.inr<|.inl M);refine⟨u,ru,.inr ⟨.inl (Ad S.okind hfr M),?_⟩⟩;obtain⟨c,hc⟩:=p3 _ hm rfl;rcases lk with⟨hk,_⟩|⟨_,c',hc',hcl'⟩
   ·have hk':X.env.scope.names.lookup x=some .local:=hk;rw[M]at hk';cases hk'
   ·have e:=p1 _ _ hc;rw[hc']at e;cases e
    obtain⟨o,ho,hd⟩:=hcl';exact⟨_,hc,o,old _ o ho,hd⟩
  ·obtain⟨v,hv⟩:=I3.cell x c (p1 x c hx);obtain⟨o,ho,hd⟩:=hv;exact⟨v,o,old _ o ho,hd⟩
  ·exact absurd hp (by simp[UB])
 have st4:=T.keep _ _ _ st3' λb _ o e=>old b o e
 have stat:∀{H':Hp},(∀b∈L,H' b=none)->∀b∈L,Kk (UB X N' G U C l H3 L) [] H' b:=λhn b f=>
  ⟨hn b f,(OK.exf b f).1,OK.exfs b f,.inl f,(OK.exf b f).2,λp hp=>absurd hp (by simp[UB])⟩
 obtain⟨hPG,hPI,hPE⟩:=hin U C l H3 L
 have loop:codeAny (model X.prog X.w) X.A (.compLoop (.ListComp elt [⟨tg,iter,ifs,0⟩] G pos) 0 (.ref it) (.ref D)<|compEnvC G U C X.env) (compPost (model X.prog X.w) X.A X.xe use QQ (.ref D) C) {l with heap:=h₁,toks:=l.toks+([]:List (Str×Value)).length}:=by
  refine Ly (λn s'=>∃i ys σ' H',Inv (UB X N' G U C l H3 L) [] σ' H' s'/\Sub (atStart φ σ) σ'/\tn i s'.heap/\(∀b∈L,H' b=none)/\W i n ys H') ?_ m0 ⟨0,[],_,_,I4,Sub.refl,st4,λb f=>(f3 b f).1,w0⟩;rintro n s5 ⟨i,ys,σ5,H5,I5,sub5,st5,fr5,w5⟩;have I5':=Own.Inv.weak I5 sub5;rcases turn i n ys H5 w5 with⟨stop,qn⟩|⟨go,step⟩
  ·refine thn (T.done (UB X N' G U C l H3 L) rfl rfl rfl hcalm i [] s5 _ H5 _ I5' (stat fr5) st5 stop) ?_;rintro r s6 ⟨hr,I6⟩;subst hr;obtain⟨m,hn,_⟩:=I6.loc;obtain⟨hh,gg,dd,tt,oo⟩:=s6;obtain rfl:=I6.os;have R:Inv X pins σ H5 {l with heap:=hh,gens:=gg,drawn:=dd,toks:=tt}:=I3.call I6.base I6.hok I6.bare λb f=>⟨(f3 b f).2.2.2.1,(f3 b f).2.1,(f3 b f).2.2.2.2.1,(f3 b f).2.2.2.2.2⟩
   have hC3:=Ql eC;obtain⟨q0,q1,q2,q3,q4,q5⟩:=I3.fpOk hC3 hH3C;refine fin D C H5 _ qn R ⟨m,hn⟩ I6.free q1 (Wt I3.sz hC3) q4 q5 q2
  ·refine thn (T.item (UB X N' G U C l H3 L) rfl rfl rfl hcalm i [] s5 _ H5 _ I5' (stat fr5) st5 go) ?_;rintro r s6 ⟨u,hr,h6⟩;subst hr;refine thn h6 ?_;rintro _ s7 ⟨x,H7,I7,r7,y7,st7,fr7⟩;have I7':=I7.pinned (stat fr7) (T.obj _ _ st7);refine thn (hPG _ s7 _ H7 x u _ I7' r7<|step x H7 y7) ?_;rintro _ s8 ⟨σ8,H8,I8,sub8,q8⟩;refine thn (hPI _ s8 σ8 H8 _ I8 q8) ?_;rintro ok s9 ⟨H9,I9,q9⟩
   have again:∀{Y:Shared} {N:Hp} {ys':List V} {m':Nat},Inv (UB X N' G U C l H3 L) ([]++Th L s7.heap) σ8 N Y->W (i+1) m' ys' N->∃i ys σ' H',Inv (UB X N' G U C l H3 L) [] σ' H' Y/\Sub (atStart φ σ) σ'/\tn i Y.heap/\(∀b∈L,H' b=none)/\W i m' ys H':=λ{Y N ys' m'} J10 w10=>by
    refine⟨i+1,ys',σ8,N,J10.unpinned,sub8,T.keep _ _ _ st7 λb f o e=>(J10.pin (b,o)<|Wy _<|Wy _<|Nq f e).1,λb f=>?_,w10⟩;obtain⟨o,e,d⟩:=T.obj _ _ st7 b f;exact(J10.pin (b,o)<|Wy _<|Wy _<|Nq f e).2.1
   cases ok with
   |false=>
    obtain⟨m',hm,w'⟩:=q9;exact⟨m',hm,again I9 w'⟩
   |true=>
    refine thn (hPE _ s9 σ8 H9 _ I9 q9) ?_;rintro xv Y ⟨y,N,I10,r10,hD,hl,m',hm,w'⟩;refine thn (KP _ Y σ8 N (.ref D) [y] (.ref D) [xv] (λ_ H11=>H11=upd N D (.lst (ys++[y]))) I10 rfl (.cons r10 .nil) ⟨D,ys,y,rfl,rfl,hD,hl,rfl⟩) ?_;rintro _ s11 ⟨_,H11,I11,_,e11⟩;subst e11;exact⟨m',hm,again I11 w'⟩
 refine codeAny_compStart_list loop (T.self _ 0 _ _ _ st4 loop)
def BJ{r iter v p pos z g tc te}(n:X.calm=true)(S:Pg X N' φ u)(J:PI X v iter z)(w:∀y C f l ex,PG (UB X N' u y C f l ex) v g/\K9 (UB X N' u y C f l ex) p tc/\PE (UB X N' u y C f l ex) r te)(B:autoParam (∀x,foldedSetIterable iter X.env x=pure x) au_3):PE X (.ListComp r [⟨v,iter,p,0⟩] u pos) (PL φ z g tc te):=by
 intro pins s σ H Q I h;refine AW n S J w B I h λD C H5 s6 q R G Y U T N M c5=>?_;obtain⟨m,E⟩:=G;exact⟨m,E,λh' A=>⟨.ref D,H5,R.turned (λb o L e=>A.extBut b o L e) Y U (.inr T) N M,rfl,q⟩⟩
def L9{u iter A n pos spos py M g tc te i y}(hN:X.N.Nodup)(hy:X.N[i]?=some y)(Q:X.env.scope.names.lookup y=some .local)(r:X.calm=true)(S:Pg X N' φ w)(hi:PI X A iter M)(G:∀L C f l ex,PG (UB X N' w L C f l ex) A g/\K9 (UB X N' w L C f l ex) n tc/\PE (UB X N' w L C f l ex) u te)(hs:autoParam (∀x,foldedSetIterable iter X.env x=pure x) au_3)(E:autoParam (swapsWith (.ListComp u [⟨A,iter,n,0⟩] w pos) (some<|.Name y py) spos.line X.env=pure true) au_0) :
  PS X (.Assign [.Name y py] (.ListComp u [⟨A,iter,n,0⟩] w pos) spos) (Tr (PL φ M g tc te)<|Pk i):=by
 intro pins s Y H D0 I h;rw[exec_Assign_Name_used _ _ _ _ E];refine Wa (wpAny_standAt<|Wa ?_);refine Wa (WB (AW r S hi G hs I h λD C U s6 q R hm c0 c1 c2 c3 c4 c5=>?_) (λ_ s' z=>We (We z)) λ_ _ e=>e);obtain⟨m,B,es,ep,hoC,J,rC⟩:=hm
 have R2:Inv X (pins++[(C,B)]) Y U s6:=R.pins_of λp hp=>(WZ.mp hp).elim (λz=>R.pin p (Wy _ z)) λz=>by
  grind
 refine wpAny_assign_Name (KD R2 hN hy (.inl Q) (v:=.ref D) rfl (λs7 T=>?_)<|.inr Q);refine⟨m,⟨B,es,ep,((T.pin (C,B)<|Wy _<|Wy _<|Wg.mpr rfl).1),J,rC⟩,λh' sb=>?_⟩;exact⟨_,U,T.unpinned.turned (λb o hb e=>sb.extBut b o hb e) c0 c1 (.inr c2) c3 c4,q⟩
noncomputable def P7(sc b:Scope)(N N':Yj)(φ:Yg):Bool:=
 sc.kind == .function&&b.kind == .function&&(sc.names.all λy=>y.2 != .cell&&(y.2 != .local || sc.names.lookup y.1==some .local)&&(y.2 != .free || b.names.lookup y.1==some .cell)) &&
  φ.length==N'.length&&((N'.zip φ).all λp=>match p.2 with|none=>true|some j=>N[j]? == some p.1&&sc.names.lookup p.1==some .free)
def Pg.of {N'}{φ f} (h:P7 f X.env.scope X.N N' φ=true):Pg X N' φ f:=by
 unfold P7 at h;simp only[W1,beq_iff_eq,W4,Bool.or_eq_true,bne_iff_ne,ne_eq]at h;obtain⟨⟨⟨⟨s,r⟩,q⟩,p⟩,o⟩:=h;refine⟨s,r,λy b=>(q y b).1.1,λy b u=>?_,λy b v=>?_,p,λi x j n l=>?_⟩
 ·grind
 ·grind
 ·have g:(N'.zip φ)[i]?=some (x,some j):=by rw[List.getElem?_zip_eq_some];exact⟨n,l⟩
  have:=o _ (WE g)
  grind
end Own
namespace SetR
open L2
def Ris(xs:Array Nat):Prop:=∀i j,i<j->j<xs.size->xs.getD i 0<xs.getD j 0
def Em{xs:Array Nat}{i a b}(h:i<xs.size):xs.getD i a=xs.getD i b:=by grind
def Hv(R:Ris xs)(j:Nat):∀fuel lo f,f-lo<=fuel->lo<=f->f<=xs.size->(∀k,k<lo->xs.getD k 0<j)->(∀k,f<=k->k<xs.size->j<=xs.getD k 0)->
  let r:=SetTable.below.go xs j fuel lo f
  r<=xs.size/\(∀k,k<r->xs.getD k 0<j)/\∀k,r<=k->k<xs.size->j<=xs.getD k 0:=by
 intro fuel
 induction fuel with
 |zero=>
  intro lo f w v n l h;have e:lo=f:=by lia
  subst e;exact⟨n,l,h⟩
 |succ fuel q=>
  intro lo f w v n l h;show(let r:=(if lo<f then(if xs.getD ((lo+f) / 2) j<j then SetTable.below.go xs j fuel ((lo+f) / 2+1) f else SetTable.below.go xs j fuel lo ((lo+f) / 2))else lo);r<=xs.size/\(∀k,k<r->xs.getD k 0<j)/\∀k,r<=k->k<xs.size->j<=xs.getD k 0);by_cases s:lo<f
  ·rw[Wj s];have o:(lo+f) / 2<xs.size:=by lia
   by_cases g:xs.getD ((lo+f) / 2) j<j
   ·rw[Wj g];refine q _ _ (by lia) (by lia) n (λk u=>?_) h;rw[Em o]at g;by_cases e:k=(lo+f) / 2
    ·rw[e];exact g
    ·exact Q8 (R k _ (by lia) o) g
   ·rw[Wf g];refine q _ _ (by lia) (by lia) (by lia) l (λk u p=>?_);rw[Em (b:=0) o]at g;by_cases e:k=(lo+f) / 2
    ·rw[e];lia
    ·have:=R _ k (show(lo+f) / 2<k by lia) p
     lia
  ·rw[Wf s];have e:lo=f:=by lia
   subst e;exact⟨n,l,h⟩
def Ac(R:Ris xs)(j:Nat):SetTable.below xs j<=xs.size/\(∀k,k<SetTable.below xs j->xs.getD k 0<j)/\∀k,SetTable.below xs j<=k->k<xs.size->j<=xs.getD k 0:=
 Hv R j xs.size 0 xs.size (by simp) (by simp) (by simp) (λk b=>by lia) (λk g f=>by lia)
def HW(R:Ris xs){i}(f:i<=xs.size){slot}(l:∀k,k<i->xs.getD k 0<slot)(g:∀k,i<=k->k<xs.size->slot<=xs.getD k 0):SetTable.below xs slot=i:=by
 obtain⟨a,b,c⟩:=Ac R slot;rcases Nat.lt_trichotomy (SetTable.below xs slot) i with h|h|h
 ·grind
 ·lia
 ·grind
def Rise(xs:Array Nat):Prop:=xs.toList.Pairwise (· < ·)
def Rise.ris (h:Rise xs):Ris xs:=by
 intro i j b f;have g:i<xs.size:=by lia
 have:=(List.pairwise_iff_getElem.mp h) i j (by omega) (by omega) b
 simp_all
def Mw(h:Rise xs)(u:xs[SetTable.below xs j]?≠some j):Rise (SetTable.insertAt xs (SetTable.below xs j) j):=by
 obtain⟨a,b,c⟩:=Ac h.ris j;generalize SetTable.below xs j=p at *;unfold Rise;rw[SetTable.toList_insertAt];refine List.pairwise_append.mpr ⟨h.sublist (Vx _ _),List.pairwise_cons.mpr ⟨λy g=>?_,h.sublist (List.drop_sublist _ _)⟩,λx hx y g=>?_⟩
 ·obtain⟨k,l,e⟩:=List.mem_drop_iff_getElem.mp g
  have f:p+k<xs.size:=by
   simp only[WU]at l;lia
  have w:=c (p+k) (by lia) f;have s:xs.getD (p+k) 0=y:=by simpa [Array.getD,f]using e
  rcases Nat.lt_or_ge j y with r|r
  ·exact r
  ·have ey:y=j:=by lia
   exfalso;rcases Nat.eq_zero_or_pos k with rfl|v
   ·apply u;rw[WJ (by lia)]
    have:xs[p]=y:=by simpa using e
    rw[this,ey]
   ·have A:=h.ris p (p+k) (by lia) f;have z:=c p (Wk _) (by lia);lia
 ·have n:x<j:=by
   obtain⟨k,l,e⟩:=List.mem_take_iff_getElem.mp hx;have q:k<p:=by lia
   have o:k<xs.size:=by lia
   have:=b k q
   have s:xs.getD k 0=x:=by simpa [Array.getD,o]using e
   lia
  rcases Wo.mp g with rfl|g
  ·exact n
  ·obtain⟨k,l,e⟩:=List.mem_drop_iff_getElem.mp g
   have f:p+k<xs.size:=by
    simp only[WU]at l;lia
   have w:=c (p+k) (by lia) f;have s:xs.getD (p+k) 0=y:=by simpa [Array.getD,f]using e
   lia
structure Tb (b:Bool) (t:SetTable):Prop where
 led:t.led=b
 dum:t.dummies=#[]
 ris:Rise t.place
def Cm(j:Nat):SetTable.has #[] j=false:=rfl
def Tb.fresh (b:Bool):Tb b (.fresh 0 0 b):=⟨rfl,rfl,List.Pairwise.nil⟩
def He(n:Nat):Rise (Array.range n):=by
 unfold Rise;rw[Array.toList_range];exact List.pairwise_lt_range
def Tb.stand (h:Tb b t) (n:Nat):Tb b (t.standIn n):=⟨h.led,rfl,He n⟩
def Tb.orStand (h:Tb b t) (n:Nat):Tb b (t.orStandIn n):=by
 unfold SetTable.orStandIn;split
 ·lia
 ·exact h.stand n
def Tb.plainOff (h:Tb b t):Tb b {t with plain:=false}:=⟨h.led,h.dum,h.ris⟩
def Tb.put (h:Tb b t) {j} (f:t.place[SetTable.below t.place j]?≠some j):Tb b (t.put j).1:=by
 refine⟨h.led,?_,Mw h.ris f⟩;show(if SetTable.has t.dummies j=true then _ else t.dummies)=#[];rw[h.dum,Cm];rfl
def GR(h:Tb b t)(f:Nat->Int)(z:Int):∀fuel p j d,p.dummy=none->SetTable.probe.go t f z fuel p=some (.empty j d)->d=none/\t.place[SetTable.below t.place j]?≠some j:=by
 intro fuel
 induction fuel with
 |zero=>intro p j d _ e;cases e
 |succ fuel n=>
  intro p j d o e;unfold SetTable.probe.go at e
  have l:∀q,q.dummy=none->(t.advance q).dummy=none:=λq hq=>by
   unfold SetTable.advance;split
   ·exact hq
   ·exact hq
  cases g:t.slot p.j with
  |empty=>
   rw[g]at e;unfold SetTable.slot at g
   grind
  |dummy=>
   unfold SetTable.slot at g
   dsimp only at g
   split at g
   ·cases g
   ·rw[h.dum,Cm]at g;simp at g
  |live i=>
   rw[g]at e
   dsimp only at e
   split at e
   ·cases e
   ·exact n _ j d (l p o) e
def Tb.layNew (h:Tb b t) (es:Yq) (z:Int) (x:Value):Tb b (PySem.layNew t es z x).2.1:=by
 unfold PySem.layNew;split
 ·rename_i slot wasDummy e
  have f:t.place[SetTable.below t.place slot]?≠some slot:=by
   unfold SetTable.freeSlot SetTable.probe at e;split at e
   ·rename_i j dummy g;obtain⟨n,l⟩:=GR h _ _ _ _ _ _ rfl g
    grind
   ·grind
  exact(h.put f).orStand _
 ·exact h.stand _
def Mg(n:Nat)(f:Nat->Option Nat):((List.range n).filterMap λj=>(f j).map (j,·)).Pairwise (λa b=>a.1<b.1):=by
 refine List.Pairwise.filterMap _ ?_ List.pairwise_lt_range;intro a l h b o q g;cases e:f a with
 |none=>grind
 |some v=>
  cases p:f l with
  |_=>grind
def Tb.relayAll (h:Tb b t) (es:Yq) (n:Nat):Tb b (PySem.relayAll t es n).2.1:=by
 unfold PySem.relayAll;split
 ·rename_i l order e
  dsimp only
  split
  ·unfold SetTable.relaid SetTable.laid at e;cases f:SetTable.layClean (SetTable.sizeAbove n-1) (es.map (·.1))with
   |none=>grind
   |some owner=>
    rw[f]at e;have g:=WA Prod.fst (Wp e);subst g;refine⟨h.led,rfl,?_⟩;show(List.map (λx=>x.fst) ((List.range (SetTable.sizeAbove n-1+1)).filterMap λj=>(owner.getD j none).map (j,·))).toArray.toList.Pairwise (· < ·);rw[List.toList_toArray,List.pairwise_map];exact Mg _ _
  ·exact h.stand _
 ·exact h.stand _
noncomputable def keyOf(e:Int×Value):Int:=match e.2 with
 | .int k _=>k
 |_=>0
def Ent(e:Int×Value):Prop:=∃(k:Int) (t:Tok),e=(hashInt k,.int k t)
section
variable (prog:Program) (w:World)
noncomputable def Xp(w:World):Bool:=w.params.followText "set-order"
structure UF (h:Heap) (a:Addr) (js:Yc) (es:Yq) (ep:Nat) (t:SetTable):Prop where
 obj:∃o,h.get? a=some o/\o.ExactSet/\o.data=.set es ep t
 ent:∀e∈es.toList,Ent e
 per:(es.toList.map keyOf).Perm js
 nod:js.Nodup
 few:es.size<scanBound
 fit:t.fits es.size=true
 tab:Tb (!Xp w) t
def SetB(h:Heap)(a:Addr)(b:Yc):Prop:=∃f g t,UF w h a b f g t
end
section
variable {prog:Program}{w:World}{A:Around}{E:Yf}{s:Shared}
def Ent.elems (h:∀e∈l,Ent e):ElemsOf (intKind prog w) l:=λe b=>by
 obtain⟨k,t,rfl⟩:=h e b;exact⟨⟨k,intKind_is _ _ _ _,rfl⟩,rfl⟩
def Ck(h:Ent e)(k:Int):(intKind prog w).is k e.2=decide (k=keyOf e):=by
 obtain⟨b,t,rfl⟩:=h;show Value.isInt k (.int b t)=decide (k=b);by_cases e:k=b
 ·subst e;simp[Value.isInt]
 ·rw[Ws e];simp[Value.isInt];lia
def SetB.len (S:UF w h a b es f t):es.size=b.length:=by
 have:=S.per.length_eq
 grind
def SetB.at {a l} (S:SetB w h a l) (k:∀o,h.get? a=some o->p.get? a=some o):SetB w p a l:=by
 obtain⟨q,u,t,⟨o,n,r⟩,b,c,d,e,f,g⟩:=S;exact⟨q,u,t,⟨o,k o n,r⟩,b,c,d,e,f,g⟩
def UF.store {es b}{g t t'} (S:UF w h a z es g t) (y:∀e∈b.toList,Ent e) (x:(b.toList.map keyOf).Perm f) (v:f.Nodup) (u:b.size<scanBound)
  (r:t'.fits b.size=true) (p:Tb (!Xp w) t'):UF w (h.update a<|Obj.putSet b t') a f b (g+1) t':=by
 obtain⟨o,n,hx,l⟩:=S.obj;refine⟨⟨{o with data:=.set b (g+1) t'},?_,hx,rfl⟩,y,x,v,u,r,p⟩
 have q:=WL (Obj.putSet b t') n (by rw[putSet_of b t' l];rfl);rwa[putSet_of b t' l]at q
def E5{g:Bool->Sem Unit}(Y:∀b C M,M () C->wpAny (model prog w) A (g b) M E C){a Q h}{es f}{ep t t'}(S:UF w s.heap a Q es ep t)(L:∀e∈f.toList,Ent e)(J:(f.toList.map keyOf).Perm h)(H:h.Nodup)(r:f.size<scanBound)(h5:t'.fits f.size=true)(G:Tb (!Xp w) t'){d R}(n:∀u,Heap.SameBut a s.heap u->SetB w u a h->R (some true) {s with heap:=u}) :
  wpAny (model prog w) A (do
    storeSet a f t'
    if (!d&&t'.tooFull)=true then do
      g (relayAll t' f<|SetTable.grown f.size).2.2
      storeSet a (relayAll t' f<|SetTable.grown f.size).1 (relayAll t' f<|SetTable.grown f.size).2.1
      pure (some true)
     else pure (some true)) R E s:=by
 obtain⟨o,U,hx,hd⟩:=S.obj;have B:=S.store L J H r h5 G;obtain⟨o1,p,T,q⟩:=B.obj;have N:=Qa s.heap a (Obj.putSet f t');refine Wa (wpAny_storeSet_of U hd ?_<|QW r);split
 ·have l:=relayAll_perm t' f (SetTable.grown f.size);have v:=relayAll_fits t' f (SetTable.grown f.size);have tt:=G.relayAll f (SetTable.grown f.size);generalize relayAll t' f (SetTable.grown f.size)=y at l v tt ⊢;obtain⟨x,t2,g2⟩:=y
  dsimp only at l v tt ⊢
  have z:x.size=f.size:=by rw[←WU,l.length_eq,WU]
  refine Wa (Y _ _ _<|Wa<|wpAny_storeSet_of p q ?_<|QW<|by lia);exact We (n _ (N.trans<|Qa _ a _) ⟨_,_,_,B.store (λe he=>L e (l.mem_iff.mp he)) ((l.map keyOf).trans J) H (by rw[z];exact r) v tt⟩)
 ·exact We (n _ N ⟨_,_,_,B⟩)
noncomputable def UD(b:Yc)(k:Int):Yc:=if k∈b then b else b++[k]
def M7{R}(S:SetB w s.heap a n)(room:n.length+1<scanBound)(J:∀r g,Heap.SameBut a s.heap g->SetB w g a (UD n k)->R r {s with heap:=g}) :
  wpAny (model prog w) A (setAddHashed a (.int k u)<|hashInt k) R E s:=by
 obtain⟨l,ep,t,S⟩:=S;obtain⟨o,ho,hx,hd⟩:=S.obj;have el:=Ent.elems (prog:=prog) (w:=w) S.ent;have N:=SetB.len S;refine Vc (Wa<|Qt ho hd S.fit ?_)
 dsimp only
 rw[byScan_of rfl S.few el];simp only[↓reduceIte];unfold setAddByScan;refine Wa (Wa<|wpAny_rule<|Wa<|wpAny_setScan_of (intKind_is _ _ _ _) ho hd S.fit el ?_);have H:∀z,z∈n↔∃e∈l.toList,keyOf e=z:=λz=>by rw[←S.per.mem_iff,W6]
 cases q:List.findIdx? (λe=>(intKind prog w).is k e.2) l.toList with
 |some j=>
  dsimp only
  obtain⟨hj,Y,_⟩:=List.findIdx?_eq_some_iff_getElem.mp q
  have M:k∈n:=by
   rw[Ck (S.ent _<|W9 hj)]at Y;exact(H k).mpr ⟨_,W9 hj,(Wm Y).symm⟩
  refine We (We ?_);have f:=J false s.heap (Heap.SameBut.refl a s.heap);unfold UD at f;rw[Wj M]at f;exact f ⟨_,_,_,S⟩
 |none=>
  dsimp only
  have M:¬k∈n:=λN=>by
   obtain⟨e,he,Q⟩:=(H k).mp N
   have:=List.findIdx?_eq_none_iff.mp q e he
   rw[Ck (S.ent e he),Wh Q.symm]at this;cases this
  have P:=layNew_perm t l (hashInt k) (.int k u);have F:=layNew_fits t l (hashInt k) (.int k u);have T:=S.tab.layNew l (hashInt k) (.int k u);change wpAny (model prog w) A (match layNew t l (hashInt k) (.int k u)with|(l,t,wasDummy,gave)=>_) _ _ _
  generalize layNew t l (hashInt k) (.int k u)=y at P F T ⊢;obtain⟨p,t1,d1,g1⟩:=y
  dsimp only at P F T ⊢
  rw[Array.toList_push]at P
  have e1:∀e∈p.toList,Ent e:=λe he=>by
   rcases WZ.mp (P.mem_iff.mp he)with he|he
   ·exact S.ent e he
   ·rw[Wg.mp he];exact⟨k,u,rfl⟩
  have e2:(p.toList.map keyOf).Perm (n++[k]):=by
   refine(P.map keyOf).trans ?_;rw[WC];exact S.per.append_right _
  have e3:(n++[k]).Nodup:=Vz.mpr ⟨S.nod,by simp,λx hx y hy=>by rw[Wg.mp hy];rintro rfl;exact M hx⟩
  have e4:p.size<scanBound:=by
   rwa[←WU,P.length_eq,Wx,WU,N]
  have h:=λg B G=>by
   have f:=J true g B;unfold UD at f;rw[Wf M]at f;exact f G
  have U:∀b {C:Shared} {L:Unit->Shared->Prop},L () C->wpAny (model prog w) A (match b with|true=>rule "set.scan.the-table-gave-way" |false=>pure ()) L E C:=λb C L v=>by cases b<;>first|exact We v|exact wpAny_rule v
  refine Wa (U _ ?_);split
  ·refine Wa ?_;rw[hashByValue_scannable 8 rfl];refine We (E5 (λb C L v=>U b v) S e1 e2 e3 e4 ?_ ?_ λg B G=>We (h g B G))
   ·split
    ·exact F
    ·exact SetTable.fits_plain_off F
   ·split
    ·exact T
    ·exact T.plainOff
  ·refine Wa (We ?_);simp only[↓reduceIte];exact E5 (λb C L v=>U b v) S e1 e2 e3 e4 F T λg B G=>We (h g B G)
def R3{I G x P St}{ns:Yc}(W:Walks prog w A.in1 I G x ns.length P St)(S:Addr)(C:S∉G)(L:∀i v,P i v->∃t,v=.int (ns.getD i 0) t)(room:ns.length+1<scanBound):∀k i s n,ns.length-i=k->i<=ns.length->St i s.heap->SetB w s.heap S n->n.length<=i->
   (∀h p,(∀b o,b∉S::x->s.heap.get? b=some o->h.get? b=some o)->SetB w h S ((ns.drop i).foldl UD n)->R (.ok<|.ret .none) {s with heap:=h,toks:=p})->
   codeAny (model prog w) A (.builtin "set.update.loop" ⟨[.ref S,.ref I],[]⟩) R s:=by
 have q:=λz=>C (W.sub _ z);intro k
 induction k with
 |zero=>
  intro i s n M Q st B N l;have ei:i=ns.length:=by lia
  refine Q2 QO ?_;show wpAny _ A.in1 (pyNext (.ref I) >>= _) _ _ s;refine Wa (W.done s _ _ (ei▸st) λh p keep=>?_);show wpAny _ A.in1 (ret Value.none) _ _ _;refine We (l h p (λb o g e=>keep b o (λz=>g (Wr _ z)) e) ?_);rw[ei,V2];exact B.at λo e=>keep S o q e
 |succ k J=>
  intro i s n M Q st B N l;have f:i<ns.length:=by lia
  refine Q2 QO ?_;rw[QC QP _];show wpAny _ A.in1 (pyNext (.ref I) >>= _) _ _ s;refine Wa (W.item i s _ _ f st λv T H pv u keep1=>?_);obtain⟨t,rfl⟩:=L i v pv;have B1:=B.at λo e=>keep1 S o q e;unfold setAdd;refine Wa (Vc<|Vc<|Wa ((intKind prog w).pyHash (intKind_is _ _ _ _) ?_));refine M7 B1 (by lia) λr h2 y B2=>?_
  have U:(UD n<|ns.getD i 0).length<=i+1:=by
   unfold UD;split
   ·lia
   ·simp;lia
  refine We ⟨plainId_quiet QP _,J (i+1) _ _ (by lia) f (W.frame _ T _ u λb g o e=>?_) B2 U λh p keep B'=>?_⟩
  ·rw[y.2 b (λz=>C (by rw[←z];exact g))];exact e
  ·refine l h p (λb o g e=>keep b o g ?_) ?_
   ·rw[y.2 b (λz=>g (by rw[z];exact Wz))];exact keep1 b o (λz=>g (Wr _ z)) e
   ·have Y:ns.drop i=ns.getD i 0::ns.drop (i+1):=by
     rw[QJ f,Wl,Wb f];rfl
    rwa[Y]
def HC(a:Value){Q}(b:Q (.ref s.heap.objs.size) {s with heap:=s.heap.push {cls:=.type "set",dict:=none,data:=.set #[] 0 (.fresh 0 0 (!Xp w))}}) :
  codeAny (model prog w) A (.call (.builtin "set.__new__") ⟨[.type "set",a],[]⟩) (wants Q E) s:=by
 refine codeAny_of_tree (?_);refine Wa (wpAny_of_eq (F.newCall_set_1 a)<|We ⟨plainId_quiet F.plain_set_new _,Q2 F.entry_set_new ?_⟩);rw[(QC (A:=A) F.plain_set_new ⟨[.type "set",a],[]⟩)];unfold Builtin.«set.__new__» Builtin.Frozenset.newClass;have f:=sub_set_self
 dsimp only
 wp_walk
 refine wpAny_askSetting (We<|?_)
 dsimp only
 simp only[newObj];exact Wa (wpAny_alloc<|We<|We b)
set_option maxHeartbeats 4000000 in
def Ry{l:Addr}{f:Yo}{ns:Yc}{Q:Yf}(hh:A.handled=none)(hl:s.heap.IsList l f)(hi:IntsAre f.toList ns)(room:ns.length+1<scanBound)(T:∀(h:Heap) (q:Nat),SetB w h s.heap.objs.size (ns.foldl UD [])->(∀b o,b<s.heap.objs.size->s.heap.get? b=some o->h.get? b=some o)->Q (.ref s.heap.objs.size) {s with heap:=h,toks:=q}) :
  wpAny (model prog w) A (call (.type "set") [.ref l]) Q E s:=by
 have hn:f.size=ns.length:=by have:=IntsAre.length hi;simpa using this
 obtain⟨mroC,mroT,mro⟩:=F.called_set.mro;have made:=F.called_set.made;have subs:=F.called_set.sub;refine wpAny_call (codeAny_of_tree<|show wpAny _ _ (callAny (.type "set") _) _ _ _ from ?_)
 refine We ⟨Code.quiet_builtin _ (by decide +kernel),Q2 F.entry_type_call ?_⟩;have wt:=Around.under_plain (A:=A) (weight_type_call_type "set" [.ref l] []) rfl;rw[wt];have nt:=F.called_set.notType;have cc:=F.called_set.canCreate;have tc:=F.typeCall_set_1 (.ref l)
 repeat (any_goals (first|assumption|wp_step))
 refine Qw (HC (.ref l) (E:=E) (Q:=λobj Y=>obj=.ref s.heap.objs.size/\Y={s with heap:=s.heap.push {cls:=.type "set",dict:=none,data:=.set #[] 0 (.fresh 0 0 (!Xp w))}}) ⟨rfl,rfl⟩) λr Y x=>?_
 cases r with
 |error e=>exact x
 |ok fl=>
  cases fl with
  |next=>exact x.elim
  |brk=>exact x.elim
  |cont=>exact x.elim
  |ret obj=>
   obtain⟨rfl,rfl⟩:=x;generalize H:s.heap.push {cls:=.type "set",dict:=none,data:=.set #[] 0 (.fresh 0 0 (!Xp w))}=n;have g1:n.get? s.heap.objs.size=some {cls:=.type "set",dict:=none,data:=.set #[] 0 (.fresh 0 0 (!Xp w))}:=by rw[←H];exact Wn _ rfl
   have hT:Shared.TypeIs {s with heap:=n} (.ref s.heap.objs.size) "set":=⟨_,g1,rfl⟩
   have ini:=F.called_set.init.lookup;have inb:=F.called_set.init.bind (.ref s.heap.objs.size)
   repeat (any_goals (first|assumption|wp_step))
   refine Qw (codeAny_call_builtin (R:=wants (λr U=>r=.none/\∃h q,U={s with heap:=h,toks:=q}/\SetB w h s.heap.objs.size (ns.foldl UD [])/\(∀b o,b<s.heap.objs.size->s.heap.get? b=some o->h.get? b=some o)) E)
    F.called_set.init.plain F.entry_set_init (check_set_init_1 hT ?_)) λr2 U g=>?_
   ·obtain⟨ob,z,G,nl,C⟩:=hl;obtain⟨c1,d1,dt1,J⟩:=ob;simp only at G C;subst G;subst C;have y:n.get? l=some {cls:=.type "list",dict:=d1,data:=.seq f nl,slots:=J}:=by rw[←H];exact Wd _ z
    have p:n.objs.size=s.heap.objs.size+1:=by rw[←H,QT]
    have no1:=F.sub_list_set;have no2:=F.sub_list_frozenset;have no3:(Value.type "list" == Value.type "dict")=false:=by decide
    have L1:n.IsList l f:=⟨_,y,rfl,nl,rfl⟩;unfold Builtin.«set.__init__» noKeywords Builtin.Frozenset.updateFrom;generalize eP:pyIter=PI
    wp_walk
    subst eP;refine wpAny_pyIter_list L1 (Wa<|wpAny_runValue ?_);have u:l<s.heap.objs.size:=Wi z;have N:A.in1.in1.in1.handled=none:=by simp[hh]
    have M:l≠n.objs.size:=by rw[p];exact Wu (QX u)
    have L:s.heap.objs.size∉[n.objs.size,l]:=by
     rw[p];simp only[Wo,Ve,or_false,not_or];exact⟨Wu (Vd _),Vm u⟩
    have W0:=Walks.list (prog:=prog) (w:=w) N n.objs.size l M f;rw[hn]at W0;refine R3 (ns:=ns) W0 s.heap.objs.size L (λi v hv=>IntsAre.int_at hi i v (by rw[Qb];exact hv)) room (ns.length-0) 0 _ [] rfl (Qe _) ⟨⟨_,Wn _ rfl,rfl,rfl⟩,L1.push _⟩ ?_ (Qe _) λh q keep B=>?_
    ·exact⟨#[],0,_,⟨_,Wd _ g1,⟨rfl,rfl,rfl⟩,rfl⟩,λe he=>by simp at he,by simp,List.nodup_nil,by show(0:Nat)<4096;decide,rfl,Tb.fresh _⟩
    ·show wpAny _ _ _ _ _ _;refine We (show wpAny _ _ (ret Value.none) _ _ _ from We ⟨rfl,h,q,rfl,B,λb o hb e=>?_⟩)
     refine keep b o ?_ (Wd _<|by rw[←H];exact Wd _ e);rw[p];simp only[Wo,Ve,or_false,not_or];exact⟨Wu hb,Wu (QX hb)⟩
   ·cases r2 with
    |error e=>exact g
    |ok f2=>
     cases f2 with
     |next=>exact g.elim
     |brk=>exact g.elim
     |cont=>exact g.elim
     |ret r=>
      obtain⟨rfl,h,q,rfl,B,keep⟩:=g
      repeat (any_goals (first|assumption|wp_step))
      exact T _ _ B keep
end
def si_slot:Slot "set_iterator" "__next__" "set_iterator.__next__":=
 Slot.of (owner:="set_iterator") (n:="__next__") (by rw[typeLookup_type,builtinLookup_eq_fast];kernel_rfl) (by decide +kernel) (by decide +kernel) (by decide +kernel)
  (by first|exact Or.inl (by decide +kernel)|exact Or.inr (by decide +kernel)) (by rw[isSubtype_type];kernel_rfl)
def Om:entryFor table "set_iterator.__next__"=some Builtin.«set_iterator.__next__»:=entryFor_of_tree rfl
def Zcz(a:Value):argsOk "set_iterator.__next__" ⟨[a],[]⟩:=by trivial
def Ml:entryFor table "set.__iter__"=some Builtin.«frozenset.__iter__»:=entryFor_alias (id':="frozenset.__iter__") (by kernel_rfl) rfl (by decide +kernel) (by kernel_rfl)
def AY:Slot "set_iterator" "__iter__" "set_iterator.__iter__":=
 Slot.of (owner:="set_iterator") (n:="__iter__") (by rw[typeLookup_type,builtinLookup_eq_fast];kernel_rfl) (by decide +kernel) (by decide +kernel) (by decide +kernel)
  (by first|exact Or.inl (by decide +kernel)|exact Or.inr (by decide +kernel)) (by rw[isSubtype_type];kernel_rfl)
def MC:entryFor table "set_iterator.__iter__"=some Builtin.«dict_keyiterator.__iter__»:=entryFor_alias (id':="dict_keyiterator.__iter__") (by kernel_rfl) rfl (by decide +kernel) (by kernel_rfl)
def Hr(a:Value):argsOk "set_iterator.__iter__" ⟨[a],[]⟩:=by unfold argsOk;kernel_rfl
def SI(h:Heap)(I a:Addr)(first:Value)(i n b:Nat):Prop:=∃o,h.get? I=some o/\o.cls=.type "set_iterator"/\o.data=.fields #[first,.int i 0,.ref a,.int n 0,.int b 0]
section
variable {prog:Program}{w:World}{A:Around}{E:Yf}{s:Shared}{I a:Addr}{first:Value}{i n ep:Nat}{js:Yc}{es:Yq}{t:SetTable}
def SI.typ (h:SI s.heap I a first i n ep):s.TypeIs (.ref I) "set_iterator":=let ⟨o,b,f,_⟩:=h;⟨o,b,f⟩
def SI.at (x:SI h I a first i n ep) (k:∀o,h.get? I=some o->f.get? I=some o):SI f I a first i n ep:=let ⟨o,b,r⟩:=x;⟨o,k o b,r⟩
noncomputable def Ta(first:Value)(a I:Addr)(i ep:Int):Sem PySem.Fin:=
 match first with
 |Value.int slot _=>do
  match ←setNext a slot.toNat i.toNat ep.toNat with
  |some (x,next)=>
   setField (.ref I) 0 (rawInt next)
   setField (.ref I) 1 (rawInt (i+1))
   ret x
  |none=>
   setField (.ref I) 2 .none
   raiseNew (←newExc (.type "StopIteration") [])
 |_=>do
  let some places ←seqItems? first|unsupported "internal:set_iterator"
  match places[i.toNat]? with
  |some (.int place _)=>
   let x ←setNextDrawn a place.toNat ep.toNat
   setField (.ref I) 1 (rawInt (i+1))
   ret x
  |some _=>unsupported "internal:set_iterator"
  |none=>
   setField (.ref I) 0 (rawInt 0)
   setField (.ref I) 2 .none
   raiseNew (←newExc (.type "StopIteration") [])
def Tz(f:SI s.heap I a first i es.size ep)(S:UF w s.heap a js es ep t)
  (body:wpAny (model prog w) A.in1 (Ta first a I i ep) (λp l=>∃v,p=.done (.ret v)/\Q (some v) l)
   (λe l=>wpAny (model prog w) A (isInstance e<|.type "StopIteration") (λb g=>b=true/\Q none g) E l) s) :
  wpAny (model prog w) A (pyNext<|.ref I) Q E s:=by
 obtain⟨o,x,G,y⟩:=id f;obtain⟨C,r,hx,u⟩:=S.obj;refine Wa (wpAny_attempt<|wpAny_callSpecial?_slot f.typ si_slot<|QD si_slot f.typ Om ?_<|Zcz _);refine Wa (We<|Wa<|wpAny_fieldsOf x y ?_);refine Wa (wpAny_setEntries_of r u S.fit ?_);rw[Wf (by simp)];refine WB body (λp l h=>?_) λe l h=>?_
 ·obtain⟨v,e,q⟩:=h;exact⟨v,e,We q⟩
 ·refine Wa (WB h (λb g B=>?_) λ_ _ z=>z);obtain⟨rfl,q⟩:=B;exact We q
def Cg{Q:Ym->Shared->Prop}{o}{vs}(q:A.handled=none)(p:s.heap.get? I=some o)(r:o.data=.fields vs)(u:2<vs.size)(g:∀h,Heap.ExtBut I s.heap h->Q none {s with heap:=h}){R:PySem.Fin->Shared->Prop} :
  wpAny (model prog w) A.in1 (do setField (.ref I) 2 .none;raiseNew (←newExc (.type "StopIteration") [])) R (λe l=>wpAny (model prog w) A (isInstance e<|.type "StopIteration") (λb f=>b=true/\Q none f) E l) s:=by
 refine Wa (Qv p r u<|Wa ?_);refine Wa (WT ?_<|by size_fits);refine Wa (wpAny_of_eq (by first|rfl|(simp only[firstArgMember];rfl))<|WT ?_<|by size_fits)
 simp only[raiseNew];refine Wa (wpAny_handled ?_);rw[q];refine Wa (We<|wpAny_throw ?_);refine wpAny_isInstance ⟨_,Wn _ rfl,rfl⟩ isSubtype_stop ?_;exact⟨rfl,g _ (((Qa ..).extBut.push _).push _)⟩
def SI.step1 {x:Value} (f:s.heap.get? I=some o) (g:o.cls=.type "set_iterator") (b:o.data=.fields #[first,.int i 0,.ref a,.int n 0,.int ep 0]) :
  SI (s.heap.update I<|Obj.mapFields (·.setIfInBounds 1 (rawInt ((i:Int)+1)))) I a first (i+1) n ep:=
 ⟨_,WL _ f (Qp<|WY b _),(Obj.cls_mapFields ..).trans g,by rw[WY b];simp[rawInt]⟩
def N2(h:Q (Xp w) s):wpAny (model prog w) A setsByText Q E s:=Wa (wpAny_askSetting<|We h)
def Oe(S:UF w s.heap a js es ep t)(g:Xp w=true)(h:Q (((pickOrder (w.params.setOrder a ep) es)[i]?).map λe=>(e.2,slot)) s) :
  wpAny (model prog w) A (setNext a slot i ep) Q E s:=by
 obtain⟨l,b,hx,f⟩:=S.obj;refine Wa (Qt b f S.fit<|Wa<|N2 ?_);rw[g,Wj rfl,Wf (by simp)];refine Wa ?_;refine Wa (Qt b f S.fit<|Wa<|N2 ?_);rw[g,Wj rfl];exact Wa (wpAny_askSetting<|We<|We h)
def Mi(S:UF w s.heap a js es ep t)(g:Xp w=false)(l:(!t.plain&&decide (es.size>1))=false)(h:Q (match es[SetTable.below t.place slot]?,t.place[SetTable.below t.place slot]? with|some (_,x),some j=>some (x,j+1)|_,_=>none) s):wpAny (model prog w) A (setNext a slot i ep) Q E s:=by
 obtain⟨p,b,hx,f⟩:=S.obj;refine Wa (Qt b f S.fit<|Wa<|N2 ?_);rw[g,Wf (by decide)];show wpAny _ _ (if (!t.plain&&decide (es.size>1))=true then _ else _) _ _ _;rw[l,Wf (by decide)];refine Wa (?_:wpAny _ _ (if (!t.led && !es.isEmpty)=true then unsupported "set:maker-not-led" else pure ()) _ _ _);have o:t.led=true:=by rw[S.tab.led,g];rfl
 rw[o,Wf (by simp)];exact We (We h)
def Zcf{p e}(S:UF w s.heap a js es ep t)(g:es[p]?=some e)(h:Q e.2 s):wpAny (model prog w) A (setNextDrawn a p ep) Q E s:=by
 obtain⟨l,b,hx,f⟩:=S.obj;refine Wa (Qt b f S.fit ?_)
 dsimp only
 rw[Wf (by simp),g];exact We h
def GN{m}(b:m≠0)(h:∀k d,k<m->Q k {s with drawn:=d}):wpAny (model prog w) A (choose f m) Q E s:=by
 intro Γ p g;exact⟨b,h _ _ (Nat.mod_lt _<|Nat.pos_of_ne_zero b)⟩
theorem Nx{b:Type}:∀(xs:List b) k h,(xs[k]::xs.eraseIdx k).Perm xs
 |x::r,0,_=>List.Perm.refl _
 |x::r,k+1,h=>by
  have f:k<r.length:=by grind
  exact(List.Perm.swap _ _ _).trans (List.Perm.cons _<|Nx r k f)
def LH:∀m xs s {Q:List q->Shared->Prop},xs.length=m->(∀b d,b.Perm xs->Q b {s with drawn:=d})->wpAny (model prog w) A (drawOrder m xs) Q E s:=by
 intro m
 induction m with
 |zero=>
  intro xs s Q f h;have e:=List.length_eq_zero_iff.mp f;subst e;exact We (h [] s.drawn<|List.Perm.refl _)
 |succ m l=>
  intro xs s Q f h;cases xs with
  |nil=>grind
  |cons x r=>
   unfold drawOrder;refine Wa (GN (by simp) λk d g=>?_);rw[Wb g];refine Wa (l _ _ (by grind) λb p o=>We ?_);exact h _ p ((List.Perm.cons _ o).trans (Nx _ _ g))
def UF.keep (S:UF w h a js es ep t) (k:∀o,h.get? a=some o->p.get? a=some o):UF w p a js es ep t:=by
 obtain⟨⟨o,l,r⟩,b,c,d,e,f,g⟩:=S;exact⟨⟨o,k o l,r⟩,b,c,d,e,f,g⟩
def Do(b:SI s.heap I a first i n ep)(h:Q (.ref I) s):wpAny (model prog w) A (pyIter<|.ref I) Q E s:=by
 refine wpAny_pyIter_slot b.typ AY (QD AY b.typ MC ?_<|Hr _);exact We ⟨_,rfl, "set_iterator",_,b.typ,si_slot.lookup,h⟩
def DR(hh:A.handled=none)(I a:Addr)(hne:a≠I)(vs:Yi)(hl:vs.length=es.size)(sl:Nat->Nat)(nx:∀A E s i Q,i<=es.size->UF w s.heap a js es ep t->Q ((vs[i]?).map λv=>(v,sl (i+1))) s->wpAny (model prog w) A (setNext a (sl i) i ep) Q E s) :
  Walks prog w A I [I,a] [I] es.size (λi v=>vs[i]?=some v) (λi h=>SI h I a (.int (sl i) 0) i es.size ep/\UF w h a js es ep t) where
 sub:=λb hb=>by simp at hb;simp[hb]
 frame:=λ_ _ _ st k=>⟨st.1.at λo e=>k I (by simp) o e,st.2.keep λo e=>k a (by simp) o e⟩
 item:=λi s Q E hi st fin=>by
  obtain⟨o,ho,hc,hd⟩:=id st.1;refine Tz st.1 st.2 ?_;unfold Ta
  dsimp only
  rw[WK,WK,WK];refine Wa (nx _ _ s i _ (QL hi) st.2 ?_);have hi2:i<vs.length:=by lia
  rw[Wb hi2];refine Wa (Qv ho hd (by simp) ?_);have g1:=WL (Obj.mapFields (·.setIfInBounds 0 (rawInt (sl (i+1):Int)))) ho (Qp<|WY hd _);have d1:(Obj.mapFields (·.setIfInBounds 0 (rawInt (sl (i+1):Int))) o).data=.fields #[.int (sl (i+1)) 0,.int i 0,.ref a,.int es.size 0,.int ep 0]:=by rw[WY hd];simp[rawInt]
  refine Wa (Qv g1 d1 (by simp) ?_);have sb:=(Qa s.heap I<|Obj.mapFields (·.setIfInBounds 0 (rawInt (sl (i+1):Int)))).trans (Qa _ I<|Obj.mapFields (·.setIfInBounds 1 (rawInt ((i:Int)+1))));refine We ⟨_,rfl,fin vs[i] _ s.toks (Wb hi2) ⟨?_,st.2.keep λo e=>sb.extBut a o hne e⟩ λb o hb e=>sb.extBut b o (λz=>hb (by simp[z])) e⟩;exact SI.step1 (x:=.none) g1 ((Obj.cls_mapFields ..).trans hc) d1
 done:=λs Q E st fin=>by
  obtain⟨o,ho,hc,hd⟩:=id st.1;refine Tz st.1 st.2 ?_;unfold Ta
  dsimp only
  rw[WK,WK,WK];refine Wa (nx _ _ s es.size _ (Wk _) st.2 ?_);rw[Q9 (by lia)];exact Cg hh ho hd (by simp) λh' eb=>fin h' s.toks λb o hb e=>eb b o (λz=>hb (by simp[z])) e
 self:=λ_ _ _ _ st fin=>Do st.1 fin
def OM(hh:A.handled=none)(I a T:Addr)(hne:a≠I)(hT:T≠I)(ps:Yh)(hl:ps.length=es.size)(hps:∀p∈ps,p<es.size)(vs:Yi)(hvs:vs=ps.map λp=>((es[p]?).map (·.2)).getD .none) :
  Walks prog w A I [I,a,T] [I] es.size (λi v=>vs[i]?=some v) (λi h=>SI h I a (.ref T) i es.size ep/\UF w h a js es ep t/\∃o,h.get? T=some o/\∃c,o.data=.seq (ps.map λ(p:Nat)=>rawInt p).toArray c) where
 sub:=λb hb=>by simp at hb;simp[hb]
 frame:=λ_ _ _ st k=>⟨st.1.at λo e=>k I (by simp) o e,st.2.1.keep λo e=>k a (by simp) o e,let ⟨o,ho,c⟩:=st.2.2;⟨o,k T (by simp) o ho,c⟩⟩
 item:=λi s Q E hi st fin=>by
  obtain⟨o,ho,hc,hd⟩:=id st.1;obtain⟨oT,hoT,c,hdT⟩:=st.2.2;refine Tz st.1 st.2.1 ?_;unfold Ta
  dsimp only
  refine Wa (wpAny_seqItems hoT hdT ?_);have hi2:i<ps.length:=by lia
  have e1:(ps.map λ(p:Nat)=>rawInt p).toArray[(i:Int).toNat]?=some (.int ps[i] 0):=by
   rw[WK,List.getElem?_toArray,Wq,Wb hi2];rfl
  have hp:=hps _ (W9 hi2)
  dsimp only
  rw[e1]
  dsimp only
  have e3:vs[i]?=some (es[ps[i]]).2:=by rw[hvs,Wq,Wb hi2];simp[hp]
  refine Wa (Zcf st.2.1 (WJ hp)<|Wa<|Qv ho hd (by simp) ?_);have sb:=Qa s.heap I (Obj.mapFields (·.setIfInBounds 1 (rawInt ((i:Int)+1))));exact We ⟨_,rfl,fin _ _ s.toks e3 ⟨SI.step1 (x:=.none) ho hc hd,st.2.1.keep λo e=>sb.extBut a o hne e,oT,sb.extBut T oT hT hoT,c,hdT⟩ λb o hb e=>sb.extBut b o (λz=>hb (by simp[z])) e⟩
 done:=λs Q E st fin=>by
  obtain⟨o,ho,hc,hd⟩:=id st.1;obtain⟨oT,hoT,c,hdT⟩:=st.2.2;refine Tz st.1 st.2.1 ?_;unfold Ta
  dsimp only
  refine Wa (wpAny_seqItems hoT hdT ?_)
  have e1:(ps.map λ(p:Nat)=>rawInt p).toArray[(es.size:Int).toNat]?=none:=by
   rw[WK,List.getElem?_toArray,Wq,Q9 (by lia)];rfl
  dsimp only
  rw[e1]
  dsimp only
  refine Wa (Qv ho hd (by simp) ?_);refine Cg (s:={s with heap:=_}) hh (WL (Obj.mapFields (·.setIfInBounds 0 (rawInt 0))) ho<|Qp<|WY hd _) (WY hd _) (by simp) λh' eb=>fin h' s.toks λb o hb e=>eb b o (λz=>hb (by simp[z])) ((Qa s.heap I<|Obj.mapFields (·.setIfInBounds 0 (rawInt 0))).extBut b o (λz=>hb (by simp[z])) e)
 self:=λ_ _ _ _ st fin=>Do st.1 fin
def Zcr(nx:Nat->Nat):∀m k left (b:Array l),left.length=m->(pickOrder.go nx m k left b).toList.Perm (b.toList++left):=by
 intro m
 induction m with
 |zero=>
  intro k left b g;have e:=List.length_eq_zero_iff.mp g;subst e;show b.toList.Perm (b.toList++[]);simp
 |succ m h=>
  intro k left b g;have f:nx k % left.length<left.length:=Nat.mod_lt _ (by lia);unfold pickOrder.go;rw[Wb f];refine(h _ _ _<|by grind).trans ?_;rw[Array.toList_push,QY];exact(Nx left _ f).append_left _
def FZ(nx:Nat->Nat)(xs:Array b):(pickOrder nx xs).toList.Perm xs.toList:=by
 have:=Zcr nx xs.size 0 xs.toList #[] rfl
 simpa [pickOrder]using this
noncomputable def slotAt(t:SetTable)(i:Nat):Nat:=if i=0 then 0 else t.place.getD (i-1) 0+1
def CQ(h:t.fits m=true):t.place.size=m:=by
 simp only[SetTable.fits,W1,beq_iff_eq]at h
 grind
def GY(S:UF w s.heap a js es ep t){i}(l:i<=es.size):SetTable.below t.place (slotAt t i)=i:=by
 have g:=CQ S.fit;have R:=S.tab.ris.ris;refine HW R (by lia) (λk h=>?_) λk o b=>?_
 ·unfold slotAt;rw[Wf (by lia)];by_cases e:k=i-1
  ·rw[e];lia
  ·have:=R k (i-1) (by lia) (by lia)
   lia
 ·unfold slotAt;by_cases f:i=0
  ·grind
  ·rw[Wf f]
   have:=R (i-1) k (by lia) b
   lia
def IB{A'}(M:A'.handled=none)(S:UF w s.heap a js es ep t)
  (l:∀I fp (vs:Yi) St N d1,Walks prog w A' I fp [I] es.size (λi v=>vs[i]?=some v) St->St 0 N->(∀b∈fp,b=a\/s.heap.get? b=none)->vs.length=es.size->vs.Perm (es.toList.map (·.2))->
   s.heap.get? I=none->(∀b o,s.heap.get? b=some o->N.get? b=some o)->Q (.ref I) {s with heap:=N,drawn:=d1}) :
  wpAny (model prog w) A (pyIter<|.ref a) Q E s:=by
 obtain⟨ob,g,hx,h⟩:=S.obj;have hT:s.TypeIs (.ref a) "set":=⟨ob,g,hx.1⟩;have ha:=Wi g
 have new:∀b,s.heap.objs.size<=b->s.heap.get? b=none:=λb f=>by
  cases e:s.heap.get? b with
  |none=>rfl
  |some o=>exact absurd (Wi e) (Vp.mpr f)
 refine wpAny_pyIter_slot hT F.slot_set_iter (QD F.slot_set_iter hT Ml ?_<|F.args_set_iter_1 _);unfold Builtin.«frozenset.__iter__»;show wpAny _ _ (Builtin.Frozenset.sizeOf a >>= _) _ _ s;unfold Builtin.Frozenset.sizeOf;refine Wa (Wa<|wpAny_setEntries_of g h S.fit<|We ?_);refine Wa ?_;unfold setDrawn;refine Wa (Qt g h S.fit<|Wa<|N2<|We ?_)
 dsimp only
 change wpAny _ _ (if (!Xp w&&(!t.plain&&decide (es.size>1)))=true then _ else _) _ _ _;cases hd:(!Xp w&&(!t.plain&&decide (es.size>1)))with
 |false=>
  rw[Wf (by decide)];refine Wa (We<|Wa<|wpAny_setEpoch_of g h S.fit<|Wa<|WT<|We ⟨_,rfl, "set_iterator",_,⟨_,Wn _ rfl,rfl⟩,si_slot.lookup,?_⟩);have B:=Wu ha;have S1:UF w (s.heap.push {cls:=.type "set_iterator",data:=.fields [rawInt 0,rawInt 0,.ref a,rawInt es.size,rawInt ep].toArray}) a js es ep t:=S.keep λo e=>Wd _ e
  have lt:∀b∈[s.heap.objs.size,a],b=a\/s.heap.get? b=none:=λb f=>by
   rcases Wo.mp f with rfl|f
   ·exact .inr (new _<|Wk _)
   ·exact .inl (Wg.mp f)
  cases f:Xp w with
  |true=>
   have u:((pickOrder (w.params.setOrder a ep) es).toList.map (·.2)).length=es.size:=by
    rw[Wc,(FZ _ _).length_eq];simp
   refine l _ _ _ _ _ s.drawn (DR M s.heap.objs.size a B ((pickOrder (w.params.setOrder a ep) es).toList.map (·.2)) u (λ_=>0) λA E s i Q hi G q=>Oe G f ?_) ⟨⟨_,Wn _ rfl,rfl,rfl⟩,S1⟩ lt u ((FZ _ _).map _) (new _<|Wk _) λb o e=>Wd _ e;rw[Wq]at q;rw[←Qb];cases e:(pickOrder (w.params.setOrder a ep) es).toList[i]? with
   |none=>rw[e]at q;exact q
   |some x=>rw[e]at q;exact q
  |false=>
   have y:(!t.plain&&decide (es.size>1))=false:=by rw[f]at hd;simpa using hd
   refine l _ _ _ _ _ s.drawn (DR M s.heap.objs.size a B (es.toList.map (·.2)) (by simp) (slotAt t) λA E s i Q hi G q=>Mi G f y ?_) ⟨⟨_,Wn _ rfl,rfl,rfl⟩,S1⟩ lt (by simp) (List.Perm.refl _) (new _<|Wk _) λb o e=>Wd _ e;rw[GY G hi];have hz:=CQ G.fit;rw[Wq]at q;by_cases L:i<es.size
   ·have C:=WJ L;have e2:t.place[i]?=some t.place[i]:=WJ (by lia);have U:es.toList[i]?=some es[i]:=by rw[Qb];exact C
    rw[U]at q;rw[C,e2]
    have e4:slotAt t (i+1)=t.place[i]+1:=by
     unfold slotAt;rw[Wf (by lia)]
     have:i<t.place.size:=by lia
     simp[Array.getD,this]
    have Y:=q;rw[e4]at Y;exact Y
   ·have C:es[i]?=none:=QZ (by lia);have U:es.toList[i]?=none:=by rw[Qb];exact C
    rw[U]at q;rwa[C]
 |true=>
  rw[Wj rfl];refine Wa (LH _ _ s (by simp) λr d y=>?_);have u:r.length=es.size:=by rw[y.length_eq];simp
  have J:∀p∈r,p<es.size:=λp hm=>Q7.mp (y.mem_iff.mp hm);refine Wa (WT ?_<|by show(r.map λ(i:Nat)=>rawInt i).toArray.size<=sizeLine;rw[W5,Wc,u];exact QW S.few);have z:=Wd {cls:=.type "tuple",data:=.seq (r.map λ(i:Nat)=>rawInt i).toArray} g;refine Wa (wpAny_setEpoch_of z h S.fit<|Wa<|WT<|We ⟨_,rfl, "set_iterator",_,⟨_,Wn _ rfl,rfl⟩,si_slot.lookup,?_⟩);have H:(s.heap.push {cls:=.type "tuple",data:=.seq (r.map λ(i:Nat)=>rawInt i).toArray}).objs.size=s.heap.objs.size+1:=QT ..
  have T:(List.range es.size).map (λp=>((es[p]?).map (·.2)).getD Value.none)=es.toList.map (·.2):=by
   apply V0;intro k;by_cases hk:k<es.size
   ·simp[hk]
   ·have:es.size<=k:=by lia
    simp[this]
  refine l _ _ _ _ _ d (OM M _ a s.heap.objs.size ?_ ?_ r u J _ rfl) ⟨⟨_,Wn _ rfl,rfl,rfl⟩,S.keep λo e=>Wd _ (Wd _ e),_,Wd _ (Wn _ rfl),0,rfl⟩ (λb f=>?_) (by rw[Wc];exact u) ?_ (new _ ?_) λb o e=>Wd _ (Wd _ e)
  ·show a≠_;rw[H];exact Wu (QX ha)
  ·show s.heap.objs.size≠_;rw[H];exact Wu (Vd _)
  ·rcases Wo.mp f with rfl|f
   ·refine .inr (new _ ?_);show s.heap.objs.size<=_;rw[H];exact Q4 _
   ·rcases Wo.mp f with rfl|f
    ·exact .inl rfl
    ·rw[Wg.mp f];exact .inr (new _<|Wk _)
  ·rw[←T];exact y.map _
  ·show s.heap.objs.size<=_;rw[H];exact Q4 _
def Zau(g:s.TypeIs (.ref a) "set")(h:Q false s):wpAny (model prog w) A (Builtin.List.listLengthHint<|.ref a) Q E s:=by
 refine Wa (wpAny_specialOf g F.slot_set_len.lookup ?_);generalize f:("set.__len__" : String)=z
 wp_delta
 have l:splitId z=some ("set","__len__"):=by subst f;decide +kernel
 rw[l];subst f;refine Wa (wpAny_isInstance (b:=true) g (by rw[isSubtype_type];kernel_rfl) (wpAny_ite_split (λz=>absurd z (by decide)) λ_=>?_));exact wpAny_ite_split (λ_=>Wa (wpAny_typeOf g<|We h)) λz=>absurd (by decide +kernel) z
def RX(hh:A.handled=none)(S:UF w s.heap a js es ep t)(D:Addr)(c:Nat)(g:Value)(Y:s.heap.get? D=some {cls:=.type "list",data:=.seq #[] c})(C:D≠a)(fin:∀h' L d (vs:Yi) x,vs.Perm (es.toList.map (·.2))->h'.get? D=some {cls:=.type "list",dict:=none,data:=.seq vs.toArray x,slots:=#[]}->(∀b o,b≠D->s.heap.get? b=some o->h'.get? b=some o)->R (.ok<|.ret g) {s with heap:=h',toks:=L,drawn:=d}) :
  wpAny (model prog w) A.in1 (Builtin.List.listExtendWith (.ref D) (.ref a) g) (λf u=>match f with | .done f=>R (.ok f) u | .again x=>x.quiet=true/\codeAny (model prog w) A x R u) (λe u=>R (.error e) u) s:=by
 obtain⟨ob,B,hx,hdd⟩:=S.obj;have hT:s.TypeIs (.ref a) "set":=⟨ob,B,hx.1⟩;unfold Builtin.List.listExtendWith;refine Wa (wpAny_typeOf hT ?_);have n1:Builtin.List.listSameRef (.ref D) (.ref a)=false:=by simp[Builtin.List.listSameRef,C]
 have n2:(Value.type "set" == Value.type "list")=false:=by decide
 have n3:(Value.type "set" == Value.type "tuple")=false:=by decide
 simp only[n1,n2,n3,Bool.or_false,Bool.false_eq_true,if_false];refine Wa (IB (A':=A.in1) hh S λI fp vs St h1 d1 W N flt hl hp U keep=>?_);have hDI:D≠I:=λz=>by rw[←z,Y]at U;cases U
 have loop:∀h L c1,St 0 h->(∀b o,b≠D->s.heap.get? b=some o->h.get? b=some o)->h.get? D=some {cls:=.type "list",data:=.seq #[] c1}->D∉fp->
   codeAny (model prog w) A (.builtin "list.extend.loop" ⟨[.ref D,.ref I,g],[]⟩) R {s with heap:=h,toks:=L,drawn:=d1}:=λh L c1 st hk q p=>by
  refine codeAny_extend_loopS W.toS (QW S.few) D p g es.size 0 _ #[] c1 rfl (Qe _) st q (ItemsOf.nil _) λu v x M J r=>?_
  have ev:v.toList=vs:=by
   apply V0;intro k;by_cases Q:k<v.size
   ·have e1:=WJ Q;rw[Qb,e1];exact(r.2 k _ e1).symm
   ·rw[Qb,QZ (by lia),Q9 (by have:=r.1;lia)]
  have e2:v=vs.toArray:=by rw[←ev]
  rw[e2]at J;rw[Moved.eq_with M];refine fin u.heap u.toks d1 vs x hp J λb o l e=>M.heap b o (λG=>?_) (hk b o l e);rcases Wo.mp G with z|z
  ·exact l z
  ·rw[Wg.mp z,U]at e;cases e
 have p:D∉fp:=λM=>by
  rcases flt D M with z|z
  ·exact C z
  ·rw[Y]at z;cases z
 have T:Shared.TypeIs {s with heap:=h1,drawn:=d1} (.ref a) "set":=⟨ob,keep _ _ B,hx.1⟩
 refine Wa (Vc<|Zau T ?_);have q:=keep _ _ Y;refine Wa (wpAny_rule<|Wa (?_:wpAny _ _ (updateSeq D (·.push .none) >>= λ_=>updateSeq D (·.pop)) _ _ _));refine Wa (wpAny_updateSeq q rfl ?_);have H:=WL (Obj.mapSeq (·.push Value.none)) q rfl;refine wpAny_updateSeq H rfl ?_
 have y:∀b o,b≠D->h1.get? b=some o->((h1.update D<|Obj.mapSeq (·.push Value.none)).update D (Obj.mapSeq (·.pop))).get? b=some o:=λb o l e=>
  (WH _ _<|Ne.symm l).trans ((WH _ _<|Ne.symm l).trans e)
 exact We ⟨plainId_quiet F.plain_extend_loop _,loop _ _ _ (W.frame 0 _ _ N λb l o e=>y b o (λz=>p (z▸l)) e) (λb o l e=>y b o l (keep b o e)) (WL (Obj.mapSeq (·.pop)) H rfl) p⟩
def Ie(G:A.handled=none)(S:UF w s.heap a js es ep t)(u:∀g h d vs,vs.Perm (es.toList.map (·.2))->(∀b o,s.heap.get? b=some o->g.get? b=some o)->s.heap.objs.size<g.objs.size->R vs {s with heap:=g,toks:=h,drawn:=d}) :
  wpAny (model prog w) A (collect<|.ref a) R E s:=by
 obtain⟨Q,C,hx,H⟩:=S.obj;refine Wa (wpAny_runValue<|Q2 entry_proto_collect' ?_);have M:=QC (A:=A) PySem.F.plain_proto_collect ⟨[.ref a],[]⟩;refine(Wa<|WT<|We ⟨plainId_quiet PySem.F.plain_list_iadd _,Q2 entry_list_iadd' ?_⟩);rw[(QC (A:=A) PySem.F.plain_list_iadd ⟨[.ref s.heap.objs.size,.ref a],[]⟩)];have J:(s.heap.push {cls:=.type "list",data:=.seq ([]:Yi).toArray}).get? s.heap.objs.size=some {cls:=.type "list",data:=.seq #[]}:=Wn _ rfl
 have B:=RX (prog:=prog) (s:={s with heap:=s.heap.push {cls:=.type "list",data:=.seq ([]:Yi).toArray}})
  (R:=λq z=>∃g h d vs v,q=.ok (.ret<|.ref s.heap.objs.size)/\z={s with heap:=g,toks:=h,drawn:=d}/\vs.Perm (es.toList.map (·.2))/\(∀b o,s.heap.get? b=some o->g.get? b=some o)/\
   g.get? s.heap.objs.size=some {cls:=.type "list",dict:=none,data:=.seq vs.toArray v,slots:=#[]}) G (S.keep λo e=>Wd _ e) s.heap.objs.size 0 (.ref s.heap.objs.size) J (Vm<|Wi C)
  λg h d vs v p l r=>⟨g,h,d,vs,v,rfl,rfl,p,λb o e=>r b o (Wu<|Wi e) (Wd _ e),l⟩
 refine WB B (λf z x=>?_) λe z x=>?_
 ·cases f with
  |done f=>
   obtain⟨g,h,d,vs,v,e,rfl,p,r,l⟩:=x;cases e
   refine(Wa<|wpAny_load l<|We ?_);exact u g h d vs p r (Wi l)
  |again T=>
   refine⟨x.1,Qw x.2 λq N y=>?_⟩;obtain⟨g,h,d,vs,v,rfl,rfl,p,r,l⟩:=y;refine(Wa<|wpAny_load l<|We ?_);exact u g h d vs p r (Wi l)
 ·obtain⟨_,_,_,_,_,L,_⟩:=x;cases L
theorem EM:∀{l:List (Int×Value)},(∀e∈l,Ent e)->IntsAre (l.map (·.2)) (l.map keyOf)
 |[],_=>.nil
 |e::r,h=>by
  obtain⟨k,t,rfl⟩:=h e Wz;exact .cons k t (EM λx hx=>h x (Wr _ hx))
def Zcp{vs us}(p:vs.Perm us):∀{ns:Yc},IntsAre us ns->∃b,IntsAre vs b/\b.Perm ns:=by
 induction p with
 |cons x _ q=>
  intro ns h;cases h with
  |cons n t r=>
   obtain⟨b,v,u⟩:=q r;exact⟨n::b,.cons n t v,List.Perm.cons _ u⟩
 |swap x y l=>
  intro ns h;cases h with
  |cons n t r=>
   cases r with
   |cons f g o=>exact⟨f::n::_,.cons f g (.cons n t o),List.Perm.swap _ _ _⟩
 |_=>grind
def MS(L:A.handled=none)(B:SetB w s.heap a js)(x:js.length<64)
  (C:∀l y u d f ns e,IntsAre f ns->ns.Perm js->ns.Pairwise (·<=·)->s.heap.get? l=none->s.heap.objs.size<=l->y.get? l=some {cls:=.type "list",data:=.seq f.toArray e}->
   (∀b o,s.heap.get? b=some o->y.get? b=some o)->Q (.ref l) {s with heap:=y,toks:=u,drawn:=d}) :
  wpAny (model prog w) A (call (.builtin "sorted") [.ref a]) Q E s:=by
 obtain⟨es,ep,t,S⟩:=B;refine Calls.call_function_entry kind_sorted plain_sorted entry_sorted (args_sorted1 _) ?_;refine Wa (We<|Wa (Ie L S λp u d r H keep big=>?_));obtain⟨N,G,v⟩:=Zcp H (EM S.ent);have g:=v.trans S.per;have J:r.length<64:=by rw[IntsAre.length G,g.length_eq];exact x
 refine Wa (wpAny_newList ?_<|by have:(64:Nat)<=sizeLine:=(by decide);lia);have z:(p.push<|seqObj "list" r.toArray 0).get? p.objs.size=some (seqObj "list" r.toArray 0):=Wn _ rfl;refine Wa (Vc<|QD slot_list_sort ⟨_,z,rfl⟩ entry_list_sort (list_sort_tree z G J λf ns a1 a2 a3=>⟨_,rfl,?_⟩)<|args_list_sort _);obtain⟨e,M⟩:=sortedHeap_at z;refine We ⟨_,rfl,C p.objs.size _ u d f.toList ns e a1 (a2.trans g) a3 ?_ (QL big) (by simpa [seqObj]using M) λb o q=>?_⟩
 ·cases q:s.heap.get? p.objs.size with
  |none=>rfl
  |some o=>exact absurd (Wi<|keep _ _ q) (Qh _)
 ·have h:=Wi (keep b o q);rw[sortedHeap_old (Wu h) (by rw[size_push'];exact QX h)];exact Wd _ (keep b o q)
end
end SetR
namespace Own
open L2
noncomputable def Kt(w:World)(l:Addr)(b:Yc):HO:=.ext λh=>SetR.SetB w h l b
section
variable {X:Cx}
def GT{w H h l b}(B:SetR.SetB w h l b):ObjOk P w H h l (Kt w l b):=by
 refine⟨B,?_,λp n f k=>f.at k⟩;obtain⟨q,r,t,S⟩:=B;obtain⟨o,g,_⟩:=S.obj
 grind
def Iy(y:X.calm=true):Xa X (.type "set") (λxs H Q=>∃(p:Addr) (ns:Yc),xs=[.ref p]/\SqL X.K H p (ns.map V.int)/\ns.length+1<4096/\∀l,H l=none->Q (.ref l) (upd H l<|Kt X.w l<|ns.foldl SetR.UD [])):=by
 intro pins s A H xs C Q I f h;obtain⟨p,ns,rfl,z,x,q⟩:=h;obtain⟨u,rfl,g⟩:=f.one;obtain rfl:=g;obtain⟨v,r,n,_⟩:=I.list z;refine SetR.Ry (I.ok.hd y) n.isList (by simpa using A9 r) x λG E B keep=>?_;exact⟨.ref s.heap.objs.size,upd H s.heap.objs.size (Kt X.w s.heap.objs.size _),I.laid (λb o e=>keep b o (Wi e) e) (Wk _) (GT B),rfl,q _ (I.hok.fresh<|Wk _)⟩
def EV(N:X.calm=true):Xa X (.builtin "sorted") (λxs H Q=>∃p g,xs=[.ref p]/\g.length<64/\(SqL X.K H p (g.map V.int)\/H p=some (Kt X.w p g))/\
  ∀l (ns:Yc),H l=none->ns.Perm g->ns.Pairwise (·<=·)->Q (.ref l) (upd H l<|.lst<|ns.map V.int)):=by
 intro pins s U H xs Y Q I G h;obtain⟨p,g,rfl,A,v,q⟩:=h;obtain⟨u,rfl,J⟩:=G.one;obtain rfl:=J
 have big:∀{ns:Yc},ns.Perm g->(ns.map V.int).length<=sizeLine:=λM=>by
  rw[Wc,M.length_eq]
  have:(64:Nat)<=sizeLine:=by decide
  lia
 rcases v with v|v
 ·obtain⟨n,r,L,_⟩:=I.list v;have E:IntsAre n g:=by simpa using A9 r
  refine sorted_ints L.isList E (by rw[IntsAre.length E];exact A) λf ns a1 a2 a3=>?_;obtain⟨e,C⟩:=sortedAll_at s.heap n f;have x:=I.hok.fresh (Q4 _);refine⟨.ref (s.heap.objs.size+1),upd H (s.heap.objs.size+1) (.lst<|ns.map V.int),I.laid (λb o e=>sortedAll_old e) (Q4 _) ⟨big a2,f.toList,e,Tx a1,?_⟩,rfl,q _ ns x a2 a3⟩;omega
 ·have B:=(I.hok p _ v).1;refine SetR.MS (I.ok.hd N) B A λl T tk d f ns e a1 a2 a3 nl y C keep=>?_;have x:=I.hok.fresh y;refine⟨.ref l,upd H l (.lst<|ns.map V.int),?_,rfl,q l ns x a2 a3⟩;have ok:HOk X.prog X.w (upd H l<|.lst<|ns.map V.int) T:=I.hok.laid keep y ⟨big a2,f,e,Tx a1,C⟩;exact I.call (ch:=[]) (Un.laid keep y x) ok I.bare (λb z=>absurd z (by simp))
end
section
variable {X:Cx}{K:Ya}
def Hm(b:autoParam (X.K=K) au_0):IxR X (λx y H Q=>Te K x y H Q\/Tj K x y H Q):=by subst b;exact BV
def LX(b:autoParam (X.K=K) au_0):Xa X (.builtin "len") (λxs H Q=>∃x n,xs=[x]/\Np K x H n/\Q (.int n) H):=by subst b;exact BF
def MZ(b:autoParam (X.K=K) au_0):OpR X (compareOp .In) (rIn K false):=by subst b;exact Eu
def IP(b:autoParam (X.K=K) au_0):OpR X (compareOp .NotIn) (rIn K true):=by subst b;exact IG
def Ap{pos es k t n}(g:X.calm=true)(h:PGs X es t)(l:autoParam (X.K=K) au_0)(f:autoParam ((assignEach es X.env).length=n) au_0)(b:autoParam ((assignEach es X.env).findIdx? (·.1)=none) au_0):PG X (.Tuple es k pos) (NF K n t):=by subst l;exact Zao g h f b
end
section
variable {α:Type}{R:Hp->V->α->Prop}{φ:Yg}{g:TG}{tc:TT}{te:TE}{σ:L2.St}{H1:Hp}{F:Hp->Prop}{D:Addr}
def Zbu{K a xs}{ds:List α}(f:α->Option V)(v:SqL K H1 a xs)(E:xs.length=ds.length)(G:H1 D=none)(J:ds.length<=sizeLine)(turn:∀(i:Nat) x d l,xs[i]?=some x->ds[i]?=some d->Same H1 l->∀k:Option V->Hp->Prop,k (f d) l->g x (atStart φ σ) l λh w=>Sub (atStart φ σ) h/\tc h w λb r=>if b=true then te h r λy u=>k (some y) u else k none r)(done:F (upd H1 D<|.lst<|ds.filterMap f)) :
  ∃W:Nat->Nat->List V->Hp->Prop,(∃m,W 0 m [] (upd H1 D<|.lst []))/\
   ∀i m q l,W i m q l->((Itl K a).stop i l/\F l)\/((Itl K a).go i l/\∀x z,(Itl K a).yld i l x z->g x (atStart φ σ) z λh w=>Sub (atStart φ σ) h/\tc h w λb r=>
    if b=true then te h r λy u=>u D=some (.lst q)/\q.length<sizeLine/\∃n,n<m/\W (i+1) n (q++[y]) (upd u D<|.lst (q++[y]))else ∃n,n<m/\W (i+1) n q r):=by
 refine⟨λi m q l=>m=ds.length-i/\i<=ds.length/\q=(ds.take i).filterMap f/\l=upd H1 D (.lst q),⟨ds.length,by simp,Qe _,by simp,rfl⟩,?_⟩;rintro i m q l ⟨rfl,L,rfl,rfl⟩;have s:Same H1 (upd H1 D<|.lst ((ds.take i).filterMap f)):=US G;by_cases p:i<ds.length
 ·refine .inr ⟨⟨xs,xs[i]'(by lia),s.seq v,by simp[E,p]⟩,λx z y=>?_⟩;obtain⟨e,y⟩:=y;subst e
  refine turn i x ds[i] _ (y xs<|s.seq v) (Wb p) s (λo A=>match o with
   |some y=>A D=some (.lst ((ds.take i).filterMap f))/\((ds.take i).filterMap f).length<sizeLine/\∃n,n<ds.length-i/\(n=ds.length-(i+1)/\i+1<=ds.length/\(ds.take i).filterMap f++[y]=(ds.take (i+1)).filterMap f/\upd A D (.lst ((ds.take i).filterMap f++[y]))=upd H1 D (.lst ((ds.take i).filterMap f++[y])))
   |none=>∃n,n<ds.length-i/\(n=ds.length-(i+1)/\i+1<=ds.length/\(ds.take i).filterMap f=(ds.take (i+1)).filterMap f/\A=upd H1 D (.lst ((ds.take i).filterMap f)))) ?_
  have B:=WO p;cases C:f ds[i]with
  |some y=>
   refine⟨Ut,?_,ds.length-(i+1),by lia,rfl,p,?_,Ow⟩
   ·have H:=List.length_filterMap_le f (ds.take i);rw[WN]at H;lia
   ·rw[B,QA];simp[C]
  |none=>
   refine⟨ds.length-(i+1),by lia,rfl,p,?_,rfl⟩;rw[B,QA];simp[C]
 ·have e:i=ds.length:=by lia
  subst e;refine .inl ⟨⟨xs,s.seq v,by lia⟩,?_⟩;rwa[QE]
end
noncomputable def eqL(xs b:List V):Bool:=decide (xs.length=b.length)&&(List.range xs.length).all λj=>eqV (xs.getD j .non) (b.getD j .non)
noncomputable def XB(K:Ya)(neg:Bool):R2:=λx y H Q=>∃(p q:Addr) (xs b:List V),x=.ref p/\y=.ref q/\SqL K H p xs/\SqL K H q b/\xs.all UZ=true/\b.all UZ=true/\Q (.bl (if neg then !eqL xs b else eqL xs b)) H
section
variable {X:Cx}
def D9{xs b us f}(l:Vals xs us)(h:Vals b f)(f1:xs.all UZ=true)(v:b.all UZ=true)(j:Nat)(r:j<us.toArray.size)(q:j<f.toArray.size) :
  SeqAt.EqAt A s us.toArray[j] f.toArray[j] (eqV (xs.getD j .non)<|b.getD j .non):=by
 have E:=l.length;have C:=h.length;have H:j<us.length:=by simpa using r
 have G:j<f.length:=by simpa using q
 have o:xs[j]?=some (xs[j]'(by lia)):=Wb _;have n:b[j]?=some (b[j]'(by lia)):=Wb _;obtain⟨u,L,p⟩:=l.get o;obtain⟨w,J,g⟩:=h.get n;have y:us.toArray[j]=u:=by grind
 have x:f.toArray[j]=w:=by grind
 have B:xs.getD j .non=xs[j]'(by lia):=by rw[Wl,o];rfl
 have z:b.getD j .non=b[j]'(by lia):=by rw[Wl,n];rfl
 rw[y,x,B,z];exact FO p g (W4.mp f1 _<|W9 _) (W4.mp v _<|W9 _)
def Gd(o:X.A.units<cLine):OpR X (compareOp .Eq) (XB X.K false):=by
 intro pins s G H x y v u Q I w r h;obtain⟨p,q,xs,b,rfl,rfl,z,hq,f1,E,k⟩:=h;obtain rfl:=w;obtain rfl:=r;obtain⟨L,g,l,_⟩:=I.list z;obtain⟨J,f,p2,_⟩:=I.list hq;have N:=g.length;have M:=f.length;have n:=k;by_cases e:xs.length=b.length
 ·refine SeqAt.eq_listAt l.isList p2.isList (by simp;lia) o (λj C B=>D9 g f f1 E j C B) ⟨.bl (eqL xs b),H,I,?_,n⟩;show _=Value.bool (eqL xs b);unfold eqL
  grind
 ·refine SeqAt.eq_list_lengthsAt l.isList p2.isList (by simp;lia) o ⟨.bl (eqL xs b),H,I,?_,n⟩;unfold eqL;rw[Ws e];rfl
def Ci(o:X.A.units<cLine):OpR X (compareOp .NotEq) (XB X.K true):=by
 intro pins s G H x y v u Q I w r h;obtain⟨p,q,xs,b,rfl,rfl,z,hq,f1,E,k⟩:=h;obtain rfl:=w;obtain rfl:=r;obtain⟨L,g,l,_⟩:=I.list z;obtain⟨J,f,p2,_⟩:=I.list hq;have N:=g.length;have M:=f.length;have n:=k;by_cases e:xs.length=b.length
 ·refine SeqAt.RcNeAt.lists l.isList p2.isList (by simp;lia) o (λj C B=>D9 g f f1 E j C B) _ _ _ _ ⟨.bl (!eqL xs b),H,I,?_,n⟩;show _=Value.bool (!eqL xs b);unfold eqL
  grind
 ·refine SeqAt.RcNeAt.lists_lengths l.isList p2.isList (by simp;lia) o _ _ _ _ ⟨.bl (!eqL xs b),H,I,?_,n⟩;unfold eqL;rw[Ws e];rfl
def TU{xs:Yc}{us}(r:Vals (xs.map V.int) us)(z:Int):∀j f (b:j<xs.length),Value.isInt z us[j]=(xs[j]==z):=by
 intro j f b;obtain⟨u,g,t,rfl⟩:=r.get (by rw[Wq,Wb b];rfl);rw[Wb f]at g;rw[Wp g];rfl
def Ga{xs:Yc}{us}(r:Vals (xs.map V.int) us)(z:Int)(t:Tok):∀y,y∈us.toArray->MeetsSeq.EqGives y (.int z t) (Value.isInt z y):=by
 intro y g;obtain⟨j,h,rfl⟩:=WQ.mp (by simpa using g:y∈us);have f:=r.length;rw[Wc]at f;obtain⟨u,b,l,rfl⟩:=r.get (by rw[Wq,Wb (show j<xs.length by lia)];rfl);rw[Wb h]at b;rw[Wp b];exact MeetsSeq.EqGives.int _ _ _ _
def Fg(K:Ya):V->List V->Hp->VK->Prop:=λx b H Q=>∃(l:Addr) (xs:Yc) (z:Int),x=.ref l/\b=[.int z]/\SqL K H l (xs.map V.int)/\z∈xs/\Q (.int (xs.idxOf z:Nat)) H
def Zaa:MtM X "list.index" (Fg X.K):=by
 intro pins s σ H x vs v us Q I L M h;obtain⟨l,xs,z,rfl,rfl,hS,T,q⟩:=h;cases L
 obtain⟨u,rfl,t,rfl⟩:=M.one;obtain⟨b,r,N,f⟩:=I.list hS;obtain⟨o,n,E,J,g,G⟩:=N;obtain⟨c1,d1,dt1,p⟩:=o;simp only at J g G;subst J g G;have C:=r.length;rw[Wc]at C;have B:=QR.mpr T;have hb:xs.length<=2 ^ 24:=by rw[Wc]at f;exact f
 refine Vn Qy ⟨_,E,rfl⟩ PySem.F.entry_list_index (PySem.F.args_list_index_2 _ _)
  (SeqAt.list_indexAt l b.toArray n none p (.int z t) (Value.isInt z) (xs.idxOf z) (by simpa [←C]using B) (by lia) ?_ ?_) ⟨E,λy U=>(Ga r z t y U).at _ _,⟨.int (xs.idxOf z:Nat),H,I.tok _,⟨_,rfl⟩,q⟩⟩
 ·have e:=TU r z (xs.idxOf z) (by lia) B;show Value.isInt z b[xs.idxOf z]=true;rw[e];simpa using Vw B
 ·intro m Y A;have w:m<b.length:=by simpa using Y
  show Value.isInt z b[m]=false;rw[(TU r z m w<|by lia)]
  have:=List.not_of_lt_findIdx A
  simpa using this
theorem Ar{b g:Type}(f:b->g):∀(xs:List b) k,(xs.eraseIdx k).map f=(xs.map f).eraseIdx k
 |[],_|_::_,0=>rfl
 |x::r,k+1=>by
  show f x::(r.eraseIdx k).map f=f x::(r.map f).eraseIdx k;rw[Ar f r k]
def GZ:V->List V->Hp->VK->Prop:=λx b H Q=>∃(l:Addr) (xs:Yc) (z:Int),x=.ref l/\b=[.int z]/\H l=some (.lst<|xs.map V.int)/\z∈xs/\Q .non (upd H l<|.lst ((xs.eraseIdx<|xs.idxOf z).map V.int))
def Hx:MtM X "list.remove" GZ:=by
 intro pins s J H x L v M Q I A B h;obtain⟨l,xs,z,rfl,rfl,y,C,q⟩:=h;cases A
 obtain⟨u,rfl,t,rfl⟩:=B.one;obtain⟨f,b,n,r,G,e⟩:=I.lstM y;have w:=r.length;rw[Wc]at w;have p:=QR.mpr C
 refine Vn PySem.F.slot_list_remove ⟨_,e,rfl⟩ PySem.F.entry_list_remove (PySem.F.args_list_remove_2 _ _)
  (MeetsSeq.list_remove l b.toArray n (.int z t) (Value.isInt z) (Ga r z t) (xs.idxOf z) (by simpa [←w]using p) ?_ ?_<|by rw[W5,←G];exact f) ⟨e,?_⟩
 ·have e:=TU r z (xs.idxOf z) (by lia) p;show Value.isInt z b[xs.idxOf z]=true;rw[e];simpa using Vw p
 ·intro m E o;have g:m<b.length:=by simpa using E
  have e:=TU r z m g (by lia);show Value.isInt z b[m]=false;rw[e]
  have:=List.not_of_lt_findIdx o
  simpa using this
 ·refine⟨.non,_,I.lset (its':=b.eraseIdx (xs.idxOf z)) y e ?_ ?_ ?_,rfl,q⟩
  ·show b.toArray.eraseIdxIfInBounds (xs.idxOf z)=_;rw[List.eraseIdxIfInBounds_toArray]
  ·rw[Ar];exact r.eraseIdx _
  ·rw[Wc,List.length_eraseIdx];split<;>lia
end
noncomputable def Ite(K:Ya)(a:Addr):It:=
 ⟨λi H=>∃xs x,SqL K H a xs/\xs[i]?=some x,λi H x b=>∃T v,H T=none/\(∀xs,SqL K H a xs->xs[i]?=some v)/\x=.ref T/\b=upd H T (.tup [.int i,v]),λi H=>∃xs,SqL K H a xs/\xs.length<=i⟩
def Hd{K elts k1 tp}(a e it:Addr)(hne:e≠it) :
  Turn P w K (.Tuple elts k1 tp) (Ite K a) [e,it] e (λi h=>∃old,IsEnum h e it i old/\h.IsListIter it a i) where
 mem:=by simp
 obj:=λi h st b hb=>by
  obtain⟨old,h1,o,h2,_,h3⟩:=st;rcases Wo.mp hb with rfl|hb
  ·exact⟨_,h1,λv z=>by cases z⟩
  ·rw[Wg.mp hb];exact⟨o,h2,λv z=>by rw[h3]at z;cases z⟩
 keep:=λi h h' st k=>by
  obtain⟨old,h1,h2⟩:=st;exact⟨old,k e (by simp) _ h1,h2.at λo q=>k it (by simp) o q⟩
 item:=by
  intro X hP hw hK hc i pins s σ H E I hf st hg;subst hP hw hK;obtain⟨old,he,hit⟩:=st;obtain⟨xs,x,hq,hx⟩:=hg;obtain⟨its,rv,p,hz⟩:=I.list hq;obtain⟨u,hu,ru⟩:=rv.get hx;obtain⟨a0,a1,a2,a3,a4,a5⟩:=hf e (by simp);obtain⟨b0,b1,b2,b3,b4,b5⟩:=hf it (by simp);have hfr:=I.hok.fresh (Wk _);have heL:=Wi he;have hiL:it<s.heap.objs.size:=by obtain⟨o,ho,_⟩:=hit;exact Wi ho
  refine wpAny_pyNext_enum_item he hit p.isList (by simpa using hu) hne λh1 eo it1 ht1 hz1 k1=>⟨_,rfl,?_⟩;refine wpAny_letOwnedTupleGo_enum eo λh2 e2 sb2=>?_;have keep2:∀b o,b∉[e,it]->s.heap.get? b=some o->h2.get? b=some o:=λb o hb q=>sb2.extBut b o (λz=>hb (by simp[z])) (k1 b o (λz=>hb (by simp[z])) (λz=>hb (by simp[z])) q)
  have n0:∀b,b∈[e,it]->H b=none:=λb hb=>by
   rcases Wo.mp hb with rfl|hb
   ·exact a0
   ·rw[Wg.mp hb];exact b0
  have un:Un (frs X.stack) [e,it] H (upd H s.heap.objs.size<|.tup [.int i,x]) s.heap h2:=by
   refine⟨λb o q _ _ hx'=>keep2 b o hx' q,λb o q _ _ hx'=>⟨o.slots,keep2 b o hx' q⟩,λb o q n _=>by rw[Uj (Wu<|Wi q)];exact n,λb o q hx'=>⟨o,keep2 b o hx' q⟩,
    λb ys q=>by rw[Uj (UC q hfr)];exact q,λb o ys q=>by rw[Uj (UC q hfr)];exact q,λb ps q=>⟨#[],by rw[Uj (UC q hfr),q];simp⟩⟩
  have ok2:HOk X.prog X.w (upd H s.heap.objs.size<|.tup [.int i,x]) h2:=λb o q=>by
   by_cases hb:b=s.heap.objs.size
   ·subst hb;rw[Ut]at q;cases q
    exact⟨by show 2<=sizeLine;decide,[.int i s.toks,u],.cons ⟨_,rfl⟩ (.cons ru .nil),_,(sb2.extBut _ _ (Vm heL) ht1),rfl,_,rfl⟩
   ·rw[Uj hb]at q;refine(I.hok b o q).stay (λc v hc' r=>keep2 c v (λz=>?_) r) (λc r=>by rw[Uj (UC r hfr)];exact r) λc ys r=>by rw[Uj (UC r hfr)];exact r
    have hcn:=n0 c z;rcases hc' with rfl|hc'
    ·rw[hcn]at q;cases q
    ·rw[hcn]at hc';cases hc'
  have I2:Inv X pins σ (upd H s.heap.objs.size<|.tup [.int i,x]) {s with heap:=h2,toks:=s.toks+1}:=I.call un ok2 I.bare λb hb=>by
   rcases Wo.mp hb with rfl|hb
   ·exact⟨a3,a1,a4,a5⟩
   ·rw[Wg.mp hb];exact⟨b3,b1,b4,b5⟩
  refine⟨.ref s.heap.objs.size,_,I2,rfl,⟨_,x,hfr,λys hy=>by rw[I.list_inj hy hq];exact hx,rfl,rfl⟩,⟨u,?_,it1.at λo q=>sb2.extBut it o (Ne.symm hne) q⟩,λb hb=>?_⟩
  ·have:((i+1:Nat):Int)=(i:Int)+1:=by lia
   rwa[this]
  ·rw[Uj]
   ·exact n0 b hb
   ·rcases Wo.mp hb with rfl|hb
    ·exact Wu heL
    ·rw[Wg.mp hb];exact Wu hiL
 done:=by
  intro X hP hw hK hc i pins s σ H E I hf st hg;subst hP hw hK;obtain⟨old,he,hit⟩:=st;obtain⟨xs,hq,hx⟩:=hg;obtain⟨its,rv,p,hz⟩:=I.list hq;obtain⟨b0,b1,b2,b3,b4,b5⟩:=hf it (by simp);have l1:=rv.length;refine wpAny_pyNext_enum_end (I.ok.hd hc) he hit p.isList (by simp;lia) λh' eb=>⟨rfl,?_⟩;exact I.turned (λb o hb q=>eb b o hb q) b0 b1 b3 b4 b5
 self:=by
  intro A i s Q E st q;obtain⟨old,he,hit⟩:=st;have hT:s.TypeIs (.ref e) "enumerate":=⟨_,he,rfl⟩;refine wpAny_pyIter_slot hT F.slot_enumerate_iter (QD F.slot_enumerate_iter hT F.entry_enumerate_iter ?_<|F.args_enumerate_iter_1 _);exact We ⟨_,rfl, "enumerate",_,hT,F.slot_enumerate_next.lookup,q⟩
noncomputable def Gj(K:Ya)(h:TA):TI:=λf H R=>h f H λg b=>∃a,g=[.ref a]/\(∃xs,SqL K b a xs)/\R (Ite K a) b
def Cs{a z p pos}(U:Gl X "enumerate")(Q:X.mg "enumerate"=none)(ha:PA X [a] z)(N:autoParam (starEach [a] X.env=[(false,eval a X.env)]) au_0) :
  PI X (.Tuple elts k1 tp) (.Call (.Name "enumerate" p) [a] [] pos) (Gj X.K z):=by
 intro pins s y H R I h;refine Call_ (Po I U Q boot_enumerate<|Qk (thn (ha pos pins s y H _ I h) ?_) N rfl);rintro us f ⟨vs,B,g,E,G⟩;obtain⟨l,e1,⟨xs,hq⟩,q⟩:=G;subst e1;obtain⟨u,rfl,C⟩:=E.one;obtain rfl:=C;obtain⟨L,rv,J,hz⟩:=g.list hq;refine call_enumerate_list J.isList λn Y v M keep=>?_;have I2:Inv X pins y B {f with heap:=n}:=g.kept keep
 have r:f.heap.objs.size+1≠f.heap.objs.size:=Nat.succ_ne_self _;have tn:∃o,IsEnum n (f.heap.objs.size+1) f.heap.objs.size ((0:Nat):Int) o/\n.IsListIter f.heap.objs.size l 0:=⟨_,Y,v⟩;have T:=Hd (P:=X.prog) (w:=X.w) (K:=X.K) (elts:=elts) (k1:=k1) (tp:=tp) l (f.heap.objs.size+1) f.heap.objs.size r;refine T.self X.A 0 {f with heap:=n} _ _ tn ⟨_,_,_,_,B,rfl,I2,T,tn,λb x=>?_,q⟩
 rcases Wo.mp x with rfl|x
 ·exact g.fpOk (Q4 _) (g.hok.fresh<|Q4 _)
 ·rw[Wg.mp x];exact g.fpOk (Wk _) (g.hok.fresh<|Wk _)
section
variable {X:Cx}{K:Ya}
def Be(b:autoParam (X.K=K) au_0):MtM X "list.index" (Fg K):=by subst b;exact Zaa
def Kl{n t name apos cpos T id r}(p:PlainAttrs T)(slot:Slot T name id)(l:typeOf (.builtin id)=pure (.type "method_descriptor"))(u:MtM X id r)(s:PE X o n)(v:PA X (e::es) t)(w:autoParam (X.K=K) au_0)(g:autoParam (attributeBase o name X.env (eval o X.env)=eval o X.env) au_0)
  (h:autoParam (((backTo cpos<|starEach (e::es) X.env).all (λx=>!x.1)&&(backToKw cpos<|keywordEach [] X.env).all (λx=>x.1.isSome)
   && decide ((e::es).length+([]:List Keyword).length+(if ([]:List Keyword).isEmpty then 0 else 1)<30))=true) au_0)
  (f:autoParam ((apos.endLine==cpos.line)=true) au_0) (q:autoParam (starEach (e::es) X.env=(false,eval e X.env)::starEach es X.env) au_0) (b:autoParam ((backTo cpos<|starEach es X.env).any (·.1)=false) au_0) :
  PE X (.Call (.Attribute o name apos) (e::es) [] cpos) (tBM K T r n t):=by
 subst w;exact Pq p slot l u s v g h f q b
end
def NO(xs b:Yc):eqL (xs.map V.int) (b.map V.int)=decide (xs=b):=by
 unfold eqL;rw[Wc,Wc];by_cases e:xs=b
 ·subst e;rw[Wh rfl,Wh rfl,QH,W4];intro j n;have g:j<xs.length:=by simpa using n
  rw[Wl,Wq,Wb g];show(xs[j]==xs[j])=true;simp
 ·rw[Ws e];by_cases h:xs.length=b.length
  ·rw[Wh h,QH,Bool.eq_false_iff];intro f;apply e;apply List.ext_getElem h;intro j l p
   have:=W4.mp f j (by simpa using l)
   rw[Wl,Wq,Wb l,Wl,Wq,Wb p]at this;have o:(xs[j]==b[j])=true:=this;simpa using o
  ·grind
def Kg(xs:Yc):(xs.map V.int).all UZ=true:=by
 rw[List.all_map];exact W4.mpr λ_ _=>rfl
end Own
namespace M
open L2 Own
def LV{b:Type}(R:Hp->V->b->Prop)(H:Hp)(vs:List V)(xs:List b):Prop:=
 vs.length=xs.length/\∀(i:Nat) (x:b),xs[i]?=some x->∃v,vs[i]?=some v/\R H v x
def LAt{b:Type}(R:Hp->V->b->Prop)(H:Hp)(l:Addr)(xs:List b):Prop:=∃f,H l=some (.lst f)/\LV R H f xs
def Xl(H:Hp)(v:V)(q:Int×Int):Prop:=∃a,v=.ref a/\H a=some (.tup [.int q.1,.int q.2])
section
variable {α:Type}{R:Hp->V->α->Prop}{H H':Hp}{vs:List V}{xs:List α}{l:Addr}
def LV.get {i:Nat}{v} (h:LV R H vs xs) (e:vs[i]?=some v):∃x,xs[i]?=some x/\R H v x:=by
 have f:i<xs.length:=by rw[←h.1];exact(WI.mp e).1
 obtain⟨b,g,r⟩:=h.2 i xs[i] (by simp)
 grind
end
def PR(m:Yc):Prop:=∃a b c d e:Int,m=[a,b,c,d,e]/\(1<=a/\a<=10)/\(1<=b/\b<=9/\(b=1\/b=3\/b=7\/b=9))/\(0<=c/\c<=9)/\(1<=d/\d<=1000)/\(1<=e/\e+d<=1001)
def Field(ps:Yb):Prop:=∀q∈ps,1<=q.1/\q.1<=10/\1<=q.2/\q.2<=1000
def Rz(b:Yc)(k z:Int):z∈SetR.UD b k↔z∈b\/z=k:=by
 unfold SetR.UD;split
 ·grind
 ·simp
theorem Cb:∀(ns b:Yc) z,z∈ns.foldl SetR.UD b↔z∈b\/z∈ns
 |[],b,z=>by simp
 |n::r,b,z=>by
  rw[List.foldl_cons,Cb r,Rz,Wo];constructor
  ·grind
  ·grind
def Ol(k:Int)(h:b.Nodup):(SetR.UD b k).Nodup:=by
 unfold SetR.UD;split
 ·lia
 ·grind
theorem DE:∀(ns:Yc) {b:Yc},b.Nodup->(ns.foldl SetR.UD b).Nodup
 |[],_,h=>h
 |n::r,b,h=>DE r (Ol n h)
theorem DV:∀(ns b:Yc),(ns.foldl SetR.UD b).length<=b.length+ns.length
 |[],b=>by simp
 |n::r,b=>by
  have g:=DV r (SetR.UD b n)
  have f:(SetR.UD b n).length<=b.length+1:=by
   unfold SetR.UD;split
   ·simp
   ·simp
  grind
def Ft{l:Yc}(h:l.Pairwise (·<=·))(n:l.Nodup):l.Pairwise (· < ·):=by
 have:=h.and n
 exact this.imp λ{a b} h=>by have:=h.1;have:=h.2;lia
def Ca{g f:Yc}(n:g.Pairwise (· < ·))(l:f.Pairwise (· < ·))(h:∀z,z∈g↔z∈f):g=f:=by
 have p:g.Nodup:=n.imp λ{a b} h=>by lia
 have o:f.Nodup:=l.imp λ{a b} h=>by lia
 exact((List.perm_ext_iff_of_nodup p o).mpr h).eq_of_pairwise (λa b _ _ x y=>by lia) n l
noncomputable def tenL:Yc:=[1,2,3,4,5,6,7,8,9,10]
def Mh:z∈tenL↔1<=z/\z<=10:=by
 unfold tenL;constructor
 ·intro h;simp only[Wo,Ve,or_false]at h;omega
 ·rintro⟨f,b⟩;simp only[Wo,Ve,or_false];lia
noncomputable def U5(ps:Yb):Yc:=tenL.filter λh=>decide (h∈ps.map (·.1))
def Px(ps:Yb):(U5 ps).Pairwise (· < ·):=List.Pairwise.filter _ (by trivial)
def Sa(b:Field ps){z}:z∈U5 ps↔z∈ps.map (·.1):=by
 unfold U5;rw[Qz,V1,Mh];constructor
 ·grind
 ·intro h;obtain⟨q,hq,rfl⟩:=W6.mp h
  have:=b q hq
  grind
def TZ(ps:Yb):(U5 ps).length<=10:=by
 have:=Qc (λh=>decide (h∈ps.map (·.1))) tenL
 trivial
def Zbq(b:Field ps)(p:ns.Perm ((ps.map (·.1)).foldl SetR.UD []))(h:ns.Pairwise (·<=·)):ns=U5 ps:=by
 refine Ca (Ft h<|p.symm.nodup<|DE _ List.nodup_nil) (Px ps) λz=>?_;rw[p.mem_iff,Cb,Sa b];simp
def AM(z:Int)(xs:Yc):inV (.int z) (xs.map V.int)=decide (z∈xs):=by
 unfold inV
 induction xs with
 |nil=>rfl
 |cons x r b=>
  show((x==z) || _)=_;by_cases e:x=z
  ·grind
  ·grind
def M5:tenL=(List.range 10).map λ(i:Nat)=>(1:Int)+(i:Int):=rfl
def Za1{os ns}(g:os.Perm (U5 ps))(n:ns.Perm os)(l:ns.Pairwise (·<=·)):ns=U5 ps:=by
 have f:(U5 ps).Nodup:=(Px ps).imp λ{a b} h=>by lia
 have p:=n.trans g;exact Ca (Ft l<|p.symm.nodup f) (Px ps) λz=>p.mem_iff
section
variable (ps:Yb)
noncomputable def tpM(y:Int):Nat->Int
 | 0=>0
 |j+1=>tpM y j+(if (ps.getD j (0,0)).1=y then(ps.getD j (0,0)).2 else 0)
noncomputable def pcM(x y:Int):Nat->Int
 | 0=>0
 |k+1=>pcM x y k+(if x≠y/\(ps.getD k (0,0)).1=x then tpM ps y k*(ps.getD k (0,0)).2 else 0)
noncomputable def Ur(n:Nat):Yc->Int
 |[]=>0
 |a::r=>(r.map λb=>pcM ps a b n).sum+Ur n r
noncomputable def Xs(n:Nat)(h:Int):Yc->Int
 |[]=>0
 |a::r=>if a=h then(r.map λb=>tpM ps b n).sum else Xs n h r
noncomputable def rsM(os:Yc)(h:Int):Nat->Int
 | 0=>0
 |j+1=>rsM os h j+(if os.idxOf h<os.idxOf (ps.getD j (0,0)).1 then(ps.getD j (0,0)).2 else 0)
noncomputable def XM(os:Yc):Nat->Int
 | 0=>0
 |k+1=>XM os k+rsM ps os (ps.getD k (0,0)).1 k*(ps.getD k (0,0)).2
end
def AJ{r:Yc}(h:a≠b):(a::r).idxOf b=r.idxOf b+1:=by grind
def DP(f g:Int->Int)(l:Yc):(l.map λb=>f b+g b).sum=(l.map f).sum+(l.map g).sum:=by
 induction l with
 |nil=>rfl
 |cons b r h=>grind
def PP{f g:Int->Int}{l:Yc}(h:∀b∈l,f b=g b):(l.map f).sum=(l.map g).sum:=by
 rw[List.map_congr_left h]
def AF(l:Yc):(l.map λ_=>(0:Int)).sum=0:=by
 induction l with
 |nil=>rfl
 |cons b r f=>grind
def O7(f:Int->Int)(w:Int)(l:Yc):(l.map λb=>f b*w).sum=(l.map f).sum*w:=by
 induction l with
 |nil=>simp
 |cons b r g=>grind
def LR{l:Yc}(h:Int)(w:Int)(f:l.Nodup):(l.map λb=>if h=b then w else 0).sum=if h∈l then w else 0:=by
 induction l with
 |nil=>rfl
 |cons b r g=>grind
section
variable {ps:Yb}
theorem AS:∀{os:Yc},(ps.getD n (0,0)).1∉os->Ur ps (n+1) os=Ur ps n os
 |[],_=>rfl
 |a::r,h=>by
  have b:(ps.getD n (0,0)).1≠a:=λz=>h (by grind);simp only[Ur];rw[AS (λz=>h (Wr _ z))];congr 1;apply PP;simp only[pcM];lia
theorem EC:∀{os:Yc},os.Nodup->(ps.getD n (0,0)).1∈os->Ur ps (n+1) os=Ur ps n os+Xs ps n (ps.getD n (0,0)).1 os*(ps.getD n (0,0)).2
 |[],_,h=>by cases h
 |a::r,p,h=>by
  obtain⟨g,o⟩:=Qn.mp p;simp only[Ur,Xs];by_cases e:a=(ps.getD n (0,0)).1
  ·rw[Wj e];have f:(ps.getD n (0,0)).1∉r:=by rw[←e];exact g
   rw[AS f,←O7]
   have l:(r.map λb=>pcM ps a b (n+1)).sum=(r.map λb=>pcM ps a b n+tpM ps b n*(ps.getD n (0,0)).2).sum:=by
    apply PP;intro b q;simp only[pcM];rw[Wj ⟨λz=>g (by rw[z];exact q),e.symm⟩]
   rw[l,DP];lia
  ·rw[Wf e];have f:(ps.getD n (0,0)).1∈r:=by grind
   rw[EC o f]
   have l:(r.map λb=>pcM ps a b (n+1)).sum=(r.map λb=>pcM ps a b n).sum:=by
    apply PP;simp only[pcM];lia
   lia
theorem D2:∀{os:Yc},(ps.getD n (0,0)).1∉os->Xs ps (n+1) h os=Xs ps n h os
 |[],_=>rfl
 |a::r,f=>by
  simp only[Xs];rw[D2 (λz=>f (Wr _ z))]
  have g:(r.map λb=>tpM ps b (n+1)).sum=(r.map λb=>tpM ps b n).sum:=by
   apply PP;simp only[tpM]
   grind
  lia
theorem DN{h}:∀{os:Yc},os.Nodup->h∈os->(ps.getD n (0,0)).1∈os->
  Xs ps (n+1) h os=Xs ps n h os+(if os.idxOf h<os.idxOf (ps.getD n (0,0)).1 then(ps.getD n (0,0)).2 else 0)
 |[],_,u,_=>by cases u
 |a::r,B,u,y=>by
  obtain⟨x,v⟩:=Qn.mp B;generalize o:(ps.getD n (0,0)).1=g at y ⊢;generalize A:(ps.getD n (0,0)).2=w at ⊢;simp only[Xs];by_cases e:a=h
  ·subst e;rw[Wj rfl,Wj rfl]
   have G:(r.map λb=>tpM ps b (n+1)).sum=(r.map λb=>tpM ps b n+(if g=b then w else 0)).sum:=by
    apply PP;intro b _;simp only[tpM];rw[o,A]
   rw[G,DP,LR g w v];have s:(a::r).idxOf a=0:=by simp
   by_cases l:g=a
   ·subst l;rw[s,Wf x,Wf (by lia)]
   ·grind
  ·rw[Wf e,Wf e]
   have C:h∈r:=by
    rcases Wo.mp u with z|z
    ·exact absurd z.symm e
    ·exact z
   have q:(a::r).idxOf h=r.idxOf h+1:=AJ e;by_cases l:g=a
   ·subst l;have s:(g::r).idxOf g=0:=by simp
    rw[D2 (by rw[o];exact x),s,Wf (by lia)];lia
   ·have E:g∈r:=by
     rcases Wo.mp y with z|z
     ·exact absurd z l
     ·exact z
    have p:(a::r).idxOf g=r.idxOf g+1:=AJ (Ne.symm l);rw[DN v C (by rw[o];exact E),o,A,q,p];by_cases f:r.idxOf h<r.idxOf g
    ·rw[Wj f,Wj (by lia)]
    ·rw[Wf f,Wf (by lia)]
theorem Gn{os h}(b:os.Nodup)(g:h∈os):∀n,(∀j,j<n->(ps.getD j (0,0)).1∈os)->Xs ps n h os=rsM ps os h n
 | 0,_=>by
  have:∀l,Xs ps 0 h l=0:=by
   intro l
   induction l with
   |nil=>rfl
   |cons a r o=>
    simp only[Xs,tpM];rw[AF,o];simp
  rw[this];rfl
 |n+1,f=>by
  rw[DN b g (f n<|by simp),Gn b g n λj p=>f j (by lia)];rfl
theorem Gc{os}(f:os.Nodup):∀n,(∀j,j<n->(ps.getD j (0,0)).1∈os)->Ur ps n os=XM ps os n
 | 0,_=>by
  have:∀l,Ur ps 0 l=0:=by
   intro l
   induction l with
   |nil=>rfl
   |cons a r g=>
    simp only[Ur,pcM];rw[AF,g];rfl
  rw[this];rfl
 |n+1,b=>by
  rw[EC f (b n<|by simp),Gc f n (λj h=>b j (by lia)),Gn f (b n<|by simp) n λj h=>b j (by lia)];rfl
end
end M
namespace ExcR
open L2
structure UX (fs ex:List Addr) (h h':Heap):Prop where
 keep:∀b o,h.get? b=some o->b∉fs->b∉ex->h'.get? b=some o
 slot:∀b o,h.get? b=some o->b∉ex->∃sl,h'.get? b=some {o with slots:=sl}
 size:h.objs.size<=h'.objs.size
def UX.trans (a:UX fs ex l h) (b:UX fs ex h g):UX fs ex l g:=
 ⟨λc o e n m=>b.keep c o (a.keep c o e n m) n m,λc o e m=>by
  obtain⟨r,q⟩:=a.slot c o e m;obtain⟨f,p⟩:=b.slot c _ q m;exact⟨f,p⟩,Wt a.size b.size⟩
def UX.mono {fs f ex g}{l h} (a:UX fs ex l h) (p:∀b∈fs,b∈f) (hx:∀b∈ex,b∈g):UX f g l h:=
 ⟨λc o e n m=>a.keep c o e (λz=>n (p c z)) (λz=>m (hx c z)),λc o e m=>a.slot c o e λz=>m (hx c z),a.size⟩
def M2(o:Obj)(f):(o.mapFields f).dict=o.dict:=by
 obtain⟨c,d,b,sl⟩:=o;cases b<;>rfl
structure Trc (h:Heap) (e T:Addr) (cls:Value×Yn) (fl:Value):Prop where
 ne:T≠e
 exc:∃oe vs,h.get? e=some oe/\(oe.cls,oe.dict)=cls/\oe.data=.fields vs/\vs[1]?=some (.ref T)
 ent:∃oT ts,h.get? T=some oT/\oT.data=.fields ts/\ts[3]?=some fl
section
variable {M:Model}{A:Around}{E:Yf}{s:Shared}{base:Heap}{env:Env}{outer:List Env}{L e:Addr}
def A3{hadNext Q}(B:A.frames=some (env::outer))(U:s.heap.FunFrames base (env::outer))(hf:env.frame=some L)(Y:s.heap.get? e=some v)(C:v.data=.fields vs)(hsz:1<vs.size)(h:∀H T,s.heap.objs.size<=T->Trc H e T (v.cls,v.dict) (rawInt L)->UX (frs (env::outer)) [e] s.heap H->Q () {s with heap:=H}) :
  wpAny M A (do let a ←frameOf env;let u ←entryPlaceOf L hadNext;let b ←EntryCells.newEntry head a .none (rawInt L) .none u;setField (.ref e) 1 b) Q E s:=by
 have n:e∉frs (env::outer):=λhm=>by
  obtain⟨_,o,N,y⟩:=U.mem hm;rw[Y]at N;cases N
  exact y vs C
 refine Wa (wpAny_frameOf_fun B U hf λG g=>Wa (wpAny_entryPlaceOf λu x=>?_));refine Wa (WT ?_<|x.sizeOk5 _ _ _ _ _);have r:=(g.2.1 e n).trans Y;generalize eo:({cls:=.type "traceback",dict:=none,data:=.fields ([head,.ref L,.none,rawInt L,.none]++(if u.isEmpty then List.replicate 6 Value.none else u)).toArray}:Obj)=J;have p:=Wd J r;refine Qv p C hsz (h _ G.objs.size (Ql g.1.symm) ?_ ?_)
 ·have l:=Vm (Wi r);have d3:=WY C (·.setIfInBounds 1 (Value.ref G.objs.size));refine⟨l,⟨_,_,WL _ p (Qp d3),by rw[Obj.cls_mapFields,M2],d3,by simp[hsz]⟩,J,_,?_,by rw[←eo],?_⟩
  ·exact(WH _ _<|Ne.symm l).trans (Wn G<|by rw[←eo];rfl)
  ·rfl
 ·refine⟨λb o q nb w=>?_,λb o q w=>?_,?_⟩
  ·have f:b≠e:=λz=>w (by simp[z]);rw[WH _ _ (Ne.symm f)];exact Wd _ ((g.2.1 b nb).trans q)
  ·have f:b≠e:=λz=>w (by simp[z]);obtain⟨sl,q1⟩:=g.2.2 b o q;exact⟨sl,by rw[WH _ _ (Ne.symm f)];exact Wd _ q1⟩
  ·rw[Heap.size_update,QT,g.1];exact Q4 _
def HK(f:A.frames=some (env::outer))(q:s.heap.FunFrames base (env::outer))(l:env.frame=some L)(n:s.heap.get? e=some b)(o:b.data=.fields vs)(p:vs[1]?=some .none)(h:∀g T,s.heap.objs.size<=T->Trc g e T (b.cls,b.dict) (rawInt L)->UX (frs (env::outer)) [e] s.heap g->Q () {s with heap:=g}):wpAny M A (noteFrame (.ref e) env) Q E s:=by
 unfold noteFrame;simp only[l];refine Wa (wpAny_field n o p ?_);exact A3 f q l n o (QI.mp p).1 h
def Gu(x:Trc s.heap e T cls Y)(h:∀g,Trc g e T cls .none->UX [] [T] s.heap g->Q () {s with heap:=g}) :
  wpAny M A (setField (.ref T) 3 .none) Q E s:=by
 obtain⟨n,⟨w,v,J,H,G,C⟩,U,N,r,p,y⟩:=x;have u:=(QI.mp y).1;refine Qv r p u (h _ ?_ ?_)
 ·have d3:=WY p (·.setIfInBounds 3 Value.none);exact⟨n,⟨w,v,(WH _ _ n).trans J,H,G,C⟩,_,_,WL _ r (Qp d3),d3,by simp[u]⟩
 ·have l:∀b,b≠T->(s.heap.update T<|Obj.mapFields (·.setIfInBounds 3 Value.none)).get? b=s.heap.get? b:=λb B=>WH _ _ (Ne.symm B);exact⟨λb o q _ f=>(l b λz=>f (by grind)).trans q,λb o q f=>⟨o.slots,(l b λz=>f (by grind)).trans q⟩,Ql (Heap.size_update ..).symm⟩
def E8(n:A.frames=some (env::outer))(hl:s.heap.FunFrames base (env::outer))(y:env.frame=some L)(x:Trc s.heap e T cls .none)(h:∀r f,s.heap.objs.size<=f->Trc r e f cls (rawInt L)->UX (frs (env::outer)) [e,T] s.heap r->Q () {s with heap:=r}):wpAny M A (noteFrame (.ref e) env) Q E s:=by
 obtain⟨ne,⟨oe,vs,g1,g2,g3,g4⟩,oT,G,w,v,Y⟩:=id x;unfold noteFrame;simp only[y];refine Wa (wpAny_field g1 g3 g4 ?_);refine Wa (wpAny_field w v Y ?_);refine Wa (Gu x λh1 B u=>?_)
 have l:=hl.of_keeps λb o q g=>⟨o,u.keep b o q (by simp) (λz=>by
  rw[Wg.mp z,w]at q;cases q
  exact g G v),rfl⟩
 obtain⟨_,⟨U,C,N,p2,J,H⟩,_⟩:=id B;refine A3 n l y N J (QI.mp H).1 λh2 f p x2 K2=>h h2 f (Wt u.size p) (by grind) ?_;exact(u.mono (by simp)<|by simp).trans (K2.mono (λ_ z=>z)<|by simp)
def Tg(x:Trc s.heap e T cls r)(h:∀b,Trc b e T cls .none->UX [] [T] s.heap b->Q () {s with heap:=b}) :
  wpAny M A (setFlight (.ref e) none) Q E s:=by
 obtain⟨p,⟨o,n,l,q,g,f⟩,_⟩:=id x;refine Wa (wpAny_field l g f ?_);exact Gu x h
def Lj(l:A.frames=some (env::outer))(y:s.heap.FunFrames base (env::outer))(B:env.frame=some L)(C:s.heap.get? e=some f)(G:f.data=.fields vs)(J:vs[1]?=some .none)(h:∀p T,s.heap.objs.size<=T->Trc p e T (f.cls,f.dict) .none->UX (frs (env::outer)) [e] s.heap p->Q () {s with heap:=p}):wpAny M A (leaving env<|.ref e) Q E s:=by
 unfold leaving;refine Wa (HK l y B C G J λN T n x K=>Tg x λH u r=>h H T n u ?_);refine⟨λb o q w g=>r.keep b o (K.keep b o q w g) (by simp) (λz=>?_),λb o q g=>?_,Wt K.size r.size⟩
 ·rw[Wg.mp z]at q;exact absurd (Wi q) (Vp.mpr n)
 ·obtain⟨sl,v⟩:=K.slot b o q g;exact⟨sl,r.keep b _ v (by simp) (λz=>by rw[Wg.mp z]at q;exact absurd (Wi q) (Vp.mpr n))⟩
def L7(l:A.frames=some (env::outer))(B:s.heap.FunFrames base (env::outer))(C:env.frame=some L)(x:Trc s.heap e T cls .none)(h:∀p f,s.heap.objs.size<=f->Trc p e f cls .none->UX (frs (env::outer)) [e,T] s.heap p->Q () {s with heap:=p}):wpAny M A (leaving env<|.ref e) Q E s:=by
 refine Wa (E8 l B C x λH f n v K=>Tg v λG u r=>h G f n u ?_);refine⟨λb o q y g=>r.keep b o (K.keep b o q y g) (by simp) (λz=>?_),λb o q g=>?_,Wt K.size r.size⟩
 ·rw[Wg.mp z]at q;exact absurd (Wi q) (Vp.mpr n)
 ·obtain⟨sl,w⟩:=K.slot b o q g;exact⟨sl,r.keep b _ w (by simp) (λz=>by rw[Wg.mp z]at q;exact absurd (Wi q) (Vp.mpr n))⟩
end
section
variable {P:Program}{w:World}{H H':Hp}{h h':Heap}{a:Addr}{o:HO}{fs ex:List Addr}
def has(x:ObjOk P w H h a o):∃u,h.get? a=some u:=by
 cases o with
 |lst xs=>exact let ⟨_,_,_,_,e⟩:=x;⟨_,e⟩
 |tup xs=>exact let ⟨_,_,_,u,e,_⟩:=x;⟨u,e⟩
 |dK b|dT b=>exact let ⟨_,_,_,_,u,_,_,e,_⟩:=x;⟨u,e⟩
 |set S n=>exact let ⟨u,_,_,_,e,_⟩:=x;⟨u,e⟩
 |ins C p fs=>exact let ⟨_,_,_,e,_⟩:=x;⟨_,e⟩
 |own y=>exact x
 |xd fs=>exact let ⟨_,⟨u,_,_,e,_⟩,_⟩:=x;⟨u,e⟩
 |rng lo l=>exact let ⟨_,_,_,e⟩:=x;⟨_,e⟩
 |frz g u=>exact⟨_,x.1⟩
 |ext f=>exact x.2.1
 |_=>exact⟨_,x⟩
def IH(ok:HOk P w H h)(e:h.get? a=none):H a=none:=by
 cases q:H a with
 |none=>rfl
 |some o=>
  obtain⟨u,z⟩:=has (ok a o q)
  grind
def Ph(ok:HOk P w H h)(k:UX fs ex h h')(g:∀b∈fs,H b=none)(hx:∀b∈ex,H b=none):HOk P w H h':=λa o e=>by
 refine(ok a o e).stay (λb u l q=>?_) (λ_ q=>q) (λ_ _ q=>q);have f:H b≠none:=by grind
 exact k.keep b u q (λz=>f (g b z)) λz=>f (hx b z)
end
structure XAt (P:Program) (w:World) (outer:List Env) (H H':Hp) (s s':Shared) (a T C:Addr) (dx:Yn):Prop where
 os:s'.os=s.os
 bare:AllBare s'.gens
 un:Un (frs outer) [] H H' s.heap s'.heap
 hok:HOk P w H' s'.heap
 na:s.heap.get? a=none
 nT:s.heap.get? T=none
 fa:H' a=none
 fT:H' T=none
 tr:Trc s'.heap a T (.ref C,dx) .none
noncomputable def CXe(P:Program)(w:World):CXT:=λouter H s E e g=>∃a T C b f,e=.ref a/\XAt P w outer H f s g a T C b/\E (.ref C) b f
section
variable {X:Cx}{pins:Yd}{σ:L2.St}{H H':Hp}{s s':Shared}{a T C:Addr}{dx:Yn}
def Cf(I:Inv X pins σ H s)(r:X.ex=[])(k:UX (frs X.stack) ex s.heap x)(hx:∀b∈ex,X.s₀.heap.get? b=none):Un X.fs [] X.H₀ H X.s₀.heap x:=by
 have B:=I.base;rw[r]at B;have f:∀b o,X.s₀.heap.get? b=some o->b∉ex:=λb o q z=>by rw[hx b z]at q;cases q
 have v:∀b o,X.s₀.heap.get? b=some o->b∉X.fs->b∉frs X.stack:=λb o q h z=>by
  rcases Wo.mp (I.stkSub b z)with e|e
  ·have A:=Wi q;have y:=I.ok.above
   grind
  ·exact h e
 refine⟨λb o q n h g=>k.keep b o (B.keep b o q n h g) (v b o q h) (f b o q),λb o q n w g=>?_,λb o q n g=>B.free b o q n g,λb o q g=>?_,B.tups,B.frzs,B.tbls⟩
 ·obtain⟨sl,p⟩:=B.slot b o q n w g;obtain⟨l,u⟩:=k.slot b _ p (f b o q)
  grind
 ·obtain⟨o1,p⟩:=B.there b o q g;obtain⟨l,u⟩:=k.slot b _ p (f b o q);exact⟨_,u⟩
def Nh(I:Inv X pins σ H s)(f:X.ex=[])(e:s.heap.get? b=none):X.s₀.heap.get? b=none:=by
 cases q:X.s₀.heap.get? b with
 |none=>rfl
 |some o=>
  obtain⟨u,z⟩:=I.base.there b o q (by grind)
  grind
variable {E:Yf}
def LM(I:Inv X pins σ H s)(f:X.ex=[])(h:X.stack=X.env::X.outer)(n:X.env.frame=some X.env.locals)(x:XAt X.prog X.w X.stack H H' s s' a T C dx) :
  wpAny (model X.prog X.w) X.A (leaving X.env<|.ref a) (λ_ u=>∃o,XAt X.prog X.w X.outer X.H₀ H' X.s₀ u a o C dx) E s':=by
 have J:=I.call' x.os x.un x.hok x.bare λb z=>absurd z (by simp);have p:=J.stack;have q:=J.ok.frames;rw[h]at p q;refine L7 q p n x.tr λv o l r k=>⟨o,J.os,J.bare,?_,?_,Nh I f x.na,?_,x.fa,x.hok.fresh l,r⟩
 ·exact Cf J f (by rw[h];exact k) λb g=>by
   rcases Wo.mp g with rfl|g
   ·exact Nh I f x.na
   ·rw[Wg.mp g];exact Nh I f x.nT
 ·refine Ph x.hok k (λb g=>J.stkFree b (by grind)) λb g=>?_;rcases Wo.mp g with rfl|g
  ·exact x.fa
  ·rw[Wg.mp g];exact x.fT
 ·exact Vj (Wt J.sz l)
def M9(J:Inv X pins σ H s)(o:X.ex=[])(f:X.stack=X.env::X.outer)(n:X.env.frame=some X.env.locals)(r:X.s₀.heap.get? a=none)(x:H a=none)(B:s.heap.get? a=some l)(L:l.cls=.ref C)(p:l.dict=dx)(G:l.data=.fields vs)(M:vs[1]?=some .none) :
  wpAny (model X.prog X.w) X.A (leaving X.env<|.ref a) (λ_ z=>∃q,XAt X.prog X.w X.outer X.H₀ H X.s₀ z a q C dx) E s:=by
 have u:=J.stack;have v:=J.ok.frames;rw[f]at u v;refine Lj v u n B G M λN q g y k=>⟨q,J.os,J.bare,?_,?_,r,?_,x,J.hok.fresh g,by rw[←L,←p];exact y⟩
 ·exact Cf J o (by rw[f];exact k) λb h=>by rw[Wg.mp h];exact r
 ·exact Ph J.hok k (λb h=>J.stkFree b (by grind)) λb h=>by rw[Wg.mp h];exact x
 ·exact Vj (Wt J.sz g)
def Za0{g vs}(I:Inv X pins σ H s)(f:X.ex=[])(h:X.stack=X.env::X.outer)(l:X.env.frame=some X.env.locals)(keeps:∀b o,s.heap.get? b=some o->p.get? b=some o)(new:s.heap.get? a=none)(r:p.get? a=some g)(v:g.cls=.ref C)(n:g.dict=dx)(u:g.data=.fields vs)(x:vs[1]?=some .none) :
  wpAny (model X.prog X.w) X.A (leaving X.env<|.ref a) (λ_ q=>∃y,XAt X.prog X.w X.outer X.H₀ H X.s₀ q a y C dx) E {s with heap:=p}:=
 M9 (s:={s with heap:=p}) (I.call' (ch:=[]) rfl (Un.kept keeps) (I.hok.kept keeps) I.bare λb z=>absurd z (by simp)) f h l (Nh I f new) (IH I.hok new) r v n u x
end
structure TY (K:Ya) (C:Addr):Prop where
 q:PySem.W.excIn K C [.type "ValueError",.type "Exception",.type "BaseException",.type "object"] "ValueError.__new__"=true
def TY.obj {K C h} (c:TY K C) (k:K.In h):∃b N nm q bs hdct sn sub ab col dd k0 k1 k2 k3 k5 o,h.get? C=some (excClassObj nm q C N bs b hdct sn sub ab col dd k0 k1 k2 k3 k5 "ValueError.__new__")/\h.Ns N o/\o "__init__"=none/\
  OwnTail h [.type "ValueError",.type "Exception",.type "BaseException",.type "object"] b:=by
 have e:=c.q;unfold PySem.W.excIn at e;split at e
 next dd J sl z=>
  split at e
  next L b k0 k1 k2 k3 n k5 r p=>
   simp only[W1,beq_iff_eq,Bool.not_eq_true']at e;obtain⟨⟨⟨⟨⟨G,E⟩,v⟩,B⟩,g⟩,u⟩:=e;subst G E;have s:=k _ _ z;cases J with
   |mk nm bs y x w A sn sub ab col H=>
    simp only at r v g u
    have f:sl=#[k0,k1,k2,k3,some (.builtin "ValueError.__new__"),k5]:=by
     cases sl with
     |mk l=>simp only at p;rw[p]
    rw[r,v,f]at s;exact⟨b,x,nm,w,bs,A,sn,sub,ab,col,dd,k0,k1,k2,k3,k5,_,s,.of_isNs (PySem.W.isNs_of_in k g),PySem.W.nsMap_none_of_in k g u,PySem.W.tail_of_in k B⟩
  next=>cases e
 next=>cases e
abbrev TF:=L2.St->Hp->Str->(Str->Hp->Prop)->Prop
def PF(X:Cx)(es:Yk)(t:TF):Prop:=
 ∀(pins:Yd) (s:Shared) (f:L2.St) (H:Hp) (b:Str) (Q:Str->Hp->Prop),Inv X pins f H s->t f H b Q->
  wpAny (model X.prog X.w) X.A (joinParts b<|evalEach es X.env) (λu h=>∃x g,Inv X pins f g h/\RelV (.str x) u/\Q x g) X.xe s
section
variable {X:Cx}{e e1 e2:Expr}{es:Yk}{t:TF}{tv:TE}{pos:Pos}
noncomputable def DF:TF:=λ_ H b Q=>b.length<=sizeLine/\Q b H
noncomputable def A4(x:Str)(t:TF):TF:=λf H b Q=>(b++x).length<=sizeLine/\t f H (b++x) Q
noncomputable def AR(tv:TE)(t:TF):TF:=λf H b Q=>tv f H λv g=>(∃i:Int,v=.int i/\i.natAbs.log2<1920/\(b++(Str.ofString<|toString i)).length<=sizeLine/\t f g (b++Str.ofString (toString i)) Q)\/
 ∃x:Str,v=.str x/\x.length<=sizeLine/\(b++x).length<=sizeLine/\t f g (b++x) Q
def KM:PF X [] DF:=λpins s f H b Q I h=>joinParts_nilE (joinParts_nil ⟨b,H,I.tok _,⟨_,rfl⟩,h.2⟩ h.1)
def XU(h:PF X es t):PF X (.Constant (.str x) j pos::es) (A4 x t):=λpins s b H f Q I q=>
 joinParts_consE (joinParts_cons<|Calls.Constant_str ⟨q.1,h pins _ b H _ Q (I.tok _) q.2⟩)
def KA(z:PE X e tv)(h:PF X es t):PF X (.FormattedValue e (-1) none pos::es) (AR tv t):=λpins s b H y Q I q=>by
 refine joinParts_consE (joinParts_cons<|FormattedValue_plain<|thn (z pins s b H _ I q) ?_);rintro u C ⟨v,n,l,r,w⟩;rcases w with⟨i,rfl,A,g,f⟩|⟨x,rfl,hx,g,f⟩
 ·obtain⟨p,rfl⟩:=r;exact formatField_int_small A ⟨g,h pins _ b n _ Q (l.tok _) f⟩
 ·obtain⟨p,rfl⟩:=r;exact formatField_str (λB o=>⟨g,h pins _ b n _ Q (l.tok _) f⟩) hx
noncomputable def tF(t:TF):TE:=λb H Q=>t b H Str.empty λx f=>Q (.str x) f
def KW(h:PF X (e1::e2::es) t):PE X (.JoinedStr (e1::e2::es) pos) (tF t):=λpins s b H Q I q=>
 JoinedStr_many (thn (h pins s b H _ _ I q) λu n ⟨x,l,g,r,f⟩=>⟨.str x,l,g,r,f⟩)
end
def BL(X:Cx)(E:XK):Prop:=∀(pins:Yd) (f:L2.St) (H:Hp) (s:Shared) (C a:Addr) (b:Heap) (args:Yi),Inv X pins f H s->Heap.MadeExcOf s.heap b a (.ref C) args->E (.ref C) none H->X.xe (.ref a) {s with heap:=b}
noncomputable def Ek(C:Addr)(E:XK)(t:TA):TS:=λ_ b H=>t b H λf g=>f.length<=sizeLine/\E (.ref C) none g
section
variable {X:Cx}{x:Str}{C:Addr}{E:XK}{e:Expr}{es:Yk}{t:TA}{p cpos pos:Pos}
def HA(c:TY X.K C)(J:X.mg x=some (.ref C))(T:BL X E)(M:X.calm=true)(Q:PA X (e::es) t)(L:autoParam (Gl X x) au_0)(o:autoParam ((x==("__debug__" : Str))=false) au_1)(u:autoParam (starEach (e::es) X.env=(false,eval e X.env)::starEach es X.env) au_0)(g:autoParam ((backTo cpos<|starEach es X.env).any (·.1)=false) au_0):PS X (.Raise (some<|.Call (.Name x p) (e::es) [] cpos) none pos) (Ek C E t):=by
 intro pins s r H D I h;obtain⟨bm,N,nm,q,bs,hdct,sn,sub,ab,col,dd,k0,k1,k2,k3,k5,mN,Y,U,l,v⟩:=c.obj I.ok.mod.kin
 have b:(backTo cpos<|starEach (e::es) X.env).any (·.1)=false:=by
  rw[u];show(false || (backTo cpos<|starEach es X.env).any (·.1))=false;rw[g];rfl
 refine wpAny_Raise_call_subU (nm:=nm) (q:=q) (N:=N) (bs:=bs) (hdct:=hdct) (sn:=sn) (sub:=sub) (ab:=ab) (col:=col) (dd:=dd) (k0:=k0) (k1:=k1) (k2:=k2) (k3:=k3) (k5:=k5)
  PySem.F.excBase_ValueError (by decide +kernel) PySem.F.excBase_ValueError (v.hasType<|by decide +kernel) (I.ok.hd M) b l (K0 I L J ⟨rfl,?_⟩ o)
 have w:=Q cpos pins s r H _ I h;rw[u]at w ⊢;refine Calls.evalArgs_plain (thn w ?_);rintro y z ⟨vs,H2,f,A,G,B⟩;refine⟨rfl,by rw[←A.length];exact G,f.bk _ _ Y,U.keeps f.bk,v.keeps f.bk,λh' a n=>?_⟩;exact T pins r H2 z C a h' y f n B
end
section
variable {P:Program}{w:World}{K:Ya}{mg:Ye}{base:Heap}{N ps:Yj}{qual x:Str}{scope:Scope}{f:Addr}{cd:Value}{A:Around}{outer:List Env}{s:Shared}{H:Hp}{E:XK}
def XH:BL (Uy (CXe P w) P w K mg base N qual scope f cd A outer s H E) E:=by
 intro pins l h o C a p args I m q;obtain⟨t,b,_,_⟩:=m.there;exact WB (Za0 I rfl rfl rfl m.keeps m.new b rfl rfl rfl rfl) (λ_ n ⟨g,y⟩=>⟨a,g,C,none,h,rfl,y,q⟩) λ_ _ z=>z
def UV:Xo (CXe P w) (Uy (CXe P w) P w K mg base N qual scope f cd A outer s H E) E:=by
 rintro pins l r p e o I ⟨a,T,C,b,h,rfl,y,q⟩;exact WB (LM I rfl rfl rfl y) (λ_ n ⟨g,z⟩=>⟨a,g,C,b,h,rfl,z,q⟩) λ_ _ z=>z
def Sm:PassesOwn (model P w) (Uy (CXe P w) P w K mg base N qual scope f cd A outer s H E).A (Uy (CXe P w) P w K mg base N qual scope f cd A outer s H E).env (Uy (CXe P w) P w K mg base N qual scope f cd A outer s H E).xe:=PassesOwn.leaving
def Def.okX {st k sp} (D:Own.Def K mg x st ps) (S:Uh N ps (Ud st)) (len:∀vs H Q E,sp vs H Q E->vs.length=ps.length)
  (g:∀f b A outer s H vs Q E,Ui k (A.deeper<|envOfC x (Ud st) s.heap.objs.size f b)->sp vs H Q E->
   ∃t,PSs (Uy (CXe P w) P w K mg base N x (Ud st) f b A outer s H E) (Uv st) t/\t {nx:=λ_ H'=>Q .non H',rt:=Q} (start N vs) H):Own.Callee P w K mg base (CXe P w) (k+1) x ps sp:=by
 obtain⟨f,z,F,q,r⟩:=D.ex;obtain⟨oc,y,kV,u,v,C,b,B,o,rfl,n,l⟩:=F.ex;exact⟨f,_,Bb n l S len λA outer s H vs Q E p h=>g f b A outer s H vs Q E p h,q,F.kp,⟨_,n,rfl⟩,r⟩
end
end ExcR
namespace ExcR
open L2
open Sem (wp)
structure UI (K:Ya) (C:Addr):Prop where
 c:TY K C
 ga:PySem.W.findIn K (.ref C) "__getattribute__"=some (some<|.builtin "BaseException.__getattribute__")
 gt:PySem.W.findIn K (.ref C) "__getattr__"=some none
 cl:PySem.W.findIn K (.ref C) "__class__"=some (some<|.builtin "object.__class__")
 is:(PySem.W.clsIn K C).isSome=true
end ExcR
namespace ExcR
open L2
noncomputable def X7(a C:Addr)(f:Yn):HO:=.ext λh=>∃o,h.get? a=some o/\(o.cls,o.dict)=(.ref C,f)/\∃b,o.data=.fields b
noncomputable abbrev Zcn(a C:Addr):HO:=X7 a C none
def Zcv{h a T C f p}(x:Trc h a T (.ref C,f) p):ObjOk P w H h a (X7 a C f):=by
 obtain⟨_,⟨o,g,b,r,q,_⟩,_⟩:=x;exact⟨⟨o,b,r,g,q⟩,⟨o,b⟩,λu s ⟨o1,n,l⟩ k=>⟨o1,k o1 n,l⟩⟩
def Na{H H'}{h v s}(u:Un fs [] H H' h v)(k:UX fs ex v s)(hx:∀b∈ex,h.get? b=none):Un fs [] H H' h s:=by
 have f:∀b o,h.get? b=some o->b∉ex:=λb o q z=>by rw[hx b z]at q;cases q
 refine⟨λb o q n r g=>k.keep b o (u.keep b o q n r g) r (f b o q),λb o q n x g=>?_,u.free,λb o q g=>?_,u.tups,u.frzs,u.tbls⟩
 ·obtain⟨sl,p⟩:=u.slot b o q n x g;obtain⟨l,w⟩:=k.slot b _ p (f b o q)
  grind
 ·obtain⟨o1,p⟩:=u.there b o q g;obtain⟨l,w⟩:=k.slot b _ p (f b o q)
  grind
noncomputable def XC(X:Cx)(a:Addr):Cx:={X with A:=X.A.mark (some<|.ref a),calm:=false,xe:=λ_ _=>False}
section
variable {X:Cx}{pins pins1:Yd}{σ:L2.St}{H H':Hp}{s s':Shared}{a T C:Addr}{D:Ends}{h0:ExceptHandler}
def Rh(o:X.Ok):(XC X a).Ok:=⟨o.mod,o.kind,o.glob,o.blt,o.above,o.inj,o.has,o.cab,(λz=>nomatch z),o.frames,o.stk,o.exf,o.bs,o.bsz,o.noex,o.exfs,o.funs,o.frf⟩
def T9(I:Inv X pins σ H s):Inv (XC X a) pins σ H s:=⟨Rh I.ok,I.os,I.bare,I.base,I.loc,I.cell,I.free,I.freeC,I.pin,I.hok,I.len⟩
def N7(o:X.Ok)(I:Inv (XC X a) pins σ H s):Inv X pins σ H s:=⟨o,I.os,I.bare,I.base,I.loc,I.cell,I.free,I.freeC,I.pin,I.hok,I.len⟩
def Zb3{h'}{tk}(I:Inv X pins σ H s)(hN:X.N.Nodup)(hi:X.N[i]?=some n)(hk:X.env.scope.names.lookup n=some .local)(hm:∀(i:Nat) x v,X.N[i]?=some x->σ[i]?=some (some v)->Vis X.env.scope x->∃u,RelV v u/\Look X.env s.heap m x u)(hn:s.heap.Ns X.env.locals m)(l:h'.Ns X.env.locals (λx=>if x=n then v else m x))(f:Heap.SameBut X.env.locals s.heap h'):Inv X pins (σ.set i none) H {s with heap:=h',toks:=tk}:=by
 have cne:=I.cne;have h:∀{b o},X.s₀.heap.get? b=some o->b≠X.env.locals:=λe=>Wu (Wv (Wi e) I.ok.above);refine⟨I.ok,I.os,I.bare,⟨λb o e n r hx=>(f.2 b<|h e).trans (I.base.keep b o e n r hx),λb o e n r hx=>?_,I.base.free,λb o e hx=>?_,I.base.tups,I.base.frzs,I.base.tbls⟩,⟨_,l,λj y J g E e3=>?_⟩,λy c e=>?_,I.free,I.freeC,λp hp=>?_,λb Q e=>?_,by simpa using I.len⟩
 ·obtain⟨sl,g⟩:=I.base.slot b o e n r hx;exact⟨sl,(f.2 b<|h e).trans g⟩
 ·obtain⟨U,g⟩:=I.base.there b o e hx;exact⟨U,(f.2 b<|h e).trans g⟩
 ·by_cases A:j=i
  ·grind
  ·rw[Vk (Ne.symm A)]at E;obtain⟨L,M,q⟩:=hm j y J g E e3;refine⟨L,M,?_⟩;rcases q with⟨k,e⟩|⟨k,c,e,z⟩
   ·have hy:y≠n:=λz=>A (Sh hN g (z▸hi));exact .inl ⟨k,by simp[hy,e]⟩
   ·exact .inr ⟨k,c,e,z.sameBut f (cne y c e)⟩
 ·obtain⟨G,z⟩:=I.cell y c e;exact⟨G,z.sameBut f (cne y c e)⟩
 ·obtain⟨e,n,w,Y,d⟩:=I.pin p hp;exact⟨(f.2 p.1 w).trans e,n,w,Y,d⟩
 ·refine(I.hok b Q e).stay (λc u hc q=>(f.2 c ?_).trans q) (λ_ q=>q) λ_ _ q=>q;rintro rfl;have B:=I.free;rcases hc with z|z
  ·rw[←z,B]at e;cases e
  ·rw[B]at z;cases z
end
noncomputable def Ea(i:Nat)(D:Ends):Ends:={nx:=λb H=>D.nx (b.set i none) H,rt:=D.rt,bk:=λb H=>D.bk (b.set i none) H,ct:=λb H=>D.ct (b.set i none) H}
noncomputable def hx(K:Ya)(h:Addr)(i:Nat)(f:TS)(D:Ends):L2.St->XK:=λb c g H=>∃C,c=.ref C/\PySem.W.exmOne K (.ref C) (.ref h)=some true/\
 ∀a,H a=none->f (Ea i D) (b.set i<|some<|.ref a) (upd H a<|X7 a C g)
def Dg(CX:CXT)(X:Cx)(E:L2.St->XK):Prop:=∀(pins:Yd) (b:L2.St) (H:Hp) (s:Shared) (e:Value) (f:Shared),Inv X pins b H s->CX X.stack H s (E b) e f->X.xe e f
noncomputable def FB(sp:Sp)(E:L2.St->XK)(t:TA):TE:=λb H Q=>t b H λf g=>sp (f++[]) g Q (E b)
section
variable {X:Cx}{CX:CXT}{k:Nat}{ps:Yj}{sp:Sp}{E:L2.St->XK}{x:Str}{p pos:Pos}{e:Expr}{es:Yk}{t:TA}
def Lp(C:Own.Callee X.prog X.w X.K X.mg X.base CX k x ps sp)(G:Ui k X.A)(J:Dg CX X E)(ha:PA X (e::es) t)(T:autoParam (Gl X x) au_0)(v:autoParam ((x==("__debug__" : Str))=false) au_1)(U:autoParam (starEach (e::es) X.env=(false,eval e X.env)::starEach es X.env) au_0)(o:autoParam ((backTo pos<|starEach es X.env).any (·.1)=false) au_0) :
  PE X (.Call (.Name x p) (e::es) [] pos) (FB sp E t):=by
 obtain⟨f,fd,F,L,N,_,Y⟩:=C.ex;intro pins s l H Q I h;refine Q1 (K0 I T L ?_ v);refine QM I.ok.mod.kin N (thn (ha pos pins s l H _ I h) λg n ⟨z,y,b,r,q⟩=>⟨b.kIn,?_⟩) U o;have M:(g++[]).length=ps.length:=by rw[W2,←r.length,←F.len _ _ _ _ q,W2]
 refine wpAny_call (Qw (F.run X.A X.stack n y ⟨g,[]⟩ (g++[]) (z++[]) Q (E l) G b.env0 (Y n g b.kIn M) (by grind) q) λr B hq=>?_);cases r with
 |error e=>exact J pins l y n e B b hq
 |ok fl=>
  cases fl with
  |ret u=>exact b.after hq
  |next=>trivial
  |_=>exact False.elim hq
end
noncomputable def Ug(b:Ye)(x:Str):Addr:=match b x with
 |some (.ref C)=>C
 |_=>0
def NU(h:b x=some (.ref C)):Ug b x=C:=by unfold Ug;rw[h]
def Xy{v pos}(h:∃u,X.mg x=some u/\RelV v u)(b:autoParam (Gl X x) au_0)(f:autoParam ((x==("__debug__" : Str))=false) au_1):PE X (.Name x pos) (tC v):=by
 obtain⟨u,l,g⟩:=h;exact Fq b l g f
end ExcR
namespace Own
open L2 M
section
variable {X:Cx}{pins:Yd}{σ:L2.St}{H:Hp}{s:Shared}
def Ai{p:Int×Int}{its}(r:Vals [V.int p.1,V.int p.2] its):∃f b,its=[.int p.1 f,.int p.2 b]:=by
 cases r with
 |cons n g=>
  cases g with
  |cons l h=>
   cases h
   obtain⟨f,rfl⟩:=n;obtain⟨b,rfl⟩:=l
   grind
def Za2{x y p q u v}(I:Inv X pins σ H s)(U:A.units<cLine)(L:RelV x u)(J:RelV y v)(Y:Xl H x p)(hq:Xl H y q):SeqAt.EqAt A s u v (decide (p=q)):=by
 obtain⟨a,rfl,C⟩:=Y;obtain⟨b,rfl,l⟩:=hq;obtain rfl:=L;obtain rfl:=J;by_cases n:a=b
 ·subst n;rw[C]at l
  have e:p=q:=by
   injection l with l;injection l with l;injection l with g f;injection f with f _;exact Prod.ext (V.int.inj g) (V.int.inj f)
  rw[Wh e];exact SeqAt.EqAt.same _
 ·obtain⟨_,T,N,G⟩:=(I.hok a _ C);obtain⟨_,Q,M,E⟩:=(I.hok b _ l);obtain⟨B,w,rfl⟩:=Ai N;obtain⟨r,o,rfl⟩:=Ai M
  have h:=SeqAt.RcAt.tuples (e:=λj=>if j=0 then p.1==q.1 else p.2==q.2) G E U (λj g f=>by
   have hj:j=0\/j=1:=by
    have h1':j<2:=g;lia
   rcases hj with rfl|rfl
   ·exact SeqAt.EqAt.int_int _ _ _ _
   ·exact SeqAt.EqAt.int_int _ _ _ _)
  have e:((List.range (min ([Value.int p.1 B,Value.int p.2 w].toArray).size ([Value.int q.1 r,Value.int q.2 o].toArray).size)).all (λj=>if j=0 then p.1==q.1 else p.2==q.2)&&([Value.int p.1 B,Value.int p.2 w].toArray).size==([Value.int q.1 r,Value.int q.2 o].toArray).size)=decide (p=q):=by
   show((List.range 2).all (λj=>if j=0 then p.1==q.1 else p.2==q.2)&&true)=decide (p=q);rw[Bool.and_true];have e2:(List.range 2).all (λj=>if j=0 then p.1==q.1 else p.2==q.2)=((p.1==q.1)&&(p.2==q.2)):=by simp[List.range,List.range.loop]
   rw[e2];by_cases g:p.1=q.1
   ·by_cases f:p.2=q.2
    ·rw[Wh (Prod.ext g f)];simp[g,f]
    ·rw[Ws (λz=>f (by rw[z]))];simp[f]
   ·rw[Ws (λz=>g (by rw[z]))];simp[g]
  rw[e]at h;exact SeqAt.EqAt.of_refs n h
noncomputable def eP(H:Hp)(q:Int×Int)(u:Value):Bool:=match u with
 | .ref a=>(match H a with
  |some (.tup [.int i,.int j])=>decide ((i,j)=q)
  |_=>false)
 |_=>false
def Av{p q}(h:Xl H v p)(r:RelV v u):eP H q u=decide (p=q):=by
 obtain⟨a,rfl,b⟩:=h;obtain rfl:=r;unfold eP;simp_all
theorem Fh:∀{vs us}{ps:Yb},Vals vs us->LV Xl H vs ps->us.any (eP H q)=decide (q∈ps)
 |_,_,[],.nil,_=>rfl
 |_,_,_::_,.nil,h|v::vs,u::us,[],.cons _ _,h=>absurd h.1 (by simp)
 |v::vs,u::us,p::ps,.cons r t,h=>by
  obtain⟨g,e,b⟩:=h.2 0 p rfl;cases e
  have f:LV Xl H vs ps:=⟨by simpa using h.1,λi x e=>h.2 (i+1) x e⟩;rw[QG,Av b r,Fh t f];by_cases l:p=q
  ·grind
  ·grind
noncomputable def Tf(neg:Bool):R2:=λx y H Q=>∃(l:Addr) (b:Yb) (q:Int×Int),y=.ref l/\Xl H x q/\LAt Xl H l b/\Q (.bl (if neg then !decide (q∈b)else decide (q∈b))) H
theorem N6{x v q}(I:Inv X pins σ H s)(g:A.units<cLine)(f:RelV x v)(hx:Xl H x q):∀{vs us}{ps:Yb},Vals vs us->LV Xl H vs ps->∀u∈us,SeqAt.EqAt A s u v (eP H q u)
 |_,_,_,.nil,_,u,b=>by cases b
 |w::vs,u::us,[],.cons _ _,h,_,_=>absurd h.1 (by simp)
 |w::vs,u::us,p::ps,.cons r t,h,l,b=>by
  obtain⟨o,e,hw⟩:=h.2 0 p rfl;cases e
  have n:LV Xl H vs ps:=⟨by simpa using h.1,λi x e=>h.2 (i+1) x e⟩;rcases Wo.mp b with rfl|b
  ·rw[Av hw r];exact Za2 I g r f hw hx
  ·exact N6 I g f hx t n l b
def Ij(p:X.A.in1.units<cLine):OpR X (compareOp .In) (Tf false):=by
 intro pins s σ H x y v u Q I n g h;obtain⟨l,C,q,rfl,hx,⟨B,z,f⟩,k⟩:=h;cases g
 obtain⟨b,r,o,E⟩:=I.list (SqL.of z);refine SeqAt.in_listAt (eP H q) o.isList (λw hw=>N6 I p n hx r f w (by grind)) ⟨.bl _,H,I,rfl,?_⟩;rwa[show b.toArray.any (eP H q)=b.any (eP H q) by simp,Fh r f]
def Zbc(p:X.A.in1.units<cLine):OpR X (compareOp .NotIn) (Tf true):=by
 intro pins s σ H x y v u Q I n g h;obtain⟨l,C,q,rfl,hx,⟨B,z,f⟩,k⟩:=h;cases g
 obtain⟨b,r,o,E⟩:=I.list (SqL.of z);refine SeqAt.notIn_listAt (eP H q) o.isList (λw hw=>N6 I p n hx r f w (by grind)) ⟨.bl _,H,I,rfl,?_⟩;rwa[show b.toArray.any (eP H q)=b.any (eP H q) by simp,Fh r f]
end
end Own
namespace M
open L2 Own
section
variable {α:Type}{R:Hp->V->α->Prop}{H:Hp}
noncomputable def pick(c:α->Bool)(d:V×α):Option V:=if c d.2=true then some d.1 else none
end
end M
namespace Own
open L2
section
variable {X:Cx}{K:Ya}
theorem Gb:∀{bs}{us:Yi},Vals (bs.map V.bl) us->LSm.BoolsAre us bs
 |[],_,.nil=>.nil
 |b::r,_,.cons h t=>by
  cases h
  exact .cons b (Gb t)
noncomputable def F1(K:Ya)(neg:Bool):R2:=λx y H Q=>∃(p q:Addr) (xs:List V),x=.ref p/\y=.ref q/\SqL K H p xs/\SqL K H q []/\Q (.bl (if neg then !xs.isEmpty else xs.isEmpty)) H
def Df(g:X.A.units<cLine)(C:autoParam (X.K=K) au_0):OpR X (compareOp .Eq) (F1 K false):=by
 subst C;intro pins s G H x y v u Q I o n h;obtain⟨p,q,xs,rfl,rfl,B,hq,k⟩:=h;obtain rfl:=o;obtain rfl:=n;obtain⟨J,z,b,_⟩:=I.list B;obtain⟨l,w,p2,_⟩:=I.list hq;have M:=z.length;have L:0=l.length:=w.length;have f:=k;by_cases e:xs.length=0
 ·refine SeqAt.eq_listAt (e:=λ_=>true) b.isList p2.isList (by simp;lia) g (λj N E=>by simp at E;lia) ⟨.bl xs.isEmpty,H,I,?_,f⟩;show _=Value.bool xs.isEmpty
  grind
 ·refine SeqAt.eq_list_lengthsAt b.isList p2.isList (by simp;lia) g ⟨.bl xs.isEmpty,H,I,?_,f⟩;cases xs with
  |nil=>exact absurd rfl e
  |cons a r=>rfl
end
end Own
namespace M
def sl:Yc->Yc->Prop
 |x::xs,y::b=>x<y\/(x=y/\sl xs b)
 |_,_=>False
def X2(b:Yb):Prop:=b.length<=20/\b.Nodup/\∀q∈b,(1<=q.1/\q.1<=10/\1<=q.2/\q.2<=10)/\q.1≠q.2
end M
namespace Pu
open L2 Own
inductive D where
 |int (i:Int)|bl (b:Bool)|non|str (x:Str)|ty (n:String)|tup (ds:List D)|lst (ds:List D)|scr (ns:Yc)|dK (kvs:List (Key×V))|dT (kvs:List (List Key×V))|loc (a:Addr) (d:D)|err (C:Addr)|ref (a:Addr)|ins (C:Addr) (xs:Yj) (ds:List D)|dF (kvs:List (List Key×V))|erM (C:Addr) (r:Yc)|fL (ns:Yc)
mutual
inductive Rp (K:Ya) (H:Hp):D->V->Prop
 |int (i:Int):Rp K H (.int i) (.int i)
 |bl (b:Bool):Rp K H (.bl b) (.bl b)
 |non:Rp K H .non .non
 |str (x:Str):Rp K H (.str x) (.str x)
 |ty (n:String):Rp K H (.ty n) (.ty n)
 |tup {ds:List D} {vs:List V} {a:Addr}:H a=some (.tup vs)->Rps K H ds vs->Rp K H (.tup ds) (.ref a)
 |lst {ds:List D} {vs:List V} {a:Addr}:H a=some (.lst vs)->Rps K H ds vs->Rp K H (.lst ds) (.ref a)
 |scr {ns:Yc} {a:Addr}:SqL K H a (ns.map V.int)->Rp K H (.scr ns) (.ref a)
 |dK {kvs:List (Key×V)} {a:Addr}:H a=some (.dK kvs)->Rp K H (.dK kvs) (.ref a)
 |dT {kvs:List (List Key×V)} {a:Addr}:H a=some (.dT kvs)->Rp K H (.dT kvs) (.ref a)
 |dF {kvs:List (List Key×V)} {o:Obj} {a:Addr}:H a=some (.frz o<|.dT kvs)->Rp K H (.dF kvs) (.ref a)
 |loc {d:D} {a:Addr}:Rp K H d (.ref a)->Rp K H (.loc a d) (.ref a)
 |err {C a:Addr}:H a=some (ExcR.Zcn a C)->Rp K H (.err C) (.ref a)
 |ref (a:Addr):Rp K H (.ref a) (.ref a)
 |erM {C a dx l:Addr} {o:Obj} {r:Yc}:H a=some (ExcR.X7 a C<|some dx)->H dx=some (.xd [("members",.ref l)])->H l=some (.frz o<|.lst<|r.map V.int)->Rp K H (.erM C r) (.ref a)
 |fL {a:Addr} {o:Obj} {ns:Yc}:H a=some (.frz o<|.lst<|ns.map V.int)->Rp K H (.fL ns) (.ref a)
 |ins {C a dx:Addr} {xs:Yj} {ds:List D} {vs:List V}:H a=some (.ins C dx<|xs.zip vs)->xs.length=vs.length->Rps K H ds vs->Rp K H (.ins C xs ds) (.ref a)
inductive Rps (K:Ya) (H:Hp):List D->List V->Prop
 |nil:Rps K H [] []
 |cons {d:D} {v:V} {ds:List D} {vs:List V}:Rp K H d v->Rps K H ds vs->Rps K H (d::ds) (v::vs)
end
section
variable {K:Ya}{H H':Hp}
def Rp.mono (S:Same H H') {d:D}{v:V}:Rp K H d v->Rp K H' d v:=
 Rp.rec (motive_1:=λd v _=>Rp K H' d v) (motive_2:=λg f _=>Rps K H' g f) .int .bl .non .str .ty (λh _ r=>.tup (S _ _ h) r) (λh _ r=>.lst (S _ _ h) r) (λh=>.scr (S.seq h)) (λh=>.dK (S _ _ h)) (λh=>.dT (S _ _ h)) (λh=>.dF (S _ _ h)) (λ_ h=>.loc h) (λh=>.err (S _ _ h)) .ref (λa b c=>.erM (S _ _ a) (S _ _ b) (S _ _ c)) (λh=>.fL (S _ _ h)) (λh e _ r=>.ins (S _ _ h) e r) .nil λ_ _=>.cons
def Rps.mono (S:Same H H') {ds:List D}:∀{vs:List V},Rps K H ds vs->Rps K H' ds vs:=by
 induction ds with
 |nil=>intro _ h;cases h;exact .nil
 |cons _ _ f=>intro _ h;cases h with|cons a b=>exact .cons (Rp.mono S a) (f b)
def Rps.len:∀{ds}{vs:List V},Rps K H ds vs->vs.length=ds.length:=by
 intro ds
 induction ds with
 |nil=>
  intro _ h;cases h
  rfl
 |cons _ _ b=>
  intro _ h;cases h with
  |cons h r=>
   exact WA (· + 1) (b r)
def Rps.get:∀{ds vs}{i:Nat}{d:D},Rps K H ds vs->ds[i]?=some d->∃v,vs[i]?=some v/\Rp K H d v:=by
 intro ds
 induction ds with
 |nil=>
  intro _ i _ h e;simp at e
 |cons _ _ b=>
  intro _ i d h e;cases h with
  |cons h r=>
   cases i with
   |zero=>
    simp at e;subst e;exact⟨_,rfl,h⟩
   |succ i=>
    obtain⟨v,g,f⟩:=b r (by simpa using e);exact⟨v,by simpa using g,f⟩
def Rps.append:∀{ds es}{vs us:List V},Rps K H ds vs->Rps K H es us->Rps K H (ds++es) (vs++us):=by
 intro ds
 induction ds with
 |nil=>
  intro _ _ _ h s;cases h
  exact s
 |cons _ _ b=>
  intro _ _ _ h s;cases h with
  |cons h r=>
   exact .cons h (b r s)
theorem Rps.drop:∀{ds vs} n,Rps K H ds vs->Rps K H (ds.drop n) (vs.drop n)
 |_,_,0,r=>r
 |_,_,_+1,.nil=>.nil
 |_,_,n+1,.cons _ r=>Rps.drop n r
theorem Rps.take:∀{ds vs} n,Rps K H ds vs->Rps K H (ds.take n) (vs.take n)
 |_,_,0,_|_,_,_+1,.nil=>.nil
 |_,_,n+1,.cons h r=>.cons h (Rps.take n r)
end
mutual
noncomputable def imm:D->Bool
 | .tup b=>UU b
 | .lst _=>false
 | .scr _=>false
 | .dK _=>false
 | .dT _=>false
 | .loc _ _=>false
 | .err _=>false
 | .erM _ _=>false
 | .ins _ _ _=>false
 |_=>true
noncomputable def UU:List D->Bool
 |[]=>true
 |d::r=>imm d&&UU r
end
open Classical in
noncomputable def off(Z:Addr->Prop)(H:Hp):Hp:=λb=>if Z b then none else H b
section
variable {K:Ya}{H H':Hp}{Z Z':Addr->Prop}
def XD(h:off Z H b=some o):H b=some o/\¬Z b:=by
 unfold off at h;by_cases z:Z b
 ·grind
 ·grind
def UA(h:H b=some o)(z:¬Z b):off Z H b=some o:=by
 unfold off
 grind
def Um(S:Same H H')(g:∀b o,H b=some o->¬Z b->¬Z' b):Same (off Z H) (off Z' H'):=λb o h=>by
 obtain⟨f,l⟩:=XD h;exact UA (S b o f) (g b o f l)
def off_sub:Same (off Z H) H:=λ_ _ h=>(XD h).1
def Rp.off (q:∀b,Z b->Mut (H b)) {d:D}{v:V}:Rp K H d v->imm d=true->Rp K (off Z H) d v:=by
 have g:∀{a o},H a=some o->¬Mut (some o)->Pu.off Z H a=some o:=λh n=>UA h λz=>n (h▸q _ z);have f:∀{d} {P:Prop},imm d=false->imm d=true->P:=λh e=>by rw[h]at e;cases e
 exact Rp.rec (motive_1:=λd v _=>imm d=true->Rp K (Pu.off Z H) d v) (motive_2:=λl p _=>UU l=true->Rps K (Pu.off Z H) l p) (λi _=>.int i) (λb _=>.bl b) (λ_=>.non) (λx _=>.str x) (λn _=>.ty n) (λh _ r e=>.tup (g h id) (r<|by unfold imm at e;exact e)) (λ_ _ _=>f (by unfold imm;rfl)) (λ_=>f (by unfold imm;rfl)) (λ_=>f (by unfold imm;rfl)) (λ_=>f (by unfold imm;rfl)) (λh _=>.dF (g h id)) (λ_ _=>f (by unfold imm;rfl)) (λ_=>f (by unfold imm;rfl)) (λa _=>.ref a) (λ_ _ _=>f (by unfold imm;rfl)) (λh _=>.fL (g h id)) (λ_ _ _ _=>f (by unfold imm;rfl)) (λ_=>.nil) (λ_ _ a b e=>by
  unfold UU at e;rw[W1]at e;exact .cons (a e.1) (b e.2))
def Rps.off (g:∀b,Z b->Mut (H b)) {ds:List D}:∀{vs:List V},Rps K H ds vs->UU ds=true->Rps K (off Z H) ds vs:=by
 induction ds with
 |nil=>intro _ h _;cases h;exact .nil
 |cons _ _ f=>
  intro _ h e;unfold UU at e;rw[W1]at e;cases h with|cons a b=>exact .cons (Rp.off g a e.1) (f b e.2)
end
inductive O where
 |lst (ds:List D)|dK (kvs:List (Key×V))|dT (kvs:List (List Key×V))|ins (a C:Addr) (xs:Yj) (cs:List (Addr×List D))|lsA (a:Addr) (ds:List D)|nst (cs:List (Addr×List D))|nsl (a:Addr) (cs:List (Addr×List D))
instance:Coe (List D) O:=⟨O.lst⟩
noncomputable def O.d:O->D
 | .lst g=>.lst g | .dK b=>.dK b | .dT b=>.dT b | .ins _ C xs f=>.ins C xs (f.map λc=>.lst c.2) | .lsA _ g=>.lst g | .nst f=>.tup (f.map λc=>.lst c.2) | .nsl _ f=>.lst (f.map λc=>.lst c.2)
def O.adr (a:Addr):O->Addr->Prop
 | .lst _=>λb=>b=a
 | .dK _=>λb=>b=a
 | .dT _=>λb=>b=a
 | .ins x _ _ f=>λb=>b=x\/∃c∈f,b=c.1
 | .lsA x _=>λb=>b=x
 | .nst f=>λb=>∃c∈f,b=c.1
 | .nsl x f=>λb=>b=x\/∃c∈f,b=c.1
def OR(K:Ya)(F H:Hp)(a:Addr):O->Prop
 | .lst h=>∃b,H a=some (.lst b)/\Rps K F h b
 | .dK g=>H a=some (.dK g)
 | .dT g=>H a=some (.dT g)
 | .lsA x h=>a=x/\∃b,H a=some (.lst b)/\Rps K F h b
 | .ins x C xs f=>a=x/\xs.length=f.length/\(∃l,H a=some (.ins C l<|xs.zip (f.map λc=>V.ref c.1)))/\(∀c∈f,∃b,H c.1=some (.lst b)/\Rps K F c.2 b)/\(f.map (·.1)).Nodup
 | .nsl x f=>a=x/\H a=some (.lst (f.map λc=>V.ref c.1))/\(∀c∈f,∃b,H c.1=some (.lst b)/\Rps K F c.2 b)/\(x::f.map (·.1)).Nodup
 | .nst f=>F a=some (.tup (f.map λc=>V.ref c.1))/\(∀c∈f,∃b,H c.1=some (.lst b)/\Rps K F c.2 b)/\(f.map (·.1)).Nodup
def OR.mono {K F y H H'}{a o} (r:Same F y) (q:∀b,o.adr a b->∀x,H b=some x->H' b=some x) (h:OR K F H a o):OR K y H' a o:=by
 cases o with
 |lst A=>obtain⟨f,n,g⟩:=h;exact⟨f,q _ rfl _ n,Rps.mono r g⟩
 |lsA x A=>obtain⟨rfl,f,n,g⟩:=h;exact⟨rfl,f,q _ rfl _ n,Rps.mono r g⟩
 |nsl x w=>
  obtain⟨e,n,g,v⟩:=h;exact⟨e,q _ (.inl e) _ n,λc p=>let ⟨f,u,s⟩:=g c p;⟨f,q _ (.inr ⟨c,p,rfl⟩) _ u,Rps.mono r s⟩,v⟩
 |nst w=>
  obtain⟨n,g,v⟩:=h;exact⟨r _ _ n,λc p=>let ⟨f,u,s⟩:=g c p;⟨f,q _ ⟨c,p,rfl⟩ _ u,Rps.mono r s⟩,v⟩
 |ins x C xs w=>
  obtain⟨e,l,⟨z,n⟩,g,v⟩:=h;exact⟨e,l,⟨z,q _ (.inl e) _ n⟩,λc p=>let ⟨f,u,s⟩:=g c p;⟨f,q _ (.inr ⟨c,p,rfl⟩) _ u,Rps.mono r s⟩,v⟩
 |_=>exact q _ rfl _ h
theorem Kc{K F}:∀{b:List (Addr×List D)},(∀c∈b,∃vs,F c.1=some (.lst vs)/\Rps K F c.2 vs)->Rps K F (b.map λc=>.lst c.2) (b.map λc=>V.ref c.1)
 |[],_=>.nil
 |c::b,h=>let ⟨_,g,f⟩:=h c Wz;.cons (.lst g f) (Kc λn l=>h n (Wr _ l))
def OR.rpIn {K F w H a o} (r:Same F w) (n:∀b,o.adr a b->∀x,H b=some x->w b=some x) (h:OR K F H a o):Rp K w o.d (.ref a):=by
 cases o with
 |lst A=>obtain⟨q,g,f⟩:=h;exact .lst (n _ rfl _ g) (Rps.mono r f)
 |dK v=>exact .dK (n _ rfl _ h)
 |dT v=>exact .dT (n _ rfl _ h)
 |lsA x A=>obtain⟨rfl,q,g,f⟩:=h;exact .lst (n _ rfl _ g) (Rps.mono r f)
 |nsl x z=>
  obtain⟨e,g,f,y⟩:=h;exact .lst (n _ (.inl e) _ g) (Kc λc p=>let ⟨q,u,s⟩:=f c p;⟨q,n _ (.inr ⟨c,p,rfl⟩) _ u,Rps.mono r s⟩)
 |nst z=>
  obtain⟨g,f,y⟩:=h;exact .tup (r _ _ g) (Kc λc p=>let ⟨q,u,s⟩:=f c p;⟨q,n _ ⟨c,p,rfl⟩ _ u,Rps.mono r s⟩)
 |ins x C xs z=>
  obtain⟨e,l,⟨B,g⟩,f,y⟩:=h;exact .ins (n _ (.inl e) _ g) (by grind) (Kc λc p=>let ⟨q,u,s⟩:=f c p;⟨q,n _ (.inr ⟨c,p,rfl⟩) _ u,Rps.mono r s⟩)
def OR.rp {K F H a o} (b:Same F H) (h:OR K F H a o):Rp K H o.d (.ref a):=h.rpIn b λ_ _ _ e=>e
def OR.mut {K F H a o} (h:OR K F H a o):∀b,o.adr a b->Mut (H b):=by
 cases o with
 |lst w=>obtain⟨s,g,p⟩:=h;intro b e;rw[show b=a from e,g];trivial
 |dK n=>intro b e;rw[show b=a from e,show H a=some (.dK n)from h];trivial
 |dT n=>intro b e;rw[show b=a from e,show H a=some (.dT n)from h];trivial
 |lsA x w=>obtain⟨rfl,s,g,p⟩:=h;intro b e;rw[show b=a from e,g];trivial
 |nsl x v=>
  obtain⟨e,g,p,u⟩:=h;intro b f;rcases f with f|⟨c,r,f⟩
  ·rw[show b=a from f.trans e.symm,g];trivial
  ·obtain⟨s,q,_⟩:=p c r;rw[f,q];trivial
 |nst v=>
  obtain⟨g,p,u⟩:=h;rintro b ⟨c,r,f⟩;obtain⟨s,q,_⟩:=p c r;rw[f,q];trivial
 |ins x C xs v=>
  obtain⟨e,l,⟨y,g⟩,p,u⟩:=h;intro b f;rcases f with f|⟨c,r,f⟩
  ·rw[show b=a from f.trans e.symm,g];trivial
  ·obtain⟨s,q,_⟩:=p c r;rw[f,q];trivial
inductive S where
 |bor (d:D)|sh (d:D)|own (o:O)|view (o:O)|tmp (d:D)
abbrev Γ:=List (Option S)
noncomputable def D.strip:D->D
 | .loc _ d=>d|d=>d
def Rp.strip {K H d v} (h:Rp K H d v):Rp K H d.strip v:=by
 cases h with
 |loc h=>exact h
 |int i=>exact .int i
 |bl b=>exact .bl b
 |non=>exact .non
 |str x=>exact .str x
 |ty n=>exact .ty n
 |tup h r=>exact .tup h r
 |lst h r=>exact .lst h r
 |scr h=>exact .scr h
 |dK h=>exact .dK h
 |dT h=>exact .dT h
 |dF h=>exact .dF h
 |err h=>exact .err h
 |ref a=>exact .ref a
 |erM l g f=>exact .erM l g f
 |fL h=>exact .fL h
 |ins h e r=>exact .ins h e r
noncomputable def S.d:S->D
 | .bor d=>d.strip | .sh d=>d | .own o=>o.d | .view o=>o.d | .tmp d=>d
noncomputable def arg(d:D):S:=match imm d with|true=>.sh d|false=>.bor d
noncomputable def UJ(d:D):S:=match imm d with|true=>.sh d|false=>.tmp d
noncomputable def S.sub:S->D->S
 | .bor _,e=>arg e | .tmp _,e=>UJ e | .own (.nst _),e=>UJ e | .view (.nst _),e=>UJ e | .own (.nsl _ _),e=>UJ e | .view (.nsl _ _),e=>UJ e|_,e=>.sh e
noncomputable def S.shd:S->Option D
 | .sh d=>some d | .own o=>some o.d
 | .bor d=>match imm d with|true=>some d|false=>none
 | .tmp d=>match imm d with|true=>some d|false=>none
 | .view _=>none
noncomputable def S.slot:S->Option S
 | .view _=>none | .bor d=>some (.bor d) | .sh d=>some (.sh d) | .own b=>some (.own b)
 | .tmp d=>match imm d with|true=>some (.sh d)|false=>none
def RG(h:Γ)(g:L2.St)(b:Addr):Prop:=∃(i:Nat) (f:O) (a:Addr),h[i]?=some (some<|.own f)/\g[i]?=some (some<|.ref a)/\f.adr a b
def zof(B:Addr->Prop)(g:Γ)(f:L2.St):Addr->Prop:=λb=>B b\/RG g f b
def SV(K:Ya)(Z:Addr->Prop)(f H:Hp):S->V->Prop
 | .bor d,v=>Rp K f d v
 | .sh d,v=>Rp K (off Z H) d v
 | .own o,v=>∃a,v=.ref a/\(∀b,o.adr a b->f b=none)/\OR K (off Z H) H a o
 |_,_=>False
def TV(K:Ya)(Z:Addr->Prop)(f H H':Hp):S->V->Prop
 | .bor d,v=>Rp K f d v
 | .sh d,v=>Rp K (off Z H') d v
 | .own o,v=>∃a,v=.ref a/\(∀b,o.adr a b->H b=none)/\OR K (off (λb=>Z b\/o.adr a b) H') H' a o
 | .view o,v=>∃a,v=.ref a/\OR K (off Z H') H' a o
 | .tmp d,v=>Rp K H' d v
structure Ue (K:Ya) (H0:Hp) (B:Addr->Prop) (H:Hp) (σ:L2.St) (γ:Γ):Prop where
 same:Same H0 H
 len:σ.length=γ.length
 bm:∀b,B b->Mut (H b)
 own:∀(i j:Nat) (a a':Addr) (ds es:O) (b:Addr),γ[i]?=some (some<|.own ds)->γ[j]?=some (some<|.own es)->σ[i]?=some (some<|.ref a)->σ[j]?=some (some<|.ref a')->ds.adr a b->es.adr a' b->i=j
 slot:∀(i:Nat) (s:S),γ[i]?=some (some s)->∃v,σ[i]?=some (some v)/\SV K (zof B γ σ) H0 H s v
section
variable {K:Ya}{H0 H H1 H':Hp}{B Z Z':Addr->Prop}{σ:L2.St}{γ:Γ}
def Ke(S:Same H H'){b}(h:Mut (H b)):Mut (H' b):=by
 cases e:H b with
 |none=>rw[e]at h;exact h.elim
 |some o=>rw[S b o e,←e];exact h
def P8(h:Mut (H b)):∃o,H b=some o:=by
 cases e:H b with
 |none=>rw[e]at h;exact h.elim
 |some o=>grind
def Ue.grow (E:Ue K H0 B H σ γ) (S:Same H H'):Ue K H0 B H' σ γ where
 same:=E.same.trans S
 len:=E.len
 bm b h:=Ke S (E.bm b h)
 own:=E.own
 slot i s h:=by
  obtain⟨v,h1,h2⟩:=E.slot i s h;refine⟨v,h1,?_⟩;cases s with
  |bor d=>trivial
  |sh d=>exact Rp.mono (Um S λ_ _ _ z=>z) h2
  |own ds=>
   obtain⟨a,e1,e3,e4⟩:=h2;exact⟨a,e1,e3,e4.mono (Um S λ_ _ _ z=>z) λb _ x=>S b x⟩
  |_=>exact h2
def Ue.zm (E:Ue K H0 B H σ γ):∀b,zof B γ σ b->Mut (H b):=λb h=>by
 rcases h with h|⟨i,r,x,n,l,g⟩
 ·exact E.bm b h
 ·obtain⟨v,f,a,p,q,o⟩:=E.slot i _ n;rw[l]at f;cases f
  cases p
  exact o.mut b g
def TV.rp (b:Same H0 H') (h:TV K Z H0 H H' s v):Rp K H' s.d v:=by
 cases s with
 |bor d=>exact(Rp.mono b h).strip
 |sh d=>exact Rp.mono off_sub h
 |own f=>
  obtain⟨a,rfl,_,r⟩:=h;exact r.rp off_sub
 |view f=>
  obtain⟨a,rfl,r⟩:=h;exact r.rp off_sub
 |tmp d=>exact h
def TV.grow (f:Same H' H1) (h:TV K Z H0 H H' s v):TV K Z H0 H H1 s v:=by
 cases s with
 |bor d=>exact h
 |sh d=>exact Rp.mono (Um f λ_ _ _ z=>z) h
 |own l=>
  obtain⟨a,rfl,g,r⟩:=h;exact⟨a,rfl,g,r.mono (Um f λ_ _ _ z=>z) λb _ x=>f b x⟩
 |view l=>
  obtain⟨a,rfl,r⟩:=h;exact⟨a,rfl,r.mono (Um f λ_ _ _ z=>z) λb _ x=>f b x⟩
 |tmp d=>exact Rp.mono f h
def TV.weak (o:Same H H1) (f:∀b,Z b->Z' b) (h:TV K Z' H0 H1 H' s v):TV K Z H0 H H' s v:=by
 cases s with
 |sh d=>exact Rp.mono (Um (Same.refl _) λb _ _ z y=>z (f b y)) h
 |own n=>
  obtain⟨a,rfl,l,r⟩:=h;exact⟨a,rfl,λb g=>o.free (l b g),r.mono (Um (Same.refl _) λb _ _ z y=>z (y.imp (f b) id)) λ_ _ _ q=>q⟩
 |view n=>
  obtain⟨a,rfl,r⟩:=h;exact⟨a,rfl,r.mono (Um (Same.refl _) λb _ _ z y=>z (f b y)) λ_ _ _ q=>q⟩
 |_=>exact h
def TV.shd (o:Same H0 H') (l:∀b,Z b->Mut (H b)) (w:Same H H') (h:TV K Z H0 H H' s v) (e:s.shd=some d):Rp K (off Z H') d v:=by
 have f:=λb z=>Ke w (l b z);cases s with
 |bor g=>
  unfold S.shd at e;cases q:imm g with
  |false=>simp_all
  |true=>
   simp[q]at e;subst e;exact Rp.off f (Rp.mono o h) q
 |sh g=>cases e;exact h
 |own u=>
  cases e
  obtain⟨a,rfl,p,r⟩:=h;exact r.rpIn (Um (Same.refl _) λb _ _ z y=>z (.inl y)) λb n x e=>UA e λz=>by have:=l _ z;rw[p b n]at this;exact this
 |view u=>cases e
 |tmp g=>
  unfold S.shd at e;cases q:imm g with
  |false=>simp[q]at e
  |true=>
   simp[q]at e;subst e;exact Rp.off f h q
def Pf(f:∀b,Z b->Mut (H' b))(g:Same H0 H')(h:Rp K H0 d v):TV K Z H0 H H' (arg d) v:=by
 unfold arg;cases q:imm d with
 |true=>exact Rp.off f (Rp.mono g h) q
 |false=>exact h
def XI(f:∀b,Z b->Mut (H' b))(h:Rp K H' d v):TV K Z H0 H H' (UJ d) v:=by
 unfold UJ;cases q:imm d with
 |true=>exact Rp.off f h q
 |false=>exact h
def Rp.lst_inv (h:Rp K H (.lst ds) v):∃a vs,v=.ref a/\H a=some (.lst vs)/\Rps K H ds vs:=by
 cases h with
 |lst h r=>grind
def Rp.tup_inv (h:Rp K H (.tup ds) v):∃a vs,v=.ref a/\H a=some (.tup vs)/\Rps K H ds vs:=by
 cases h with
 |tup h r=>grind
def TV.part (C:Same H0 H') (M:∀b,Z b->Mut (H b)) (N:Same H H') (h:TV K Z H0 H H' s v) :
  (∀ds,s.d=.lst ds->∃a vs,v=.ref a/\H' a=some (.lst vs)/\vs.length=ds.length/\∀(i:Nat) d,ds[i]?=some d->∃u,vs[i]?=some u/\TV K Z H0 H H' (s.sub d) u)/\
  (∀ds,s.d=.tup ds->∃a vs,v=.ref a/\H' a=some (.tup vs)/\vs.length=ds.length/\∀(i:Nat) d,ds[i]?=some d->∃u,vs[i]?=some u/\TV K Z H0 H H' (s.sub d) u):=by
 have l:=λb z=>Ke N (M b z);cases s with
 |bor d=>
  have h:=Rp.strip h;refine⟨λds e=>?_,λds e=>?_⟩<;>rw[show d.strip=_ from e]at h
  ·obtain⟨a,vs,rfl,h,r⟩:=Rp.lst_inv h;exact⟨_,_,rfl,C _ _ h,r.len,λi d e=>let ⟨u,g,f⟩:=r.get e;⟨u,g,Pf l C f⟩⟩
  ·obtain⟨a,vs,rfl,h,r⟩:=Rp.tup_inv h;exact⟨_,_,rfl,C _ _ h,r.len,λi d e=>let ⟨u,g,f⟩:=r.get e;⟨u,g,Pf l C f⟩⟩
 |sh d=>
  refine⟨λds e=>?_,λds e=>?_⟩<;>(have J:=e;subst J)
  ·obtain⟨a,vs,rfl,h,r⟩:=Rp.lst_inv h;exact⟨_,_,rfl,off_sub _ _ h,r.len,λi d e=>r.get e⟩
  ·obtain⟨a,vs,rfl,h,r⟩:=Rp.tup_inv h;exact⟨_,_,rfl,off_sub _ _ h,r.len,λi d e=>r.get e⟩
 |own q=>
  cases q with
  |lst q=>
   refine⟨λds e=>?_,λds e=>by cases e⟩;cases e
   obtain⟨a,rfl,G,vs,e,r⟩:=h;exact⟨a,vs,rfl,e,r.len,λi d e=>let ⟨u,g,f⟩:=r.get e;⟨u,g,Rp.mono (Um (Same.refl _) λb _ _ z y=>z (.inl y)) f⟩⟩
  |lsA x q=>
   refine⟨λds e=>?_,λds e=>by cases e⟩;cases e
   obtain⟨a,rfl,G,_,vs,e,r⟩:=h;exact⟨a,vs,rfl,e,r.len,λi d e=>let ⟨u,g,f⟩:=r.get e;⟨u,g,Rp.mono (Um (Same.refl _) λb _ _ z y=>z (.inl y)) f⟩⟩
  |nsl x L=>
   refine⟨λds e=>?_,λds e=>by cases e⟩;cases e
   obtain⟨a,rfl,G,_,A,w,E⟩:=h;have r:=Kc λc p=>let ⟨vs,o,n⟩:=w c p;⟨vs,o,Rps.mono off_sub n⟩;exact⟨a,_,rfl,A,r.len,λi d e=>let ⟨u,g,f⟩:=r.get e;⟨u,g,XI l f⟩⟩
  |nst L=>
   refine⟨(λds e=>by cases e),λds e=>?_⟩;cases e
   obtain⟨a,rfl,G,A,w,E⟩:=h;have r:=Kc λc p=>let ⟨vs,o,n⟩:=w c p;⟨vs,o,Rps.mono off_sub n⟩;exact⟨a,_,rfl,off_sub _ _ A,r.len,λi d e=>let ⟨u,g,f⟩:=r.get e;⟨u,g,XI l f⟩⟩
  |_=>exact⟨(λds e=>by cases e),(λds e=>by cases e)⟩
 |view q=>
  cases q with
  |lst q=>
   refine⟨λds e=>?_,λds e=>by cases e⟩;cases e
   obtain⟨a,rfl,vs,e,r⟩:=h;exact⟨a,vs,rfl,e,r.len,λi d e=>r.get e⟩
  |lsA x q=>
   refine⟨λds e=>?_,λds e=>by cases e⟩;cases e
   obtain⟨a,rfl,_,vs,e,r⟩:=h;exact⟨a,vs,rfl,e,r.len,λi d e=>r.get e⟩
  |nsl x L=>
   refine⟨λds e=>?_,λds e=>by cases e⟩;cases e
   obtain⟨a,rfl,_,A,w,E⟩:=h;have r:=Kc λc p=>let ⟨vs,o,n⟩:=w c p;⟨vs,o,Rps.mono off_sub n⟩;exact⟨a,_,rfl,A,r.len,λi d e=>let ⟨u,g,f⟩:=r.get e;⟨u,g,XI l f⟩⟩
  |nst L=>
   refine⟨(λds e=>by cases e),λds e=>?_⟩;cases e
   obtain⟨a,rfl,A,w,E⟩:=h;have r:=Kc λc p=>let ⟨vs,o,n⟩:=w c p;⟨vs,o,Rps.mono off_sub n⟩;exact⟨a,_,rfl,off_sub _ _ A,r.len,λi d e=>let ⟨u,g,f⟩:=r.get e;⟨u,g,XI l f⟩⟩
  |_=>exact⟨(λds e=>by cases e),(λds e=>by cases e)⟩
 |tmp d=>
  refine⟨λds e=>?_,λds e=>?_⟩<;>(have J:=e;subst J)
  ·obtain⟨a,vs,rfl,h,r⟩:=Rp.lst_inv h;exact⟨_,_,rfl,h,r.len,λi d e=>let ⟨u,g,f⟩:=r.get e;⟨u,g,XI l f⟩⟩
  ·obtain⟨a,vs,rfl,h,r⟩:=Rp.tup_inv h;exact⟨_,_,rfl,h,r.len,λi d e=>let ⟨u,g,f⟩:=r.get e;⟨u,g,XI l f⟩⟩
def Fr(B:Addr->Prop)(H:Hp)(σ:L2.St)(γ:Γ)(H':Hp)(f:L2.St)(g:Γ):Prop:=∀b o,H b=some o->¬zof B γ σ b->H' b=some o/\¬zof B g f b
def Fr.refl:Fr B H σ γ H σ γ:=λ_ _ h z=>⟨h,z⟩
def Fr.trans {H1 p g f n l} (a:Fr B H σ γ H1 g n) (b:Fr B H1 g n p f l):Fr B H σ γ p f l:=λx o h z=>let ⟨r,q⟩:=a x o h z;b x o r q
def Fr.grow (b:Same H H'):Fr B H σ γ H' σ γ:=λ_ _ h z=>⟨b _ _ h,z⟩
def Fr.off {H'}{σ'}{γ'} (f:Fr B H σ γ H' σ' γ'):Same (off (zof B γ σ) H) (Pu.off (zof B γ' σ') H'):=λb o h=>by
 obtain⟨p,n⟩:=XD h;obtain⟨l,g⟩:=f b o p n;exact UA l g
def U1{b:Type}{l:List b}{i j}{x y}(h:(l.set i x)[j]?=some y):(j=i/\x=y/\i<l.length)\/(j≠i/\l[j]?=some y):=by grind
def Nc{b:Type}{l:List b}{i}{x}(h:i<l.length):(l.set i x)[i]?=some x:=by grind
def Xv{b:Type}{l:List b}{i j}{x}(h:j≠i):(l.set i x)[j]?=l[j]?:=by grind
def Ue.drop (E:Ue K H0 B H σ γ) (i:Nat):Ue K H0 B H σ (γ.set i none)/\Fr B H σ γ H σ (γ.set i none):=by
 have p:∀b,zof B (γ.set i none) σ b->zof B γ σ b:=λb z=>z.imp id λ⟨j,l,a,g,f,u⟩=>by
  rcases U1 g with⟨_,e,_⟩|⟨_,e⟩
  ·grind
  ·exact⟨j,l,a,e,f,u⟩
 refine⟨⟨E.same,by rw[WV];exact E.len,E.bm,λk j a G l w b g f=>?_,λk s h=>?_⟩,λb o h z=>⟨h,λy=>z (p b y)⟩⟩
 ·rcases U1 g with⟨_,e,_⟩|⟨_,n⟩
  ·cases e
  ·rcases U1 f with⟨_,e,_⟩|⟨_,C⟩
   ·cases e
   ·exact E.own k j a G l w b n C
 ·rcases U1 h with⟨_,e,_⟩|⟨_,e⟩
  ·cases e
  ·obtain⟨v,g,f⟩:=E.slot k s e;refine⟨v,g,?_⟩;have r:Same (Pu.off (zof B γ σ) H) (Pu.off (zof B (γ.set i none) σ) H):=Um (Same.refl _) λb _ _ z y=>z (p b y);cases s with
   |sh d=>exact Rp.mono r f
   |own l=>
    obtain⟨a,n,A,x⟩:=f;exact⟨a,n,A,x.mono r λ_ _ _ q=>q⟩
   |_=>exact f
def Ue.put {s L}{v} (E:Ue K H0 B H σ γ) (S1:Same H H') (h:TV K (zof B γ σ) H0 H H' s v) (e:s.slot=some L) (hi:i<γ.length) :
  Ue K H0 B H' (σ.set i<|some v) (γ.set i<|some L)/\Fr B H σ γ H' (σ.set i<|some v) (γ.set i<|some L):=by
 have n:i<σ.length:=by rw[E.len];exact hi
 have E':=E.grow S1
 have isown:∀f,L=.own f->s=.own f:=λf q=>by
  subst q;cases s with
  |own J=>cases e;rfl
  |tmp d=>unfold S.slot at e;cases q:imm d<;>simp[q]at e
  |_=>cases e
 have l:∀b,zof B (γ.set i<|some L) (σ.set i<|some v) b->zof B γ σ b\/∃f a,s=.own f/\v=.ref a/\f.adr a b:=λb z=>by
  rcases z with z|⟨j,f,a,h1,G,A⟩
  ·exact .inl (.inl z)
  ·rcases U1 h1 with⟨Y,g,_⟩|⟨T,g⟩
   ·subst Y;rw[Nc n]at G
    have:=Wp g
    exact .inr ⟨f,a,isown f this,Wp (Wp G),A⟩
   ·rw[Xv T]at G;exact .inl (.inr ⟨j,f,a,g,G,A⟩)
 have fresh:∀f a b,s=.own f->v=.ref a->f.adr a b->H b=none:=λf a b J ev p=>by
  subst J;obtain⟨a',g,e0,_⟩:=h;rw[ev]at g;cases g
  exact e0 b p
 have hz:∀b o,H b=some o->¬zof B γ σ b->¬zof B (γ.set i<|some L) (σ.set i<|some v) b:=λb o p z y=>by
  rcases l b y with y|⟨f,a,y1,y2,y3⟩
  ·exact z y
  ·rw[fresh f a b y1 y2 y3]at p;cases p
 have So:=Um S1 hz;refine⟨⟨E'.same,by rw[WV,WV];exact E.len,E'.bm,λk j a a' f J b h1 G A M h5 h6=>?_,λk u hk=>?_⟩,λb o p z=>⟨S1 b o p,hz b o p z⟩⟩
 ·have Q:∀(k:Nat) f a b,γ[k]?=some (some<|.own f)->σ[k]?=some (some<|.ref a)->f.adr a b->∃o,H b=some o:=λk f a b g C e3=>by
   obtain⟨u,q1,a',N,_,q3⟩:=E.slot k _ g;rw[C]at q1;cases q1
   cases N
   exact P8 (q3.mut b e3)
  rcases U1 h1 with⟨ek,g,_⟩|⟨nk,g⟩
  ·rcases U1 G with⟨Y,C,_⟩|⟨T,C⟩
   ·rw[ek,Y]
   ·subst ek;rw[Nc n]at A;rw[Xv T]at M;obtain⟨o,U⟩:=Q j J a' b C M h6;rw[fresh f a b (isown f<|Wp g) (Wp<|Wp A) h5]at U;cases U
  ·rcases U1 G with⟨Y,C,_⟩|⟨T,C⟩
   ·subst Y;rw[Nc n]at M;rw[Xv nk]at A;obtain⟨o,U⟩:=Q k f a b g A h5;rw[fresh J a' b (isown J<|Wp C) (Wp<|Wp M) h6]at U;cases U
   ·rw[Xv nk]at A;rw[Xv T]at M;exact E.own k j a a' f J b g C A M h5 h6
 ·rcases U1 hk with⟨ek,g,_⟩|⟨nk,g⟩
  ·subst ek
   have:=(Wp g).symm
   subst this;refine⟨v,Nc n,?_⟩;cases s with
   |own f=>
    cases e
    obtain⟨a,rfl,e0,r⟩:=h;refine⟨a,rfl,λb p=>E.same.free (e0 b p),r.mono (Um (Same.refl _) λb o _ z y=>?_) λ_ _ _ q=>q⟩;rcases l b y with y|⟨_,_,y1,y,y2⟩
    ·exact z (.inl y)
    ·cases y;cases y1;exact z (.inr y2)
   |sh d=>
    cases e
    refine Rp.mono (Um (Same.refl _) λb o _ z y=>?_) h;rcases l b y with y|⟨_,_,y,_⟩
    ·exact z y
    ·cases y
   |bor d=>cases e;exact h
   |view d=>cases e
   |tmp d=>
    unfold S.slot at e;cases q:imm d with
    |false=>simp[q]at e
    |true=>
     simp[q]at e;subst e;refine Rp.off (λb y=>?_) h q;rcases l b y with y|⟨_,_,y,_⟩
     ·exact Ke S1 (E.zm b y)
     ·cases y
  ·obtain⟨w,q1,N⟩:=E.slot k u g;refine⟨w,by rw[Xv nk];exact q1,?_⟩;cases u with
   |sh d=>exact Rp.mono So N
   |own f=>
    obtain⟨a,g,e3,e4⟩:=N;exact⟨a,g,e3,e4.mono So λb _ x=>S1 b x⟩
   |_=>exact N
noncomputable def frz(i:Nat)(γ:Γ):Γ:=match γ[i]? with
 |some (some<|.own o)=>γ.set i (some<|.sh o.d)
 |_=>γ
def Ue.frz (E:Ue K H0 B H σ γ) (hB:∀b,B b->∃o,H0 b=some o) (i:Nat):Ue K H0 B H σ (frz i γ)/\Fr B H σ γ H σ (Pu.frz i γ):=by
 unfold Pu.frz;split
 ·rename_i p J
  have G:∀b,zof B (γ.set i<|some<|.sh p.d) σ b->zof B γ σ b:=λb z=>z.imp id λ⟨j,l,a,g,f,L⟩=>by
   rcases U1 g with⟨_,e,_⟩|⟨_,e⟩
   ·cases e
   ·exact⟨j,l,a,e,f,L⟩
  have C:Same (Pu.off (zof B γ σ) H) (Pu.off (zof B (γ.set i<|some<|.sh p.d) σ) H):=Um (Same.refl _) λb _ _ z y=>z (G b y);refine⟨⟨E.same,by rw[WV];exact E.len,E.bm,λk j a A l r b g f=>?_,λk s h=>?_⟩,λb o h z=>⟨h,λy=>z (G b y)⟩⟩
  ·rcases U1 g with⟨_,e,_⟩|⟨_,n⟩
   ·cases e
   ·rcases U1 f with⟨_,e,_⟩|⟨_,w⟩
    ·cases e
    ·exact E.own k j a A l r b n w
  ·rcases U1 h with⟨T,e,_⟩|⟨Y,e⟩
   ·subst T
    have:=Wp e
    subst this;obtain⟨v,g,a,rfl,L,Q⟩:=E.slot k _ J;refine⟨_,g,Q.rpIn C λb N x f=>UA f λz=>?_⟩;rcases z with z|⟨j,l,A,n,w,u⟩
    ·grind
    ·rcases U1 n with⟨_,q,_⟩|⟨M,q⟩
     ·cases q
     ·exact M (E.own j k A a l p b q J w g u N)
   ·obtain⟨v,g,f⟩:=E.slot k s e;refine⟨v,g,?_⟩;cases s with
    |sh d=>exact Rp.mono C f
    |own p=>
     obtain⟨a,n,u,U⟩:=f;exact⟨a,n,u,U.mono C λ_ _ _ q=>q⟩
    |_=>exact f
 ·exact⟨E,Fr.refl⟩
def Ue.change {o o'} (E:Ue K H0 B H σ γ) (M:γ[i]?=some (some<|.own o)) (A:σ[i]?=some (some<|.ref a))
  (N:∀b x,H b=some x->¬o.adr a b->H' b=some x) (hm:∀b,o.adr a b->Mut (H' b)) (l:∀b,o'.adr a b->o.adr a b\/H b=none) (r:OR K (Pu.off (zof B (γ.set i<|some<|.own o') σ) H') H' a o') :
  Ue K H0 B H' σ (γ.set i<|some<|.own o')/\Fr B H σ γ H' σ (γ.set i<|some<|.own o'):=by
 obtain⟨v,h1,a',rfl,h3,h4⟩:=E.slot i _ M;rw[A]at h1;cases h1
 have za:∀b,o.adr a b->zof B γ σ b:=λb C=>.inr ⟨i,o,a,M,A,C⟩
 have hz:∀b x,H b=some x->zof B (γ.set i<|some<|.own o') σ b->zof B γ σ b:=λb x hx z=>by
  rcases z with z|⟨j,fs,a',U,p,n⟩
  ·exact .inl z
  ·rcases U1 U with⟨T,q,_⟩|⟨_,e⟩
   ·subst T;cases q
    rw[A]at p;cases p
    rcases l b n with k|k
    ·exact za b k
    ·rw[k]at hx;cases hx
   ·exact .inr ⟨j,fs,a',e,p,n⟩
 have S1:=λb x h=>by
  obtain⟨g,f⟩:=XD h;exact UA (N b x g λk=>f (za b k)) λz=>f (hz b x g z)
 have J:∀(k:Nat) ds a b,γ[k]?=some (some<|.own ds)->σ[k]?=some (some<|.ref a)->ds.adr a b->∃o,H b=some o:=λk ds a b U p n=>by
  obtain⟨u,g,a',f,_,q3⟩:=E.slot k _ U;rw[p]at g;cases g
  cases f
  exact P8 (q3.mut b n)
 refine⟨⟨λb x h=>?_,by rw[WV];exact E.len,λb C=>?_,λk j x x' fs Q b U p n G e5 e6=>?_,λk s h=>?_⟩,λb x h z=>⟨?_,λy=>z (hz b x h y)⟩⟩
 ·exact N b x (E.same b x h) λk=>by rw[h3 b k]at h;cases h
 ·by_cases k:o.adr a b
  ·exact hm b k
  ·have:=E.bm b C
   obtain⟨x,hx⟩:=P8 this;rwa[N b x hx k,←hx]
 ·rcases U1 U with⟨Y,g,_⟩|⟨nk,g⟩
  ·rcases U1 p with⟨T,_,_⟩|⟨nj,f⟩
   ·rw[Y,T]
   ·subst Y;cases g
    rw[A]at n;cases n
    rcases l b e5 with w|w
    ·exact E.own k j _ _ _ _ b M f A G w e6
    ·obtain⟨u,L⟩:=J j Q x' b f G e6;rw[w]at L;cases L
  ·rcases U1 p with⟨T,f,_⟩|⟨nj,f⟩
   ·subst T;cases f
    rw[A]at G;cases G
    rcases l b e6 with w|w
    ·exact E.own k j _ _ _ _ b g M n A e5 w
    ·obtain⟨u,L⟩:=J k fs x b g n e5;rw[w]at L;cases L
   ·exact E.own k j x x' fs Q b g f n G e5 e6
 ·rcases U1 h with⟨Y,e,_⟩|⟨nk,e⟩
  ·subst Y
   have:=Wp e
   subst this;exact⟨_,A,a,rfl,λb C=>(l b C).elim (h3 b) λw=>E.same.free w,r⟩
  ·obtain⟨v,g,f⟩:=E.slot k s e;refine⟨v,g,?_⟩;cases s with
   |sh d=>exact Rp.mono S1 f
   |own fs=>
    obtain⟨x,rfl,n,G⟩:=f;exact⟨x,rfl,n,G.mono S1 λb C y p=>N b y p λw=>nk (E.own k i x a fs o b e M g A C w)⟩
   |_=>exact f
 ·exact N b x h λk=>z (za b k)
def Ue.mutate {i:Nat}{a:Addr}{ds es:O}{us:HO} (E:Ue K H0 B H σ γ) (u:γ[i]?=some (some<|.own ds)) (f:σ[i]?=some (some<|.ref a)) (w:Mut (some us)) (r:∀F H':Hp,Same (Pu.off (zof B γ σ) H) F->H' a=some us->OR K F H' a es)
  (k1:autoParam (ds.adr a=λb=>b=a) au_0) (k2:autoParam (es.adr a=λb=>b=a) au_0) :
  Ue K H0 B (upd H a us) σ (γ.set i<|some<|.own es)/\Fr B H σ γ (upd H a us) σ (γ.set i<|some<|.own es):=by
 refine E.change (o:=ds) (o':=es) u f (λb x h n=>by rw[Uj (λz=>n (by rw[k1];exact z))];exact h) (λb h=>by rw[k1]at h;rw[show b=a from h,Ut];exact w) (λb h=>.inl (by rw[k1];rw[k2]at h;exact h)) (r _ _ ?_ Ut)
 intro b x h;obtain⟨v,p⟩:=XD h;have s:b≠a:=λz=>p (.inr ⟨i,ds,a,u,f,by rw[k1];exact z⟩);refine UA (by rw[Uj s];exact v) λz=>p ?_;rcases z with z|⟨j,fs,C,A,l,g⟩
 ·exact .inl z
 ·rcases U1 A with⟨y,q,_⟩|⟨_,e⟩
  ·subst y;cases q
   rw[f]at l;cases l
   rw[k2]at g;exact absurd g s
  ·exact .inr ⟨j,fs,C,e,l,g⟩
end
end Pu
namespace Pu
open L2 Own
abbrev XR:=Str->Prop
noncomputable def eI:Int->Nat
 | .ofNat n=>2*n
 | .negSucc n=>2*n+1
noncomputable def dI(n:Nat):Int:=if n % 2=0 then .ofNat (n / 2)else .negSucc (n / 2)
def LA:∀i,dI (eI i)=i
 | .ofNat n=>by
  show dI (2*n)=_;unfold dI;simp
 | .negSucc n=>by
  show dI (2*n+1)=_;unfold dI;lia
noncomputable def Fn(r:Yc):Str:=⟨(0::r.map eI).toArray⟩
noncomputable def Lo:Yh->Option (Yc)
 | 0::t=>some (t.map dI)
 |_=>none
noncomputable def KC(x:Str):Option (Yc):=Lo x.cps.toList
def R1(r:Yc):KC (Fn r)=some r:=by
 show some ((r.map eI).map dI)=some r;rw[WR];congr 1
 conv=>rhs;rw[←List.map_id r]
 exact List.map_congr_left λi _=>LA i
def XE(b:Ye)(E:XK)(c:Str)(H':Hp):Prop:=match KC c with
 |none=>E (.ref<|ExcR.Ug b c) none H'
 |some r=>∀(f l:Addr) (o:Obj),H' f=some (.xd [("members",.ref l)])->H' l=some (.frz o<|.lst<|r.map V.int)->E (.ref<|ExcR.Ug b "Ringed") (some f) H'
def XE.plain {c H'} (f:KC c=none) (h:XE b E c H'):E (.ref<|ExcR.Ug b c) none H':=by
 unfold XE at h;simp_all
def XE.of {E c H'} (f:KC c=none) (h:E (.ref<|ExcR.Ug b c) none H'):XE b E c H':=by
 unfold XE;simp_all
def XE.ofM {E r H'} (h:∀b l o,H' b=some (.xd [("members",.ref l)])->H' l=some (.frz o<|.lst<|r.map V.int)->E (.ref<|ExcR.Ug f "Ringed") (some b) H'):XE f E (Fn r) H':=by
 unfold XE;rw[R1];lia
abbrev PTE:=Γ->(S->Prop)->XR->Prop
abbrev PTT:=Γ->(Bool->Prop)->XR->Prop
abbrev PTA:=Γ->(List S->Prop)->XR->Prop
abbrev PTO:=Γ->(Option Int->Prop)->XR->Prop
structure XX where
 nx:Γ->Prop
 rt:S->Prop
 ex:Γ->Str->Prop
 bk:Γ->Prop:=λ_=>False
 ct:Γ->Prop:=λ_=>False
 rv:Γ->D->Prop:=λ_ _=>False
abbrev PTS:=XX->Γ->Prop
abbrev PTG:=S->Γ->(Γ->Prop)->Prop
abbrev KO:=List S->Γ->(Γ->Prop)->Prop
inductive TVs (K:Ya) (Z:Addr->Prop) (H0 H H':Hp):List S->List V->Prop
 |nil:TVs K Z H0 H H' [] []
 |cons {s:S} {v:V} {ss:List S} {vs:List V}:TV K Z H0 H H' s v->TVs K Z H0 H H' ss vs->TVs K Z H0 H H' (s::ss) (v::vs)
section
variable (K:Ya) (mg:Ye) (E:L2.St->XK)
def Ub(t:TE)(p:PTE):Prop:=∀(h:Hp) (B:Addr->Prop) (H:Hp) (f:L2.St) (g:Γ) (R:S->Prop) (X:XR) (Q:VK),Ue K h B H f g->p g R X->
 (∀s v b,R s->Same H b->TV K (zof B g f) h H b s v->Q v b)->(∀c b,X c->Same H b->XE mg (E f) c b)->t f H Q
def UN(t:TT)(p:PTT):Prop:=∀(l:Hp) (B:Addr->Prop) (H:Hp) (g:L2.St) (h:Γ) (R:Bool->Prop) (X:XR) (Q:Bool->Hp->Prop),Ue K l B H g h->p h R X->
 (∀b f,R b->Same H f->Q b f)->(∀c f,X c->Same H f->XE mg (E g) c f)->t g H Q
def Uo(t:TA)(p:PTA):Prop:=∀(n:Hp) (B:Addr->Prop) (H:Hp) (f:L2.St) (g:Γ) (R:List S->Prop) (X:XR) (Q:List V->Hp->Prop),Ue K n B H f g->p g R X->
 (∀l h b,R l->Same H b->TVs K (zof B g f) n H b l h->Q h b)->(∀c b,X c->Same H b->XE mg (E f) c b)->t f H Q
def P6(t:TO)(p:PTO):Prop:=∀(h:Hp) (B:Addr->Prop) (H:Hp) (f:L2.St) (g:Γ) (R:Option Int->Prop) (X:XR) (Q:Option Int->Hp->Prop),Ue K h B H f g->p g R X->
 (∀o b,R o->Same H b->Q o b)->(∀c b,X c->Same H b->XE mg (E f) c b)->t f H Q
structure PN (H0:Hp) (B:Addr->Prop) (H:Hp) (σ:L2.St) (γ:Γ) (R:XX) (D:Ends):Prop where
 nx:∀σ' γ' H',R.nx γ'->Ue K H0 B H' σ' γ'->Fr B H σ γ H' σ' γ'->D.nx σ' H'
 rt:∀s v H',R.rt s->Same H0 H'->TV K B H0 H0 H' s v->D.rt v H'
 ex:∀σ' γ' c H',R.ex γ' c->Ue K H0 B H' σ' γ'->Fr B H σ γ H' σ' γ'->XE mg (E σ') c H'
 bk:∀σ' γ' H',R.bk γ'->Ue K H0 B H' σ' γ'->Fr B H σ γ H' σ' γ'->D.bk σ' H'
 ct:∀σ' γ' H',R.ct γ'->Ue K H0 B H' σ' γ'->Fr B H σ γ H' σ' γ'->D.ct σ' H'
 rv:∀σ' γ' d v H',R.rv γ' d->Ue K H0 B H' σ' γ'->Fr B H σ γ H' σ' γ'->Rp K (off (zof B γ' σ') H') d v->D.rt v H'
def Ul(t:TS)(p:PTS):Prop:=∀(h:Hp) (B:Addr->Prop) (H:Hp) (f:L2.St) (g:Γ) (R:XX) (D:Ends),(∀b,B b->∃o,h b=some o)->Ue K h B H f g->p R g->PN K mg E h B H f g R D->t D f H
end
section
variable {K:Ya}{mg:Ye}{E:L2.St->XK}{H0 H H1 H':Hp}{B Z Z':Addr->Prop}{σ:L2.St}{γ:Γ}
def TVs.weakG {H1 f}:∀{ss}{vs:List V},Same H H1->TVs K Z H0 H1 f ss vs->TVs K Z H0 H f ss vs:=by
 intro ss
 induction ss with
 |nil=>
  intro _ _ h;cases h
  exact .nil
 |cons _ _ g=>
  intro _ b h;cases h with
  |cons h r=>
   exact .cons (TV.weak b (λ_ z=>z) h) (g b r)
def TVs.rps (f:Same H0 H'):∀{ss}{vs:List V},TVs K Z H0 H H' ss vs->Rps K H' (ss.map S.d) vs:=by
 intro ss
 induction ss with
 |nil=>
  intro _ h;cases h
  exact .nil
 |cons _ _ b=>
  intro _ h;cases h with
  |cons h r=>
   exact .cons (h.rp f) (b r)
theorem TVs.shd {ds:List D} (l:Same H0 H') (g:∀b,Z b->Mut (H b)) (n:Same H H'):∀{f vs}{ds:List D},TVs K Z H0 H H' f vs->f.map S.shd=ds.map some->Rps K (off Z H') ds vs
 |_,_,[],.nil,_=>.nil
 |_,_,_::_,.nil,e|_,_,[],.cons _ _,e=>by cases e
 |_,_,d::ds,.cons h r,e=>by
  rw[W7,W7,List.cons.injEq]at e;exact .cons (h.shd l g n e.1) (TVs.shd (ds:=ds) l g n r e.2)
def Rp.int_inv (h:Rp K H (.int i) v):v=.int i:=by cases h;rfl
def Rp.bl_inv (h:Rp K H (.bl b) v):v=.bl b:=by cases h;rfl
def Rp.str_inv (h:Rp K H (.str x) v):v=.str x:=by cases h;rfl
def Rp.non_inv (h:Rp K H .non v):v=.non:=by cases h;rfl
def Rp.ty_inv (h:Rp K H (.ty n) v):v=.ty n:=by cases h;rfl
noncomputable def Ni(i:Nat):PTE:=λγ R _=>match γ[i]? with
 |some (some<|.own b)=>R (.view b)
 |some (some s)=>R s
 |_=>False
def Uc(i:Nat):Ub K mg E (XG i) (Ni i):=by
 intro H0 B H σ γ R X Q b h q _;unfold Ni at h;split at h
 ·rename_i n e;obtain⟨v,f,a,rfl,p,l⟩:=b.slot i _ e;exact⟨_,f,q _ _ H h (Same.refl _) ⟨a,rfl,l⟩⟩
 ·rename_i s o e;obtain⟨v,f,g⟩:=b.slot i _ e;refine⟨v,f,q _ _ H h (Same.refl _) ?_⟩;cases s with
  |bor d|sh d=>exact g
  |own n=>grind
  |_=>exact g.elim
 ·grind
noncomputable def pC(d:D):PTE:=λ_ R _=>R (.sh d)
def N0(h:∀H,Rp K H d v):Ub K mg E (tC v) (pC d):=by
 intro H0 B H σ γ R X Q b p q _;exact q _ _ H p (Same.refl _) (h _)
def U2:Ub K mg E (tC<|.int i) (pC<|.int i):=N0 λ_=>.int i
def O0:Ub K mg E (tC<|.bl b) (pC<|.bl b):=N0 λ_=>.bl b
def Ux:Ub K mg E (tC<|.str x) (pC<|.str x):=N0 λ_=>.str x
def K8:Ub K mg E (tC<|.ty n) (pC<|.ty n):=N0 λ_=>.ty n
noncomputable def p2(a b:PTE)(f:S->S->(S->Prop)->Prop):PTE:=λγ R X=>a γ (λx=>b γ (λy=>f x y R) X) X
def Xj{A w a b f}(Y:Ub K mg E A a)(U:Ub K mg E w b)(N:∀H0 H h Z x y v u R Q,Same H0 h->Same H h->(∀b,Z b->Mut (H b))->TV K Z H0 H h x v->TV K Z H0 H h y u->f x y R->(∀s z H',R s->Same h H'->TV K Z H0 H H' s z->Q z H')->r v u h Q) :
  Ub K mg E (tOp r A w) (p2 a b f):=by
 intro H0 B H σ γ R X Q l p q C;refine Y H0 B H σ γ _ X _ l p (λx v H1 h1 n L=>?_) C;have g:=l.grow n;refine U H0 B H1 σ γ _ X _ g h1 (λy u h h2 o J=>?_) λc H' T S'=>C c H' T (n.trans S');exact N H0 H h _ x y v u R Q (g.same.trans o) (n.trans o) l.zm (L.grow o) (TV.weak n (λ_ z=>z) J) h2 λs z H' M S3 G=>q s z H' M ((n.trans o).trans S3) G
def fI0(g:Int->Int->D):S->S->(S->Prop)->Prop:=λx y R=>match x.d,y.d with
 | .int i,.int j=>R (.sh<|g i j)
 |_,_=>False
def fI(C:Int->Int->Prop)(g:Int->Int->D):S->S->(S->Prop)->Prop:=λx y R=>match x.d,y.d with
 | .int i,.int j=>C i j/\R (.sh<|g i j)
 |_,_=>False
def Tv{g'}{l f a b}(w:∀H i j,Rp K H (g' i j) (g i j))(A:Ub K mg E l a)(z:Ub K mg E f b):Ub K mg E (tOp (rI0 g) l f) (p2 a b<|fI0 g'):=by
 refine Xj A z λH0 H J Z x y v u R Q n L M s r h q=>?_;unfold fI0 at h;have p:=s.rp n;have o:=r.rp n;split at h
 ·rename_i i j G C;rw[G]at p;rw[C]at o;exact⟨i,j,p.int_inv,o.int_inv,q _ _ J h (Same.refl _) (w _ i j)⟩
 ·grind
def NP{g r}{l f a b}(z:∀H i j,Rp K H (r i j) (g i j))(G:Ub K mg E l a)(A:Ub K mg E f b):Ub K mg E (tOp (rI C g) l f) (p2 a b<|fI C r):=by
 refine Xj G A λH0 H M Z x y v u R Q n N T w s h q=>?_;unfold fI at h;have p:=w.rp n;have o:=s.rp n;split at h
 ·rename_i i j L J;rw[L]at p;rw[J]at o;exact⟨i,j,p.int_inv,o.int_inv,h.1,q _ _ M h.2 (Same.refl _) (z _ i j)⟩
 ·grind
section
variable {ta tb tc:TE}{a b c:PTE}
def UK(g:Ub K mg E ta a)(f:Ub K mg E tb b):Ub K mg E (tOp (rI0 λi j=>.int (i+j)) ta tb) (p2 a b (fI0 λi j=>.int (i+j))):=Tv (λ_ _ _=>.int _) g f
def Fs(g:Ub K mg E ta a)(f:Ub K mg E tb b):Ub K mg E (tOp (rI0 λi j=>.int (i-j)) ta tb) (p2 a b (fI0 λi j=>.int (i-j))):=Tv (λ_ _ _=>.int _) g f
def Kv(g:Ub K mg E ta a)(f:Ub K mg E tb b):Ub K mg E (tOp (rI CMul λi j=>.int (i*j)) ta tb) (p2 a b (fI CMul λi j=>.int (i*j))):=NP (λ_ _ _=>.int _) g f
def Xw(g:Ub K mg E ta a)(f:Ub K mg E tb b):Ub K mg E (tOp (rI Bu λi j=>.int (i / j)) ta tb) (p2 a b (fI Bu λi j=>.int (i / j))):=NP (λ_ _ _=>.int _) g f
def U9(g:Ub K mg E ta a)(f:Ub K mg E tb b):Ub K mg E (tOp (rI (λ_ j=>0<j) λi j=>.int (i % j)) ta tb) (p2 a b (fI (λ_ j=>0<j) λi j=>.int (i % j))):=NP (λ_ _ _=>.int _) g f
def Pj(g:Ub K mg E ta a)(f:Ub K mg E tb b):Ub K mg E (tOp (rI0 λi j=>.bl (decide (i<j))) ta tb) (p2 a b (fI0 λi j=>.bl (decide (i<j)))):=Tv (λ_ _ _=>.bl _) g f
def XO(g:Ub K mg E ta a)(f:Ub K mg E tb b):Ub K mg E (tOp (rI0 λi j=>.bl (decide (j<i))) ta tb) (p2 a b (fI0 λi j=>.bl (decide (j<i)))):=Tv (λ_ _ _=>.bl _) g f
def Ds(g:Ub K mg E ta a)(f:Ub K mg E tb b):Ub K mg E (tOp (rI0 λi j=>.bl (decide (j<=i))) ta tb) (p2 a b (fI0 λi j=>.bl (decide (j<=i)))):=Tv (λ_ _ _=>.bl _) g f
def fEq(neg:Bool):S->S->(S->Prop)->Prop:=λx y R=>match x.d,y.d with
 | .int i,.int j=>R (.sh<|.bl (if neg then !decide (i=j)else decide (i=j)))
 | .str i,.str j=>R (.sh<|.bl (if neg then !decide (i=j)else decide (i=j)))
 | .bl i,.bl j=>R (.sh<|.bl (if neg then !decide (i=j)else decide (i=j)))
 |_,_=>False
def KR{g h:Type}[DecidableEq g][DecidableEq h]{f:g->h}(l:∀a b,f a=f b->a=b)(a b:g):decide (f a=f b)=decide (a=b):=by grind
def fIx:S->S->(S->Prop)->Prop:=λx y R=>match x.d,y.d with
 | .lst g,.int k=>∃d,atI g k=some d/\R (x.sub d)
 | .tup g,.int k=>∃d,atI g k=some d/\R (x.sub d)
 | .scr f,.int k=>∃i,atI f k=some i/\R (.sh<|.int i)
 | .fL f,.int k=>∃i,atI f k=some i/\R (.sh<|.int i)
 |_,_=>False
def Fz{P:D->V->Prop}(f:vs.length=ds.length)(h:∀(i:Nat) d,ds[i]?=some d->∃u,vs[i]?=some u/\P d u)(e:atI ds k=some d):∃u,atI vs k=some u/\P d u:=by
 unfold atI at e ⊢;cases q:ixN ds.length k with
 |_=>grind
def Xx(ha:Ub K mg E ta a)(hb:Ub K mg E tb b):Ub K mg E (tOp (λx y H Q=>Te K x y H Q\/Tj K x y H Q) ta tb) (p2 a b fIx):=by
 refine Xj ha hb λH0 H s Z x y v u R Q r s1 hm A Y h q=>?_;unfold fIx at h;have f:=Y.rp r;obtain⟨pl,pt⟩:=A.part r hm s1;split at h
 ·rename_i U k o n;rw[n]at f;obtain⟨d,T,g⟩:=h;obtain⟨l,w,rfl,M,L,J⟩:=pl U o;obtain⟨z,C,tz⟩:=Fz L J T;exact .inl ⟨l,w,k,z,rfl,f.int_inv,SqL.of M,C,q _ _ s g (Same.refl _) tz⟩
 ·rename_i U k o n;rw[n]at f;obtain⟨d,T,g⟩:=h;obtain⟨l,w,rfl,M,L,J⟩:=pt U o;obtain⟨z,C,tz⟩:=Fz L J T;exact .inr ⟨l,w,k,z,rfl,f.int_inv,SqT.of M,C,q _ _ s g (Same.refl _) tz⟩
 ·rename_i ns k o n;rw[n]at f;obtain⟨i,N,g⟩:=h;have p:=A.rp r;rw[o]at p;cases p with
  |scr G=>exact .inl ⟨_,_,k,.int i,rfl,f.int_inv,G,Kn N,q _ _ s g (Same.refl _) (.int i)⟩
 ·rename_i ns k o n;rw[n]at f;obtain⟨i,N,g⟩:=h;have p:=A.rp r;rw[o]at p;cases p with
  |fL G=>exact .inl ⟨_,_,k,.int i,rfl,f.int_inv,.inl (.inr ⟨_,G⟩),Kn N,q _ _ s g (Same.refl _) (.int i)⟩
 ·exact h.elim
noncomputable def GI(a b:PTE):PTE:=λγ R X=>a γ (λx=>match x.d with | .bl c=>if c=true then b γ R X else R (.sh<|.bl false)|_=>False) X
noncomputable def HE(a:PTE):PTE:=λγ R X=>a γ (λx=>match x.d with | .bl c=>R (.sh<|.bl (!c))|_=>False) X
def FA(C:Ub K mg E ta a)(A:Ub K mg E tb b):Ub K mg E (CK ta tb) (GI a b):=by
 intro H0 B H σ γ R X Q h p q r;refine C H0 B H σ γ _ X _ h p (λx v H1 n l w=>?_) r;have f:=h.grow l;have o:=w.rp f.same;split at n
 ·rename_i c J;rw[J]at o;refine⟨c,o.bl_inv,?_⟩;split at n
  ·rename_i g;rw[Wj g];exact A H0 B H1 σ γ _ X _ f n (λy u N G L s=>q y u N G (l.trans L) (TV.weak l (λ_ z=>z) s)) λc H' g M=>r c H' g (l.trans M)
  ·rename_i g;rw[Wf g];exact q _ _ H1 n l (.bl _)
 ·grind
def Hz(r:Ub K mg E ta a):Ub K mg E (FY ta) (HE a):=by
 intro H0 B H σ γ R X Q f p q o;refine r H0 B H σ γ _ X _ f p (λx v H1 h l n=>?_) o;have g:=n.rp (f.grow l).same;split at h
 ·rename_i c s;rw[s]at g;exact⟨c,g.bl_inv,q _ _ H1 h l (.bl _)⟩
 ·grind
noncomputable def Zaw(a:PTE):PTE:=λγ R X=>a γ (λx=>match x.d with | .int i=>R (.sh<|.int (-i))|_=>False) X
def Du(r:Ub K mg E ta a):Ub K mg E (tUn (rU λi=>.int (-i)) ta) (Zaw a):=by
 intro H0 B H σ γ R X Q f p q o;refine r H0 B H σ γ _ X _ f p (λx v H1 h l n=>?_) o;have g:=n.rp (f.grow l).same;split at h
 ·rename_i c s;rw[s]at g;exact⟨c,g.int_inv,q _ _ H1 h l (.int _)⟩
 ·grind
noncomputable def KI(a:PTE):PTT:=λγ R X=>a γ (λx=>match x.d with | .bl c=>R c|_=>False) X
def KE(r:Ub K mg E ta a):UN K mg E (Ng ta) (KI a):=by
 intro H0 B H σ γ R X Q f p q o;refine r H0 B H σ γ _ X _ f p (λx v H1 h l n=>?_) o;have g:=n.rp (f.grow l).same;split at h
 ·rename_i c s;rw[s]at g;exact⟨c,g.bl_inv,q _ H1 h l⟩
 ·grind
def Py(f:Ub K mg E ta a):UN K mg E (tB ta) (KI a):=KE f
variable {sa sb:TT}{pa pb:PTT}
noncomputable def G7(a b:PTT):PTT:=λγ R X=>a γ (λc=>if c=true then b γ R X else R false) X
noncomputable def pOr(a b:PTT):PTT:=λγ R X=>a γ (λc=>if c=true then R true else b γ R X) X
noncomputable def DC(a:PTT):PTT:=λγ R X=>a γ (λc=>R (!c)) X
def Rg(r:UN K mg E sa pa)(o:UN K mg E sb pb):UN K mg E (E3 sa sb) (G7 pa pb):=by
 intro H0 B H σ γ R X Q f p q l;refine r H0 B H σ γ _ X _ f p (λc H1 n h=>?_) l;split at n
 ·rename_i g;rw[Wj g];exact o H0 B H1 σ γ _ X _ (f.grow h) n (λy w s u=>q y w s (h.trans u)) λc H' g v=>l c H' g (h.trans v)
 ·grind
def Zc4(r:UN K mg E sa pa)(o:UN K mg E sb pb):UN K mg E (tOr sa sb) (pOr pa pb):=by
 intro H0 B H σ γ R X Q f p q l;refine r H0 B H σ γ _ X _ f p (λc H1 n h=>?_) l;split at n
 ·grind
 ·rename_i g;rw[Wf g];exact o H0 B H1 σ γ _ X _ (f.grow h) n (λy w s u=>q y w s (h.trans u)) λc H' g v=>l c H' g (h.trans v)
def IZ(h:UN K mg E sa pa):UN K mg E (AL sa) (DC pa):=by
 intro H0 B H σ γ R X Q f p q g;exact h H0 B H σ γ _ X _ f p (λc H1 l n=>q _ H1 l n) g
noncomputable def Gm(c:PTT)(a b:PTE):PTE:=λγ R X=>c γ (λk=>if k=true then a γ R X else b γ R X) X
def RS(h:UN K mg E sa pa)(C:Ub K mg E ta a)(A:Ub K mg E tb b):Ub K mg E (tIf sa ta tb) (Gm pa a b):=by
 intro H0 B H σ γ R X Q g p q n;refine h H0 B H σ γ _ X _ g p (λc H1 s f=>?_) n;split at s
 ·rename_i o;rw[Wj o];exact C H0 B H1 σ γ _ X _ (g.grow f) s (λy u x r v l=>q y u x r (f.trans v) (TV.weak f (λ_ z=>z) l)) λc H' h w=>n c H' h (f.trans w)
 ·rename_i o;rw[Wf o];exact A H0 B H1 σ γ _ X _ (g.grow f) s (λy u x r v l=>q y u x r (f.trans v) (TV.weak f (λ_ z=>z) l)) λc H' h w=>n c H' h (f.trans w)
end
noncomputable def XN:PTA:=λ_ R _=>R []
noncomputable def Xh(a:PTE)(r:PTA):PTA:=λγ R X=>a γ (λs=>r γ (λb=>R (s::b)) X) X
def UW:Uo K mg E Xc XN:=by
 intro H0 B H σ γ R X Q b p q _;exact q _ _ H p (Same.refl _) .nil
def Nu{a r}(x:Ub K mg E te a)(u:Uo K mg E l r):Uo K mg E (UG te l) (Xh a r):=by
 intro H0 B H σ γ R X Q b p q g;refine x H0 B H σ γ _ X _ b p (λs v H1 z f o=>?_) g;refine u H0 B H1 σ γ _ X _ (b.grow f) z (λJ G C y h n=>?_) λc H' w A=>g c H' w (f.trans A);exact q _ _ C y (f.trans h) (.cons (o.grow h)<|TVs.weakG f n)
noncomputable def P5:List S->Option (List D)
 |[]=>some []
 |s::r=>match s.shd,P5 r with
  |some d,some b=>some (d::b)
  |_,_=>none
theorem BY:∀{ss}{ds:List D},P5 ss=some ds->ss.map S.shd=ds.map some
 |[],ds,h=>by cases h;rfl
 |s::r,ds,h=>by
  unfold P5 at h;split at h
  ·rename_i d g f b;cases h
   rw[W7,W7,f,BY b]
  ·grind
noncomputable def GF(r:PTA):PTE:=λγ R X=>r γ (λf=>match P5 f with|some b=>b.length<=1000/\R (.sh<|.tup b)|none=>False) X
noncomputable def AI(r:PTA):PTE:=λγ R X=>r γ (λf=>match P5 f with|some b=>b.length<=1000/\R (.own b)|none=>False) X
def SK(h:n<=1000):n<=sizeLine:=QL (Dc h)
def T3(y:Uo K mg E v r):Ub K mg E (Gr v) (GF r):=by
 intro H0 B H σ γ R X Q f p q x;refine y H0 B H σ γ _ X _ f p (λA u H1 g h w=>?_) x;split at g
 ·rename_i ds e;have b:=f.grow h;have rp:=w.shd (ds:=ds) b.same f.zm h (BY e);refine⟨by rw[rp.len];exact SK g.1,λl n=>?_⟩;have s:=US (o:=.tup u) n;refine q _ _ _ g.2 (h.trans s) (.tup (UA Ut λz=>?_)<|Rps.mono (Um s λ_ _ _ z=>z) rp)
  have:=b.zm l z
  rw[n]at this;exact this
 ·grind
def K6{H H1 l vs ds}(h:Same H H1)(f:H1 l=none)(rp:Rps K (off Z H1) ds vs):TV K Z H0 H (upd H1 l<|.lst vs) (.own ds) (.ref l):=
 ⟨l,rfl,(λ_ e=>e▸h.free f),vs,Ut,Rps.mono (Um (US f) λb o g z y=>y.elim z λe=>by rw[e,f]at g;cases g) rp⟩
def XY(u:Uo K mg E n r):Ub K mg E (AX n) (AI r):=by
 intro H0 B H σ γ R X Q b p q s;refine u H0 B H σ γ _ X _ b p (λw v H1 g f o=>?_) s;split at g
 ·rename_i ds e;have rp:=o.shd (ds:=ds) (b.grow f).same b.zm f (BY e);refine⟨by rw[rp.len];exact SK g.1,λl h=>?_⟩;exact q _ _ _ g.2 (f.trans<|US h) (K6 f h rp)
 ·grind
abbrev Pc:=List D->(S->Prop)->XR->Prop
noncomputable def Uk(mg:Ye)(c:Pc)(K:Ya):Sp:=λg H Q E=>∃f R X,Rps K H f g/\c f R X/\(∀s v H',R s->Same H H'->TV K (λb=>Mut (H b)) H H H' s v->Q v H')/\∀e H',X e->Same H H'->XE mg E e H'
noncomputable def S.back:S->S
 | .bor d=>UJ d | .view o=>.tmp o.d|s=>s
def TV.back (env:Ue K H0 B H1 σ γ) (o:Same H H1) (f:Same H1 H') (h:TV K (λb=>Mut (H1 b)) H1 H1 H' s v):TV K (zof B γ σ) H0 H H' s.back v:=by
 cases s with
 |bor d=>exact XI (λb z=>Ke f (env.zm b z)) (Rp.mono f h)
 |sh d=>exact Rp.mono (Um (Same.refl _) λb _ _ z y=>z (env.zm b y)) h
 |own n=>
  obtain⟨a,rfl,l,r⟩:=h;exact⟨a,rfl,(λb g=>o.free (l b g)),r.mono (Um (Same.refl _) λb _ _ z y=>z (y.imp (env.zm b) id)) λ_ _ _ q=>q⟩
 |view n=>
  obtain⟨a,rfl,r⟩:=h;exact r.rp off_sub
 |tmp d=>exact h
noncomputable def AH(c:Pc)(r:PTA):PTE:=λγ R X=>r γ (λb=>c (b.map S.d) (λs=>R s.back) λ_=>False) X
noncomputable def SN(c:Pc)(r:PTA):PTE:=λγ R X=>r γ (λb=>c (b.map S.d) (λs=>R s.back) X) X
def TC{h r}(x:Uo K mg E h r):Ub K mg E (KN (Uk mg c K) [] E0 h) (AH c r):=by
 intro H0 B H σ γ R X Q f p q u;refine x H0 B H σ γ _ X _ f p (λC A H1 y g o=>?_) u;rw[W2];have b:=f.grow g;exact⟨_,_,_,o.rps b.same,y,λs v H' w l n=>q _ _ H' w (g.trans l) (n.back b g l),λ_ _ z=>z.elim⟩
def OY{n r l}(y:Uo K mg (λ_=>l) n r):Ub K mg (λ_=>l) (KN (Uk mg c K) [] l n) (SN c r):=by
 intro H0 B H σ γ R X Q f p q o;refine y H0 B H σ γ _ X _ f p (λG C H1 A h w=>?_) o;rw[W2];have b:=f.grow h;exact⟨_,_,X,w.rps b.same,A,λs v H' x g u=>q _ _ H' x (h.trans g) (u.back b h g),λe H' z g=>o e H' z (h.trans g)⟩
def Lr{l r}(x:Uo K mg E l r):Ub K mg E (ExcR.FB (Uk mg c K) E l) (SN c r):=by
 intro H0 B H σ γ R X Q f p q n;refine x H0 B H σ γ _ X _ f p (λC A H1 z h u=>?_) n;rw[W2];have b:=f.grow h;exact⟨_,_,X,u.rps b.same,z,λs v H' w g o=>q _ _ H' w (h.trans g) (o.back b h g),λe H' y g=>n e H' y (h.trans g)⟩
def Ue.set {s b}{v} (g:Ue K H0 B H σ γ) (f:Same H H') (h:TV K (zof B γ σ) H0 H H' s v) (e:s.slot=some b) :
  Ue K H0 B H' (σ.set i<|some v) (γ.set i<|some b)/\Fr B H σ γ H' (σ.set i<|some v) (γ.set i<|some b):=by
 by_cases l:i<γ.length
 ·exact g.put f h e l
 ·rw[List.set_eq_of_length_le (by rw[g.len];lia),List.set_eq_of_length_le (by lia)];exact⟨g.grow f,Fr.grow f⟩
def Upd(f:Yh)(σ b:L2.St):Prop:=(∀j,j∉f->b[j]?=σ[j]?)/\b.length=σ.length
def Kh(K:Ya)(g:Yh)(t:TG)(p:PTG):Prop:=∀(H0:Hp) (B:Addr->Prop) (H H':Hp) (σ:L2.St) (γ:Γ) (s:S) (v:V) (R:Γ->Prop) (Q:L2.St->Hp->Prop),Ue K H0 B H σ γ->Same H H'->TV K (zof B γ σ) H0 H H' s v->p s γ R->
 (∀b f,R f->Ue K H0 B H' b f->Fr B H σ γ H' b f->Upd g σ b->Q b H')->t v σ H' Q
noncomputable def Kz(i:Nat):PTG:=λs γ R=>match s.slot with|some b=>R (γ.set i<|some b)|none=>False
def Km(i:Nat):Kh K [i] (Pk i) (Kz i):=by
 intro H0 B H H' σ γ s v R Q b l f p q;unfold Kz at p;split at p
 ·rename_i n e;obtain⟨h,f1⟩:=b.set l f e;exact q _ _ p h f1 ⟨λj g=>Xv λz=>g (by grind),WV⟩
 ·grind
noncomputable def DU:KO:=λb γ R=>match b with|[]=>R γ|_=>False
noncomputable def G4(g:PTG)(r:KO):KO:=λf γ R=>match f with|s::t=>g s γ λb=>r t b R|[]=>False
def TV.notown {σ'}{γ'}{Hb} (f:Fr B H σ γ H' σ' γ') (b:Same H H') (n:∀ds,s≠.own ds) (g:∀ds,s≠.view ds) (h:TV K (zof B γ σ) H0 Hb H s v):TV K (zof B γ' σ') H0 H' H' s v:=by
 cases s with
 |bor d=>exact h
 |sh d=>exact Rp.mono f.off h
 |tmp d=>exact Rp.mono b h
 |_=>grind
def TVs.notown (f:Fr B H σ γ H b g):∀{ss}{vs:List V},(∀s∈ss,∀ds,s≠.own ds/\s≠.view ds)->TVs K (zof B γ σ) H0 p H ss vs->TVs K (zof B g b) H0 H H ss vs:=by
 intro ss
 induction ss with
 |nil=>
  intro _ _ h;cases h
  exact .nil
 |cons _ _ l=>
  intro _ n h;cases h with
  |cons h r=>
   exact .cons (h.notown f (Same.refl _) (λds=>(n _ Wz ds).1) λds=>(n _ Wz ds).2) (l (λs o=>n s (Wr _ o)) r)
def Fe(d:D):arg d=.sh d\/arg d=.bor d:=by unfold arg;cases imm d<;>simp
def Ce(d:D):UJ d=.sh d\/UJ d=.tmp d:=by unfold UJ;cases imm d<;>simp
def F8(s:S)(d:D):∀ds,s.sub d≠.own ds/\s.sub d≠.view ds:=λds=>by
 cases s with
 |bor b=>rcases Fe d with e|e<;>(show arg d≠_/\arg d≠_;rw[e];exact⟨(λz=>by cases z),(λz=>by cases z)⟩)
 |tmp b=>rcases Ce d with e|e<;>(show UJ d≠_/\UJ d≠_;rw[e];exact⟨(λz=>by cases z),(λz=>by cases z)⟩)
 |sh b=>exact⟨(λz=>by cases z),(λz=>by cases z)⟩
 |own b|view b=>
  cases b with
  |nst f|nsl a f=>rcases Ce d with e|e<;>(show UJ d≠_/\UJ d≠_;rw[e];exact⟨(λz=>by cases z),(λz=>by cases z)⟩)
  |_=>exact⟨(λz=>by cases z),(λz=>by cases z)⟩
def PJ(K:Ya)(n:Yh)(t:TGs)(p:KO):Prop:=∀(H0:Hp) (B:Addr->Prop) (H:Hp) (σ:L2.St) (γ:Γ) (g:List S) (h:List V) (R:Γ->Prop) (Q:L2.St->Hp->Prop),Ue K H0 B H σ γ->TVs K (zof B γ σ) H0 H H g h->(∀s∈g,∀l,s≠.own l/\s≠.view l)->p g γ R->
 (∀b f,R f->Ue K H0 B H b f->Fr B H σ γ H b f->Upd n σ b->Q b H)->t h σ H Q
def II:PJ K [] AN DU:=by
 intro H0 B H σ γ h g R Q b f l p q;cases f with
 |nil=>exact⟨rfl,q _ _ p b Fr.refl ⟨λ_ _=>rfl,rfl⟩⟩
 |cons _ _=>exact p.elim
def OG{g r w v}(T:Kh K M g w)(N:PJ K L r v):PJ K (M++L) (Gp g r) (G4 w v):=by
 intro H0 B H σ γ ss vs R Q u G x p q;cases G with
 |nil=>exact p.elim
 |cons h t=>
  refine⟨_,_,rfl,T H0 B H H σ γ _ _ _ _ u (Same.refl _) h p λf n J e1 f1 A=>?_⟩;refine N H0 B H f n _ _ _ _ e1 (TVs.notown f1 (λs o=>x s (Wr _ o)) t) (λs o=>x s (Wr _ o)) J λb l p2 Y U y=>?_;exact q b l p2 Y (f1.trans U) ⟨λj C=>(y.1 j λz=>C (Wy _ z)).trans (A.1 j λz=>C (QB _ z)),y.2.trans A.2⟩
noncomputable def Ba(n:Nat)(r:KO):PTG:=λs γ R=>match s.d with | .tup b=>b.length=n/\r (b.map s.sub) γ R|_=>False
theorem TVs.of_part {ds:List D}{s:S}:∀{vs}{ds:List D},vs.length=ds.length->(∀(i:Nat) d,ds[i]?=some d->∃u,vs[i]?=some u/\TV K Z H0 H H' (s.sub d) u)->TVs K Z H0 H H' (ds.map s.sub) vs
 |[],[],_,_=>.nil
 |[],_::_,e,_|_::_,[],e,_=>by cases e
 |v::vs,d::ds,e,h=>by
  obtain⟨u,f,b⟩:=h 0 d rfl;cases f
  exact .cons b (TVs.of_part (ds:=ds) (by grind) λi g l=>by simpa using h (i+1) g (by grind))
def HR{x r w}(G:PJ K x r w):Kh K x (NF K n r) (Ba n w):=by
 intro H0 B H H' σ γ s v R Q f o z p q;unfold Ba at p;have b:=f.grow o;obtain⟨_,pt⟩:=z.part b.same f.zm o;split at p
 ·rename_i ds e;obtain⟨a,u,rfl,L,y,J⟩:=pt ds e;refine⟨a,u,rfl,SqT.of L,y.trans p.1,?_⟩;refine G H0 B H' σ γ _ u R Q b (TVs.notown (Fr.refl) (λA l ds=>?_)<|TVs.of_part (ds:=ds) y J) (λA l ds=>?_) p.2 λg h M N f1 C=>q g h M N (Fr.trans (Fr.grow o) f1) C
  ·obtain⟨d,_,rfl⟩:=W6.mp l;exact F8 s d ds
  ·obtain⟨d,_,rfl⟩:=W6.mp l;exact F8 s d ds
 ·grind
def PN.from {D o p} (e:PN K mg E H0 B H σ γ R D) (f:Fr B H σ γ H1 o p):PN K mg E H0 B H1 o p R D:=
 ⟨λb g H' n l h=>e.nx b g H' n l (f.trans h),e.rt,λb g c H' n l h=>e.ex b g c H' n l (f.trans h),λb g H' n l h=>e.bk b g H' n l (f.trans h),λb g H' n l h=>e.ct b g H' n l (f.trans h),λb g d v H' n l h=>e.rv b g d v H' n l (f.trans h)⟩
variable {te:TE}{a:PTE}{tt:TT}{c:PTT}{t u:TS}{p q:PTS}
noncomputable def EY:PTS:=λR γ=>R.nx γ
def Zaz:Ul K mg E D5 EY:=λ_ _ _ _ _ _ _ _ b h e=>e.nx _ _ _ h b Fr.refl
noncomputable def GD(p q:PTS):PTS:=λR γ=>p {R with nx:=q R} γ
def D4(n:Ul K mg E t p)(hq:Ul K mg E u q):Ul K mg E (Ct t u) (GD p q):=by
 intro H0 B H σ γ R D l g h e;refine n H0 B H σ γ _ _ l g h ⟨λb f H' o r f1=>?_,e.rt,e.ex,e.bk,e.ct,e.rv⟩;exact hq H0 B H' b f R D l r o (e.from f1)
structure Ew (p q:PTS) (R:XX) (γ:Γ):Prop where
 w:∃J:Γ->Prop,p {R with nx:=J} γ/\∀γ',J γ'->q R γ'
noncomputable def CH(p q:PTS):PTS:=λR γ=>Ew p q R γ
def Zc8(r:Ul K mg E t p)(hq:Ul K mg E u q):Ul K mg E (FV t u) (CH p q):=by
 intro H0 B H σ γ R D o l h e;obtain⟨J,h,k⟩:=h.w;refine⟨λf H'=>∃b,J b/\Ue K H0 B H' f b/\Fr B H σ γ H' f b,r H0 B H σ γ _ _ o l h ⟨λf b H' g n f1=>⟨b,g,n,f1⟩,e.rt,e.ex,e.bk,e.ct,e.rv⟩,?_⟩;rintro f H' ⟨b,g,n,f1⟩;exact hq H0 B H' f b R D o n (k b g) (e.from f1)
noncomputable def Af(i:Nat)(p:PTS):PTS:=λR γ=>p R (frz i γ)
def Gq(i:Nat)(g:Ul K mg E t p):Ul K mg E t (Af i p):=by
 intro H0 B H σ γ R D f b h e;obtain⟨l,f1⟩:=b.frz f i;exact g H0 B H σ _ R D f l h (e.from f1)
noncomputable def Sk(a:PTE)(g:PTG):PTS:=λR γ=>a γ (λs=>g s γ R.nx) (R.ex γ)
def SA(y:Ub K mg E te a)(w:Kh K L g r):Ul K mg E (Tr te g) (Sk a r):=by
 intro H0 B H σ γ R D M b h e;refine y H0 B H σ γ _ _ _ b h (λs v H1 A J o=>?_) λc H' x n=>e.ex σ γ c H' x (b.grow n) (Fr.grow n);exact w H0 B H H1 σ γ s v _ _ b J o A λf l z G C _=>e.nx f l H1 z G C
noncomputable def BS(i:Nat)(f:Int->Int->Int)(a:PTE):PTS:=λR γ=>match γ[i]? with
 |some (some<|.sh<|.int x)=>a γ (λy=>match y.d with | .int j=>R.nx (γ.set i<|some<|.sh<|.int<|f x j)|_=>False) (R.ex γ)
 |_=>False
def Zc7(z:Ub K mg E te a):Ul K mg E (DB i te<|ipI f) (BS i f a):=by
 intro H0 B H σ γ R D L b h e;unfold BS at h;split at h
 ·rename_i x hx;obtain⟨v,C,A⟩:=b.slot i _ hx;refine⟨v,C,z H0 B H σ γ _ _ _ b h (λy u H1 l n r=>?_) λc H' w o=>e.ex σ γ c H' w (b.grow o) (Fr.grow o)⟩;have g:=r.rp (b.grow n).same;split at l
  ·rename_i j G;rw[G]at g;refine⟨x,j,Rp.int_inv A,g.int_inv,?_⟩;obtain⟨J,f1⟩:=b.set (s:=.sh (.int<|f x j)) n (.int _) rfl;exact e.nx _ _ H1 l J f1
  ·grind
 ·grind
noncomputable def G1(a:PTE):PTS:=λR γ=>a γ R.rt (R.ex γ)
def UT(o:Ub K mg E te a):Ul K mg E (PY te) (G1 a):=by
 intro H0 B H σ γ R D x f h e;refine o H0 B H σ γ _ _ _ f h (λs v H1 r w l=>?_) λc H' n g=>e.ex σ γ c H' n (f.grow g) (Fr.grow g);exact e.rt s v H1 r (f.same.trans w) (TV.weak f.same (λb z=>.inl z) l)
noncomputable def BC(i:Nat):PTS:=λR γ=>match γ[i]? with|some (some s)=>R.rt s|_=>False
def Hw(i:Nat):Ul K mg E (PY<|XG i) (BC i):=by
 intro H0 B H σ γ R D C f h e;unfold BC at h;split at h
 ·rename_i s n;obtain⟨v,o,g⟩:=f.slot i _ n;refine⟨v,o,e.rt s v H h f.same ?_⟩;cases s with
  |bor d=>exact g
  |sh d=>exact Rp.mono (Um (Same.refl _) λb _ _ z y=>z (.inl y)) g
  |own r=>
   obtain⟨l,rfl,A,x⟩:=g;exact⟨l,rfl,A,x.mono (Um (Same.refl _) λb _ _ z y=>z (y.elim .inl λw=>.inr ⟨i,r,l,n,o,w⟩)) λ_ _ _ q=>q⟩
  |view r=>exact g.elim
  |tmp d=>trivial
 ·grind
noncomputable def AV(c:PTT)(p q:PTS):PTS:=λR γ=>c γ (λb=>if b=true then p R γ else q R γ) (R.ex γ)
def Mv(l:UN K mg E tt c)(v:Ul K mg E t p)(hq:Ul K mg E u q):Ul K mg E (Dp tt t u) (AV c p q):=by
 intro H0 B H σ γ R D r f h e;refine l H0 B H σ γ _ _ _ f h (λb H1 o g=>?_) λc H' l s=>e.ex σ γ c H' l (f.grow s) (Fr.grow s);split at o
 ·rename_i n;rw[Wj n];exact v H0 B H1 σ γ R D r (f.grow g) o (e.from<|Fr.grow g)
 ·rename_i n;rw[Wf n];exact hq H0 B H1 σ γ R D r (f.grow g) o (e.from<|Fr.grow g)
noncomputable def Eh(a:PTE):PTS:=λR γ=>a γ (λ_=>R.nx γ) (R.ex γ)
def B4(n:Ub K mg E te a):Ul K mg E (T1 te) (Eh a):=by
 intro H0 B H σ γ R D w b h e;exact n H0 B H σ γ _ _ _ b h (λs v H1 o f r=>e.nx σ γ H1 o (b.grow f) (Fr.grow f)) λc H' l g=>e.ex σ γ c H' l (b.grow g) (Fr.grow g)
noncomputable def Zav:PTS:=λ_ _=>False
def Xg:Ul K mg E DY Zav:=λ_ _ _ _ _ _ _ _ _ h _=>h
noncomputable def AG(x:Str)(r:PTA):PTS:=λR γ=>r γ (λb=>b.length<=1000/\R.ex γ x) (R.ex γ)
def TVs.len:∀{ss}{vs:List V},TVs K Z H0 H H' ss vs->vs.length=ss.length:=by
 intro ss
 induction ss with
 |nil=>
  intro _ h;cases h
  rfl
 |cons _ _ b=>
  intro _ h;cases h with
  |cons h r=>
   exact WA (· + 1) (b r)
def OA{g r f}(v:Uo K mg (λ_=>f) g r)(hx:autoParam (KC x=none) au_0):Ul K mg (λ_=>f) (ExcR.Ek (ExcR.Ug mg x) f g) (AG x r):=by
 intro H0 B H σ γ R D A b h e;refine v H0 B H σ γ _ _ _ b h (λz y H1 l n s=>⟨?_,?_⟩) λc H' w o=>e.ex σ γ c H' w (b.grow o) (Fr.grow o)
 ·rw[s.len];exact SK l.1
 ·exact(e.ex σ γ x H1 l.2 (b.grow n)<|Fr.grow n).plain hx
def Cd(i j:Nat)(γ:Γ)(R:Γ->Prop):List S->Prop
 |[.sh d,.sh e]=>R ((γ.set i<|some<|.sh d).set j (some<|.sh e))
 |_=>False
noncomputable def Zb9(i j:Nat)(r:PTA):PTS:=λR γ=>r γ (Cd i j γ R.nx) (R.ex γ)
def LS{o r}(N:Uo K mg E o r):Ul K mg E (FI i j o) (Zb9 i j r):=by
 intro H0 B H σ γ R D hB f h e;refine N H0 B H σ γ _ _ _ f h (λss vs H1 n S1 g=>?_) λc H' Q v=>e.ex σ γ c H' Q (f.grow v) (Fr.grow v);unfold Cd at n;split at n
 ·rename_i d e';cases g with
  |cons C g=>
   cases g with
   |cons A g=>
    cases g
    rename_i y w;refine⟨_,_,rfl,?_⟩;obtain⟨Y,f1⟩:=f.set S1 C rfl
    have l:TV K (zof B (γ.set i<|some<|.sh d)<|σ.set i<|some y) H0 H1 H1 (.sh e') w:=by
     refine Rp.mono (Um (Same.refl _) λb _ _ M z=>M ?_) A;rcases z with z|⟨k,ds,x,L,s,J⟩
     ·exact .inl z
     ·rcases U1 L with⟨_,q,_⟩|⟨G,q⟩
      ·cases q
      ·rw[Xv G]at s;exact .inr ⟨k,ds,x,q,s,J⟩
    obtain⟨U,T⟩:=Y.set (Same.refl _) l rfl;exact e.nx _ _ H1 n U (f1.trans T)
 ·grind
noncomputable def clr:Yh->Γ->Γ
 |[],γ=>γ
 |i::r,γ=>clr r (γ.set i none)
theorem Ue.clr:∀b {γ:Γ},Ue K H0 B H σ γ->Ue K H0 B H σ (clr b γ)/\Fr B H σ γ H σ (Pu.clr b γ)
 |[],_,e=>⟨e,Fr.refl⟩
 |i::r,γ,e=>by
  obtain⟨h,f1⟩:=e.drop i;obtain⟨g,f⟩:=Ue.clr r h;exact⟨g,f1.trans f⟩
def Later(H0:Hp)(Z:Addr->Prop)(H1:Hp)(Z':Addr->Prop)(H':Hp):Prop:=Same H0 H'/\(∀b,Z' b->Mut (H' b))/\∀b o,H1 b=some o->¬Z b->H' b=some o/\¬Z' b
def Later.of (e:Ue K H0 B H' b g) (f:Fr B H1 σ γ H' b g):Later H0 (zof B γ σ) H1 (zof B g b) H':=⟨e.same,e.zm,f⟩
def Later.off (l:Later H0 Z H1 Z' H'):Same (off Z H1) (Pu.off Z' H'):=λb o h=>by
 obtain⟨r,n⟩:=XD h;obtain⟨g,f⟩:=l.2.2 b o r n;exact UA g f
structure Gx (K:Ya) (H0:Hp) (B:Addr->Prop) (H1:Hp) (σ:L2.St) (γ:Γ) (J:It) (n:Nat) (item:Nat->S):Prop where
 go:∀(i:Nat) (H':Hp) (Z':Addr->Prop),i<n->Later H0 (zof B γ σ) H1 Z' H'->J.go i H'/\∀x H'',J.yld i H' x H''->Same H' H''/\TV K Z' H0 H' H'' (item i) x
 stop:∀(H':Hp) (Z':Addr->Prop),Later H0 (zof B γ σ) H1 Z' H'->J.stop n H'
abbrev PTI:=Γ->(Nat->(Nat->S)->Prop)->XR->Prop
def SndI(K:Ya)(mg:Ye)(E:L2.St->XK)(b:TI)(f:PTI):Prop:=∀(H0:Hp) (B:Addr->Prop) (H:Hp) (σ:L2.St) (γ:Γ) (R:Nat->(Nat->S)->Prop) (X:XR) (Q:It->Hp->Prop),Ue K H0 B H σ γ->f γ R X->
 (∀n item J H1,R n item->Same H H1->Gx K H0 B H1 σ γ J n item->Q J H1)->(∀c H',X c->Same H H'->XE mg (E σ) c H')->b σ H Q
structure PB (js:Yh) (γ:Γ) (g:PTG) (body:PTS) (R:XX) (n:Nat) (item:Nat->S):Prop where
 w:∃inv:Nat->Γ->Prop,inv 0 (clr js γ)/\
 (∀i γ',i<n->inv i γ'->g (item i) γ' λγ2=>body {R with nx:=λγ3=>inv (i+1) (clr js γ3),ct:=λγ3=>inv (i+1) (clr js γ3),bk:=R.nx} γ2)/\∀γ',inv n γ'->R.nx γ'
noncomputable def FD(b:Yh)(f:PTI)(g:PTG)(body:PTS):PTS:=λR γ=>f γ (λn item=>PB b γ g body R n item) (R.ex γ)
def L5{wi g it pg}(L:Yh)(hi:SndI K mg E wi it)(hg:Kh K is g pg)(hb:Ul K mg E t p):Ul K mg E (EA wi g t) (FD L it pg p):=by
 intro H0 B H σ γ R D hB N h e;refine hi H0 B H σ γ _ _ _ N h (λn item J H1 h1 Y ok=>?_) λc H' hc S'=>e.ex σ γ c H' hc (N.grow S') (Fr.grow S');obtain⟨inv,h0,hs,hd⟩:=h1.w;have G:=N.grow Y;refine⟨λi m s H'=>m=n-i/\i<=n/\∃b,inv i b/\Ue K H0 B H' s b/\Fr B H1 σ γ H' s b,⟨n,by simp,Qe _,_,h0,(G.clr L).1,(G.clr L).2⟩,?_⟩;rintro i m s H' ⟨rfl,hin,b,U,e',f'⟩;by_cases M:i<n
 ·obtain⟨go,yl⟩:=ok.go i H' _ M (Later.of e' f');refine .inr ⟨go,λr H2=>∃o,inv (i+1) o/\Ue K H0 B H2 r o/\Fr B H1 σ γ H2 r o,λr H2 ⟨o,a1,a2,a3⟩=>⟨n-(i+1),by lia,rfl,M,o,a1,a2,a3⟩,λx T y=>?_⟩;obtain⟨S2,tv⟩:=yl x T y;refine hg H0 B H' T s b _ _ _ _ e' S2 tv (hs i b M U) λr o q2 e2 f2 _=>?_;have fall:=f'.trans f2;refine hb H0 B T r o _ _ hB e2 q2 ⟨λf l Q A z C=>?_,e.rt,λf l c Q A z C=>e.ex f l c Q A z ((Fr.grow Y).trans (fall.trans C)),λf l Q A z C=>e.nx f l Q A z ((Fr.grow Y).trans (fall.trans C)),λf l Q A z C=>?_,λf l d v Q A z C=>e.rv f l d v Q A z ((Fr.grow Y).trans (fall.trans C))⟩
  ·exact⟨_,A,(z.clr L).1,(fall.trans C).trans (z.clr L).2⟩
  ·exact⟨_,A,(z.clr L).1,(fall.trans C).trans (z.clr L).2⟩
 ·have:i=n:=by lia
  subst this;exact .inl ⟨ok.stop H' _ (Later.of e' f'),e.nx s b H' (hd b U) e' ((Fr.grow Y).trans f')⟩
noncomputable def S.fix:S->Bool
 | .bor _=>true | .sh _=>true | .own (.nsl _ _)=>false | .own _=>true|_=>false
noncomputable def pIL(a:PTE):PTI:=λγ R X=>a γ (λs=>match s.d with
 | .lst f=>s.fix=true/\R f.length λi=>s.sub (f.getD i .non)
 | .scr b=>s.fix=true/\R b.length λi=>.sh (.int<|b.getD i 0)
 |_=>False) X
def TV.last (env:Ue K H0 B H σ γ) (J:Same H H1) (b:TV K (zof B γ σ) H0 H H1 s v) (A:s.fix=true) (n:s.d=.lst ds):∃l vs,v=.ref l/\vs.length=ds.length/\
  ∀H' Z',Later H0 (zof B γ σ) H1 Z' H'->H' l=some (.lst vs)/\∀(i:Nat) d,ds[i]?=some d->∃u,vs[i]?=some u/\TV K Z' H0 H' H' (s.sub d) u:=by
 have f:∀{s:S},(∀d,s.sub d=.sh d)->Rp K (Pu.off (zof B γ σ) H1) (.lst ds) v->∃l vs,v=.ref l/\vs.length=ds.length/\
   ∀H' Z',Later H0 (zof B γ σ) H1 Z' H'->H' l=some (.lst vs)/\∀i d,ds[i]?=some d->∃u,vs[i]?=some u/\TV K Z' H0 H' H' (s.sub d) u:=λL h=>by
  obtain⟨l,vs,rfl,y,g⟩:=Rp.lst_inv h;refine⟨l,vs,rfl,g.len,λH' Z' lt=>⟨off_sub _ _ (lt.off _ _ y),λi d o=>?_⟩⟩;obtain⟨u,w,r⟩:=g.get o;refine⟨u,w,?_⟩;rw[L];exact Rp.mono lt.off r
 cases s with
 |bor d=>
  have b:=Rp.strip b;rw[show d.strip=.lst ds from n]at b
  obtain⟨l,vs,rfl,y,g⟩:=Rp.lst_inv b;refine⟨l,vs,rfl,g.len,λH' Z' lt=>⟨lt.1 _ _ y,λi d o=>?_⟩⟩;obtain⟨u,w,r⟩:=g.get o;exact⟨u,w,Pf lt.2.1 lt.1 r⟩
 |sh d=>
  have:=n
  subst this;exact f (λ_=>rfl) b
 |own z=>
  cases z with
  |dK z|dT z|ins x C xs G|nst G=>cases n
  |nsl a G=>cases A
  |_=>
   cases n
   exact f (λ_=>rfl) (b.shd (env.grow J).same env.zm J rfl)
 |_=>cases A
def RY(ha:Ub K mg E te a):SndI K mg E (Nz K te) (pIL a):=by
 intro H0 B H σ γ R X Q g h q qx;refine ha H0 B H σ γ _ X _ g h (λs v H1 o L n=>?_) qx;have b:=g.grow L;split at o
 ·rename_i U A;obtain⟨l,C,rfl,hn,f⟩:=n.last g L o.1 A;obtain⟨M,_⟩:=f H1 _ (Later.of b Fr.refl);refine⟨l,rfl,⟨C,SqL.of M⟩,q _ _ _ H1 o.2 L ⟨λi H' Z' J lt=>?_,λH' Z' lt=>?_⟩⟩
  ·obtain⟨r,k2⟩:=f H' Z' lt;have hd:U[i]?=some (U.getD i .non):=by rw[Wl,Wb J];rfl
   obtain⟨u,w,Y⟩:=k2 i _ hd;refine⟨⟨C,u,SqL.of r,w⟩,λx N y=>?_⟩;obtain⟨rfl,y⟩:=y
   have:=y C (SqL.of r)
   rw[w]at this;cases this
   exact⟨Same.refl _,Y⟩
  ·exact⟨C,SqL.of (f H' Z' lt).1,by lia⟩
 ·rename_i G A
  have z:∃l,v=.ref l/\∀H' Z',Later H0 (zof B γ σ) H1 Z' H'->SqL K H' l (G.map V.int):=by
   cases s with
   |bor d=>
    have n:=Rp.strip n;rw[show d.strip=.scr G from A]at n
    cases n with
    |scr z=>exact⟨_,rfl,λH' Z' lt=>lt.1.seq z⟩
   |sh d=>
    have:=A
    subst this;cases n with
    |scr z=>exact⟨_,rfl,λH' Z' lt=>off_sub.seq (lt.off.seq z)⟩
   |own T|view T=>cases T<;>cases A
   |tmp d=>cases o.1
  obtain⟨l,rfl,f⟩:=z;refine⟨l,rfl,⟨_,f H1 _ (Later.of b Fr.refl)⟩,q _ _ _ H1 o.2 L ⟨λi H' Z' J lt=>?_,λH' Z' lt=>?_⟩⟩
  ·have r:=f H' Z' lt
   have w:(G.map V.int)[i]?=some (.int<|G.getD i 0):=by
    rw[Wq,Wb J,Wl,Wb J];rfl
   refine⟨⟨_,_,r,w⟩,λx N y=>?_⟩;obtain⟨rfl,y⟩:=y
   have:=y _ r
   rw[w]at this;cases this
   exact⟨Same.refl _,.int _⟩
  ·exact⟨_,f H' Z' lt,by rw[Wc];exact Wk _⟩
 ·exact o.elim
def fR1(R:Nat->(Nat->S)->Prop):List D->Prop
 |[.int j]=>(-(2 ^ 62)<=j/\j<2 ^ 62)/\R j.toNat λi=>.sh (.int (0+(i:Int)))
 |_=>False
def fR2(R:Nat->(Nat->S)->Prop):List D->Prop
 |[.int i,.int j]=>(-(2 ^ 62)<=i/\i<2 ^ 62/\-(2 ^ 62)<=j/\j<2 ^ 62)/\R (j-i).toNat λk=>.sh (.int (i+(k:Int)))
 |_=>False
noncomputable def Eb(r:PTA):PTI:=λγ R X=>r γ (λb=>fR1 R (b.map S.d)) X
noncomputable def Gf(r:PTA):PTI:=λγ R X=>r γ (λb=>fR2 R (b.map S.d)) X
def Rps.one_inv (h:Rps K H [d] vs):∃v,vs=[v]/\Rp K H d v:=by
 cases h with
 |cons h r=>cases r;exact⟨_,rfl,h⟩
def Rps.two_inv (h:Rps K H [d,e] vs):∃v u,vs=[v,u]/\Rp K H d v/\Rp K H e u:=by
 cases h with
 |cons h r=>cases r with|cons b r=>cases r;exact⟨_,_,rfl,h,b⟩
def Eg{lo n}:Gx K H0 B H1 σ γ (Itr lo n) n λi=>.sh (.int (lo+(i:Int))):=by
 refine⟨λi H' Z' b lt=>⟨b,λx f y=>?_⟩,λH' Z' lt=>Wk _⟩;obtain⟨e,y⟩:=y;subst e y;exact⟨Same.refl _,.int _⟩
def IR(x:Uo K mg E n r):SndI K mg E (G2 n) (Eb r):=by
 intro H0 B H σ γ R X Q f h q w;refine x H0 B H σ γ _ X _ f h (λA z H1 b l o=>?_) w;have g:=o.rps (f.grow l).same;unfold fR1 at b;split at b
 ·rename_i j y;rw[y]at g;obtain⟨v,rfl,s⟩:=g.one_inv;rw[s.int_inv];exact⟨j,rfl,b.1.1,b.1.2,q _ _ _ H1 b.2 l Eg⟩
 ·grind
def OL(y:Uo K mg E n r):SndI K mg E (AC n) (Gf r):=by
 intro H0 B H σ γ R X Q b h q x;refine y H0 B H σ γ _ X _ b h (λC A H1 f l o=>?_) x;have g:=o.rps (b.grow l).same;unfold fR2 at f;split at f
 ·rename_i i j z;rw[z]at g;obtain⟨v,u,rfl,w,s⟩:=g.two_inv;rw[w.int_inv,s.int_inv];exact⟨i,j,rfl,f.1,q _ _ _ H1 f.2 l Eg⟩
 ·grind
end
section
variable {K:Ya}{mg:Ye}{E:L2.St->XK}{H0 H H1 H':Hp}{B Z Z':Addr->Prop}{σ:L2.St}{γ:Γ}
noncomputable def Kp(N:Yj)(ds:List D):Γ:=ds.map (λd=>some (arg d))++List.replicate (N.length-ds.length) none
def RH{ds vs}(r:Rps K H ds vs)(x:ds.length<=N.length):Ue K H (λb=>Mut (H b)) H (start N vs) (Kp N ds):=by
 have get:∀i s,(Kp N ds)[i]?=some (some s)->∃d,ds[i]?=some d/\s=arg d:=λi s h=>by
  unfold Kp at h;by_cases g:i<ds.length
  ·rw[Qd (by rw[Wc];exact g),Wq,Wb g]at h;exact⟨_,Wb g,(Wp<|Wp h).symm⟩
  ·rw[Qr (by rw[Wc];lia),QU]at h;split at h<;>cases h
 have noown:∀(i:Nat) f,(Kp N ds)[i]?≠some (some<|.own f):=λi f h=>by
  obtain⟨d,_,e⟩:=get i _ h;rcases Fe d with q|q<;>rw[q]at e<;>cases e
 refine⟨Same.refl _,?_,λb h=>h,λi j a y f w b h=>absurd h (noown i f),λi s h=>?_⟩
 ·unfold L2.start Kp;simp[r.len]
 ·obtain⟨d,u,rfl⟩:=get i s h;obtain⟨v,n,o⟩:=r.get u;refine⟨v,?_,?_⟩
  ·unfold L2.start;rw[Qd (by rw[Wc];exact(WI.mp n).1),Wq,n];rfl
  ·have l:=Pf (Z:=zof (λb=>Mut (H b)) (Kp N ds) (start N vs)) (H:=H) (λb z=>z.elim id λ⟨k,f,_,p,_⟩=>absurd p (noown k f)) (Same.refl _) o;rcases Fe d with q|q<;>rw[q]at l ⊢<;>exact l
def OS{t p vs Q x n}(h:Uk mg c K vs H Q x)(o:Ul K mg (λ_=>x) t p)(J:n<=N.length)(q:∀ds R X,c ds R X->ds.length=n/\p {nx:=λ_=>R (.sh .non),rt:=R,ex:=λ_ e=>X e} (Kp N ds)):t {nx:=λ_ H'=>Q .non H',rt:=Q} (start N vs) H:=by
 obtain⟨ds,R,X,r,A,w,C⟩:=h;obtain⟨e,q⟩:=q ds R X A;refine o H (λb=>Mut (H b)) H _ _ _ _ (λb z=>P8 z) (RH r<|by lia) q ⟨λg l H' f u f1=>w _ _ H' f u.same .non,λs v H' f G y=>w s v H' f G y,λg l c H' f u f1=>C c H' f u.same,λ_ _ _ z=>z.elim,λ_ _ _ z=>z.elim,λ_ _ _ _ _ z=>z.elim⟩
def M6(h:Uk mg c K vs H Q g)(b:∀ds R X,c ds R X->ds.length=n):vs.length=n:=by
 obtain⟨ds,R,X,r,f,_⟩:=h;rw[r.len]
 grind
noncomputable def atP(φ:Yg)(γ:Γ):Γ:=φ.map λo=>o.bind λj=>(γ[j]?).join
structure Ti (φ:Yg) (γ:Γ) (g:PTG) (c:PTT) (e:PTE) (n:Nat) (item:Nat->S) (R:S->Prop):Prop where
 w:n<=100000/\∃f:Nat->Option D,(∀i,i<n->g (item i) (atP φ γ) λγ2=>c γ2 (λb=>if b=true then e γ2 (λs=>∃d,s.shd=some d/\f i=some d) (λ_=>False)else f i=none) (λ_=>False))/\R (.own ((List.range n).filterMap f))
noncomputable def B6(φ:Yg)(b:PTI)(g:PTG)(c:PTT)(e:PTE):PTE:=λγ R X=>b γ (λn item=>Ti φ γ g c e n item R) X
def Ny{i:Nat}{s}(h:(atP φ γ)[i]?=some (some s)):∃j,φ[i]?=some (some j)/\γ[j]?=some (some s):=by
 unfold atP at h;cases e:φ[i]? with
 |none=>grind
 |some o=>
  cases o with
  |_=>grind
theorem NL:∀{φ:Yg},(φ.filterMap id).Nodup->∀(i j k:Nat),φ[i]?=some (some k)->φ[j]?=some (some k)->i=j
 |[],_,i,_,_,h,_=>by simp at h
 |none::r,l,i,j,k,f,b=>by
  cases i with
  |zero=>simp at f
  |succ i=>
   cases j with
   |zero=>simp at b
   |succ j=>exact WA (· + 1) (NL (by simpa using l) i j k (by simpa using f)<|by simpa using b)
 |some m::r,l,i,j,k,f,b=>by
  have g:m∉r.filterMap id/\(r.filterMap id).Nodup:=by simpa using l
  have n:∀{j:Nat},r[j]?=some (some k)->k∈r.filterMap id:=λh=>Vv.mpr ⟨some k,WE h,rfl⟩;cases i with
  |zero=>
   cases j with
   |zero=>rfl
   |succ j=>simp_all
  |succ i=>
   cases j with
   |zero=>simp_all
   |succ j=>exact WA (· + 1) (NL g.2 i j k (by simpa using f)<|by simpa using b)
def T5{i j:Nat}(f:φ[i]?=some (some j)){v}(b:σ[j]?=some (some v)):(atStart φ σ)[i]?=some (some v):=by
 unfold atStart
 grind
def CC{L}(env:Ue K H0 B H σ γ)(r:H L=none):∀b o,H b=some o->¬zof B γ σ b->¬zof (λb=>zof B γ σ b\/b=L) (atP φ γ) (atStart φ σ) b:=λb o u z y=>by
 rcases y with(y|y)|⟨s,q,x,n,f,l⟩
 ·grind
 ·grind
 ·obtain⟨m,p,h⟩:=Ny n;obtain⟨w,g,_⟩:=env.slot m _ h;rw[T5 p g]at f;exact z (.inr ⟨m,q,x,h,by rw[g];exact WA some (Wp f),l⟩)
def IE{L}(env:Ue K H0 B H σ γ)(n:Same H H')(M:H L=none)(N:∃r,H' L=some (.lst r))(q:(φ.filterMap id).Nodup) :
  Ue K H0 (λb=>zof B γ σ b\/b=L) H' (atStart φ σ) (atP φ γ):=by
 refine⟨env.same.trans n,by unfold atStart atP;simp,λb z=>?_,λi j a a' G es b h1 Y U C T Q=>?_,λi s h=>?_⟩
 ·rcases z with z|rfl
  ·exact Ke n (env.zm b z)
  ·obtain⟨r,e⟩:=N;rw[e];trivial
 ·obtain⟨k,g,f⟩:=Ny h1;obtain⟨l,A,y⟩:=Ny Y;obtain⟨v,p,_⟩:=env.slot k _ f;obtain⟨u,w,_⟩:=env.slot l _ y;rw[T5 g p]at U;rw[T5 A w]at C
  have:=env.own k l a a' G es b f y (by grind) (by rw[w];exact WA some (Wp C)) T Q
  subst this;exact NL q i j k g A
 ·obtain⟨k,g,f⟩:=Ny h;obtain⟨v,p,o⟩:=env.slot k _ f;have J:Same (off (zof B γ σ) H) (off (zof (λb=>zof B γ σ b\/b=L) (atP φ γ)<|atStart φ σ) H'):=Um n (CC env M);refine⟨v,T5 g p,?_⟩;cases s with
  |sh d=>exact Rp.mono J o
  |own G=>
   obtain⟨a,e1,e3,e4⟩:=o;exact⟨a,e1,e3,e4.mono J λb _ x=>n b x⟩
  |_=>exact o
def Sub.of {f:Yh} (g:b.length=σ.length) (l:∀j,j∉f->b[j]?=σ[j]?) (n:∀j∈f,∀v,σ[j]?≠some (some v)):Sub σ b:=⟨g,λi v e=>by
 by_cases h:i∈f
 ·grind
 ·rw[l i h];exact e⟩
structure Li (K:Ya) (H0:Hp) (B:Addr->Prop) (H1:Hp) (σ:L2.St) (γ:Γ) (J:It) (n:Nat) (item:Nat->S):Prop where
 go:∀(i:Nat) (H':Hp) (Z':Addr->Prop),i<n->Same H1 H'->Later H0 (zof B γ σ) H1 Z' H'->J.go i H'/\∀x H'',J.yld i H' x H''->Same H' H''/\TV K Z' H0 H' H'' (item i) x
 stop:∀(H':Hp) (Z':Addr->Prop),Same H1 H'->Later H0 (zof B γ σ) H1 Z' H'->J.stop n H'
def Nk(K:Ya)(mg:Ye)(E:L2.St->XK)(b:TI)(f:PTI):Prop:=∀(H0:Hp) (B:Addr->Prop) (H:Hp) (σ:L2.St) (γ:Γ) (R:Nat->(Nat->S)->Prop) (X:XR) (Q:It->Hp->Prop),Ue K H0 B H σ γ->f γ R X->
 (∀n item J H1,R n item->Same H H1->Li K H0 B H1 σ γ J n item->Q J H1)->(∀c H',X c->Same H H'->XE mg (E σ) c H')->b σ H Q
def SndI.c (h:SndI K mg E f l):Nk K mg E f l:=λH0 B H σ γ R X Q b p q g=>
 h H0 B H σ γ R X Q b p (λn item J H1 r s ok=>q n item J H1 r s ⟨λi H' Z' o _ lt=>ok.go i H' Z' o lt,λH' Z' _ lt=>ok.stop H' Z' lt⟩) g
noncomputable def CD(a:PTE):PTI:=λγ R X=>a γ (λs=>match s.d with
 | .lst b=>R b.length λi=>s.sub (b.getD i .non)
 | .tup b=>False
 | .scr f=>R f.length λi=>.sh (.int<|f.getD i 0)
 |_=>False) X
def Sl(ha:Ub K mg E te a):Nk K mg E (Nz K te) (CD a):=by
 intro H0 B H σ γ R X Q env h q qx;refine ha H0 B H σ γ _ X _ env h (λs v H1 h1 S1 A=>?_) qx;have M:=env.grow S1;split at h1
 ·rename_i ds G;have Y:=A.rp M.same;rw[G]at Y;obtain⟨l,U,rfl,f,r1⟩:=Y.lst_inv;refine⟨l,rfl,⟨U,SqL.of f⟩,q _ _ _ H1 h1 S1 ⟨λi H' Z' hi J lt=>?_,λH' Z' J lt=>⟨U,SqL.of (J _ _ f),by rw[r1.len];exact Wk _⟩⟩⟩;have N:ds[i]?=some (ds.getD i .non):=by rw[Wl,Wb hi];rfl
  have hi':∃u,U[i]?=some u/\TV K Z' H0 H' H' (s.sub<|ds.getD i .non) u:=by
   cases s with
   |bor d=>
    have A:=Rp.strip A;rw[show d.strip=.lst ds from G]at A
    obtain⟨T,o,w,r,p⟩:=Rp.lst_inv A;cases w
    rw[M.same _ _ r]at f;cases f
    obtain⟨u,n,g⟩:=p.get N;exact⟨u,n,Pf lt.2.1 lt.1 g⟩
   |sh d=>
    have:=G
    subst this;obtain⟨T,o,w,r,p⟩:=Rp.lst_inv A;cases w
    rw[off_sub _ _ r]at f;cases f
    obtain⟨u,n,g⟩:=p.get N;exact⟨u,n,Rp.mono lt.off g⟩
   |own L=>
    cases L with
    |dK L|dT L|ins x C xs cs|nst cs=>cases G
    |nsl x cs=>
     obtain⟨u,n,g⟩:=r1.get N;exact⟨u,n,XI lt.2.1 (Rp.mono J g)⟩
    |lsA x L=>
     cases G
     obtain⟨T,w,h0,_,o,r,p⟩:=A;cases w
     rw[r]at f;cases f
     obtain⟨u,n,g⟩:=p.get N;exact⟨u,n,Rp.mono lt.off (Rp.mono (Um (Same.refl _) λb _ _ z y=>z (.inl y)) g)⟩
    |lst L=>
    cases G
    obtain⟨T,w,h0,o,r,p⟩:=A;cases w
    rw[r]at f;cases f
    obtain⟨u,n,g⟩:=p.get N;exact⟨u,n,Rp.mono lt.off (Rp.mono (Um (Same.refl _) λb _ _ z y=>z (.inl y)) g)⟩
   |view L=>
    cases L with
    |dK L|dT L|ins x C xs cs|nst cs=>cases G
    |nsl x cs=>
     obtain⟨u,n,g⟩:=r1.get N;exact⟨u,n,XI lt.2.1 (Rp.mono J g)⟩
    |lsA x L=>
     cases G
     obtain⟨T,w,_,o,r,p⟩:=A;cases w
     rw[r]at f;cases f
     obtain⟨u,n,g⟩:=p.get N;exact⟨u,n,Rp.mono lt.off g⟩
    |lst L=>
    cases G
    obtain⟨T,w,o,r,p⟩:=A;cases w
    rw[r]at f;cases f
    obtain⟨u,n,g⟩:=p.get N;exact⟨u,n,Rp.mono lt.off g⟩
   |tmp d=>
    have:=G
    subst this;obtain⟨T,o,w,r,p⟩:=Rp.lst_inv A;cases w
    rw[r]at f;cases f
    obtain⟨u,n,g⟩:=p.get N;exact⟨u,n,XI lt.2.1 (Rp.mono J g)⟩
  obtain⟨u,hu,tu⟩:=hi';refine⟨⟨U,u,SqL.of (J _ _ f),hu⟩,λx H'' y=>?_⟩;obtain⟨rfl,y⟩:=y
  have:=y U (SqL.of<|J _ _ f)
  rw[hu]at this;cases this
  exact⟨Same.refl _,tu⟩
 ·exact h1.elim
 ·rename_i ns G;have Y:=A.rp M.same;rw[G]at Y;cases Y with
  |scr hs=>
   refine⟨_,rfl,⟨_,hs⟩,q _ _ _ H1 h1 S1 ⟨λi H' Z' hi J lt=>?_,λH' Z' J lt=>⟨_,J.seq hs,by rw[Wc];exact Wk _⟩⟩⟩
   have hu:(ns.map V.int)[i]?=some (.int<|ns.getD i 0):=by
    rw[Wq,Wb hi,Wl,Wb hi];rfl
   refine⟨⟨_,_,J.seq hs,hu⟩,λx H'' y=>?_⟩;obtain⟨rfl,y⟩:=y
   have:=y _ (J.seq hs)
   rw[hu]at this;cases this
   exact⟨Same.refl _,.int _⟩
 ·exact h1.elim
def PM{φ is wi g tc te it pg c a}(hi:Nk K mg E wi it)(hg:Kh K is g pg)(hc:UN K mg E tc c)(he:Ub K mg E te a)(h1:autoParam ((φ.filterMap id).Nodup) au_1)(h2:autoParam (∀j∈is,φ[j]?=some none) au_1):Ub K mg E (PL φ wi g tc te) (B6 φ it pg c a):=by
 intro H0 B H σ γ R X Q env h q qx;refine hi H0 B H σ γ _ X _ env h (λn item J H1 h1' S1 ok=>?_) qx;obtain⟨hn,f,hf,hR⟩:=h1'.w;have l:=env.grow S1;have hbig:n<=sizeLine:=Wt hn (by decide);intro L U;refine⟨λi m G C=>m=n-i/\i<=n/\Same H1 C/\C L=some (.lst G)/\Rps K (off (λb=>zof B γ σ b\/b=L) C) ((List.range i).filterMap f) G,⟨n,by simp,Qe _,US U,Ut,.nil⟩,?_⟩;rintro i m G C ⟨rfl,hin,u,hL,p⟩;have A:=l.grow u;by_cases r:i<n
 ·have envI2:=IE l u U ⟨G,hL⟩ h1;obtain⟨go,yl⟩:=ok.go i C _ r u ⟨A.same,envI2.zm,λb o Y z=>⟨u _ _ Y,CC l U b o Y z⟩⟩;refine .inr ⟨go,λx H3 y=>?_⟩;obtain⟨S3,tv⟩:=yl x H3 y;refine hg H0 _ C H3 _ _ _ _ _ _ envI2 S3 tv (hf i r) λN T p2 e2 f2 k2=>⟨?_,?_⟩
  ·refine Sub.of k2.2 k2.1 λj hj v z=>?_;obtain⟨k,k1,_⟩:=FU z;rw[h2 j hj]at k1;cases k1
  ·refine hc H0 _ H3 N T _ _ _ e2 p2 (λb H5 q5 S5=>?_) λ_ _ z=>z.elim;have e5:=e2.grow S5;cases b with
   |false=>
    rw[Wf Ww]at q5 ⊢;refine⟨n-(i+1),by lia,rfl,r,(u.trans S3).trans S5,(S3.trans S5) _ _ hL,?_⟩;rw[List.range_succ,QA];simp only[Qi,q5,List.filterMap_nil,W2];exact Rps.mono (Um (S3.trans S5) λ_ _ _ z=>z) p
   |true=>
    refine he H0 _ H5 N T _ _ _ e5 q5 (λs v H6 q6 S6 t6=>?_) λ_ _ z=>z.elim;obtain⟨d,hd,hfd⟩:=q6;have M:=(S3.trans S5).trans S6
    have hlen:G.length<=i:=by
     rw[p.len];exact Wt (List.length_filterMap_le _ _) (by rw[List.length_range];exact Wk _)
    refine⟨M _ _ hL,by lia,n-(i+1),by lia,rfl,r,λb o Y=>?_,Ut,?_⟩
    ·rw[Uj (UC Y U)];exact M _ _ (u _ _ Y)
    ·rw[List.range_succ,QA];have ef:[i].filterMap f=[d]:=by simp[hfd]
     rw[ef]
     have So:Same (off (λb=>zof B γ σ b\/b=L) H6) (off (λb=>zof B γ σ b\/b=L)<|upd H6 L<|.lst (G++[v])):=λb o h=>by
      obtain⟨a1,a2⟩:=XD h;refine UA ?_ a2;rwa[Uj λz=>a2 (.inr z)]
     refine Rps.append (Rps.mono So<|Rps.mono (Um M λ_ _ _ z=>z) p) (.cons (Rp.mono So<|Rp.mono (Um (Same.refl _) λb _ _ z y=>z (.inl y)) (t6.shd (e5.grow S6).same e5.zm S6 hd)) .nil)
 ·have:i=n:=by lia
  subst this;exact .inl ⟨ok.stop C _ u (Later.of A<|Fr.grow u),q _ _ C hR (S1.trans u) ⟨L,rfl,(λ_ e=>e▸S1.free U),G,hL,p⟩⟩
noncomputable def SW:PTT:=λ_ R _=>R true
def Nv:UN K mg E Az SW:=λ_ _ H _ _ _ _ _ _ p q _=>q _ H p (Same.refl _)
def Zcm{b g:Type}(xs:List b)(f:b->Option g):(List.range xs.length).filterMap (λi=>(xs[i]?).bind f)=xs.filterMap f:=by
 induction xs with
 |nil=>rfl
 |cons x r h=>
  rw[WW,List.range_succ_eq_map,Qi,List.filterMap_map,Qi];have e:(λi=>((x::r)[i]?).bind f)∘Nat.succ=λi=>(r[i]?).bind f:=rfl;rw[e,h];rfl
end
open M
section
variable {K:Ya}{mg:Ye}{E:L2.St->XK}{H0 H H1 H':Hp}{B Z Z':Addr->Prop}{σ:L2.St}{γ:Γ}
noncomputable def pCB(f:List S->(S->Prop)->Prop)(r:PTA):PTE:=λγ R X=>r γ (λb=>f b R) X
def XZ{f o r}(A:Uo K mg E o r)(h:∀H0 H H1 Z l vs R Q,Same H0 H1->Same H H1->(∀b,Z b->Mut (H b))->TVs K Z H0 H H1 l vs->f l R->(∀s z H',R s->Same H1 H'->TV K Z H0 H H' s z->Q z H')->w vs H1 Q) :
  Ub K mg E (tCB w o) (pCB f r):=by
 intro H0 B H σ γ R X Q g p q x;refine A H0 B H σ γ _ X _ g p (λl vs H1 C n v=>?_) x;exact h H0 H H1 _ l vs R Q (g.grow n).same n g.zm v C λs z H' y G u=>q s z H' y (n.trans G) u
noncomputable def S.free:S->List D->Bool
 | .bor _,b=>UU b | .tmp _,b=>UU b | .view (.nst _),b=>UU b | .view (.nsl _ _),b=>UU b|_,_=>true
def TVs.one_inv (h:TVs K Z H0 H H' [s] vs):∃v,vs=[v]/\TV K Z H0 H H' s v:=by
 cases h with
 |cons h r=>cases r;exact⟨_,rfl,h⟩
def TVs.two_inv (h:TVs K Z H0 H H' [s,t] vs):∃v u,vs=[v,u]/\TV K Z H0 H H' s v/\TV K Z H0 H H' t u:=by
 cases h with
 |cons h r=>cases r with|cons b r=>cases r;exact⟨_,_,rfl,h,b⟩
def TV.items (n:Same H0 H') (q:∀b,Z b->Mut (H b)) (A:Same H H') (h:TV K Z H0 H H' s v) (p:s.free ds=true) :
  (s.d=.lst ds->∃a vs,v=.ref a/\H' a=some (.lst vs)/\Rps K (off Z H') ds vs)/\(s.d=.tup ds->∃a vs,v=.ref a/\H' a=some (.tup vs)/\Rps K (off Z H') ds vs):=by
 have g:=λb z=>Ke A (q b z);cases s with
 |bor d=>
  have h:=Rp.strip h;refine⟨λe=>?_,λe=>?_⟩<;>rw[show d.strip=_ from e]at h
  ·obtain⟨a,vs,rfl,f,r⟩:=Rp.lst_inv h;exact⟨a,vs,rfl,n _ _ f,Rps.off g (Rps.mono n r) p⟩
  ·obtain⟨a,vs,rfl,f,r⟩:=Rp.tup_inv h;exact⟨a,vs,rfl,n _ _ f,Rps.off g (Rps.mono n r) p⟩
 |sh d=>
  refine⟨λe=>?_,λe=>?_⟩<;>(have u:=e;subst u)
  ·obtain⟨a,vs,rfl,f,r⟩:=Rp.lst_inv h;exact⟨a,vs,rfl,off_sub _ _ f,r⟩
  ·obtain⟨a,vs,rfl,f,r⟩:=Rp.tup_inv h;exact⟨a,vs,rfl,off_sub _ _ f,r⟩
 |own o=>
  cases o with
  |nsl x w=>
   refine⟨λe=>?_,λe=>by cases e⟩;have l:=h.shd n q A rfl;cases e
   obtain⟨a,vs,rfl,f,r⟩:=Rp.lst_inv l;exact⟨a,vs,rfl,off_sub _ _ f,r⟩
  |nst w=>
   refine⟨(λe=>by cases e),λe=>?_⟩;have l:=h.shd n q A rfl;cases e
   obtain⟨a,vs,rfl,f,r⟩:=Rp.tup_inv l;exact⟨a,vs,rfl,off_sub _ _ f,r⟩
  |lst o=>
   refine⟨λe=>?_,λe=>by cases e⟩;cases e
   obtain⟨a,rfl,C,vs,e,r⟩:=h;exact⟨a,vs,rfl,e,Rps.mono (Um (Same.refl _) λb _ _ z y=>z (.inl y)) r⟩
  |lsA x o=>
   refine⟨λe=>?_,λe=>by cases e⟩;cases e
   obtain⟨a,rfl,C,_,vs,e,r⟩:=h;exact⟨a,vs,rfl,e,Rps.mono (Um (Same.refl _) λb _ _ z y=>z (.inl y)) r⟩
  |_=>exact⟨(λe=>by cases e),(λe=>by cases e)⟩
 |view o=>
  cases o with
  |nsl x w=>
   refine⟨λe=>?_,λe=>by cases e⟩;have l:=h.rp n;rw[e]at l;obtain⟨a,vs,rfl,f,r⟩:=Rp.lst_inv l;exact⟨a,vs,rfl,f,Rps.off g r p⟩
  |nst w=>
   refine⟨(λe=>by cases e),λe=>?_⟩;have l:=h.rp n;rw[e]at l;obtain⟨a,vs,rfl,f,r⟩:=Rp.tup_inv l;exact⟨a,vs,rfl,f,Rps.off g r p⟩
  |lst o=>
   refine⟨λe=>?_,λe=>by cases e⟩;cases e
   obtain⟨a,rfl,vs,e,r⟩:=h;exact⟨a,vs,rfl,e,r⟩
  |lsA x o=>
   refine⟨λe=>?_,λe=>by cases e⟩;cases e
   obtain⟨a,rfl,_,vs,e,r⟩:=h;exact⟨a,vs,rfl,e,r⟩
  |_=>exact⟨(λe=>by cases e),(λe=>by cases e)⟩
 |tmp d=>
  refine⟨λe=>?_,λe=>?_⟩<;>(have u:=e;subst u)
  ·obtain⟨a,vs,rfl,f,r⟩:=Rp.lst_inv h;exact⟨a,vs,rfl,f,Rps.off g r p⟩
  ·obtain⟨a,vs,rfl,f,r⟩:=Rp.tup_inv h;exact⟨a,vs,rfl,f,Rps.off g r p⟩
def Fm:List S->(S->Prop)->Prop
 |[s],R=>(match s.d with
  | .lst f=>R (.sh<|.int f.length) | .tup f=>R (.sh<|.int f.length) | .scr b=>R (.sh<|.int b.length) | .fL b=>R (.sh<|.int b.length) | .str x=>x.length<=sizeLine/\R (.sh<|.int x.length)|_=>False)
 |_,_=>False
def Et(A:Uo K mg E u r):Ub K mg E (tCB (λxs H Q=>∃x n,xs=[x]/\Np K x H n/\Q (.int n) H) u) (pCB Fm r):=by
 refine XZ A λH0 H H1 Z J G R Q y L M p h q=>?_;unfold Fm at h;split at h
 ·rename_i s;obtain⟨v,rfl,w⟩:=p.one_inv;have b:=w.rp y;split at h
  ·rename_i C e;rw[e]at b;obtain⟨a,f,rfl,o,g⟩:=b.lst_inv;exact⟨_,_,rfl,.inl ⟨f,SqL.of o,rfl⟩,by rw[g.len];exact q _ _ H1 h (Same.refl _) (.int _)⟩
  ·rename_i C e;rw[e]at b;obtain⟨a,f,rfl,o,g⟩:=b.tup_inv;exact⟨_,_,rfl,.inr ⟨f,SqT.of o,rfl⟩,by rw[g.len];exact q _ _ H1 h (Same.refl _) (.int _)⟩
  ·rename_i z e;rw[e]at b;cases b with
   |scr l=>exact⟨_,_,rfl,.inl ⟨_,l,rfl⟩,by rw[Wc];exact q _ _ H1 h (Same.refl _) (.int _)⟩
  ·rename_i z e;rw[e]at b;cases b with
   |fL l=>exact⟨_,_,rfl,.inl ⟨_,.inl (.inr ⟨_,l⟩),rfl⟩,by rw[Wc];exact q _ _ H1 h (Same.refl _) (.int _)⟩
  ·rename_i x e;rw[e]at b;rw[b.str_inv];exact⟨_,_,rfl,⟨h.1,rfl⟩,q _ _ H1 h.2 (Same.refl _) (.int _)⟩
  ·exact h.elim
 ·exact h.elim
def Ez:List S->(S->Prop)->Prop
 |[s],R=>(match s.d with
  | .lst b=>s.free b=true/\R (.own b) | .tup b=>s.free b=true/\R (.own b)|_=>False)
 |_,_=>False
def PX(C:Uo K mg E A r):Ub K mg E (tCB (λxs H Q=>∃p g,xs=[.ref p]/\(SqL K H p g\/SqT K H p g)/\∀l,H l=none->Q (.ref l) (upd H l<|.lst g)) A) (pCB Ez r):=by
 refine XZ C λH0 H H1 Z L J R Q x f y z h q=>?_;unfold Ez at h;split at h
 ·rename_i s;obtain⟨v,rfl,w⟩:=z.one_inv;split at h
  ·rename_i G e;obtain⟨a,n,rfl,u,o⟩:=(w.items x y f h.1).1 e;exact⟨a,n,rfl,.inl (SqL.of u),λl b=>q _ _ _ h.2 (US b) (K6 f b o)⟩
  ·rename_i G e;obtain⟨a,n,rfl,u,o⟩:=(w.items x y f h.1).2 e;exact⟨a,n,rfl,.inr (SqT.of u),λl b=>q _ _ _ h.2 (US b) (K6 f b o)⟩
  ·grind
 ·grind
theorem Rps.ints:∀{b:Yc}{vs:List V},Rps K H (b.map D.int) vs->vs=b.map V.int
 |[],_,.nil=>rfl
 |j::r,_,.cons h t=>by rw[Rp.int_inv h,Rps.ints t];rfl
theorem Rps.of_ints:∀(b:Yc),Rps K H (b.map D.int) (b.map V.int)
 |[]=>.nil
 |j::r=>.cons (.int j) (Rps.of_ints r)
def A1:List S->(S->Prop)->Prop
 |[s],R=>∃f:Yc,s.d=.lst (f.map D.int)/\f.length<64/\∀b:Yc,b.Perm f->b.Pairwise (·<=·)->R (.own<|b.map D.int)
 |_,_=>False
def Oq{f r}(J:Uo K mg E f r):Ub K mg E (tCB (λxs H Q=>∃p b,xs=[.ref p]/\b.length<64/\(SqL K H p (b.map V.int)\/H p=some (Kt w p b))/\
  ∀l (ns:Yc),H l=none->ns.Perm b->ns.Pairwise (·<=·)->Q (.ref l) (upd H l<|.lst<|ns.map V.int)) f) (pCB A1 r):=by
 refine XZ J λH0 H H1 Z T M R Q z y U u h q=>?_;unfold A1 at h;split at h
 ·rename_i s;obtain⟨v,rfl,x⟩:=u.one_inv;obtain⟨b,e,C,k⟩:=h;have g:=x.rp z;rw[e]at g;obtain⟨a,N,rfl,o,A⟩:=g.lst_inv;rw[A.ints]at o;exact⟨a,b,rfl,C,.inl (SqL.of o),λl ns n L G=>q _ _ _ (k ns L G) (US n) (K6 y n<|Rps.of_ints ns)⟩
 ·grind
def FM:List S->(S->Prop)->Prop
 |[s,t],R=>(match s.d,t.d with | .int i,.int j=>R (.sh<|.int (if j>i then j else i))|_,_=>False)
 |_,_=>False
def LL(s:Uo K mg E n r):Ub K mg E (tCB (λxs H Q=>∃i j,xs=[.int i,.int j]/\Q (.int (if j>i then j else i)) H) n) (pCB FM r):=by
 refine XZ s λH0 H H1 Z z y R Q b A C l h q=>?_;unfold FM at h;split at h
 ·obtain⟨v,u,rfl,p,o⟩:=l.two_inv;have g:=p.rp b;have f:=o.rp b;split at h
  ·rename_i i j x w;rw[x]at g;rw[w]at f;rw[g.int_inv,f.int_inv];exact⟨i,j,rfl,q _ _ H1 h (Same.refl _) (.int _)⟩
  ·grind
 ·grind
def Zc9:List S->(S->Prop)->Prop
 |[s],R=>(match s.d with | .int i=>R (.sh<|.int (if i<0 then -i else i))|_=>False)
 |_,_=>False
noncomputable def tyD:D->Option String
 | .int _=>some "int" | .bl _=>some "bool" | .non=>some "NoneType" | .str _=>some "str" | .tup _=>some "tuple" | .lst _=>some "list" | .fL _=>some "list" | .dK _=>some "dict" | .dT _=>some "dict" |_=>none
inductive UL:String->String->Bool->Prop
 |same (n:String):UL n n true
 |ib:UL "int" "bool" false
 |bi:UL "bool" "int" true
 |tl:UL "tuple" "list" false
 |lt:UL "list" "tuple" false
 |it:UL "int" "tuple" false
 |il:UL "int" "list" false
 |bt:UL "bool" "tuple" false
 |bL:UL "bool" "list" false
 |ti:UL "tuple" "int" false
 |li:UL "list" "int" false
 |si:UL "str" "int" false
 |is:UL "int" "str" false
 |ni:UL "NoneType" "int" false
 |nl:UL "NoneType" "list" false
 |nt:UL "NoneType" "tuple" false
def UL.kit (h:UL m n b):PySem.W.kitOne K (.type m) (.type n)=some b:=by
 cases h with
 |same=>exact O3 K _
 |_=>rfl
def AU:List S->(S->Prop)->Prop
 |[s,t],R=>(match tyD s.d,t.d with|some m,.ty n=>∃b,UL m n b/\R (.sh<|.bl b)|_,_=>False)
 |_,_=>False
def Mt(h:Rp K H d v)(e:tyD d=some m):UY K H v (.type m):=by
 cases h with
 |int i=>cases e;exact .int i
 |bl b=>cases e;exact .bl b
 |non=>cases e;exact .non
 |str x=>cases e;exact .str x
 |tup h r=>cases e;exact .tup h
 |lst h r=>cases e;exact .lst h
 |dK h=>cases e;exact .dK h
 |dT h=>cases e;exact .dT h
 |fL h=>cases e;exact .frz h
 |_=>cases e
def KL(w:Uo K mg E o r):Ub K mg E (tCB (λxs H Q=>∃x n t b,xs=[x,.ty n]/\UY K H x t/\PySem.W.kitOne K t (.type n)=some b/\Q (.bl b) H) o) (pCB AU r):=by
 refine XZ w λH0 H H1 Z G C R Q f J L l h q=>?_;unfold AU at h;split at h
 ·obtain⟨v,u,rfl,s,p⟩:=l.two_inv;have g:=p.rp f;split at h
  ·rename_i m n A z;rw[z]at g;rw[g.ty_inv];obtain⟨b,k,y⟩:=h;exact⟨v,n,_,b,rfl,Mt (s.rp f) A,k.kit,q _ _ H1 y (Same.refl _) (.bl _)⟩
  ·grind
 ·grind
noncomputable def pBM(f:S->List S->(S->Prop)->Prop)(a:PTE)(r:PTA):PTE:=λγ R X=>a γ (λs=>(∃g,s.d=.lst g)/\r γ (λb=>f s b R) X) X
def IL{f te y a r}(ha:Ub K mg E te a)(U:Uo K mg E y r)(h:∀H0 H H1 Z s v u vs R Q,Same H0 H1->Same H H1->(∀b,Z b->Mut (H b))->TV K Z H0 H H1 s v->TVs K Z H0 H H1 u vs->f s u R->(∀s z H',R s->Same H1 H'->TV K Z H0 H H' s z->Q z H')->N v vs H1 Q) :
  Ub K mg E (tBM K "list" N te y) (pBM f a r):=by
 intro H0 B H σ γ R X Q n p q G;refine ha H0 B H σ γ _ X _ n p (λs v H1 x o A=>?_) G;have g:=n.grow o;obtain⟨⟨ds,ed⟩,x⟩:=x;have C:=A.rp g.same;rw[ed]at C;obtain⟨l,J,rfl,Y,_⟩:=C.lst_inv;refine⟨.inl ⟨rfl,J,SqL.of Y⟩,U H0 B H1 σ γ _ X _ g x (λu vs H2 h2 w M=>?_) λc H' hc S'=>G c H' hc (o.trans S')⟩;exact h H0 H H2 _ s _ u vs R Q (g.grow w).same (o.trans w) n.zm (A.grow w) (TVs.weakG o M) h2 λs z H' T S3 L=>q s z H' T ((o.trans w).trans S3) L
def Fy:S->List S->(S->Prop)->Prop:=λs b R=>match b with
 |[t]=>(match t.d with | .int z=>∃xs:Yc,s.d=.lst (xs.map D.int)/\z∈xs/\R (.sh<|.int (xs.idxOf z:Nat))|_=>False)
 |_=>False
def Bv{a r}(C:Ub K mg E te a)(A:Uo K mg E p r):Ub K mg E (tBM K "list" (Fg K) te p) (pBM Fy a r):=by
 refine IL C A λH0 H H1 Z s v N L R Q g T U x w h q=>?_;unfold Fy at h;split at h
 ·obtain⟨u,rfl,f⟩:=w.one_inv;have n:=f.rp g;split at h
  ·rename_i z e;rw[e]at n;obtain⟨xs,J,y,G⟩:=h;have b:=x.rp g;rw[J]at b;obtain⟨l,M,rfl,o,b⟩:=b.lst_inv;rw[b.ints]at o;exact⟨l,xs,z,rfl,by rw[n.int_inv],SqL.of o,y,q _ _ H1 G (Same.refl _) (.int _)⟩
  ·grind
 ·exact h.elim
noncomputable def prD(p:Int×Int):D:=.tup [.int p.1,.int p.2]
inductive InR:D->D->Bool->Prop
 |li (i:Int) (hs:Yc):InR (.int i) (.lst<|hs.map D.int) (decide (i∈hs))
 |ti (i:Int) (hs:Yc):InR (.int i) (.tup<|hs.map D.int) (decide (i∈hs))
 |lp (q:Int×Int) (ps:Yb):InR (prD q) (.lst<|ps.map prD) (decide (q∈ps))
def fIn(neg:Bool):S->S->(S->Prop)->Prop:=λx y R=>∃b,InR x.d y.d b/\R (.sh<|.bl (if neg then !b else b))
def Rp.pair (h:Rp K H (prD q) v):Xl H v q:=by
 obtain⟨a,l,rfl,b,r⟩:=Rp.tup_inv h;obtain⟨x,y,rfl,g,f⟩:=r.two_inv;rw[g.int_inv,f.int_inv]at b;exact⟨a,rfl,b⟩
def Rps.lv {vs} (h:Rps K H (ps.map prD) vs):LV Xl H vs ps:=by
 refine⟨by rw[h.len,Wc],λi p b=>?_⟩;obtain⟨v,g,f⟩:=h.get (by rw[Wq,b];rfl);exact⟨v,g,f.pair⟩
def Dr{C A a b}(U:Ub K mg E C a)(T:Ub K mg E A b):Ub K mg E (tOp (λx y H Q=>rIn K neg x y H Q\/Tf neg x y H Q) C A) (p2 a b<|fIn neg):=by
 refine Xj U T λH0 H z Z x y v u R Q G Y hm L J h q=>?_;obtain⟨k,s,w⟩:=h;have n:=L.rp G;have g:=J.rp G;generalize ex:x.d=dx at s n;generalize ey:y.d=dy at s g;cases s with
 |li i N=>
  obtain⟨l,o,rfl,f,r⟩:=g.lst_inv;rw[r.ints]at f;rw[n.int_inv];refine .inl ⟨l,_,rfl,.inl (SqL.of f),rfl,Kg _,?_⟩;rw[AM];exact q _ _ z w (Same.refl _) (.bl _)
 |ti i N=>
  obtain⟨l,o,rfl,f,r⟩:=g.tup_inv;rw[r.ints]at f;rw[n.int_inv];refine .inl ⟨l,_,rfl,.inr (SqT.of f),rfl,Kg _,?_⟩;rw[AM];exact q _ _ z w (Same.refl _) (.bl _)
 |lp p M=>
  obtain⟨l,o,rfl,f,r⟩:=g.lst_inv;exact .inr ⟨l,M,p,rfl,n.pair,⟨o,f,r.lv⟩,q _ _ z w (Same.refl _) (.bl _)⟩
def Pn(neg:Bool):S->S->(S->Prop)->Prop:=λx y R=>match x.d,y.d with
 | .lst g,.lst f=>∃xs b:Yc,g=xs.map D.int/\f=b.map D.int/\R (.sh<|.bl (if neg then !decide (xs=b)else decide (xs=b)))
 |_,_=>fEq neg x y R
def Zb5{a b}(T:Ub K mg E L a)(N:Ub K mg E J b):Ub K mg E (tOp (λx y H Q=>rEq x y H Q\/XB K false x y H Q) L J) (p2 a b<|Pn false):=by
 refine Xj T N λH0 H p Z x y v u R Q w s1 s G C h q=>?_;have g:=G.rp w;have f:=C.rp w;unfold Pn at h;split at h
 ·rename_i ds es o n;obtain⟨xs,Y,rfl,rfl,U⟩:=h;rw[o]at g;rw[n]at f;obtain⟨l,us,rfl,A,r⟩:=g.lst_inv;obtain⟨m,ws,rfl,s,M⟩:=f.lst_inv;rw[r.ints]at A;rw[M.ints]at s;refine .inr ⟨l,m,_,_,rfl,rfl,SqL.of A,SqL.of s,Kg _,Kg _,?_⟩;rw[NO];exact q _ _ p U (Same.refl _) (.bl _)
 ·refine .inl ?_;unfold fEq at h;split at h
  ·rename_i i j o n;rw[o]at g;rw[n]at f;rw[g.int_inv,f.int_inv];refine⟨rfl,?_⟩;rw[KR λ_ _ z=>V.int.inj z];exact q _ _ p h (Same.refl _) (.bl _)
  ·rename_i i j o n;rw[o]at g;rw[n]at f;rw[g.str_inv,f.str_inv];refine⟨rfl,?_⟩;rw[KR λ_ _ z=>V.str.inj z];exact q _ _ p h (Same.refl _) (.bl _)
  ·rename_i i j o n;rw[o]at g;rw[n]at f;rw[g.bl_inv,f.bl_inv];refine⟨rfl,?_⟩;rw[KR λ_ _ z=>V.bl.inj z];exact q _ _ p h (Same.refl _) (.bl _)
  ·exact h.elim
def LW{a b}(T:Ub K mg E L a)(N:Ub K mg E J b):Ub K mg E (tOp (λx y H Q=>rNe x y H Q\/XB K true x y H Q) L J) (p2 a b<|Pn true):=by
 refine Xj T N λH0 H p Z x y v u R Q w s1 s G C h q=>?_;have g:=G.rp w;have f:=C.rp w;unfold Pn at h;split at h
 ·rename_i ds es o n;obtain⟨xs,Y,rfl,rfl,U⟩:=h;rw[o]at g;rw[n]at f;obtain⟨l,us,rfl,A,r⟩:=g.lst_inv;obtain⟨m,ws,rfl,s,M⟩:=f.lst_inv;rw[r.ints]at A;rw[M.ints]at s;refine .inr ⟨l,m,_,_,rfl,rfl,SqL.of A,SqL.of s,Kg _,Kg _,?_⟩;rw[NO];exact q _ _ p U (Same.refl _) (.bl _)
 ·refine .inl ?_;unfold fEq at h;split at h
  ·rename_i i j o n;rw[o]at g;rw[n]at f;rw[g.int_inv,f.int_inv];refine⟨rfl,?_⟩;rw[KR λ_ _ z=>V.int.inj z];exact q _ _ p h (Same.refl _) (.bl _)
  ·rename_i i j o n;rw[o]at g;rw[n]at f;rw[g.str_inv,f.str_inv];refine⟨rfl,?_⟩;rw[KR λ_ _ z=>V.str.inj z];exact q _ _ p h (Same.refl _) (.bl _)
  ·rename_i i j o n;rw[o]at g;rw[n]at f;rw[g.bl_inv,f.bl_inv];refine⟨rfl,?_⟩;rw[KR λ_ _ z=>V.bl.inj z];exact q _ _ p h (Same.refl _) (.bl _)
  ·exact h.elim
noncomputable abbrev DA(K:Ya)(b:TE):TT:=λσ H Q=>b σ H λx H'=>∃k,SS K x H' k/\Q k H'
noncomputable def FJ(a:PTE):PTT:=λγ R X=>a γ (λx=>match x.d with
 | .bl b=>R b | .lst f=>R (!f.isEmpty) | .tup f=>R (!f.isEmpty) | .int i=>R (i != 0) | .non=>R false|_=>False) X
def NN{f b:Type}{l:List f}{m:List b}(h:l.length=m.length):l.isEmpty=m.isEmpty:=by
 cases l<;>cases m<;>simp at h ⊢
def L8(y:Ub K mg E te a):UN K mg E (DA K te) (FJ a):=by
 intro H0 B H σ γ R X Q o p q w;refine y H0 B H σ γ _ X _ o p (λx v H1 g h u=>?_) w;have f:=u.rp (o.grow h).same;split at g
 ·rename_i b e;rw[e]at f;rw[f.bl_inv];exact⟨b,rfl,q _ H1 g h⟩
 ·rename_i z e;rw[e]at f;obtain⟨l,n,rfl,s,r⟩:=f.lst_inv;exact⟨!n.isEmpty,.inl ⟨n,SqL.of s,rfl⟩,by rw[NN r.len];exact q _ H1 g h⟩
 ·rename_i z e;rw[e]at f;obtain⟨l,n,rfl,s,r⟩:=f.tup_inv;exact⟨!n.isEmpty,.inr (.inl ⟨n,SqT.of s,rfl⟩),by rw[NN r.len];exact q _ H1 g h⟩
 ·rename_i i e;rw[e]at f;rw[f.int_inv];exact⟨_,rfl,q _ H1 g h⟩
 ·rename_i e;rw[e]at f;rw[f.non_inv];exact⟨_,rfl,q _ H1 g h⟩
 ·exact g.elim
noncomputable def cutD{b:Type}(xs:List b)(lo f:Option Int):List b:=(xs.drop<|HT.sIx xs.length 0 lo).take (HT.sIx xs.length xs.length f-HT.sIx xs.length 0 lo)
noncomputable def AE:PTO:=λ_ R _=>R none
noncomputable def Ae(a:PTE):PTO:=λγ R X=>a γ (λs=>match s.d with | .int i=>R (some i)|_=>False) X
def B9:P6 K mg E CY AE:=λ_ _ H _ _ _ _ _ _ p q _=>q _ H p (Same.refl _)
def B8(o:Ub K mg E te a):P6 K mg E (ET te) (Ae a):=by
 intro H0 B H σ γ R X Q b p q n;refine o H0 B H σ γ _ X _ b p (λx v H1 g h l=>?_) n;have f:=l.rp (b.grow h).same;split at g
 ·rename_i i e;rw[e]at f;exact⟨i,f.int_inv,q _ H1 g h⟩
 ·grind
noncomputable def pSl(a:PTE)(l u:PTO):PTE:=λγ R X=>a γ (λs=>l γ (λlo=>u γ (λf=>match s.d with | .lst b=>s.free b=true/\R (.own<|cutD b lo f)|_=>False) X) X) X
def Rps.cut {lo b} (r:Rps K H ds vs):Rps K H (cutD ds lo b) (P2 vs lo b):=by
 unfold cutD P2;rw[r.len];exact Rps.take _ (Rps.drop _ r)
def Si{a l u}(U:Ub K mg E te a)(N:P6 K mg E G l)(M:P6 K mg E J u):Ub K mg E (tSl (BA K) te G J) (pSl a l u):=by
 intro H0 B H σ γ R X Q f p q o;refine U H0 B H σ γ _ X _ f p (λx v H1 h1 h L=>?_) o;refine N H0 B H1 σ γ _ X _ (f.grow h) h1 (λlo H2 Y n=>?_) λc H' s y=>o c H' s (h.trans y);refine M H0 B H2 σ γ _ X _ ((f.grow h).grow n) Y (λhi H3 w A=>?_) λc H' s y=>o c H' s ((h.trans n).trans y);have g:=(h.trans n).trans A;split at w
 ·rename_i ds e;obtain⟨b,C,rfl,T,r⟩:=((L.grow<|n.trans A).items (f.grow g).same f.zm g w.1).1 e;exact⟨b,C,rfl,SqL.of T,λm z=>q _ _ _ w.2 (g.trans<|US z) (K6 g z r.cut)⟩
 ·grind
def FS:S->S->(S->Prop)->Prop:=λx y R=>match x.d,y.d with
 | .lst f,.lst b=>x.free f=true/\y.free b=true/\f.length+b.length<=100000/\R (.own (f++b))
 |_,_=>False
def Tw{a b}(U:Ub K mg E L a)(T:Ub K mg E J b):Ub K mg E (tOp Ee L J) (p2 a b FS):=by
 refine Xj U T λH0 H H2 Z x y v u R Q s f A G C h q=>?_;unfold FS at h;split at h
 ·rename_i ds es e1 Y;obtain⟨l,o,rfl,N,r⟩:=(G.items s A f h.1).1 e1;obtain⟨m,n,rfl,g,w⟩:=(C.items s A f h.2.1).1 Y;have M:o.length+n.length<=sizeLine:=by rw[r.len,w.len];exact Wt h.2.2.1 (by decide)
  exact⟨l,m,o,n,rfl,rfl,N,g,M,λp z=>q _ _ _ h.2.2.2 (US z) (K6 f z<|r.append w)⟩
 ·grind
noncomputable def Fl(i:Nat)(a:PTE):PTS:=λR γ=>match γ[i]? with
 |some (some<|.own<|.lst b)=>a γ (λs=>match s.shd with
  |some d=>b.length<10000000/\R.nx (γ.set i<|some<|.own (b++[d]))
  |none=>False) (R.ex γ)
 |some (some<|.own<|.lsA x b)=>a γ (λs=>match s.shd with
  |some d=>b.length<10000000/\R.nx (γ.set i<|some<|.own<|.lsA x (b++[d]))
  |none=>False) (R.ex γ)
 |_=>False
def MJ(i:Nat){te a}(Q:Ub K mg E te a):Ul K mg E (T1<|tBM K "list" ND (XG i)<|UG te Xc) (Fl i a):=by
 intro H0 B H σ γ R D T f h e;unfold Fl at h;split at h
 ·rename_i M r;obtain⟨v,q,b,rfl,G,us,w,p⟩:=f.slot i _ r;refine⟨_,q,.inl ⟨rfl,us,SqL.of w⟩,Q H0 B H σ γ _ _ _ f h (λs u H1 n l A=>?_) λc H' C y=>e.ex σ γ c H' C (f.grow y) (Fr.grow y)⟩;have g:=f.grow l;split at n
  ·rename_i d o;refine⟨b,us,u,rfl,rfl,l _ _ w,by rw[p.len];exact Q8 n.1 (by decide),?_⟩;obtain⟨o,L⟩:=g.mutate (es:=.lst (M++[d])) (us:=.lst (us++[u])) r q trivial λF H' N J=>⟨_,J,Rps.mono N (Rps.append (Rps.mono (Um l λ_ _ _ z=>z) p)<|.cons (A.shd g.same f.zm l o) .nil)⟩;exact e.nx _ _ _ n.2 o ((Fr.grow l).trans L)
  ·exact n.elim
 ·rename_i x M r;obtain⟨v,q,b,rfl,G,rfl,us,w,p⟩:=f.slot i _ r;refine⟨_,q,.inl ⟨rfl,us,SqL.of w⟩,Q H0 B H σ γ _ _ _ f h (λs u H1 n l A=>?_) λc H' C y=>e.ex σ γ c H' C (f.grow y) (Fr.grow y)⟩;have g:=f.grow l;split at n
  ·rename_i d o;refine⟨b,us,u,rfl,rfl,l _ _ w,by rw[p.len];exact Q8 n.1 (by decide),?_⟩;obtain⟨o,L⟩:=g.mutate (es:=.lsA b (M++[d])) (us:=.lst (us++[u])) r q trivial λF H' N J=>⟨rfl,_,J,Rps.mono N (Rps.append (Rps.mono (Um l λ_ _ _ z=>z) p)<|.cons (A.shd g.same f.zm l o) .nil)⟩;exact e.nx _ _ _ n.2 o ((Fr.grow l).trans L)
  ·exact n.elim
 ·exact h.elim
end
section
variable {X:Cx}{K:Ya}
def Zct(b:X.A.in1.units<cLine)(f:autoParam (X.K=K) au_0):OpR X (compareOp .In) (λx y H Q=>rIn K false x y H Q\/Tf false x y H Q):=(MZ f).or (Ij b)
def HN(b:X.A.in1.units<cLine)(f:autoParam (X.K=K) au_0):OpR X (compareOp .NotIn) (λx y H Q=>rIn K true x y H Q\/Tf true x y H Q):=(IP f).or (Zbc b)
def Ip(b:X.A.units<cLine)(f:autoParam (X.K=K) au_0):OpR X (compareOp .Eq) (λx y H Q=>rEq x y H Q\/XB K false x y H Q):=by subst f;exact op_eq.or (Gd b)
def HF(b:X.A.units<cLine)(f:autoParam (X.K=K) au_0):OpR X (compareOp .NotEq) (λx y H Q=>rNe x y H Q\/XB K true x y H Q):=by subst f;exact op_ne.or (Ci b)
def HP(f:PE X e te)(g:autoParam (X.K=K) au_0)(b:autoParam (∀whole,isTrue e X.env whole=(do let v ←whole;standAt e.pos;holding [v] (truthy v))) au_3):PT X e (DA K te):=by
 subst g;exact Zca f b
def PK(f:autoParam (X.K=K) au_0):Xa X (.type "list") (λxs H Q=>∃p b,xs=[.ref p]/\(SqL K H p b\/SqT K H p b)/\∀l,H l=none->Q (.ref l) (upd H l<|.lst b)):=by subst f;exact Gw
def Kw(f:autoParam (X.K=K) au_0):Xa X (.builtin "isinstance") (λxs H Q=>∃x n t b,xs=[x,.ty n]/\UY K H x t/\PySem.W.kitOne K t (.type n)=some b/\Q (.bl b) H):=by subst f;exact Hq
def Bc(b:autoParam (X.K=K) au_0):SlR X (BA K):=by subst b;exact MQ
def ID(f:X.calm=true){w}(g:autoParam (X.K=K) au_0)(hw:autoParam (X.w=w) au_0):Xa X (.builtin "sorted") (λxs H Q=>∃p b,xs=[.ref p]/\b.length<64/\(SqL K H p (b.map V.int)\/H p=some (Kt w p b))/\
  ∀l (ns:Yc),H l=none->ns.Perm b->ns.Pairwise (·<=·)->Q (.ref l) (upd H l<|.lst<|ns.map V.int)):=by subst g;subst hw;exact EV f
def TX{f l b}(g:PE X l b)(h:autoParam (X.K=K) au_0):PI X f l (Nz K b):=by subst h;exact D3 g
end
section
variable {P:Program}{w:World}{K:Ya}{mg:Ye}{base:Heap}{H H':Hp}
def G8(C:Callee P w K mg base CX k x ps sp)(h:∀ds R X vs H Q E,Rps K H ds vs->c ds R X->(∀s v H',R s->Same H H'->TV K (λb=>Mut (H b)) H H H' s v->Q v H')->(∀e H',X e->Same H H'->XE mg E e H')->sp vs H Q E) :
  Callee P w K mg base CX k x ps (Uk mg c K):=by
 obtain⟨f,o,F,rest⟩:=C.ex;exact⟨f,o,F.imp λvs H Q E ⟨ds,R,X,r,g,n,l⟩=>h ds R X vs H Q E r g n l,rest⟩
def Rp.ints_inv {ns:Yc}{v} (h:Rp K H (.lst<|ns.map D.int) v):∃a,v=.ref a/\H a=some (.lst<|ns.map V.int):=by
 obtain⟨a,f,rfl,b,r⟩:=h.lst_inv;rw[r.ints]at b
 grind
def Rp.pairs_inv {v} (h:Rp K H (.lst<|ps.map prD) v):∃a,v=.ref a/\LAt Xl H a ps:=by
 obtain⟨a,b,rfl,f,r⟩:=h.lst_inv;exact⟨a,rfl,b,f,r.lv⟩
def FL{ns:Yc}(n:H a=none)(h:H' a=some (.lst<|ns.map V.int)):TV K (λb=>Mut (H b)) H H H' (.own<|ns.map D.int) (.ref a):=⟨a,rfl,(λ_ e=>e▸n),_,h,Rps.of_ints ns⟩
theorem Nr:∀(ns:Yc),UU (ns.map D.int)=true
 |[]=>rfl
 |n::r=>by rw[W7];unfold UU;rw[Nr r];unfold imm;rfl
def Zcl(p:Int×Int):imm (prD p)=true:=rfl
theorem Pi:∀(ps:Yb),UU (ps.map prD)=true
 |[]=>rfl
 |p::r=>by rw[W7];unfold UU;rw[Pi r,Zcl];rfl
def Zde{b:Type}{f:b->D}{xs:List b}{i}(h:i<xs.length):(xs.map f).getD i .non=f xs[i]:=by grind
def FX{b:Type}{f:b->D}{xs:List b}{i}(g:0<=i)(h:i<(xs.length:Int)):atI (xs.map f) i=some (f (xs[i.toNat]'(by lia))):=by
 have l:i.toNat<xs.length:=by lia
 exact Kn (Nf g<|Wb l)
def Bf{b:Type}{f:b->D}{xs:List b}{i}(h:i<xs.length):atI (xs.map f) (i:Int)=some (f xs[i]):=Kn (Pv<|Wb h)
def Ka{l:Type}{φ}{γ}{g}{c}{e}{s:S}{R}{xs:List l}{emb}(f:l->Option D)(n:xs.length<=100000)(turn:∀x∈xs,g (s.sub<|emb x) (atP φ γ) λh=>c h (λb=>if b=true then e h (λs=>∃d,s.shd=some d/\f x=some d) (λ_=>False)else f x=none) λ_=>False)(done:R (.own<|xs.filterMap f)) :
  Ti φ γ g c e (xs.map emb).length (λi=>s.sub ((xs.map emb).getD i .non)) R:=by
 rw[Wc];refine⟨⟨n,λi=>(xs[i]?).bind f,λi o=>?_,by rw[Zcm];exact done⟩⟩;simp_all
def Dk{g c e item R n}(f:Nat->Option D)(o:n<=100000)(turn:∀i,i<n->g (item i) (atP φ l) λh=>c h (λb=>if b=true then e h (λs=>∃d,s.shd=some d/\f i=some d) (λ_=>False)else f i=none) λ_=>False)(done:R (.own ((List.range n).filterMap f))) :
  Ti φ l g c e n item R:=⟨⟨o,f,turn,done⟩⟩
def Tt{n:Type}{js}{γ}{g}{body}{s:S}{R}{xs:List n}{emb}(inv:Nat->Γ->Prop)(p:inv 0 (clr js γ))(turn:∀i o b,inv i b->g (s.sub (emb xs[i])) b λl=>body {R with nx:=λf=>inv (i+1) (clr js f),ct:=λf=>inv (i+1) (clr js f),bk:=R.nx} l)(done:∀b,inv xs.length b->R.nx b) :
  PB js γ g body R (xs.map emb).length (λi=>s.sub ((xs.map emb).getD i .non)):=by
 refine⟨⟨inv,p,λi b o h=>?_,λb h=>?_⟩⟩
 ·grind
 ·grind
def Kq{n item}(inv:Nat->Γ->Prop)(p:inv 0 (clr l o))(turn:∀i b,i<n->inv i b->g (item i) b λh=>body {R with nx:=λf=>inv (i+1) (clr l f),ct:=λf=>inv (i+1) (clr l f),bk:=R.nx} h)(done:∀b,inv n b->R.nx b):PB l o g body R n item:=⟨⟨inv,p,turn,done⟩⟩
def Za5(J:Γ->Prop)(h:p {R with nx:=J} f)(g:∀b,J b->q R b):Ew p q R f:=⟨⟨J,h,g⟩⟩
theorem Tn{b:Type}(c:b->Bool)(emb:b->D):∀f:List b,f.filterMap (λq=>if c q=true then some (emb q)else none)=(f.filter c).map emb
 |[]=>rfl
 |q::r=>by
  by_cases h:c q=true
  ·rw[List.filterMap_cons_some (by rw[Wj h]),List.filter_cons_of_pos h,W7,Tn c emb r]
  ·rw[List.filterMap_cons_none (by grind),List.filter_cons_of_neg h,Tn c emb r]
def Cu{b:Type}(emb:b->D)(f:List b):f.filterMap (λq=>some (emb q))=f.map emb:=by simp
def NH(f:g->D)(xs:List g)(lo b:Option Int):cutD (xs.map f) lo b=(cutD xs lo b).map f:=by
 unfold cutD;simp
def Hy(xs:List b){n}(h:0<=n):cutD xs none (some n)=xs.take n.toNat:=by
 unfold cutD;have e:n=(n.toNat:Int):=by lia
 rw[HT.A6,e,HT.Ep,List.drop_zero,Nat.sub_zero,WK];by_cases c:n.toNat<=xs.length
 ·simp
 ·simp
def Sb(xs:List b){n}(h:0<=n):cutD xs (some n) none=xs.drop n.toNat:=by
 unfold cutD;have e:n=(n.toNat:Int):=by lia
 rw[HT.A6,e,HT.Ep,WK];by_cases c:n.toNat<=xs.length
 ·grind
 ·rw[Nat.min_eq_right (by lia),List.drop_of_length_le (Wk _),List.drop_of_length_le (by lia)];simp
noncomputable def Sz(K:Ya):Sp:=λb H Q _=>∃(a:Addr) (f:Yc),b=[.ref a]/\SqL K H a (f.map V.int)/\∀H',Q (.bl true) H'
noncomputable def DX:Pc:=λf R _=>∃b:Yc,f=[.scr b]/\R (.sh<|.bl true)
def Ln(h:Sz K vs H Q l):Uk mg DX K vs H Q l:=by
 obtain⟨a,b,rfl,g,q⟩:=h;refine⟨[.scr b],λs=>s=.sh (.bl true),λ_=>False,.cons (.scr g) .nil,⟨b,rfl,rfl⟩,λs v H' e n f=>?_,λ_ _ z=>z.elim⟩;subst e;cases f
 grind
end
section
variable {K:Ya}{mg:Ye}{E:L2.St->XK}{H0 H H1 H':Hp}{B Z Z':Addr->Prop}{σ:L2.St}{γ:Γ}
noncomputable def Nl:D->Option V
 | .int i=>some (.int i) | .bl b=>some (.bl b) | .non=>some .non | .str x=>some (.str x)|_=>none
noncomputable def vD:V->D
 | .int i=>.int i | .bl b=>.bl b | .str x=>.str x|_=>.non
noncomputable def By:V->Bool
 | .int _=>true | .bl _=>true | .str _=>true | .non=>true|_=>false
def FN(h:By v=true):Rp K H (vD v) v:=by
 cases v with
 |int i=>exact .int i
 |bl b=>exact .bl b
 |str x=>exact .str x
 |non=>exact .non
 |_=>cases h
def SR(h:Rp K H d v)(e:Nl d=some u):v=u:=by
 cases h with
 |int i|bl b|non|str x=>cases e;rfl
 |_=>cases e
noncomputable def P1:D->Option Key
 | .int i=>some (.inl i) | .str x=>some (.inr x)|_=>none
noncomputable def TJ:List D->Option (List Key)
 |[]=>some []
 |d::r=>match P1 d,TJ r with
  |some k,some b=>some (k::b)
  |_,_=>none
noncomputable def Nd:D->Option (List Key)
 | .tup b=>TJ b
 |_=>none
def Nj(h:Rp K H d v)(e:P1 d=some k):v=kV k:=by
 cases h with
 |int i|str x=>cases e;rfl
 |_=>cases e
def RU:∀{ds vs}{b:List Key},Rps K H ds vs->TJ ds=some b->vs=b.map kV:=by
 intro ds
 induction ds with
 |nil=>
  intro _ _ h e;cases h
  cases e
  rfl
 |cons _ _ f=>
  intro _ b h e;cases h with
  |cons h r=>
   unfold TJ at e;split at e
   ·rename_i k n l g;cases e
    rw[Nj h l,f r g];rfl
   ·grind
def Sx(h:Rp K H d v)(e:Nd d=some f):∃b,v=.ref b/\H b=some (.tup<|f.map kV):=by
 cases h with
 |tup h r=>
  rw[RU r e]at h
  grind
 |_=>cases e
def Rp.dK_inv (h:Rp K H (.dK b) v):∃a,v=.ref a/\H a=some (.dK b):=by
 cases h with
 |dK h=>grind
def Rp.dT_inv (h:Rp K H (.dT b) v):∃a,v=.ref a/\H a=some (.dT b):=by
 cases h with
 |dT h=>grind
noncomputable def Ht:PTE:=λ_ R _=>R (.own<|.dK [])
def Zb2:Ub K mg E Cz Ht:=by
 intro H0 B H σ γ R X Q f p q _ l b;exact q _ _ _ p (US b) ⟨l,rfl,(λ_ e=>e▸b),Ut⟩
def EX:S->S->(S->Prop)->Prop:=λx y R=>match x.d with
 | .dK b=>∃k v,P1 y.d=some k/\Us b k=some v/\By v=true/\R (.sh<|vD v)
 | .dT b=>∃k v,Nd y.d=some k/\Us b k=some v/\By v=true/\R (.sh<|vD v)
 |_=>False
def Dq{a b}(N:Ub K mg E M a)(p:Ub K mg E g b):Ub K mg E (Ao M g) (p2 a b EX):=by
 refine Xj N p λH0 H J Z x y v u R Q C T U L g h q=>?_;have f:=L.rp C;have G:=g.rp C;unfold EX at h;split at h
 ·rename_i n e;rw[e]at f;obtain⟨l,rfl,o⟩:=f.dK_inv;obtain⟨k,w,A,z,s,r⟩:=h;refine⟨l,w,rfl,?_,q _ _ J r (Same.refl _) (FN s)⟩;rw[Nj G A,←z];exact DGet.k o
 ·rename_i n e;rw[e]at f;obtain⟨l,rfl,o⟩:=f.dT_inv;obtain⟨k,w,A,z,s,r⟩:=h;obtain⟨b,rfl,p⟩:=Sx G A;refine⟨l,w,rfl,?_,q _ _ J r (Same.refl _) (FN s)⟩;rw[←z];exact DGet.t o p
 ·grind
def AO(neg:Bool):S->S->(S->Prop)->Prop:=λy x R=>match x.d with
 | .dK b=>∃k,P1 y.d=some k/\R (.sh<|.bl (if neg then !(Us b k).isSome else(Us b k).isSome))
 | .dT b=>∃k,Nd y.d=some k/\R (.sh<|.bl (if neg then !(Us b k).isSome else(Us b k).isSome))
 |_=>False
def Aq{w f a b}(J:Ub K mg E f a)(p:Ub K mg E w b):Ub K mg E (En f w) (p2 a b<|AO false):=by
 refine Xj J p λH0 H C Z y x u v R Q z L M f G h q=>?_;have g:=G.rp z;have A:=f.rp z;unfold AO at h;split at h
 ·rename_i n e;rw[e]at g;obtain⟨l,rfl,o⟩:=g.dK_inv;obtain⟨k,s,r⟩:=h;refine⟨l,_,rfl,?_,q _ _ C r (Same.refl _) (.bl _)⟩;rw[Nj A s];exact DGet.k o
 ·rename_i n e;rw[e]at g;obtain⟨l,rfl,o⟩:=g.dT_inv;obtain⟨k,s,r⟩:=h;obtain⟨b,rfl,p⟩:=Sx A s;exact⟨l,_,rfl,DGet.t o p,q _ _ C r (Same.refl _) (.bl _)⟩
 ·grind
noncomputable def Aw(i:Nat)(b a:PTE):PTS:=λR γ=>match γ[i]? with
 |some (some<|.own<|.dK f)=>a γ (λs=>b γ (λy=>∃k u,P1 y.d=some k/\Nl s.d=some u/\f.length<100000/\R.nx (γ.set i<|some<|.own<|.dK<|putK f k u)) (R.ex γ)) (R.ex γ)
 |some (some<|.own<|.dT f)=>a γ (λs=>b γ (λy=>∃k u,Nd y.d=some k/\Nl s.d=some u/\f.length<100000/\R.nx (γ.set i<|some<|.own<|.dT<|putK f k u)) (R.ex γ)) (R.ex γ)
 |_=>False
def Od(i:Nat){ty tv a b}(hb:Ub K mg E ty b)(ha:Ub K mg E tv a):Ul K mg E (Aa (XG i) ty tv) (Aw i b a):=by
 intro H0 B H σ γ R D hB n h e;have hx:=λc H' C r=>e.ex σ γ c H' C (n.grow r) (Fr.grow r);unfold Aw at h;split at h
 ·rename_i o A;obtain⟨v,x,l,rfl,U,T⟩:=n.slot i _ A;refine ha H0 B H σ γ _ _ _ n h (λs u H1 h1 p J=>⟨_,x,?_⟩) hx;have f:=n.grow p;refine hb H0 B H1 σ γ _ _ _ f h1 (λy w H2 h2 q G=>?_) λc H' C r=>hx c H' C (p.trans r);obtain⟨k,z,Q,N,M,L⟩:=h2;have g:=f.grow q;have eu:=SR (J.rp f.same) N;have ew:=Nj (G.rp g.same) Q;subst eu ew;refine⟨l,_,rfl,DPut.k (q _ _<|p _ _ T) (Q8 M<|by decide),?_⟩;obtain⟨e2,f2⟩:=g.mutate (es:=.dK (putK o k u)) (us:=.dK (putK o k u)) A x trivial λF H' SF hF=>hF;exact e.nx _ _ _ L e2 ((Fr.grow<|p.trans q).trans f2)
 ·rename_i o A;obtain⟨v,x,l,rfl,U,T⟩:=n.slot i _ A;refine ha H0 B H σ γ _ _ _ n h (λs u H1 h1 p J=>⟨_,x,?_⟩) hx;have f:=n.grow p;refine hb H0 B H1 σ γ _ _ _ f h1 (λy w H2 h2 q G=>?_) λc H' C r=>hx c H' C (p.trans r);obtain⟨k,z,Q,N,M,L⟩:=h2;have g:=f.grow q;have eu:=SR (J.rp f.same) N;obtain⟨b',rfl,Y⟩:=Sx (G.rp g.same) Q;subst eu;refine⟨l,_,rfl,DPut.t (q _ _<|p _ _ T) Y (Q8 M<|by decide),?_⟩;obtain⟨e2,f2⟩:=g.mutate (es:=.dT (putK o k u)) (us:=.dT (putK o k u)) A x trivial λF H' SF hF=>hF;exact e.nx _ _ _ L e2 ((Fr.grow<|p.trans q).trans f2)
 ·exact h.elim
noncomputable def pIE(r:PTA):PTI:=λγ R X=>r γ (λf=>match f with
 |[s]=>(match s.d with
  | .lst b=>s.fix=true/\UU b=true/\R b.length λi=>.sh (.tup [.int i,b.getD i .non])
  |_=>False)
 |_=>False) X
theorem A2:∀{ds}{i:Nat}{d:D},UU ds=true->ds[i]?=some d->imm d=true
 |[],i,d,_,e=>by simp at e
 |a::r,0,d,h,e=>by
  unfold UU at h
  grind
 |a::r,i+1,d,h,e=>by
  exact A2 (W1 _ _▸h).2 (by trivial)
def GM{s:S}{d}(h:imm d=true):(s.sub d).shd=some d:=by
 cases s with
 |bor b=>show(arg d).shd=_;unfold arg;rw[h];rfl
 |tmp b=>show(UJ d).shd=_;unfold UJ;rw[h];rfl
 |sh b=>rfl
 |own b|view b=>
  cases b with
  |nst f|nsl a f=>show(UJ d).shd=_;unfold UJ;rw[h];rfl
  |_=>rfl
def EE(hr:Uo K mg E N r):SndI K mg E (Gj K N) (pIE r):=by
 intro H0 B H σ γ R X Q f h q Y;refine hr H0 B H σ γ _ X _ f h (λss g H1 b A U=>?_) Y;split at b
 ·rename_i s;obtain⟨v,rfl,n⟩:=U.one_inv;split at b
  ·rename_i L ed;obtain⟨l,g,rfl,hn,w⟩:=n.last f A b.1 ed;obtain⟨p,_⟩:=w H1 _ (Later.of (f.grow A) Fr.refl);refine⟨l,rfl,⟨g,SqL.of p⟩,q _ _ _ H1 b.2.2 A ⟨λi H' Z' hi lt=>?_,λH' Z' lt=>?_⟩⟩
   ·obtain⟨C,k2⟩:=w H' Z' lt;have J:L[i]?=some (L.getD i .non):=by grind
    obtain⟨u,G,M⟩:=k2 i _ J;refine⟨⟨g,u,SqL.of C,G⟩,λx H'' y=>?_⟩;obtain⟨T,v,o,hv,rfl,rfl⟩:=y
    have:=hv g (SqL.of C)
    rw[G]at this;cases this
    refine⟨US o,.tup (UA Ut λz=>?_) (.cons (.int _)<|.cons (Rp.mono (Um (US o) λ_ _ _ z=>z)<|M.shd lt.1 lt.2.1 (Same.refl _)<|GM<|A2 b.2.1 J) .nil)⟩
    have:=lt.2.1 T z
    rw[o]at this;exact this
   ·exact⟨g,SqL.of (w H' Z' lt).1,by lia⟩
  ·exact b.elim
 ·exact b.elim
def Dm{n:Type}{js}{γ}{g}{body}{R}{xs:List n}{emb}(inv:Nat->Γ->Prop)(p:inv 0 (clr js γ))(turn:∀i o b,inv i b->g (.sh<|.tup [.int i,emb xs[i]]) b λl=>body {R with nx:=λf=>inv (i+1) (clr js f),ct:=λf=>inv (i+1) (clr js f),bk:=R.nx} l)(done:∀b,inv xs.length b->R.nx b) :
  PB js γ g body R (xs.map emb).length (λi=>.sh (.tup [.int i,(xs.map emb).getD i .non])):=by
 refine⟨⟨inv,p,λi b o h=>?_,λb h=>?_⟩⟩
 ·grind
 ·grind
def Bk(d:b)(ds:List b):atI (d::ds) 0=some d:=Nf (by simp) rfl
noncomputable def em(l:Int)(p:Yc):D:=.lst ((l::p).map D.int)
def Zdc:List S->(S->Prop)->Prop
 |[s],R=>∃b:Yc,s.d=.lst (b.map D.int)/\R (.sh<|.int b.sum)
 |_,_=>False
theorem Rps.bls:∀{b:List Bool}{vs:List V},Rps K H (b.map D.bl) vs->vs=b.map V.bl
 |[],_,.nil=>rfl
 |j::r,_,.cons h t=>by rw[Rp.bl_inv h,Rps.bls t];rfl
def CL(neg:Bool):S->S->(S->Prop)->Prop:=λx y R=>match x.d,y.d with
 | .lst b,.lst []=>R (.sh<|.bl (if neg then !b.isEmpty else b.isEmpty))
 |_,_=>False
def Dw{n g a b}(L:Ub K mg E n a)(J:Ub K mg E g b):Ub K mg E (tOp (F1 K neg) n g) (p2 a b<|CL neg):=by
 refine Xj L J λH0 H T Z x y v u R Q o Y hm A z h q=>?_;have s:=A.rp o;have p:=z.rp o;unfold CL at h;split at h
 ·rename_i ds N M;rw[N]at s;rw[M]at p;obtain⟨l,w,rfl,G,r⟩:=s.lst_inv;obtain⟨m,U,rfl,f,C⟩:=p.lst_inv;cases C
  refine⟨l,m,w,rfl,rfl,SqL.of G,SqL.of f,?_⟩;rw[NN r.len];exact q _ _ T h (Same.refl _) (.bl _)
 ·grind
def FH(xs:List f)(lo b:Option Int):(cutD xs lo b).Sublist xs:=(Vx _ _).trans (List.drop_sublist _ _)
def Ue.gone (N:Ue K H0 B H σ γ) (i:Nat):Ue K H0 B H (σ.set i none) (γ.set i none)/\Fr B H σ γ H (σ.set i none) (γ.set i none):=by
 obtain⟨l,f1⟩:=N.drop i
 have f:∀j s,(γ.set i none)[j]?=some (some s)->j≠i:=λj s h=>by
  rcases U1 h with⟨_,e,_⟩|⟨n,_⟩
  ·cases e
  ·exact n
 have C:∀b,zof B (γ.set i none) (σ.set i none) b↔zof B (γ.set i none) σ b:=λb=>by
  constructor
  ·rintro(z|⟨j,p,x,g,q,r⟩)
   ·exact .inl z
   ·rw[Xv (f j _ g)]at q;exact .inr ⟨j,p,x,g,q,r⟩
  ·rintro(z|⟨j,p,x,g,q,r⟩)
   ·exact .inl z
   ·exact .inr ⟨j,p,x,g,by rw[Xv (f j _ g)];exact q,r⟩
 have ez:=funext λb=>propext (C b);refine⟨⟨l.same,by rw[WV];exact l.len,l.bm,λk j a M p L b w u A y J G=>?_,λj s h=>?_⟩,λb o h z=>?_⟩
 ·rw[Xv (f k _ w)]at A;rw[Xv (f j _ u)]at y;exact l.own k j a M p L b w u A y J G
 ·obtain⟨v,w,u⟩:=l.slot j s h
  grind
 ·rw[ez];exact f1 b o h z
noncomputable def Zdb(i:Nat)(b a:PTE):PTS:=λR γ=>match γ[i]? with
 |some (some<|.own<|.lst f)=>a γ (λs=>b γ (λy=>match y.d with
   | .int k=>∃j d,ixN f.length k=some j/\s.shd=some d/\R.nx (γ.set i<|some<|.own<|.lst<|f.set j d)
   |_=>False) (R.ex γ)) (R.ex γ)
 |some (some<|.own<|.lsA x f)=>a γ (λs=>b γ (λy=>match y.d with
   | .int k=>∃j d,ixN f.length k=some j/\s.shd=some d/\R.nx (γ.set i<|some<|.own<|.lsA x<|f.set j d)
   |_=>False) (R.ex γ)) (R.ex γ)
 |_=>False
def Zdg:S->S->(S->Prop)->Prop:=λx y R=>match x.d,y.d with
 | .lst b,.int k=>x.free b=true/\(-(2 ^ 63)<=k/\k<2 ^ 63)/\b.length*k.toNat<=10000000/\R (.own (.lst (List.replicate k.toNat b).flatten))
 |_,_=>False
noncomputable def Td:List D->Option (List V)
 |[]=>some []
 |d::r=>match Nl d,Td r with
  |some v,some b=>some (v::b)
  |_,_=>none
theorem NJ:∀{ds}{vs us:List V},Rps K H ds vs->Td ds=some us->vs=us
 |[],_,_,.nil,e=>by cases e;rfl
 |d::r,_,us,.cons h t,e=>by
  unfold Td at e;split at e
  ·rename_i v vs f b;cases e
   rw[SR h f,NJ t b]
  ·grind
def E6(neg:Bool):S->S->(S->Prop)->Prop:=λx y R=>match x.d,y.d with
 | .lst h,.lst g=>∃f b,Td h=some f/\Td g=some b/\f.all UZ=true/\b.all UZ=true/\R (.sh<|.bl (if neg then !eqL f b else eqL f b))
 |_,_=>False
def Lf{n g a b}(N:Ub K mg E n a)(M:Ub K mg E g b):Ub K mg E (tOp (XB K neg) n g) (p2 a b<|E6 neg):=by
 refine Xj N M λH0 H H2 Z x y v u R Q o s1 hm J G h q=>?_;unfold E6 at h;have s:=J.rp o;have p:=G.rp o;split at h
 ·rename_i ds es e1 e2;rw[e1]at s;rw[e2]at p;obtain⟨C,z,h1,h2,Y,U,T⟩:=h;obtain⟨l,vs,rfl,w,r⟩:=s.lst_inv;obtain⟨m,A,rfl,f,L⟩:=p.lst_inv;rw[NJ r h1]at w;rw[NJ L h2]at f;exact⟨l,m,C,z,rfl,rfl,SqL.of w,SqL.of f,Y,U,q _ _ H2 T (Same.refl _) (.bl _)⟩
 ·grind
def Ru(b:X.A.units<cLine)(f:autoParam (X.K=K) au_0):OpR X (compareOp .Eq) (XB K false):=by subst f;exact Gd b
end
end Pu
namespace M
open L2 Own Pu
noncomputable def oc(c:Int->Int->Int):Yc->Int
 |[]=>0
 |a::r=>(r.map<|c a).sum+oc c r
end M
namespace Pu
open L2 Own
section
variable {K:Ya}{mg:Ye}{E:L2.St->XK}{H0 H H1 H':Hp}{B Z Z':Addr->Prop}{σ:L2.St}{γ:Γ}
def O.from:O->O->Prop
 | .ins x _ _ g,.ins f _ _ b=>f=x/\∀c∈g,∃h∈b,h.1=c.1
 | .lsA x _,.lsA f _=>f=x
 | .nsl x g,.nsl f b=>f=x/\b.map (·.1)=g.map (·.1)
 |_,_=>False
def O.from_adr {o o':O}{a} (h:o.from o'):∀b,o.adr a b->o'.adr a b:=by
 unfold O.from at h
 split at h
 ·intro b g;rcases g with g|⟨c,p,g⟩
  ·exact .inl (g.trans h.1.symm)
  ·obtain⟨q,n,l⟩:=h.2 c p;exact .inr ⟨q,n,g.trans l.symm⟩
 ·intro b g;exact g.trans h.symm
 ·intro b g;rcases g with g|⟨c,p,g⟩
  ·exact .inl (g.trans h.1.symm)
  ·have m:=List.mem_map_of_mem (f:=(·.1)) p;rw[←h.2]at m;obtain⟨q,n,l⟩:=W6.mp m;exact .inr ⟨q,n,g.trans l.symm⟩
 ·grind
def O.from_at {a g}{F l H H'} (h:o.from o') (f:OR K F H a o) (b:OR K l H' g o'):g=a:=by
 unfold O.from at h
 split at h
 ·exact b.1.trans (h.1.trans f.1.symm)
 ·exact b.1.trans (h.trans f.1.symm)
 ·exact b.1.trans (h.1.trans f.1.symm)
 ·grind
abbrev Pw:=O->List S->(O->D->Prop)->(O->Str->Prop)->Prop
noncomputable def S.pass:S->Option S
 | .sh d=>some (.sh d) | .own o=>some (.sh o.d)
 | .bor d=>match imm d with|true=>some (.sh d)|false=>some (.bor d)
 | .tmp d=>match imm d with|true=>some (.sh d)|false=>none
 | .view _=>none
def S.flat:S->Prop
 | .sh _=>True | .bor _=>True|_=>False
noncomputable def passes:List S->Option (List S)
 |[]=>some []
 |s::r=>match s.pass,passes r with|some b,some f=>some (b::f)|_,_=>none
structure After (K:Ya) (B:Addr->Prop) (H:Hp) (a:Addr) (o o':O) (H':Hp):Prop where
 same:Same (off (o.adr a) H) H'
 old:∀b,o.adr a b->o'.adr a b
 new:∀b,o'.adr a b->o.adr a b\/H b=none
 at_:OR K (off (λb=>B b\/o'.adr a b) H') H' a o'
noncomputable def spW(mg:Ye)(c:Pw)(K:Ya):Sp:=λl H Q E=>∃(o:O) (a:Addr) (g:List S) (h:List V) (B:Addr->Prop) (R:O->D->Prop) (X:O->Str->Prop),
 l=.ref a::h/\(∀b,B b->Mut (H b)/\¬o.adr a b)/\OR K (off (λb=>B b\/o.adr a b) H) H a o/\TVs K (λb=>B b\/o.adr a b) (off (o.adr a) H) H H g h/\(∀s∈g,s.flat)/\c o g R X/\
 (∀f d v H',R f d->After K B H a o f H'->Rp K (off (λb=>B b\/f.adr a b) H') d v->Q v H')/\∀f e H',X f e->After K B H a o f H'->XE mg E e H'
def TVs.get:∀{b vs}{i:Nat}{s:S},TVs K Z H0 H H' b vs->b[i]?=some s->∃v,vs[i]?=some v/\TV K Z H0 H H' s v:=by
 intro n
 induction n with
 |nil=>
  intro _ i _ h e;simp at e
 |cons _ _ f=>
  intro _ i d h e;cases h with
  |cons h r=>
   cases i with
   |zero=>
    simp at e;subst e;exact⟨_,rfl,h⟩
   |succ i=>
    obtain⟨v,l,g⟩:=f r (by simpa using e);exact⟨v,by simpa using l,g⟩
noncomputable def Ki(N:Yj)(o:O)(b:List S):Γ:=some (.own o)::(b.map some++List.replicate (N.length-(b.length+1)) none)
def RJ{o a f us}(T:∀b,B b->Mut (H b)/\¬o.adr a b)(M:OR K (off (λb=>B b\/o.adr a b) H) H a o)(r:TVs K (λb=>B b\/o.adr a b) (off (o.adr a) H) H H f us)(L:∀s∈f,s.flat)(hn:f.length+1<=N.length) :
  Ue K (off (o.adr a) H) B H (start N (.ref a::us)) (Ki N o f):=by
 have get:∀i s,(Ki N o f)[i+1]?=some (some s)->f[i]?=some s:=λi s h=>by
  unfold Ki at h;rw[List.getElem?_cons_succ]at h;by_cases p:i<f.length
  ·rw[Qd (by rw[Wc];exact p),Wq,Wb p]at h;rw[Wb p];exact WA some (Wp<|Wp h)
  ·rw[Qr (by rw[Wc];lia),QU]at h;split at h<;>cases h
 have noown:∀i g,(Ki N o f)[i+1]?≠some (some<|.own g):=λi g h=>L _ (WE<|get i _ h)
 have n:(start N (V.ref a::us))[0]?=some (some<|.ref a):=by
  unfold L2.start;rfl
 have C:∀b,zof B (Ki N o f) (start N (V.ref a::us)) b->B b\/o.adr a b:=λb z=>by
  rcases z with z|⟨i,g,a',l,u,U⟩
  ·exact .inl z
  ·cases i with
   |zero=>
    cases u
    have:o=g:=by
     cases l
     rfl
    subst this;exact .inr U
   |succ i=>exact absurd l (noown i g)
 refine⟨off_sub,?_,λb h=>(T b h).1,λi j x Y g w b l u _ _ _ _=>?_,λi s h=>?_⟩
 ·unfold L2.start Ki;simp[r.len]
 ·cases i with
  |succ i=>exact absurd l (noown i g)
  |zero=>
   cases j with
   |zero=>rfl
   |succ j=>exact absurd u (noown j w)
 ·cases i with
  |zero=>
   have h:=h;cases h
   refine⟨_,n,a,rfl,λb Q=>?_,M.mono (Um (Same.refl _) λb _ _ z y=>z (C b y)) λ_ _ _ q=>q⟩;unfold off;rw[Wj Q]
  |succ i=>
   have J:=get i s h;obtain⟨v,G,A⟩:=r.get J;refine⟨v,?_,?_⟩
   ·unfold L2.start;rw[Qd (by rw[Wc,WW];have:=(WI.mp G).1;lia),Wq,List.getElem?_cons_succ,G];rfl
   ·have:=L s (WE J)
    cases s with
    |bor d=>exact A
    |sh d=>exact Rp.mono (Um (Same.refl _) λb _ _ z y=>z (C b y)) A
    |_=>exact this.elim
def Ed(o:O)(R:O->D->Prop)(γ:Γ)(d:D):Prop:=∃b,γ[0]?=some (some<|.own b)/\o.from b/\R b d
def Zcj(o:O)(X:O->Str->Prop)(γ:Γ)(e:Str):Prop:=∃b,γ[0]?=some (some<|.own b)/\o.from b/\X b e
noncomputable def Dj(o:O)(R:O->D->Prop)(X:O->Str->Prop):XX:={nx:=λγ=>Ed o R γ .non,rt:=λ_=>False,ex:=Zcj o X,rv:=Ed o R}
def Fc{σ'}{γ'}(n:OR K (off (λb=>B b\/o.adr a b) H) H a o)(e:Ue K (off (o.adr a) H) B H' σ' γ')(h:γ'[0]?=some (some<|.own o'))(k:o.from o'):After K B H a o o' H'/\∀b,B b\/o'.adr a b->zof B γ' σ' b:=by
 obtain⟨v,s,f,rfl,r,l⟩:=e.slot 0 _ h;have u:=O.from_at k n l;subst u;have g:∀b,B b\/o'.adr f b->zof B γ' σ' b:=λb z=>z.imp id λz=>⟨0,o',f,h,s,z⟩;refine⟨⟨e.same,O.from_adr k,λb p=>?_,l.mono (Um (Same.refl _) λb _ _ z y=>z (g b y)) λ_ _ _ q=>q⟩,g⟩
 have:=r b p
 unfold off at this;by_cases q:o.adr f b
 ·exact .inl q
 ·grind
def Zam{t p vs Q U n}(h:spW mg c K vs H Q U)(J:Ul K mg (λ_=>U) t p)(hn:n+1<=N.length)(L:∀o s R X,c o s R X->s.length=n/\p (Dj o R X) (Ki N o s)):t {nx:=λ_ H'=>Q .non H',rt:=Q} (start N vs) H:=by
 obtain⟨o,a,s,us,B,R,X,rfl,T,G,r,hf,hc,M,hX⟩:=h;obtain⟨e,L⟩:=L o s R X hc;refine J _ B H _ _ _ _ (λb z=>?_) (RJ T G r hf<|by rw[e];exact hn) L ⟨λl q H' A C f1=>?_,λ_ _ _ z=>z.elim,λl q c H' A C f1=>?_,λ_ _ _ z=>z.elim,λ_ _ _ z=>z.elim,λl q d v H' A C f1 Y=>?_⟩
 ·obtain⟨g,f⟩:=T b z;obtain⟨x,hx⟩:=P8 g;exact⟨x,UA hx f⟩
 ·obtain⟨w,g,f,u⟩:=A;exact M w .non .non H' u (Fc G C g f).1 .non
 ·obtain⟨w,g,f,u⟩:=A;exact hX w c H' u (Fc G C g f).1
 ·obtain⟨w,g,f,u⟩:=A;obtain⟨k1,k2⟩:=Fc G C g f;exact M w d v H' u k1 (Rp.mono (Um (Same.refl _) λb _ _ z y=>z (k2 b y)) Y)
def Zcd(h:spW mg c K vs H Q p)(f:∀o b R X,c o b R X->b.length=n):vs.length=n+1:=by
 obtain⟨o,a,b,l,B,R,X,rfl,_,_,r,_,g,_⟩:=h;rw[WW,r.len,f o b R X g]
abbrev PTW:=Γ->(Γ->D->Prop)->(Γ->Str->Prop)->Prop
def Pm(K:Ya)(mg:Ye)(E:L2.St->XK)(t:TE)(p:PTW):Prop:=∀(H0:Hp) (B:Addr->Prop) (H:Hp) (σ:L2.St) (γ:Γ) (R:Γ->D->Prop) (X:Γ->Str->Prop) (Q:VK),(∀b,B b->∃o,H0 b=some o)->Ue K H0 B H σ γ->p γ R X->
 (∀f d v H',R f d->Ue K H0 B H' σ f->Fr B H σ γ H' σ f->Rp K (off (zof B f σ) H') d v->Q v H')->(∀f c H',X f c->Ue K H0 B H' σ f->Fr B H σ γ H' σ f->XE mg (E σ) c H')->t σ H Q
variable {te:TE}{w:PTW}
noncomputable def LC(w:PTW)(g:PTG):PTS:=λR γ=>w γ (λb d=>g (.sh d) b R.nx) R.ex
def Hj(hw:Pm K mg E te w)(q:Kh K J g p):Ul K mg E (Tr te g) (LC w p):=by
 intro H0 B H σ γ R D s n h e;refine hw H0 B H σ γ _ _ _ s n h (λb d v H1 x C f1 o=>?_) λb c H' r G z=>e.ex σ b c H' r G z;exact q H0 B H1 H1 σ b (.sh d) v _ _ C (Same.refl _) o x λf l u A y _=>e.nx f l H1 u A (f1.trans y)
noncomputable def Ih(w:PTW):PTS:=λR γ=>w γ (λb _=>R.nx b) R.ex
def Tu(hw:Pm K mg E te w):Ul K mg E (T1 te) (Ih w):=by
 intro H0 B H σ γ R D l f h e;exact hw H0 B H σ γ _ _ _ l f h (λb d v H1 n p f1 _=>e.nx σ b H1 n p f1) λb c H' g q o=>e.ex σ b c H' g q o
noncomputable def R0(w:PTW):PTS:=λR γ=>w γ R.rv R.ex
def EJ(hw:Pm K mg E te w):Ul K mg E (PY te) (R0 w):=by
 intro H0 B H σ γ R D n f h e;exact hw H0 B H σ γ _ _ _ n f h (λb d v H1 o q f1 g=>e.rv σ b d v H1 o q f1 g) λb c H' l r p=>e.ex σ b c H' l r p
noncomputable def Rq(a:PTE):PTS:=λR γ=>a γ (λs=>match s.shd with|some d=>R.rv γ d|none=>False) (R.ex γ)
def Sf(p:Ub K mg E te a):Ul K mg E (PY te) (Rq a):=by
 intro H0 B H σ γ R D r b h e;refine p H0 B H σ γ _ _ _ b h (λs v H1 g f n=>?_) λc H' o l=>e.ex σ γ c H' o (b.grow l) (Fr.grow l);split at g
 ·rename_i d q;exact e.rv σ γ d v H1 g (b.grow f) (Fr.grow f) (n.shd (b.grow f).same b.zm f q)
 ·grind
def Ib{s b:S}(h:s.pass=some b):b.flat:=by
 cases s with
 |bor d=>unfold S.pass at h;cases q:imm d<;>simp[q]at h<;>subst h<;>trivial
 |tmp d=>
  unfold S.pass at h;cases q:imm d<;>simp[q]at h
  subst h;trivial
 |view o=>cases h
 |_=>cases h;trivial
theorem BO:∀{f b:List S},passes f=some b->∀s∈b,s.flat
 |[],_,h=>by cases h;simp
 |s::r,_,h=>by
  unfold passes at h;split at h
  ·rename_i n o l g;cases h
   intro x hx;rcases Wo.mp hx with rfl|hx
   ·exact Ib l
   ·exact BO g x hx
  ·grind
def TV.pass {v P W f} (r:Same H0 H') (n:∀b,Z b->Mut (H b)) (x:Same H H') (p:Same H0 (off P f)) (l:Same (off Z H') (off W f)) (h:TV K Z H0 H H' s v) (e:s.pass=some g):TV K W (off P f) f f g v:=by
 have shd:∀d,s.shd=some d->Rp K (off W f) d v:=λd u=>Rp.mono l (h.shd r n x u);cases s with
 |view o=>cases e
 |tmp d=>
  unfold S.pass at e;cases q:imm d with
  |false=>simp_all
  |true=>simp[q]at e;subst e;exact shd d (by unfold S.shd;simp[q])
 |bor d=>
  unfold S.pass at e;cases q:imm d with
  |false=>simp[q]at e;subst e;exact Rp.mono p h
  |true=>simp[q]at e;subst e;exact shd d (by unfold S.shd;simp[q])
 |_=>cases e;exact shd _ rfl
theorem TVs.pass {HB} (p:Same H0 H') (n:∀b,Z b->Mut (H b)) (q:Same H H') (o:Same H0 (off P HB)) (l:Same (off Z H') (off W HB)):∀{g f}{vs:List V},TVs K Z H0 H H' g vs->passes g=some f->TVs K W (off P HB) HB HB f vs
 |_,_,_,.nil,e=>by cases e;exact .nil
 |_,_,_,.cons h r,e=>by
  unfold passes at e;split at e
  ·rename_i v x u s;cases e
   exact .cons (h.pass p n q o l u) (TVs.pass p n q o l r s)
  ·grind
def CP{c:Pw}{i:Nat}{o:O}{a:Addr}{ss l:List S}{us:List V}{R:Γ->D->Prop}{X:Γ->Str->Prop}{Q:VK}{Ec:XK}(env:Ue K H0 B H σ γ)(hB:∀b,B b->∃o,H0 b=some o)(U:Same H H1)(L:γ[i]?=some (some<|.own o))(G:σ[i]?=some (some<|.ref a))(t1:TVs K (zof B γ σ) H0 H H1 ss us)(hp:passes ss=some l)(hc:c o l (λo' d=>R (γ.set i<|some<|.own o') d) (λo' e=>X (γ.set i<|some<|.own o') e))(q:∀f d v H',R f d->Ue K H0 B H' σ f->Fr B H σ γ H' σ f->Rp K (off (zof B f σ) H') d v->Q v H')(qx:∀f c H',X f c->Ue K H0 B H' σ f->Fr B H σ γ H' σ f->XE mg Ec c H'):spW mg c K (.ref a::us) H1 Q Ec:=by
 have g:=env.grow U;obtain⟨v,h1,T,ev,h3,h4⟩:=g.slot i _ L;rw[G]at h1;cases h1
 cases ev
 have Y:∀b,o.adr a b->zof B γ σ b:=λb p=>.inr ⟨i,o,a,L,G,p⟩
 have J:∀o' H',After K (λb=>zof B γ σ b/\¬o.adr a b) H1 a o o' H'->Ue K H0 B H' σ (γ.set i<|some<|.own o')/\Fr B H σ γ H' σ (γ.set i<|some<|.own o')/\∀b x,H' b=some x->¬((zof B γ σ b/\¬o.adr a b)\/o'.adr a b)->¬zof B (γ.set i<|some<|.own o') σ b:=λo' H' A=>by
  have C:∀b x,H' b=some x->¬((zof B γ σ b/\¬o.adr a b)\/o'.adr a b)->¬zof B (γ.set i<|some<|.own o') σ b:=λb x _ n z=>by
   rcases z with z|⟨j,fs,T,e1,M,N⟩
   ·refine n (.inl ⟨.inl z,λw=>?_⟩);obtain⟨u,hu⟩:=hB b z;rw[h3 b w]at hu;cases hu
   ·rcases U1 e1 with⟨ej,q,_⟩|⟨nj,q⟩
    ·subst ej;cases q
     rw[G]at M;cases M
     exact n (.inr N)
    ·exact n (.inl ⟨.inr ⟨j,fs,T,q,M,N⟩,λw=>nj (env.own j i T a fs o b q L M G N w)⟩)
  obtain⟨s,r⟩:=g.change (o':=o') (H':=H') L G (λb x hx n=>A.same b x (UA hx n)) (λb p=>A.at_.mut b (A.old b p)) A.new (A.at_.mono (Um (Same.refl _) λb x hx z=>C b x hx z) λ_ _ _ q=>q);exact⟨s,(Fr.grow U).trans r,C⟩
 refine⟨o,a,l,us,λb=>zof B γ σ b/\¬o.adr a b,_,_,rfl,λb p=>⟨g.zm b p.1,p.2⟩,h4.mono (Um (Same.refl _) λb _ _ z y=>z (y.elim (λy=>y.1)<|Y b)) λ_ _ _ q=>q,?_,BO hp,hc,λo' d v H' hR A rd=>?_,λo' e H' hX A=>?_⟩
 ·refine t1.pass g.same env.zm U (λb x hx=>UA (g.same b x hx) λw=>?_) (Um (Same.refl _) λb _ _ z y=>z (y.elim (λy=>y.1)<|Y b)) hp;rw[h3 b w]at hx;cases hx
 ·obtain⟨s,r,k3⟩:=J o' H' A;exact q _ d v H' hR s r (Rp.mono (λb x h=>let ⟨p1,p2⟩:=XD h;UA p1 (k3 b x p1 p2)) rd)
 ·obtain⟨s,r,_⟩:=J o' H' A;exact qx _ e H' hX s r
noncomputable def Zdd(i:Nat)(c:Pw)(r:PTA):PTW:=λγ R X=>match γ[i]? with
 |some (some<|.own o)=>r γ (λg=>match passes g with|some b=>c o b (λf d=>R (γ.set i<|some<|.own f) d) (λf e=>X (γ.set i<|some<|.own f) e)|none=>False) (X γ)
 |_=>False
noncomputable def Cr(i:Nat)(c:Pw)(r:PTA):PTW:=λγ R X=>match γ[i]? with
 |some (some<|.own o)=>r γ (λf=>match passes f with|some b=>c o b (λg d=>R (γ.set i<|some<|.own g) d) (λ_ _=>False)|none=>False) (X γ)
 |_=>False
def Lz(i:Nat){c f r}(A:Uo K mg E f r):Pm K mg E (KN (spW mg c K) [] E0<|UG (XG i) f) (Cr i c r):=by
 intro H0 B H σ γ R X Q G b h q y;unfold Cr at h;split at h
 ·rename_i o l;obtain⟨v,g,a,rfl,_,_⟩:=b.slot i _ l;refine⟨_,g,A H0 B H σ γ _ _ _ b h (λM s H1 n L u=>?_) λc H' C p=>y γ c H' C (b.grow p) (Fr.grow p)⟩;show spW mg c K ((V.ref a::s)++[]) H1 Q E0;rw[W2];split at n
  ·rename_i x J;exact CP (X:=λ_ _=>False) b G L l g u J n q λ_ _ _ z=>z.elim
  ·grind
 ·grind
def Ei(C:Addr)(xs:Yj)(j:Nat):S->(S->Prop)->Prop
 | .view (.ins _ f b h),R=>f=C/\b=xs/\∃c,h[j]?=some c/\R (.view<|.lst c.2)
 | .bor (.ins f b g),R=>f=C/\b=xs/\∃d,g[j]?=some d/\R (arg d)
 |_,_=>False
noncomputable def Zby(C:Addr)(xs:Yj)(j:Nat)(a:PTE):PTE:=λγ R X=>a γ (λs=>Ei C xs j s R) X
def Rp.ins_inv (h:Rp K H (.ins C xs ds) v):∃a b vs,v=.ref a/\H a=some (.ins C b<|xs.zip vs)/\xs.length=vs.length/\Rps K H ds vs:=by
 cases h with
 |ins h e r=>grind
def FldAt(f:Str)(xs:Yj)(j:Nat):Prop:=∀b:List V,xs.length=b.length->(xs.zip b).lookup f=b[j]?
def T4(j:Nat){a}(L:Cls K C)(G:NoAttr K C f)(J:FldAt f xs j)(ha:Ub K mg E te a):Ub K mg E (Sn K te f) (Zby C xs j a):=by
 intro H0 B H σ γ R X Q l p q qx;refine ha H0 B H σ γ _ X _ l p (λs v H1 h z A=>?_) qx;have g:=l.grow z;unfold Ei at h;split at h
 ·rename_i x C' n cs;obtain⟨rfl,rfl,c,M,o⟩:=h;obtain⟨b,rfl,T,N,⟨y,r⟩,e4,e5⟩:=A;obtain⟨U,u1,Y⟩:=e4 c (WE M);refine⟨b,_,y,_,_,rfl,r,L,G,?_,q _ _ H1 o z ⟨c.1,rfl,U,u1,Y⟩⟩;rw[J _ (by grind),Wq,M];rfl
 ·rename_i C' n ds;obtain⟨rfl,rfl,d,ed,o⟩:=h;obtain⟨b,y,vs,rfl,T,N,r⟩:=Rp.ins_inv A;obtain⟨u,hu,ru⟩:=r.get ed;refine⟨b,_,y,_,u,rfl,g.same _ _ T,L,G,by rw[J _ N];exact hu,q _ _ H1 o z (Pf g.zm g.same ru)⟩
 ·exact h.elim
noncomputable def FT(C:Addr)(xs:Yj)(c:Pc)(a:PTE)(r:PTA):PTE:=λγ R X=>a γ (λs=>match s.d with
 | .ins f b h=>f=C/\b=xs/\r γ (λg=>c (.ins f b h::g.map S.d) (λs=>R s.back) X) X
 |_=>False) X
def NoFld(m:Str)(xs:Yj):Prop:=∀b:List V,(xs.zip b).lookup m=none
noncomputable def RC(C:Addr)(m:Str)(sp:Sp)(E:L2.St->XK)(f:TE)(t:TA):TE:=λσ H Q=>f σ H λx H1=>∃a g fs,x=.ref a/\H1 a=some (.ins C g fs)/\fs.lookup m=none/\t σ H1 λb h=>sp (x::(b++[])) h Q (E σ)
def RI{m xs c z a r}(hx:NoFld m xs)(ha:Ub K mg E te a)(T:Uo K mg E z r):Ub K mg E (RC C m (Uk mg c K) E te z) (FT C xs c a r):=by
 intro H0 B H σ γ R X Q h p q y;refine ha H0 B H σ γ _ X _ h p (λs v H1 o n M=>?_) y;have f:=h.grow n;split at o
 ·rename_i C' A ds ed;obtain⟨rfl,rfl,o⟩:=o;have x:=M.rp f.same;rw[ed]at x;obtain⟨b,dx,G,rfl,e1,e2,e3⟩:=Rp.ins_inv x;refine⟨b,dx,_,rfl,e1,hx G,T H0 B H1 σ γ _ X _ f o (λss us H2 h2 l L=>?_) λc H' Y S'=>y c H' Y (n.trans S')⟩;have g:=f.grow l;rw[W2];refine⟨_,_,X,Rps.cons (Rp.mono l x) (L.rps g.same),h2,λs v H' N u J=>q _ _ H' N ((n.trans l).trans u) (J.back g (n.trans l) u),λe H' U u=>y e H' U ((n.trans l).trans u)⟩
 ·grind
def TM{m xs c f a r b}(hx:NoFld m xs)(h:Ub K mg (λ_=>b) te a)(g:Uo K mg (λ_=>b) f r):Ub K mg (λ_=>b) (K5 C m (Uk mg c K) [] b te f) (FT C xs c a r):=RI hx h g
noncomputable def Rx(C:Addr)(xs:Yj)(c:Pc)(a:PTE)(r:PTA):PTE:=λγ R X=>a γ (λs=>match s.d with
 | .ins f b h=>f=C/\b=xs/\r γ (λg=>c (.ins f b h::g.map S.d) (λs=>R s.back) λ_=>False) X
 |_=>False) X
def X8{m xs c x a r}(hx:NoFld m xs)(ha:Ub K mg E te a)(U:Uo K mg E x r):Ub K mg E (K5 C m (Uk mg c K) [] E0 te x) (Rx C xs c a r):=by
 intro H0 B H σ γ R X Q h p q y;refine ha H0 B H σ γ _ X _ h p (λs v H1 l o N=>?_) y;have f:=h.grow o;split at l
 ·rename_i C' G ds ed;obtain⟨rfl,rfl,l⟩:=l;have u:=N.rp f.same;rw[ed]at u;obtain⟨b,dx,J,rfl,e1,e2,e3⟩:=Rp.ins_inv u;refine⟨b,dx,_,rfl,e1,hx J,U H0 B H1 σ γ _ X _ f l (λss us H2 h2 n M=>?_) λc H' Y S'=>y c H' Y (o.trans S')⟩;have g:=f.grow n;rw[W2];exact⟨_,_,_,Rps.cons (Rp.mono n u) (M.rps g.same),h2,λs v H' T A L=>q _ _ H' T ((o.trans n).trans A) (L.back g (o.trans n) A),λ_ _ z=>z.elim⟩
 ·grind
noncomputable def Zda(i:Nat)(C:Addr)(xs:Yj)(c:Pw)(r:PTA):PTW:=λγ R X=>match γ[i]? with
 |some (some<|.own<|.ins x h b n)=>h=C/\b=xs/\r γ (λl=>match passes l with|some f=>c (.ins x h b n) f (λg d=>R (γ.set i<|some<|.own g) d) (λg e=>X (γ.set i<|some<|.own g) e)|none=>False) (X γ)
 |_=>False
noncomputable def CV(i:Nat)(C:Addr)(xs:Yj)(c:Pw)(r:PTA):PTW:=λγ R X=>match γ[i]? with
 |some (some<|.own<|.ins x g b n)=>g=C/\b=xs/\r γ (λh=>match passes h with|some f=>c (.ins x g b n) f (λl d=>R (γ.set i<|some<|.own l) d) (λ_ _=>False)|none=>False) (X γ)
 |_=>False
def N3(i:Nat){C m xs c f r}(hx:NoFld m xs)(A:Uo K mg E f r):Pm K mg E (K5 C m (spW mg c K) [] E0 (XG i) f) (CV i C xs c r):=by
 intro H0 B H σ γ R X Q J b h q y;unfold CV at h;split at h
 ·rename_i x C' p cs l;obtain⟨rfl,rfl,h⟩:=h;obtain⟨v,g,a,rfl,_,e1,e2,⟨N,M⟩,e4⟩:=b.slot i _ l;refine⟨_,g,a,N,_,rfl,M,hx _,A H0 B H σ γ _ _ _ b h (λY U H1 n T s=>?_) λc H' G o=>y γ c H' G (b.grow o) (Fr.grow o)⟩;rw[W2];split at n
  ·rename_i u L;exact CP (X:=λ_ _=>False) b J T l g s L n q λ_ _ _ z=>z.elim
  ·grind
 ·grind
theorem Eo{f:Type}:∀{l:List f}{i j:Nat}{x:f},l.Nodup->l[i]?=some x->l[j]?=some x->i=j
 |[],_,_,_,_,h,_=>by simp at h
 |y::r,0,0,_,_,_,_=>rfl
 |y::r,0,j+1,x,b,n,g|y::r,i+1,0,x,b,n,g=>by
  grind
 |y::r,i+1,j+1,x,b,n,g=>WA (· + 1) (Eo (Qn.mp b).2 (by trivial)<|by grind)
def Ue.cell {f b ds es us} (env:Ue K H0 B H σ γ) (L:γ[i]?=some (some<|.own<|.ins x C xs f)) (s:f[j]?=some (b,ds)) (r:Rps K (off (zof B γ σ) H) es us) :
  Ue K H0 B (upd H b<|.lst us) σ (γ.set i<|some<|.own<|.ins x C xs<|f.set j (b,es))/\Fr B H σ γ (upd H b<|.lst us) σ (γ.set i<|some<|.own<|.ins x C xs<|f.set j (b,es)):=by
 obtain⟨v,Y,a,rfl,e0,e1,e2,⟨dx,e3⟩,e4,e5⟩:=env.slot i _ L;subst e1;have l:=WE s
 have M:a≠b:=λz=>by
  obtain⟨T,o,_⟩:=e4 _ l;rw[←show a=b from z,e3]at o
  cases o
 have em:(f.set j (b,es)).map (·.1)=f.map (·.1):=by
  apply V0;intro k;rw[Wq,Wq,List.getElem?_set];by_cases e:j=k
  ·subst e;rw[Wj rfl,Wj ((WI.mp s).1),s];rfl
  ·rw[Wf e]
 have N:(f.set j (b,es)).map (λc=>V.ref c.1)=f.map λc=>V.ref c.1:=by
  have:=WA (List.map V.ref) em
  rw[WR,WR]at this;exact this
 have adr:∀c,(O.ins a C xs<|f.set j (b,es)).adr a c->(O.ins a C xs f).adr a c:=λc g=>by
  rcases g with g|⟨d,hd,g⟩
  ·exact .inl g
  ·have:d.1∈(f.set j (b,es)).map (·.1):=List.mem_map_of_mem hd
   rw[em]at this;obtain⟨d',A,p⟩:=W6.mp this;exact .inr ⟨d',A,g.trans p.symm⟩
 have y:∀c,(O.ins a C xs f).adr a c->zof B γ σ c:=λc g=>.inr ⟨i,_,a,L,Y,g⟩
 have So:Same (off (zof B γ σ) H) (off (zof B (γ.set i<|some<|.own<|.ins a C xs<|f.set j (b,es)) σ)<|upd H b<|.lst us):=λc u h=>by
  obtain⟨A,p⟩:=XD h;have G:=λz=>p (y c<|.inr ⟨_,l,z⟩);refine UA (by rw[Uj G];exact A) λz=>p ?_;rcases z with z|⟨k,fs,a',k1,k2,U⟩
  ·exact .inl z
  ·rcases U1 k1 with⟨Q,q,_⟩|⟨_,q⟩
   ·subst Q;cases q
    exact y c (adr c U)
   ·exact .inr ⟨k,fs,a',q,k2,U⟩
 refine env.change L Y (λc u hu n=>?_) (λc g=>?_) (λc g=>.inl (adr c g)) ⟨rfl,by rw[WV];exact e2,⟨dx,?_⟩,λc g=>?_,by rw[em];exact e5⟩
 ·rw[Uj λz=>n (.inr ⟨_,l,z⟩)];exact hu
 ·by_cases z:c=b
  ·rw[z,Ut];trivial
  ·rw[Uj z];exact env.zm c (y c g)
 ·rw[Uj M,N];exact e3
 ·obtain⟨k,hk,Q⟩:=List.getElem_of_mem g;have J:(f.set j (b,es))[k]?=some c:=by rw[Wb hk,Q]
  rcases U1 J with⟨_,q,_⟩|⟨nk,q⟩
  ·subst q;exact⟨us,Ut,Rps.mono So r⟩
  ·obtain⟨T,o,w2⟩:=e4 c (WE q)
   have G:=λz=>nk (by
    have h1:(f.map (·.1))[k]?=some b:=by rw[Wq,q];exact WA some z
    have h2:(f.map (·.1))[j]?=some b:=by rw[Wq,s];rfl
    exact Eo e5 h1 h2)
   exact⟨T,by rw[Uj G];exact o,Rps.mono So w2⟩
noncomputable def Gg(i j:Nat)(C:Addr)(xs:Yj)(a:PTE):PTW:=λγ R X=>match γ[i]? with
 |some (some<|.own<|.ins x g b f)=>g=C/\b=xs/\∃c,f[j]?=some c/\a γ (λs=>match s.shd with
  |some d=>c.2.length<10000000/\R (γ.set i<|some<|.own<|.ins x g b<|f.set j (c.1,c.2++[d])) .non
  |none=>False) (X γ)
 |_=>False
def BQ(i j:Nat){C f xs a}(p:Cls K C)(hn:NoAttr K C f)(hj:FldAt f xs j)(ha:Ub K mg E te a):Pm K mg E (tBM K "list" ND (Sn K (XG i) f)<|UG te Xc) (Gg i j C xs a):=by
 intro H0 B H σ γ R X Q hB g h q T;unfold Gg at h;split at h
 ·rename_i x C' M cs J;obtain⟨rfl,rfl,c,r,h⟩:=h;obtain⟨v,hv,b,rfl,_,e1,e2,⟨dx,e3⟩,e4,e5⟩:=g.slot i _ J;obtain⟨y,G,A⟩:=e4 c (WE r);refine⟨_,hv,b,_,dx,_,V.ref c.1,rfl,e3,p,hn,?_,.inl ⟨rfl,y,SqL.of G⟩,ha H0 B H σ γ _ _ _ g h (λs u H1 o n N=>?_) λc H' p L=>T γ c H' p (g.grow L) (Fr.grow L)⟩
  ·rw[hj _ (by grind),Wq,r];rfl
  ·have l:=g.grow n;split at o
   ·rename_i d ed;refine⟨c.1,y,u,rfl,rfl,n _ _ G,by rw[A.len];exact Q8 o.1 (by decide),?_⟩;obtain⟨Y,U⟩:=l.cell J r (Rps.append (Rps.mono (Um n λ_ _ _ z=>z) A)<|.cons (N.shd l.same g.zm n ed) .nil);exact q _ _ _ _ o.2 Y ((Fr.grow n).trans U) .non
   ·exact o.elim
 ·exact h.elim
def PutAt(f:Str)(xs:Yj):Prop:=∀(b:List V) (y:V),xs.length=b.length->UR f y (xs.zip b)=(xs++[f]).zip (b++[y])
noncomputable def RP(i:Nat)(C:Addr)(f:Str)(xs:Yj)(a:PTE):PTS:=λR γ=>a γ (λs=>match s with
 | .own (.lst l)=>(match γ[i]? with
  |some (some<|.own<|.ins x h g n)=>h=C/\g=xs/\xs.length<1000/\∀b,R.nx (γ.set i<|some<|.own<|.ins x h (xs++[f]) (n++[(b,l)]))
  |_=>False)
 |_=>False) (R.ex γ)
def SU(i:Nat){C f xs a}(g:Cls K C)(hn:NoAttr K C f)(hp:PutAt f xs)(ha:Ub K mg E te a):Ul K mg E (GE K (XG i) te f) (RP i C f xs a):=by
 intro H0 B H σ γ R D hB p h e;refine ha H0 B H σ γ _ _ _ p h (λs v H1 G Q t1=>?_) λc H' g S'=>e.ex σ γ c H' g (p.grow S') (Fr.grow S');split at G
 ·rename_i ds;split at G
  ·rename_i x M o r hi;obtain⟨rfl,rfl,hl,G⟩:=G;obtain⟨u,hv,b,rfl,e0,e1,e2,⟨dx,e3⟩,e4,e5⟩:=p.slot i _ hi;subst e1;obtain⟨l,rfl,L,vs,l1,l2⟩:=t1;have L:=L l rfl;refine⟨_,hv,b,_,dx,_,rfl,Q _ _ e3,g,hn,?_,?_⟩
   ·rw[List.length_zip,Wc];lia
   ·rw[hp _ _ (by rw[Wc];exact e2)]
    have nl:∀c∈r,c.1≠l:=λc g=>by
     obtain⟨ws,J,_⟩:=e4 c g;exact UC J L
    have nb:∀c∈r,c.1≠b:=λc g z=>by
     obtain⟨ws,J,_⟩:=e4 c g;rw[z,e3]at J;cases J
    have T:∀c,(O.ins b M o r).adr b c->zof B γ σ c:=λc g=>.inr ⟨i,_,b,hi,hv,g⟩
    have key:∀c u,H1 c=some u->¬(zof B γ σ c\/c=l)->¬zof B (γ.set i<|some<|.own<|.ins b M (o++[f]) (r++[(l,ds)])) σ c:=λc u _ n z=>by
     rcases z with z|⟨k,fs,a',k1,N,A⟩
     ·exact n (.inl<|.inl z)
     ·rcases U1 k1 with⟨ek,q,_⟩|⟨_,q⟩
      ·subst ek;cases q
       rw[hv]at N;cases N
       rcases A with A|⟨d,hd,A⟩
       ·exact n (.inl<|T c<|.inl A)
       ·rcases WZ.mp hd with hd|hd
        ·exact n (.inl<|T c<|.inr ⟨d,hd,A⟩)
        ·rw[Wg]at hd;subst hd;exact n (.inr A)
      ·exact n (.inl<|.inr ⟨k,fs,a',q,N,A⟩)
    have So:Same (off (λc=>zof B γ σ c\/c=l) H1) (off (zof B (γ.set i<|some<|.own<|.ins b M (o++[f]) (r++[(l,ds)])) σ)<|upd H1 b<|.ins M dx ((o++[f]).zip ((r.map λc=>V.ref c.1)++[.ref l]))):=λc u h=>by
     obtain⟨Y,U⟩:=XD h;exact UA (by rw[Uj λz=>U (.inl<|T c<|.inl z)];exact Y) (key c u Y U)
    have S0:Same (off (zof B γ σ) H) (off (λc=>zof B γ σ c\/c=l) H1):=Um Q λc u g z y=>y.elim z λy=>by rw[y,L]at g;cases g
    obtain⟨k1,N⟩:=p.change (o':=.ins b M (o++[f]) (r++[(l,ds)])) (H':=upd H1 b (.ins M dx ((o++[f]).zip ((r.map λc=>V.ref c.1)++[.ref l])))) hi hv
     (λc u hu n=>by rw[Uj λz=>n (.inl z)];exact Q _ _ hu)
     (λc g=>by
      by_cases z:c=b
      ·rw[z,Ut];trivial
      ·rw[Uj z];exact(p.grow Q).zm c (T c g))
     (λc g=>by
      rcases g with g|⟨d,hd,g⟩
      ·exact .inl (.inl g)
      ·rcases WZ.mp hd with hd|hd
       ·exact .inl (.inr ⟨d,hd,g⟩)
       ·rw[Wg]at hd;subst hd;exact .inr (by rw[show c=l from g];exact L))
     ⟨rfl,by rw[Wx,Wx,e2];rfl,⟨dx,by rw[Ut,WC];rfl⟩,λc g=>by
      rcases WZ.mp g with g|g
      ·obtain⟨ws,J,w2⟩:=e4 c g;exact⟨ws,by rw[Uj (nb c g)];exact Q _ _ J,Rps.mono So (Rps.mono S0 w2)⟩
      ·rw[Wg]at g;subst g;exact⟨vs,by rw[Uj (λz=>(UC e3 L) z.symm)];exact l1,Rps.mono So l2⟩,by
      rw[WC,Vz]
      exact⟨e5,by simp,λc g d hd z=>by
       obtain⟨c',Y,U⟩:=W6.mp g
       have:d=l:=by simpa using hd
       exact nl c' Y (U.trans<|z.trans this)⟩⟩
    exact e.nx _ _ _ (G l) k1 N
  ·exact G.elim
 ·exact G.elim
def Oc{c}{M l}{us}{R:S->Prop}{X:XR}{Q:VK}{Ec}(env:Ue K H0 B H σ γ)(p:Same H H1)(T:TVs K (zof B γ σ) H0 H H1 M us)(N:passes M=some l)(h1:∀x,c (.ins x C [] []) l (λo' d=>d=.non/\R (.own o')) (λ_ e=>X e))(q:∀s v H',R s->Same H H'->TV K (zof B γ σ) H0 H H' s v->Q v H')(Y:∀c H',X c->Same H H'->XE mg Ec c H') :
  ∀x h,H1 x=none->H1 h=none->h≠x->spW mg c K (.ref x::us) (upd (upd H1 h<|.own x) x<|.ins C h []) (λv H2=>v=.non/\Q (.ref x) H2) Ec:=by
 have f:=env.grow p;intro x h n J nex
 have u:Same H1 (upd (upd H1 h<|.own x) x<|.ins C h []):=λb o e=>by
  rwa[Uj (UC e n),Uj (UC e J)]
 have r:∀o' H',After K (zof B γ σ) (upd (upd H1 h<|.own x) x<|.ins C h []) x (.ins x C [] []) o' H'->Same H1 H'/\∀b,o'.adr x b->H b=none:=λo' H' A=>by
  refine⟨λb o e=>A.same b o (UA (u b o e) λz=>?_),λb G=>?_⟩
  ·rcases z with z|⟨c,g,_⟩
   ·rw[z,n]at e;cases e
   ·cases g
  ·rcases A.new b G with(z|⟨c,g,_⟩)|z
   ·rw[z];exact p.free n
   ·cases g
   ·exact p.free (u.free z)
 refine⟨.ins x C [] [],x,l,us,zof B γ σ,_,_,rfl,λb G=>⟨Ke u (f.zm b G),λz=>?_⟩,⟨rfl,rfl,⟨h,Ut⟩,(λc g=>by cases g),List.nodup_nil⟩,?_,BO N,h1 x,λo' d v H' L A U=>?_,λo' e H' hX A=>?_⟩
 ·rcases z with z|⟨c,g,_⟩
  ·have:=f.zm b G
   rw[z,n]at this;exact this
  ·cases g
 ·refine T.pass f.same env.zm p (λb o e=>UA (u _ _<|f.same b o e) λz=>?_) (Um u λb o e z y=>?_) N
  ·rcases z with z|⟨c,g,_⟩
   ·rw[z,(f.same).free n]at e;cases e
   ·cases g
  ·rcases y with y|y|⟨c,g,_⟩
   ·exact z y
   ·rw[y,n]at e;cases e
   ·cases g
 ·obtain⟨rfl,L⟩:=L;obtain⟨k1,k2⟩:=r o' H' A;exact⟨Rp.non_inv U,q _ _ H' L (p.trans k1) ⟨x,rfl,k2,A.at_⟩⟩
 ·exact Y e H' hX (p.trans (r o' H' A).1)
noncomputable def Rr(C:Addr)(c:Pw)(r:PTA):PTE:=λγ R X=>r γ (λf=>match passes f with|some b=>∀x,c (.ins x C [] []) b (λg d=>d=.non/\R (.own g)) (λ_ _=>False)|none=>False) X
def Zbp{f r}(o:Uo K mg E f r):Ub K mg E (NY C (spW mg c K) [] E0 f) (Rr C c r):=by
 intro H0 B H σ γ R X Q b p q n;refine o H0 B H σ γ _ X _ b p (λx v H1 g u h=>?_) n;split at g
 ·rename_i l s;rw[W2];exact Oc b u h s g q λ_ _ z=>z.elim
 ·grind
end
def Pt{b:Type}{us:List b}(h:us.length=1):∃a,us=[a]:=List.length_eq_one_iff.mp h
def TL{f:Type}{us:List f}(h:us.length=2):∃a b,us=[a,b]:=by
 cases us with
 |nil=>grind
 |cons a r=>obtain⟨b,rfl⟩:=Pt (by simpa using h);exact⟨a,b,rfl⟩
def N1{f:Type}{us:List f}(h:us.length=3):∃a b c,us=[a,b,c]:=by
 cases us with
 |nil=>grind
 |cons a r=>obtain⟨b,c,rfl⟩:=TL (by simpa using h);exact⟨a,b,c,rfl⟩
def Fj{f:Type}{us:List f}(h:us.length=4):∃a b c d,us=[a,b,c,d]:=by
 cases us with
 |nil=>grind
 |cons a r=>obtain⟨b,c,d,rfl⟩:=N1 (by simpa using h);exact⟨a,b,c,d,rfl⟩
def HU{f:Type}{us:List f}(h:us.length=5):∃a b c d e,us=[a,b,c,d,e]:=by
 cases us with
 |nil=>grind
 |cons a r=>obtain⟨b,c,d,e,rfl⟩:=Fj (by simpa using h);exact⟨a,b,c,d,e,rfl⟩
structure Uw (K:Ya) (W:Addr->Prop) (x q:Str) (st:Stmt) (ps:Yj):Prop where
 ex:∃f fd,Fun K x q st f fd/\W f/\Binds K fd ps []
structure X0 (P:Program) (w:World) (K:Ya) (mg:Ye) (base:Heap) (CX:CXT) (k:Nat) (W:Addr->Prop) (ps:Yj) (sp:Sp):Prop where
 ex:∃f fd,UQ P w K mg base CX k f fd ps sp/\W f/\Binds K fd ps []
section
variable {P:Program}{w:World}{K:Ya}{mg:Ye}{base:Heap}{W:Addr->Prop}
def Uw.ok {st N ps k sp} (D:Uw K W x q st ps) (S:Uh N ps (Ud st)) (len:∀vs H Q E,sp vs H Q E->vs.length=ps.length)
  (g:∀f b A outer s H vs Q E,Ui k (A.deeper<|envOfC q (Ud st) s.heap.objs.size f b)->sp vs H Q E->
   ∃t,PSs (Uy CX0 P w K mg base N q (Ud st) f b A outer s H E).nox (Uv st) t/\t {nx:=λ_ H'=>Q .non H',rt:=Q} (start N vs) H):X0 P w K mg base CX0 (k+1) W ps sp:=by
 obtain⟨f,p,F,n,o⟩:=D.ex;exact⟨f,p,F.ok S len λb A outer s H vs Q E l h=>g f b A outer s H vs Q E l h,n,o⟩
def Uw.okX {st N ps k sp} (D:Uw K W x q st ps) (S:Uh N ps (Ud st)) (len:∀vs H Q E,sp vs H Q E->vs.length=ps.length)
  (g:∀f b A outer s H vs Q E,Ui k (A.deeper<|envOfC q (Ud st) s.heap.objs.size f b)->sp vs H Q E->
   ∃t,PSs (Uy (ExcR.CXe P w) P w K mg base N q (Ud st) f b A outer s H E) (Uv st) t/\t {nx:=λ_ H'=>Q .non H',rt:=Q} (start N vs) H):X0 P w K mg base (ExcR.CXe P w) (k+1) W ps sp:=by
 obtain⟨f,B,F,r,u⟩:=D.ex;obtain⟨oc,z,kV,v,y,G,b,C,n,rfl,o,l⟩:=F.ex;exact⟨f,_,Bb o l S len λA outer s H vs Q E p h=>g f b A outer s H vs Q E p h,r,u⟩
def To:Xo (ExcR.CXe P w) X E0:=λ_ _ _ _ _ _ _ h=>by
 obtain⟨a,T,C,b,f,_,_,z⟩:=h
 grind
end
section
variable {X:Cx}{CX:CXT}{k:Nat}{Cc:Addr}{ps:Yj}{sp:Sp}{E:XK}{ES:L2.St->XK}{x m:Str}{p pos apos:Pos}{e o:Expr}{es:Yk}{ta:TE}{t:TA}
def Kf{pl}(C:X0 X.prog X.w X.K X.mg X.base CX k (U6 X.K Cc m) ps sp)(c:Cls X.K Cc)(n:Ui k X.A)(hx:Xo CX X E)(r:PE X o ta)(u:PA X (e::es) t)(b:autoParam (starEach (e::es) X.env=(false,eval e X.env)::starEach es X.env) au_0)(g:autoParam ((backTo pos<|starEach es X.env).any (·.1)=false) au_0)
  (l:autoParam (eval (.Call (.Attribute o m apos) (e::es) [] pos) X.env=(do
   let h ←eval o X.env
   standAt apos.atName
   let (f,first) ←holding [h] (getMethod h m pl)
   callWith pos f first (backTo pos<|starEach (e::es) X.env) (backToKw pos<|keywordEach [] X.env))) au_0) :
  PE X (.Call (.Attribute o m apos) (e::es) [] pos) (K5 Cc m sp [] E ta t):=by
 obtain⟨f,v,F,q,s⟩:=C.ex;exact Os r c q F n s .nil hx u b g l
def X3(C:X0 X.prog X.w X.K X.mg X.base CX k (U6 X.K Cc m) ps sp)(c:Cls X.K Cc)(h:Ui k X.A)(hx:Xo CX X E)(n:PE X o ta)
  (g:autoParam (eval (.Call (.Attribute o m apos) [] [] pos) X.env=(do
   let b ←eval o X.env
   standAt apos.atName
   let (f,first) ←holding [b] (getMethod b m r)
   callWith pos f first (backTo pos<|starEach [] X.env) (backToKw pos<|keywordEach [] X.env))) au_0) :
  PE X (.Call (.Attribute o m apos) [] [] pos) (K5 Cc m sp [] E ta Xc):=by
 obtain⟨f,s,F,l,q⟩:=C.ex;exact Lq n c l F h q .nil hx g
def Iw(C:X0 X.prog X.w X.K X.mg X.base CX k (Mk X.K Cc) ps sp)(l:X.mg x=some (.ref Cc))(h:Ui (k+1) X.A)(hx:Xo CX X E)(s:PA X (e::es) t)(n:autoParam (Gl X x) au_0)(g:autoParam ((x==("__debug__" : Str))=false) au_1)(q:autoParam (starEach (e::es) X.env=(false,eval e X.env)::starEach es X.env) au_0)(b:autoParam ((backTo pos<|starEach es X.env).any (·.1)=false) au_0) :
  PE X (.Call (.Name x p) (e::es) [] pos) (NY Cc sp [] E t):=by
 obtain⟨f,u,F,M,r⟩:=C.ex;exact Zcg M F h n l r .nil hx s g q b
end
abbrev PTF:=Γ->Str->(Str->Prop)->XR->Prop
section
variable {K:Ya}{mg:Ye}{E:L2.St->XK}{t:ExcR.TF}{p:PTF}{te:TE}{a:PTE}
def KS(K:Ya)(mg:Ye)(E:L2.St->XK)(t:ExcR.TF)(p:PTF):Prop:=∀(l:Hp) (B:Addr->Prop) (H:Hp) (g:L2.St) (h:Γ) (b:Str) (R:Str->Prop) (X:XR) (Q:Str->Hp->Prop),Ue K l B H g h->p h b R X->
 (∀x f,R x->Same H f->Q x f)->(∀c f,X c->Same H f->XE mg (E g) c f)->t g H b Q
noncomputable def LU:PTF:=λ_ b R _=>b.length<=sizeLine/\R b
def KY:KS K mg E ExcR.DF LU:=λn B H g l b R X Q f h q _=>⟨h.1,q _ H h.2 (Same.refl _)⟩
noncomputable def Ot(x:Str)(p:PTF):PTF:=λf b R X=>(b++x).length<=sizeLine/\p f (b++x) R X
def XT(h:KS K mg E t p):KS K mg E (ExcR.A4 x t) (Ot x p):=λr B H g l o R X Q b f q n=>⟨f.1,h r B H g l _ R X Q b f.2 q n⟩
noncomputable def R5(a:PTE)(p:PTF):PTF:=λf b R X=>a f (λs=>match s.d with
 | .int i=>i.natAbs.log2<1920/\(b++(Str.ofString<|toString i)).length<=sizeLine/\p f (b++Str.ofString (toString i)) R X
 | .str x=>x.length<=sizeLine/\(b++x).length<=sizeLine/\p f (b++x) R X
 |_=>False) X
def Ky(M:Ub K mg E te a)(h:KS K mg E t p):KS K mg E (ExcR.AR te t) (R5 a p):=λA B H u w J R X Q n L q y=>by
 refine M A B H u w _ X _ n L (λs v C f o G=>?_) y;have b:=n.grow o;have r:=G.rp b.same;split at f
 ·rename_i i ei;rw[ei]at r;exact .inl ⟨i,r.int_inv,f.1,f.2.1,h A B C u w _ R X Q b f.2.2 (λx l hx g=>q x l hx (o.trans g)) λc l z g=>y c l z (o.trans g)⟩
 ·rename_i x N;rw[N]at r;exact .inr ⟨x,r.str_inv,f.1,f.2.1,h A B C u w _ R X Q b f.2.2 (λx l hx g=>q x l hx (o.trans g)) λc l z g=>y c l z (o.trans g)⟩
 ·grind
noncomputable def pF(p:PTF):PTE:=λb R X=>p b Str.empty (λx=>R (.sh<|.str x)) X
def KU(h:KS K mg E t p):Ub K mg E (ExcR.tF t) (pF p):=λr B H f g R X Q b n q l=>
 h r B H f g _ _ X _ b n (λx s hx o=>q _ _ s hx o (.str x)) l
end
open M
noncomputable abbrev plD(f:Yb):D:=.lst (f.map prD)
noncomputable abbrev dD(q:Str×Yc):D:=.tup (.str q.1::q.2.map D.int)
noncomputable abbrev vF:Yj:=["book","fields","wished"]
noncomputable abbrev vO(C x b1 g f:Addr)(bk:List (Str×Yc))(fs b:List (Yb)):O:=.ins x C vF [(b1,bk.map dD),(g,fs.map plD),(f,b.map plD)]
noncomputable abbrev Xz(C:Addr)(bk:List (Str×Yc))(fs b:List (Yb)):D:=.ins C vF [.lst (bk.map dD),.lst (fs.map plD),.lst (b.map plD)]
def EB{b:Type}(f:b->D)(xs:List b)(x:b):atI ((xs++[x]).map f) (-1)=some (f x):=by
 refine Kn ?_;unfold atI ixN;rw[Wf (by lia),Wj (by grind)];show(xs++[x])[_]?=some x;have e:((-1:Int)+((xs++[x]).length:Int)).toNat=xs.length:=by grind
 rw[e,Qr (Wk _),Nat.sub_self];rfl
def Xb(e:Option Str)(X:Str->Prop)(R:Prop):Prop:=match e with|some c=>X c|none=>R
noncomputable def KQ(h:Int):Option Str:=if 1<=h/\h<=10 then none else some "BadHolder"
noncomputable def Kd:Yb->Option Str
 |[]=>none
 |q::r=>if ¬(1<=q.1/\q.1<=10)then some "BadHolder" else if ¬(1<=q.2/\q.2<=1000)then some "BadWidth" else Kd r
noncomputable def Pd(ps:Yb):Option Str:=if 40<ps.length then some "TooManyStrips" else Kd ps
theorem DW:∀{ps:Yb},Field ps->Kd ps=none
 |[],_=>rfl
 |q::r,h=>by
  obtain⟨l,g,f,b⟩:=h q Wz;unfold Kd;rw[Wf (λz=>z ⟨l,g⟩),Wf (λz=>z ⟨f,b⟩)];exact DW λx hx=>h x (Wr _ hx)
def Zb7(h:Field ps)(b:ps.length<=40):Pd ps=none:=by
 unfold Pd;rw[Wf (by lia)];exact DW h
noncomputable def N9(ps:Yb)(p:Int):Option Str:=if p<1\/(ps.length:Int)<p then some "NoStrip" else none
noncomputable def UP(ps:Yb)(p:Int):Int×Int:=ps.getD (p-1).toNat (0,0)
noncomputable def Kj(ps:Yb)(p h:Int):Option Str:=if p<1\/(ps.length:Int)<p then some "NoStrip" else if ¬(1<=h/\h<=10)then some "BadHolder" else if (UP ps p).1=h then some "OwnStrip" else none
noncomputable def Kb(ps:Yb)(p h:Int):Yb:=ps.set (p-1).toNat (h,(UP ps p).2)
def CM{ps:Yb}{p:Int}{x}(f:1<=p)(b:p<=ps.length):cutD (ps.map prD) none (some (p-1))++[prD x]++cutD (ps.map prD) (some p) none=(ps.set (p-1).toNat x).map prD:=by
 rw[NH,NH,Hy ps (by lia),Sb ps (by lia)];have e:p.toNat=(p-1).toNat+1:=by lia
 rw[e,List.set_eq_take_append_cons_drop,Wj (by lia),WC,W7,QY];rfl
def F6{p}(f:1<=p)(b:p<=ps.length):atI (ps.map prD) (p-1)=some (prD<|UP ps p):=by
 rw[FX (by lia) (by lia)];unfold UP;rw[Wl,Wb (by lia)];rfl
def OH(ps:Yb)(p h:Int):(Kb ps p h).length=ps.length:=WV ..
def Ls(b:Field ps)(e:Kj ps p h=none):Field (Kb ps p h):=by
 unfold Kj at e;split at e
 ·cases e
 ·split at e
  ·cases e
  ·rename_i o n;have f:(p-1).toNat<ps.length:=by lia
   intro q hq;rcases List.mem_or_eq_of_mem_set hq with hq|rfl
   ·exact b q hq
   ·have:UP ps p∈ps:=by
     unfold UP;rw[Wl,Wb f]
     grind
    obtain⟨_,_,l,g⟩:=b _ this;lia
def MK(q:Int×Int)(r:Yb):Kd (q::r)=if ¬(1<=q.1/\q.1<=10)then some ("BadHolder" : Str)else if ¬(1<=q.2/\q.2<=1000)then some ("BadWidth" : Str)else Kd r:=rfl
def Ha{p}(g:1<=p)(f:p<=ps.length):UP ps p∈ps:=by
 have b:(p-1).toNat<ps.length:=by lia
 unfold UP;rw[Wl,Wb b]
 grind
noncomputable def XS(f:Yb)(a b:Int):Option Str:=if ¬(1<=a/\a<=10)then some "BadHolder" else if ¬(1<=b/\b<=10)then some "BadHolder" else if a=b then some "LikeHolders" else if (a,b)∈f then some "WishStands" else if 20<=f.length then some "TooManyWishes" else none
def Mq(h:X2 f)(e:XS f a b=none):X2 (f++[(a,b)]):=by
 unfold XS at e;split at e
 ·cases e
 split at e
 ·cases e
 split at e
 ·cases e
 split at e
 ·cases e
 split at e
 ·cases e
 rename_i v u s n r;obtain⟨p,l,o⟩:=h;refine⟨by rw[Wx,List.length_singleton];lia,?_,λq hq=>?_⟩
 ·rw[Vz];exact⟨l,by simp,λx hx y g z=>by rw[Wg]at g;subst g;exact n (z▸hx)⟩
 ·grind
def IS:X2 []:=by trivial
noncomputable def Su(m:Yc)(k:Int):Int:=1+(k*m.getD 1 0+m.getD 2 0) % 10
def RQ(f:PR m){x y}(hx:0<=x/\x<=9)(l:0<=y/\y<=9)(h:x≠y):Su m x≠Su m y:=by
 obtain⟨a,b,c,d,e,rfl,r,⟨_,_,q⟩,p,o,n⟩:=f;intro z;have g:1+(x*b+c) % 10=1+(y*b+c) % 10:=z
 grind
def two_ne{o r p:Int}(f:0<=o/\o<p)(b:0<=r/\r<p-1):(0<=(o+1+r) % p/\(o+1+r) % p<p)/\o≠(o+1+r) % p:=by
 by_cases h:o+1+r<p
 ·rw[Int.emod_eq_of_lt (by lia) h];lia
 ·rw[←Int.sub_emod_right,Int.emod_eq_of_lt (by lia) (by lia)];lia
def A0{a b}(o:1<=a/\a<=10)(n:1<=b/\b<=10)(l:a≠b)(h:(a,b)∉f)(g:f.length<20):XS f a b=none:=by
 unfold XS
 grind
noncomputable def UH(ps:Yb)(os:Yc):Option Str:=if os.isPerm (U5 ps)=true then none else some "BadOrder"
def F7{os}(h:os.Perm (U5 ps)):UH ps os=none:=by
 unfold UH;rw[Wj (Vq.mpr h)]
def OP{os ns}(b:ns.Perm os)(f:ns.Pairwise (·<=·)):(ns=U5 ps)↔os.isPerm (U5 ps)=true:=by
 rw[Vq];exact⟨λz=>z▸b.symm,λz=>Za1 z b f⟩
def Io(h:X2 b){i}(g:i<b.length):XS (b.take i) b[i].1 b[i].2=none:=by
 obtain⟨⟨q,p,o,n⟩,l⟩:=h.2.2 b[i] (W9 g);refine A0 ⟨q,p⟩ ⟨o,n⟩ l (λz=>?_) (by rw[WN];have:=h.1;lia);obtain⟨j,f,e⟩:=WQ.mp z;rw[WN]at f;rw[Q6]at e
 have:=(List.getElem_inj h.2.1).mp (e.trans rfl)
 lia
noncomputable abbrev d3(k:Str)(a b:Int):D:=.tup [.str k,.int a,.int b]
end Pu
namespace M
open L2 Own Pu
def RR{o:Yc}(f:Field ps)(h:o.Perm (U5 ps)):∀p∈ps,p.1∈o:=λp b=>h.mem_iff.mpr ((Sa f).mpr (W6.mpr ⟨p,b,rfl⟩))
end M
namespace Pu
open L2 Own
section
variable {K:Ya}{mg:Ye}{E:L2.St->XK}
def GA:List S->(S->Prop)->Prop
 |[s],R=>(match s.d with | .int i=>R (.sh<|.int i) | .bl k=>R (.sh<|.int (if k then 1 else 0))|_=>False)
 |_,_=>False
def MH(p:Uo K mg E l r):Ub K mg E (tCB (λxs H Q=>(∃i,xs=[.int i]/\Q (.int i) H)\/∃k,xs=[.bl k]/\Q (.int (if k then 1 else 0)) H) l) (pCB GA r):=by
 refine XZ p λz H f Z w u R Q o x y g h q=>?_;unfold GA at h;split at h
 ·rename_i s;obtain⟨v,rfl,n⟩:=g.one_inv;have b:=n.rp o;split at h
  ·rename_i i e;rw[e]at b;exact .inl ⟨i,by rw[b.int_inv],q _ _ f h (Same.refl _) (.int _)⟩
  ·rename_i k e;rw[e]at b;exact .inr ⟨k,by rw[b.bl_inv],q _ _ f h (Same.refl _) (.int _)⟩
  ·grind
 ·exact h.elim
end
structure DI (K:Ya) (x:Str) (st:Stmt):Prop where
 ex:∃f fd,PySem.W.nsIn K mainGlobals x=some (some<|.ref f)/\Fun K x x st f fd
structure MI (K:Ya) (C:Addr) (m q:Str) (st:Stmt):Prop where
 ex:∃f fd,PySem.W.findIn K (.ref C) m=some (some<|.ref f)/\PySem.W.isFn K (.ref f)=true/\Fun K m q st f fd
section
variable {K:Ya}{h:Heap}{mg:Ye}
def di{st f oc p q g kV n o b ct}(a:PySem.W.nsIn K mainGlobals x=some (some<|.ref f))(l:K.lookup f=some ⟨oc,p,.func (PySem.W.fnOf x x (Xu st) (Uv st) (Ud st) .none kV n o q b ct),g⟩)(c:PySem.W.codeIn K b x=true)(k:PySem.W.keepIn K (.ref f)=true):DI K x st:=⟨f,_,a,SD l c k⟩
def mi{st f oc p r g kV n o b ct}(a:PySem.W.findIn K (.ref C) m=some (some<|.ref f))(i:PySem.W.isFn K (.ref f)=true)(l:K.lookup f=some ⟨oc,p,.func (PySem.W.fnOf m q (Xu st) (Uv st) (Ud st) .none kV n o r b ct),g⟩)(c:PySem.W.codeIn K b q=true)(k:PySem.W.keepIn K (.ref f)=true):MI K C m q st:=⟨f,_,a,i,SD l c k⟩
def DI.d {st ps} (D:DI K x st) (X:K.In h) (o:h.Ns mainGlobals mg)
  (b:∀kV f l n g ct us,us.length=ps.length->bindArgs (PySem.W.fnOf x x (Xu st) (Uv st) (Ud st) .none kV f l n g ct) ⟨us,[]⟩=pure (ps.zip us)):Def K mg x st ps:=
 let ⟨_,_,a,F⟩:=D.ex
 ⟨_,_,F,W3 X o a,F.binds b⟩
def MI.d {m q st ps} (D:MI K C m q st) (e:o=C)
  (b:∀kV f l n g ct us,us.length=ps.length->bindArgs (PySem.W.fnOf m q (Xu st) (Uv st) (Ud st) .none kV f l n g ct) ⟨us,[]⟩=pure (ps.zip us)):Uw K (U6 K o m) m q st ps:=
 let ⟨_,_,a,i,F⟩:=D.ex
 ⟨_,_,F,by rw[e];exact⟨a,i,F.kp⟩,F.binds b⟩
def MI.i {q st ps} (D:MI K C "__init__" q st) (e:p=C) (mk:PySem.W.makesIn K C=true) (n:PySem.W.keepIn K (.ref C)=true)
  (b:∀kV f l o g ct us,us.length=ps.length->bindArgs (PySem.W.fnOf "__init__" q (Xu st) (Uv st) (Ud st) .none kV f l o g ct) ⟨us,[]⟩=pure (ps.zip us)):Uw K (Mk K p) "__init__" q st ps:=
 let ⟨_,_,a,i,F⟩:=D.ex
 ⟨_,_,F,by rw[e];exact⟨mk,a,i,n⟩,F.binds b⟩
end
def fs{N P b}(p:autoParam (b.kind=.function) au_0)(o:autoParam (b.isCoroutine=false) au_0)(n:autoParam (b.isGenerator=false) au_0)(l:autoParam (N.Nodup) au_5)(h:autoParam (N.take P.length=P) au_0)(g:autoParam (∀x∈P,b.names.lookup x=some .local\/b.names.lookup x=some .cell) au_5)(f:autoParam (∀y∈b.names,y.2≠.free) au_5):Uh N P b:=⟨p,o,n,l,h,g,f⟩
def pz{pos x e te b}(i:Nat)(n:X.N.Nodup)(l:PE X e te)(g:autoParam (X.N[i]?=some x) au_0)(hx:autoParam (Loc X.env.scope x) au_6)(f:autoParam (swapsWith e (some<|.Name x b) pos.line X.env=pure false) au_0)(h:autoParam (X.fn x=true\/X.env.scope.names.lookup x=some .local) au_2) :
  PS X (.Assign [.Name x b] e pos) (Tr te<|Pk i):=Zbx n g hx l f h
section
variable {X:Cx}{k j:Nat}{x:Str}{ps:Yj}{sp:Sp}{e a b c:Expr}{es:Yk}{t:TA}{te tf tg:TE}{p pos:Pos}
def fz(C:Callee X.prog X.w X.K X.mg X.base CX0 k x ps sp)(h:Ui j X.A)(q:PA X (e::es) t)(l:autoParam (k<=j) au_1)(n:autoParam (Gl X x) au_0)(g:autoParam ((x==("__debug__" : Str))=false) au_1)(o:autoParam (starEach (e::es) X.env=(false,eval e X.env)::starEach es X.env) au_0)(f:autoParam ((backTo pos<|starEach es X.env).any (·.1)=false) au_0) :
  PE X (.Call (.Name x p) (e::es) [] pos) (KN sp [] E0 t):=Cv C (h.mono l) Xt q n g o f
def jx(K:Ya)(h:PE X a te)(g:PE X b tf)(l:autoParam (X.K=K) au_0)(f:autoParam (BP b) au_7):PE X (.Subscript a b pos) (tOp (λx y H Q=>Te K x y H Q\/Tj K x y H Q) te tf):=TB (Hm l) h g f
def ln(K:Ya)(h:X.mg "len"=none)(o:PE X a te)(q:autoParam (X.K=K) au_0)(l:autoParam (Gl X "len") au_0)(g:autoParam (starEach [a] X.env=(false,eval a X.env)::starEach [] X.env) au_0)(f:autoParam ((backTo pos<|starEach [] X.env).any (·.1)=false) au_0) :
  PE X (.Call (.Name "len" p) [a] [] pos) (tCB (λxs H Q=>∃x n,xs=[x]/\Np K x H n/\Q (.int (n:Nat)) H)<|UG te Xc):=Xe (LX q) l h PySem.boot_len (Xd o UO g) (by decide) rfl g f
def cq(K:Ya)(f:Ui j X.A)(h:PE X a te)(g:PE X b tf)(l:autoParam (X.K=K) au_0):PT X (.Compare a [.Eq] [b] pos) (Ng<|tOp (λx y H Q=>rEq x y H Q\/XB K false x y H Q) te tf):=KH (Ip f.units0 l) h g (KB _)
def cn(K:Ya)(f:Ui j X.A)(h:PE X a te)(g:PE X b tf)(l:autoParam (X.K=K) au_0):PT X (.Compare a [.NotEq] [b] pos) (Ng<|tOp (λx y H Q=>rNe x y H Q\/XB K true x y H Q) te tf):=KH (HF f.units0 l) h g (KB _)
def az(f:PE X a te)(g:autoParam (starEach [a] X.env=(false,eval a X.env)::starEach [] X.env) au_0):PA X [a] (UG te Xc):=Xd f UO g
def bz(g:PE X a te)(f:PE X b tf)(l:autoParam (starEach [a,b] X.env=(false,eval a X.env)::starEach [b] X.env) au_0)(h:autoParam (starEach [b] X.env=(false,eval b X.env)::starEach [] X.env) au_0):PA X [a,b] (UG te<|UG tf Xc):=Xd g (Xd f UO h) l
def dz(h:PE X a te)(g:PE X b tf)(f:PE X c tg)(o:autoParam (starEach [a,b,c] X.env=(false,eval a X.env)::starEach [b,c] X.env) au_0)(n:autoParam (starEach [b,c] X.env=(false,eval b X.env)::starEach [c] X.env) au_0)(l:autoParam (starEach [c] X.env=(false,eval c X.env)::starEach [] X.env) au_0):PA X [a,b,c] (UG te<|UG tf<|UG tg Xc):=Xd h (Xd g (Xd f UO l) n) o
end
section
variable {K:Ya}{mg:Ye}{E:L2.St->XK}{ta tb tc:TE}{a b c:PTE}
def sz(f:Ub K mg E ta a):Uo K mg E (UG ta Xc) (Xh a XN):=Nu f UW
def tz(g:Ub K mg E ta a)(f:Ub K mg E tb b):Uo K mg E (UG ta<|UG tb Xc) (Xh a<|Xh b XN):=Nu g (sz f)
def uz(h:Ub K mg E ta a)(g:Ub K mg E tb b)(f:Ub K mg E tc c):Uo K mg E (UG ta<|UG tb<|UG tc Xc) (Xh a<|Xh b<|Xh c XN):=Nu h (tz g f)
end
section
variable {K:Ya}{h:Heap}{mg:Ye}{C C':Addr}{x m q:Str}{st:Stmt}{ps:Yj}
abbrev Bd(x q:Str)(st:Stmt)(ps:Yj):Prop:=∀(kV f l:Value) (o:Yn) (g n:Value) (b:Yi),b.length=ps.length->bindArgs (PySem.W.fnOf x q (Xu st) (Uv st) (Ud st) .none kV f l o g n) ⟨b,[]⟩=pure (ps.zip b)
def DI.e (D:DI K x st) (X:K.In h) (g:h.Ns mainGlobals mg) (b:Bd x x st ps:=by
  intro _ _ _ _ _ _ us f
  first
   |(obtain⟨_,rfl⟩:=Pu.Pt f;rfl)
   |(obtain⟨_,_,rfl⟩:=Pu.TL f;rfl)
   |(obtain⟨_,_,_,rfl⟩:=Pu.N1 f;rfl)
   |(obtain⟨_,_,_,_,rfl⟩:=Pu.Fj f;rfl)
   |(obtain⟨_,_,_,_,_,rfl⟩:=Pu.HU f;rfl)):Def K mg x st ps:=D.d X g b
def MI.e (D:MI K C m q st) (e:C'=C) (b:Bd m q st ps:=by
  intro _ _ _ _ _ _ us f
  first
   |(obtain⟨_,rfl⟩:=Pu.Pt f;rfl)
   |(obtain⟨_,_,rfl⟩:=Pu.TL f;rfl)
   |(obtain⟨_,_,_,rfl⟩:=Pu.N1 f;rfl)
   |(obtain⟨_,_,_,_,rfl⟩:=Pu.Fj f;rfl)):Uw K (U6 K C' m) m q st ps:=D.d e b
def MI.j (D:MI K C "__init__" q st) (e:C'=C) (mk:PySem.W.makesIn K C=true) (g:PySem.W.keepIn K (.ref C)=true) (b:Bd "__init__" q st ps:=by
  intro _ _ _ _ _ _ us f
  first
   |(obtain⟨_,rfl⟩:=Pu.Pt f;rfl)
   |(obtain⟨_,_,rfl⟩:=Pu.TL f;rfl)
   |(obtain⟨_,_,_,rfl⟩:=Pu.N1 f;rfl)):Uw K (Mk K C') "__init__" q st ps:=D.i e mk g b
end
section
variable {P:Program}{w:World}{K:Ya}{mg:Ye}{base:Heap}{N ps:Yj}{sp:Sp}{p:PTS}{x q:Str}{st:Stmt}{k:Nat}{W:Addr->Prop}
structure Uz (K:Ya) (mg:Ye) (N ps:Yj) (sp:Sp) (p:PTS):Prop where
 len:∀vs H Q E,sp vs H Q E->vs.length=ps.length
 run:∀vs H Q E t,sp vs H Q E->Ul K mg (λ_=>E) t p->t {nx:=λ_ H'=>Q .non H',rt:=Q} (start N vs) H
def Uz.a (b:∀ds R X,c ds R X->ds.length=ps.length/\p {nx:=λ_=>R (.sh .non),rt:=R,ex:=λ_ e=>X e} (Kp N ds)) (f:autoParam (ps.length<=N.length) au_1):Uz K mg N ps (Uk mg c K) p:=
 ⟨λ_ _ _ _ h=>M6 h λds R X z=>(b ds R X z).1,λ_ _ _ _ _ h s=>OS h s f b⟩
def Uz.c {c y} (f:∀o b R X,c o b R X->b.length=ps.length/\p (Dj o R X) (Ki N o b)) (g:autoParam (ps.length+1<=N.length) au_1):Uz K mg N (y::ps) (spW mg c K) p:=
 ⟨λ_ _ _ _ h=>Zcd h λo l R X z=>(f o l R X z).1,λ_ _ _ _ _ h s=>Zam h s g f⟩
def _root_.Own.Def.oz (D:Def K mg x st ps) (S:Uh N ps (Ud st))
  (g:∀f b A outer s H E,Ui k (A.deeper<|envOfC x (Ud st) s.heap.objs.size f b)->
   ∃t,PSs (Uy CX0 P w K mg base N x (Ud st) f b A outer s H E).nox (Uv st) t/\Ul K mg (λ_=>E) t p) (u:Uz K mg N ps sp p):Callee P w K mg base CX0 (k+1) x ps sp:=
 D.ok S u.len λf b A outer s H n Q E l h=>(g f b A outer s H E l).elim λt z=>⟨t,z.1,u.run _ _ _ _ _ h z.2⟩
def _root_.Own.Def.ox (D:Def K mg x st ps) (S:Uh N ps (Ud st))
  (g:∀f b A outer s H E,Ui k (A.deeper<|envOfC x (Ud st) s.heap.objs.size f b)->
   ∃t,PSs (Uy (ExcR.CXe P w) P w K mg base N x (Ud st) f b A outer s H E) (Uv st) t/\Ul K mg (λ_=>E) t p) (u:Uz K mg N ps sp p):Callee P w K mg base (ExcR.CXe P w) (k+1) x ps sp:=
 ExcR.Def.okX D S u.len λf b A outer s H n Q E l h=>(g f b A outer s H E l).elim λt z=>⟨t,z.1,u.run _ _ _ _ _ h z.2⟩
def Uw.oz (D:Uw K W x q st ps) (S:Uh N ps (Ud st))
  (g:∀f b A outer s H E,Ui k (A.deeper<|envOfC q (Ud st) s.heap.objs.size f b)->
   ∃t,PSs (Uy CX0 P w K mg base N q (Ud st) f b A outer s H E).nox (Uv st) t/\Ul K mg (λ_=>E) t p) (u:Uz K mg N ps sp p):X0 P w K mg base CX0 (k+1) W ps sp:=
 D.ok S u.len λf b A outer s H n Q E l h=>(g f b A outer s H E l).elim λt z=>⟨t,z.1,u.run _ _ _ _ _ h z.2⟩
def Uw.ox (D:Uw K W x q st ps) (S:Uh N ps (Ud st))
  (g:∀f b A outer s H E,Ui k (A.deeper<|envOfC q (Ud st) s.heap.objs.size f b)->
   ∃t,PSs (Uy (ExcR.CXe P w) P w K mg base N q (Ud st) f b A outer s H E) (Uv st) t/\Ul K mg (λ_=>E) t p) (u:Uz K mg N ps sp p):X0 P w K mg base (ExcR.CXe P w) (k+1) W ps sp:=
 D.okX S u.len λf b A outer s H n Q E l h=>(g f b A outer s H E l).elim λt z=>⟨t,z.1,u.run _ _ _ _ _ h z.2⟩
end
section
variable {K:Ya}{h:Heap}{mg:Ye}{x:Str}{C:Addr}
structure EI (K:Ya) (x:Str) (C:Addr):Prop where
 a:PySem.W.nsIn K mainGlobals x=some (some<|.ref C)
 g:ExcR.UI K C
def ei(a:PySem.W.nsIn K mainGlobals x=some (some<|.ref C))(q:PySem.W.excIn K C [.type "ValueError",.type "Exception",.type "BaseException",.type "object"] "ValueError.__new__"=true)(f:PySem.W.findIn K (.ref C) "__getattribute__"=some (some<|.builtin "BaseException.__getattribute__"))(b:PySem.W.findIn K (.ref C) "__getattr__"=some none)(g:PySem.W.findIn K (.ref C) "__class__"=some (some<|.builtin "object.__class__"))(i:PySem.W.clsIn K C=some d):EI K x C:=⟨a,⟨⟨q⟩,f,b,g,by rw[i];rfl⟩⟩
def EI.c (y:EI K x C) (X:K.In h) (b:h.Ns mainGlobals mg):ExcR.Ug mg x=C:=ExcR.NU (W3 X b y.a)
def EI.m (y:EI K x C) (X:K.In h) (b:h.Ns mainGlobals mg):mg x=some (.ref<|ExcR.Ug mg x):=by rw[y.c X b];exact W3 X b y.a
def EI.k (y:EI K x C) (X:K.In h) (b:h.Ns mainGlobals mg):ExcR.UI K (ExcR.Ug mg x):=by rw[y.c X b];exact y.g
end
theorem NoFld.of:∀{xs:Yj},(xs.all λx=>!(m==x))=true->NoFld m xs
 |[],_,_|_::_,_,[]=>rfl
 |x::xs,h,v::b=>by
  rw[Vb,W1]at h;show(match m==x with|true=>some v|false=>(xs.zip b).lookup m)=none
  rw[show(m==x)=false by simpa using h.1];exact NoFld.of h.2 b
theorem FldAt.of (g:(f==f)=true):∀{xs}{j:Nat},((xs.take j).all λx=>!(f==x))=true->xs[j]?=some f->FldAt f xs j
 |[],_,_,e,_,_=>by simp at e
 |_::_,_,_,_,[],e=>rfl
 |x::xs,0,_,e,v::b,_=>by
  simp_all
 |x::xs,j+1,h,e,v::b,l=>by
  rw[List.take_succ_cons,Vb,W1]at h;show(match f==x with|true=>some v|false=>(xs.zip b).lookup f)=(v::b)[j+1]?
  rw[show(f==x)=false by simpa using h.1];exact FldAt.of g h.2 (by grind) b (by grind)
theorem PutAt.of:∀{xs:Yj},(xs.all λx=>decide (x≠f))=true->PutAt f xs
 |[],_,[],_,_=>rfl
 |[],_,_::_,_,e|_::_,_,[],_,e=>by cases e
 |x::xs,h,v::b,y,e=>by
  rw[Vb,W1]at h;show(if x=f then(x,y)::xs.zip b else(x,v)::UR f y (xs.zip b))=(x,v)::(xs++[f]).zip (b++[y]);rw[Wf (Wm h.1),PutAt.of h.2 b y (by grind)]
end Pu
namespace M
open L2 Own Pu
noncomputable def pcc(ps:Yb):Int->Int->Int:=λx y=>pcM ps x y ps.length
end M
namespace ExcR
open L2
noncomputable def hxL(K:Ya):List (Addr×Option Nat×TS)->Ends->L2.St->XK
 |[],_=>λ_ _ _ _=>False
 |(n,l,g)::r,D=>λf c h H=>∃C b,c=.ref C/\PySem.W.exmOne K (.ref C) (.ref n)=some b/\
  if b=true then(match l with
   |some i=>∀a,H a=none->g (Ea i D) (f.set i<|some<|.ref a) (upd H a<|X7 a C h)
   |none=>g D f H)else hxL K r D f c h H
section
variable {X:Cx}{pins pins1:Yd}{σ:L2.St}{H H':Hp}{s s':Shared}{h3:Heap}{a T C C0:Addr}{dx:Yn}{fl:Value}{D:Ends}{hs:List ExceptHandler}{L:List (Addr×Option Nat×TS)}
structure Pre (X:Cx) (pins:Yd) (σ:L2.St) (H H':Hp) (s s':Shared) (h3:Heap) (a T C:Addr) (dx:Yn) (fl:Value):Prop where
 I:Inv X pins σ H s
 os:s'.os=s.os
 bare:AllBare s'.gens
 na:s.heap.get? a=none
 nT:s.heap.get? T=none
 fa:H' a=none
 fT:H' T=none
 tr:Trc h3 a T (.ref C,dx) fl
 u:Un (frs X.stack) [] H H' s.heap h3
 ok:HOk X.prog X.w H' h3
def Pre.inv (p:Pre X pins σ H H' s s' h3 a T C dx fl):Inv X pins σ H' {s' with heap:=h3}:=p.I.call' p.os p.u p.ok p.bare λb z=>absurd z (by simp)
def PH(X:Cx)(hs:List ExceptHandler)(L:List (Addr×Option Nat×TS)):Prop:=∀(pins:Yd) (σ:L2.St) (H H':Hp) (s s':Shared) (h3:Heap) (a T C:Addr) (dx:Yn) (fl:Value) (D:Ends),
 Pre X pins σ H H' s s' h3 a T C dx fl->hxL X.K L D σ (.ref C) dx H'->wpAny (model X.prog X.w) X.A (handleBy (.ref a) X.env hs) (SP X pins D) X.xe {s' with heap:=h3}
def Zas:PH X [] []:=λ_ _ _ _ _ _ _ _ _ _ _ _ _ _ h=>h.elim
section
variable {x n:Str}{np hpos:Pos}{b0:Stmt}{suite:Yl}{i:Nat}{ts:TS}
def R8(hN:X.N.Nodup)(hi:X.N[i]?=some n)(G:X.env.scope.names.lookup n=some .local)(hg:Gl X x)(hm:X.mg x=some (.ref C0))(hdb:(x==("__debug__" : Str))=false)(Y:∀a,PSs (XC X a) (b0::suite) ts)(hr:PH X hs L):PH X (.ExceptHandler (some<|.Name x np) (some n) (b0::suite) hpos::hs) ((C0,some i,ts)::L):=by
 rintro pins σ H H' s s' h3 a T C dx fl D p ⟨C',b,ec,em,q⟩;obtain rfl:=Value.ref.inj ec;have J3:=p.inv;have S3:Inv (XC X a) pins σ H' {s' with heap:=h3}:=T9 J3
 refine wpAny_handleBy_cons (codeAny_handlers_test<|K0 S3 hg hm ?_ hdb) (by intro z;cases z);obtain⟨_,⟨oe,vs,g1,g2,g3,g4⟩,_⟩:=id p.tr;refine(PySem.W.exm_one J3.kIn ((show oe.cls=Value.ref C from WA Prod.fst g2)▸(PySem.W.Looks.ld g1).andThen .now) em).here ?_
 cases b with
 |false=>exact hr pins σ H H' s s' h3 a T C dx fl D p q
 |true=>
 refine codeAny_handlers_suite_as (Tg p.tr λJ M k4=>?_);have h:=Na p.u (k4.mono (by simp) λ_ z=>z) λb r=>by rw[Wg.mp r];exact p.nT
 have u5:Un (frs X.stack) [] H (upd H' a<|X7 a C dx) s.heap J:=by
  have ne:∀b o,s.heap.get? b=some o->b≠a:=λb o z w=>by rw[w,p.na]at z;cases z
  have l:∀b o,H' b=some o->b≠a:=λb o z w=>by rw[w,p.fa]at z;cases z
  refine⟨h.keep,h.slot,λb o z n m=>by rw[Uj (ne b o z)];exact h.free b o z n m,h.there,λb xs z=>?_,λb o u z=>?_,λb ps z=>?_⟩
  ·rw[Uj (l b _<|h.tups b xs z)];exact h.tups b xs z
  ·rw[Uj (l b _<|h.frzs b o u z)];exact h.frzs b o u z
  ·obtain⟨more,z1⟩:=h.tbls b ps z;exact⟨more,by rw[Uj (l b _ z1)];exact z1⟩
 have U:HOk X.prog X.w (upd H' a<|X7 a C dx) J:=λb ob e=>by
  by_cases r:b=a
  ·subst r;rw[Ut]at e;cases e
   exact Zcv M
  ·rw[Uj r]at e;refine((Ph p.ok k4 (by simp) λb r=>by rw[Wg.mp r];exact p.fT) b ob e).stay (λ_ _ _ z=>z) (λc z=>?_) λc xs z=>?_
   ·rw[Uj λw=>by rw[w,p.fa]at z;cases z];exact z
   ·rw[Uj λw=>by rw[w,p.fa]at z;cases z];exact z
 have J5:Inv X pins σ (upd H' a<|X7 a C dx) {s' with heap:=J}:=p.I.call' p.os u5 U p.bare λb z=>absurd z (by simp)
 have S5:Inv (XC X a) pins σ (upd H' a<|X7 a C dx) {s' with heap:=J}:=T9 J5
 refine KD (X:=XC X a) S5 hN hi (.inl G) (v:=.ref a) rfl (λs6 S6=>?_) (.inr G);refine WB (Y a pins s6 _ _ _ S6<|q a p.fa) (λf s7 h7=>?_) λ_ _ z=>z.elim
 have gone:∀{g:L2.St} {B:Hp} {R:Unit->Shared->Prop},Inv (XC X a) pins g B s7->(∀E,Inv X pins (g.set i none) B E->R () E)->wpAny (model X.prog X.w) X.A (do bindName X.env n .none;unbindBehindTheSuite X.env n hpos) R X.xe s7:=λ{g B R} y hR=>by
  obtain⟨m,hn,hl⟩:=id y.loc;exact wpAny_nameGoes_keeps G hn (by rw[show X.env.scope.kind=.function from J5.ok.kind];rfl) λh8 v hn8 hs8=>hR _ (Zb3 (N7 J5.ok y) hN hi G hl hn hn8 hs8)
 cases f with
 |ret u=>obtain⟨v,g,B,y,rv,Q⟩:=h7;exact gone y λE I8=>⟨v,_,_,I8,rv,Q⟩
 |_=>obtain⟨g,B,y,Q⟩:=h7;exact gone y λE I8=>⟨_,_,I8,Q⟩
def Xf(U:Gl X x)(Q:X.mg x=some (.ref C0))(o:(x==("__debug__" : Str))=false)(l:∀a,PSs (XC X a) (b0::suite) ts)(N:PH X hs L):PH X (.ExceptHandler (some<|.Name x np) none (b0::suite) hpos::hs) ((C0,none,ts)::L):=by
 rintro pins σ H H' s s' h3 a T C dx fl D p ⟨C',b,ec,em,q⟩;obtain rfl:=Value.ref.inj ec;have E:=p.inv;have S3:Inv (XC X a) pins σ H' {s' with heap:=h3}:=T9 E
 refine wpAny_handleBy_cons (codeAny_handlers_test<|K0 S3 U Q ?_ o) (by intro z;cases z);obtain⟨_,⟨M,vs,g1,g2,g3,g4⟩,_⟩:=id p.tr;refine(PySem.W.exm_one E.kIn ((show M.cls=Value.ref C from WA Prod.fst g2)▸(PySem.W.Looks.ld g1).andThen .now) em).here ?_
 cases b with
 |false=>exact N pins σ H H' s s' h3 a T C dx fl D p q
 |true=>
 refine codeAny_handlers_suite (Tg p.tr λY G A=>?_);have y:Inv X pins σ H' {s' with heap:=Y}:=p.I.call' p.os (Na p.u (A.mono (by simp) λ_ z=>z) λb r=>by rw[Wg.mp r];exact p.nT) (Ph p.ok A (by simp) λb r=>by rw[Wg.mp r];exact p.fT) p.bare λb z=>absurd z (by simp)
 refine WB (l a pins _ _ _ _ (T9 y) q) (λf s7 B=>?_) λ_ _ z=>z.elim;cases f with
 |ret u=>obtain⟨v,g,H7,w,J,h⟩:=B;exact⟨v,_,_,N7 y.ok w,J,h⟩
 |_=>obtain⟨g,H7,w,h⟩:=B;exact⟨_,_,N7 y.ok w,h⟩
end
noncomputable def Tq(X:Cx)(pins:Yd)(D:Ends)(hs:List ExceptHandler):Cx:=
 {X with pn:=X.pn++pins,xe:=λe g=>wpAny (model X.prog X.w) X.A (noteFrame e X.env) (λ_ f=>wpAny (model X.prog X.w) X.A (setFlight e none) (λ_ b=>wpAny (model X.prog X.w) X.A (handleBy e X.env hs) (SP X pins D) X.xe b) X.xe f) X.xe g}
def Zbz(I:Inv X pins σ H s):Inv (Tq X pins D hs) [] σ H s:=⟨⟨I.ok.mod,I.ok.kind,I.ok.glob,I.ok.blt,I.ok.above,I.ok.inj,I.ok.has,I.ok.cab,I.ok.hd,I.ok.frames,I.ok.stk,I.ok.exf,I.ok.bs,I.ok.bsz,I.ok.noex,I.ok.exfs,I.ok.funs,I.ok.frf⟩,I.os,I.bare,I.base,I.loc,I.cell,I.free,I.freeC,λp b=>I.pin p (by simpa [Tq]using b),I.hok,I.len⟩
def Nm(I:Inv (Tq X pins D hs) pins1 σ H s):Inv X pins σ H s:=⟨⟨I.ok.mod,I.ok.kind,I.ok.glob,I.ok.blt,I.ok.above,I.ok.inj,I.ok.has,I.ok.cab,I.ok.hd,I.ok.frames,I.ok.stk,I.ok.exf,I.ok.bs,I.ok.bsz,I.ok.noex,I.ok.exfs,I.ok.funs,I.ok.frf⟩,I.os,I.bare,I.base,I.loc,I.cell,I.free,I.freeC,λp b=>I.pin p (QB _ b),I.hok,I.len⟩
def Zbd(h:X.stack=X.env::X.outer)(x:X.env.frame=some X.env.locals)(Q:PH X hs L):Dg (CXe X.prog X.w) (Tq X pins D hs) (hxL X.K L D):=by
 rintro pins1 σ H s e s' I ⟨a,T,C,dx,H',rfl,y,q⟩;have I:=Nm I;have J:=I.call' y.os y.un y.hok y.bare λb z=>absurd z (by simp);have E:=J.stack;have G:=J.ok.frames;rw[h]at E G;refine E8 G E x y.tr λU p l u B=>?_
 have g:s.heap.get? p=none:=by
  cases z:s.heap.get? p with
  |none=>rfl
  |some o=>
   obtain⟨o1,M⟩:=y.un.there p o z (by simp);exact absurd (Wi M) (Vp.mpr l)
 have n:=y.hok.fresh l
 have N:Un (frs X.stack) [] H H' s.heap U:=Na y.un (by rw[h];exact B) λb f=>by
  rcases Wo.mp f with rfl|f
  ·exact y.na
  ·rw[Wg.mp f];exact y.nT
 have v:=Ph y.hok B (λb f=>J.stkFree b (by grind)) λb f=>by
  rcases Wo.mp f with rfl|f
  ·exact y.fa
  ·rw[Wg.mp f];exact y.fT
 refine Tg u λh3 r A=>?_;exact Q pins σ H H' s s' h3 a p C dx _ D ⟨I,y.os,y.bare,y.na,g,y.fa,n,r,Na N (A.mono (by simp) λ_ z=>z) λb f=>by rw[Wg.mp f];exact g,Ph v A (by simp) λb f=>by rw[Wg.mp f];exact n⟩ q
def Zb1{l:Ends->TS}(n:∀pins D,PSs (Tq X pins D (o::hs)) body (l D)):PS X (.Try body (o::hs) [] [] pos) (λD σ H=>l D D σ H):=by
 intro pins s σ H D I h;refine wpAny_Try_except (WB (n pins D [] s σ H D (Zbz I) h) (λf p g=>?_) λ_ _ z=>z);cases f with
 |next=>
  obtain⟨b,H',J,q⟩:=g;exact We ⟨b,H',Nm J,q⟩
 |ret u=>obtain⟨v,b,H',J,r,q⟩:=g;exact⟨v,b,H',Nm J,r,q⟩
 |_=>obtain⟨b,H',J,q⟩:=g;exact⟨b,H',Nm J,q⟩
end
end ExcR
namespace Pu
open L2 Own
noncomputable def Tp(c n:Str):Bool:=decide (c=n) || decide (n=("MeldError" : Str))
noncomputable def Zbl(oi:Option Nat)(R:XX):XX:=match oi with
 |some i=>{nx:=λg=>R.nx (g.set i none),rt:=R.rt,ex:=λ_ _=>False,bk:=λg=>R.bk (g.set i none),ct:=λg=>R.ct (g.set i none),rv:=R.rv}
 |none=>{R with ex:=λ_ _=>False}
noncomputable def OU(oi:Option Nat)(d:D)(b:Γ):Γ:=match oi with
 |some i=>b.set i (some<|.sh d)
 |none=>b
def pHs:List (Str×Option Nat×PTS)->Str->D->XX->Γ->Prop
 |[],_,_,_,_=>False
 |(n,f,p)::r,c,d,R,b=>if Tp c n=true then p (Zbl f R) (OU f d b)else pHs r c d R b
noncomputable def OX(f:Ye)(n:Yj)(g:List (Str×Option Nat×PTS))(l:PTS):PTS:=λR h=>l {R with ex:=λb c=>(c∈n/\pHs g c (.err<|ExcR.Ug f c) R b)\/∃r,c=Fn r/\pHs g "Ringed" (.erM (ExcR.Ug f "Ringed") r) R b} h
def ExOk(K:Ya)(b:Ye)(f ns:Yj):Prop:=∀c∈f,∀n∈ns,PySem.W.exmOne K (.ref<|ExcR.Ug b c) (.ref<|ExcR.Ug b n)=some (Tp c n)
inductive HsS (K:Ya) (mg:Ye) (E:L2.St->XK):List (Addr×Option Nat×TS)->List (Str×Option Nat×PTS)->Prop
 |nil:HsS K mg E [] []
 |cons {n:Str} {oi:Option Nat} {ts:TS} {p:PTS} {L:List (Addr×Option Nat×TS)} {hs:List (Str×Option Nat×PTS)}:Ul K mg E ts p->HsS K mg E L hs->HsS K mg E ((ExcR.Ug mg n,oi,ts)::L) ((n,oi,p)::hs)
section
variable {K:Ya}{mg:Ye}{E:L2.St->XK}
theorem NW{B Y w}{γ x}{R D c d C dx}(T:∀b,B b->∃o,M b=some o)(e:PN K mg E M B H Y γ R D)(U:Ue K M B H' w x)(A:Fr B H Y γ H' w x){E'}(hd:∀a,H' a=none->Rp K (off (zof B x w)<|upd H' a<|ExcR.X7 a C dx) d (.ref a)):∀{L} {N:List (Str×Option Nat×PTS)},HsS K mg E' L N->(∀n∈N.map (·.1),PySem.W.exmOne K (.ref C) (.ref<|ExcR.Ug mg n)=some (Tp c n))->pHs N c d R x->ExcR.hxL K L D w (.ref C) dx H'
 |_,_,.nil,_,h=>h
 |_,_,.cons (n:=n) (oi:=oi) hh r,hx,h=>by
  refine⟨C,Tp c n,rfl,hx n Wz,?_⟩;unfold pHs at h;split at h
  ·rename_i Q;rw[Wj Q];cases oi with
   |none=>exact hh M B H' w x _ _ T U h ⟨λf g u l q p=>e.nx _ _ u l q (A.trans p),e.rt,λ_ _ _ _ z=>z.elim,λf g u l q p=>e.bk _ _ u l q (A.trans p),λf g u l q p=>e.ct _ _ u l q (A.trans p),λf g d v u l q p=>e.rv f g d v u l q (A.trans p)⟩
   |some i=>
    intro a na;obtain⟨e2,f2⟩:=U.set (s:=.sh d) (US na) (hd a na) rfl;have y:=A.trans f2;refine hh M B _ _ _ _ _ T e2 h ⟨λf g u l q p=>?_,e.rt,λ_ _ _ _ z=>z.elim,λf g u l q p=>?_,λf g u l q p=>?_,λf g d v u l q p=>e.rv f g d v u l q (y.trans p)⟩
    ·obtain⟨J,G⟩:=q.gone i;exact e.nx _ _ u l J (y.trans<|p.trans G)
    ·obtain⟨J,G⟩:=q.gone i;exact e.bk _ _ u l J (y.trans<|p.trans G)
    ·obtain⟨J,G⟩:=q.gone i;exact e.ct _ _ u l J (y.trans<|p.trans G)
  ·rename_i Q;rw[Wf Q];exact NW T e U A hd r (λn hn=>hx n (Wr _ hn)) h
def Mz{w:Ends->TS}{pb}{E'}(v ns:Yj)(hx:ExOk K mg ("Ringed" :: v) ns)(A:HsS K mg E' L x)(hb:∀D,Ul K mg (ExcR.hxL K L D) (w D) pb)(T:autoParam (x.map (·.1)=ns) au_0)(U:autoParam (∀c∈v,KC c=none) au_1):Ul K mg E (λD p H=>w D D p H) (OX mg v x pb):=by
 subst T;intro H0 B H p Q R D s u h e;refine hb D H0 B H p Q _ D s u h ⟨e.nx,e.rt,λM N c H' Y b C=>?_,e.bk,e.ct,e.rv⟩;rcases Y with⟨f,q⟩|⟨r,rfl,q⟩
 ·exact .of (U c f) (NW s e b C (λa n=>.err (UA Ut λz=>by have:=b.zm a z;rw[n]at this;exact this)) A (hx c<|Wr _ f) q)
 ·refine .ofM λG l o g y=>NW s e b C (λa n=>?_) A (hx _ Wz) q;have J:=US (o:=ExcR.X7 a (ExcR.Ug mg "Ringed") (some G)) n;exact .erM (UA Ut λz=>by have:=b.zm a z;rw[n]at this;exact this) (UA (J _ _ g) λz=>by have:=b.zm G z;rw[g]at this;exact this) (UA (J _ _ y) λz=>by have:=b.zm l z;rw[y]at this;exact this)
end
def ExOk.sub {K g l ns f b} (h:ExOk K g l ns) (r:∀c∈f,c∈l) (q:∀n∈b,n∈ns):ExOk K g f b:=λc p n o=>h c (r c p) n (q n o)
noncomputable def Dn(K:Ya)(b ns:Yp):Bool:=b.all λc=>ns.all λn=>decide (PySem.W.exmOne K (.ref c.2) (.ref n.2)=some (Tp c.1 n.1))
def RO{K b f ns}(h:Dn K (f.map λc=>(c,ExcR.Ug b c)) (ns.map λn=>(n,ExcR.Ug b n))=true):ExOk K b f ns:=λc l n g=>
 Wm (W4.mp (W4.mp h _<|W6.mpr ⟨c,l,rfl⟩) _<|W6.mpr ⟨n,g,rfl⟩)
def hq{A}(h:Ui j A)(b:autoParam (k<=j) au_1):Ui k A:=h.mono b
section
variable {X:Cx}{sc:Scope}{elt iter tg:Expr}{ifs:Yk}{pos:Pos}{wi:TI}{g:TG}{tc:TT}{te:TE}{x:Str}
def cz(N':Yj)(φ:Yg)(p:PI X tg iter wi)(l:∀{n C b f ex},PG (UB X N' sc n C b f ex) tg g/\K9 (UB X N' sc n C b f ex) ifs tc/\PE (UB X N' sc n C b f ex) elt te)(h:autoParam (X.calm=true) au_0)(S:autoParam (P7 sc X.env.scope X.N N' φ=true) au_0)(o:autoParam (∀x,foldedSetIterable iter X.env x=pure x) au_3):PE X (.ListComp elt [⟨tg,iter,ifs,0⟩] sc pos) (PL φ wi g tc te):=BJ h (.of S) p (λ_ _ _ _ _=>l) o
def gk(i:Nat)(h:autoParam (decide X.N.Nodup=true) au_8)(b:autoParam (X.N[i]?=some x) au_0)(hx:autoParam (Loc X.env.scope x) au_6)(f:autoParam (X.fn x=true\/X.env.scope.names.lookup x=some .local) au_2):PG X (.Name x pos) (Pk i):=NB (Wm h) b hx f
end
section
variable {P:Program}{w:World}{K:Ya}{mg:Ye}{base:Heap}{N ps:Yj}{sp:Sp}{p:PTS}{x q:Str}{st:Stmt}{k:Nat}{W:Addr->Prop}
def _root_.Own.Def.ez (D:Def K mg x st ps) (S:Uh N ps (Ud st))
  (g:∀{f b A outer s H} {E:XK},Ui k (A.deeper<|envOfC x (Ud st) s.heap.objs.size f b)->
   ∃t,PSs (Uy CX0 P w K mg base N x (Ud st) f b A outer s H E).nox (Uv st) t/\Ul K mg (λ_=>E) t p) (u:Uz K mg N ps sp p):Callee P w K mg base CX0 (k+1) x ps sp:=D.oz S (λ_ _ _ _ _ _ _=>g) u
def _root_.Own.Def.ey (D:Def K mg x st ps) (S:Uh N ps (Ud st))
  (g:∀{f b A outer s H} {E:XK},Ui k (A.deeper<|envOfC x (Ud st) s.heap.objs.size f b)->
   ∃t,PSs (Uy (ExcR.CXe P w) P w K mg base N x (Ud st) f b A outer s H E) (Uv st) t/\Ul K mg (λ_=>E) t p) (u:Uz K mg N ps sp p):Callee P w K mg base (ExcR.CXe P w) (k+1) x ps sp:=D.ox S (λ_ _ _ _ _ _ _=>g) u
def Uw.ez (D:Uw K W x q st ps) (S:Uh N ps (Ud st))
  (g:∀{f b A outer s H} {E:XK},Ui k (A.deeper<|envOfC q (Ud st) s.heap.objs.size f b)->
   ∃t,PSs (Uy CX0 P w K mg base N q (Ud st) f b A outer s H E).nox (Uv st) t/\Ul K mg (λ_=>E) t p) (u:Uz K mg N ps sp p):X0 P w K mg base CX0 (k+1) W ps sp:=D.oz S (λ_ _ _ _ _ _ _=>g) u
def Uw.ey (D:Uw K W x q st ps) (S:Uh N ps (Ud st))
  (g:∀{f b A outer s H} {E:XK},Ui k (A.deeper<|envOfC q (Ud st) s.heap.objs.size f b)->
   ∃t,PSs (Uy (ExcR.CXe P w) P w K mg base N q (Ud st) f b A outer s H E) (Uv st) t/\Ul K mg (λ_=>E) t p) (u:Uz K mg N ps sp p):X0 P w K mg base (ExcR.CXe P w) (k+1) W ps sp:=D.ox S (λ_ _ _ _ _ _ _=>g) u
end
structure Fit {ι:Type} (F:ι->Cx) (K:Ya) (mg:Ye):Prop where
 k:∀j,(F j).K=K
 m:∀j,(F j).mg=mg
section
variable {ι:Type} (F:ι->Cx) (K:Ya) (mg:Ye) (E:L2.St->XK)
structure CE (e:Expr) (p:PTE):Prop where
 h:Fit F K mg->∃t,(∀j,PE (F j) e t)/\Ub K mg E t p
structure CT (e:Expr) (p:PTT):Prop where
 h:Fit F K mg->∃t,(∀j,PT (F j) e t)/\UN K mg E t p
structure CW (e:Expr) (p:PTT):Prop where
 h:Fit F K mg->∃t,(∀j,PW (F j) e t)/\UN K mg E t p
structure CA (es:Yk) (p:PTA):Prop where
 h:Fit F K mg->∃t,(∀j,PA (F j) es t)/\Uo K mg E t p
structure CS (s:Stmt) (p:PTS):Prop where
 h:Fit F K mg->∃t,(∀j,PS (F j) s t)/\Ul K mg E t p
structure CB (b:Yl) (p:PTS):Prop where
 h:Fit F K mg->∃t,(∀j,PSs (F j) b t)/\Ul K mg E t p
structure CI (tg e:Expr) (p:PTI):Prop where
 h:Fit F K mg->∃t,(∀j,PI (F j) tg e t)/\SndI K mg E t p
structure CJ (tg e:Expr) (p:PTI):Prop where
 h:Fit F K mg->∃t,(∀j,PI (F j) tg e t)/\Nk K mg E t p
structure CG (e:Expr) (is:Yh) (p:PTG):Prop where
 h:Fit F K mg->∃t,(∀j,PG (F j) e t)/\Kh K is t p
structure CGs (es:Yk) (is:Yh) (p:KO):Prop where
 h:Fit F K mg->∃t,(∀j,PGs (F j) es t)/\PJ K is t p
structure CF (es:Yk) (p:PTT):Prop where
 h:Fit F K mg->∃t,(∀j,K9 (F j) es t)/\UN K mg E t p
end
section
variable {ι:Type}{F:ι->Cx}{K:Ya}{mg:Ye}{E:L2.St->XK}{e f g:Expr}{es:Yk}{a b c:PTE}{r:PTA}{x:Str}{pos p1:Pos}{k n:Nat}{s:Stmt}{d1 d2:Yl}{p q:PTS}{t u:PTT}{is:Yh}{pg:PTG}{it:PTI}
def xv(i:Nat)(v:autoParam (∀j,(F j).N[i]?=some x) au_3)(h:autoParam (∀j,Vis (F j).env.scope x) au_9)(l:autoParam ((x==("__debug__" : Str))=false) au_1)(o:autoParam ((x==("__classdict__" : Str))=false) au_1):CE F K mg E (.Name x pos) (Ni i):=.mk λ_=>⟨_,λj=>pv i (v j) (h j) l o,Uc i⟩
def xi:CE F K mg E (.Constant (.int i) k pos) (pC<|.int i):=.mk λ_=>⟨_,λ_=>Xk,U2⟩
def xb:CE F K mg E (.Constant (.bool i) k pos) (pC<|.bl i):=.mk λ_=>⟨_,λ_=>Hi,O0⟩
def xs:CE F K mg E (.Constant (.str i) k pos) (pC<|.str i):=.mk λ_=>⟨_,λ_=>U0,Ux⟩
def xe(h:∀{j},PE (F j) e te)(k:Ub K mg E te a):CE F K mg E e a:=.mk λ_=>⟨_,λ_=>h,k⟩
def xo{r}(y:∀{X},OpR X (binaryOp l) r)(w:∀{t u},Ub K mg E t a->Ub K mg E u b->Ub K mg E (tOp r t u) c)(A:CE F K mg E e a)(B:CE F K mg E f b):CE F K mg E (.BinOp e l f pos) c:=
 .mk λh=>let ⟨_,C,v⟩:=A.h h;let ⟨_,z,o⟩:=B.h h;⟨_,λj=>Xm y (C j) (z j),w v o⟩
def xx(A:CE F K mg E e a)(B:CE F K mg E f b)(v:autoParam (BP f) au_7):CE F K mg E (.Subscript e f pos) (p2 a b fIx):=
 .mk λh=>let ⟨_,y,o⟩:=A.h h;let ⟨_,w,l⟩:=B.h h;⟨_,λj=>jx K (y j) (w j) (h.k j) v,Xx o l⟩
def xl(w:mg "len"=none)(A:CE F K mg E e a)(y:autoParam (∀j,Gl (F j) "len") au_3)(v:autoParam (∀j,starEach [e] (F j).env=(false,eval e (F j).env)::starEach [] (F j).env) au_3)(l:autoParam (∀j,(backTo pos (starEach [] (F j).env)).any (·.1)=false) au_3) :
  CE F K mg E (.Call (.Name "len" p1) [e] [] pos) (pCB Fm<|Xh a XN):=
 .mk λh=>let ⟨_,z,o⟩:=A.h h;⟨_,λj=>ln K (by rw[h.m j];exact w) (z j) (h.k j) (y j) (v j) (l j),Et (sz o)⟩
def xf{ps v}(C:Callee P w K mg base CX0 k x ps (Uk mg v K))(H:∀j,Ui m (F j).A)(A:CA F K mg E (e::es) r)(N:autoParam (∀j,(F j).prog=P/\(F j).w=w/\(F j).base=base) au_10)(J:autoParam (k<=m) au_1)(L:autoParam (∀j,Gl (F j) x) au_3)(o:autoParam ((x==("__debug__" : Str))=false) au_1)(M:autoParam (∀j,starEach (e::es) (F j).env=(false,eval e (F j).env)::starEach es (F j).env) au_3)(l:autoParam (∀j,(backTo pos (starEach es (F j).env)).any (·.1)=false) au_3) :
  CE F K mg E (.Call (.Name x p1) (e::es) [] pos) (AH v r):=
 .mk λh=>let ⟨_,Q,G⟩:=A.h h;⟨_,λj=>fz (by obtain⟨B,z,y⟩:=N j;rw[B,z,y,h.k j,h.m j];exact C) (H j) (Q j) J (L j) o (M j) (l j),TC G⟩
def xt(A:CA F K mg E es r):CE F K mg E (.Tuple es k pos) (GF r):=.mk λh=>let ⟨_,o,l⟩:=A.h h;⟨_,λj=>T6 (o j),T3 l⟩
def xL(A:CA F K mg E es r):CE F K mg E (.List es pos) (AI r):=.mk λh=>let ⟨_,o,l⟩:=A.h h;⟨_,λj=>X4 (o j),XY l⟩
def a0:CA F K mg E [] XN:=.mk λ_=>⟨_,λ_=>UO,UW⟩
def ac(A:CE F K mg E e a)(B:CA F K mg E es r)(y:autoParam (∀j,starEach (e::es) (F j).env=(false,eval e (F j).env)::starEach es (F j).env) au_3):CA F K mg E (e::es) (Xh a r):=
 .mk λh=>let ⟨_,w,o⟩:=A.h h;let ⟨_,v,l⟩:=B.h h;⟨_,λj=>Xd (w j) (v j) (y j),Nu o l⟩
def a1(A:CE F K mg E e a)(h:autoParam (∀j,starEach [e] (F j).env=(false,eval e (F j).env)::starEach [] (F j).env) au_3):CA F K mg E [e] (Xh a XN):=ac A a0 h
def a2(A:CE F K mg E e a)(B:CE F K mg E f b)(l:autoParam (∀j,starEach [e,f] (F j).env=(false,eval e (F j).env)::starEach [f] (F j).env) au_3)(h:autoParam (∀j,starEach [f] (F j).env=(false,eval f (F j).env)::starEach [] (F j).env) au_3):CA F K mg E [e,f] (Xh a<|Xh b XN):=ac A (a1 B h) l
def a3(A:CE F K mg E e a)(B:CE F K mg E f b)(C:CE F K mg E g c)(o:autoParam (∀j,starEach [e,f,g] (F j).env=(false,eval e (F j).env)::starEach [f,g] (F j).env) au_3)(l:autoParam (∀j,starEach [f,g] (F j).env=(false,eval f (F j).env)::starEach [g] (F j).env) au_3)(h:autoParam (∀j,starEach [g] (F j).env=(false,eval g (F j).env)::starEach [] (F j).env) au_3):CA F K mg E [e,f,g] (Xh a<|Xh b<|Xh c XN):=ac A (a2 B C l h) o
def te(h:∀{j},PT (F j) e tt)(k:UN K mg E tt t):CT F K mg E e t:=.mk λ_=>⟨_,λ_=>h,k⟩
def tc{r}(y:∀{X},OpR X (compareOp l) r)(w:∀{t u},Ub K mg E t a->Ub K mg E u b->Ub K mg E (tOp r t u) c)(A:CE F K mg E e a)(B:CE F K mg E f b)(z:behindInMarks l f=false:=by exact KB _):CT F K mg E (.Compare e [l] [f] pos) (KI c):=
 .mk λh=>let ⟨_,G,v⟩:=A.h h;let ⟨_,C,o⟩:=B.h h;⟨_,λj=>KH y (G j) (C j) z,KE (w v o)⟩
def tq(v:∀j,Ui n (F j).A)(A:CE F K mg E e a)(B:CE F K mg E f b):CT F K mg E (.Compare e [.Eq] [f] pos) (KI<|p2 a b<|Pn false):=
 .mk λh=>let ⟨_,y,o⟩:=A.h h;let ⟨_,w,l⟩:=B.h h;⟨_,λj=>cq K (v j) (y j) (w j) (h.k j),KE (Zb5 o l)⟩
def tn(v:∀j,Ui n (F j).A)(A:CE F K mg E e a)(B:CE F K mg E f b):CT F K mg E (.Compare e [.NotEq] [f] pos) (KI<|p2 a b<|Pn true):=
 .mk λh=>let ⟨_,y,o⟩:=A.h h;let ⟨_,w,l⟩:=B.h h;⟨_,λj=>cn K (v j) (y j) (w j) (h.k j),KE (LW o l)⟩
def ti(v:∀j,Ui n (F j).A)(A:CE F K mg E e a)(B:CE F K mg E f b)(w:autoParam (behindInMarks .In f=false) au_11):CT F K mg E (.Compare e [.In] [f] pos) (KI<|p2 a b<|fIn false):=
 .mk λh=>let ⟨_,z,o⟩:=A.h h;let ⟨_,y,l⟩:=B.h h;⟨_,λj=>KH (Zct (Kx<|v j)<|h.k j) (z j) (y j) w,KE (Dr o l)⟩
def tI(v:∀j,Ui n (F j).A)(A:CE F K mg E e a)(B:CE F K mg E f b)(w:autoParam (behindInMarks .NotIn f=false) au_11):CT F K mg E (.Compare e [.NotIn] [f] pos) (KI<|p2 a b<|fIn true):=
 .mk λh=>let ⟨_,z,o⟩:=A.h h;let ⟨_,y,l⟩:=B.h h;⟨_,λj=>KH (HN (Kx<|v j)<|h.k j) (z j) (y j) w,KE (Dr o l)⟩
def tt(A:CE F K mg E e a)(o:autoParam (∀j whole,isTrue e (F j).env whole=(do let v ←whole;standAt e.pos;holding [v] (truthy v))) au_7):CT F K mg E e (FJ a):=.mk λh=>let ⟨_,w,l⟩:=A.h h;⟨_,λj=>HP (w j) (h.k j) (o j),L8 l⟩
def tN(A:CT F K mg E e t):CT F K mg E (.UnaryOp .Not e pos) (DC t):=.mk λh=>let ⟨_,o,l⟩:=A.h h;⟨_,λj=>Mo (o j),IZ l⟩
def tp(A:CW F K mg E e t):CT F K mg E e t:=.mk λh=>let ⟨_,o,l⟩:=A.h h;⟨_,λj=>(o j).pt,l⟩
def wa(A:CT F K mg E e t)(B:CW F K mg E (.BoolOp .And (f::es) pos) u):CW F K mg E (.BoolOp .And (e::f::es) pos) (G7 t u):=.mk λh=>let ⟨_,w,o⟩:=A.h h;let ⟨_,v,l⟩:=B.h h;⟨_,λj=>Zbm (w j) (v j),Rg o l⟩
def wo(A:CT F K mg E e t)(B:CW F K mg E (.BoolOp .Or (f::es) pos) u):CW F K mg E (.BoolOp .Or (e::f::es) pos) (pOr t u):=.mk λh=>let ⟨_,w,o⟩:=A.h h;let ⟨_,v,l⟩:=B.h h;⟨_,λj=>Zak (w j) (v j),Zc4 o l⟩
def wA(A:CT F K mg E e t):CW F K mg E (.BoolOp .And [e] pos) t:=.mk λh=>let ⟨_,o,l⟩:=A.h h;⟨_,λj=>IA (o j),l⟩
def wO(A:CT F K mg E e t):CW F K mg E (.BoolOp .Or [e] pos) t:=.mk λh=>let ⟨_,o,l⟩:=A.h h;⟨_,λj=>OZ (o j),l⟩
def se(h:∀{j},PS (F j) s l)(k:Ul K mg E l p):CS F K mg E s p:=.mk λ_=>⟨_,λ_=>h,k⟩
def sS(i:Nat)(y:∀j,(F j).N.Nodup)(A:CE F K mg E e a)(v:autoParam (∀j,(F j).N[i]?=some x) au_3)(hx:autoParam (∀j,Loc (F j).env.scope x) au_12)(o:autoParam (∀j,swapsWith e (some<|.Name x p1) pos.line (F j).env=pure false) au_3)(w:autoParam (∀j,(F j).fn x=true\/(F j).env.scope.names.lookup x=some .local) au_13):CS F K mg E (.Assign [.Name x p1] e pos) (Sk a<|Kz i):=
 .mk λh=>let ⟨_,z,l⟩:=A.h h;⟨_,λj=>pz i (y j) (z j) (v j) (hx j) (o j) (w j),SA l (Km i)⟩
def sR(A:CE F K mg E e a):CS F K mg E (.Return (some e) pos) (G1 a):=.mk λh=>let ⟨_,o,l⟩:=A.h h;⟨_,λj=>U3 (o j),UT l⟩
def sF(i:Nat)(A:CS F K mg E s p):CS F K mg E s (Af i p):=.mk λh=>let ⟨_,o,l⟩:=A.h h;⟨_,o,Gq i l⟩
def sI(A:CT F K mg E e t)(B:CB F K mg E d1 p)(C:CB F K mg E d2 q):CS F K mg E (.If e d1 d2 pos) (AV t p q):=.mk λh=>let ⟨_,z,v⟩:=A.h h;let ⟨_,y,o⟩:=B.h h;let ⟨_,w,l⟩:=C.h h;⟨_,λj=>Mm (z j) (y j) (w j),Mv v o l⟩
def sE(A:CE F K mg E e a)(o:autoParam (∀j,swapsWith e none pos.line (F j).env=pure false) au_3):CS F K mg E (.Expr e pos) (Eh a):=.mk λh=>let ⟨_,v,l⟩:=A.h h;⟨_,λj=>X6 (v j) (o j),B4 l⟩
def sO(l:Yh)(C:∀{j},PassesOwn (model (F j).prog (F j).w) (F j).A (F j).env (F j).xe)(I:CI F K mg E f e it)(G:CG F K mg f is pg)(B:CB F K mg E d1 p)(H:autoParam (∀j,(F j).calm=true) au_3)(z:autoParam (∀j x,foldedSetIterable e (F j).env x=pure x) au_7) :
  CS F K mg E (.For f e d1 [] pos) (FD l it pg p):=
 .mk λh=>let ⟨_,M,y⟩:=I.h h;let ⟨_,L,v⟩:=G.h h;let ⟨_,J,o⟩:=B.h h;⟨_,λj=>GO C (H j) (M j) (L j) (J j) (z j),L5 l y v o⟩
def b0:CB F K mg E [] EY:=.mk λ_=>⟨_,λ_=>Zbo,Zaz⟩
def b1(A:CS F K mg E s p):CB F K mg E [s] p:=.mk λh=>let ⟨_,o,l⟩:=A.h h;⟨_,λj=>UE (o j),l⟩
def bc(A:CS F K mg E s p)(B:CB F K mg E d1 q):CB F K mg E (s::d1) (GD p q):=.mk λh=>let ⟨_,w,o⟩:=A.h h;let ⟨_,v,l⟩:=B.h h;⟨_,λj=>Kr (w j) (v j),D4 o l⟩
def bj(A:CS F K mg E s p)(B:CB F K mg E d1 q):CB F K mg E (s::d1) (CH p q):=.mk λh=>let ⟨_,w,o⟩:=A.h h;let ⟨_,v,l⟩:=B.h h;⟨_,λj=>O5 (w j) (v j),Zc8 o l⟩
def ie(h:∀{j},PI (F j) f e l)(k:SndI K mg E l it):CI F K mg E f e it:=.mk λ_=>⟨_,λ_=>h,k⟩
def iL(A:CE F K mg E e a):CI F K mg E f e (pIL a):=.mk λh=>let ⟨_,o,l⟩:=A.h h;⟨_,λj=>TX (o j) (h.k j),RY l⟩
def ir(v:mg "range"=none)(A:CA F K mg E [e] r)(w:autoParam (∀j,Gl (F j) "range") au_3)(o:autoParam (∀j,starEach [e] (F j).env=[(false,eval e (F j).env)]) au_3):CI F K mg E f (.Call (.Name "range" p1) [e] [] pos) (Eb r):=
 .mk λh=>let ⟨_,y,l⟩:=A.h h;⟨_,λj=>Rj (w j) (by rw[h.m j];exact v) (y j) (o j),IR l⟩
def iR(w:mg "range"=none)(A:CA F K mg E [e,g] r)(y:autoParam (∀j,Gl (F j) "range") au_3)(v:autoParam (∀j,starEach [e,g] (F j).env=[(false,eval e (F j).env),(false,eval g (F j).env)]) au_3)(l:autoParam (∀j,starEach [g] (F j).env=[(false,eval g (F j).env)]) au_3):CI F K mg E f (.Call (.Name "range" p1) [e,g] [] pos) (Gf r):=
 .mk λh=>let ⟨_,z,o⟩:=A.h h;⟨_,λj=>HL (y j) (by rw[h.m j];exact w) (z j) (v j) (l j),OL o⟩
def jL(A:CE F K mg E e a):CJ F K mg E f e (CD a):=.mk λh=>let ⟨_,o,l⟩:=A.h h;⟨_,λj=>TX (o j) (h.k j),Sl l⟩
def jI(I:CI F K mg E f e it):CJ F K mg E f e it:=.mk λh=>let ⟨_,o,l⟩:=I.h h;⟨_,o,l.c⟩
def gN(i:Nat)(o:autoParam (∀j,decide (F j).N.Nodup=true) au_14)(h:autoParam (∀j,(F j).N[i]?=some x) au_3)(hx:autoParam (∀j,Loc (F j).env.scope x) au_12)(l:autoParam (∀j,(F j).fn x=true\/(F j).env.scope.names.lookup x=some .local) au_13):CG F K mg (.Name x pos) [i] (Kz i):=.mk λ_=>⟨_,λj=>gk i (o j) (h j) (hx j) (l j),Km i⟩
def gT(n:Nat){pr}(G:CGs F K mg es is pr)(w:autoParam (∀j,(F j).calm=true) au_3)(v:autoParam (∀j,(assignEach es (F j).env).length=n) au_3)(l:autoParam (∀j,(assignEach es (F j).env).findIdx? (·.1)=none) au_3):CG F K mg (.Tuple es k pos) is (Ba n pr):=
 .mk λh=>let ⟨_,y,o⟩:=G.h h;⟨_,λj=>Ap (w j) (y j) (h.k j) (v j) (l j),HR o⟩
def g0:CGs F K mg [] [] DU:=.mk λ_=>⟨_,λ_=>Dl,II⟩
def gc(G:CG F K mg e is pg)(B:CGs F K mg es w l)(y:autoParam (∀j,(assignEach (e::es) (F j).env).map (·.2)=assign e (F j).env::(assignEach es (F j).env).map (·.2)) au_3):CGs F K mg (e::es) (is++w) (G4 pg l):=
 .mk λh=>let ⟨_,A,v⟩:=G.h h;let ⟨_,z,o⟩:=B.h h;⟨_,λj=>NC (A j) (z j) (y j),OG v o⟩
def f0:CF F K mg E [] SW:=.mk λ_=>⟨_,λ_=>PU,Nv⟩
def f1(A:CT F K mg E e t):CF F K mg E [e] t:=.mk λh=>let ⟨_,o,l⟩:=A.h h;⟨_,λj=>MG (o j),l⟩
noncomputable abbrev Blk(F:ι->Cx)(N':Yj)(h:Scope):ι×Yp×Addr×Shared×Hp×List Addr->Cx:=λj=>UB (F j.1) N' h j.2.1 j.2.2.1 j.2.2.2.1 j.2.2.2.2.1 j.2.2.2.2.2
def xC(N':Yj)(φ:Yg)(I:CJ F K mg E f e it)(G:CG (Blk F N' v) K mg f is pg)(T:CF (Blk F N' v) K mg E es t)(A:CE (Blk F N' v) K mg E g a)(hc:autoParam (∀j,(F j).calm=true) au_3)(S:autoParam (∀j,P7 v (F j).env.scope (F j).N N' φ=true) au_3)(hs:autoParam (∀j x,foldedSetIterable e (F j).env x=pure x) au_7)(h1:autoParam ((φ.filterMap id).Nodup) au_1)(h2:autoParam (∀j∈is,φ[j]?=some none) au_1) :
  CE F K mg E (.ListComp g [⟨f,e,es,0⟩] v pos) (B6 φ it pg t a):=.mk λh=>by
 have w:Fit (Blk F N' v) K mg:=⟨λj=>h.k j.1,λj=>h.m j.1⟩;obtain⟨_,Y,L⟩:=I.h h;obtain⟨_,U,J⟩:=G.h w;obtain⟨_,Q,H⟩:=T.h w;obtain⟨_,M,B⟩:=A.h w;exact⟨_,λj=>BJ (hc j) (.of<|S j) (Y j) (λz C l o y=>⟨U (j,z,C,l,o,y),Q (j,z,C,l,o,y),M (j,z,C,l,o,y)⟩) (hs j),PM L J H B h1 h2⟩
def sV(i:Nat)(v:autoParam (∀j,(F j).N[i]?=some x) au_3)(h:autoParam (∀j,Vis (F j).env.scope x) au_9)(l:autoParam ((x==("__debug__" : Str))=false) au_1)(o:autoParam ((x==("__classdict__" : Str))=false) au_1):CS F K mg E (.Return (some<|.Name x p1) pos) (BC i):=.mk λ_=>⟨_,λj=>U3 (pv i (v j) (h j) l o),Hw i⟩
def sA(i:Nat)(A:CE F K mg E e a)(H:autoParam (∀j,(F j).N[i]?=some x) au_3)(B:autoParam (∀j,Vis (F j).env.scope x) au_9)(C:autoParam ((x==("__debug__" : Str))=false) au_1)(G:autoParam ((x==("__classdict__" : Str))=false) au_1){apos cpos}(v:autoParam (∀j,attributeBase (.Name x p1) "append" (F j).env (eval (.Name x p1) (F j).env)=eval (.Name x p1) (F j).env) au_3)(w:autoParam (∀j,((backTo cpos (starEach [e] (F j).env)).all (λx=>!x.1)&&(backToKw cpos (keywordEach [] (F j).env)).all (λx=>x.1.isSome)&&decide ([e].length+([]:List Keyword).length+(if ([]:List Keyword).isEmpty then 0 else 1)<30))=true) au_3)(o:autoParam ((apos.endLine==cpos.line)=true) au_0)(y:autoParam (∀j,starEach [e] (F j).env=(false,eval e (F j).env)::starEach [] (F j).env) au_3)(l:autoParam (∀j,(backTo cpos (starEach [] (F j).env)).any (·.1)=false) au_3)(hw:autoParam (∀j,swapsWith (.Call (.Attribute (.Name x p1) "append" apos) [e] [] cpos) none pos.line (F j).env=pure false) au_3):CS F K mg E (.Expr (.Call (.Attribute (.Name x p1) "append" apos) [e] [] cpos) pos) (Fl i a):=
 .mk λh=>let ⟨_,J,z⟩:=A.h h;⟨_,λj=>X6 (Kl WD Qf Qg KP (pv i (H j) (B j) C G) (Xd (J j) UO<|y j) (h.k j) (v j) (w j) o (y j)<|l j) (hw j),MJ i z⟩
def sU(i:Nat){l o}(B:∀j,(F j).N.Nodup)(w:∀{X},PIp X l (ipI o))(A:CE F K mg E e a)(y:autoParam (∀j,(F j).N[i]?=some x) au_3)(hx:autoParam (∀j,Loc (F j).env.scope x) au_12)(z:autoParam (∀j,(F j).fn x=true\/(F j).env.scope.names.lookup x=some .local) au_13):CS F K mg E (.AugAssign (.Name x p1) l e pos) (BS i o a):=
 .mk λh=>let ⟨_,C,v⟩:=A.h h;⟨_,λj=>IT (B j) (y j) (hx j) (C j) w (z j),Zc7 v⟩
def sC(i:Nat)(N':Yj)(φ:Yg){y py spos}(hN:∀j,(F j).N.Nodup)(I:CJ F K mg E f e it)(G:CG (Blk F N' v) K mg f is pg)(T:CF (Blk F N' v) K mg E es t)(A:CE (Blk F N' v) K mg E g a)(hy:autoParam (∀j,(F j).N[i]?=some y) au_3)(hl:autoParam (∀j,(F j).env.scope.names.lookup y=some .local) au_3)(hc:autoParam (∀j,(F j).calm=true) au_3)(S:autoParam (∀j,P7 v (F j).env.scope (F j).N N' φ=true) au_3)(hs:autoParam (∀j x,foldedSetIterable e (F j).env x=pure x) au_7)(h1:autoParam ((φ.filterMap id).Nodup) au_1)(h2:autoParam (∀j∈is,φ[j]?=some none) au_1)(hw:autoParam (∀j,swapsWith (.ListComp g [⟨f,e,es,0⟩] v pos) (some<|.Name y py) spos.line (F j).env=pure true) au_3) :
  CS F K mg E (.Assign [.Name y py] (.ListComp g [⟨f,e,es,0⟩] v pos) spos) (Sk (B6 φ it pg t a)<|Kz i):=.mk λh=>by
 have w:Fit (Blk F N' v) K mg:=⟨λj=>h.k j.1,λj=>h.m j.1⟩;obtain⟨_,i1,M⟩:=I.h h;obtain⟨_,Y,L⟩:=G.h w;obtain⟨_,U,J⟩:=T.h w;obtain⟨_,Q,H⟩:=A.h w;exact⟨_,λj=>L9 (hN j) (hy j) (hl j) (hc j) (.of<|S j) (i1 j) (λB C l o z=>⟨Y (j,B,C,l,o,z),U (j,B,C,l,o,z),Q (j,B,C,l,o,z)⟩) (hs j) (hw j),SA (PM M L J H h1 h2) (Km i)⟩
structure CO {ι:Type} (F:ι->Cx) (K:Ya) (mg:Ye) (E:L2.St->XK) (o:Option Expr) (p:PTO):Prop where
 h:Fit F K mg->∃t,(∀j,PO (F j) o t)/\P6 K mg E t p
def o0:CO F K mg E none AE:=.mk λ_=>⟨_,λ_=>Bl,B9⟩
def o1(A:CE F K mg E e a):CO F K mg E (some e) (Ae a):=.mk λh=>let ⟨_,o,l⟩:=A.h h;⟨_,λj=>Bw (o j),B8 l⟩
def xp{lo o l u v}(A:CE F K mg E e a)(L:CO F K mg E lo l)(U:CO F K mg E o u):CE F K mg E (.Subscript e (.Slice lo o none v) pos) (pSl a l u):=
 .mk λh=>let ⟨_,G,z⟩:=A.h h;let ⟨_,C,y⟩:=L.h h;let ⟨_,B,w⟩:=U.h h;⟨_,λj=>BW (Bc<|h.k j) (G j) (C j) (B j),Si z y w⟩
def xI(C:CT F K mg E g t)(A:CE F K mg E e a)(B:CE F K mg E f b):CE F K mg E (.IfExp g e f pos) (Gm t a b):=.mk λh=>let ⟨_,z,v⟩:=C.h h;let ⟨_,y,o⟩:=A.h h;let ⟨_,w,l⟩:=B.h h;⟨_,λj=>Ox (z j) (y j) (w j),RS v o l⟩
def sQ{cpos v}(B:ExcR.UI K (ExcR.Ug mg x))(y:mg x=some (.ref<|ExcR.Ug mg x))(H:∀{j},ExcR.BL (F j) v)(A:CA F K mg (λ_=>v) (e::es) r)(G:autoParam (∀j,(F j).calm=true) au_3)(z:autoParam (∀j,Gl (F j) x) au_3)(o:autoParam ((x==("__debug__" : Str))=false) au_1)(C:autoParam (∀j,starEach (e::es) (F j).env=(false,eval e (F j).env)::starEach es (F j).env) au_3)(l:autoParam (∀j,(backTo cpos (starEach es (F j).env)).any (·.1)=false) au_3)(hx:autoParam (KC x=none) au_0) :
  CS F K mg (λ_=>v) (.Raise (some<|.Call (.Name x p1) (e::es) [] cpos) none pos) (AG x r):=
 .mk λh=>let ⟨_,J,w⟩:=A.h h;⟨_,λj=>ExcR.HA (by rw[h.k j];exact B.c) (by rw[h.m j];exact y) H (G j) (J j) (z j) o (C j) (l j),OA w hx⟩
def xg{ps y v}(C:Callee P w K mg base (ExcR.CXe P w) k x ps (Uk mg y K))(J:∀j,Ui m (F j).A)(hx:∀{j},Xo (ExcR.CXe P w) (F j) v)(A:CA F K mg (λ_=>v) (e::es) r)(Q:autoParam (∀j,(F j).prog=P/\(F j).w=w/\(F j).base=base) au_10)(L:autoParam (k<=m) au_1)(M:autoParam (∀j,Gl (F j) x) au_3)(o:autoParam ((x==("__debug__" : Str))=false) au_1)(N:autoParam (∀j,starEach (e::es) (F j).env=(false,eval e (F j).env)::starEach es (F j).env) au_3)(l:autoParam (∀j,(backTo pos (starEach es (F j).env)).any (·.1)=false) au_3) :
  CE F K mg (λ_=>v) (.Call (.Name x p1) (e::es) [] pos) (SN y r):=
 .mk λh=>let ⟨_,T,H⟩:=A.h h;⟨_,λj=>Cv (by obtain⟨G,B,z⟩:=Q j;rw[G,B,z,h.k j,h.m j];exact C) ((J j).mono L) hx (T j) (M j) o (N j) (l j),OY H⟩
variable {pw:PTW}
end
section
variable {P:Program}{w:World}{K:Ya}{mg:Ye}{base:Heap}{N ps:Yj}{sp:Sp}{p:PTS}{x q:Str}{st:Stmt}{k:Nat}{W:Addr->Prop}
def _root_.Own.Def.fz (D:Def K mg x st ps) (S:Uh N ps (Ud st))
  (n:∀{f b A outer s H} {E:XK},(∀{g:Type},g->Ui k (A.deeper<|envOfC x (Ud st) s.heap.objs.size f b))->(Unit->N.Nodup)->
   CB (λ_:Unit=>(Uy CX0 P w K mg base N x (Ud st) f b A outer s H E).nox) K mg (λ_=>E) (Uv st) p) (u:Uz K mg N ps sp p):Callee P w K mg base CX0 (k+1) x ps sp:=
 D.ez S (λo=>let ⟨t,h,l⟩:=(n (λ_=>o) λ_=>S.nd).h ⟨λ_=>rfl,λ_=>rfl⟩;⟨t,h (),l⟩) u
def _root_.Own.Def.fy (D:Def K mg x st ps) (S:Uh N ps (Ud st))
  (n:∀{f b A outer s H} {E:XK},(∀{g:Type},g->Ui k (A.deeper<|envOfC x (Ud st) s.heap.objs.size f b))->(Unit->N.Nodup)->
   CB (λ_:Unit=>Uy (ExcR.CXe P w) P w K mg base N x (Ud st) f b A outer s H E) K mg (λ_=>E) (Uv st) p) (u:Uz K mg N ps sp p):Callee P w K mg base (ExcR.CXe P w) (k+1) x ps sp:=
 D.ey S (λo=>let ⟨t,h,l⟩:=(n (λ_=>o) λ_=>S.nd).h ⟨λ_=>rfl,λ_=>rfl⟩;⟨t,h (),l⟩) u
def Uw.fz (D:Uw K W x q st ps) (S:Uh N ps (Ud st))
  (n:∀{f b A outer s H} {E:XK},(∀{g:Type},g->Ui k (A.deeper<|envOfC q (Ud st) s.heap.objs.size f b))->(Unit->N.Nodup)->
   CB (λ_:Unit=>(Uy CX0 P w K mg base N q (Ud st) f b A outer s H E).nox) K mg (λ_=>E) (Uv st) p) (u:Uz K mg N ps sp p):X0 P w K mg base CX0 (k+1) W ps sp:=
 D.ez S (λo=>let ⟨t,h,l⟩:=(n (λ_=>o) λ_=>S.nd).h ⟨λ_=>rfl,λ_=>rfl⟩;⟨t,h (),l⟩) u
def Uw.fy (D:Uw K W x q st ps) (S:Uh N ps (Ud st))
  (n:∀{f b A outer s H} {E:XK},(∀{g:Type},g->Ui k (A.deeper<|envOfC q (Ud st) s.heap.objs.size f b))->(Unit->N.Nodup)->
   CB (λ_:Unit=>Uy (ExcR.CXe P w) P w K mg base N q (Ud st) f b A outer s H E) K mg (λ_=>E) (Uv st) p) (u:Uz K mg N ps sp p):X0 P w K mg base (ExcR.CXe P w) (k+1) W ps sp:=
 D.ey S (λo=>let ⟨t,h,l⟩:=(n (λ_=>o) λ_=>S.nd).h ⟨λ_=>rfl,λ_=>rfl⟩;⟨t,h (),l⟩) u
end
mutual
noncomputable def py:D->PyData
 | .int i=>.int i
 | .bl b=>.bool b
 | .str x=>.str x
 | .tup f=>.tuple (pys f)
 | .lst f=>.list (pys f)
 | .fL g=>.list (g.map .int)
 |_=>.none
noncomputable def pys:List D->List PyData
 |[]=>[]
 |d::r=>py d::pys r
end
end Pu
namespace M
open L2 Own Pu
def E4{ps:Yb}(b:Field ps)(j:Nat):0<=(ps.getD j (0,0)).2/\(ps.getD j (0,0)).2<=1000:=by
 rw[Wl];by_cases h:j<ps.length
 ·rw[Wb h]
  have:=b _ (W9 h)
  show 0<=ps[j].2/\ps[j].2<=1000;lia
 ·rw[Q9 (by lia)];exact⟨Qu 0,by decide⟩
theorem DS{ps:Yb}(b:Field ps)(y:Int):∀n:Nat,0<=tpM ps y n/\tpM ps y n<=1000*n
 | 0=>⟨Qu 0,Qu 0⟩
 |n+1=>by
  have h:=DS b y n;have w:=E4 b n;unfold tpM;split<;>lia
theorem F0{ps:Yb}(b:Field ps)(f:ps.length<=40)(x y:Int):∀n:Nat,n<=ps.length->0<=pcM ps x y n/\pcM ps x y n<=40000000*n
 | 0,_=>⟨Qu 0,Qu 0⟩
 |n+1,g=>by
  have h:=F0 b f x y n (by lia);have w:=E4 b n;have t:=DS b y n;unfold pcM;split
  ·have o:=Int.mul_nonneg t.1 w.1;have l:tpM ps y n*(ps.getD n (0,0)).2<=40000*1000:=Int.mul_le_mul (by lia) w.2 w.1 (by decide);lia
  ·lia
theorem Dz{c:Int->Int->Int}(f:∀x y,0<=c x y/\c x y<=1600000000):∀o:Yc,o.length<=10->0<=oc c o/\oc c o<=16000000000*o.length
 |[],_=>⟨Qu 0,Qu 0⟩
 |a::r,g=>by
  rw[WW]at g;have h:=Dz f r (by lia)
  have s:∀l:Yc,0<=(l.map<|c a).sum/\(l.map<|c a).sum<=1600000000*l.length:=λl=>by
   induction l with
   |nil=>exact⟨Qu 0,Qu 0⟩
   |cons b l n=>
    have:=f a b
    rw[W7,List.sum_cons,WW];lia
  have s:=s r;unfold oc;rw[WW];lia
end M
namespace Own
open L2
theorem D1:∀{f:Yj}{b:Yi},Vals (f.map V.str) b->∃l:List (Str×Tok),b=strValues l/\l.map (·.1)=f
 |[],_,.nil=>⟨[],rfl,rfl⟩
 |t::r,_,.cons h k=>by
  obtain⟨g,rfl⟩:=h;obtain⟨l,rfl,e⟩:=D1 k;exact⟨(t,g)::l,rfl,by rw[W7,e]⟩
theorem EL:∀l:List (Str×Tok),Vals ((l.map (·.1)).map V.str) (strValues l)
 |[]=>.nil
 |_::r=>.cons ⟨_,rfl⟩ (EL r)
section
variable {X:Cx}{K:Ya}
def As(L:X.calm=true)(T:autoParam (X.K=K) au_0):Xa X (.builtin "all") (λxs H Q=>∃(p:Addr) (bs:List Bool),xs=[.ref p]/\SqL K H p (bs.map V.bl)/\Q (.bl<|bs.all id) H):=by
 subst T;intro pins s U H xs Y Q I C h;obtain⟨p,bs,rfl,M,q⟩:=h;obtain⟨u,rfl,E⟩:=C.one;obtain rfl:u=Value.ref p:=E;obtain⟨f,r,G,_⟩:=I.list M;have x:=Gb r;have o:=G.isList;have n:p<s.heap.objs.size:=by obtain⟨_,e,_⟩:=o;exact Wi e
 refine call_all_walk (wpAny_pyIter_list o ?_)
 refine⟨s.heap.objs.size,[s.heap.objs.size,p],[s.heap.objs.size],f.toArray.size,_,_,λi=>(bs[i]?).getD true,rfl,Walks.list (A:=X.A.in1) (I.ok.hd L) _ p (Wu n) f.toArray,
  ⟨⟨_,Wn _ rfl,rfl,rfl⟩,o.push _⟩,λi v s' Q' E' N y=>?_,λh' B J=>?_⟩
 ·obtain⟨b,e,rfl⟩:=x.get i v (by simpa using N);simp only[e,Option.getD_some]at y;exact Qs y
 ·have e:((List.range f.toArray.size).all λi=>(bs[i]?).getD true)=bs.all id:=by
   rw[W5,x.length];rw[Q0,W4,W4];refine⟨λz b w=>?_,λz i l=>?_⟩
   ·obtain⟨i,l,rfl⟩:=List.getElem_of_mem w
    have:=z i (Q7.mpr l)
    rw[Wb l]at this;exact this
   ·have g:=Q7.mp l;rw[Wb g];exact z _ (W9 g)
  rw[e];exact⟨.bl (bs.all id),H,I.kept (t':=B) (LSm.kept_iter J),rfl,q⟩
def DL:V->List V->Hp->VK->Prop:=λx b H Q=>∃t y:Str,x=.str t/\b=[.str y]/\(y.length==0)=false/\t.length+2<=sizeLine/\∀p,H p=none->Q (.ref p) (upd H p<|.lst ((Txt.split t y).map V.str))
def OE(t y:Str):(Txt.split t y).length<=t.length+2:=by
 unfold Txt.split;split
 ·exact Vf (Qe _)
 ·split
  ·exact Vf (Qe _)
  ·rw[Vs];exact Vf (StrLaws.occ_length_le _ _ _ _ _)
def MA:MtM X "str.split" DL:=by
 intro pins s A H x G v J Q I B C h;obtain⟨t,y,rfl,rfl,z,w,q⟩:=h;obtain⟨p,rfl⟩:=B;obtain⟨u,rfl,E⟩:=C.one;obtain⟨f,rfl⟩:=E
 have g:∀(l:List (Str×Tok)) (k:Nat),l.map (·.1)=Txt.split t y->EP X pins A Q (.ref s.heap.objs.size) {s with toks:=k,heap:=s.heap.push {cls:=.type "list",data:=.seq (strValues l).toArray}}:=λl k e=>by
  have n:=I.hok.fresh (Wk _);refine⟨.ref s.heap.objs.size,upd H s.heap.objs.size (.lst ((Txt.split t y).map V.str)),I.laid (t':=k) (λb u e=>Wd _ e) (Wk _) ⟨?_,strValues l,0,?_,Wn _ rfl⟩,rfl,q _ n⟩
  ·rw[Wc];exact Wt (OE t y) w
  ·rw[←e];exact EL l
 have r:t.length<=sizeLine:=by lia
 cases o:(decide (t.length<y.length) || decide (Builtin.Str.strKind t<Builtin.Str.strKind y))
 ·cases n:(Builtin.Str.occurrences t y 0 t.length (t.length+1)).isEmpty
  ·refine Vn F.slot_str_split (typeIs_str _ _ _) F.entry_str_split (F.args_str_split_2 _ _) (meets_str_split_sep t y p f o z n r<|by rw[Vs];exact Wt (Vf<|StrLaws.occ_length_le _ _ _ _ _) w) ?_;show wants _ _ _ {s with toks:=_,heap:=s.heap.push {cls:=.type "list",data:=.seq (strsFrom s.toks<|Builtin.Str.partsBetween t (Builtin.Str.occurrences t y 0 t.length (t.length+1)) y.length).toArray}}
   rw[strsFrom_eq];exact g (numbered s.toks _) _ ((numbered_texts _ _).trans ((Wf<|Vt o).trans (Wf<|Vt n)).symm)
  ·exact Vn F.slot_str_split (typeIs_str _ _ _) F.entry_str_split (F.args_str_split_2 _ _) (meets_str_split_not_found t y p f o z n) (g [(t,p)] _ ((Wf<|Vt o).trans (Wj n)).symm)
 ·exact Vn F.slot_str_split (typeIs_str _ _ _) F.entry_str_split (F.args_str_split_2 _ _) (meets_str_split_cannot_occur t y p f o) (g [(t,p)] _ (Wj o).symm)
def rJoin(K:Ya):V->List V->Hp->VK->Prop:=λx g H Q=>∃(b:Str) (a:Addr) (f:Yj),x=.str b/\g=[.ref a]/\SqL K H a (f.map V.str)/\JoinOk b f=true/\Q (.str<|Txt.join b f) H
def BG(y:autoParam (X.K=K) au_0):MtM X "str.join" (rJoin K):=by
 subst y;intro pins s z H x A v B Q I f g h;obtain⟨b,a,C,rfl,rfl,w,ok,q⟩:=h;obtain⟨E,rfl⟩:=f;obtain⟨u,rfl,n⟩:=g.one;obtain rfl:u=Value.ref a:=n;obtain⟨p,r,o,_⟩:=I.list w;obtain⟨l,rfl,e⟩:=D1 r;exact SC.join o.isList e ok λG k=>⟨.str _,H,I.tok k,⟨_,rfl⟩,q⟩
end
def Lits(P:Params):List DictEntry->List (Str×Int)->Prop
 |[],[]=>True
 |e::r,p::q=>(∃t,e.key=.str p.1 t)/\e.hash=PyData.keyHash P p.1/\(∃t,e.val=.int p.2 t)/\Lits P r q
 |_,_=>False
def Lits.keys {P:Params}:∀{l:List DictEntry}{b:List (Str×Int)},Lits P l b->PySem.W.KeysLit P l
 |[],_,_=>trivial
 |_::_,[],h=>h.elim
 |_::_,p::_,⟨⟨t,g⟩,f,_,h⟩=>⟨⟨p.1,t,g,f⟩,h.keys⟩
def Lits.find {P:Params} (x:Str):∀{l:List DictEntry}{b:List (Str×Int)},Lits P l b->RelO ((b.lookup x).map V.int) ((l.find? λd=>Value.isStrOf x d.key).map (·.val))
 |[],[],_=>by trivial
 |[],_::_,h=>h.elim
 |_::_,[],h=>h.elim
 |e::l,p::q,⟨⟨t,n⟩,_,⟨o,g⟩,h⟩=>by
  obtain⟨k,i⟩:=p;rw[Qo,WX,n];by_cases z:x=k
  ·subst z;have f:Value.isStrOf x (.str x t)=true:=by simp[Value.isStrOf]
   simp only[beq_self_eq_true,f];show RelO (some<|V.int i) (some e.val);rw[g];exact⟨_,rfl⟩
  ·have f:Value.isStrOf x (.str k t)=false:=by simp[Value.isStrOf];exact λe=>z e.symm
   simp only[Qx.mpr z,f];exact h.find x
structure Fd (K:Ya) (P:Params) (mg:Ye) (x:Str) (kvs:List (Str×Int)):Prop where
 ex:∃a es n,mg x=some (.ref a)/\(a==sysModules)=false/\K.lookup a=some ⟨.type "dict",none,.dict es n,#[]⟩/\Lits P es.toList kvs
section
variable {X:Cx}{x:Str}{kvs:List (Str×Int)}{i:Expr}{ty:TE}{pos pos':Pos}
noncomputable def Ey(kvs:List (Str×Int))(ty:TE):TE:=λb H Q=>ty b H λy f=>∃z,y=.str z/\Q (.bl (kvs.lookup z).isSome) f
def SX(C:Fd X.K X.w.params X.mg x kvs)(L:PE X i ty)(M:autoParam (Gl X x) au_0)(N:autoParam ((x==("__debug__" : Str))=false) au_1):PC X .In i (.Name x pos) (Ey kvs ty):=by
 intro pins s g H Q I h;obtain⟨a,o,n,Y,U,T,l⟩:=C.ex;refine thn (L pins s g H _ I h) ?_;rintro iv A ⟨y,q,I1,B,J⟩;refine thn (Fq (v:=.ref a) M Y rfl N pins A g q (λv b=>v=.ref a/\b=q) I1 ⟨rfl,rfl⟩) ?_;rintro u s2 ⟨_,b,p,E,e1,e2⟩;subst e1;subst e2;obtain rfl:u=Value.ref a:=E;obtain⟨z,rfl,G⟩:=J;obtain⟨r,rfl⟩:=B;refine wpAny_in_of (strKind_is X.prog X.w z r) U (PySem.W.mapOf_K (prog:=X.prog) p.kIn T l.keys) ?_;have f:=(l.find z).isSome_eq;rw[Vy]at f
 have e:findBy Value.isStrOf o z=(o.toList.find? λd=>Value.isStrOf z d.key).map (·.val):=by
  unfold findBy;rw[←List.find?_toArray]
 rw[e,←f];exact⟨.bl _,b,p.tok _,rfl,G⟩
end
end Own
namespace Pu
open L2 Own
section
variable {K:Ya}{mg:Ye}{E:L2.St->XK}
theorem Rps.of_strs {H:Hp}:∀b:Yj,Rps K H (b.map D.str) (b.map V.str)
 |[]=>.nil
 |_::r=>.cons (.str _) (Rps.of_strs r)
theorem Rps.strs {H:Hp}:∀{b:Yj}{vs:List V},Rps K H (b.map D.str) vs->vs=b.map V.str
 |[],_,.nil=>rfl
 |t::r,_,.cons h k=>by rw[Rps.strs k];cases h;rfl
def BN:List S->(S->Prop)->Prop
 |[s],R=>∃bs:List Bool,s.d=.lst (bs.map D.bl)/\R (.sh<|.bl<|bs.all id)
 |_,_=>False
def Am{b:TA}{r:PTA}(u:Uo K mg E b r):Ub K mg E (tCB (λxs H Q=>∃(p:Addr) (bs:List Bool),xs=[.ref p]/\SqL K H p (bs.map V.bl)/\Q (.bl<|bs.all id) H) b) (pCB BN r):=by
 refine XZ u λG H x Z A y R Q o B C l h q=>?_;unfold BN at h;split at h
 ·obtain⟨v,rfl,n⟩:=l.one_inv;obtain⟨bs,e,w⟩:=h;have f:=n.rp o;rw[e]at f;obtain⟨a,z,rfl,g,s⟩:=f.lst_inv;rw[s.bls]at g;exact⟨a,bs,rfl,SqL.of g,q _ _ x w (Same.refl _) (.bl _)⟩
 ·exact h.elim
noncomputable def pBT(f:Str->D->(S->Prop)->Prop)(a b:PTE):PTE:=λg R X=>a g (λs=>match s.d with | .str t=>b g (λu=>f t u.d R) X|_=>False) X
def GB{G:V->List V->Hp->VK->Prop}{f:Str->D->(S->Prop)->Prop}{te C:TE}{a b:PTE}(ha:Ub K mg E te a)(hb:Ub K mg E C b)(Y:∀(p H l:Hp) (Z:Addr->Prop) (t:Str) (d:D) (u:V) (R:S->Prop) (Q:VK),Same H l->Rp K l d u->f t d R->(∀s v o,R s->Same l o->TV K Z p H o s v->Q v o)->G (.str t) [u] l Q):Ub K mg E (tBM K "str" G te<|UG C Xc) (pBT f a b):=by
 intro p B H z A R X Q n h q L;refine ha p B H z A _ X _ n h (λs v H1 x r T=>?_) L;have g:=n.grow r;have J:=T.rp g.same;split at x
 ·rename_i t et;rw[et]at J;cases J
  refine⟨rfl,hb p B H1 z A _ X _ g x (λu w l h2 y N=>?_) λc H' hc S'=>L c H' hc (r.trans S')⟩;exact Y p H l _ t _ _ _ _ (r.trans y) (N.rp (g.grow y).same) h2 λs v o U S3 M=>q s v o U ((r.trans y).trans S3) M
 ·exact x.elim
def Ej:Str->D->(S->Prop)->Prop:=λt d R=>match d with
 | .str y=>(y.length==0)=false/\t.length+2<=sizeLine/\R (.own ((Txt.split t y).map D.str))
 |_=>False
def Hf{te f:TE}{a b:PTE}(n:Ub K mg E te a)(l:Ub K mg E f b):Ub K mg E (tBM K "str" DL te<|UG f Xc) (pBT Ej a b):=by
 refine GB n l λv H s Z t d u R Q o r h q=>?_;unfold Ej at h;split at h
 ·cases r
  exact⟨t,_,rfl,rfl,h.1,h.2.1,λp g=>q _ _ _ h.2.2 (US g) (K6 o g<|Rps.of_strs _)⟩
 ·exact h.elim
def Dt:Str->D->(S->Prop)->Prop:=λt d R=>match d with
 | .lst f=>∃b:Yj,f=b.map D.str/\JoinOk t b=true/\R (.sh<|.str<|Txt.join t b)
 |_=>False
def Bh{te f:TE}{a b:PTE}(s:Ub K mg E te a)(p:Ub K mg E f b):Ub K mg E (tBM K "str" (rJoin K) te<|UG f Xc) (pBT Dt a b):=by
 refine GB s p λz H w Z t d u R Q y r h q=>?_;unfold Dt at h;split at h
 ·obtain⟨n,rfl,ok,v⟩:=h;obtain⟨l,x,rfl,g,o⟩:=r.lst_inv;rw[o.strs]at g;exact⟨t,l,n,rfl,rfl,SqL.of g,ok,q _ _ w v (Same.refl _) (.str _)⟩
 ·exact h.elim
noncomputable def OI(b:List (Str×Int))(a:PTE):PTE:=λf R X=>a f (λs=>match s.d with | .str z=>R (.sh (.bl (b.lookup z).isSome))|_=>False) X
def SE{b:List (Str×Int)}{te:TE}{a:PTE}(w:Ub K mg E te a):Ub K mg E (Ey b te) (OI b a):=by
 intro z B H o p R X Q f h q u;refine w z B H o p _ X _ f h (λs v y g n r=>?_) u;have l:=r.rp (f.grow n).same;split at g
 ·rename_i t x;rw[x]at l;cases l
  exact⟨t,rfl,q _ _ y g n (.bl _)⟩
 ·exact g.elim
end
end Pu
namespace Own
open L2
noncomputable def Its(x:Str):It:=⟨λi _=>i<x.cps.size,λi H v b=>b=H/\∃c,x.cps[i]?=some c/\v=.str ⟨#[c]⟩,λi _=>x.cps.size<=i⟩
def M1{P:Program}{w:World}{K:Ya}{tg:Expr}(x:Str)(t:Tok)(it:Addr):Turn P w K tg (Its x) [it] it (λi h=>h.IsStrIter it "str_ascii_iterator" x t i) where
 mem:=by simp
 obj:=λi h st b hb=>by
  have e:b=it:=by simpa using hb
  subst e;obtain⟨o,e,c,d⟩:=st;exact⟨o,e,λv z=>by rw[d]at z;cases z⟩
 keep:=λi h h' st k=>by
  obtain⟨o,e,c,d⟩:=st;exact⟨o,k it (by simp) o e,c,d⟩
 item:=by
  intro X hP hw hK hc i pins s σ H E I hf st hg;subst hP hw hK;have hx:x.cps[i]?=some (x.cps[i]'hg):=WJ hg;obtain⟨f0,f1,f2,f3,f4,f5⟩:=hf it (by simp);refine wpAny_pyNext_ascii_item st hx λh' st' sb=>?_;have I1:Inv X pins σ H {s with heap:=h',toks:=s.toks+1}:=I.turned (t':=s.toks+1) (λb o hb e=>(sb.2 b hb).trans e) f0 f1 f3 f4 f5
  obtain⟨o,e,c,d⟩:=id st';exact⟨_,rfl,Sw (s:={s with heap:=h',toks:=s.toks+1}) e c d (by decide) ⟨.str ⟨#[x.cps[i]'hg]⟩,H,I1,⟨_,rfl⟩,⟨rfl,_,hx,rfl⟩,st',λb hb=>(hf b hb).1⟩⟩
 done:=by
  intro X hP hw hK hc i pins s σ H E I hf st hg;subst hP hw hK;obtain⟨f0,f1,f2,f3,f4,f5⟩:=hf it (by simp);have hx:x.cps[i]?=none:=QZ hg;exact wpAny_pyNext_ascii_end (I.ok.hd hc) st hx λh' eb=>⟨rfl,I.turned (t':=s.toks) (λb o hb e=>eb b o hb e) f0 f1 f3 f4 f5⟩
 self:=λ_ _ _ _ _ st h=>wpAny_pyIter_striter_ascii st h
noncomputable def El(f:TE):TI:=λb H R=>f b H λv g=>∃x:Str,v=.str x/\x.cps.all (· < 128)=true/\R (Its x) g
section
variable {X:Cx}{K:Ya}{tg:Expr}
def GP{l:Expr}{n:TE}(y:PE X l n):PI X tg l (El n):=by
 intro pins s p H R I h;refine thn (y pins s p H _ I h) ?_;rintro v f ⟨x,C,g,u,w⟩;obtain⟨z,e,B,q⟩:=w;subst e;obtain⟨r,rfl⟩:=u;refine wpAny_pyIter_ascii B ?_;refine⟨f.heap.objs.size,[f.heap.objs.size],_,_,C,rfl,g.kept (t':=f.toks) λb o e=>Wd _ e,M1 z r _,⟨_,Wn _ rfl,rfl,rfl⟩,λb A=>?_,q⟩;have e:b=f.heap.objs.size:=by simpa using A
 subst e;exact g.fpOk (Wk _) (g.hok.fresh<|Wk _)
noncomputable def CN:R2:=λx y H Q=>∃(c:Nat) (t:Str),x=.str ⟨#[c]⟩/\y=.str t/\Q (.bl<|decide (c∈t.cps.toList)) H
def O6:OpR X (compareOp .In) CN:=by
 intro pins s l H x y v u Q I g f h;obtain⟨c,t,rfl,rfl,q⟩:=h;obtain⟨n,rfl⟩:=g;obtain⟨b,rfl⟩:=f;refine P.in_str ?_;rw[StrLaws.found_one];exact⟨.bl _,H,I,rfl,q⟩
def RF:Xa X (.type "int") (λxs H Q=>∃(t:Str) (n:Int),xs=[.str t]/\PySem.intText? t=some n/\t.length<=640/\Q (.int n) H):=by
 intro pins s g H xs l Q I r h;obtain⟨t,n,rfl,f,b,q⟩:=h;obtain⟨u,rfl,o,rfl⟩:=r.one;exact PySem.W.KIN.call_text f b ⟨.int n,H,I.tok _,⟨_,rfl⟩,q⟩
end
end Own
namespace Pu
open L2 Own
section
variable {K:Ya}{mg:Ye}{E:L2.St->XK}
noncomputable def pIS(a:PTE):PTI:=λb R X=>a b (λs=>match s.d with | .str x=>x.cps.all (· < 128)=true/\R x.cps.size (λi=>.sh (.str ⟨#[x.cps.getD i 0]⟩))|_=>False) X
def Zb0{te:TE}{a:PTE}(z:Ub K mg E te a):SndI K mg E (El te) (pIS a):=by
 intro J B H n o R X Q b h q r;refine z J B H n o _ X _ b h (λs v G f l p=>?_) r;have g:=p.rp (b.grow l).same;split at f
 ·rename_i x A;rw[A]at g;cases g
  refine⟨x,rfl,f.1,q _ _ _ G f.2 l ⟨λi M C u lt=>?_,λM C lt=>Wk _⟩⟩;refine⟨u,λv L y=>?_⟩;obtain⟨rfl,c,w,rfl⟩:=y;have e:x.cps.getD i 0=c:=by rw[Array.getD_eq_getD_getElem?,w];rfl
  rw[e];exact⟨Same.refl _,.str _⟩
 ·exact f.elim
def Co:S->S->(S->Prop)->Prop:=λx y R=>match x.d,y.d with
 | .str t,.int i=>t.length<=sizeLine/\∃c,atI t.cps.toList i=some c/\R (.sh<|.str ⟨#[c]⟩)
 |_,_=>False
def Zcs{g f:TE}{a b:PTE}(w:Ub K mg E g a)(s:Ub K mg E f b):Ub K mg E (tOp De g f) (p2 a b Co):=by
 refine Xj w s λN H J Z x y v u R Q l L M r p h q=>?_;have o:=r.rp l;have n:=p.rp l;unfold Co at h;split at h
 ·rename_i t i G C;rw[G]at o;rw[C]at n;cases o
  cases n
  obtain⟨B,c,A,z⟩:=h;exact⟨t,i,c,rfl,rfl,B,A,q _ _ J z (Same.refl _) (.str _)⟩
 ·exact h.elim
def BU:S->S->(S->Prop)->Prop:=λx y R=>match x.d,y.d with
 | .str s,.str t=>∃c,s=⟨#[c]⟩/\R (.sh<|.bl<|decide (c∈t.cps.toList))
 |_,_=>False
def GQ{g f:TE}{a b:PTE}(z:Ub K mg E g a)(w:Ub K mg E f b):Ub K mg E (tOp CN g f) (p2 a b BU):=by
 refine Xj z w λM H G Z x y v u R Q l J L r p h q=>?_;have o:=r.rp l;have n:=p.rp l;unfold BU at h;split at h
 ·rename_i s t C B;rw[C]at o;rw[B]at n;cases o
  cases n
  obtain⟨c,rfl,A⟩:=h;exact⟨c,t,rfl,rfl,q _ _ G A (Same.refl _) (.bl _)⟩
 ·exact h.elim
def EZ:List S->(S->Prop)->Prop
 |[s],R=>(match s.d with | .str t=>∃n,PySem.intText? t=some n/\t.length<=640/\R (.sh<|.int n)|_=>False)
 |_,_=>False
def MP{b:TA}{r:PTA}(p:Uo K mg E b r):Ub K mg E (tCB (λxs H Q=>∃(t:Str) (n:Int),xs=[.str t]/\PySem.intText? t=some n/\t.length<=640/\Q (.int n) H) b) (pCB EZ r):=by
 refine XZ p λC H x Z z y R Q o A B g h q=>?_;unfold EZ at h;split at h
 ·obtain⟨v,rfl,l⟩:=g.one_inv;have f:=l.rp o;split at h
  ·rename_i t e;rw[e]at f;cases f
   obtain⟨n,w,u,s⟩:=h;exact⟨t,n,rfl,w,u,q _ _ x s (Same.refl _) (.int _)⟩
  ·exact h.elim
 ·exact h.elim
def Fu:List S->(S->Prop)->Prop
 |[s],R=>(match s.d with | .int i=>i.natAbs.log2<1920/\R (.sh<|.str<|toString i)|_=>False)
 |_,_=>False
def P0{b:TA}{r:PTA}(o:Uo K mg E b r):Ub K mg E (tCB (λxs H Q=>∃i,xs=[.int i]/\i.natAbs.log2<1920/\Q (.str<|toString i) H) b) (pCB Fu r):=by
 refine XZ o λy H p Z u s R Q n w x g h q=>?_;unfold Fu at h;split at h
 ·obtain⟨v,rfl,l⟩:=g.one_inv;have f:=l.rp n;split at h
  ·rename_i i e;rw[e]at f;cases f
   exact⟨i,rfl,h.1,q _ _ p h.2 (Same.refl _) (.str _)⟩
  ·exact h.elim
 ·exact h.elim
def AZ:S->S->(S->Prop)->Prop:=λx y R=>match x.d,y.d with
 | .str s,.str t=>s.length+t.length<=sizeLine/\R (.sh<|.str (s++t))
 |_,_=>False
def Pe{g f:TE}{a b:PTE}(z:Ub K mg E g a)(w:Ub K mg E f b):Ub K mg E (tOp (λx y H Q=>∃i j,x=.str i/\y=.str j/\i.length+j.length<=sizeLine/\Q (.str (i++j)) H) g f) (p2 a b AZ):=by
 refine Xj z w λL H C Z x y v u R Q l G J r p h q=>?_;have o:=r.rp l;have n:=p.rp l;unfold AZ at h;split at h
 ·rename_i s t B A;rw[B]at o;rw[A]at n;cases o
  cases n
  exact⟨s,t,rfl,rfl,h.1,q _ _ C h.2 (Same.refl _) (.str _)⟩
 ·exact h.elim
end
end Pu
namespace M
open L2 Own Pu
noncomputable def spc:Str:=⟨#[32]⟩
def TR{a b:Str}(h:a.cps.toList=b.cps.toList):a=b:=by
 obtain⟨a⟩:=a;obtain⟨b⟩:=b;rw[show a=b from Array.toList_inj.mp h]
def KF(a b:Str):(a++b).cps.toList=a.cps.toList++b.cps.toList:=by
 show(a.cps++b.cps).toList=_;rw[Array.toList_append]
def PQ(c:Nat)(x y:Str)(r:Yj):(Str.join ⟨#[c]⟩ (x::y::r)).cps.toList=x.cps.toList++c::(Str.join ⟨#[c]⟩ (y::r)).cps.toList:=by
 show(x++⟨#[c]⟩++Str.join ⟨#[c]⟩ (y::r)).cps.toList=_;rw[KF,KF,QY];rfl
theorem E9{c:Nat}:∀{a b r s:Yh},c∉a->c∉b->a++c::r=b++c::s->a=b/\r=s
 |[],[],_,_,_,_,h=>⟨rfl,(List.cons.inj h).2⟩
 |[],y::b,_,_,_,f,h=>absurd ((List.cons.inj h).1▸Wz) f
 |x::a,[],_,_,g,_,h=>absurd ((List.cons.inj h).1.symm▸Wz) g
 |x::a,y::b,r,s,g,f,h=>by
  obtain⟨n,l⟩:=List.cons.inj h;obtain⟨p,o⟩:=E9 (λz=>g (Wr _ z)) (λz=>f (Wr _ z)) l;exact⟨by rw[n,p],o⟩
theorem Dx(c:Nat):∀{f us:Yj},f≠[]->us≠[]->(∀w∈f,c∉w.cps.toList)->(∀w∈us,c∉w.cps.toList)->(Str.join ⟨#[c]⟩ f).cps.toList=(Str.join ⟨#[c]⟩ us).cps.toList->f=us
 |[],_,h,_,_,_,_=>absurd rfl h
 |_,[],_,h,_,_,_=>absurd rfl h
 |[x],[y],_,_,_,_,h=>by rw[TR (a:=x) (b:=y) h]
 |[x],y::z::r,_,_,hx,_,h=>by
  rw[PQ]at h;have h:x.cps.toList=_:=h;exact absurd (by rw[h];simp) (hx x Wz)
 |x::z::r,[y],_,_,_,g,h=>by
  rw[PQ]at h;have h:_=y.cps.toList:=h;exact absurd (by rw[←h];simp) (g y Wz)
 |x::p::r,y::o::s,_,_,hx,g,h=>by
  rw[PQ,PQ]at h;obtain⟨n,l⟩:=E9 (hx x Wz) (g y Wz) h;rw[TR n,Dx c (by simp) (by simp) (λw hw=>hx w (Wr _ hw)) (λw hw=>g w (Wr _ hw)) l]
def MO(x y:Str):Txt.split x y≠[]:=by
 unfold Txt.split;split
 ·simp
 ·split
  ·simp
  ·intro z
   have:=WA List.length z
   rw[Vs]at this;cases this
def On{c:Nat}{b:Yj}(f:b≠[])(g:∀w∈b,c∉w.cps.toList):Txt.split (Str.join ⟨#[c]⟩ b) ⟨#[c]⟩=b:=
 Dx c (MO _ _) f (StrLaws.split_free _ c) g (by rw[StrLaws.join_split])
noncomputable def nS(n:Int):Str:=Str.ofString (toString n)
noncomputable def X1(x:Str):Bool:=!(decide ((x.length:Int)<1) || decide ((x.length:Int)>4)) && !(decide (x.cps.toList.head?=some 48) && !decide (x=("0" : Str)))&&(x.cps.toList.map λc=>decide (c∈("0123456789" : Str).cps.toList)).all id
def RW:((List.range 10000).all λm=>decide ((Nat.toDigits 10 m).length<=4) && !(decide ((Nat.toDigits 10 m).head?=some '0') && !decide (m=0)))=true:=by decide +kernel
def SY(m:Nat):(nS (m:Int)).cps.toList=(Nat.toDigits 10 m).map Char.toNat:=PySem.W.KIN.signs_num m
def SL{n:Int}(g:0<=n):∀c∈(nS n).cps.toList,48<=c/\c<=57:=by
 obtain⟨m,rfl⟩:=Int.eq_ofNat_of_zero_le g;intro c f;rw[SY]at f;obtain⟨h,b,e⟩:=W6.mp f;rw[←e];exact digit_range (Nat.isDigit_of_mem_toDigits (by decide) (by decide) b)
def XF{n:Int}(p:0<=n)(q:n<=9999):1<=(nS n).length/\(nS n).length<=4/\((nS n).cps.toList.head?=some 48->n=0):=by
 obtain⟨m,rfl⟩:=Int.eq_ofNat_of_zero_le p;have h:=W4.mp RW m (Q7.mpr<|by lia);rw[W1]at h;have o:=Wm h.1
 have l:(nS (m:Int)).length=(Nat.toDigits 10 m).length:=by
  have:=WA List.length (SY m)
  rw[Wc,WU]at this;exact this
 refine⟨?_,by rw[l];exact o,λz=>?_⟩
 ·rw[l];exact toDigits_len_ge 10 m
 ·rw[SY,List.head?_map]at z;have b:=h.2;cases e:(Nat.toDigits 10 m).head? with
  |none=>rw[e]at z;cases z
  |some g=>
   rw[e]at z b
   have f:g='0':=Char.ext (by
    have z:g.toNat=48:=Wp z;exact UInt32.toNat_inj.mp z)
   rw[f,Wh rfl,QH,Bool.not_not]at b
   have:=Wm b
   lia
def OJ{n:Int}(f:0<=n)(o:n<=9999):X1 (nS n)=true:=by
 obtain⟨q,p,g⟩:=XF f o;unfold X1;rw[Ws (by lia),Ws (by lia)];rw[W1,W1];refine⟨⟨rfl,?_⟩,?_⟩
 ·by_cases z:(nS n).cps.toList.head?=some 48
  ·rw[g z];decide +kernel
  ·rw[Ws z];rfl
 ·rw[W4];intro b l;obtain⟨c,h,rfl⟩:=W6.mp l;obtain⟨s,r⟩:=SL f c h
  have:c=48\/c=49\/c=50\/c=51\/c=52\/c=53\/c=54\/c=55\/c=56\/c=57:=by lia
  rcases this with rfl|rfl|rfl|rfl|rfl|rfl|rfl|rfl|rfl|rfl<;>decide +kernel
def Ra{n:Int}(f:0<=n):(nS n).cps.all (· < 128)=true:=by
 rw[←Array.all_toList,W4];intro c b
 have:=SL f c b
 exact Wh (by lia)
def HI{n:Int}(b:0<=n):32∉(nS n).cps.toList:=λz=>by
 have:=SL b 32 z
 lia
def Lm{n:Int}(b:0<=n)(f:n<=9999):PySem.intText? (nS n)=some n:=PySem.W.KIN.num_reads b (by lia)
end M
namespace Own
open L2
def GJ(z:Str)(xs:Yj):inV (.str z) (xs.map V.str)=decide (z∈xs):=by
 unfold inV;rw[List.any_map,Q0,List.any_eq_true,decide_eq_true_iff];refine⟨λ⟨x,hx,h⟩=>?_,λh=>⟨z,h,?_⟩⟩
 ·have h:eqV (.str x) (.str z)=true:=h
  have:x=z:=by simpa [eqV]using h
  exact this▸hx
 ·show eqV (.str z) (.str z)=true;simp[eqV]
def LQ(xs:Yj):(xs.map V.str).all UZ=true:=by
 rw[List.all_map,W4];intro x _;rfl
structure DZ (K:Ya) (mg:Ye) (x:Str) (ts:Yj):Prop where
 ex:∃a dd sl its n,mg x=some (.ref a)/\K.lookup a=some ⟨.type "tuple",dd,.seq its n,sl⟩/\its.size<=sizeLine/\Vals (ts.map V.str) its.toList
section
variable {X:Cx}{x:Str}{ts:Yj}{i:Expr}{ty:TE}{pos:Pos}
noncomputable def E2(ts:Yj)(ty:TE):TE:=λb H Q=>ty b H λy f=>∃z,y=.str z/\Q (.bl<|decide (z∈ts)) f
def Zc6(C:DZ X.K X.mg x ts)(J:PE X i ty)(L:autoParam (Gl X x) au_0)(M:autoParam ((x==("__debug__" : Str))=false) au_1):PC X .In i (.Name x pos) (E2 ts ty):=by
 intro pins s b H Q I h;obtain⟨a,dd,sl,f,n,T,N,G,r⟩:=C.ex;refine thn (J pins s b H _ I h) ?_;rintro E p ⟨y,l,I1,q,B⟩;refine thn (Fq (v:=.ref a) L T rfl M pins p b l (λv g=>v=.ref a/\g=l) I1 ⟨rfl,rfl⟩) ?_;rintro u o ⟨_,g,I2,w,Y,U⟩;subst Y;subst U;obtain rfl:u=Value.ref a:=w;obtain⟨z,rfl,A⟩:=B;refine Eu pins o b g (.str z) (.ref a) E _ Q I2 q rfl ⟨a,ts.map V.str,rfl,.inr (.inr ⟨_,f,n,N,rfl,rfl,G,r⟩),rfl,LQ ts,?_⟩;rw[GJ];exact A
end
end Own
namespace Pu
open L2 Own
section
variable {K:Ya}{mg:Ye}{E:L2.St->XK}
noncomputable def OB(f:Yj)(a:PTE):PTE:=λb R X=>a b (λs=>match s.d with | .str z=>R (.sh<|.bl<|decide (z∈f))|_=>False) X
def Zb6{g:Yj}{te:TE}{a:PTE}(w:Ub K mg E te a):Ub K mg E (E2 g te) (OB g a):=by
 intro z B H o p R X Q b h q u;refine w z B H o p _ X _ b h (λs v y f n r=>?_) u;have l:=r.rp (b.grow n).same;split at f
 ·rename_i t x;rw[x]at l;cases l
  exact⟨t,rfl,q _ _ y f n (.bl _)⟩
 ·exact f.elim
end
end Pu
namespace Own
open L2
section
variable {X:Cx}
def Zah:OpR X (binaryOp .Mult) (λx y H Q=>∃i n,x=.str i/\y=.int n/\MulOk i n/\Q (.str<|Txt.mul i n) H):=by
 intro pins s o H x y v u Q I g f h;obtain⟨i,n,rfl,rfl,l,q⟩:=h;obtain⟨t,rfl⟩:=g;obtain⟨b,rfl⟩:=f;exact SB.mul l λb p=>⟨.str (Txt.mul i n),H,I.tok _,⟨_,rfl⟩,q⟩
end
end Own
namespace Pu
open L2 Own M
section
variable {K:Ya}{mg:Ye}{E:L2.St->XK}
def E7:S->S->(S->Prop)->Prop:=λx y R=>match x.d,y.d with
 | .str s,.int n=>MulOk s n/\R (.sh<|.str<|Txt.mul s n)
 |_,_=>False
def Hn{g f:TE}{a b:PTE}(A:Ub K mg E g a)(z:Ub K mg E f b):Ub K mg E (tOp (λx y H Q=>∃i n,x=.str i/\y=.int n/\MulOk i n/\Q (.str<|Txt.mul i n) H) g f) (p2 a b E7):=by
 refine Xj A z λM H G Z x y v u R Q l J L w r h q=>?_;have p:=w.rp l;have o:=r.rp l;unfold E7 at h;split at h
 ·rename_i s n C B;rw[C]at p;rw[B]at o;cases p
  cases o
  exact⟨s,n,rfl,rfl,h.1,q _ _ G h.2 (Same.refl _) (.str _)⟩
 ·exact h.elim
end
end Pu
namespace T
open L2
noncomputable def top(i:Nat):Stmt:=PySem.Challenge.pw_stripmeld_k31_named_orders.main.body.getD i (.Pass ⟨0,0,0,0⟩)
noncomputable abbrev Sg:Stmt:=top 24
def IV:Uh ["holder"] ["holder"] (Ud Sg):=Pu.fs
noncomputable abbrev N8:Stmt:=top 25
def ML:Uh ["width"] ["width"] (Ud N8):=Pu.fs
noncomputable abbrev NQ:Stmt:=top 26
def Zba:Uh ["strips","holder","width"] ["strips"] (Ud NQ):=Pu.fs
noncomputable abbrev BZ:Stmt:=top 27
def Zc0:Uh ["strips"] ["strips"] (Ud BZ):=Pu.fs
noncomputable abbrev SQ:Stmt:=top 28
def GS:Uh ["strips","order"] ["strips","order"] (Ud SQ):=Pu.fs
noncomputable abbrev SJ:Stmt:=top 30
def LZ:Uh ["strips","ahead","behind","to_pass","cost","holder","width"] ["strips","ahead","behind"] (Ud SJ):=Pu.fs
noncomputable abbrev B5:Stmt:=top 31
def Zbk:Uh ["strips","order","cost","index","ahead","behind"] ["strips","order"] (Ud B5):=Pu.fs
noncomputable abbrev NI:Stmt:=top 41
def EO:Uh ["order","wishes","index_of","index","holder","between"] ["order","wishes"] (Ud NI):=Pu.fs
noncomputable abbrev Ff:Stmt:=top 47
def HD:Uh ["strips","place"] ["strips","place"] (Ud Ff):=Pu.fs
noncomputable abbrev Sy:Stmt:=top 48
def Lx:Uh ["strips","place","holder","strip"] ["strips","place","holder"] (Ud Sy):=Pu.fs
noncomputable abbrev BE:Stmt:=top 51
def Zad:Uh ["wishes","ahead","behind"] ["wishes","ahead","behind"] (Ud BE):=Pu.fs
noncomputable abbrev Bz:Stmt:=inClass (top 67) 0
def Lh:Uh ["self","strips"] ["self","strips"] (Ud Bz):=Pu.fs
noncomputable abbrev SG:Stmt:=inClass (top 67) 1
def RD:Uh ["self"] ["self"] (Ud SG):=Pu.fs
noncomputable abbrev S8:Stmt:=inClass (top 67) 2
def Rl:Uh ["self"] ["self"] (Ud S8):=Pu.fs
noncomputable abbrev Bo:Stmt:=inClass (top 67) 4
def MV:Uh ["self"] ["self"] (Ud Bo):=Pu.fs
noncomputable abbrev Bt:Stmt:=inClass (top 67) 5
def Iz:Uh ["self","deed","field","wishes"] ["self","deed","field","wishes"] (Ud Bt):=Pu.fs
noncomputable abbrev Sv:Stmt:=inClass (top 67) 6
def HZ:Uh ["self","place","holder","field"] ["self","place","holder"] (Ud Sv):=Pu.fs
noncomputable abbrev NT:Stmt:=inClass (top 67) 9
def LO:Uh ["self","ahead","behind","wishes"] ["self","ahead","behind"] (Ud NT):=Pu.fs
noncomputable abbrev Fp:Stmt:=inClass (top 67) 19
def Mn:Uh ["self","order"] ["self","order"] (Ud Fp):=Pu.fs
noncomputable abbrev NK:Stmt:=inClass (top 67) 20
def IU:Uh ["self","order"] ["self","order"] (Ud NK):=Pu.fs
noncomputable abbrev Bp:Stmt:=top 74
def Ia:Uh ["text"] ["text"] (Ud Bp):=Pu.fs
noncomputable abbrev BM:Stmt:=top 75
def Zac:Uh ["word","texts"] ["word","texts"] (Ud BM):=Pu.fs
noncomputable abbrev NR:Stmt:=top 76
def Ik:Uh ["texts"] ["texts"] (Ud NR):=Pu.fs
noncomputable abbrev Br:Stmt:=top 79
def IY:Uh ["wishes"] ["wishes"] (Ud Br):=Pu.fs
noncomputable abbrev NV:Stmt:=top 83
def R9:Uh ["village","word","numbers"] ["village","word","numbers"] (Ud NV):=Pu.fs
noncomputable abbrev B7:Stmt:=top 84
def Zcw:Uh ["village","word","numbers","many"] ["village","word","numbers"] (Ud B7):=Pu.fs
noncomputable abbrev Ss:Stmt:=top 85
def AK:Uh ["village","word","numbers","e","members"] ["village","word","numbers"] (Ud Ss):=Pu.fs
noncomputable abbrev BX:Stmt:=top 86
def Za8:Uh ["village","row","words"] ["village","row"] (Ud BX):=Pu.fs
noncomputable abbrev Sq:Stmt:=top 88
def Zbs:Uh ["_law_script","_law_k"] ["_law_script","_law_k"] (Ud Sq):=Pu.fs
noncomputable abbrev NX:Stmt:=top 89
def HG:Uh ["_law_found"] ["_law_found"] (Ud NX):=Pu.fs
noncomputable abbrev SM:Stmt:=top 90
def M0:Uh ["_law_cell","_law_place","_law_first"] ["_law_cell","_law_place"] (Ud SM):=Pu.fs
noncomputable abbrev Fb:Stmt:=top 91
def HM:Uh ["_law_script","_law_k"] ["_law_script","_law_k"] (Ud Fb):=Pu.fs
noncomputable abbrev SH:Stmt:=top 92
def Zbe:Uh ["_law_script"] ["_law_script"] (Ud SH):=Pu.fs
noncomputable abbrev Bs:Stmt:=top 93
def Mj:Uh ["_law_cell","_law_wide","_law_least"] ["_law_cell"] (Ud Bs):=Pu.fs
noncomputable abbrev Fi:Stmt:=top 94
def LJ:Uh ["_law_menu_here","_law_k"] ["_law_menu_here","_law_k"] (Ud Fi):=Pu.fs
noncomputable abbrev Sr:Stmt:=top 95
def I0:Uh ["_law_script","_law_menu_here","_law_many","_law_strips_here","_law_k","_law_cell","_law_width"] ["_law_script","_law_menu_here","_law_many"] (Ud Sr):=Pu.fs
noncomputable abbrev B3:Stmt:=top 96
def Fx:Uh ["_law_script","_law_menu_here","_law_how","_law_pool","_law_wishes_here","_law_k","_law_cell","_law_one","_law_two","_law_pair"] ["_law_script","_law_menu_here"] (Ud B3):=Pu.fs
noncomputable abbrev NS:Stmt:=top 97
def Hg:Uh ["_law_found","_law_due","_law_k"] ["_law_found","_law_due"] (Ud NS):=Pu.fs
noncomputable abbrev SO:Stmt:=top 98
def Ou:Uh ["_law_found","_law_due","_law_k","_law_j"] ["_law_found","_law_due"] (Ud SO):=Pu.fs
noncomputable abbrev Bj:Stmt:=top 99
def Il:Uh ["_law_strips_here","_law_owners"] ["_law_strips_here"] (Ud Bj):=Pu.fs
noncomputable abbrev BR:Stmt:=top 100
def Md:Uh ["_law_strips_here","_law_order","_law_ranks","_law_total","_law_k","_law_j"] ["_law_strips_here","_law_order"] (Ud BR):=Pu.fs
noncomputable abbrev Sj:Stmt:=top 101
def Pz:Uh ["_law_holders","_law_cell","_law_left","_law_order","_law_rest"] ["_law_holders","_law_cell"] (Ud Sj):=Pu.fs
noncomputable abbrev Sd:Stmt:=top 102
def HJ:Uh ["_law_village","_law_strips_here","_law_cell","_law_k","_law_holder_here"] ["_law_village","_law_strips_here","_law_cell"] (Ud Sd):=Pu.fs
noncomputable abbrev BH:Stmt:=top 103
def Zc2:Uh ["_law_village","_law_order","_law_price_here","_law_broken","_law_named","_law_texts","_law_found"] ["_law_village","_law_order","_law_price_here","_law_broken"] (Ud BH):=Pu.fs
noncomputable abbrev XJ:Stmt:=top 104
def G3:Uh ["_law_script","_law_menu_here","_law_strips_here","_law_wishes_here","_law_village","_law_one","_law_two","_law_spare_here","_law_order","_law_broken","_law_price_here","_law_named"] ["_law_script"] (Ud XJ):=Pu.fs
structure Glob (w:World) (K:Ya) (mg:Ye):Prop where
 ZM:mg "all"=none
 ZQ:mg "bool"=none
 Zs:mg "enumerate"=none
 ZE:mg "int"=none
 Zb:mg "isinstance"=none
 len:mg "len"=none
 Zg:mg "list"=none
 ZR:mg "max"=none
 Zf:mg "range"=none
 ZS:mg "set"=none
 Z0:mg "sorted"=none
 Zn:mg "str"=none
 ZP:mg "tuple"=none
 Zx:∃u,mg "HOLDERS"=some u/\RelV (.int 10) u
 Z1:∃u,mg "STRIPS"=some u/\RelV (.int 40) u
 Z2:∃u,mg "WIDEST"=some u/\RelV (.int 1000) u
 Zl:∃u,mg "MOST_WISHES"=some u/\RelV (.int 20) u
 Zo:∃u,mg "MOST_DEEDS"=some u/\RelV (.int 100) u
 ZL:∃u,mg "FIGURES"=some u/\RelV (.str "0123456789") u
 Z3:∃u,mg "MOST_FIGURES"=some u/\RelV (.int 4) u
 Z7:Own.Fd K w.params mg "DEEDS" [("sell",2),("part",2),("unite",1),("wish",2),("drop",2)]
 ZN:Own.Fd K w.params mg "OTHERS" [("back",0),("field",0),("wishes",0),("stood",1),("ring",0),("order",0),("cost",0),("moves",0),("offer",2)]
 ZO:Own.DZ K mg "ORDERS" ["price","broken"]
 Zh:mg "TooManyStrips"=some (.ref<|ExcR.Ug mg "TooManyStrips")
 Zu:ExcR.UI K (ExcR.Ug mg "TooManyStrips")
 Zm:mg "BadHolder"=some (.ref<|ExcR.Ug mg "BadHolder")
 Z6:ExcR.UI K (ExcR.Ug mg "BadHolder")
 Z8:mg "BadWidth"=some (.ref<|ExcR.Ug mg "BadWidth")
 Z9:ExcR.UI K (ExcR.Ug mg "BadWidth")
 Zt:mg "NoStrip"=some (.ref<|ExcR.Ug mg "NoStrip")
 ZF:ExcR.UI K (ExcR.Ug mg "NoStrip")
 Zp:mg "BadOrder"=some (.ref<|ExcR.Ug mg "BadOrder")
 ZA:ExcR.UI K (ExcR.Ug mg "BadOrder")
 Zq:mg "OwnStrip"=some (.ref<|ExcR.Ug mg "OwnStrip")
 ZC:ExcR.UI K (ExcR.Ug mg "OwnStrip")
 ZG:mg "BadPart"=some (.ref<|ExcR.Ug mg "BadPart")
 ZT:ExcR.UI K (ExcR.Ug mg "BadPart")
 Zv:mg "UnlikeHolders"=some (.ref<|ExcR.Ug mg "UnlikeHolders")
 ZU:ExcR.UI K (ExcR.Ug mg "UnlikeHolders")
 ZH:mg "TooWide"=some (.ref<|ExcR.Ug mg "TooWide")
 ZV:ExcR.UI K (ExcR.Ug mg "TooWide")
 Zj:mg "LikeHolders"=some (.ref<|ExcR.Ug mg "LikeHolders")
 Zy:ExcR.UI K (ExcR.Ug mg "LikeHolders")
 Zk:mg "WishStands"=some (.ref<|ExcR.Ug mg "WishStands")
 Z4:ExcR.UI K (ExcR.Ug mg "WishStands")
 Zi:mg "TooManyWishes"=some (.ref<|ExcR.Ug mg "TooManyWishes")
 Zw:ExcR.UI K (ExcR.Ug mg "TooManyWishes")
 ZJ:mg "NoWish"=some (.ref<|ExcR.Ug mg "NoWish")
 ZW:ExcR.UI K (ExcR.Ug mg "NoWish")
 Zr:mg "BookFull"=some (.ref<|ExcR.Ug mg "BookFull")
 ZD:ExcR.UI K (ExcR.Ug mg "BookFull")
 Zz:mg "NothingDone"=some (.ref<|ExcR.Ug mg "NothingDone")
 ZX:ExcR.UI K (ExcR.Ug mg "NothingDone")
 Z5:mg "NoSuchDeed"=some (.ref<|ExcR.Ug mg "NoSuchDeed")
 ZY:ExcR.UI K (ExcR.Ug mg "NoSuchDeed")
 ZK:mg "Ringed"=some (.ref<|ExcR.Ug mg "Ringed")
 ZZ:PySem.W.exmOne K (.ref<|ExcR.Ug mg "Ringed") (.ref<|ExcR.Ug mg "Ringed")=some true
 ex:Pu.ExOk K mg ["Ringed","BadOrder"] ["TooManyStrips","BadHolder","NoStrip","OwnStrip","BadPart","UnlikeHolders","TooWide","LikeHolders","WishStands","TooManyWishes","NoWish","BookFull","NothingDone","NoSuchDeed","BadOrder","Ringed"]
 ZI:mg "Village"=some (.ref<|ExcR.Ug mg "Village")
 Za:Cls K (ExcR.Ug mg "Village")
 Zc:NoAttr K (ExcR.Ug mg "Village") "book"
 Zd:NoAttr K (ExcR.Ug mg "Village") "fields"
 Ze:NoAttr K (ExcR.Ug mg "Village") "wished"
def BB:Pu.FldAt "book" ["book","fields","wished"] 0:=.of (by decide +kernel) (by decide +kernel) rfl
def M8:Pu.PutAt "book" []:=.of (by decide +kernel)
def Au:Pu.FldAt "fields" ["book","fields","wished"] 1:=.of (by decide +kernel) (by decide +kernel) rfl
def Zc3:Pu.PutAt "fields" ["book"]:=.of (by decide +kernel)
def FP:Pu.FldAt "wished" ["book","fields","wished"] 2:=.of (by decide +kernel) (by decide +kernel) rfl
def MD:Pu.PutAt "wished" ["book","fields"]:=.of (by decide +kernel)
def P9:Pu.NoFld "strips" ["book","fields","wished"]:=.of (by decide +kernel)
def Nw:Pu.NoFld "wishes" ["book","fields","wished"]:=.of (by decide +kernel)
def DQ:Pu.NoFld "check_room" ["book","fields","wished"]:=.of (by decide +kernel)
def EW:Pu.NoFld "enter" ["book","fields","wished"]:=.of (by decide +kernel)
def Mb:Pu.NoFld "sell" ["book","fields","wished"]:=.of (by decide +kernel)
def Zc5:Pu.NoFld "wish" ["book","fields","wished"]:=.of (by decide +kernel)
def A7:Pu.NoFld "price" ["book","fields","wished"]:=.of (by decide +kernel)
def ER:Pu.NoFld "broken" ["book","fields","wished"]:=.of (by decide +kernel)
end T
namespace M
open L2 Own Pu
noncomputable def RK:Pc:=λb R X=>∃h:Int,b=[.int h]/\Xb (KQ h) X (R<|.sh .non)
noncomputable def Bm(h:Int):Option Str:=if 1<=h/\h<=1000 then none else some "BadWidth"
noncomputable def Zbf:Pc:=λb R X=>∃h:Int,b=[.int h]/\Xb (Bm h) X (R<|.sh .non)
noncomputable def G6(_:Ya):Sp:=λg H Q _=>∃(l:Addr) (b:Yb),g=[.ref l]/\LAt Xl H l b/\Field b/\b.length<=50/\
 ∀(q:Addr) (f:Hp),H q=none->Same H f->f q=some (.lst ((U5 b).map V.int))->Q (.ref q) f
noncomputable def FW:Pc:=λf R _=>∃b:Yb,f=[.lst (b.map prD)]/\Field b/\b.length<=50/\R (.own ((U5 b).map D.int))
def Mu{P:Program}{w:World}{K:Ya}{b:Ye}{base:Heap}(C:Callee P w K b base CX0 1 "holders_of" ["strips"] (G6 K)):Callee P w K b base CX0 1 "holders_of" ["strips"] (Uk b FW K):=G8 C λB R X z H Q E r o u A=>by
 obtain⟨g,rfl,x,n,s⟩:=o;obtain⟨v,rfl,f⟩:=r.one_inv;obtain⟨a,rfl,p⟩:=f.pairs_inv;exact⟨a,g,rfl,p,x,n,λq y l S h=>u _ _ y s S (FL l h)⟩
noncomputable def Lg:Pc:=λf R _=>∃(b:Yb) (x y:Int),f=[.lst (b.map prD),.int x,.int y]/\Field b/\R (.sh<|.int<|pcM b x y b.length)
noncomputable def U8(os:Yc)(q:Int×Int):Bool:=decide (q.1∈os)&&decide (q.2∈os.take (os.idxOf q.1))
noncomputable def Ii:Pc:=λf R _=>∃(os:Yc) (b:Yb),f=[.lst (os.map D.int),.lst (b.map prD)]/\os.Nodup/\os.length<=50/\b.length<=50/\R (.own ((b.filter<|U8 os).map prD))
noncomputable def Zbw:Pc:=λf R X=>∃(b:Yb) (p:Int),f=[plD b,.int p]/\Xb (N9 b p) X (R<|.sh .non)
noncomputable def O8(C:Addr):Pc:=λg R _=>∃(bk:List (Str×Yc)) (fs b:List (Yb)) (f:Yb),g=[Xz C bk (fs++[f]) b]/\R (.own<|f.map prD)
noncomputable def Ll(C:Addr):Pc:=λg R _=>∃(bk:List (Str×Yc)) (fs b:List (Yb)) (f:Yb),g=[Xz C bk fs (b++[f])]/\R (.own<|f.map prD)
noncomputable def Nt(bk:List (Str×Yc)):Option Str:=if 100<=bk.length then some "BookFull" else none
noncomputable def Zcx(C:Addr):Pc:=λf R X=>∃(bk:List (Str×Yc)) (fs b:List (Yb)),f=[Xz C bk fs b]/\Xb (Nt bk) X (R<|.sh .non)
noncomputable def HV(C:Addr):Pw:=λo l R _=>∃(x b1 h g:Addr) (bk:List (Str×Yc)) (fs b:List (Yb)) (q:Str×Yc) (f w:Yb),o=vO C x b1 h g bk fs b/\l=[.sh (dD q),.sh (plD f),.sh (plD w)]/\bk.length<=1000/\fs.length<=1000/\b.length<=1000/\
 R (vO C x b1 h g (bk++[q]) (fs++[f]) (b++[w])) (.int (bk.length+1))
noncomputable def IQ:Pc:=λb R _=>∃x:Str,b=[.str x]/\x.length<=sizeLine/\x.cps.all (· < 128)=true/\R (.sh<|.bl<|X1 x)
noncomputable def MX:Pc:=λf R _=>∃b:Yj,f=[.lst (b.map D.str)]/\JoinOk spc b=true/\R (.sh<|.str (if b=[]then "none" else Txt.join spc b))
noncomputable def LK:Pc:=λf R _=>∃(b:Yc) (k:Int),f=[.scr b,.int k]/\0<=k/\∀v:Int,R (.sh<|.int v)
noncomputable def Re:Pc:=λb R _=>∃i:Int,b=[.int i]/\R (.sh<|.bl true)
noncomputable def Ig:Pc:=λb R _=>∃c p:Int,b=[.int c,.int p]/\∀v:Int,R (.sh<|.int v)
noncomputable def Oi:Pc:=λb R _=>∃c:Int,b=[.int c]/\∀m,PR m->R (.own<|m.map D.int)
noncomputable def Zcy:Pc:=λb R _=>∃(m:Yc) (k:Int),b=[.lst (m.map D.int),.int k]/\PR m/\∀h:Int,1<=h->h<=10->h=Su m k->R (.sh<|.int h)
noncomputable def RE:Pc:=λf R _=>∃b:Yb,f=[.lst (b.map prD)]/\b.length<=50/\R (.own ((U5 b).map D.int))
noncomputable def RB:Pc:=λf R _=>∃(b:Yb) (os:Yc),f=[.lst (b.map prD),.lst (os.map D.int)]/\Field b/\b.length<=50/\(∀p∈b,p.1∈os)/\R (.sh<|.int<|XM b os b.length)
noncomputable def Cq(K:Ya):Sp:=λg H Q _=>∃(l:Addr) (b:Yc) (c:Int),g=[.ref l,.int c]/\SqL K H l (b.map V.int)/\b.length<=50/\
 ∀(q:Addr) (f:Hp) (os:Yc),H q=none->Same H f->f q=some (.lst<|os.map V.int)->os.Perm b->Q (.ref q) f
noncomputable def Ax:Pc:=λf R _=>∃(b:Yc) (c:Int),f=[.lst (b.map D.int),.int c]/\b.length<=50/\∀os:Yc,os.Perm b->R (.own<|os.map D.int)
def LI{P:Program}{w:World}{K:Ya}{b:Ye}{base:Heap}(C:Callee P w K b base CX0 1 "_law_shuffled" ["_law_holders","_law_cell"] (Cq K)):Callee P w K b base CX0 1 "_law_shuffled" ["_law_holders","_law_cell"] (Uk b Ax K):=G8 C λJ R X B H Q E r s z G=>by
 obtain⟨o,c,rfl,n,y⟩:=s;obtain⟨v,u,rfl,g,f⟩:=r.two_inv;obtain⟨a,rfl,x⟩:=g.ints_inv;rw[f.int_inv];exact⟨a,o,c,rfl,SqL.of x,n,λq A os l S h p=>z _ _ A (y os p) S (FL l h)⟩
noncomputable def Hk:Pc:=λf R X=>∃b:Yb,f=[plD b]/\b.length<=1000/\Xb (Pd b) X (R<|.sh .non)
noncomputable def Ic:Pc:=λf R X=>∃(b:Yb) (os:Yc),f=[plD b,.lst (os.map D.int)]/\Field b/\b.length<=50/\os.length<64/\Xb (UH b os) X (R<|.sh .non)
noncomputable def Iq:Pc:=λf R X=>∃(b:Yb) (p h:Int),f=[plD b,.int p,.int h]/\b.length<=1000/\Xb (Kj b p h) X (R<|.own (Kb b p h |>.map prD))
noncomputable def Im:Pc:=λg R X=>∃(f:Yb) (a b:Int),g=[plD f,.int a,.int b]/\f.length<=1000/\Xb (XS f a b) X (R<|.own ((f++[(a,b)]).map prD))
noncomputable def IK:Pc:=λb R _=>∃(w:Str) (os:Yc),b=[.str w,.lst (os.map λn=>D.str (nS n))]/\(w=("price" : Str)\/w=("broken" : Str))/\(∀n∈os,0<=n/\n<=9999)/\os.length<=100/\R (.sh<|.bl true)
noncomputable def wS(q:Int×Int):Str:=nS q.1++">"++nS q.2
noncomputable def X9(b:Yb):Str:=if b=[]then "none" else Txt.join spc (b.map wS)
noncomputable def Me:Pc:=λf R _=>∃b:Yb,f=[.lst (b.map prD)]/\b.length<=50/\(∀q∈b,(0<=q.1/\q.1<=10)/\(0<=q.2/\q.2<=10))/\R (.sh<|.str<|X9 b)
noncomputable def Zcu:Pc:=λf R _=>∃(b:Yc) (k:Int),f=[.scr b,.int k]/\0<=k/\∀v:Int,R (.sh<|.int v)
noncomputable def L4:Pc:=λf R _=>∃b:Yc,f=[.scr b]/\∀v:Int,R (.sh<|.int v)
noncomputable def Oo:Pc:=λb R _=>∃xs:Yc,(b=[.lst (xs.map D.int),.lst (xs.map D.int)]\/b=[.fL xs,.lst (xs.map D.int)])/\xs.length<=1000000/\R (.sh<|.bl true)
noncomputable def RM:Pc:=λf R _=>∃b:Yb,f=[.lst (b.map prD),.lst (b.map prD)]/\b.length<=1000000/\R (.sh<|.bl true)
noncomputable def LG:Pc:=λf R X=>∃(b:Yb) (os:Yc),f=[plD b,.lst (os.map D.int)]/\Field b/\b.length<=50/\os.length<64/\Xb (UH b os) X (R<|.sh<|.int<|Ur b b.length os)
noncomputable def Lb(C:Addr):Pw:=λo f R X=>∃(x:Addr) (b:Yb),o=.ins x C [] []/\f=[.sh (plD b)]/\b.length<=1000/\Xb (Pd b) (X<|.ins x C [] []) (∀b1 h g,R (vO C x b1 h g [] [b] [[]]) .non)
noncomputable def Se(bk:List (Str×Yc))(f:Yb)(p h:Int):Option Str:=if 100<=bk.length then some "BookFull" else Kj f p h
noncomputable def IF(C:Addr):Pw:=λo n R X=>∃(x b1 l g:Addr) (bk:List (Str×Yc)) (fs b:List (Yb)) (f w:Yb) (p h:Int),o=vO C x b1 l g bk (fs++[f]) (b++[w])/\n=[.sh (.int p),.sh (.int h)]/\bk.length<=1000/\fs.length<=900/\b.length<=900/\f.length<=1000/\
 Xb (Se bk f p h) (X<|vO C x b1 l g bk (fs++[f]) (b++[w])) (R (vO C x b1 l g (bk++[(("sell" : Str),[p,h])]) (fs++[f]++[Kb f p h]) (b++[w]++[w]))<|.int (bk.length+1))
noncomputable def NZ(bk:List (Str×Yc))(w:Yb)(a b:Int):Option Str:=if 100<=bk.length then some "BookFull" else XS w a b
noncomputable def L6(C:Addr):Pw:=λo n R X=>∃(x b1 l g:Addr) (bk:List (Str×Yc)) (fs b:List (Yb)) (f w:Yb) (p h:Int),o=vO C x b1 l g bk (fs++[f]) (b++[w])/\n=[.sh (.int p),.sh (.int h)]/\bk.length<=1000/\fs.length<=900/\b.length<=900/\w.length<=1000/\
 Xb (NZ bk w p h) (X<|vO C x b1 l g bk (fs++[f]) (b++[w])) (R (vO C x b1 l g (bk++[(("wish" : Str),[p,h])]) (fs++[f]++[f]) (b++[w]++[w++[(p,h)]]))<|.int (bk.length+1))
noncomputable def M3(C:Addr):Pc:=λg R X=>∃(bk:List (Str×Yc)) (fs b:List (Yb)) (f w:Yb) (os:Yc),g=[Xz C bk (fs++[f]) (b++[w]),.lst (os.map D.int)]/\Field f/\f.length<=50/\os.length<64/\w.length<=50/\Xb (UH f os) X (R<|.own ((w.filter<|U8 os).map prD))
noncomputable def Zbb:Pc:=λg R _=>∃(f m:Yc) (n:Int),g=[.scr f,.lst (m.map D.int),.int n]/\PR m/\0<=n/\n<=1000/\∀b:Yb,Field b->b.length=n.toNat->R (.own<|b.map prD)
noncomputable def MU:Pc:=λg R _=>∃(f m:Yc),g=[.scr f,.lst (m.map D.int)]/\PR m/\∀b,X2 b->R (.own<|b.map prD)
noncomputable def Zb8(C:Addr):Pc:=λg R X=>∃(bk:List (Str×Yc)) (fs b:List (Yb)) (f:Yb) (os:Yc),g=[Xz C bk (fs++[f]) b,.lst (os.map D.int)]/\Field f/\f.length<=50/\os.length<64/\Xb (UH f os) X (R<|.sh<|.int<|Ur f f.length os)
noncomputable def LD(C:Addr):Pw:=λo r R _=>∃(x b1 q p:Addr) (bk:List (Str×Yc)) (fs n:List (Yb)) (f w:Yb) (c:Int),o=vO C x b1 q p bk (fs++[f]) (n++[w])/\r=[.sh (plD f),.sh (.int c)]/\bk.length<=90/\fs.length<=90/\n.length<=90/\Field f/\f.length<=40/\∀(l:List (Str×Yc)) (h g:List (Yb)) (b:Yb),Field b->b.length<=40->R (vO C x b1 q p l (h++[b]) (g++[w])) (plD b)
theorem Cy(ps:Yb):∀o:Yc,oc (pcc ps) o=Ur ps ps.length o
 |[]=>rfl
 |a::r=>by
  unfold oc Ur;rw[Cy ps r];rfl
def FC{f:Yb}{os:Yc}(h:Field f)(b:f.length<=40)(g:os.length<=10):0<=Ur f f.length os/\Ur f f.length os<=160000000000:=by
 have:=Dz (c:=pcc f) (λx y=>by have:=F0 h b x y f.length (Wk _);unfold pcc;lia) os g
 rw[Cy]at this;lia
def PV{i:Int}(h:0<=i/\i<=160000000000):i.natAbs.log2<1920:=by
 by_cases z:i.natAbs=0
 ·rw[z];decide
 ·exact Wv ((Nat.log2_lt z).mpr (QN (show i.natAbs<=160000000000 by lia)<|show 160000000000<2 ^ 40 by decide)) (by decide)
def RT{f:Yb}{os:Yc}(e:UH f os=none):os.Perm (U5 f):=by
 unfold UH at e;split at e
 ·rename_i h;exact Vq.mp h
 ·cases e
noncomputable def PD(f w:Yb)(os:Yc)(word:Str):Str:=if word=("price" : Str)then nS (Ur f f.length os)else X9 (w.filter<|U8 os)
noncomputable def La(C:Addr):Pc:=λg R X=>∃(bk:List (Str×Yc)) (fs b:List (Yb)) (f w:Yb) (os:Yc) (word:Str),g=[Xz C bk (fs++[f]) (b++[w]),.str word,.lst (os.map D.int)]/\(word=("price" : Str)\/word=("broken" : Str))/\Field f/\f.length<=40/\os.length<64/\X2 w/\Xb (UH f os) X (R<|.sh<|.str<|PD f w os word)
noncomputable def Mr(C:Addr):Pc:=λg R X=>∃(bk:List (Str×Yc)) (fs b:List (Yb)) (f w:Yb) (os:Yc) (word:Str),g=[Xz C bk (fs++[f]) (b++[w]),.str word,.lst (os.map D.int)]/\(word=("price" : Str)\/word=("broken" : Str))/\Field f/\f.length<=40/\os.length<64/\X2 w/\Xb (UH f os) X (R<|.sh<|.str<|PD f w os word)
noncomputable def KG(f w:Yb)(os:Yc)(word:Str):Str:=if UH f os=none then PD f w os word else "refused: order"
noncomputable def Zaf(C:Addr):Pc:=λg R _=>∃(bk:List (Str×Yc)) (fs b:List (Yb)) (f w:Yb) (os:Yc) (word:Str),g=[Xz C bk (fs++[f]) (b++[w]),.str word,.lst (os.map D.int)]/\(word=("price" : Str)\/word=("broken" : Str))/\Field f/\f.length<=40/\os.length<64/\X2 w/\R (.sh<|.str<|KG f w os word)
noncomputable def Lc(C:Addr):Pc:=λg R _=>∃(bk:List (Str×Yc)) (fs b:List (Yb)) (f w:Yb) (os:Yc) (word:Str),g=[Xz C bk (fs++[f]) (b++[w]),.str (Str.join spc (word::os.map nS))]/\(word=("price" : Str)\/word=("broken" : Str))/\Field f/\f.length<=40/\os.length<64/\(∀n∈os,0<=n/\n<=9999)/\X2 w/\R (.sh<|.str<|KG f w os word)
def MN(x:Str)(r:Yj):(Str.join ⟨#[]⟩ (x::r)).cps.toList=x.cps.toList++(Str.join ⟨#[]⟩ r).cps.toList:=by
 cases r with
 |nil=>exact(W2 _).symm
 |cons y r=>
  show(x++⟨#[]⟩++Str.join ⟨#[]⟩ (y::r)).cps.toList=_;rw[KF,KF];exact WA (·++_) (W2 _)
theorem Ah:∀(os:Yc) (word:Str),word.cps.toList++(Str.join ⟨#[]⟩ (os.map λn=>spc++nS n)).cps.toList=(Str.join spc (word::os.map nS)).cps.toList
 |[],word=>W2 _
 |n::r,word=>by
  rw[W7,W7,MN,KF];show _=(Str.join ⟨#[32]⟩ (word::nS n::r.map nS)).cps.toList;rw[PQ];have b:=Ah r (nS n);show _=_++32::(Str.join spc (nS n::r.map nS)).cps.toList;rw[←b];simp[spc]
def Za3(word:Str)(os:Yc):word++Txt.join ("" : Str) (os.map λn=>(" " : Str)++nS n)=Str.join spc (word::os.map nS):=by
 rw[show(" " : Str)=spc by decide +kernel,show("" : Str)=⟨#[]⟩ by decide +kernel];rw[show Txt.join ⟨#[]⟩ (os.map λn=>spc++nS n)=Str.join ⟨#[]⟩ (os.map λn=>spc++nS n)from StrLaws.glued_eq_join _ _]
 exact TR (by rw[KF];exact Ah os word)
def E1:Txt.mul ("none" : Str) 1 = "none"/\Txt.mul ("none" : Str) 0=Str.empty:=⟨by decide +kernel,by decide +kernel⟩
def L3(b:Yb):Txt.join (" " : Str) (b.map wS)++Txt.mul ("none" : Str) (if ((b.map wS).map D.str).isEmpty=true then 1 else 0)=X9 b:=by
 unfold X9;cases b with
 |nil=>
  rw[Wj rfl];show Txt.join (" " : Str) []++Txt.mul ("none" : Str) 1=_;rw[E1.1];decide +kernel
 |cons q r=>
  rw[Wf (by simp),show(" " : Str)=spc by decide +kernel];show _++Txt.mul ("none" : Str) 0=_;rw[E1.2];exact TR (by rw[KF];exact W2 _)
noncomputable def L0(C:Addr):Pc:=λg R _=>∃(bk:List (Str×Yc)) (fs b:List (Yb)) (f w:Yb) (os:Yc),g=[Xz C bk (fs++[f]) (b++[w]),.lst (os.map D.int),.int (Ur f f.length os),.lst ((w.filter<|U8 os).map prD)]/\Field f/\f.length<=40/\os.Perm (U5 f)/\X2 w/\R (.sh<|.bl true)
structure Fv (P:Program) (w:World) (K:Ya) (mg:Ye) (base:Heap):Type
variable {P:Program}{w:World}{K:Ya}{mg:Ye}{base:Heap}
abbrev Cal(_:Fv P w K mg base):=Callee P w K mg base
abbrev Cam(_:Fv P w K mg base):=X0 P w K mg base
abbrev Cxe(_:Fv P w K mg base):=ExcR.CXe P w
abbrev Up(_:Fv P w K mg base):=ExcR.Ug mg "Village"
variable (ζ:Fv P w K mg base)
abbrev GG:Prop:=Cal ζ (Cxe ζ) 1 "check_holder" ["holder"] (Uk mg RK K)
abbrev GH:Prop:=Cal ζ (Cxe ζ) 1 "check_width" ["width"] (Uk mg Zbf K)
abbrev Ri:Prop:=Cal ζ CX0 1 "holders_of" ["strips"] (Uk mg FW K)
abbrev Cj:Prop:=Cal ζ CX0 1 "pair_cost" ["strips","ahead","behind"] (Uk mg Lg K)
abbrev FQ:Prop:=Cal ζ CX0 1 "broken_wishes" ["order","wishes"] (Uk mg Ii K)
abbrev Gv:Prop:=Cal ζ (Cxe ζ) 1 "check_place" ["strips","place"] (Uk mg Zbw K)
abbrev DK:Prop:=Cam ζ CX0 1 (U6 K (Up ζ) "strips") ["self"] (Uk mg (O8<|Up ζ) K)
abbrev EU:Prop:=Cam ζ CX0 1 (U6 K (Up ζ) "wishes") ["self"] (Uk mg (Ll<|Up ζ) K)
abbrev Al:Prop:=Cam ζ (Cxe ζ) 1 (U6 K (Up ζ) "check_room") ["self"] (Uk mg (Zcx<|Up ζ) K)
abbrev Fw:Prop:=Cam ζ CX0 1 (U6 K (Up ζ) "enter") ["self","deed","field","wishes"] (Pu.spW mg (HV<|Up ζ) K)
abbrev EH:Prop:=Cal ζ CX0 1 "is_number" ["text"] (Uk mg IQ K)
abbrev Er:Prop:=Cal ζ CX0 1 "told_texts" ["texts"] (Uk mg MX K)
abbrev FR:Prop:=Cal ζ CX0 1 "_law_at" ["_law_script","_law_k"] (Uk mg LK K)
abbrev Cp:Prop:=Cal ζ CX0 1 "_law_whole" ["_law_found"] (Uk mg Re K)
abbrev FE:Prop:=Cal ζ CX0 1 "_law_mix" ["_law_cell","_law_place"] (Uk mg Ig K)
abbrev G9:Prop:=Cal ζ CX0 1 "_law_menu" ["_law_cell"] (Uk mg Oi K)
abbrev Gz:Prop:=Cal ζ CX0 1 "_law_holder" ["_law_menu_here","_law_k"] (Uk mg Zcy K)
abbrev DJ:Prop:=Cal ζ CX0 1 "_law_present" ["_law_strips_here"] (Uk mg RE K)
abbrev DG:Prop:=Cal ζ CX0 1 "_law_price" ["_law_strips_here","_law_order"] (Uk mg RB K)
abbrev Rv:Prop:=Cal ζ CX0 1 "_law_shuffled" ["_law_holders","_law_cell"] (Uk mg Ax K)
abbrev DO:Prop:=Cal ζ (Cxe ζ) 2 "check_strips" ["strips"] (Uk mg Hk K)
abbrev G5:Prop:=Cal ζ (Cxe ζ) 2 "check_order" ["strips","order"] (Uk mg Ic K)
abbrev Cn:Prop:=Cal ζ (Cxe ζ) 2 "sold" ["strips","place","holder"] (Uk mg Iq K)
abbrev AQ:Prop:=Cal ζ (Cxe ζ) 2 "with_wish" ["wishes","ahead","behind"] (Uk mg Im K)
abbrev Ef:Prop:=Cal ζ CX0 2 "is_row" ["word","texts"] (Uk mg IK K)
abbrev Dy:Prop:=Cal ζ CX0 2 "told_wishes" ["wishes"] (Uk mg Me K)
abbrev A5:Prop:=Cal ζ CX0 2 "_law_draw" ["_law_script","_law_k"] (Uk mg Zcu K)
abbrev Gi:Prop:=Cal ζ CX0 2 "_law_spare" ["_law_script"] (Uk mg L4 K)
abbrev DH:Prop:=Cal ζ CX0 2 "_law_row" ["_law_found","_law_due"] (Uk mg Oo K)
abbrev Gy:Prop:=Cal ζ CX0 2 "_law_tuples" ["_law_found","_law_due"] (Uk mg RM K)
abbrev Dd:Prop:=Cal ζ (Cxe ζ) 3 "order_cost" ["strips","order"] (Uk mg LG K)
abbrev F4:Prop:=Cam ζ (Cxe ζ) 3 (Mk K<|Up ζ) ["self","strips"] (Pu.spW mg (Lb<|Up ζ) K)
abbrev DT:Prop:=Cam ζ (Cxe ζ) 3 (U6 K (Up ζ) "sell") ["self","place","holder"] (Pu.spW mg (IF<|Up ζ) K)
abbrev F5:Prop:=Cam ζ (Cxe ζ) 3 (U6 K (Up ζ) "wish") ["self","ahead","behind"] (Pu.spW mg (L6<|Up ζ) K)
abbrev AA:Prop:=Cam ζ (Cxe ζ) 3 (U6 K (Up ζ) "broken") ["self","order"] (Uk mg (M3<|Up ζ) K)
abbrev D7:Prop:=Cal ζ CX0 3 "_law_strips" ["_law_script","_law_menu_here","_law_many"] (Uk mg Zbb K)
abbrev F2:Prop:=Cal ζ CX0 3 "_law_wishes" ["_law_script","_law_menu_here"] (Uk mg MU K)
abbrev GC:Prop:=Cam ζ (Cxe ζ) 4 (U6 K (Up ζ) "price") ["self","order"] (Uk mg (Zb8<|Up ζ) K)
abbrev D8:Prop:=Cal ζ CX0 4 "_law_sold" ["_law_village","_law_strips_here","_law_cell"] (Pu.spW mg (LD<|Up ζ) K)
abbrev D6:Prop:=Cal ζ (Cxe ζ) 5 "told_question" ["village","word","numbers"] (Uk mg (La<|Up ζ) K)
abbrev EN:Prop:=Cal ζ (Cxe ζ) 6 "told_row" ["village","word","numbers"] (Uk mg (Mr<|Up ζ) K)
abbrev EK:Prop:=Cal ζ CX0 7 "told_or_refused" ["village","word","numbers"] (Uk mg (Zaf<|Up ζ) K)
abbrev FK:Prop:=Cal ζ CX0 8 "answer" ["village","row"] (Uk mg (Lc<|Up ζ) K)
abbrev EF:Prop:=Cal ζ CX0 9 "_law_in_words" ["_law_village","_law_order","_law_price_here","_law_broken"] (Uk mg (L0<|Up ζ) K)
abbrev Ov:Prop:=Cal ζ CX0 10 "law" ["_law_script"] (Uk mg DX K)
end M
namespace M
open L2 Own Pu
def TN{os:Yc}(b:os.Nodup){j:Nat}(f:j<os.length):os.idxOf os[j]=j:=b.idxOf_getElem j f
def AB{os:Yc}{j:Nat}{z:Int}(b:j<os.length):z∈os.take (j+1)↔z∈os.take j\/z=os[j]:=by
 rw[WO b,WZ,Wg]
def ME{os:Yc}(b:os.Nodup){x:Int}{j:Nat}(hx:x∈os):x∈os.take j↔os.idxOf x<j:=by
 obtain⟨k,f,rfl⟩:=WQ.mp hx;rw[TN b f];constructor
 ·intro h;obtain⟨m,g,e⟩:=WQ.mp h;rw[WN]at g;rw[Q6]at e;have a1:=TN b (j:=m) (by lia);rw[e,TN b f]at a1;lia
 ·intro h;exact WQ.mpr ⟨k,by rw[WN];lia,by rw[Q6]⟩
def MR{os:Yc}(g:os.Nodup)(q:Int×Int):U8 os q=(decide (q.1∈os)&&decide (q.2∈os)&&decide (os.idxOf q.2<os.idxOf q.1)):=by
 unfold U8;by_cases f:q.1∈os
 ·by_cases b:q.2∈os
  ·simp only[f,b,decide_true,QH,ME g b]
  ·have:¬q.2∈os.take (os.idxOf q.1):=λz=>b (List.mem_of_mem_take z)
   simp[f,b,this]
 ·simp[f]
def NM{os:Yc}(b:os.Nodup){j:Nat}(f:j<os.length):os.idxOf os[j]=j:=b.idxOf_getElem j f
def Rt{os:Yc}(b:os.Nodup){x:Int}{j:Nat}(hx:x∈os):x∈os.take j↔os.idxOf x<j:=by
 obtain⟨k,f,rfl⟩:=WQ.mp hx;rw[NM b f];constructor
 ·intro h;obtain⟨m,g,e⟩:=WQ.mp h;rw[WN]at g;rw[Q6]at e;have a1:=NM b (j:=m) (by lia);rw[e,NM b f]at a1;lia
 ·intro h;exact WQ.mpr ⟨k,by rw[WN];lia,by rw[Q6]⟩
def Ir{os:Yc}(g:os.Nodup)(q:Int×Int):U8 os q=(decide (q.1∈os)&&decide (q.2∈os)&&decide (os.idxOf q.2<os.idxOf q.1)):=by
 unfold U8;by_cases f:q.1∈os
 ·by_cases b:q.2∈os
  ·simp only[f,b,decide_true,QH,Rt g b]
  ·have:¬q.2∈os.take (os.idxOf q.1):=λz=>b (List.mem_of_mem_take z)
   simp[f,b,this]
 ·simp[f]
end M
namespace T
open L2 Own M
section
variable {P:Program}{w:World}{K:Ya}{mg:Ye}{base:Heap}
def O4(G:Glob w K mg)(D:Def K mg "holders_of" BZ ["strips"])
  : Callee P w K mg base CX0 1 "holders_of" ["strips"] (G6 K):=by
 refine D.ok (k:=0) Zc0 (λp H Q E h=>?_) (λf cdv A outer s H p Q E hr h=>?_)
 ·obtain⟨l,b,rfl,⟨p,v,u⟩,J,C,q⟩:=h;rfl
 ·obtain⟨l,b,rfl,⟨p,v,u⟩,J,C,q⟩:=h;refine⟨_,(UE<|U3<|Xe (EV rfl) (by rfl) G.Z0 boot_sorted<|Xd (Xn (Iy rfl) (by rfl) G.ZS boot_set<|Xd (BJ (N':=["holder","width"]) (φ:=[none,none]) rfl (Pg.of<|by rfl) (D3<|pv 0) (λ_ _ _ _ _=>⟨(Ap (K:=K) (n:=2) rfl<|NC (NB (i:=0) (show(["holder","width"]:Yj).Nodup from by decide +kernel) rfl (by first|exact Or.inl rfl|exact Or.inr rfl))<|NC (NB (i:=1) (show(["holder","width"]:Yj).Nodup from by decide +kernel) rfl (by first|exact Or.inl rfl|exact Or.inr rfl)) Dl),PU,(pv 0)⟩)) UO) UO),?_⟩
  have e1:=u.1;refine⟨_,rfl,l,rfl,⟨_,SqL.of v⟩,λD z=>Zbu (ds:=b) (λd=>some (V.int d.1)) (SqL.of v) e1 z (Wt C<|by decide) (λi x d H2 hx Y S k U=>?_) ?_⟩
  ·obtain⟨d',g,a,rfl,ha⟩:=u.get hx;rw[Y]at g;cases g
   exact⟨a,_,rfl,SqT.of (S _ _ ha),rfl,_,_,rfl,_,_,rfl,rfl,.skip (.skip .refl),_,rfl,U⟩
  ·have em:b.filterMap (λd=>some (V.int d.1))=(b.map (·.1)).map V.int:=by
    rw[WS,WR];rfl
   rw[em];have S1:Same H (upd H D<|.lst ((b.map (·.1)).map V.int)):=US z;refine⟨D,b.map (·.1),rfl,SqL.of Ut,by rw[Wc];lia,λy M=>?_⟩;have L:=Own.Same.new (o:=Kt w y ((b.map (·.1)).foldl SetR.UD [])) S1 M;refine⟨y,_,rfl,?_,.inr Ut,λr ns B T N=>?_⟩
   ·have:=DV (b.map (·.1)) []
    rw[Wc]at this;simp at this ⊢;lia
   ·rw[Zbq J T N];exact q r _ (L.free B) (Own.Same.new L B) Ut
def MB(G:Glob w K mg)(D:Def K mg "_law_shuffled" Sj ["_law_holders","_law_cell"])
  : Callee P w K mg base CX0 1 "_law_shuffled" ["_law_holders","_law_cell"] (Cq K):=by
 refine D.ok (k:=0) Pz (λvs H Q E h=>?_) (λf cdv A outer s H vs Q E hr h=>?_)
 ·obtain⟨l,B,c,rfl,hl,hz,q⟩:=h;rfl
 ·obtain⟨l,B,c,rfl,hl,hz,q⟩:=h
  refine⟨_,(Kr (Pu.pz 2 Pz.nd<|Xn Gw (by rfl) G.Zg boot_list<|Xd (pv 0) UO)
   (Kr (Pu.pz 3 Pz.nd<|X4 UO)
   (Kr (Pu.pz 4 Pz.nd<|pv 1)
   (Kr (My WG (KH (Ci hr.units0) (pv 2) (X4 UO)<|KB _)
   (Kr (X6<|Pq WD Qf Qg KP (pv 3)<|Xd (TB BV (pv 2) (Xm U7 (pv 4)<|Xe BF (by rfl) G.len PySem.boot_len<|Xd (pv 2) UO) (λ_ _=>rfl)) UO)
   (Kr (Pu.pz 4 Pz.nd<|Xm Xr (pv 4)<|Xe BF (by rfl) G.len PySem.boot_len<|Xd (pv 2) UO)
   (UE<|X6<|Pq WD PySem.F.slot_list_remove PySem.F.type_list_remove Hx (pv 2)<|Xd (TB BV (pv 3) (BI Bq Xk) (λ_ _=>rfl)) UO))))
   (UE<|U3<|pv 3))))),?_⟩
  refine⟨_,rfl,_,_,rfl,.inl hl,λL nL=>⟨by decide,λO nO=>⟨_,rfl,?_⟩⟩⟩;have S1:=US (o:=.lst (B.map V.int)) nL;have S2:=Own.Same.new (o:=.lst []) S1 nO;have v:L≠O:=λz=>by rw[←z,Ut]at nO;cases nO
  have M:=S1.free nO;refine⟨λm σ y=>∃(xs os:Yc) (g:Int),m=xs.length/\σ=[some (.ref l),some (.int c),some (.ref L),some (.ref O),some (.int g)]/\y L=some (.lst<|xs.map V.int)/\y O=some (.lst<|os.map V.int)/\(os++xs).Perm B/\Same H y,⟨B.length,B,[],c,rfl,rfl,by rw[Uj v,Ut],Ut,List.Perm.refl _,S2⟩,?_⟩;rintro m σ y ⟨xs,os,g,rfl,rfl,hL,hO,hp,S⟩;refine⟨_,rfl,by decide,λe ne=>⟨L,e,_,_,rfl,rfl,SqL.of (by rw[Uj (UC hL ne)];exact hL),SqL.of Ut,Kg xs,Kg [],_,rfl,?_⟩⟩;show if (!eqL (xs.map V.int) (([]:Yc).map V.int))=true then _ else _;rw[NO];have S3:=Own.Same.new (o:=.lst []) S ne;have r:(upd y e<|.lst []) L=some (.lst<|xs.map V.int):=by rw[Uj (UC hL ne)];exact hL
  have n:(upd y e<|.lst []) O=some (.lst<|os.map V.int):=by rw[Uj (UC hO ne)];exact hO
  generalize upd y e (.lst [])=Y at S3 r n;have T:=hp.length_eq;rw[Wx]at T;by_cases hx:xs=[]
  ·rw[Wh hx];subst hx;refine U4 ⟨_,rfl,q O Y os M S3 n ?_⟩;simpa using hp
  ·rw[Ws hx];have hpos:0<xs.length:=List.length_pos_iff.mpr hx;refine Pp ⟨λC H'=>∃m',m'<xs.length/\∃(u J:Yc) (g:Int),m'=u.length/\C=[some (.ref l),some (.int c),some (.ref L),some (.ref O),some (.int g)]/\H' L=some (.lst<|u.map V.int)/\H' O=some (.lst<|J.map V.int)/\(J++u).Perm B/\Same H H',λC H' z=>z,?_⟩;have hi1:=QK g (show(xs.length:Int)≠0 by omega);have hi2:=Q3 g (show(0:Int)<xs.length by omega);have hk:(g % (xs.length:Int)).toNat<xs.length:=by omega
   have ai:atI (xs.map V.int) (g % (xs.length:Int))=some (.int xs[(g % (xs.length:Int)).toNat]):=Kn (Nf hi1<|Wb hk);generalize hz0:xs[(g % (xs.length:Int)).toNat]=z at ai;have N:z∈xs:=by rw[←hz0];exact W9 hk
   refine⟨_,rfl,.inl ⟨rfl,_,SqL.of n⟩,_,rfl,_,rfl,_,rfl,_,_,rfl,.inl ⟨_,SqL.of r,rfl⟩,_,_,rfl,rfl,(by show(0:Int)<_;rw[Wc];omega),.inl ⟨L,xs.map V.int,g % ((xs.map V.int).length:Int),.int z,rfl,rfl,SqL.of r,by rw[Wc];exact ai,O,_,_,rfl,rfl,n,Dc (by rw[Wc];omega),?_⟩⟩;have x:(upd Y O<|.lst (os.map V.int++[.int z])) O=some (.lst ((os++[z]).map V.int)):=by rw[Ut,WC];rfl
   have p:(upd Y O<|.lst (os.map V.int++[.int z])) L=some (.lst<|xs.map V.int):=by rw[Uj v];exact r
   have S4:Same H (upd Y O<|.lst (os.map V.int++[.int z])):=λb o U=>by rw[Uj (UC U M)];exact S3 b o U
   generalize upd Y O (.lst (os.map V.int++[.int z]))=H4 at S4 p x;refine⟨_,rfl,_,rfl,_,_,rfl,.inl ⟨_,SqL.of p,rfl⟩,_,_,rfl,rfl,⟨by rw[Wc];omega,by rw[Wc];omega⟩,?_⟩;have al:atI ((os++[z]).map V.int) (-1)=some (.int z):=by rw[WC];exact MF _ _
   refine⟨_,rfl,.inl ⟨rfl,_,SqL.of p⟩,_,rfl,_,rfl,.inl ⟨O,_,_,_,rfl,rfl,SqL.of x,al,L,xs,z,rfl,rfl,p,N,?_⟩⟩;have hj:xs.idxOf z<xs.length:=QR.mpr N;have e1:(xs.eraseIdx<|xs.idxOf z).length<xs.length:=by rw[List.length_eraseIdx_of_lt hj];omega
   refine⟨_,e1,xs.eraseIdx (xs.idxOf z),os++[z],_,rfl,rfl,Ut,by rw[Uj v.symm];exact x,?_,λb o U=>by rw[Uj (UC U nL)];exact S4 b o U⟩;have pe:=SetR.Nx xs (xs.idxOf z) hj;have ez:xs[xs.idxOf z]=z:=Vw hj;rw[ez]at pe;rw[QY];exact(pe.append_left os).trans hp
end
open Pu
section
variable {P:Program}{w:World}{K:Ya}{mg:Ye}{base:Heap} (ζ:Fv P w K mg base)
variable (G:Glob w K mg) (Yu:GG ζ) (Y7:GH ζ) (Y8:Ri ζ) (Y9:Cj ζ) (YA:FQ ζ) (YB:Gv ζ) (Ys:DK ζ) (Yv:EU ζ) (Yz:Al ζ) (Y0:Fw ζ) (YC:EH ζ) (YD:Er ζ) (Yr:FR ζ) (Y1:Cp ζ) (Y2:FE ζ) (YE:G9 ζ) (Yw:Gz ζ) (YF:DJ ζ) (YG:DG ζ) (YH:Rv ζ) (YI:DO ζ) (Y3:G5 ζ) (YJ:Cn ζ) (YK:AQ ζ) (YL:Ef ζ) (YM:Dy ζ) (Yt:A5 ζ) (YN:Gi ζ) (Yx:DH ζ) (Yy:Gy ζ) (YO:Dd ζ) (YQ:F4 ζ) (YR:DT ζ) (YS:F5 ζ) (Y4:AA ζ) (YT:D7 ζ) (YU:F2 ζ) (Y5:GC ζ) (YV:D8 ζ) (YW:D6 ζ) (YX:EN ζ) (YY:EK ζ) (Y6:FK ζ) (YZ:EF ζ)
def Zar(o:Def K mg "check_holder" Sg ["holder"])
  : GG ζ:=by
 refine o.fy IV (λp n=>(b1<|sI (tp<|wo (tc Pr Pj (xv 0) xi)<|wO<|tc XQ XO (xv 0)<|xe (ExcR.Xy G.Zx) U2) (b1<|sQ G.Z6 G.Zm ExcR.XH<|a1<|xe (ExcR.KW<|ExcR.XU<|ExcR.KA (ExcR.Xy G.Zx) ExcR.KM)<|KU<|XT<|Ky U2 KY) b0)) (.a ?_)
 ·rintro r R X ⟨h,rfl,b⟩;refine⟨rfl,?_⟩;unfold KQ at b;refine Uq (λg=>Pp ?_) (λg=>?_)
  ·rw[Wf (by have:=Wm g;lia)]at b;exact⟨by decide,by decide,by decide,by decide,by simp,b⟩
  ·have q:¬h<1:=λz=>g (Wh z);refine Uq (λf=>?_) (λf=>?_)
   ·rw[Wf (by have:=Wm f;lia)]at b;exact⟨by decide,by decide,by decide,by decide,by simp,b⟩
   ·have l:¬10<h:=λz=>f (Wh z);rw[Wj (by lia)]at b;exact b
def Za6(o:Def K mg "check_width" N8 ["width"])
  : GH ζ:=by
 refine o.fy ML (λp n=>(b1<|sI (tp<|wo (tc Pr Pj (xv 0) xi)<|wO<|tc XQ XO (xv 0)<|xe (ExcR.Xy G.Z2) U2) (b1<|sQ G.Z9 G.Z8 ExcR.XH<|a1<|xe (ExcR.KW<|ExcR.XU<|ExcR.KA (ExcR.Xy G.Z2) ExcR.KM)<|KU<|XT<|Ky U2 KY) b0)) (.a ?_)
 ·rintro r R X ⟨h,rfl,b⟩;refine⟨rfl,?_⟩;unfold Bm at b;refine Uq (λg=>Pp ?_) (λg=>?_)
  ·rw[Wf (by have:=Wm g;lia)]at b;exact⟨by decide,by decide,by decide,by decide,by simp,b⟩
  ·have q:¬h<1:=λz=>g (Wh z);refine Uq (λf=>?_) (λf=>?_)
   ·rw[Wf (by have:=Wm f;lia)]at b;exact⟨by decide,by decide,by decide,by decide,by simp,b⟩
   ·have l:¬1000<h:=λz=>f (Wh z);rw[Wj (by lia)]at b;exact b
def Za9(E:Def K mg "pair_cost" SJ ["strips","ahead","behind"])
  : Cj ζ:=by
 refine E.fz LZ (λr n=>(bc (sS 3 n xi)<|bc (sS 4 n xi)<|bc (sF 0<|sO [5,6] WG (iL<|xv 0) (gT 2<|gc (gN 5)<|gc (gN 6) g0)<|b1<|sI (tq r (xv 5)<|xv 2) (b1<|sU 3 n BD<|xv 6)<|b1<|sI (tq r (xv 5)<|xv 1) (b1<|sU 4 n BD<|xo KJ Kv (xv 3)<|xv 6) b0)<|b1<|sV 4)) (.a ?_)
 ·rintro H R X ⟨b,x,y,rfl,A,v⟩;refine⟨rfl,rfl,Tt (xs:=b) (emb:=prD) (λi f=>f=[some (.bor<|.lst<|b.map prD),some (.sh<|.int x),some (.sh<|.int y),some (.sh<|.int<|tpM b y i),some (.sh<|.int<|pcM b x y i),none,none]) rfl ?_ ?_⟩
  ·rintro i u f rfl;have s:b.getD i (0,0)=b[i]:=by rw[Wl,Wb u];rfl
   have hw:=A _ (W9 u);have C:tpM b y (i+1)=tpM b y i+(if b[i].1=y then b[i].2 else 0):=by simp only[tpM];rw[s]
   have B:pcM b x y (i+1)=pcM b x y i+(if x≠y/\b[i].1=x then tpM b y i*b[i].2 else 0):=by simp only[pcM];rw[s]
   rw[C,B];generalize b[i]=p at hw;refine⟨rfl,Uq (λg=>?_) (λg=>Uq (λo=>?_) (λo=>?_))⟩
   ·have e:p.1=y:=Wm g;rw[Wj e,Wf (by rintro⟨q,l⟩;exact q (l.symm.trans e)),QS];rfl
   ·have e:¬p.1=y:=λz=>g (Wh z);have h:p.1=x:=Wm o;rw[Wf e,Wj ⟨λz=>e (h.trans z),h⟩,QS];exact⟨.inr ⟨by show -(2 ^ 64)<p.2;lia,by show p.2<2 ^ 64;lia⟩,rfl⟩
   ·have e:¬p.1=y:=λz=>g (Wh z);have h:¬p.1=x:=λz=>o (Wh z);rw[Wf e,Wf (by rintro⟨q,l⟩;exact h l),QS,QS];rfl
  ·rintro f rfl;exact v
def Oz(H:Def K mg "broken_wishes" NI ["order","wishes"])
  : FQ ζ:=by
 refine H.fz EO (λp n=>(bc (se (Pu.pz 2 EO.nd MM)<|SA Zb2<|Km 2)<|bc (sF 0<|sO [3,4] WG (ie (Cs rfl G.Zs<|az<|pv 0)<|EE<|sz<|Uc 0) (gT 2<|gc (gN 3)<|gc (gN 4) g0)<|b1<|se (Zbv (Kx<|p ()) (pv 2) (pv 4) (pv 3) rfl)<|Od 2 (Uc 4)<|Uc 3)<|bc (sC 5 ["ahead","behind","index_of"] [none,none,some 2] n (jL<|xv 1) (gT 2<|gc (gN 0)<|gc (gN 1) g0) (f1<|tp<|wa (te (P3<|F3 (Kx<|p ()) (pv 0)<|pv 2)<|Py<|Aq (Uc 0)<|Uc 2)<|wA<|te (P3<|F3 (Kx<|p ()) (pv 1)<|pv 2)<|Py<|Aq (Uc 1)<|Uc 2)<|xt<|a2 (xv 0)<|xv 1)<|b1<|sR<|xC ["ahead","behind","index_of"] [none,none,some 2] (jL<|xv 5) (gT 2<|gc (gN 0)<|gc (gN 1) g0) (f1<|tc Pr Pj (xe (ED (Kx<|p ()) (pv 2) (pv 1) (λ_ _=>rfl))<|Dq (Uc 2)<|Uc 1)<|xe (ED (Kx<|p ()) (pv 2) (pv 0) (λ_ _=>rfl))<|Dq (Uc 2)<|Uc 0)<|xt<|a2 (xv 0)<|xv 1)) (.a ?_)
 ·rintro M R X ⟨os,s,rfl,r,L,hw,C⟩;refine⟨rfl,rfl,Nr _,Dm (xs:=os) (emb:=D.int) (λi f=>∃b:List (Key×V),f=[some (.bor<|.lst<|os.map D.int),some (.bor<|.lst<|s.map prD),some (.own<|.dK b),none,none,none]/\b.length<=i/\∀h:Int,Us b (.inl h)=if h∈os.take i then some (.int<|os.idxOf h)else none) ⟨[],rfl,by simp,λh=>by simp[Us]⟩ ?_ ?_⟩
  ·rintro i x f ⟨b,rfl,A,g⟩;refine⟨rfl,.inl os[i],.int i,rfl,rfl,by lia,_,rfl,Wt (SZ _ _ _) (by lia),λh=>?_⟩;rw[Hu,g];by_cases e:h=os[i]
   ·subst e;rw[Wj rfl,Wj ((AB x).mpr (.inr rfl)),TN r x]
   ·rw[Wf (λz=>e (Sum.inl.inj z))];simp only[AB x,e,or_false]
  ·rintro f ⟨b,rfl,A,g⟩;rw[QE]at g;refine Ka (xs:=s) (emb:=prD) (λq=>if (decide (q.1∈os)&&decide (q.2∈os))=true then some (prD q)else none) (by lia) (λq hq=>⟨rfl,⟨_,rfl,?_⟩⟩) ?_
   ·have v:(Us b<|.inl q.1).isSome=decide (q.1∈os):=by
     rw[g];by_cases e:q.1∈os<;>simp[e]
    have u:(Us b<|.inl q.2).isSome=decide (q.2∈os):=by
     rw[g];by_cases e:q.2∈os<;>simp[e]
    refine Uq (λo=>⟨_,rfl,Uq (λy=>⟨by simp,_,rfl,Wj ?_⟩) (λy=>Wf λz=>y ?_)⟩) (λo=>U4 (Wf λz=>o ?_))
    ·rw[←v,←u,W1];exact⟨o,y⟩
    ·rw[←v,←u,W1]at z;exact z.2
    ·rw[←v,←u,W1]at z;exact z.1
   rw[Tn (λq=>decide (q.1∈os)&&decide (q.2∈os)) prD];have B:=Qc (λq:Int×Int=>decide (q.1∈os)&&decide (q.2∈os)) s;refine Ka (xs:=s.filter λq=>decide (q.1∈os)&&decide (q.2∈os)) (emb:=prD) (λq=>if decide (os.idxOf q.2<os.idxOf q.1)=true then some (prD q)else none) (by lia) (λq hq=>?_) ?_
   ·have l:=(Qz.mp hq).2;rw[W1,V1,V1]at l;refine⟨rfl,.inl q.2,.int (os.idxOf q.2),rfl,by rw[g,Wj l.2],rfl,.inl q.1,.int (os.idxOf q.1),rfl,by rw[g,Wj l.1],rfl,?_⟩;refine Uq (λo=>⟨by simp,_,rfl,Wj ?_⟩) (λo=>Wf λz=>o ?_)
    ·have E:((os.idxOf q.2:Nat):Int)<((os.idxOf q.1:Nat):Int):=Wm o;exact Wh (by lia)
    ·have J:=Wm z;exact Wh (show((os.idxOf q.2:Nat):Int)<((os.idxOf q.1:Nat):Int) by lia)
   rw[Tn (λq=>decide (os.idxOf q.2<os.idxOf q.1)) prD,List.filter_filter]
   have e:(λq:Int×Int=>decide (os.idxOf q.2<os.idxOf q.1)&&(decide (q.1∈os)&&decide (q.2∈os)))=U8 os:=by
    funext q;rw[MR r,Bool.and_comm]
   rw[e];exact C
def HS(o:Def K mg "check_place" Ff ["strips","place"])
  : Gv ζ:=by
 refine o.fy HD (λq n=>(b1<|sI (tp<|wo (tc Pr Pj (xv 1) xi)<|wO<|tc XQ XO (xv 1)<|xl G.len<|xv 0) (b1<|sQ G.ZF G.Zt ExcR.XH<|a1 xs) b0)) (.a ?_)
 ·rintro u R X ⟨f,p,rfl,b⟩;refine⟨rfl,?_⟩;have r:(f.map prD).length=f.length:=Wc ..;unfold N9 at b;refine Uq (λg=>Pp ?_) (λg=>?_)
  ·rw[Wj (.inl<|Wm g)]at b;exact⟨by simp,b⟩
  ·have s:¬p<1:=λz=>g (Wh z);refine Uq (λl=>?_) (λl=>?_)
   ·have h:((f.map prD).length:Int)<p:=Wm l;rw[Wj (.inr<|by lia)]at b;exact⟨by simp,b⟩
   ·have h:¬((f.map prD).length:Int)<p:=λz=>l (Wh z);rw[Wf (by lia)]at b;exact b
def RN(g:Uw K (U6 K (Up ζ) "strips") "strips" "Village.strips" SG ["self"])
  : DK ζ:=by
 refine g.fz RD (λl n=>(b1<|sR<|xe (Xn (PK (K:=K)) (by rfl) G.Zg boot_list<|az<|jx K (Ku (pv 0) rfl)<|BI Bq Xk)<|PX<|sz<|Xx (T4 1 G.Za G.Zd Au<|Uc 0)<|Du U2)) (.a ?_)
 ·rintro o R X ⟨bk,fs,h,f,rfl,b⟩;refine⟨rfl,?_⟩;exact⟨rfl,rfl,_,rfl,_,EB plD fs f,Pi _,b⟩
def Rc(h:Uw K (U6 K (Up ζ) "wishes") "wishes" "Village.wishes" S8 ["self"])
  : EU ζ:=by
 refine h.fz Rl (λl n=>(b1<|sR<|xe (Xn (PK (K:=K)) (by rfl) G.Zg boot_list<|az<|jx K (Ku (pv 0) rfl)<|BI Bq Xk)<|PX<|sz<|Xx (T4 2 G.Za G.Ze FP<|Uc 0)<|Du U2)) (.a ?_)
 ·rintro o R X ⟨bk,fs,b,f,rfl,g⟩;refine⟨rfl,?_⟩;exact⟨rfl,rfl,_,rfl,_,EB plD b f,Pi _,g⟩
def IJ(h:Uw K (U6 K (Up ζ) "check_room") "check_room" "Village.check_room" Bo ["self"])
  : Al ζ:=by
 refine h.fy MV (λo n=>(b1<|sI (tc FF Ds (xl G.len<|xe (Ku (pv 0) rfl)<|T4 0 G.Za G.Zc BB<|Uc 0)<|xe (ExcR.Xy G.Zo) U2) (b1<|sQ G.ZD G.Zr ExcR.XH<|a1<|xe (ExcR.KW<|ExcR.XU<|ExcR.KA (ExcR.Xy G.Zo)<|ExcR.XU ExcR.KM)<|KU<|XT<|Ky U2<|XT KY) b0)) (.a ?_)
 ·rintro q R X ⟨bk,fs,l,rfl,b⟩;refine⟨rfl,?_⟩;have p:(bk.map dD).length=bk.length:=Wc ..;unfold Nt at b;refine⟨rfl,rfl,_,rfl,Uq (λg=>?_) (λg=>?_)⟩
  ·have f:(100:Int)<=((bk.map dD).length:Int):=Wm g;rw[Wj (by lia)]at b;exact⟨by decide,by decide,by decide,by decide,by decide,by simp,b⟩
  ·have f:¬(100:Int)<=((bk.map dD).length:Int):=λz=>g (Wh z);rw[Wf (by lia)]at b;exact b
def Ma(z:Uw K (U6 K (Up ζ) "enter") "enter" "Village.enter" Bt ["self","deed","field","wishes"])
  : Fw ζ:=by
 refine z.fz Iz (λB n=>(bc (sF 1<|se (X6<|Pq WD Qf Qg KP (Ku (pv 0) rfl)<|az<|pv 1)<|Tu<|BQ 0 0 G.Za G.Zc BB<|Uc 1)<|bc (sF 2<|se (X6<|Pq WD Qf Qg KP (Ku (pv 0) rfl)<|az<|pv 2)<|Tu<|BQ 0 1 G.Za G.Zd Au<|Uc 2)<|bc (sF 3<|se (X6<|Pq WD Qf Qg KP (Ku (pv 0) rfl)<|az<|pv 3)<|Tu<|BQ 0 2 G.Za G.Ze FP<|Uc 3)<|b1<|se (U3<|ln K G.len<|Ku (pv 0) rfl)<|Sf<|Et<|sz<|T4 0 G.Za G.Zc BB<|Uc 0)) (.c ?_)
 ·rintro o A R X ⟨x,b1,y,v,bk,fs,b,q,f,w,rfl,rfl,H,E,C,p⟩;refine⟨rfl,?_⟩;have l:(bk.map dD).length<10000000:=by rw[Wc];lia
  have h:(fs.map plD).length<10000000:=by rw[Wc];lia
  have g:(b.map plD).length<10000000:=by rw[Wc];lia
  refine⟨rfl,rfl,_,rfl,l,rfl,rfl,_,rfl,h,rfl,rfl,_,rfl,g,rfl,rfl,_,rfl,_,rfl,⟨rfl,by simp⟩,?_⟩;have e:(((bk.map dD++[dD q]).length:Nat):Int)=(bk.length:Int)+1:=by rw[Wx,Wc];simp
  show R (.ins x _ vF [(b1,bk.map dD++[dD q]),(y,fs.map plD++[plD f]),(v,b.map plD++[plD w])]) (.int (((bk.map dD++[dD q]).length:Nat):Int));rw[e];have u:bk.map dD++[dD q]=(bk++[q]).map dD:=by rw[WC];rfl
  have s:fs.map plD++[plD f]=(fs++[f]).map plD:=by rw[WC];rfl
  have r:b.map plD++[plD w]=(b++[w]).map plD:=by rw[WC];rfl
  rw[u,s,r];exact p
def Zc1(N:Def K mg "is_number" Bp ["text"])
  : EH ζ:=by
 refine N.fz Ia (λv n=>(bc (sI (tp<|wo (tc Pr Pj (xl G.len<|xv 0) xi)<|wO<|tc XQ XO (xl G.len<|xv 0)<|xe (ExcR.Xy G.Z3) U2) (b1<|sR xb) b0)<|bc (sI (tp<|wa (tq v (xe (TB Oy (pv 0) Xk (λ_ _=>rfl))<|Zcs (Uc 0) U2) xs)<|wA<|tn v (xv 0) xs) (b1<|sR xb) b0)<|b1<|sR<|xe (Xe (As (K:=K) rfl) (by rfl) G.ZM boot_all<|az<|cz ["sign"] [none] (GP<|pv 0) ⟨(gk 0),PU,(S9 O6 (pv 0) (ExcR.Xy G.ZL)<|by with_unfolding_all rfl)⟩)<|Am<|sz<|PM (SndI.c<|Zb0<|Uc 0) (Km 0) Nv<|GQ (Uc 0) Ux)) (.a ?_)
 ·rintro T R X ⟨x,rfl,l,y,f⟩;refine⟨rfl,l,Uq (λg=>?_) (λp=>⟨l,Uq (λg=>?_) (λo=>?_)⟩)⟩
  ·have e:X1 x=false:=by
    unfold X1;have g:decide ((x.length:Int)<1)=true:=g;rw[g];rfl
   rw[←e];exact f
  ·have e:X1 x=false:=by
    unfold X1;have g:decide ((4:Int)<(x.length:Int))=true:=g;rw[show decide ((x.length:Int)>4)=true from g,Bool.or_true]
    rfl
   rw[←e];exact f
  have p:¬(x.length:Int)<1:=λz=>p (Wh z);have o:¬(4:Int)<(x.length:Int):=λz=>o (Wh z);have u:x.cps.toList.length=x.length:=WU
  obtain⟨c,r,B⟩:∃c r,x.cps.toList=c::r:=by
   cases e:x.cps.toList with
   |nil=>rw[e]at u;simp at u;lia
   |cons c r=>exact⟨c,r,rfl⟩
  have E:atI x.cps.toList 0=some c:=by rw[B];exact Bk _ _
  have M:decide ((⟨#[c]⟩:Str) = "0")=decide (x.cps.toList.head?=some 48):=by
   rw[B];by_cases z:c=48
   ·subst z;rw[show(48::r).head?=some 48 from rfl,Wh rfl]
    decide +kernel
   ·rw[Ws (λh=>z (by have:=WA (λs:Str=>s.cps.toList) h;exact(List.cons.inj this).1))];exact(Ws λh=>z (Wp h)).symm
  have q:X1 x=(!(decide (x.cps.toList.head?=some 48) && !decide (x=("0" : Str)))&&(x.cps.toList.map λc=>decide (c∈("0123456789" : Str).cps.toList)).all id):=by
   unfold X1;rw[Ws p,Ws o];rfl
  refine⟨l,c,E,?_⟩;show if decide ((⟨#[c]⟩:Str) = "0")=true then _ else _;rw[M];have C:x.cps.size<=4:=by have:x.cps.size=x.length:=rfl;lia
  have last:∀b:Bool,b=(x.cps.toList.map λc=>decide (c∈("0123456789" : Str).cps.toList)).all id->X1 x=b->Ti [none] [some (.sh<|.str x)] (Kz 0) SW (p2 (Ni 0) (pC<|.str "0123456789") BU) x.cps.size (λi=>.sh (.str ⟨#[x.cps.getD i 0]⟩)) λs=>BN [s] R:=λb J L=>by
   refine Dk (λi=>some (.bl<|decide (x.cps.getD i 0∈("0123456789" : Str).cps.toList))) (by lia) (λi Q=>?_) ?_
   ·exact⟨_,rfl,_,rfl,rfl⟩
   ·have e:(List.range x.cps.size).filterMap (λi=>some (D.bl<|decide (x.cps.getD i 0∈("0123456789" : Str).cps.toList)))=(x.cps.toList.map λc=>decide (c∈("0123456789" : Str).cps.toList)).map D.bl:=by
     rw[WS,WR];refine List.ext_getElem (by simp) λi A H=>?_;simp at A H ⊢;rw[WJ A];rfl
    rw[e];refine⟨_,rfl,?_⟩;rw[←J,←L];exact f
  refine Uq (λg=>?_) (λg=>?_)
  ·show if (!decide (x=("0" : Str)))=true then _ else _;by_cases z:x=("0" : Str)
   ·rw[Wh z];refine U4 ⟨y,last _ rfl ?_⟩;rw[q,Wh z,Bool.not_true,Bool.and_false];rfl
   ·rw[Ws z];refine Pp ?_;have e:X1 x=false:=by rw[q,g,Ws z];rfl
    rw[←e];exact f
  ·refine U4 ⟨y,last _ rfl ?_⟩;rw[q,Bool.eq_false_iff.mpr g,Bool.false_and];rfl
def MY(l:Def K mg "told_texts" NR ["texts"])
  : Er ζ:=by
 refine l.fz Ik (λo n=>(b1<|sR<|xI (tt<|xv 0) (xe (Kl (K:=K) Q5 Vh Vi (BG (K:=K)) U0<|az<|pv 0)<|Bh Ux<|Uc 0) xs)) (.a ?_)
 ·rintro p R X ⟨b,rfl,h,f⟩;refine⟨rfl,?_⟩;have g:(b.map D.str).isEmpty=decide (b=[]):=by cases b<;>simp
  show if (!(b.map D.str).isEmpty)=true then _ else _;rw[g];by_cases z:b=[]
  ·rw[Wh z];rw[Wj z]at f;exact U4 f
  ·rw[Ws z];rw[Wf z]at f;exact Pp ⟨b,rfl,h,f⟩
def R6(l:Def K mg "_law_at" Sq ["_law_script","_law_k"])
  : FR ζ:=by
 refine l.fz Zbs (λo n=>(bc (sI (tc Pr Pj (xv 1)<|xl G.len<|xv 0) (b1<|sR<|xx (xv 0)<|xv 1) b0)<|b1<|sR xi)) (.a ?_)
 ·rintro q R X ⟨b,k,rfl,h,f⟩;refine⟨rfl,?_⟩;refine Uq (λg=>?_) (λ_=>f 0);have p:k<(b.length:Int):=Wm g;exact⟨_,Nf h (Wb<|show k.toNat<b.length by omega),f _⟩
def Zci(f:Def K mg "_law_whole" NX ["_law_found"])
  : Cp ζ:=by
 refine f.fz HG (λg n=>(b1<|sR<|xe (Gk (Xe (Kw (K:=K)) (by rfl) G.Zb Qq<|bz (pv 0)<|K7 (v:=.ty "int") rfl G.ZE boot_int rfl)<|Ab<|HQ<|Xe (Kw (K:=K)) (by rfl) G.Zb Qq<|bz (pv 0)<|K7 (v:=.ty "bool") rfl G.ZQ boot_bool rfl)<|FA (KL<|tz (Uc 0) K8)<|Hz<|KL<|tz (Uc 0) K8)) (.a ?_)
 ·rintro h R X ⟨i,rfl,b⟩;refine⟨rfl,?_⟩;exact⟨_,.same _,_,.ib,b⟩
def M4(f:Def K mg "_law_mix" SM ["_law_cell","_law_place"])
  : FE ζ:=by
 refine f.fz M0 (λg n=>(bc (sS 2 n<|xo U7 U9 (xo KJ Kv (xo UM UK (xo UM UK (xo U7 U9 (xv 0) xi)<|xo KJ Kv xi<|xv 1) xi) xi) xi)<|b1<|sR<|xo U7 U9 (xo KJ Kv (xo UM UK (xo UM UK (xv 2)<|xo KJ Kv xi<|xv 1) xi) xi) xi)) (.a ?_)
 ·rintro h R X ⟨c,p,rfl,b⟩;refine⟨rfl,?_⟩;exact⟨(by show(0:Int)<2147483647;decide),.inl ⟨by decide,by decide⟩,.inr ⟨by decide,by decide⟩,(by show(0:Int)<2147483647;decide),.inl ⟨by decide,by decide⟩,.inr ⟨by decide,by decide⟩,(by show(0:Int)<2147483647;decide),b _⟩
def Lu(z:Def K mg "_law_menu" Bs ["_law_cell"])
  : G9 ζ:=by
 refine z.fz Mj (λA n=>(bc (sS 1 n<|xx (xL<|ac xi<|ac xi<|ac xi<|ac xi<|ac xi a0)<|xo U7 U9 (xo Xr Xw (xv 0) xi) xi)<|bc (sS 2 n<|xx (xL<|ac xi<|ac xi<|ac xi<|ac xi<|ac xi a0)<|xo U7 U9 (xo Xr Xw (xv 0) xi) xi)<|b1<|sF 2<|sF 1<|sR<|xL<|ac (xo UM UK xi<|xo U7 U9 (xv 0) xi)<|ac (xx (xL<|ac xi<|ac xi<|ac xi<|ac xi a0)<|xo U7 U9 (xo Xr Xw (xv 0) xi) xi)<|ac (xo U7 U9 (xo Xr Xw (xv 0) xi) xi)<|ac (xv 1)<|ac (xv 2) a0)) (.a ?_)
 ·rintro B R X ⟨c,rfl,u⟩;refine⟨rfl,?_⟩;have p:0<=c / 10 % 4/\c / 10 % 4<4:=by lia
  have o:0<=c / 400 % 5/\c / 400 % 5<5:=by lia
  have s:∀v∈([1,3,7,9]:Yc),1<=v/\v<=9/\(v=1\/v=3\/v=7\/v=9):=by decide
  have g:∀i:Int,0<=i->i<5->∃d e:Int,atI [D.int 1000,.int 3,.int 1,.int 2,.int 3] i=some (.int d)/\atI [D.int 1,.int 1,.int 1,.int 1,.int 998] i=some (.int e)/\(1<=d/\d<=1000)/\1<=e/\e+d<=1001:=λi a b=>by
   have:i=0\/i=1\/i=2\/i=3\/i=4:=by lia
   rcases this with rfl|rfl|rfl|rfl|rfl
   ·exact⟨1000,1,rfl,rfl,by decide,by decide,by decide⟩
   ·exact⟨3,1,rfl,rfl,by decide,by decide,by decide⟩
   ·exact⟨1,1,rfl,rfl,by decide,by decide,by decide⟩
   ·exact⟨2,1,rfl,rfl,by decide,by decide,by decide⟩
   ·exact⟨3,998,rfl,rfl,by decide,by decide,by decide⟩
  obtain⟨d,e,y,x,r,q⟩:=g _ o.1 o.2;have h:=s _ (W9 (l:=([1,3,7,9]:Yc)) (n:=(c / 10 % 4).toNat)<|by show(c / 10 % 4).toNat<4;lia);refine⟨by simp,⟨by decide,by decide⟩,(by show(0:Int)<5;decide),_,y,by simp,⟨by decide,by decide⟩,(by show(0:Int)<5;decide),_,x,(by show(0:Int)<10;decide),by simp,⟨by decide,by decide⟩,(by show(0:Int)<4;decide),_,FX (f:=D.int) (xs:=[1,3,7,9]) p.1 p.2,⟨by decide,by decide⟩,(by show(0:Int)<10;decide),by simp,?_⟩;exact u [_,_,_,_,_] ⟨_,_,_,_,_,rfl,by lia,h,by lia,r,q⟩
def Rf(h:Def K mg "_law_holder" Fi ["_law_menu_here","_law_k"])
  : Gz ζ:=by
 refine h.fz LJ (λl n=>(b1<|sR<|xo UM UK xi<|xo U7 U9 (xo UM UK (xo KJ Kv (xv 1)<|xx (xv 0) xi)<|xx (xv 0) xi) xi)) (.a ?_)
 ·rintro u R X ⟨m,k,rfl,g,f⟩;refine⟨rfl,?_⟩;obtain⟨a,b,c,d,e,rfl,s,r,q,p,o⟩:=g;exact⟨_,rfl,.inr ⟨by lia,by lia⟩,_,rfl,(by show(0:Int)<10;decide),f _ (by lia) (by lia) rfl⟩
def Lk(l:Def K mg "_law_present" Bj ["_law_strips_here"])
  : DJ ζ:=by
 refine l.fz Il (λf n=>(bc (sS 1 n<|xC ["_law_strip"] [none] (jL<|xv 0) (gN 0) f0<|xx (xv 0) xi)<|b1<|sR<|xC ["_law_holder_here","_law_owners"] [none,some 1] (jI<|iR G.Zf<|a2 xi xi) (gN 0) (f1<|ti f (xv 0)<|xv 1)<|xv 0)) (.a ?_)
 ·rintro r R X ⟨b,rfl,o,h⟩;refine⟨rfl,?_⟩;refine Ka (xs:=b) (emb:=prD) (λq=>some (.int q.1)) (by lia) (λq hq=>⟨_,rfl,_,rfl,rfl⟩) ?_;rw[Cu (λq:Int×Int=>D.int q.1),show b.map (λq:Int×Int=>D.int q.1)=(b.map (·.1)).map D.int by rw[WR];rfl];refine⟨⟨by decide,by decide,by decide,by decide⟩,Dk (n:=10) (λi=>if decide ((1:Int)+(i:Int)∈b.map (·.1))=true then some (.int (1+(i:Int)))else none) (by decide) (λi p=>?_) ?_⟩
  ·exact⟨_,.li _ _,Uq (λg=>⟨_,rfl,Wj g⟩) (λg=>Wf g)⟩
  rw[Tn (λi:Nat=>decide ((1:Int)+(i:Int)∈b.map (·.1)))]
  have e:((List.range 10).filter λi:Nat=>decide ((1:Int)+(i:Int)∈b.map (·.1))).map (λi:Nat=>D.int (1+(i:Int)))=(U5 b).map D.int:=by
   unfold U5;rw[M5,List.filter_map,WR];rfl
  rw[e];exact h
def LY(Q:Def K mg "_law_price" BR ["_law_strips_here","_law_order"])
  : DG ζ:=by
 refine Q.fz Md (λU n=>(bc (sC 2 ["_law_strip","_law_order"] [none,some 1] n (jL<|xv 0) (gN 0) f0<|xe (Kl (K:=K) WD Qy QV (Be (K:=K)) (pv 1)<|az<|jx K (pv 0) Xk)<|Bv (Uc 1)<|sz<|Xx (Uc 0) U2)<|bc (sS 3 n xi)<|bc (sO [4,5] WG (ir G.Zf<|a1<|xl G.len<|xv 0) (gN 4)<|b1<|sO [5] WG (ir G.Zf<|a1<|xv 4) (gN 5)<|b1<|sI (tc XQ XO (xx (xv 2)<|xv 5)<|xx (xv 2)<|xv 4) (b1<|sS 3 n<|xo UM UK (xv 3)<|xo KJ Kv (xx (xx (xv 0)<|xv 5) xi)<|xx (xx (xv 0)<|xv 4) xi) b0)<|b1<|sV 3)) (.a ?_)
 ·rintro Y R X ⟨b,os,rfl,B,T,s,L⟩;refine⟨rfl,?_⟩;have H:(b.map prD).length=b.length:=Wc ..;refine Ka (xs:=b) (emb:=prD) (λq=>some (.int (os.idxOf q.1:Nat))) (by lia) (λq hq=>⟨⟨_,rfl⟩,_,rfl,os,rfl,s q hq,_,rfl,rfl⟩) ?_;rw[Cu (λq:Int×Int=>D.int (os.idxOf q.1:Nat)),show b.map (λq:Int×Int=>D.int (os.idxOf q.1:Nat))=(b.map λq:Int×Int=>((os.idxOf q.1:Nat):Int)).map D.int by rw[WR];rfl];generalize x:(b.map λq:Int×Int=>((os.idxOf q.1:Nat):Int))=r
  have y:∀(j:Nat) (p:j<b.length),atI (r.map D.int) (0+(j:Int))=some (.int (os.idxOf b[j].1:Nat)):=λj p=>by
   rw[show(0:Int)+(j:Int)=(j:Int) by lia,←x];exact Kn (f:=D.int) (Pv<|by rw[Wq,Wb p];rfl)
  have A:∀(j:Nat) (p:j<b.length),atI (b.map prD) (0+(j:Int))=some (prD b[j]):=λj p=>by
   rw[show(0:Int)+(j:Int)=(j:Int) by lia];exact Kn (f:=prD) (Pv<|Wb p)
  refine⟨⟨by lia,by lia⟩,Kq (λk h=>h=[some (.bor<|.lst<|b.map prD),some (.bor<|.lst<|os.map D.int),some (.own<|r.map D.int),some (.sh<|.int<|XM b os k),none,none]) rfl ?_ ?_⟩
  ·rintro k h J rfl
   have l:k<b.length:=by
    have:k<(((b.map prD).length:Nat):Int).toNat:=J
    lia
   have u:b.getD k (0,0)=b[k]:=by rw[Wl,Wb l];rfl
   have N:XM b os (k+1)=XM b os k+rsM b os b[k].1 k*b[k].2:=by simp only[XM];rw[u]
   have C:=B b[k] (W9 l);refine⟨⟨by lia,by lia⟩,Kq (λj h=>h=[some (.bor<|.lst<|b.map prD),some (.bor<|.lst<|os.map D.int),some (.own<|r.map D.int),some (.sh<|.int (XM b os k+rsM b os b[k].1 j*b[k].2)),some (.sh<|.int (0+(k:Int))),none]) ?_ ?_ ?_⟩
   ·rw[show rsM b os b[k].1 0=0 from rfl,Int.zero_mul,QS]
    rfl
   ·rintro j h p rfl
    have o:j<b.length:=by
     have:j<((0:Int)+(k:Int)).toNat:=p
     lia
    have v:b.getD j (0,0)=b[j]:=by rw[Wl,Wb o];rfl
    have E:=B b[j] (W9 o);have step:rsM b os b[k].1 (j+1)=rsM b os b[k].1 j+(if os.idxOf b[k].1<os.idxOf b[j].1 then b[j].2 else 0):=by simp only[rsM];rw[v]
    refine⟨_,y j o,_,y k l,Uq (λg=>?_) (λg=>?_)⟩
    ·have M:((os.idxOf b[k].1:Nat):Int)<((os.idxOf b[j].1:Nat):Int):=Wm g;refine⟨_,A j o,_,rfl,_,A k l,_,rfl,.inl ⟨by show -(2 ^ 64)<b[j].2;lia,by show b[j].2<2 ^ 64;lia⟩,?_⟩;rw[step,Wj (by lia),Int.add_mul,←Int.add_assoc];rfl
    ·have M:¬((os.idxOf b[k].1:Nat):Int)<((os.idxOf b[j].1:Nat):Int):=λz=>g (Wh z);rw[step,Wf (by lia),QS];rfl
   ·rintro h rfl;rw[show((0:Int)+(k:Int)).toNat=k by lia,←N];rfl
  ·rintro h rfl;rw[show(((b.map prD).length:Nat):Int).toNat=b.length by lia];exact L
def Mc(v:Def K mg "check_strips" NQ ["strips"])
  : DO ζ:=by
 refine v.fy Zba (λq n=>(bc (sI (tc XQ XO (xl G.len<|xv 0)<|xe (ExcR.Xy G.Z1) U2) (b1<|sQ G.Zu G.Zh ExcR.XH<|a1<|xe (ExcR.KW<|ExcR.XU<|ExcR.KA (ExcR.Xy G.Z1)<|ExcR.XU ExcR.KM)<|KU<|XT<|Ky U2<|XT KY) b0)<|b1<|sF 0<|sO [1,2] ExcR.Sm (iL<|xv 0) (gT 2<|gc (gN 1)<|gc (gN 2) g0)<|bc (sE<|xg Yu q ExcR.UV<|a1<|xv 1)<|b1<|sE<|xg Y7 q ExcR.UV<|a1<|xv 2)) (.a ?_)
 ·rintro A R X ⟨b,rfl,x,h⟩;refine⟨rfl,?_⟩;have y:(b.map prD).length=b.length:=Wc ..;unfold Pd at h;refine Uq (λg=>?_) (λg=>?_)
  ·have s:(40:Int)<((b.map prD).length:Int):=Wm g;rw[Wj (by lia)]at h;exact⟨by decide,by decide,by decide,by decide,by decide,by simp,h⟩
  ·have s:¬(40:Int)<((b.map prD).length:Int):=λz=>g (Wh z);rw[Wf (by lia)]at h;refine⟨rfl,Tt (xs:=b) (emb:=prD) (λi l=>l=[some (.bor<|plD b),none,none]/\Kd (b.drop i)=Kd b) ⟨rfl,rfl⟩ ?_ ?_⟩
   ·rintro i r l ⟨rfl,f⟩;have u:b.drop i=b[i]::b.drop (i+1):=QJ r;rw[u,MK]at f;generalize b[i]=p at f ⊢;refine⟨rfl,p.1,rfl,?_⟩;unfold KQ;by_cases c:1<=p.1/\p.1<=10
    ·rw[Wf (λz=>z c)]at f;rw[Wj c];refine⟨p.2,rfl,?_⟩;unfold Bm;by_cases o:1<=p.2/\p.2<=1000
     ·rw[Wf (λz=>z o)]at f;rw[Wj o];exact⟨rfl,f⟩
     ·rw[Wj o]at f;rw[Wf o];rw[←f]at h;exact h
    ·rw[Wj c]at f;rw[Wf c];rw[←f]at h;exact h
   ·rintro l ⟨rfl,f⟩;rw[V2]at f;rw[←f]at h;exact h
def Rb(v:Def K mg "check_order" SQ ["strips","order"])
  : G5 ζ:=by
 refine v.fy GS (λl n=>(b1<|sI (tn l (xe (Xe (ID (K:=K) (w:=w) rfl) (by rfl) G.Z0 boot_sorted<|az<|pv 1)<|Oq<|sz<|Uc 1)<|xf Y8 l<|a1<|xv 0) (b1<|sQ G.ZA G.Zp ExcR.XH<|a1 xs) b0)) (.a ?_)
 ·rintro x R X ⟨ps,os,rfl,r,o,p,b⟩;refine⟨rfl,os,rfl,p,λh u s=>⟨ps,rfl,r,o,_,_,rfl,rfl,?_⟩⟩;have q:=OP (ps:=ps) u s;unfold UH at b;refine Uq (λg=>?_) (λg=>?_)
  ·have f:¬h=U5 ps:=λz=>by rw[Wj rfl,Wh z]at g;cases g
   rw[Wf (λz=>f (q.mpr z))]at b;exact⟨by simp,b⟩
  ·have f:h=U5 ps:=Classical.byContradiction λz=>g (by rw[Wj rfl,Ws z];rfl);rw[Wj (q.mp f)]at b;exact b
def Zcb(s:Def K mg "sold" Sy ["strips","place","holder"])
  : Cn ζ:=by
 refine s.fy Lx (λl n=>(bc (sE<|xg YB l ExcR.UV<|a2 (xv 0)<|xv 1)<|bc (sE<|xg Yu l ExcR.UV<|a1<|xv 2)<|bc (sS 3 n<|xx (xv 0)<|xo NA Fs (xv 1) xi)<|bc (sI (tq l (xx (xv 3) xi)<|xv 2) (b1<|sQ G.ZC G.Zq ExcR.XH<|a1 xs) b0)<|b1<|sF 2<|sR<|xo Ts Tw (xo Ts Tw (xp (xv 0) o0<|o1<|xo NA Fs (xv 1) xi)<|xL<|a1<|xt<|a2 (xv 2)<|xx (xv 3) xi)<|xp (xv 0) (o1<|xv 1) o0)) (.a ?_)
 ·rintro v R X ⟨ps,p,h,rfl,u,b⟩;refine⟨rfl,?_⟩;unfold Kj at b;refine⟨ps,p,rfl,?_⟩;unfold N9;by_cases c:p<1\/(ps.length:Int)<p
  ·rw[Wj c]at b ⊢;exact b
  ·rw[Wf c]at b ⊢;refine⟨h,rfl,?_⟩;unfold KQ;by_cases f:1<=h/\h<=10
   ·rw[Wf (λz=>z f)]at b;rw[Wj f];refine⟨_,F6 (by lia) (by lia),?_⟩;have q:(cutD (ps.map prD) none<|some (p-1)).length<=1000:=by have:=(FH (ps.map prD) none<|some (p-1)).length_le;rw[Wc]at this;lia
    have r:(cutD (ps.map prD) (some p) none).length<=1000:=by have:=(FH (ps.map prD) (some p) none).length_le;rw[Wc]at this;lia
    refine⟨_,rfl,Uq (λg=>?_) (λg=>?_)⟩
    ·have o:(UP ps p).1=h:=Wm g;rw[Wj o]at b;exact⟨by simp,b⟩
    ·have o:¬(UP ps p).1=h:=λz=>g (Wh z);rw[Wf o]at b;refine⟨Pi _,_,rfl,by simp,by simp,rfl,rfl,Wt (Vu q<|Wk 1) (by decide),Pi _,rfl,rfl,Wt (Vu (by rw[Wx];exact Vu q (Wk 1)) r) (by decide),?_⟩;have e:=CM (ps:=ps) (p:=p) (x:=(h,(UP ps p).2)) (by lia) (by lia);show R (.own (cutD (ps.map prD) none (some (p-1))++[prD (h,(UP ps p).2)]++cutD (ps.map prD) (some p) none));rw[e];exact b
   ·rw[Wj f]at b;rw[Wf f];exact b
def HX(x:Def K mg "with_wish" BE ["wishes","ahead","behind"])
  : AQ ζ:=by
 refine x.fy Zad (λl n=>(bc (sE<|xg Yu l ExcR.UV<|a1<|xv 1)<|bc (sE<|xg Yu l ExcR.UV<|a1<|xv 2)<|bc (sI (tq l (xv 1)<|xv 2) (b1<|sQ G.Zy G.Zj ExcR.XH<|a1 xs) b0)<|bc (sI (ti l (xt<|a2 (xv 1)<|xv 2)<|xv 0) (b1<|sQ G.Z4 G.Zk ExcR.XH<|a1 xs) b0)<|bc (sI (tc FF Ds (xl G.len<|xv 0)<|xe (ExcR.Xy G.Zl) U2) (b1<|sQ G.Zw G.Zi ExcR.XH<|a1<|xe (ExcR.KW<|ExcR.XU<|ExcR.KA (ExcR.Xy G.Zl)<|ExcR.XU ExcR.KM)<|KU<|XT<|Ky U2<|XT KY) b0)<|b1<|sF 2<|sF 1<|sR<|xo Ts Tw (xv 0)<|xL<|a1<|xt<|a2 (xv 1)<|xv 2)) (.a ?_)
 ·rintro y R X ⟨h,a,b,rfl,u,f⟩;refine⟨rfl,?_⟩;have v:(h.map prD).length=h.length:=Wc ..;unfold XS at f;refine⟨a,rfl,?_⟩;unfold KQ;by_cases p:1<=a/\a<=10
  ·rw[Wf (λz=>z p)]at f;rw[Wj p];refine⟨b,rfl,?_⟩;unfold KQ;by_cases o:1<=b/\b<=10
   ·rw[Wf (λz=>z o)]at f;rw[Wj o];refine Uq (λg=>?_) (λg=>?_)
    ·rw[Wj (Wm g)]at f;exact⟨by simp,f⟩
    ·rw[Wf (λz=>g (Wh z))]at f;refine⟨by simp,_,.lp (a,b) h,Uq (λs=>?_) (λs=>?_)⟩
     ·rw[Wj (Wm s)]at f;exact⟨by simp,f⟩
     ·rw[Wf (λz=>s (Wh z))]at f;refine Uq (λr=>?_) (λr=>?_)
      ·have q:(20:Int)<=((h.map prD).length:Int):=Wm r;rw[Wj (by lia)]at f;exact⟨by decide,by decide,by decide,by decide,by decide,by simp,f⟩
      ·have q:¬(20:Int)<=((h.map prD).length:Int):=λz=>r (Wh z);rw[Wf (by lia)]at f;refine⟨by simp,by simp,Pi _,rfl,Wt (Vu (Wt (Ql v) u)<|Wk 1) (by decide),?_⟩;rw[WC]at f;exact f
   ·rw[Wj o]at f;rw[Wf o];exact f
  ·rw[Wj p]at f;rw[Wf p];exact f
def Zbt(q:Def K mg "is_row" BM ["word","texts"])
  : Ef ζ:=by
 refine q.fz Zac (λf n=>(bc (sI (tN<|tt<|xe (Xe (As (K:=K) rfl) (by rfl) G.ZM boot_all<|az<|cz ["text"] [none] (TX (K:=K)<|pv 1) ⟨(gk 0),PU,(fz YC (f ())<|az<|pv 0)⟩)<|Am<|sz<|PM (Sl<|Uc 1) (Km 0) Nv<|TC<|sz<|Uc 0) (b1<|sR xb) b0)<|bc (sI (te (P3<|SX G.Z7<|pv 0)<|Py<|SE<|Uc 0) (b1<|se Xi Xg) b0)<|bc (sI (te (P3<|SX G.ZN<|pv 0)<|Py<|SE<|Uc 0) (b1<|se Xi Xg) b0)<|b1<|sR<|xe (RL<|Zc6 G.ZO<|pv 0)<|Zb6<|Uc 0)) (.a ?_)
 ·rintro s R X ⟨w,os,rfl,hw,g,r,b⟩;refine⟨rfl,?_⟩;refine Ka (xs:=os) (emb:=λn=>D.str (nS n)) (λn=>some (.bl true)) (by lia) (λn l=>?_) ?_
  ·have h:=g n l;have o:=(XF h.1 h.2).2.1;refine⟨_,rfl,Wt o (by decide),Ra h.1,_,rfl,?_⟩;rw[OJ h.1 h.2]
  have em:os.filterMap (λn=>some (D.bl true))=(os.map λ_=>true).map D.bl:=by rw[WS,WR];rfl
  have p:(os.map λ_=>true).all id=true:=by rw[List.all_map,W4];intro _ _;rfl
  rw[em];refine⟨_,rfl,?_⟩;rw[p];refine U4 ?_;rcases hw with rfl|rfl
  ·exact b
  ·exact b
def Za4(H:Def K mg "told_wishes" Br ["wishes"])
  : Dy ζ:=by
 refine H.fz IY (λA n=>(b1<|sR<|xf YD A<|a1<|xC ["ahead","behind"] [none,none] (jL<|xv 0) (gT 2<|gc (gN 0)<|gc (gN 1) g0) f0<|xe (ExcR.KW<|ExcR.KA (pv 0)<|ExcR.XU<|ExcR.KA (pv 1) ExcR.KM)<|KU<|Ky (Uc 0)<|XT<|Ky (Uc 1) KY)) (.a ?_)
 ·rintro M R X ⟨f,rfl,J,hw,C⟩;refine⟨rfl,?_⟩
  have l:∀n:Int,0<=n/\n<=10->n.natAbs.log2<1920/\(nS n).length<=4:=λn h=>⟨by
   by_cases z:n.natAbs=0
   ·rw[z];decide
   ·exact Wv ((Nat.log2_lt z).mpr (QN (show n.natAbs<=10 by lia)<|show 10<2 ^ 4 by decide)) (by decide),(XF h.1<|by lia).2.1⟩
  have g:∀a b:Str,(a++b).length=a.length+b.length:=λa b=>by
   show(a.cps++b.cps).size=_;rw[Array.size_append];rfl
  have s:∀q∈f,(wS q).length<=9:=λq hq=>by
   have r:=(l q.1 (hw q hq).1).2;have p:=(l q.2 (hw q hq).2).2;unfold wS;rw[g,g,show(">" : Str).length=1 by decide +kernel];lia
  refine Ka (xs:=f) (emb:=prD) (λq=>some (.str<|wS q)) (by lia) (λq hq=>?_) ?_
  ·have r:=l q.1 (hw q hq).1;have p:=l q.2 (hw q hq).2;have L:(1000:Nat)<=sizeLine:=by decide
   have v:(Str.empty++nS q.1).length<=sizeLine:=by rw[QF];lia
   have u:(Str.empty++nS q.1++">").length<=sizeLine:=by rw[QF,g,show(">" : Str).length=1 by decide +kernel];lia
   have o:(Str.empty++nS q.1++">"++nS q.2).length<=sizeLine:=by rw[QF,g,g,show(">" : Str).length=1 by decide +kernel];lia
   refine⟨rfl,r.1,v,u,p.1,o,o,_,rfl,?_⟩;show some (D.str<|wS q)=some (D.str (Str.empty++nS q.1++">"++nS q.2));rw[QF];rfl
  have em:f.filterMap (λq=>some (D.str<|wS q))=(f.map wS).map D.str:=by rw[WS,WR];rfl
  rw[em]
  have E:JoinOk spc (f.map wS)=true:=by
   unfold JoinOk;rw[StrLaws.joinFits (B:=9) (λy x=>by obtain⟨q,hq,rfl⟩:=W6.mp x;exact s q hq) (by rw[Wc,show spc.length=1 from rfl];lia)]
   rfl
  refine⟨_,rfl,E,?_⟩
  have e:(if f.map wS=[]then("none" : Str)else Txt.join spc (f.map wS))=X9 f:=by
   unfold X9;by_cases z:f=[]
   ·rw[z];rfl
   ·rw[Wf z,Wf (λy=>z (List.map_eq_nil_iff.mp y))]
  rw[e];exact C
def Zai(h:Def K mg "_law_draw" Fb ["_law_script","_law_k"])
  : A5 ζ:=by
 refine h.fz HM (λb n=>(bc (sI (tq b (xo U7 U9 (xf Yr b<|a2 (xv 0) xi) xi) xi) (b1<|sR<|xf Yr b<|a2 (xv 0)<|xo UM UK xi<|xv 1) b0)<|b1<|sR<|xf Y2 b<|a2 (xf Yr b<|a2 (xv 0) xi)<|xv 1)) (.a ?_)
 ·rintro o R X ⟨f,k,rfl,l,g⟩;refine⟨rfl,f,0,rfl,by decide,λv=>⟨(by show(0:Int)<2;decide),Uq (λ_=>?_) (λ_=>?_)⟩⟩
  ·exact⟨f,_,rfl,by omega,λv=>g v⟩
  ·exact⟨f,1,rfl,by decide,λu=>⟨_,_,rfl,λv=>g v⟩⟩
def Zag(h:Def K mg "_law_spare" SH ["_law_script"])
  : Gi ζ:=by
 refine h.fz Zbe (λb n=>(bc (sI (tq b (xo U7 U9 (xf Yr b<|a2 (xv 0) xi) xi) xi) (b1<|sR<|xo Xr Xw (xf Yr b<|a2 (xv 0) xi) xi) b0)<|b1<|sR<|xf Y2 b<|a2 (xf Yr b<|a2 (xv 0) xi) xi)) (.a ?_)
 ·rintro l R X ⟨f,rfl,g⟩;refine⟨rfl,?_⟩;exact⟨f,0,rfl,by decide,λv=>⟨(by show(0:Int)<2;decide),Uq (λ_=>⟨f,0,rfl,by decide,λu=>⟨⟨by decide,by decide⟩,g _⟩⟩) (λ_=>⟨f,1,rfl,by decide,λu=>⟨_,_,rfl,λz=>g _⟩⟩)⟩⟩
def O9(u:Def K mg "_law_row" NS ["_law_found","_law_due"])
  : DH ζ:=by
 refine u.fz Hg (λh n=>(bc (sI (tp<|wo (tN<|tt<|xe (Xe (Kw (K:=K)) (by rfl) G.Zb Qq<|bz (pv 0)<|K7 (v:=.ty "list") rfl G.Zg boot_list rfl)<|KL<|tz (Uc 0) K8)<|wO<|tn h (xl G.len<|xv 0)<|xl G.len<|xv 1) (b1<|sR xb) b0)<|bc (sO [2] WG (ir G.Zf<|a1<|xl G.len<|xv 1) (gN 2)<|b1<|sI (tp<|wo (tN<|tt<|xf Y1 h<|a1<|xx (xv 0)<|xv 2)<|wO<|tn h (xx (xv 0)<|xv 2)<|xx (xv 1)<|xv 2) (b1<|sR xb) b0)<|b1<|sR xb)) (.a ?_)
 ·rintro y R X ⟨xs,rfl|rfl,x,s⟩;refine⟨rfl,?_⟩
  ·have q:(xs.map D.int).length=xs.length:=Wc ..;refine⟨_,.same _,U4 (KZ rfl ?_)⟩;refine⟨⟨by lia,by lia⟩,Kq (λi b=>b=[some (.bor<|.lst<|xs.map D.int),some (.bor<|.lst<|xs.map D.int),none]) rfl ?_ ?_⟩
   ·rintro i b p rfl;have o:i<(((xs.map D.int).length:Nat):Int).toNat:=p;have ez:(0:Int)+(i:Int)=(i:Int):=by lia
    have g:i<xs.length:=by lia
    have f:atI (xs.map D.int) (0+(i:Int))=some (.int xs[i]):=by rw[ez];exact Bf g
    exact⟨_,f,_,rfl,U4 ⟨_,f,_,f,KZ rfl rfl⟩⟩
   ·rintro b rfl;exact s
  ·refine⟨rfl,?_⟩;have q:(xs.map D.int).length=xs.length:=Wc ..;have l:((xs.length:Nat):Int)=(((xs.map D.int).length:Nat):Int):=by rw[q]
   refine⟨_,.same _,U4 (KZ l ?_)⟩;refine⟨⟨by lia,by lia⟩,Kq (λi b=>b=[some (.sh<|.fL xs),some (.bor<|.lst<|xs.map D.int),none]) rfl ?_ ?_⟩
   ·rintro i b p rfl;have o:i<(((xs.map D.int).length:Nat):Int).toNat:=p;have ez:(0:Int)+(i:Int)=(i:Int):=by lia
    have g:i<xs.length:=by lia
    have f:atI (xs.map D.int) (0+(i:Int))=some (.int xs[i]):=by rw[ez];exact Bf g
    have r:atI xs (0+(i:Int))=some xs[i]:=by rw[ez];exact Pv (Wb g)
    exact⟨_,r,_,rfl,U4 ⟨_,r,_,f,KZ rfl rfl⟩⟩
   ·rintro b rfl;exact s
def Zal(y:Def K mg "_law_tuples" SO ["_law_found","_law_due"])
  : Gy ζ:=by
 refine y.fz Ou (λh n=>(bc (sI (tp<|wo (tN<|tt<|xe (Xe (Kw (K:=K)) (by rfl) G.Zb Qq<|bz (pv 0)<|K7 (v:=.ty "list") rfl G.Zg boot_list rfl)<|KL<|tz (Uc 0) K8)<|wO<|tn h (xl G.len<|xv 0)<|xl G.len<|xv 1) (b1<|sR xb) b0)<|bc (sO [2,3] WG (ir G.Zf<|a1<|xl G.len<|xv 1) (gN 2)<|bc (sI (tp<|wo (tN<|tt<|xe (Xe (Kw (K:=K)) (by rfl) G.Zb Qq<|bz (jx K (pv 0)<|pv 2)<|K7 (v:=.ty "tuple") rfl G.ZP boot_tuple rfl)<|KL<|tz (Xx (Uc 0)<|Uc 2) K8)<|wO<|tn h (xl G.len<|xx (xv 0)<|xv 2)<|xl G.len<|xx (xv 1)<|xv 2) (b1<|sR xb) b0)<|b1<|sO [3] WG (ir G.Zf<|a1<|xl G.len<|xx (xv 1)<|xv 2) (gN 3)<|b1<|sI (tp<|wo (tN<|tt<|xf Y1 h<|a1<|xx (xx (xv 0)<|xv 2)<|xv 3)<|wO<|tn h (xx (xx (xv 0)<|xv 2)<|xv 3)<|xx (xx (xv 1)<|xv 2)<|xv 3) (b1<|sR xb) b0)<|b1<|sR xb)) (.a ?_)
 ·rintro C R X ⟨f,rfl,A,x⟩;refine⟨rfl,?_⟩;have B:(f.map prD).length=f.length:=Wc ..;refine⟨_,.same _,U4 (KZ rfl ?_)⟩;refine⟨⟨by lia,by lia⟩,Kq (λi b=>∃t,b=[some (.bor<|.lst<|f.map prD),some (.bor<|.lst<|f.map prD),none,t]) ⟨_,rfl⟩ ?_ ?_⟩
  ·rintro i b s ⟨t,rfl⟩;have r:i<(((f.map prD).length:Nat):Int).toNat:=s;have ez:(0:Int)+(i:Int)=(i:Int):=by lia
   have u:i<f.length:=by lia
   have g:atI (f.map prD) (0+(i:Int))=some (prD f[i]):=by rw[ez];exact Bf u
   generalize f[i]=q at g;refine⟨_,g,_,.same _,U4 ⟨_,g,_,g,?_⟩⟩;refine⟨_,g,⟨(by show -(2 ^ 62)<=(2:Int);decide),(by show(2:Int)<2 ^ 62;decide)⟩,Kq (λj b=>∃t,b=[some (.bor<|.lst<|f.map prD),some (.bor<|.lst<|f.map prD),some (.sh<|.int (0+(i:Int))),t]) ⟨_,rfl⟩ ?_ ?_⟩
   ·rintro j b p ⟨t,rfl⟩;have o:j<2:=p
    obtain⟨z,l⟩:∃z:Int,atI [D.int q.1,D.int q.2] (0+(j:Int))=some (.int z):=by
     have:j=0\/j=1:=by lia
     rcases this with rfl|rfl
     ·exact⟨_,rfl⟩
     ·exact⟨_,rfl⟩
    exact⟨_,g,_,l,z,rfl,U4 ⟨_,g,_,l,_,g,_,l,KZ rfl ⟨_,rfl⟩⟩⟩
   ·rintro b ⟨t,rfl⟩;exact⟨_,rfl⟩
  ·rintro b ⟨t,rfl⟩;exact x
def MW(z:Def K mg "order_cost" B5 ["strips","order"])
  : Dd ζ:=by
 refine z.fy Zbk (λp n=>(bc (sE<|xg Y3 p ExcR.UV<|a2 (xv 0)<|xv 1)<|bc (sS 2 n xi)<|bc (sF 1<|sO [3,4,5] ExcR.Sm (ie (Cs rfl G.Zs<|az<|pv 1)<|EE<|sz<|Uc 1) (gT 2<|gc (gN 3)<|gc (gN 4) g0)<|b1<|sO [5] ExcR.Sm (iL<|xp (xv 1) (o1<|xo UM UK (xv 3) xi) o0) (gN 5)<|b1<|sU 2 n BD<|xf Y9 p<|a3 (xv 0) (xv 4)<|xv 5)<|b1<|sV 2)) (.a ?_)
 ·rintro A R X ⟨f,os,rfl,q,r,s,l⟩;refine⟨rfl,f,os,rfl,q,r,s,?_⟩;cases e:UH f os with
  |some c=>
   rw[e]at l;exact l
  |none=>
   rw[e]at l;refine⟨rfl,Nr _,Dm (xs:=os) (emb:=D.int) (λi g=>∃c:Int,g=[some (.bor<|plD f),some (.bor<|.lst<|os.map D.int),some (.sh<|.int c),none,none,none]/\c+Ur f f.length (os.drop i)=Ur f f.length os) ⟨0,rfl,by simp⟩ ?_ ?_⟩
   ·rintro i v g ⟨c,rfl,o⟩
    have ecut:cutD (os.map D.int) (some ((i:Int)+1)) none=(os.drop (i+1)).map D.int:=by
     rw[NH,Sb os (by omega)];congr 2
    refine⟨rfl,Nr _,rfl,?_⟩;show PB _ _ _ _ _ (cutD (os.map D.int) (some ((i:Int)+1)) none).length (λk=>S.sub (.own<|cutD (os.map D.int) (some ((i:Int)+1)) none) ((cutD (os.map D.int) (some ((i:Int)+1)) none).getD k .non));rw[ecut];generalize x:os.drop (i+1)=h;refine Tt (xs:=h) (emb:=D.int) (λj g=>g=[some (.bor<|plD f),some (.bor<|.lst<|os.map D.int),some (.sh<|.int (c+((h.take j).map λb=>pcM f os[i] b f.length).sum)),some (.sh<|.int i),some (.sh (.int os[i])),none]) (by simp;rfl) ?_ ?_
    ·rintro j u g rfl;refine⟨f,os[i],h[j],rfl,q,?_⟩
     have y:((h.take (j+1)).map λb=>pcM f os[i] b f.length).sum=((h.take j).map λb=>pcM f os[i] b f.length).sum+pcM f os[i] h[j] f.length:=by
      rw[WO u,WC,List.sum_append];simp
     rw[y,←Int.add_assoc];rfl
    ·rintro g rfl;refine⟨_,rfl,?_⟩;rw[QE,←o,QJ v,x];simp only[Ur];omega
   ·rintro g ⟨c,rfl,o⟩;rw[V2]at o;have e:c=Ur f f.length os:=by simp only[Ur]at o;omega
    rw[←e]at l;exact l
def Ho(q:Uw K (Mk K<|Up ζ) "__init__" "Village.__init__" Bz ["self","strips"])
  : F4 ζ:=by
 refine q.fy Lh (λh n=>(bc (sE<|xg YI h ExcR.UV<|a1<|xv 1)<|bc (se (Bi (pv 0) (X4 UO) rfl)<|SU 0 G.Za G.Zc M8<|XY UW)<|bc (se (Bi (pv 0) (X4<|az<|Xn (PK (K:=K)) (by rfl) G.Zg boot_list<|az<|pv 1) rfl)<|SU 0 G.Za G.Zd Zc3<|XY<|sz<|PX<|sz<|Uc 1)<|b1<|se (Bi (pv 0) (X4<|az<|X4 UO) rfl)<|SU 0 G.Za G.Ze MD<|XY<|sz<|XY UW)) (.c ?_)
 ·rintro o r R X ⟨x,f,rfl,rfl,g,b⟩;refine⟨rfl,f,rfl,g,?_⟩;cases e:Pd f with
  |some c=>
   rw[e]at b;exact⟨_,rfl,⟨rfl,by simp⟩,b⟩
  |none=>
   rw[e]at b;refine⟨by simp,rfl,rfl,by decide,λb1=>?_⟩;refine⟨rfl,by simp,rfl,rfl,by decide,λp=>?_⟩;refine⟨by simp,by simp,rfl,rfl,by decide,λl=>?_⟩;exact⟨_,rfl,⟨rfl,by simp⟩,b b1 p l⟩
def Oa(v:Uw K (U6 K (Up ζ) "sell") "sell" "Village.sell" Sv ["self","place","holder"])
  : DT ζ:=by
 refine v.fy HZ (λg n=>(bc (se (X6<|X3 Yz G.Za (hq<|g ()) ExcR.UV<|pv 0)<|B4<|TM DQ (Uc 0) UW)<|bc (sS 3 n<|xg YJ g ExcR.UV<|a3 (xe (X3 Ys G.Za (hq<|g ()) Xt<|pv 0)<|X8 P9 (Uc 0) UW) (xv 1)<|xv 2)<|b1<|sF 2<|sF 1<|sF 3<|se (U3<|Kf Y0 G.Za (hq<|g ()) Xt (pv 0)<|dz (T6<|dz U0 (pv 1)<|pv 2) (pv 3)<|X3 Yv G.Za (hq<|g ()) Xt<|pv 0)<|EJ<|N3 0 EW<|uz (T3<|uz Ux (Uc 1)<|Uc 2) (Uc 3)<|X8 Nw (Uc 0) UW)) (.c ?_)
 ·rintro o y R X ⟨x,b1,u,s,bk,fs,l,f,w,p,h,rfl,rfl,r,z,hw,q,b⟩;refine⟨rfl,?_⟩;unfold Se at b;refine⟨rfl,rfl,bk,fs++[f],l++[w],rfl,?_⟩;unfold Nt;by_cases c:100<=bk.length
  ·rw[Wj c]at b ⊢;exact⟨_,rfl,⟨rfl,by simp⟩,b⟩
  ·rw[Wf c]at b ⊢;refine⟨rfl,rfl,bk,fs,l++[w],f,rfl,f,p,h,rfl,q,?_⟩;cases e:Kj f p h with
   |some c=>
    rw[e]at b;exact⟨_,rfl,⟨rfl,by simp⟩,b⟩
   |none=>
    rw[e]at b;refine⟨rfl,rfl,by simp,rfl,rfl,bk,fs++[f],l,w,rfl,?_⟩;exact⟨x,b1,u,s,bk,fs++[f],l++[w],("sell",[p,h]),Kb f p h,w,rfl,rfl,r,by rw[Wx];simp;lia,by rw[Wx];simp;lia,_,rfl,⟨rfl,by simp⟩,b⟩
def Zcc(v:Uw K (U6 K (Up ζ) "wish") "wish" "Village.wish" NT ["self","ahead","behind"])
  : F5 ζ:=by
 refine v.fy LO (λg n=>(bc (se (X6<|X3 Yz G.Za (hq<|g ()) ExcR.UV<|pv 0)<|B4<|TM DQ (Uc 0) UW)<|bc (sS 3 n<|xg YK g ExcR.UV<|a3 (xe (X3 Yv G.Za (hq<|g ()) Xt<|pv 0)<|X8 Nw (Uc 0) UW) (xv 1)<|xv 2)<|b1<|sF 2<|sF 1<|sF 3<|se (U3<|Kf Y0 G.Za (hq<|g ()) Xt (pv 0)<|dz (T6<|dz U0 (pv 1)<|pv 2) (X3 Ys G.Za (hq<|g ()) Xt<|pv 0)<|pv 3)<|EJ<|N3 0 EW<|uz (T3<|uz Ux (Uc 1)<|Uc 2) (X8 P9 (Uc 0) UW)<|Uc 3)) (.c ?_)
 ·rintro o y R X ⟨x,b1,u,s,bk,fs,l,f,w,p,h,rfl,rfl,r,z,hw,q,b⟩;refine⟨rfl,?_⟩;unfold NZ at b;refine⟨rfl,rfl,bk,fs++[f],l++[w],rfl,?_⟩;unfold Nt;by_cases c:100<=bk.length
  ·rw[Wj c]at b ⊢;exact⟨_,rfl,⟨rfl,by simp⟩,b⟩
  ·rw[Wf c]at b ⊢;refine⟨rfl,rfl,bk,fs++[f],l,w,rfl,w,p,h,rfl,q,?_⟩;cases e:XS w p h with
   |some c=>
    rw[e]at b;exact⟨_,rfl,⟨rfl,by simp⟩,b⟩
   |none=>
    rw[e]at b;refine⟨rfl,rfl,by simp,rfl,rfl,bk,fs,l++[w],f,rfl,?_⟩;exact⟨x,b1,u,s,bk,fs++[f],l++[w],("wish",[p,h]),f,w++[(p,h)],rfl,rfl,r,by rw[Wx];simp;lia,by rw[Wx];simp;lia,_,rfl,⟨rfl,by simp⟩,b⟩
def Zae(s:Uw K (U6 K (Up ζ) "broken") "broken" "Village.broken" NK ["self","order"])
  : AA ζ:=by
 refine s.fy IU (λb n=>(bc (sE<|xg Y3 b ExcR.UV<|a2 (xe (X3 Ys G.Za (hq<|b ()) Xt<|pv 0)<|X8 P9 (Uc 0) UW)<|xv 1)<|b1<|sR<|xf YA b<|a2 (xv 1)<|xe (X3 Yv G.Za (hq<|b ()) Xt<|pv 0)<|X8 Nw (Uc 0) UW)) (.a ?_)
 ·rintro u R X ⟨bk,fs,l,f,w,os,rfl,r,p,q,hw,g⟩;refine⟨rfl,rfl,rfl,bk,fs,l++[w],f,rfl,f,os,rfl,r,p,q,?_⟩;cases e:UH f os with
  |some c=>
   rw[e]at g;exact g
  |none=>
   rw[e]at g
   have o:os.Perm (U5 f):=by
    unfold UH at e;split at e
    ·rename_i z;exact Vq.mp z
    ·cases e
   exact⟨rfl,rfl,bk,fs++[f],l,w,rfl,os,w,rfl,o.symm.nodup ((Px f).imp (λh=>Int.ne_of_lt h)),by have:=o.length_eq;have:=TZ f;omega,hw,g⟩
def Zck(E:Def K mg "_law_strips" Sr ["_law_script","_law_menu_here","_law_many"])
  : D7 ζ:=by
 refine E.fz I0 (λs n=>(bc (sS 3 n<|xL a0)<|bc (sO [4,5,6] WG (ir G.Zf<|a1<|xv 2) (gN 4)<|bc (sS 5 n<|xf Yt s<|a2 (xv 0)<|xo UM UK xi<|xv 4)<|bc (sS 6 n<|xo UM UK (xx (xv 1) xi)<|xo U7 U9 (xo Xr Xw (xv 5)<|xx (xv 1) xi)<|xx (xv 1) xi)<|b1<|sF 6<|sA 3<|xt<|a2 (xf Yw s<|a2 (xv 1)<|xo U7 U9 (xv 5)<|xx (xv 1) xi)<|xv 6)<|b1<|sV 3)) (.a ?_)
 ·rintro ds R X ⟨r,m,n,rfl,u,Y,U,C⟩;refine⟨rfl,?_⟩;have o:=u;obtain⟨a,b,c,d,e,rfl,T,Q,N,M,L⟩:=u;refine⟨by simp,⟨by omega,by omega⟩,Kq (λi g=>∃f:Yb,g=[some (.bor<|.scr r),some (.bor<|.lst (([a,b,c,d,e]:Yc).map D.int)),some (.sh<|.int n),some (.own<|f.map prD),none,none,none]/\Field f/\f.length=i) ⟨[],rfl,(λq hq=>by cases hq),rfl⟩ ?_ ?_⟩
  ·rintro i g B ⟨f,rfl,p,l⟩;have z:(f.map prD).length=f.length:=Wc ..;have A:i<n.toNat:=B;refine⟨r,_,rfl,by omega,λv=>?_⟩;have J:=QK (v / a) (show d≠0 by omega);have H:=Q3 (v / a) (show 0<d by omega);refine⟨_,rfl,_,rfl,⟨by omega,by omega⟩,_,rfl,(by show 0<d;omega),_,rfl,(by show 0<a;omega),[a,b,c,d,e],_,rfl,o,λh y x _=>⟨by simp,by omega,f++[(h,e+v / a % d)],?_,λq hq=>?_,by rw[Wx,l];rfl⟩⟩
   ·rw[WC];rfl
   ·rcases WZ.mp hq with hq|hq
    ·exact p q hq
    ·rw[Wg]at hq;subst hq;exact⟨y,x,by show 1<=e+v / a % d;omega,by show e+v / a % d<=1000;omega⟩
  ·rintro g ⟨f,rfl,p,l⟩;exact C f p l
def Zce(DD:Def K mg "_law_wishes" B3 ["_law_script","_law_menu_here"])
  : F2 ζ:=by
 refine DD.fz Fx (λv n=>(bc (sS 2 n<|xf Yt v<|a2 (xv 0) xi)<|bc (sS 3 n<|xx (xL<|a2 xi<|xe (Xe (GK rfl) (by rfl) G.ZR boot_max<|bz Xk<|jx K (pv 1) Xk)<|LL<|tz U2<|Xx (Uc 1) U2)<|xo U7 U9 (xo Xr Xw (xv 2) xi) xi)<|bc (sS 4 n<|xL a0)<|bc (sO [5,6,7,8,9] WG (ir G.Zf<|a1<|xo U7 U9 (xv 2) xi) (gN 5)<|bc (sS 6 n<|xf Yt v<|a2 (xv 0)<|xo UM UK xi<|xv 5)<|bc (sS 7 n<|xo U7 U9 (xv 6)<|xv 3)<|bc (sS 8 n<|xo U7 U9 (xo UM UK (xo UM UK (xv 7) xi)<|xo U7 U9 (xo Xr Xw (xv 6)<|xv 3)<|xo NA Fs (xv 3) xi)<|xv 3)<|bj (sI (tp<|wa (tc XQ XO (xo U7 U9 (xo Xr Xw (xv 2) xi) xi) xi)<|wA<|tc XQ XO (xv 7)<|xv 8) (b1<|sF 7<|sF 8<|se (Hc (i:=7) (j:=8) rfl Fx.nd rfl rfl (by decide) rfl rfl (bz (pv 8)<|pv 7)<|by rfl)<|LS<|tz (Uc 8)<|Uc 7) b0)<|bc (sS 9 n<|xt<|a2 (xf Yw v<|a2 (xv 1)<|xv 7)<|xf Yw v<|a2 (xv 1)<|xv 8)<|b1<|sI (tI v (xv 9)<|xv 4) (b1<|sF 9<|sA 4<|xv 9) b0)<|b1<|sV 4)) (.a ?_)
 ·rintro ds R X ⟨x,m,rfl,H,hR⟩;refine⟨rfl,?_⟩;have u:=H;obtain⟨a,b,c,d,e,rfl,ha,hb,hc,hd,he⟩:=H;refine⟨x,1,rfl,by decide,λl=>?_⟩
  have r:∃p:Int,atI [D.int 10,.int (if a>2 then a else 2)] (l / 63 % 2)=some (.int p)/\2<=p/\p<=10:=by
   have:l / 63 % 2=0\/l / 63 % 2=1:=by omega
   rcases this with e|e<;>rw[e]
   ·exact⟨10,rfl,by decide,by decide⟩
   ·exact⟨_,rfl,by split<;>omega,by split<;>omega⟩
  obtain⟨pool,ep,hp⟩:=r;refine⟨_,rfl,by simp,⟨by decide,by decide⟩,(by show(0:Int)<2;decide),_,ep,by simp,(by show(0:Int)<21;decide),⟨by omega,by omega⟩,Kq (λi f=>∃h:Yb,f=[some (.bor<|.scr x),some (.bor<|.lst (([a,b,c,d,e]:Yc).map D.int)),some (.sh<|.int l),some (.sh<|.int pool),some (.own<|h.map prD),none,none,none,none,none]/\X2 h/\h.length<=i) ⟨[],rfl,IS,Wk _⟩ ?_ ?_⟩
  ·rintro i f hi ⟨h,rfl,y,hl⟩;have hi':i<(l % 21).toNat:=hi;have Y:(h.map prD).length=h.length:=Wc ..;refine⟨x,_,rfl,by omega,λcell=>?_⟩;refine⟨(by show 0<pool;omega),⟨by omega,by omega⟩,(by show 0<pool-1;omega),(by show 0<pool;omega),?_⟩
   have q:(0<=cell % pool/\cell % pool<=9)/\(0<=(cell % pool+1+cell / pool % (pool-1)) % pool/\(cell % pool+1+cell / pool % (pool-1)) % pool<=9)/\cell % pool≠(cell % pool+1+cell / pool % (pool-1)) % pool:=by
    have J:=QK cell (show pool≠0 by omega);have g2:=Q3 cell (show 0<pool by omega);have g3:=QK (cell / pool) (show pool-1≠0 by omega);have g4:=Q3 (cell / pool) (show 0<pool-1 by omega);obtain⟨⟨U,k2⟩,T⟩:=two_ne ⟨J,g2⟩ ⟨g3,g4⟩;exact⟨⟨J,by omega⟩,⟨U,by omega⟩,T⟩
   refine Za5 (λf=>∃(o t:Int) (E C:Option S),((0<=o/\o<=9)/\(0<=t/\t<=9)/\o≠t)/\f=[some (.bor<|.scr x),some (.bor<|.lst (([a,b,c,d,e]:Yc).map D.int)),some (.sh<|.int l),some (.sh<|.int pool),some (.own<|h.map prD),E,C,some (.sh<|.int o),some (.sh<|.int t),none]) ?_ ?_
   ·refine⟨⟨by decide,by decide⟩,(by show(0:Int)<3;decide),Uq (λ_=>Uq (λ_=>?_) (λ_=>?_)) (λ_=>U4 ?_)⟩
    ·exact⟨_,_,_,_,⟨q.2.1,q.1,λz=>q.2.2 z.symm⟩,rfl⟩
    ·exact⟨_,_,_,_,q,rfl⟩
    ·exact⟨_,_,_,_,q,rfl⟩
   ·rintro f ⟨o,t,E,C,s,rfl⟩;refine⟨_,_,rfl,u,λB Q N e1=>⟨_,_,rfl,u,λA M L e2=>?_⟩⟩;have b3:=RQ u s.1 s.2.1 s.2.2;refine⟨by simp,_,.lp (B,A) h,Uq (λg=>?_) (λg=>?_)⟩
    ·have g':(B,A)∉h:=λz=>by rw[Wj rfl,Wh z]at g;cases g
     refine⟨by omega,h++[(B,A)],?_,Mq y (A0 ⟨Q,N⟩ ⟨M,L⟩ (by rw[e1,e2];exact b3) g'<|by omega),?_⟩
     ·rw[WC];rfl
     ·rw[Wx,List.length_singleton];omega
    ·exact⟨h,rfl,y,by omega⟩
  ·rintro f ⟨h,rfl,y,hl⟩;exact hR h y
def Zaj(q:Uw K (U6 K (Up ζ) "price") "price" "Village.price" Fp ["self","order"])
  : GC ζ:=by
 refine q.fy Mn (λb n=>(b1<|sR<|xg YO b ExcR.UV<|a2 (xe (X3 Ys G.Za (hq<|b ()) Xt<|pv 0)<|X8 P9 (Uc 0) UW)<|xv 1)) (.a ?_)
 ·rintro r R X ⟨bk,fs,g,f,os,rfl,p,h,l,o⟩;refine⟨rfl,?_⟩;exact⟨rfl,rfl,bk,fs,g,f,rfl,f,os,rfl,p,h,l,o⟩
def Ob(U:Def K mg "_law_sold" Sd ["_law_village","_law_strips_here","_law_cell"])
  : D8 ζ:=by
 refine U.fz HJ (λy n=>(bc (sI (te (KH (Df (K:=K)<|show _<cLine from(y ()).units0) (pv 1) (X4 UO)<|KB _)<|KE<|Dw (Uc 1)<|XY UW) (b1<|se (U3<|pv 1)<|Gq 1<|Sf<|Uc 1) b0)<|bc (sS 3 n<|xo U7 U9 (xv 2)<|xl G.len<|xv 1)<|bc (sS 4 n<|xo UM UK xi<|xo U7 U9 (xo UM UK (xx (xx (xv 1)<|xv 3) xi)<|xo U7 U9 (xo Xr Xw (xv 2) xi) xi) xi)<|bc (sF 4<|se (X6<|Kf YR G.Za (hq<|y ()) To (pv 0)<|bz (Xm UM (pv 3) Xk)<|pv 4)<|Tu<|N3 0 Mb<|tz (UK (Uc 3) U2)<|Uc 4)<|b1<|sF 4<|se (U3<|Xm Ts (Xm Ts (BW (Bc (K:=K)) (pv 1) Bl<|Bw<|pv 3)<|X4<|az<|T6<|bz (pv 4)<|jx K (jx K (pv 1)<|pv 3) Xk)<|BW (Bc (K:=K)) (pv 1) (Bw<|Xm UM (pv 3) Xk) Bl)<|Sf<|Tw (Tw (Si (Uc 1) B9<|B8<|Uc 3)<|XY<|sz<|T3<|tz (Uc 4)<|Xx (Xx (Uc 1)<|Uc 3) U2)<|Si (Uc 1) (B8<|UK (Uc 3) U2) B9)) (.c ?_)
 ·rintro o Y R X ⟨x,b1,T,Q,bk,fs,l,f,w,c,rfl,rfl,k1,k2,k3,s,E,B⟩;refine⟨rfl,?_⟩;have J:(f.map prD).length=f.length:=Wc ..;have M:(f.map prD).isEmpty=decide (f=[]):=by cases f<;>simp
  refine⟨by decide,?_⟩;show if (f.map prD).isEmpty=true then _ else _;rw[M];refine Uq (λg=>⟨_,rfl,⟨rfl,by simp⟩,B bk fs l f s E⟩) λg=>?_;have hn:0<f.length:=List.length_pos_iff.mpr λz=>g (Wh z)
  have L:0<=c % ((f.map prD).length:Int)/\c % ((f.map prD).length:Int)<f.length:=by
   rw[J];exact⟨QK _ (by lia),Q3 _ (by lia)⟩
  show(0:Int)<((f.map prD).length:Int)/\Kz 3 (S.sh<|D.int (c % ((f.map prD).length:Int))) _ _;refine⟨by lia,?_⟩;generalize c % ((f.map prD).length:Int)=k at L ⊢;have h:=F6 (ps:=f) (p:=k+1) (by lia) (by lia);rw[show k+1-1=k by lia]at h;have H:=s _ (Ha (ps:=f) (p:=k+1) (by lia)<|by lia);have v:=λx:Int×Int=>CM (ps:=f) (p:=k+1) (x:=x) (by lia) (by lia);rw[show k+1-1=k by lia]at v
  have A:Kb f (k+1) (1+((UP f (k+1)).1+c / 40 % 9) % 10)=f.set k.toNat (1+((UP f (k+1)).1+c / 40 % 9) % 10,(UP f (k+1)).2):=by
   unfold Kb;rw[show k+1-1=k by lia]
  have u:Kj f (k+1) (1+((UP f (k+1)).1+c / 40 % 9) % 10)=none:=by
   unfold Kj;rw[Wf (by lia),Wf (by lia),Wf (by lia)]
  have b:=Ls s u;have r:=OH f (k+1) (1+((UP f (k+1)).1+c / 40 % 9) % 10);generalize N:UP f (k+1)=q at h H A u b r;refine⟨_,h,_,rfl,⟨by decide,by decide⟩,(show(0:Int)<9 by decide),(show(0:Int)<10 by decide),?_⟩;refine⟨rfl,rfl,x,b1,T,Q,bk,fs,l,f,w,_,_,rfl,rfl,by lia,by lia,by lia,by lia,?_⟩;unfold Se;rw[Wf (by lia),u];have C:=WA List.length (v (1+(q.1+c / 40 % 9) % 10,q.2));rw[Wx,Wx,Wc,WV]at C;refine⟨rfl,_,h,_,rfl,by simp,by simp,rfl,rfl,?_,rfl,rfl,rfl,?_,?_⟩
  ·show _+1<=100000
   have:[prD (1+(q.1+c / 40 % 9) % 10,q.2)].length=1:=rfl
   lia
  ·show(_++[prD (1+(q.1+c / 40 % 9) % 10,q.2)]).length+_<=100000;rw[Wx];lia
  ·refine⟨_,rfl,⟨rfl,by simp⟩,?_⟩
   have:=B (bk++[(("sell" : Str),[k+1,1+(q.1+c / 40 % 9) % 10])]) (fs++[f]) (l++[w]) _ b (by lia)
   rw[show plD (Kb f (k+1) (1+(q.1+c / 40 % 9) % 10))=.lst ((f.set k.toNat (1+(q.1+c / 40 % 9) % 10,q.2)).map prD) by rw[A],←v]at this;exact this
def OQ(u:Def K mg "told_question" NV ["village","word","numbers"])
  : D6 ζ:=by
 refine u.fy R9 (λb n=>(bc (sI (tq b (xv 1) xs) (b1<|se Xi Xg) b0)<|bc (sI (tq b (xv 1) xs) (b1<|se Xi Xg) b0)<|bc (sI (tq b (xv 1) xs) (b1<|se Xi Xg) b0)<|bc (sI (tq b (xv 1) xs) (b1<|se Xi Xg) b0)<|bc (sI (tq b (xv 1) xs) (b1<|se Xi Xg) b0)<|bc (sI (tq b (xv 1) xs) (b1<|se Xi Xg) b0)<|bc (sI (tq b (xv 1) xs) (b1<|se Xi Xg) b0)<|bc (sI (tq b (xv 1) xs) (b1<|sR<|xe (Xn Tc (by rfl) G.Zn boot_str<|az<|Kf Y5 G.Za (hq<|b ()) ExcR.UV (pv 0)<|az<|pv 2)<|P0<|sz<|TM A7 (Uc 0)<|sz<|Uc 2) b0)<|bc (sI (tq b (xv 1) xs) (b1<|sR<|xf YM b<|a1<|xe (Kf Y4 G.Za (hq<|b ()) ExcR.UV (pv 0)<|az<|pv 2)<|TM ER (Uc 0)<|sz<|Uc 2) b0)<|b1<|se Xi Xg)) (.a ?_)
 ·rintro v R X ⟨bk,fs,o,f,w,os,word,rfl,s,l,r,p,h,g⟩;refine⟨rfl,?_⟩;rcases s with rfl|rfl
  ·refine⟨rfl,rfl,bk,fs,o++[w],f,os,rfl,l,by lia,p,?_⟩;cases e:UH f os with
   |some c=>rw[e]at g;exact g
   |none=>
    rw[e]at g;exact⟨PV (FC l r<|by rw[(RT e).length_eq];exact TZ f),g⟩
  ·refine⟨rfl,rfl,bk,fs,o,f,w,os,rfl,l,by lia,p,by have:=h.1;lia,?_⟩;cases e:UH f os with
   |some c=>rw[e]at g;exact g
   |none=>
    rw[e]at g;refine⟨_,rfl,by have:=h.1;have:=Qc (U8 os) w;lia,λq hq=>by have:=(h.2.2 q (Qz.mp hq).1).1;lia,g⟩
def Mf(s:Def K mg "told_row" B7 ["village","word","numbers"])
  : EN ζ:=by
 refine s.fy Zcw (λh n=>(bc (sI (te (P3<|SX G.Z7<|pv 1)<|Py<|SE<|Uc 1) (bc (se Xi Xg)<|b1<|se Xi Xg) b0)<|bc (sI (tq h (xv 1) xs) (b1<|se Xi Xg) b0)<|b1<|sR<|xg YW h ExcR.UV<|a3 (xv 0) (xv 1)<|xv 2)) (.a ?_)
 ·rintro u R X ⟨bk,fs,b,f,w,os,word,rfl,r,q,g,l,o,p⟩;refine⟨rfl,?_⟩;rcases r with rfl|rfl
  ·exact⟨bk,fs,b,f,w,os,_,rfl,.inl rfl,q,g,l,o,p⟩
  ·exact⟨bk,fs,b,f,w,os,_,rfl,.inr rfl,q,g,l,o,p⟩
def GX(u:Def K mg "told_or_refused" Ss ["village","word","numbers"])
  : EK ζ:=by
 refine u.fz AK (λl n=>(b1<|se (ExcR.Zb1 (λpins D=>(UE<|U3<|ExcR.Lp YX (hq<|l ()) (ExcR.Zbd (pins:=pins) (D:=D) rfl rfl<|ExcR.Xf rfl G.Zh (by decide) (λa=>(UE<|U3 U0))<|ExcR.Xf rfl G.Zm (by decide) (λa=>(UE<|U3 U0))<|ExcR.Xf rfl G.Zt (by decide) (λa=>(UE<|U3 U0))<|ExcR.Xf rfl G.Zq (by decide) (λa=>(UE<|U3 U0))<|ExcR.Xf rfl G.ZG (by decide) (λa=>(UE<|U3 U0))<|ExcR.Xf rfl G.Zv (by decide) (λa=>(UE<|U3 U0))<|ExcR.Xf rfl G.ZH (by decide) (λa=>(UE<|U3 U0))<|ExcR.Xf rfl G.Zj (by decide) (λa=>(UE<|U3 U0))<|ExcR.Xf rfl G.Zk (by decide) (λa=>(UE<|U3 U0))<|ExcR.Xf rfl G.Zi (by decide) (λa=>(UE<|U3 U0))<|ExcR.Xf rfl G.ZJ (by decide) (λa=>(UE<|U3 U0))<|ExcR.Xf rfl G.Zr (by decide) (λa=>(UE<|U3 U0))<|ExcR.Xf rfl G.Zz (by decide) (λa=>(UE<|U3 U0))<|ExcR.Xf rfl G.Z5 (by decide) (λa=>(UE<|U3 U0))<|ExcR.Xf rfl G.Zp (by decide) (λa=>(UE<|U3 U0))<|ExcR.R8 (i:=3) AK.nd rfl rfl rfl G.ZK (by decide) (λa=>(Kr Xi<|UE Xi)) ExcR.Zas)<|dz (pv 0) (pv 1)<|pv 2)))<|Mz (E':=λ_=>E0) ["BadOrder"] ["TooManyStrips","BadHolder","NoStrip","OwnStrip","BadPart","UnlikeHolders","TooWide","LikeHolders","WishStands","TooManyWishes","NoWish","BookFull","NothingDone","NoSuchDeed","BadOrder","Ringed"] (G.ex.sub (by decide)<|by decide) (.cons (UT Ux)<|.cons (UT Ux)<|.cons (UT Ux)<|.cons (UT Ux)<|.cons (UT Ux)<|.cons (UT Ux)<|.cons (UT Ux)<|.cons (UT Ux)<|.cons (UT Ux)<|.cons (UT Ux)<|.cons (UT Ux)<|.cons (UT Ux)<|.cons (UT Ux)<|.cons (UT Ux)<|.cons (UT Ux) (.cons (D4 Xg
    Xg)
    .nil)) (λD=>(UT<|Lr<|uz (Uc 0) (Uc 1)<|Uc 2)))) (.a ?_)
 ·rintro v R X ⟨bk,fs,g,f,w,os,word,rfl,p,r,h,o,q,b⟩;refine⟨rfl,bk,fs,g,f,w,os,word,rfl,p,r,h,o,q,?_⟩;unfold KG at b;by_cases e:UH f os=none
  ·rw[e]at b ⊢;exact b
  ·have s:UH f os=some ("BadOrder" : Str):=by
    unfold UH at e ⊢;split
    ·rename_i z;rw[Wj z]at e;exact absurd rfl e
    ·rfl
   rw[Wf e]at b;rw[s];exact .inl ⟨by simp,b⟩
def Le(T:Def K mg "answer" BX ["village","row"])
  : FK ζ:=by
 refine T.fz Za8 (λq n=>(bc (sS 2 n<|xe (Kl (K:=K) Q5 PySem.F.slot_str_split PySem.F.type_str_split MA (pv 1)<|az U0)<|Hf (Uc 1) Ux)<|bc (sI (tN<|tt<|xf YL q<|a2 (xx (xv 2) xi)<|xp (xv 2) (o1 xi) o0) (b1<|sR xs) b0)<|b1<|sR<|xf YY q<|a3 (xv 0) (xx (xv 2) xi)<|xC ["text"] [none] (jL<|xp (xv 2) (o1 xi) o0) (gN 0) f0<|xe (Xn RF (by rfl) G.ZE boot_int<|az<|pv 0)<|MP<|sz<|Uc 0)) (.a ?_)
 ·rintro Y R X ⟨bk,fs,u,f,w,os,word,rfl,p,J,x,y,l,E,H⟩;refine⟨rfl,?_⟩;have o:(" " : Str)=spc:=by decide +kernel
  have hw:word.length<=6/\32∉word.cps.toList:=by rcases p with rfl|rfl<;>exact⟨by decide +kernel,by decide +kernel⟩
  have B:∀v∈word::os.map nS,32∉v.cps.toList:=λv b=>by
   rcases Wo.mp b with rfl|b
   ·exact hw.2
   ·obtain⟨n,g,rfl⟩:=W6.mp b;exact HI (l n g).1
  have C:∀v∈word::os.map nS,v.length<=6:=λv b=>by
   rcases Wo.mp b with rfl|b
   ·exact hw.1
   ·obtain⟨n,g,rfl⟩:=W6.mp b
    have:=(XF (l n g).1 (l n g).2).2.1
    lia
  have Q:Txt.split (Str.join spc (word::os.map nS)) " " = word::os.map nS:=by rw[o];exact On (by simp) B
  have A:(Str.join spc (word::os.map nS)).length+2<=sizeLine:=by
   have r:=Va spc (word::os.map nS);have N:=StrLaws.sumLen_le _ C;have M:(word::os.map nS).length=os.length+1:=by rw[WW,Wc]
   have L:spc.length=1:=rfl;have U:(10000:Nat)<=sizeLine:=by decide
   rw[M]at r N;rw[L]at r;lia
  have s:cutD ((word::os.map nS).map D.str) (some 1) none=os.map λn=>D.str (nS n):=by
   rw[Sb _ (by decide)];show(os.map nS).map D.str=_;rw[WR];rfl
  refine⟨rfl,A,?_⟩;rw[Q];refine⟨_,Bk _ _,rfl,word,os,WA (λz=>[D.str word,D.lst z]) s,p,l,by lia,U4 ?_⟩;refine⟨_,Bk _ _,rfl,?_⟩;show Ti _ _ _ _ _ (cutD ((word::os.map nS).map D.str) (some 1) none).length (λi=>S.sub (.own<|.lst<|cutD ((word::os.map nS).map D.str) (some 1) none) ((cutD ((word::os.map nS).map D.str) (some 1) none).getD i .non)) _;rw[s];refine Ka (xs:=os) (emb:=λn=>D.str (nS n)) (λn=>some (.int n)) (by lia) (λn g=>?_) ?_
  ·have h:=l n g;exact⟨n,Lm h.1 h.2,by have:=(XF h.1 h.2).2.1;lia,_,rfl,rfl⟩
  have em:os.filterMap (λn=>some (D.int n))=os.map D.int:=by rw[WS]
  rw[em];exact⟨bk,fs,u,f,w,os,word,rfl,p,J,x,y,E,H⟩
def O2(DD:Def K mg "_law_in_words" BH ["_law_village","_law_order","_law_price_here","_law_broken"])
  : EF ζ:=by
 refine DD.fz Zc2 (λH n=>(bc (sS 4 n<|xe (Kl (K:=K) Q5 Vh Vi (BG (K:=K)) U0<|az<|cz ["_law_number"] [none] (TX (K:=K)<|pv 1) ⟨(gk 0),PU,(Xm Pa U0<|Xn Tc (by rfl) G.Zn boot_str<|az<|pv 0)⟩)<|Bh Ux<|PM (Sl<|Uc 1) (Km 0) Nv<|Pe Ux<|P0<|sz<|Uc 0)<|bc (sC 5 ["_law_pair"] [none] n (jL<|xv 3) (gN 0) f0<|xe (Xm Pa (Xm Pa (Xn Tc (by rfl) G.Zn boot_str<|az<|jx K (pv 0) Xk) U0)<|Xn Tc (by rfl) G.Zn boot_str<|az<|jx K (pv 0) Xk)<|Pe (Pe (P0<|sz<|Xx (Uc 0) U2) Ux)<|P0<|sz<|Xx (Uc 0) U2)<|bc (sS 6 n<|xL<|a2 (xf Y6 H<|a2 (xv 0)<|xe (Xm Pa U0<|pv 4)<|Pe Ux<|Uc 4)<|xf Y6 H<|a2 (xv 0)<|xe (Xm Pa U0<|pv 4)<|Pe Ux<|Uc 4)<|bc (sI (tp<|wo (tN<|tt<|xe (Xe (Kw (K:=K)) (by rfl) G.Zb Qq<|bz (jx K (pv 6) Xk)<|K7 (v:=.ty "str") rfl G.Zn boot_str rfl)<|KL<|tz (Xx (Uc 6) U2) K8)<|wO<|tN<|tt<|xe (Xe (Kw (K:=K)) (by rfl) G.Zb Qq<|bz (jx K (pv 6) Xk)<|K7 (v:=.ty "str") rfl G.Zn boot_str rfl)<|KL<|tz (Xx (Uc 6) U2) K8) (b1<|sR xb) b0)<|b1<|sR<|xe (S9 (Ru (K:=K)<|show _<cLine from(H ()).units0) (pv 6) (X4<|bz (Xn Tc (by rfl) G.Zn boot_str<|az<|pv 2)<|Xm Pa (Kl (K:=K) Q5 Vh Vi (BG (K:=K)) U0<|az<|pv 5)<|Xm Zah U0<|Xn Zbr (by rfl) G.ZE boot_int<|az<|S9 (Df (K:=K)<|show _<cLine from(H ()).units0) (pv 5) (X4 UO)<|KB _)<|KB _)<|Lf (Uc 6)<|XY<|tz (P0<|sz<|Uc 2)<|Pe (Bh Ux<|Uc 5)<|Hn Ux<|MH<|sz<|Dw (Uc 5)<|XY UW)) (.a ?_)
 ·rintro ds R X ⟨bk,fs,C,f,w,os,rfl,x,Q,T,J,hR⟩;refine⟨rfl,?_⟩;have ho:=F7 T;have U:os.length<=10:=by rw[T.length_eq];exact TZ f
  have o:∀n∈os,1<=n/\n<=10:=λn o=>by
   obtain⟨q,hq,rfl⟩:=W6.mp ((Sa x).mp (T.mem_iff.mp o))
   have:=x q hq
   lia
  have A:∀a b:Str,(a++b).length=a.length+b.length:=λa b=>by
   show(a.cps++b.cps).size=_;rw[Array.size_append];rfl
  have hs:(100000:Nat)<=sizeLine:=by decide
  have E:(" " : Str).length=1:=by decide +kernel
  have hb:∀v∈os.map (λn=>(" " : Str)++nS n),v.length<=5:=λv p=>by
   obtain⟨n,g,rfl⟩:=W6.mp p
   have:=(XF (n:=n) (by have:=o n g;lia)<|by have:=o n g;lia).2.1
   rw[A,E];lia
  have hJ:JoinOk ("" : Str) (os.map λn=>(" " : Str)++nS n)=true:=by
   unfold JoinOk;rw[StrLaws.joinFits (B:=5) hb (by rw[Wc,show("" : Str).length=0 by decide +kernel];lia)];rfl
  have em:os.filterMap (λn=>some (D.str ((" " : Str)++nS n)))=(os.map λn=>(" " : Str)++nS n).map D.str:=by rw[WS,WR];rfl
  refine Ka (xs:=os) (emb:=D.int) (λn=>some (.str ((" " : Str)++nS n))) (by lia) (λn g=>?_) ?_
  ·have h:=o n g
   have:=(XF (n:=n) (by lia)<|by lia).2.1
   exact⟨PV ⟨by lia,by lia⟩,by show(" " : Str).length+(nS n).length<=sizeLine;rw[E];lia,_,rfl,rfl⟩
  rw[em];refine⟨_,rfl,hJ,?_⟩;have L:=λword:Str=>Za3 word os;generalize eN:Txt.join ("" : Str) (os.map λn=>(" " : Str)++nS n)=N at L
  have u:∀word:Str,word.length<=6->word.length+N.length<=sizeLine:=λword hw=>by
   rw[←A,L];have r:=Va spc (word::os.map nS)
   have s:=StrLaws.sumLen_le (B:=6) (word::os.map nS) λv p=>by
    rcases Wo.mp p with rfl|p
    ·exact hw
    ·obtain⟨n,g,rfl⟩:=W6.mp p
     have:=(XF (n:=n) (by have:=o n g;lia)<|by have:=o n g;lia).2.1
     lia
   have h3:(word::os.map nS).length=os.length+1:=by rw[WW,Wc]
   have h4:spc.length=1:=rfl;rw[h3]at r s;rw[h4]at r;lia
  have hq:∀q∈w.filter (U8 os),(0<=q.1/\q.1<=10)/\(0<=q.2/\q.2<=10):=λq hq=>by have:=(J.2.2 q (Qz.mp hq).1).1;lia
  have Y:(w.filter<|U8 os).length<=20:=Wt (Qc ..) J.1;have d1:KG f w os "price"=nS (Ur f f.length os):=by unfold KG PD;rw[Wj ho,Wj rfl]
  have d2:KG f w os "broken"=X9 (w.filter<|U8 os):=by unfold KG PD;rw[Wj ho,Wf (by decide +kernel)]
  have gl:=L3 (w.filter<|U8 os);generalize w.filter (U8 os)=l at hq Y d2 gl ⊢
  have M:∀q∈l,(nS q.1).length<=4/\(nS q.2).length<=4/\(wS q).length<=9:=λq g=>by
   have h:=hq q g;have r:=(XF (n:=q.1) (by lia)<|by lia).2.1;have s:=(XF (n:=q.2) (by lia)<|by lia).2.1;refine⟨r,s,?_⟩;unfold wS;rw[A,A,show(">" : Str).length=1 by decide +kernel];lia
  have hJ2:JoinOk (" " : Str) (l.map wS)=true:=by
   unfold JoinOk;rw[StrLaws.joinFits (B:=9) (λy hy=>by obtain⟨q,g,rfl⟩:=W6.mp hy;exact(M q g).2.2) (by rw[Wc,E];lia)];rfl
  have em2:l.filterMap (λq=>some (D.str<|wS q))=(l.map wS).map D.str:=by rw[WS,WR];rfl
  refine Ka (xs:=l) (emb:=prD) (λq=>some (.str<|wS q)) (by lia) (λq g=>?_) ?_
  ·have h:=hq q g;have s:=M q g;refine⟨_,rfl,PV ⟨by lia,by lia⟩,?_,_,rfl,PV ⟨by lia,by lia⟩,?_,_,rfl,rfl⟩
   ·show(nS q.1).length+(">" : Str).length<=sizeLine;rw[show(">" : Str).length=1 by decide +kernel];lia
   ·show(nS q.1++(">" : Str)).length+(nS q.2).length<=sizeLine;rw[A,show(">" : Str).length=1 by decide +kernel];lia
  rw[em2];have ov:=FC x Q U;refine⟨u _ (by decide +kernel),bk,fs,C,f,w,os, "price",WA (λz=>[Xz (ExcR.Ug mg "Village") bk (fs++[f]) (C++[w]),.str z]) (L _),.inl rfl,x,Q,by lia,λn g=>by have:=o n g;lia,J,?_⟩;refine⟨u _ (by decide +kernel),bk,fs,C,f,w,os, "broken",WA (λz=>[Xz (ExcR.Ug mg "Village") bk (fs++[f]) (C++[w]),.str z]) (L _),.inr rfl,x,Q,by lia,λn g=>by have:=o n g;lia,J,?_⟩;rw[d1,d2];have mo:∀k:Bool,MulOk ("none" : Str) (if k=true then 1 else 0):=λk=>by cases k<;>exact⟨by decide +kernel,by decide +kernel,by decide +kernel⟩
  have ml:∀k:Bool,(Txt.mul ("none" : Str) (if k=true then 1 else 0)).length<=4:=λk=>by cases k<;>decide +kernel
  have jl:(Txt.join (" " : Str)<|l.map wS).length<=1000:=by
   rw[show Txt.join (" " : Str) (l.map wS)=Str.join (" " : Str) (l.map wS)from StrLaws.glued_eq_join _ _]
   have r:=Va (" " : Str) (l.map wS);have s:=StrLaws.sumLen_le (B:=9) (l.map wS) λv p=>by obtain⟨q,g,rfl⟩:=W6.mp p;exact(M q g).2.2
   rw[Wc]at r s;rw[E]at r;lia
  refine⟨by simp,_,rfl,true,.same _,U4 ⟨_,rfl,true,.same _,U4 ?_⟩⟩;refine⟨PV ov,l.map wS,rfl,hJ2,by decide,mo _,?_,by simp,?_⟩
  ·have:=ml ((l.map wS).map D.str).isEmpty
   show _+(Txt.mul ("none" : Str) _).length<=sizeLine;lia
  refine⟨[.str (nS<|Ur f f.length os),.str (X9 l)],[.str (nS<|Ur f f.length os),.str (X9 l)],rfl,WA (λz=>some [V.str (nS<|Ur f f.length os),V.str z]) gl,rfl,rfl,?_⟩;show R (.sh<|.bl<|eqL [V.str (nS<|Ur f f.length os),V.str (X9 l)] [V.str (nS<|Ur f f.length os),V.str (X9 l)])
  have ee:∀a b:Str,eqL [V.str a,V.str b] [V.str a,V.str b]=true:=λa b=>by
   unfold eqL;rw[Wh rfl,QH,W4];intro j hj;have hj:j<2:=Q7.mp hj;rcases(by lia:j=0\/j=1)with rfl|rfl
   ·show decide (a=a)=true;exact Wh rfl
   ·show decide (b=b)=true;exact Wh rfl
  rw[ee];exact hR
def LB(DD:Def K mg "law" XJ ["_law_script"])
  : Ov ζ:=by
 refine DD.fz G3 (λb n=>(bc (sS 1 n<|xf YE b<|a1<|xf Yt b<|a2 (xv 0) xi)<|bc (sS 2 n<|xf YT b<|a3 (xv 0) (xv 1)<|xo U7 U9 (xo Xr Xw (xf Yr b<|a2 (xv 0) xi) xi) xi)<|bc (sS 3 n<|xf YU b<|a2 (xv 0)<|xv 1)<|bc (sS 4 n<|xe (Iw YQ G.ZI (hq<|b ()) To<|az<|Xn (PK (K:=K)) (by rfl) G.Zg boot_list<|az<|pv 2)<|Zbp<|sz<|PX<|sz<|Uc 2)<|bc (sF 3<|sO [5,6] WG (iL<|xv 3) (gT 2<|gc (gN 5)<|gc (gN 6) g0)<|b1<|sF 6<|sF 5<|se (X6<|Kf YS G.Za (hq<|b ()) To (pv 4)<|bz (pv 5)<|pv 6)<|Tu<|N3 4 Zc5<|tz (Uc 5)<|Uc 6)<|bc (sS 7 n<|xf YN b<|a1<|xv 0)<|bc (sF 7<|sF 2<|se (Pu.pz 2 G3.nd<|fz YV (b ())<|dz (pv 4) (pv 2)<|pv 7)<|Hj (Lz 4<|tz (Uc 2)<|Uc 7)<|Km 2)<|bc (sS 8 n<|xf YH b<|a2 (xf YF b<|a1<|xv 2)<|xo Xr Xw (xf Yt b<|a2 (xv 0) xi) xi)<|bc (sS 9 n<|xL a0)<|bc (sF 3<|sO [5,6] WG (iL<|xv 3) (gT 2<|gc (gN 5)<|gc (gN 6) g0)<|b1<|sI (tp<|wa (ti b (xv 5)<|xv 8)<|wa (ti b (xv 6)<|xv 8)<|wA<|tc XQ XO (xe (Kl (K:=K) WD Qy QV (Be (K:=K)) (pv 8)<|az<|pv 5)<|Bv (Uc 8)<|sz<|Uc 5)<|xe (Kl (K:=K) WD Qy QV (Be (K:=K)) (pv 8)<|az<|pv 6)<|Bv (Uc 8)<|sz<|Uc 6) (b1<|sF 6<|sF 5<|sA 9<|xt<|a2 (xv 5)<|xv 6) b0)<|bc (sS 10 n<|xf YG b<|a2 (xv 2)<|xv 8)<|bc (sS 11 n<|xe (Xn (PK (K:=K)) (by rfl) G.Zg boot_list<|az<|pv 8)<|PX<|sz<|Uc 8)<|bc (sI (tp<|wo (tN<|tt<|xf Yx b<|a2 (xL<|a1<|xe (Kf Y5 G.Za (hq<|b ()) To (pv 4)<|az<|pv 11)<|X8 A7 (Uc 4)<|sz<|Uc 11)<|xL<|a1<|xv 10)<|wO<|tN<|tt<|xf Yx b<|a2 (xv 11)<|xv 8) (b1<|sR xb) b0)<|bc (sI (tp<|wo (tN<|tt<|xf Yy b<|a2 (xe (Kf Y4 G.Za (hq<|b ()) To (pv 4)<|az<|pv 11)<|X8 ER (Uc 4)<|sz<|Uc 11)<|xv 9)<|wO<|tN<|tt<|xf Yx b<|a2 (xv 11)<|xv 8) (b1<|sR xb) b0)<|bc (sI (tN<|tt<|xf YZ b<|ac (xv 4)<|ac (xv 8)<|ac (xv 10)<|ac (xv 9) a0) (b1<|sR xb) b0)<|b1<|sR<|xe (Gk (fz Yy (b ())<|bz (X3 Ys G.Za (hq<|b ()) Xt<|pv 4)<|pv 2)<|Ab<|fz Yy (b ())<|bz (X3 Yv G.Za (hq<|b ()) Xt<|pv 4)<|pv 3)<|FA (TC<|tz (X8 P9 (Uc 4) UW)<|Uc 2)<|TC<|tz (X8 Nw (Uc 4) UW)<|Uc 3)) (.a ?_)
 ·rintro ds R X ⟨u,rfl,hR⟩;refine⟨rfl,u,0,rfl,by decide,λc0=>⟨c0,rfl,λm hM=>?_⟩⟩;refine⟨u,0,rfl,by decide,λa0=>⟨⟨by decide,by decide⟩,(by show(0:Int)<41;decide),u,m,_,rfl,hM,by lia,by lia,λB hF hlen=>?_⟩⟩;have hps:B.length<=40:=by lia
  refine⟨u,m,rfl,hM,λW hW=>?_⟩;refine⟨rfl,λx=>⟨x,B,rfl,rfl,by lia,?_⟩⟩;rw[Zb7 hF (by lia)];refine λb1 Q N=>⟨rfl,?_⟩;have L:=hW.1;refine⟨rfl,Tt (xs:=W) (emb:=prD) (λi g=>∃(bk:List (Str×Yc)) (fs A:List (Yb)),g=[some (.bor<|.scr u),some (.own<|.lst<|m.map D.int),some (.own<|.lst<|B.map prD),some (.sh<|plD W),some (.own<|vO (ExcR.Ug mg "Village") x b1 Q N bk (fs++[B]) (A++[W.take i])),none,none,none,none,none,none,none]/\bk.length=i/\fs.length=i/\A.length=i) ⟨[],[],[],rfl,rfl,rfl,rfl⟩ ?_ ?_⟩
  ·rintro i M g ⟨bk,fs,A,rfl,k1,k2,k3⟩;refine⟨rfl,rfl,rfl,x,b1,Q,N,bk,fs,A,B,W.take i,W[i].1,W[i].2,rfl,rfl,by lia,by lia,by lia,by rw[WN];lia,?_⟩;unfold NZ;rw[Wf (by lia),Io hW M];refine⟨bk++[(("wish" : Str),[W[i].1,W[i].2])],fs++[B],A++[W.take i],?_,by simp[k1],by simp[k2],by simp[k3]⟩;rw[WO M];rfl
  rintro g ⟨bk,fs,A,rfl,k1,k2,k3⟩;rw[QE];refine⟨u,rfl,λsp=>?_⟩;refine⟨x,b1,Q,N,bk,fs,A,B,W,sp,rfl,rfl,by lia,by lia,by lia,hF,hps,λr o l f s hl'=>?_⟩;have hhm:=TZ f;refine⟨f,rfl,by lia,u,1,rfl,by decide,λv=>⟨⟨by decide,by decide⟩,U5 f,_,rfl,by lia,λos E=>?_⟩⟩;have hol:=E.length_eq;have H:os.Nodup:=E.nodup_iff.mpr ((Px f).imp λh=>Int.ne_of_lt h);have ho:=F7 E;have J:=RR s E;have T:Ur f f.length os=XM f os f.length:=Gc H f.length λj hj=>J _ (by rw[Wl,Wb hj];exact W9 hj);refine⟨by decide,rfl,Tt (xs:=W) (emb:=prD) (λi g=>g=[some (.bor<|.scr u),some (.own<|.lst<|m.map D.int),some (.sh<|plD f),some (.sh<|plD W),some (.own<|vO (ExcR.Ug mg "Village") x b1 Q N r (o++[f]) (l++[W])),none,none,some (.sh<|.int sp),some (.own<|.lst<|os.map D.int),some (.own<|.lst (((W.take i).filter (U8 os)).map prD)),none,none]) rfl ?_ ?_⟩
  ·rintro i M g rfl;have C:(W.take (i+1)).filter (U8 os)=(W.take i).filter (U8 os)++[W[i]].filter (U8 os):=by rw[WO M,List.filter_append]
   have hdl:((W.take i).filter (U8 os)).length<=20:=Wt (Qc _ _) (by rw[WN];lia);have hq:=Ir H W[i];generalize W[i]=q at C hq ⊢;have U:U8 os q=false->[q].filter (U8 os)=[]:=λz=>List.filter_eq_nil_iff.mpr λy Y=>by rw[Wg.mp Y,z];decide
   refine⟨rfl,_,.li _ _,Uq (λg1=>⟨_,.li _ _,Uq (λg2=>?_) (λg2=>U4 ?_)⟩) (λg1=>U4 ?_)⟩
   ·have h1:q.1∈os:=Wm g1;have h2:q.2∈os:=Wm g2;refine⟨⟨_,rfl⟩,os,rfl,h1,⟨_,rfl⟩,os,rfl,h2,Uq (λg3=>?_) (λg3=>?_)⟩
    ·have h3:=Wm g3
     have e:[q].filter (U8 os)=[q]:=List.filter_eq_self.mpr λy Y=>by
      rw[Wg.mp Y,hq,Wh h1,Wh h2,Wh (by lia)];rfl
     refine⟨by simp,by rw[Wc];lia,?_⟩;rw[C,e,WC];rfl
    ·have e:=U (by rw[hq,Ws (p:=os.idxOf q.2<os.idxOf q.1) (λz=>g3 (Wh<|by lia)),Bool.and_false]);rw[C,e,W2];rfl
   ·have e:=U (by rw[hq,Ws (p:=q.2∈os) (λz=>g2 (Wh z)),Bool.and_false];rfl);rw[C,e,W2];rfl
   ·have e:=U (by rw[hq,Ws (p:=q.1∈os) (λz=>g1 (Wh z))];rfl);rw[C,e,W2];rfl
  rintro g rfl;rw[QE];refine⟨f,os,rfl,s,by lia,J,?_⟩;rw[←T];refine⟨rfl,?_⟩;have hbl:(W.filter<|U8 os).length<=20:=Wt (Qc ..) L;refine⟨rfl,rfl,r,o,l++[W],f,os,rfl,s,by lia,by lia,?_⟩;rw[ho];refine⟨by simp,by simp,[Ur f f.length os],.inl rfl,by simp,U4 ⟨os,.inl rfl,by lia,U4 ?_⟩⟩;refine⟨rfl,rfl,r,o,l,f,W,os,rfl,s,by lia,by lia,by lia,?_⟩;rw[ho];refine⟨_,rfl,by lia,U4 ⟨os,.inl rfl,by lia,U4 ?_⟩⟩;refine⟨r,o,l,f,W,os,rfl,s,hl',E,hW,U4 ?_⟩;exact⟨rfl,rfl,r,o,l++[W],f,rfl,f,rfl,by lia,rfl,rfl,r,o++[f],l,W,rfl,W,rfl,by lia,hR⟩
end
end T
namespace T
open L2 Own M
def Oj{l:PySem.W.OpenLaw}{w:World}{K:Ya}{h:Heap}{f:Ye}{fa:Addr}(X:K.In h)(b:h.Ns mainGlobals f)(hfa:f "law"=some (.ref fa)){g:Addr}(VM:PySem.W.nsIn K mainGlobals "Village"=some (some<|.ref g))(VP:PySem.W.plainGet K g Str.empty=true)(VQ:PySem.W.hasDictIn K g=true)(VR:PySem.W.plainOver K g=true)(VS:PySem.W.findIn K (.ref g) "__setattr__"=some (some<|.builtin "object.__setattr__"))(VT:PySem.W.makesIn K g=true)(VU:PySem.W.keepIn K (.ref g)=true)(VV:PySem.W.findIn K (.ref g) "book"=some none)(VW:PySem.W.findIn K (.ref g) "fields"=some none)(VX:PySem.W.findIn K (.ref g) "wished"=some none)(a0:Pu.DI K "check_holder" Sg)(a1:Pu.DI K "check_width" N8)(a2:Pu.DI K "check_strips" NQ)(a3:Pu.DI K "holders_of" BZ)(a4:Pu.DI K "check_order" SQ)(a5:Pu.DI K "pair_cost" SJ)(a6:Pu.DI K "order_cost" B5)(a7:Pu.DI K "broken_wishes" NI)(a8:Pu.DI K "check_place" Ff)(a9:Pu.DI K "sold" Sy)(a10:Pu.DI K "with_wish" BE)(a11:Pu.MI K g "__init__" "Village.__init__" Bz)(a12:Pu.MI K g "strips" "Village.strips" SG)(a13:Pu.MI K g "wishes" "Village.wishes" S8)(a14:Pu.MI K g "check_room" "Village.check_room" Bo)(a15:Pu.MI K g "enter" "Village.enter" Bt)(a16:Pu.MI K g "sell" "Village.sell" Sv)(a17:Pu.MI K g "wish" "Village.wish" NT)(a18:Pu.MI K g "price" "Village.price" Fp)(a19:Pu.MI K g "broken" "Village.broken" NK)(a20:Pu.DI K "is_number" Bp)(a21:Pu.DI K "is_row" BM)(a22:Pu.DI K "told_texts" NR)(a23:Pu.DI K "told_wishes" Br)(a24:Pu.DI K "told_question" NV)(a25:Pu.DI K "told_row" B7)(a26:Pu.DI K "told_or_refused" Ss)(a27:Pu.DI K "answer" BX)(a28:Pu.DI K "_law_at" Sq)(a29:Pu.DI K "_law_whole" NX)(a30:Pu.DI K "_law_mix" SM)(a31:Pu.DI K "_law_draw" Fb)(a32:Pu.DI K "_law_spare" SH)(a33:Pu.DI K "_law_menu" Bs)(a34:Pu.DI K "_law_holder" Fi)(a35:Pu.DI K "_law_strips" Sr)(a36:Pu.DI K "_law_wishes" B3)(a37:Pu.DI K "_law_row" NS)(a38:Pu.DI K "_law_tuples" SO)(a39:Pu.DI K "_law_present" Bj)(a40:Pu.DI K "_law_price" BR)(a41:Pu.DI K "_law_shuffled" Sj)(a42:Pu.DI K "_law_sold" Sd)(a43:Pu.DI K "_law_in_words" BH){B:Addr}{L A:Yn}{J:Array (Ym)}{M u x r o y:Value}(a44:PySem.W.nsIn K mainGlobals "law"=some (some<|.ref B))(l44:K.lookup B=some ⟨M,L,.func (PySem.W.fnOf "law" "law" (Xu XJ) (Uv XJ) (Ud XJ) .none u x r A o y),J⟩)(c44:PySem.W.codeIn K o "law"=true)(k44:PySem.W.keepIn K (.ref B)=true)(VY:PySem.W.nsIn K mainGlobals "all"=some none)(VZ:PySem.W.nsIn K mainGlobals "bool"=some none)(Ja:PySem.W.nsIn K mainGlobals "enumerate"=some none)(Jb:PySem.W.nsIn K mainGlobals "int"=some none)(Jc:PySem.W.nsIn K mainGlobals "isinstance"=some none)(Jd:PySem.W.nsIn K mainGlobals "len"=some none)(Je:PySem.W.nsIn K mainGlobals "list"=some none)(Jf:PySem.W.nsIn K mainGlobals "max"=some none)(Jg:PySem.W.nsIn K mainGlobals "range"=some none)(Jh:PySem.W.nsIn K mainGlobals "set"=some none)(Ji:PySem.W.nsIn K mainGlobals "sorted"=some none)(Jj:PySem.W.nsIn K mainGlobals "str"=some none)(Jk:PySem.W.nsIn K mainGlobals "tuple"=some none){JE:Tok}(Jl:PySem.W.nsIn K mainGlobals "HOLDERS"=some (some<|.int 10 JE)){JF:Tok}(Jm:PySem.W.nsIn K mainGlobals "STRIPS"=some (some<|.int 40 JF)){JG:Tok}(Jn:PySem.W.nsIn K mainGlobals "WIDEST"=some (some<|.int 1000 JG)){JH:Tok}(Jo:PySem.W.nsIn K mainGlobals "MOST_WISHES"=some (some<|.int 20 JH)){JI:Tok}(Jp:PySem.W.nsIn K mainGlobals "MOST_DEEDS"=some (some<|.int 100 JI)){JJ:Tok}(Jq:PySem.W.nsIn K mainGlobals "FIGURES"=some (some<|.str "0123456789" JJ)){JK:Tok}(Jr:PySem.W.nsIn K mainGlobals "MOST_FIGURES"=some (some<|.int 4 JK)){d_DEEDS:Addr}{es_DEEDS:Array DictEntry}{n_DEEDS:Nat}(Js:PySem.W.nsIn K mainGlobals "DEEDS"=some (some<|.ref d_DEEDS))(zm_DEEDS:(d_DEEDS==sysModules)=false)(zl_DEEDS:K.lookup d_DEEDS=some ⟨.type "dict",none,.dict es_DEEDS n_DEEDS,#[]⟩)(ze_DEEDS:Own.Lits w.params es_DEEDS.toList [("sell",2),("part",2),("unite",1),("wish",2),("drop",2)]){d_OTHERS:Addr}{es_OTHERS:Array DictEntry}{n_OTHERS:Nat}(Jt:PySem.W.nsIn K mainGlobals "OTHERS"=some (some<|.ref d_OTHERS))(zm_OTHERS:(d_OTHERS==sysModules)=false)(zl_OTHERS:K.lookup d_OTHERS=some ⟨.type "dict",none,.dict es_OTHERS n_OTHERS,#[]⟩)(ze_OTHERS:Own.Lits w.params es_OTHERS.toList [("back",0),("field",0),("wishes",0),("stood",1),("ring",0),("order",0),("cost",0),("moves",0),("offer",2)]){d_ORDERS:Addr}{dd_ORDERS:Yn}{sl_ORDERS:Array (Ym)}{es_ORDERS:Yo}{n_ORDERS:Nat}(Ju:PySem.W.nsIn K mainGlobals "ORDERS"=some (some<|.ref d_ORDERS))(zl_ORDERS:K.lookup d_ORDERS=some ⟨.type "tuple",dd_ORDERS,.seq es_ORDERS n_ORDERS,sl_ORDERS⟩)(zm_ORDERS:es_ORDERS.size<=sizeLine)(ze_ORDERS:Vals ((["price","broken"]:Yj).map V.str) es_ORDERS.toList){Jx:Addr}(V5:Pu.EI K "TooManyStrips" Jx){Jy:Addr}(V6:Pu.EI K "BadHolder" Jy){JL:Addr}(VN:Pu.EI K "BadWidth" JL){Jz:Addr}(V7:Pu.EI K "NoStrip" Jz){Jv:Addr}(V8:Pu.EI K "BadOrder" Jv){J0:Addr}(V9:Pu.EI K "OwnStrip" J0){J1:Addr}(VA:Pu.EI K "BadPart" J1){J2:Addr}(VB:Pu.EI K "UnlikeHolders" J2){J6:Addr}(VC:Pu.EI K "TooWide" J6){J7:Addr}(VD:Pu.EI K "LikeHolders" J7){J8:Addr}(VE:Pu.EI K "WishStands" J8){J9:Addr}(VF:Pu.EI K "TooManyWishes" J9){JA:Addr}(VG:Pu.EI K "NoWish" JA){JB:Addr}(VH:Pu.EI K "BookFull" JB){JC:Addr}(VI:Pu.EI K "NothingDone" JC){JD:Addr}(VJ:Pu.EI K "NoSuchDeed" JD){N:Addr}(VO:PySem.W.nsIn K mainGlobals "Ringed"=some (some<|.ref N))(x_Ringed:PySem.W.exmOne K (.ref N) (.ref N)=some true)(x_all:Pu.Dn K [("Ringed",N),("BadOrder",Jv)] [("TooManyStrips",Jx),("BadHolder",Jy),("NoStrip",Jz),("OwnStrip",J0),("BadPart",J1),("UnlikeHolders",J2),("TooWide",J6),("LikeHolders",J7),("WishStands",J8),("TooManyWishes",J9),("NoWish",JA),("BookFull",JB),("NothingDone",JC),("NoSuchDeed",JD),("BadOrder",Jv),("Ringed",N)]=true)
  : ∃fd:FuncData,(∀(s:Shared) (v:Value),BindsTo s fd ⟨[v],[]⟩ [("_law_script",v)])/\∀base:Heap,K.In base->base.Ns mainGlobals f->UQ l.prog w K f base CX0 10 fa fd ["_law_script"] (Pu.Sz K):=by
 have e:=hfa.symm.trans (W3 X b a44);cases e
 have JM:=V5.c X b;have JN:=V6.c X b;have JO:=V7.c X b;have JP:=V8.c X b;have JQ:=V9.c X b;have JR:=VA.c X b;have JS:=VB.c X b;have JT:=VC.c X b;have JU:=VD.c X b;have JV:=VE.c X b;have JW:=VF.c X b;have JX:=VG.c X b;have JY:=VH.c X b;have JZ:=VI.c X b;have Ua:=VJ.c X b;have Jw:=ExcR.NU (W3 X b VO);have n:=ExcR.NU (W3 X b VM);have G:Glob w K f:=⟨W8 X b VY,W8 X b VZ,W8 X b Ja,W8 X b Jb,W8 X b Jc,W8 X b Jd,W8 X b Je,W8 X b Jf,W8 X b Jg,W8 X b Jh,W8 X b Ji,W8 X b Jj,W8 X b Jk,⟨_,W3 X b Jl,⟨_,rfl⟩⟩,⟨_,W3 X b Jm,⟨_,rfl⟩⟩,⟨_,W3 X b Jn,⟨_,rfl⟩⟩,⟨_,W3 X b Jo,⟨_,rfl⟩⟩,⟨_,W3 X b Jp,⟨_,rfl⟩⟩,⟨_,W3 X b Jq,⟨_,rfl⟩⟩,⟨_,W3 X b Jr,⟨_,rfl⟩⟩,⟨⟨_,_,_,W3 X b Js,zm_DEEDS,zl_DEEDS,ze_DEEDS⟩⟩,⟨⟨_,_,_,W3 X b Jt,zm_OTHERS,zl_OTHERS,ze_OTHERS⟩⟩,⟨⟨_,_,_,_,_,W3 X b Ju,zl_ORDERS,zm_ORDERS,ze_ORDERS⟩⟩,(V5.m X b),(V5.k X b),(V6.m X b),(V6.k X b),(VN.m X b),(VN.k X b),(V7.m X b),(V7.k X b),(V8.m X b),(V8.k X b),(V9.m X b),(V9.k X b),(VA.m X b),(VA.k X b),(VB.m X b),(VB.k X b),(VC.m X b),(VC.k X b),(VD.m X b),(VD.k X b),(VE.m X b),(VE.k X b),(VF.m X b),(VF.k X b),(VG.m X b),(VG.k X b),(VH.m X b),(VH.k X b),(VI.m X b),(VI.k X b),(VJ.m X b),(VJ.k X b),(by rw[Jw];exact W3 X b VO),(by rw[Jw];exact x_Ringed),(by rw[←Jw,←JP,←JM,←JN,←JO,←JQ,←JR,←JS,←JT,←JU,←JV,←JW,←JX,←JY,←JZ,←Ua]at x_all;exact Pu.RO x_all),(by rw[n];exact W3 X b VM),(by rw[n];exact⟨VP,VQ,VR,VS⟩),(by rw[n];exact VV),(by rw[n];exact VW),(by rw[n];exact VX)⟩;have C:=SD (st:=XJ) l44 c44 k44;have b44:=C.binds (ps:=["_law_script"]) λ_ _ _ _ _ _ us hl=>by obtain⟨_,rfl⟩:=Pu.Pt hl;rfl
 have Q:Def K f "law" XJ ["_law_script"]:=⟨_,_,C,W3 X b a44,b44⟩;refine⟨PySem.W.fnOf "law" "law" (Xu XJ) (Uv XJ) (Ud XJ) .none u x r A o y,λs v=>.of_eq rfl,λbase _ _=>?_⟩;have C0:=@Zar l.prog w K f base ⟨⟩ G (a0.e X b);have C1:=@Za6 l.prog w K f base ⟨⟩ G (a1.e X b);have C3:=@O4 l.prog w K f base G (a3.e X b);have C5:=@Za9 l.prog w K f base ⟨⟩ (a5.e X b);have C7:=@Oz l.prog w K f base ⟨⟩ G (a7.e X b);have C8:=@HS l.prog w K f base ⟨⟩ G (a8.e X b);have p:=@RN l.prog w K f base ⟨⟩ G (a12.e n);have q:=@Rc l.prog w K f base ⟨⟩ G (a13.e n);have C14:=@IJ l.prog w K f base ⟨⟩ G (a14.e n);have C15:=@Ma l.prog w K f base ⟨⟩ G (a15.e n);have C20:=@Zc1 l.prog w K f base ⟨⟩ G (a20.e X b);have C22:=@MY l.prog w K f base ⟨⟩ (a22.e X b);have H:=@R6 l.prog w K f base ⟨⟩ G (a28.e X b);have Y:=@Zci l.prog w K f base ⟨⟩ G (a29.e X b);have U:=@M4 l.prog w K f base ⟨⟩ (a30.e X b);have C33:=@Lu l.prog w K f base ⟨⟩ (a33.e X b);have T:=@Rf l.prog w K f base ⟨⟩ (a34.e X b);have C39:=@Lk l.prog w K f base ⟨⟩ G (a39.e X b);have C40:=@LY l.prog w K f base ⟨⟩ G (a40.e X b);have C41:=@MB l.prog w K f base G (a41.e X b);have C2:=Mc ⟨⟩ G C0 C1 (a2.e X b);have C4:=Rb ⟨⟩ G (Mu C3) (a4.e X b);have C9:=Zcb ⟨⟩ G C0 C8 (a9.e X b);have C10:=HX ⟨⟩ G C0 (a10.e X b);have C21:=Zbt ⟨⟩ G C20 (a21.e X b);have C23:=Za4 ⟨⟩ C22 (a23.e X b);have E:=Zai ⟨⟩ H U (a31.e X b);have C32:=Zag ⟨⟩ H U (a32.e X b);have C37:=O9 ⟨⟩ G Y (a37.e X b);have C38:=Zal ⟨⟩ G Y (a38.e X b);have C6:=MW ⟨⟩ G C5 C4 (a6.e X b);have C11:=Ho ⟨⟩ G C2 (a11.j n VT VU);have C16:=Oa ⟨⟩ G p q C14 C15 C9 (a16.e n);have C17:=Zcc ⟨⟩ G p q C14 C15 C10 (a17.e n);have C19:=Zae ⟨⟩ G C7 p q C4 (a19.e n);have C35:=Zck ⟨⟩ G T E (a35.e X b);have C36:=Zce ⟨⟩ G T E (a36.e X b);have C18:=Zaj ⟨⟩ G p C6 (a18.e n);have C42:=Ob ⟨⟩ G C16 (a42.e X b);have C24:=OQ ⟨⟩ G C23 C19 C18 (a24.e X b);have C25:=Mf ⟨⟩ G C24 (a25.e X b);have C26:=GX ⟨⟩ G C25 (a26.e X b);have C27:=Le ⟨⟩ G C21 C26 (a27.e X b);have C43:=O2 ⟨⟩ G C27 (a43.e X b);have C44:=LB ⟨⟩ G p q H C33 C39 C40 (LI C41) E C32 C37 C38 C11 C17 C19 C35 C36 C18 C42 C43 Q;exact(C44.at (W3 X b a44) C Q).imp λ_ _ _ _ z=>Pu.Ln z
end T
namespace PySem.W.Fast
def I:True:=⟨⟩
def tw16911831076098793917:=I
def tw10306897544636984384:=I
def tw14089283131773950048:=I
def tw17195957396113080448:=I
def tw14543461946862168192:=I
def tw6477262011459525792:=I
def tw5510739569641625792:=I
def tw16869953580885550272:=I
def tw16757959802759172352:=I
def tw5731093266772939040:=I
def tw4887809187004805408:=I
def tw10947509427128751456:=I
def tw12860487317994594656:=I
def tw1018305829505185152:=I
def tw5511008251398876544:=I
def tw5303526735914227104:=I
def tw13649744696683208128:=I
def tw4478602456135674336:=I
def tw13483370327525640672:=I
def tw8487784321197203936:=I
def tw17290719548913185280:=I
def tw6575363897361970720:=I
def tw1479601712182349344:=I
def tw5874350849987707488:=I
def tw699354468083947136:=I
def tw11135181986156509856:=I
def tw8623653226892071616:=I
def tw10107851335301595872:=I
def tw12551068616748337888:=I
def tw3302423370385370976:=I
def tw13472085817102997376:=I
def tw3897153555364486016:=I
def tw17017600053621768096:=I
def tw17962497983855639520:=I
def tw864566149561274336:=I
def tw17171696087099064321:=I
def tw5251262309575322657:=I
def tw15201337574020315169:=I
def tw2034841390661709889:=I
def tw8414575647430003777:=I
def tw13492477491678424161:=I
def tw4072368661414776961:=I
def tw13634990705104603265:=I
def tw17958739059064984833:=I
def tw2826171432817419521:=I
def tw2448216012024235329:=I
def tw6914214079352793409:=I
def tw7323512661310973281:=I
def tw11810770155496278401:=I
def tw17595459667585404321:=I
def tw14243695394169018817:=I
def tw14762532159493179873:=I
def tw6402272726601879009:=I
def tw15135265935322819073:=I
def tw14773415799001837153:=I
def tw1924886625232637569:=I
def tw7871192476937061089:=I
def tw7549397002044839649:=I
def tw1692944967399496449:=I
def tw5449955223708996385:=I
def tw17176212261006489409:=I
def tw15638406475912379201:=I
def tw9123041716440116065:=I
def tw186273912799928225:=I
def tw17464868543749142465:=I
def tw14010578269338144737:=I
def tw16989431874261786626:=I
def tw4903165621560143938:=I
def tw15909825192370278498:=I
def tw14607219082925206626:=I
def tw17772322695874590850:=I
def tw5794808065249528066:=I
def tw8957079471732109794:=I
def tw9069428824059934178:=I
def tw11661562838764182018:=I
def tw182840496011861506:=I
def tw10955852980353955362:=I
def tw17277363488304667298:=I
def tw667477564161367746:=I
def tw1810640513564069602:=I
def tw16734574283728030466:=I
def tw12937413658428588802:=I
def tw5547296027757503234:=I
def tw1085579960582992674:=I
def tw6385424896891613090:=I
def tw11596107051464333250:=I
def tw9215489854477289410:=I
def tw3053629302343072706:=I
def tw17865718440295631875:=I
def tw12927669956302134275:=I
def tw1524638700534633539:=I
def tw4488138880642411587:=I
def tw6081640321695548515:=I
def tw15347604532403061859:=I
def tw5643603910802563171:=I
def tw8468675039130334339:=I
def tw1621676567203262627:=I
def tw13195529919854340259:=I
def tw11561877741833388259:=I
def tw4364444579595343075:=I
def tw14266530154211245283:=I
def tw3919722613142512899:=I
def tw4751893959529498947:=I
def tw17330348920630895939:=I
def tw18378697478116697443:=I
def tw5830858833641187811:=I
def tw3723892100086673923:=I
def tw8940424691601804835:=I
def tw5225172826414337571:=I
def tw3815306882217296451:=I
def tw5931664466234332835:=I
def tw1978884234184745635:=I
def tw1015707133480873667:=I
def tw11089576679764744899:=I
def tw17025234171796592387:=I
def tw8127545758408756003:=I
def tw17063602063984783139:=I
def tw8130886833497833251:=I
def tw14113223591929580419:=I
def tw15597671547320120227:=I
def tw6441604735013879715:=I
def tw4544960384243002339:=I
def tw4616108355056328708:=I
def tw10192865951413437476:=I
def tw5204927597225510980:=I
def tw12557472455999623268:=I
def tw15744053596243177572:=I
def tw11102651856229223524:=I
def tw17831263073488855140:=I
def tw9686022951591956612:=I
def tw10536811394413129860:=I
def tw7839308487199424676:=I
def tw11377866434248242340:=I
def tw6764295906726435012:=I
def tw13028473283630456004:=I
def tw12007015481419961604:=I
def tw5390560146122165540:=I
def tw15342958416216377668:=I
def tw18052215273248286020:=I
def tw4387069947850470852:=I
def tw16716551990090159556:=I
def tw14103439900180699620:=I
def tw5489127860351050244:=I
def tw13490210113551057444:=I
def tw13816655076300446244:=I
def tw13799561573693508164:=I
def tw8565147996201177700:=I
def tw13617126719556871780:=I
def tw12927978671528726148:=I
def tw211770536331923076:=I
def tw12162650904078312068:=I
def tw7266188657584221860:=I
def tw3893913059797917348:=I
def tw8069682774057277156:=I
def tw16461217241048546020:=I
def tw15614083640542761732:=I
def tw11156628980285707012:=I
def tw2324584808494572292:=I
def tw2656772683290388228:=I
def tw2585260108058374916:=I
def tw8494273931383154468:=I
def tw6855119580336366532:=I
def tw5341871996826961860:=I
def tw1076202180588280804:=I
def tw18366028787796766692:=I
def tw11139518782245179429:=I
def tw12691276264561097765:=I
def tw11551204559447932997:=I
def tw14644751489958333541:=I
def tw956173615972996197:=I
def tw4089330181738648677:=I
def tw5051005287387195493:=I
def tw927709420643822821:=I
def tw6856132973357762917:=I
def tw10939014572964907397:=I
def tw13322190932830169477:=I
def tw647106981607558565:=I
def tw9225791587392999877:=I
def tw309297265161425381:=I
def tw6372113905141127685:=I
def tw228156780758179333:=I
def tw16205715989156676101:=I
def tw6238388642866753029:=I
def tw14978753203897073157:=I
def tw13270662815948347941:=I
def tw7669674922258966053:=I
def tw17112551383541832261:=I
def tw4598041309876184645:=I
def tw14797792347519561349:=I
def tw4715175115706977957:=I
def tw12354061064712223397:=I
def tw8224080711096742597:=I
def tw18445698283823688389:=I
def tw5198714056476944101:=I
def tw15347512581828141829:=I
def tw5893256081656330021:=I
def tw109594134992295781:=I
def tw17737392774217111429:=I
def tw8297165052037867397:=I
def tw2048386242784903045:=I
def tw2570298032831712133:=I
def tw2276550229590660997:=I
def tw3689683142502122469:=I
def tw11869195741814428645:=I
def tw4824121036385834981:=I
def tw12360591914328110150:=I
def tw6180083157328211110:=I
def tw10259655028059282630:=I
def tw2575569163387122886:=I
def tw7153230623145543878:=I
def tw3392472683570223302:=I
def tw10563395509602247942:=I
def tw185329924839464230:=I
def tw1888562080272926054:=I
def tw209047557400916326:=I
def tw4555575835024359814:=I
def tw2057673375226298790:=I
def tw11150481341451439526:=I
def tw16276647943199788518:=I
def tw15284331070100556294:=I
def tw4295295626785604166:=I
def tw12481786835047804486:=I
def tw256124837049672294:=I
def tw13638070613131375206:=I
def tw4352032457248292486:=I
def tw10848007564848525958:=I
def tw2039731214650644134:=I
def tw4754969475484940998:=I
def tw1252795600586378982:=I
def tw1555588877872929606:=I
def tw10958864113534003014:=I
def tw6175385230932936550:=I
def tw6507325274244296550:=I
def tw8549450499498111846:=I
def tw7841107845737228166:=I
def tw51030897360613254:=I
def tw7495911485626652582:=I
def tw14159098640644447142:=I
def tw3010853467922021286:=I
def tw11638346828843493318:=I
def tw13810003946625588198:=I
def tw3499393709028810791:=I
def tw11826332082554859559:=I
def tw13518196431982329927:=I
def tw16276871392554570823:=I
def tw12896994803057971303:=I
def tw12145921401807106151:=I
def tw6122852233759296647:=I
def tw12167470661896312967:=I
def tw15979872395477757095:=I
def tw7743504140623875271:=I
def tw15835116966132585671:=I
def tw1769098516982686919:=I
def tw4342970268187470055:=I
def tw16035415384161091847:=I
def tw17445026895770832135:=I
def tw12071947696600161575:=I
def tw6490951060756597127:=I
def tw3274745442351763847:=I
def tw5577773410871882151:=I
def tw564149012429432231:=I
def tw12563662616247011879:=I
def tw11781257462418177575:=I
def tw7565681252745907783:=I
def tw14806512480031546951:=I
def tw8784639825731184231:=I
def tw4631868547221226119:=I
def tw207808976132455079:=I
def tw3414977096629121703:=I
def tw18285605704405278407:=I
def tw4935657660117317319:=I
def tw16210981819351853799:=I
def tw8514435390747324167:=I
def tw4854793364491168519:=I
def tw9304576142802980647:=I
def tw12179345077260659559:=I
def tw2240303608453666727:=I
def tw7643428744590833864:=I
def tw16622612490456382696:=I
def tw480533455656938760:=I
def tw7682133396505869608:=I
def tw3543156422458419528:=I
def tw3252731627196789064:=I
def tw4323249377688274248:=I
def tw3561552323005553000:=I
def tw11296333366145817960:=I
def tw5388557094188172648:=I
def tw1263519022812587368:=I
def tw15563344893189606856:=I
def tw18069860384553433576:=I
def tw5714677172014931464:=I
def tw9580951580135092744:=I
def tw515498730002050664:=I
def tw12849752374327516808:=I
def tw9011832632400747176:=I
def tw3716255303496610568:=I
def tw1669233788142605064:=I
def tw16105312681664766728:=I
def tw2123560192754189096:=I
def tw18380104797073977192:=I
def tw2834550427347384168:=I
def tw170859861284308872:=I
def tw7074765946225737640:=I
def tw4450454146158530504:=I
def tw9985898988378883048:=I
def tw3544928528330265576:=I
def tw11258819583299242984:=I
def tw7036047077454839817:=I
def tw15388770848732711977:=I
def tw1943552383288515625:=I
def tw13567864964047630537:=I
def tw6249330003604240585:=I
def tw1442523753791571177:=I
def tw14552048781085849865:=I
def tw1288621493216066857:=I
def tw18358420465924203849:=I
def tw12381408881581041033:=I
def tw15668710892420439465:=I
def tw1158113770446963113:=I
def tw17645734449965089193:=I
def tw8498812500379103689:=I
def tw3958408670571827721:=I
def tw8505203898983899657:=I
def tw13900054988500452937:=I
def tw7301715313075012201:=I
def tw11665215918793353833:=I
def tw11675878295670650569:=I
def tw12471281009385544457:=I
def tw5169437483603716873:=I
def tw9126096375839633193:=I
def tw14637969596317676329:=I
def tw521501574997750569:=I
def tw14504798647979453257:=I
def tw866313575174613865:=I
def tw16179662140417254345:=I
def tw16677475603725326313:=I
def tw5406259059029298218:=I
def tw13532710853542415434:=I
def tw11939670062374829130:=I
def tw12291521293237076074:=I
def tw4011929932573483146:=I
def tw5153027505963894954:=I
def tw18311390329391288490:=I
def tw17229914069818733738:=I
def tw7038676376305238218:=I
def tw5375467141681499338:=I
def tw10457762932713724138:=I
def tw13119462382397727978:=I
def tw14951154807740310762:=I
def tw17168247020313996522:=I
def tw16765141585838200202:=I
def tw2081584931837808042:=I
def tw9392837906326285738:=I
def tw4566632536749421002:=I
def tw9140410689874465258:=I
def tw16180264827647895114:=I
def tw496276947922889322:=I
def tw16604480949331526314:=I
def tw9971425388672862890:=I
def tw12601701658078217930:=I
def tw10519006521911546570:=I
def tw14543677089451672298:=I
def tw16478385140373277450:=I
def tw3751783888478018378:=I
def tw583380955321694026:=I
def tw5952601912628473706:=I
def tw3316404352287187850:=I
def tw14881457224466931626:=I
def tw5120123478277077930:=I
def tw2516535020122729386:=I
def tw4633757014547286986:=I
def tw12225266669422336970:=I
def tw1030481767555391563:=I
def tw2377058271154646123:=I
def tw4205380501900773611:=I
def tw5185737813685554411:=I
def tw8519733494311934187:=I
def tw17397027310081084683:=I
def tw10791029156181358859:=I
def tw2641585956610885963:=I
def tw15104726996824827307:=I
def tw15103988846607314347:=I
def tw7277503014946041323:=I
def tw16711526060587938283:=I
def tw14917280713830636043:=I
def tw5172748113087742539:=I
def tw3539681557376420459:=I
def tw17450872603829997195:=I
def tw12550818467351040651:=I
def tw10453959024155698827:=I
def tw18254503889432069803:=I
def tw741112309421651659:=I
def tw12366439040859582219:=I
def tw9319766600316424043:=I
def tw7194934910124372875:=I
def tw12737433927705087883:=I
def tw12270325155157400459:=I
def tw17165545879622739883:=I
def tw9968858465292702732:=I
def tw857693346360813580:=I
def tw6764107161928203340:=I
def tw13876982565134802028:=I
def tw9374883277400534124:=I
def tw7217279263189402764:=I
def tw15515497253559493772:=I
def tw243224217639571628:=I
def tw11929180581016829164:=I
def tw12736633606504499468:=I
def tw115589196813620588:=I
def tw5518072460093839724:=I
def tw10137666062677879308:=I
def tw16647774890619231756:=I
def tw13998733030236056076:=I
def tw5264612060426228268:=I
def tw7378518651636133452:=I
def tw846826993554925196:=I
def tw15673808227449847436:=I
def tw8220881318228135596:=I
def tw2542718019234448076:=I
def tw4415611181653206764:=I
def tw7911001327593048812:=I
def tw5941047761504836364:=I
def tw657368523832613676:=I
def tw18177855521776825196:=I
def tw5910880875541727116:=I
def tw772578872509119372:=I
def tw10364860179446198285:=I
def tw1654939065632272429:=I
def tw16080877023634769997:=I
def tw16804384693328323885:=I
def tw12514902996302941549:=I
def tw9483471435036670349:=I
def tw14754206998123908525:=I
def tw14370078154696494541:=I
def tw12082878122696250861:=I
def tw12962702520387058157:=I
def tw10311270650177040941:=I
def tw12901478455228949069:=I
def tw3899457871669229133:=I
def tw2859321931637138029:=I
def tw843188432436290157:=I
def tw5406115295269568237:=I
def tw17415253841951711981:=I
def tw7967405979017741165:=I
def tw4494138664651735981:=I
def tw4420925873051726797:=I
def tw788082982145144846:=I
def tw15830526330042761294:=I
def tw16598349826008132718:=I
def tw3911645730252053614:=I
def tw14082476114668308814:=I
def tw11674909506312667502:=I
def tw8324582701357473166:=I
def tw5327828438141519246:=I
def tw16314092655734286734:=I
def tw17346791717489313262:=I
def tw1568438654566041070:=I
def tw3328629708593652302:=I
def tw5976452149806101070:=I
def tw18443075957766782542:=I
def tw11413597337068093038:=I
def tw17748225978806454926:=I
def tw10109405433054490254:=I
def tw15907292843443145390:=I
def tw18222234032096995054:=I
def tw138433067037503374:=I
def tw16283539053938211726:=I
def tw391304402352750510:=I
def tw11495127297230428078:=I
def tw4562270665546953710:=I
def tw13227326430447896591:=I
def tw764569413121786895:=I
def tw12780678676072820751:=I
def tw6538878966907404399:=I
def tw14757502423910194287:=I
def tw5692662785486136431:=I
def tw10244161340866188399:=I
def tw5708306694669499503:=I
def tw10132025646858576047:=I
def tw13889021433131183:=I
def tw7557133136389207311:=I
def tw11342671455981059407:=I
def tw13324225927198073167:=I
def tw2071290959803213167:=I
def tw7194600984546764143:=I
def tw11026236769280225679:=I
def tw2407377996057165231:=I
def tw5428284472257599951:=I
def tw9566869675272081903:=I
def tw10333599185187127791:=I
def tw13672698879734041071:=I
def tw15246181211014420975:=I
def tw9320192048455657007:=I
def tw1748576162706012719:=I
def tw1855098983956527663:=I
def tw14724571880064679471:=I
def tw15146623176898683471:=I
def tw10131576522013911631:=I
def tw12400771285746868815:=I
def tw7623627088916843119:=I
def tw11592625928852647535:=I
def tw77518121882084015:=I
def tw5103287273893839567:=I
def tw9178071975347348207:=I
def tw10304229680340806415:=I
def tw11088515547333837615:=I
def tw6082571664521683759:=I
def tw15865095018459415375:=I
def tw4308149335537001359:=I
def tw14182869808401800143:=I
def tw2264130772429280272:=I
def tw10945610707357354032:=I
def tw12256851104432344112:=I
def tw9614849967545795664:=I
def tw10884977534029162608:=I
def tw2252149515724001456:=I
def tw1396625004669906096:=I
def tw6017957150650667216:=I
def tw11077244779629189328:=I
def tw9805273434346536144:=I
def tw10604832079609773264:=I
def tw16460850943422487760:=I
def tw18072808507836263792:=I
def tw15555010988438449552:=I
def tw9063140805704338864:=I
def tw3621098927339486672:=I
def tw15938766796396636656:=I
def tw5876025826423237136:=I
def tw5054114803932984848:=I
def tw14415846254602544688:=I
def tw10334162346033841808:=I
def tw5606045731105554128:=I
def tw10974788738373478096:=I
def tw9881734076642788112:=I
def tw11775374543892800336:=I
def tw6242876263370415984:=I
def tw17576874985480978288:=I
def tw12607480938650610608:=I
def tw9980817160589660080:=I
def tw5547239514186217392:=I
def tw5177589286194460624:=I
def tw15857282956600960976:=I
def tw7535221489056164848:=I
def tw821962710294345712:=I
def tw14442024584272040017:=I
def tw6933198414163513457:=I
def tw934703679926895761:=I
def tw4239402688821008529:=I
def tw18391182831081449617:=I
def tw7752259554721636561:=I
def tw12713398674024416497:=I
def tw3304420093541893361:=I
def tw167618223723632913:=I
def tw2987410466121159025:=I
def tw7609644731001895345:=I
def tw18118212384569047505:=I
def tw2501012833948345841:=I
def tw6045430915346440753:=I
def tw712105570922252849:=I
def tw7083891464840733233:=I
def tw811193678463992401:=I
def tw12960219765990931025:=I
def tw15801427251940533873:=I
def tw5064553243736202865:=I
def tw13676759271135840913:=I
def tw1174825503844797105:=I
def tw9685144247603667665:=I
def tw16553274502049861393:=I
def tw17861043780904898321:=I
def tw260388887403357969:=I
def tw5997611231909504785:=I
def tw2315498475372840753:=I
def tw368152257506871089:=I
def tw12692183227518627697:=I
def tw15656882454565977969:=I
def tw13858658263926417393:=I
def tw11336717964320368625:=I
def tw2211496996094085138:=I
def tw13361955855568731154:=I
def tw5334165304218458162:=I
def tw12543278338551471154:=I
def tw18076215945137636434:=I
def tw619498929027512402:=I
def tw8357828026515812466:=I
def tw3740003510950556818:=I
def tw10100120226374650034:=I
def tw11273971457491940530:=I
def tw1095684888599461042:=I
def tw12200993440667891922:=I
def tw11950921218625212690:=I
def tw424044582210560306:=I
def tw7628667613439625554:=I
def tw5422089565818787154:=I
def tw4327429323302255986:=I
def tw11966895319571959218:=I
def tw14868525495771861458:=I
def tw14048717385622815250:=I
def tw440726239640391218:=I
def tw5669483964598915698:=I
def tw4737074914252825202:=I
def tw13306497712145689202:=I
def tw13920986256577722002:=I
def tw5429758506482366194:=I
def tw10092894256234688274:=I
def tw18096930959488018226:=I
def tw3901368692360171410:=I
def tw7211210427028974514:=I
def tw7709816657448716210:=I
def tw306019280968908722:=I
def tw5903024808818789362:=I
def tw12816645306960670739:=I
def tw12601182009852536883:=I
def tw3779573807545006131:=I
def tw18113376205904973971:=I
def tw4035158232629242003:=I
def tw7495724377552635123:=I
def tw15138492660505955667:=I
def tw17363710500595671443:=I
def tw907384492790277555:=I
def tw767801208893918675:=I
def tw3088563476611368499:=I
def tw17913444777627831955:=I
def tw2906312599312290515:=I
def tw9834760885349316307:=I
def tw16930909031634818803:=I
def tw416013302637722387:=I
def tw9071474027231331155:=I
def tw1300177162166824819:=I
def tw14910487345454939027:=I
def tw12404310165287573427:=I
def tw17167789143094380467:=I
def tw17509011671812752339:=I
def tw11563857267411874771:=I
def tw7146446762182539251:=I
def tw4011016727107912756:=I
def tw12445376607233110068:=I
def tw15575095612967092372:=I
def tw10236106113795659956:=I
def tw9926390952706817204:=I
def tw2354373502745233588:=I
def tw15368082438584988852:=I
def tw6597306565837230292:=I
def tw15407169574832602356:=I
def tw16669692481604600084:=I
def tw9003940687803495732:=I
def tw3937047516378278260:=I
def tw721668633055494580:=I
def tw18192029214456163764:=I
def tw13156249342614066708:=I
def tw4730122140726452756:=I
def tw6264418741136680468:=I
def tw4352171364436151860:=I
def tw16450527418384623188:=I
def tw15624318292260221524:=I
def tw1885289685870670420:=I
def tw11330269613812885140:=I
def tw8630211045021084340:=I
def tw3558520048092833524:=I
def tw4228430495150681876:=I
def tw17567187910509409044:=I
def tw14366435046117063444:=I
def tw4794318648476755732:=I
def tw3988231744964487956:=I
def tw13133109109385345908:=I
def tw17369373738314899348:=I
def tw13274344559927621524:=I
def tw8403869829073087444:=I
def tw1222183038844112884:=I
def tw7717874159751869428:=I
def tw13252696096840723477:=I
def tw5935005953860194357:=I
def tw5110387417708003445:=I
def tw15838046083768293493:=I
def tw10744142266494270613:=I
def tw14915548321311905941:=I
def tw10059828886411544821:=I
def tw715998018008378613:=I
def tw2047665915277076757:=I
def tw11708860487449007541:=I
def tw2559169972063864277:=I
def tw5106204163801322037:=I
def tw14953245005023584885:=I
def tw12597213591105555061:=I
def tw8300234472064183925:=I
def tw9538843866608387765:=I
def tw17298887811112463029:=I
def tw1716968240543186645:=I
def tw5755954928612331253:=I
def tw5648529118708214613:=I
def tw14418251830724914037:=I
def tw8297289840748057525:=I
def tw15206280132248233909:=I
def tw891103090597134358:=I
def tw17948697295511141398:=I
def tw15029199591847311414:=I
def tw16416553969709444150:=I
def tw1770404856645003350:=I
def tw14157498543731617878:=I
def tw2965427464295276630:=I
def tw13233985931173181558:=I
def tw4329622363361638518:=I
def tw12840278270181538934:=I
def tw13352702552200396950:=I
def tw2185762904457759894:=I
def tw5608950328818654358:=I
def tw11497444912254929142:=I
def tw375620389921600790:=I
def tw9856036492281791798:=I
def tw1712975306773066134:=I
def tw4110806794972798454:=I
def tw8428496035875763702:=I
def tw3009507676975327734:=I
def tw17945106864255147542:=I
def tw3017523341050294806:=I
def tw13487654104111865366:=I
def tw3041994811817060886:=I
def tw3306247984050338326:=I
def tw8501928462346292790:=I
def tw14474616997990349398:=I
def tw13244544924697382486:=I
def tw14502903918155177590:=I
def tw2340554112977658550:=I
def tw13848412635822111478:=I
def tw17403377388487916278:=I
def tw12435384295415787382:=I
def tw18233592611665720182:=I
def tw393746225652383606:=I
def tw719270076068237302:=I
def tw8366444972336359414:=I
def tw14029815553314952215:=I
def tw9621729911612952599:=I
def tw9734105864436190263:=I
def tw16063616404637422647:=I
def tw8029143608885303351:=I
def tw5366239205081946199:=I
def tw340319528732992599:=I
def tw10240038003037714519:=I
def tw10877114693308092535:=I
def tw10039268918024602839:=I
def tw16437956522766191991:=I
def tw11402443084461366647:=I
def tw5183368049034429847:=I
def tw1808961273519027607:=I
def tw16890559881196509655:=I
def tw1996815869372552663:=I
def tw8521309419203808791:=I
def tw16715455382301670967:=I
def tw10064354109490191959:=I
def tw12198423944102290039:=I
def tw880772787616310903:=I
def tw18182190062441228919:=I
def tw3382833981341236855:=I
def tw16192813095669553847:=I
def tw2761339057078885175:=I
def tw2370315536188247:=I
def tw12919799049061702551:=I
def tw13914955958984045463:=I
def tw2372941565878563735:=I
def tw6815469192690927640:=I
def tw6506385597098302488:=I
def tw6007842319731294264:=I
def tw6386318676893154360:=I
def tw10254118798071576696:=I
def tw13046062029528694936:=I
def tw17745308121865229464:=I
def tw6059636912557494488:=I
def tw15309907101296456920:=I
def tw8872018237215559960:=I
def tw12207282649947073848:=I
def tw6346960573409724760:=I
def tw14915021387091783000:=I
def tw2723330129035946360:=I
def tw8397767341244131736:=I
def tw2102097958213412280:=I
def tw17468432909770874328:=I
def tw10808316613984022008:=I
def tw13660818753251888664:=I
def tw6595029616308257336:=I
def tw8276686850844697176:=I
def tw903299147477595832:=I
def tw3282219775513292472:=I
def tw16167750727962094328:=I
def tw18274029864830229272:=I
def tw16780044027715655512:=I
def tw6169121624821462872:=I
def tw11614677168315374520:=I
def tw4644826138222939096:=I
def tw12196959535190915097:=I
def tw2934334634183191577:=I
def tw16742664803603279897:=I
def tw6970612067262561305:=I
def tw7590389586678382649:=I
def tw18036756107955770425:=I
def tw10752251828999530553:=I
def tw13878174649381398585:=I
def tw6381949373567798393:=I
def tw2619328319087764601:=I
def tw7931712340371015833:=I
def tw4591892922468899993:=I
def tw2620766723090685081:=I
def tw8629842354104264857:=I
def tw15665130123888328889:=I
def tw8202324740074653881:=I
def tw10560761785381299481:=I
def tw11089006337719216409:=I
def tw10873140645438566681:=I
def tw1838290472931900729:=I
def tw15421845467692966233:=I
def tw5727336426373812601:=I
def tw17658956939157090681:=I
def tw17913533650454350233:=I
def tw3470537872661987737:=I
def tw1362934788030170553:=I
def tw11003732504029074873:=I
def tw4557249053275978201:=I
def tw6147440579998661113:=I
def tw3176914627707118105:=I
def tw16307636319651445305:=I
def tw10780221420552777273:=I
def tw10984668849572259417:=I
def tw12208070410736253529:=I
def tw15260483889662483033:=I
def tw7776172463132081753:=I
def tw14312028881782709881:=I
def tw8526618110683686553:=I
def tw2334058346268667545:=I
def tw523356199845796537:=I
def tw9762693734579408601:=I
def tw8586782235415746265:=I
def tw8766166691160989401:=I
def tw1082363449067770617:=I
def tw11384026147447364377:=I
def tw9352334393100003097:=I
def tw1272626423920897849:=I
def tw16563211470385919801:=I
def tw7767942474575958905:=I
def tw9652947139034134425:=I
def tw117155131873184665:=I
def tw2228886049671553017:=I
def tw15860608194799909881:=I
def tw9860278556932165658:=I
def tw14455749605352135706:=I
def tw17709020723992879130:=I
def tw10496515591665344570:=I
def tw6284140735530848378:=I
def tw4040709358167894170:=I
def tw13802732601739669658:=I
def tw17018001632782812410:=I
def tw8648816373273921882:=I
def tw6573050309091235290:=I
def tw892496598932730362:=I
def tw14737540805616153082:=I
def tw2706078444663084570:=I
def tw8081069903904567834:=I
def tw15915841128968935034:=I
def tw15938005585700133530:=I
def tw237056722430312122:=I
def tw12609726736464972506:=I
def tw14426054645241169626:=I
def tw9890869765850809082:=I
def tw2652211363858761498:=I
def tw8616352512869144378:=I
def tw7201443776597135194:=I
def tw7543140747903836026:=I
def tw270727805168750522:=I
def tw2917660687916506074:=I
def tw2499882151575946234:=I
def tw692399087358426106:=I
def tw909486225863169083:=I
def tw15945017344066772027:=I
def tw1110820369261268091:=I
def tw3330557848784222331:=I
def tw17716669004465049755:=I
def tw15354186332623811771:=I
def tw11907664747935393979:=I
def tw9699469505893966107:=I
def tw11991243173007442267:=I
def tw4586772433213287771:=I
def tw11174521089933438299:=I
def tw10523310507364949371:=I
def tw9914239544667934107:=I
def tw5080762421826011547:=I
def tw1460411199964352955:=I
def tw2738618088736673211:=I
def tw12584183449952330203:=I
def tw17649614568956465659:=I
def tw7591852545094479387:=I
def tw5237982521819551291:=I
def tw6285068417761110587:=I
def tw3472794582629415483:=I
def tw799299310643974747:=I
def tw16646820711356801627:=I
def tw15059719314655464123:=I
def tw15462625557259943643:=I
def tw3661053502253108987:=I
def tw15931463596877075227:=I
def tw10908166853611995963:=I
def tw3786953440536058715:=I
def tw14048784610585157531:=I
def tw8843947596685417403:=I
def tw5393939059203630043:=I
def tw8552129369684121595:=I
def tw1903667729464747036:=I
def tw14422175376576544828:=I
def tw8530312995454847068:=I
def tw12081977443649606748:=I
def tw3194020531574299772:=I
def tw1055509943887854748:=I
def tw6105390699925533980:=I
def tw4100459222918274396:=I
def tw1741959844362086748:=I
def tw5086159777798457724:=I
def tw7623494510938404284:=I
def tw1542670546597015996:=I
def tw1236373627685367292:=I
def tw17973880324450388508:=I
def tw15311696320705871452:=I
def tw16039166997335615164:=I
def tw18000669019164159676:=I
def tw666662772180458236:=I
def tw4124767776356948764:=I
def tw2432103092084143900:=I
def tw18373483520341997340:=I
def tw7947607042617054044:=I
def tw8014895262205816668:=I
def tw18356466322557071356:=I
def tw9897973938662536221:=I
def tw17088490116254261309:=I
def tw7588443578839760989:=I
def tw5533840282529114205:=I
def tw11475281064366723165:=I
def tw7618680267460298877:=I
def tw14931171936315886749:=I
def tw15165785776814713021:=I
def tw16045925201431029949:=I
def tw793458746831764701:=I
def tw13658267049116239261:=I
def tw11464538237633275293:=I
def tw13697059690882098589:=I
def tw14736988739669485981:=I
def tw1005667050356501917:=I
def tw1999341550235167229:=I
def tw11639457660504827485:=I
def tw9997004357933863581:=I
def tw13470140054545422045:=I
def tw17815645156226548477:=I
def tw8298361196825611037:=I
def tw1694036107177142045:=I
def tw16867556583365405:=I
def tw13574879846101860157:=I
def tw1592413133427494781:=I
def tw5097160680049374077:=I
def tw17430661774171887549:=I
def tw5632710805609896893:=I
def tw3994072323753152477:=I
def tw863963843668592605:=I
def tw12865528796054955005:=I
def tw618021020758803518:=I
def tw15689778235344225374:=I
def tw4014603393912459358:=I
def tw6964613728012609726:=I
def tw3794253326483213566:=I
def tw10757709027674354942:=I
def tw8604563276509009182:=I
def tw143654688876278078:=I
def tw10283452716399383966:=I
def tw11073794064435253694:=I
def tw8066669505235150270:=I
def tw5560580500941345310:=I
def tw6084276904886937118:=I
def tw8963965393476707870:=I
def tw17326745260414506590:=I
def tw3971329098226806366:=I
def tw4398996774543303326:=I
def tw206674922974060254:=I
def tw11404675395755026174:=I
def tw14691403910175022846:=I
def tw16256473804387367710:=I
def tw12769431688389555998:=I
def tw14902177591342856990:=I
def tw8520794198405579582:=I
def tw14331981917233599294:=I
def tw10844402103893155646:=I
def tw13540479856488798046:=I
def tw2656926092096405374:=I
def tw8284924140585812958:=I
def tw339968597417119710:=I
def tw14063656049237488606:=I
def tw1832419945758652382:=I
def tw9898165356629193726:=I
def tw9809828296510247967:=I
def tw16280470158537837663:=I
def tw3790539188590570591:=I
def tw13910539211240308863:=I
def tw2900892148391219327:=I
def tw17078268523280239775:=I
def tw5758117440233095327:=I
def tw305209046641264863:=I
def tw10656190557637021983:=I
def tw8688167153314161951:=I
def tw2345907491924876607:=I
def tw14576802599888804159:=I
def tw10827808929793277247:=I
def tw1773222186309045631:=I
def tw14803799946923564447:=I
def tw10997315119756835231:=I
def tw11074515296167275967:=I
def tw10061131422070003167:=I
def tw12975551728789619231:=I
def tw1598426042478037567:=I
def tw3400047138300010047:=I
def tw5654136041077512799:=I
def tw17797191275441285727:=I
def tw12644742870132472447:=I
def tw6747323383293463167:=I
def tw11612582018812786335:=I
def tw13033845694522839711:=I
def tw10009036451896783519:=I
def tw12253821787609513663:=I
def tw3193545058480266975:=I
def tw2075244337947728671:=I
def tw16592671804864089951:=I
def tw9592943068277288895:=I
def tw4835035570328179679:=I
def tw5004019381742784479:=I
def tw9559665689283262431:=I
end PySem.W.Fast
open PySem PySem.W PyProof.Rows
set_option maxRecDepth 100000 in
set_option maxHeartbeats 0 in
theorem PySem.Challenge.cw_stripmeld_k31_named_orders_holds : PySem.Challenge.rw_stripmeld_k31_named_orders.Holds := by
 w_on;o_law;k_head;(case hw=>w_witness2)
 k_fill
 refine L2.OC (l:=PySem.Challenge.rw_stripmeld_k31_named_orders) (n:=63) (k:=10) (x:="_law_script") (CX:=L2.CX0) (sp:=Pu.Sz) rfl (by decide) rfl ⟨rfl,by decide,by decide,rfl⟩ (fun w h Y=>PySem.W.kIn_of Y) ?F ?S ?C
 case F=>
  intro w mg fa h KX G hmg
  refine' T.Oj KX G hmg ?VM ?VP ?VQ ?VR ?VS ?VT ?VU ?VV ?VW ?VX ?a0 ?a1 ?a2 ?a3 ?a4 ?a5 ?a6 ?a7 ?a8 ?a9 ?a10 ?a11 ?a12 ?a13 ?a14 ?a15 ?a16 ?a17 ?a18 ?a19 ?a20 ?a21 ?a22 ?a23 ?a24 ?a25 ?a26 ?a27 ?a28 ?a29 ?a30 ?a31 ?a32 ?a33 ?a34 ?a35 ?a36 ?a37 ?a38 ?a39 ?a40 ?a41 ?a42 ?a43 ?a44 ?l44 ?c44 ?k44 ?VY ?VZ ?Ja ?Jb ?Jc ?Jd ?Je ?Jf ?Jg ?Jh ?Ji ?Jj ?Jk ?Jl ?Jm ?Jn ?Jo ?Jp ?Jq ?Jr ?Js ?zm_DEEDS ?zl_DEEDS ?ze_DEEDS ?Jt ?zm_OTHERS ?zl_OTHERS ?ze_OTHERS ?Ju ?zl_ORDERS ?zm_ORDERS ?ze_ORDERS ?V5 ?V6 ?VN ?V7 ?V8 ?V9 ?VA ?VB ?VC ?VD ?VE ?VF ?VG ?VH ?VI ?VJ ?VO ?x_Ringed ?x_all
  (case VM|VP|VQ|VR|VS|VT|VU|VV|VW|VX=>k_is)
  (case a0|a1|a2|a3|a4|a5|a6|a7|a8|a9|a10=>apply Pu.di<;>k_is)
  (case a11|a12|a13|a14|a15|a16|a17|a18|a19=>apply Pu.mi<;>k_is)
  (case a20|a21|a22|a23|a24|a25|a26|a27|a28|a29|a30|a31|a32|a33|a34|a35|a36|a37|a38|a39|a40|a41|a42|a43=>apply Pu.di<;>k_is)
  (case a44|l44|c44|k44|VY|VZ|Ja|Jb|Jc|Jd|Je|Jf|Jg|Jh|Ji|Jj|Jk|Jl|Jm|Jn|Jo|Jp|Jq|Jr|Js=>k_is)
  (case zm_DEEDS=>decide)
  (case zl_DEEDS=>k_is)
  (case ze_DEEDS=>exact⟨⟨_,rfl⟩,rfl,⟨_,rfl⟩,⟨⟨_,rfl⟩,rfl,⟨_,rfl⟩,⟨⟨_,rfl⟩,rfl,⟨_,rfl⟩,⟨⟨_,rfl⟩,rfl,⟨_,rfl⟩,⟨⟨_,rfl⟩,rfl,⟨_,rfl⟩,trivial⟩⟩⟩⟩⟩)
  (case Jt=>k_is)
  (case zm_OTHERS=>decide)
  (case zl_OTHERS=>k_is)
  (case ze_OTHERS=>exact⟨⟨_,rfl⟩,rfl,⟨_,rfl⟩,⟨⟨_,rfl⟩,rfl,⟨_,rfl⟩,⟨⟨_,rfl⟩,rfl,⟨_,rfl⟩,⟨⟨_,rfl⟩,rfl,⟨_,rfl⟩,⟨⟨_,rfl⟩,rfl,⟨_,rfl⟩,⟨⟨_,rfl⟩,rfl,⟨_,rfl⟩,⟨⟨_,rfl⟩,rfl,⟨_,rfl⟩,⟨⟨_,rfl⟩,rfl,⟨_,rfl⟩,⟨⟨_,rfl⟩,rfl,⟨_,rfl⟩,trivial⟩⟩⟩⟩⟩⟩⟩⟩⟩)
  (case Ju|zl_ORDERS=>k_is)
  (case zm_ORDERS=>exact Nat.le_of_ble_eq_true rfl)
  (case ze_ORDERS=>exact .cons ⟨_,rfl⟩ (.cons ⟨_,rfl⟩<|.nil))
  (case V5|V6|VN|V7|V8|V9|VA|VB|VC|VD|VE|VF|VG|VH|VI|VJ=>apply Pu.ei<;>first|(k_is;done)|k_exc)
  (case VO=>k_is)
  (case x_Ringed=>kts_exm)
  (case x_all=>kernel_rfl)
 case S=>exact fun K H a ns hl hO hS=>⟨a,ns,rfl,hS,fun _=>rfl⟩
 case C=>exact fun _ _ _ _ z=>z
