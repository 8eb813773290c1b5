import PyProof.Rows.All
import Wide.All
import OpenK.AllK
import Wide.FinOn
import Lean
import PyProof.EqAt
import PyProof.EqKinds
import PyProof.TupleCall
import PySem.Challenge.RW_stripmeld_k27_each_refusal_its_class
set_option Elab.async false
set_option linter.all false
set_option compiler.extract_closed false
set_option genSizeOf false
set_option maxRecDepth 100000
def bu_0(h:True:=by rfl):True:=h
def au_0:Lean.Syntax:=bu_0._auto_1
def bu_1(h:True:=by decide):True:=h
def au_1:Lean.Syntax:=bu_1._auto_1
def bu_2(h:True:=by first | exact .inl rfl | exact .inr rfl | assumption):True:=h
def au_2:Lean.Syntax:=bu_2._auto_1
def bu_3(h:True:=by intro _; rfl):True:=h
def au_3:Lean.Syntax:=bu_3._auto_1
def bu_4(h:True:=by first | exact Or.inl rfl | exact Or.inr (Or.inl rfl) | exact Or.inr (Or.inr rfl)):True:=h
def au_4:Lean.Syntax:=bu_4._auto_1
def bu_5(h:True:=by decide +kernel):True:=h
def au_5:Lean.Syntax:=bu_5._auto_1
def bu_6(h:True:=by first | exact Or.inl rfl | exact Or.inr rfl):True:=h
def au_6:Lean.Syntax:=bu_6._auto_1
def bu_7(h:True:=by intro _ _; rfl):True:=h
def au_7:Lean.Syntax:=bu_7._auto_1
def bu_8(h:True:=by size_fits):True:=h
def au_8:Lean.Syntax:=bu_8._auto_1
def bu_9(h:True:=by kernel_rfl):True:=h
def au_9:Lean.Syntax:=bu_9._auto_1
def bu_10(h:True:=by intro _; first | exact Or.inl rfl | exact Or.inr (Or.inl rfl) | exact Or.inr (Or.inr rfl)):True:=h
def au_10:Lean.Syntax:=bu_10._auto_1
def bu_11(h:True:=by intro _; exact ⟨rfl, rfl, rfl⟩):True:=h
def au_11:Lean.Syntax:=bu_11._auto_1
def bu_12(h:True:=by with_unfolding_all rfl):True:=h
def au_12:Lean.Syntax:=bu_12._auto_1
def bu_13(h:True:=by intro _; first | exact Or.inl rfl | exact Or.inr rfl):True:=h
def au_13:Lean.Syntax:=bu_13._auto_1
def bu_14(h:True:=by intro _; first | exact .inl rfl | exact .inr rfl | assumption):True:=h
def au_14:Lean.Syntax:=bu_14._auto_1
def bu_15(h:True:=by intro _; kernel_rfl):True:=h
def au_15:Lean.Syntax:=bu_15._auto_1
open PySem PySem.Spec PyProof.Rows
noncomputable section
def YT:=@PySem.wpAny_bind
def YU:=@List.length_map
def YV:=@if_neg
def YW:=@List.mem_singleton
def YX:=@PySem.Heap.get?_push_of_some
def YY:=@of_decide_eq_true
def YZ:=@decide_eq_true
def Wa:=@List.getElem?_eq_getElem
def Wb:=@PySem.wpAny_pure
def Wc:=@if_pos
def Wd:=@PySem.Heap.lt_size
def We:=@PyProof.Rows.boot_isinstance
def Wf:=@Nat.le_refl
def Wg:=@Option.some.inj
def Wh:=@List.getElem?_map
def Wi:=@Nat.le_trans
def Wj:=@List.mem_of_getElem?
def Wk:=@List.mem_cons
def Wl:=@PySem.Heap.get?_push_size
def Wm:=@List.mem_cons_of_mem
def Wn:=@Bool.false_ne_true
def Wo:=@List.mem_append_right
def Wp:=@List.getElem?_eq_some_iff
def Wq:=@List.forall_mem_cons
def Wr:=@List.getD_eq_getElem?_getD
def Ws:=@Nat.lt_of_lt_of_le
def Wt:=@Nat.ne_of_lt
def Wu:=@List.mem_append
def Wv:=@List.length_append
def Ww:=@List.map_append
def Wx:=@PySem.wpAny_mono
def Wy:=@List.size_toArray
def Wz:=@List.map_cons
def W1:=@List.getElem?_append_left
def W2:=@congrArg
def W3:=@List.mem_cons_self
def W4:=@decide_eq_false
def W5:=@List.getElem?_append_right
def W6:=@Bool.and_eq_true
def W7:=@PySem.W.mg_of
def W8:=@List.mem_map
def W9:=@Classical.byContradiction
def WA:=@List.all_eq_true
def WB:=@PySem.Heap.get?_update_self
def WC:=@List.append_nil
def WD:=@PySem.Heap.get?_update_other
def WE:=@List.getElem_mem
def WG:=@Int.toNat_natCast
def WH:=@PySem.wpAny_loadPart_at
def WI:=@List.take_succ_eq_append_getElem
def WJ:=@List.pairwise_iff_getElem
def WK:=@PySem.Obj.data_mapFields
def WL:=@List.mem_append_left
def WM:=@Nat.add_le_add
def WN:=@PySem.wpAny_newObj_type
def WO:=@List.nodup_cons
def WQ:=@PySem.Heap.SameBut.update
def WR:=@Nat.lt_irrefl
def WS:=@List.length_take
def WT:=@List.lookup_cons
def WU:=@Array.getElem?_toList
def WV:=@PySem.W.mg_none_of
def WW:=@Array.getElem?_eq_getElem
def WX:=@Nat.zero_le
def WY:=@List.length_set
def WZ:=@List.filterMap_cons
def Qa:=@PySem.mem_of_lookup
def Qb:=@Array.length_toList
def Qc:=@Nat.le_of_eq
def Qd:=@PySem.codeAny_mono
def Qe:=@PySem.wpAny_passesOwn
def Qf:=@PySem.codeAny_builtin
def Qg:=@PySem.Obj.isFreed_of_fields
def Qh:=@PySem.PassesOwn.never
def Qi:=@PySem.wpAny_holding
def Qj:=@PySem.F.excBase_ValueError
def Qk:=@PySem.wpAny_setState_of
def Ql:=@PySem.Heap.get?_none_of_le
def Qm:=@PySem.W.looks_findIn
def Qn:=@List.mem_iff_getElem
def Qo:=@PySem.wpAny_setField
def Qp:=@List.length_cons
def Qq:=@List.not_mem_nil
def Qr:=@PySem.F.slot_list_append
def Qs:=@PySem.F.type_list_append
def Qt:=@beq_eq_false_iff_ne
def Qu:=@PySem.F.plainAttrs_list
def Qv:=@List.mem_filter
def Qw:=@PySem.wpAny_Call_Name_kw
def Qx:=@List.find?_cons
def Qy:=@Nat.le_succ
def Qz:=@PySem.Heap.size_push
def Q0:=@Nat.lt_trans
def Q1:=@List.getElem?_eq_none
def Q2:=@List.filterMap_append
def Q3:=@List.length_filter_le
def Q4:=@List.dropLast_concat_getLast
def Q5:=@List.map_map
def Q6:=@PySem.Around.under_plainId
def Q7:=@PySem.codeAny_call_builtin
def Q8:=@List.any_cons
def Q9:=@Array.getElem?_eq_some_iff
def QA:=@PySem.wpAny_isSubtype_exc
def QB:=@List.mem_map_of_mem
def QC:=@List.drop_eq_getElem_cons
def QD:=@Nat.le_of_lt
def QE:=@PySem.W.callWith_K
def QF:=@PyProof.Rows.F.entry_set_update_loop
def QG:=@PyProof.Rows.F.plain_set_update_loop
def QH:=@PySem.Code.quiet_builtin
def QI:=@List.length_filterMap_le
def QJ:=@List.contains_cons
def QK:=@List.map_singleton
def QL:=@List.nodup_nil
def QM:=@List.take_zero
def QN:=@List.getElem?_replicate
def QO:=@List.length_eq_zero_iff
def QP:=@PySem.fits_of_scanBound
def QR:=@Nat.lt_succ_of_lt
def QS:=@List.ext_getElem?
def QT:=@decide_eq_true_eq
def QU:=@List.getElem_take
def QV:=@List.all_cons
def QW:=@PySem.wpAny_standAt
def QX:=@Nat.lt_succ_self
def QY:=@List.cons_append
def QZ:=@PySem.wpAny_call_entry
def Va:=@List.take_length
def Vb:=@PySem.W.methodCall_KW
def Vc:=@PySem.F.typeOf_object_class
def Vd:=@List.getElem?_set_ne
def Ve:=@PySem.wpAny_execs_nil
def Vf:=@Bool.eq_iff_iff
def Vg:=@PySem.wpAny_call
def Vh:=@PySem.Calls.evalArgs_plain
def Vi:=@Option.map_some
def Vj:=@Bool.or_eq_true
def Vk:=@Nat.not_lt
def Vl:=@PySem.W.plainGet_of
def Vm:=@PySem.W.looks_clsIn
def Vn:=@PySem.sizeLine_eq
def Vo:=@List.mem_filterMap
def Vp:=@PySem.W.Looks.here
def Vq:=@Nat.lt_of_le_of_lt
def Vr:=@PySem.W.isNs_of_in
def Vs:=@List.take_sublist
def Vt:=@List.nodup_append
def Vu:=@List.length_range
def Vv:=@Nat.ne_of_gt
def Vw:=@PySem.W.any_some
def Vx:=@List.map_nil
abbrev ZW:=List (Int×Int)
abbrev ZX:=List Int
abbrev ZY:=List (PySem.Addr×PySem.Obj)
abbrev ZZ:=PySem.Str->Option PySem.Value
abbrev Ya:=PySem.Value->PySem.Shared->Prop
abbrev Yb:=List (Option Nat)
abbrev Yc:=List Nat
abbrev Yd:=List PySem.Value
abbrev Ye:=List PySem.Str
abbrev Yf:=List PySem.Expr
abbrev Yg:=List PySem.Stmt
abbrev Yh:=Option PySem.Value
abbrev Yi:=Option PySem.Addr
abbrev Yj:=List (PySem.Str×PySem.Addr)
abbrev Yk:=Array (Int×PySem.Value)
abbrev ZV:=PySem.W.Frag
namespace L2
abbrev Key:=Sum Int Str
noncomputable def Pa:Key->Value->Bool
 | .inl k,v=>Value.isInt k v
 | .inr x,v=>Value.isStrOf x v
noncomputable def OD(w:World):Key->Int
 | .inl k=>hashInt k
 | .inr x=>hashStr w x
def XZ:∀{k}{v:Value},Pa k v=true->(∃i t,k=Sum.inl i/\v=Value.int i t)\/(∃x t,k=Sum.inr x/\v=Value.str x t)
 | .inl i,v,h=>by
  obtain⟨t,e⟩:=Value.isInt_shape h
  grind
 | .inr x,v,h=>by
  obtain⟨t,e⟩:=Value.isStrOf_shape h
  grind
def MC(i:Int)(t:Tok):Pa (.inl i) (.int i t)=true:=by simp[Pa,Value.isInt]
def Hn(x:Str)(t:Tok):Pa (.inr x) (.str x t)=true:=by simp[Pa,Value.isStrOf]
def Rt(a b:Int):decide ((Sum.inl a:Key)=Sum.inl b)=(a==b):=by grind
def HF(a b:Str):decide ((Sum.inr a:Key)=Sum.inr b)=decide (a=b):=by simp
def Ru(a:Int)(b:Str):decide ((Sum.inl a:Key)=Sum.inr b)=false:=W4 (λq=>nomatch q)
def GQ(a:Str)(b:Int):decide ((Sum.inr a:Key)=Sum.inl b)=false:=W4 (λq=>nomatch q)
noncomputable def Xs(prog:Program)(w:World):PySem.KeyKind prog w Key where
 is:=Pa
 hash:=OD w
 inj:=λv a b ha hb=>by
  rcases XZ ha with⟨i,t,rfl,rfl⟩|⟨x,t,rfl,rfl⟩
  ·rcases XZ hb with⟨j,u,rfl,e⟩|⟨y,u,rfl,e⟩
   ·injection e with e1 _;rw[e1]
   ·exact nomatch e
  ·rcases XZ hb with⟨j,u,rfl,e⟩|⟨y,u,rfl,e⟩
   ·exact nomatch e
   ·injection e with e1 _;rw[e1]
 byValue:=λk v h=>by
  rcases XZ h with⟨i,t,rfl,rfl⟩|⟨x,t,rfl,rfl⟩<;>rfl
 pyHash:=λhv h=>by
  rcases XZ hv with⟨i,t,rfl,rfl⟩|⟨x,t,rfl,rfl⟩
  ·exact wpAny_pyHash_int h
  ·exact wpAny_pyHash_str h
 eqBool:=λhu hv h=>by
  rcases XZ hu with⟨i,t,rfl,rfl⟩|⟨x,t,rfl,rfl⟩
  ·rcases XZ hv with⟨j,u,rfl,rfl⟩|⟨y,u,rfl,rfl⟩
   ·rw[Rt]at h;exact wpAny_eqBool_int h
   ·rw[Ru]at h;exact SeqAt.EqAt.int_str i t y u _ _ _ _ h
  ·rcases XZ hv with⟨j,u,rfl,rfl⟩|⟨y,u,rfl,rfl⟩
   ·rw[GQ]at h;exact SeqAt.EqAt.str_int x t j u _ _ _ _ h
   ·rw[HF]at h;exact wpAny_eqBool_str h
 «strs»:=λk x t v h=>by
  rcases XZ h with⟨i,u,rfl,e⟩|⟨y,u,rfl,e⟩
  ·exact nomatch e
  ·injection e with e1 _;subst e1;cases v<;>rfl
def Mw(prog:Program)(w:World)(i:Int)(t:Tok):(Xs prog w).is (.inl i) (.int i t)=true:=MC i t
def MH(prog:Program)(w:World)(x:Str)(t:Tok):(Xs prog w).is (.inr x) (.str x t)=true:=Hn x t
inductive V where
 |non|bl (b:Bool)|int (i:Int)|str (x:Str)|byt (b:Array UInt8)|flt (b:UInt64)|ref (a:Addr)|ty (n:String)
 deriving DecidableEq
def RelV:V->Value->Prop
 | .non,u=>u=Value.none
 | .bl b,u=>u=Value.bool b
 | .int i,u=>∃t,u=Value.int i t
 | .str x,u=>∃t,u=Value.str x t
 | .byt b,u=>∃t,u=Value.bytes b t
 | .flt b,u=>∃t,u=Value.float b t
 | .ref a,u=>u=Value.ref a
 | .ty n,u=>u=Value.type n
abbrev Vals:List V->Yd->Prop:=Paired RelV
def Vals.length (r:Vals xs us):xs.length=us.length:=Paired.length r
def Vals.get:∀{xs us}{i:Nat}{x:V},Vals xs us->xs[i]?=some x->∃u,us[i]?=some u/\RelV x u:=by
 intro l
 induction l with
 |nil=>
  intro _ i _ h e;simp at e
 |cons _ _ b=>
  intro _ i d h e;cases h with
  |cons h r=>
   cases i with
   |zero=>
    simp at e;subst e;exact⟨_,rfl,h⟩
   |succ i=>
    obtain⟨v,g,f⟩:=b r (by simpa using e);exact⟨v,by simpa using g,f⟩
def Vals.append:∀{xs b}{us ws:Yd},Vals xs us->Vals b ws->Vals (xs++b) (us++ws):=by
 intro g
 induction g with
 |nil=>
  intro _ _ _ h s;cases h
  exact s
 |cons _ _ f=>
  intro _ _ _ h s;cases h with
  |cons h r=>
   exact .cons h (f r s)
theorem Vals.take:∀{xs us} n,Vals xs us->Vals (xs.take n) (us.take n)
 |_,_,0,_|_,_,_+1,.nil=>.nil
 |_,_,n+1,.cons r t=>.cons r (Vals.take n t)
theorem Vals.drop:∀{xs us} n,Vals xs us->Vals (xs.drop n) (us.drop n)
 |_,_,0,r=>r
 |_,_,_+1,.nil=>.nil
 |_,_,n+1,.cons _ t=>Vals.drop n t
def RelO:Option V->Yh->Prop
 |some v,some u=>RelV v u
 |none,none=>True
 |_,_=>False
def KV{b:Type}:List (b×V)->List (b×Value)->Prop:=Paired λ(p:b×V) (q:b×Value)=>p.1=q.1/\RelV p.2 q.2
noncomputable def kV:Key->V
 | .inl i=>.int i
 | .inr x=>.str x
inductive HO where
 |lst (xs:List V)
 |tup (xs:List V)
 |dK (kvs:List (Key×V))|dT (kvs:List (List Key×V))
 |set (S:Int->Bool) (n:Nat)
 |ins (C dx:Addr) (fs:List (Str×V))
 |own (x:Addr)
 |xd (fs:List (Str×V))
 |met (f x:Addr)
 |rng (lo hi:Int)
 |frz (o:Obj) (u:HO)
 |tbl (ps:Array Value)
 |ext (φ:Heap->Prop)
abbrev Hp:=Addr->Option HO
noncomputable def upd(H:Hp)(a:Addr)(o:HO):Hp:=λb=>if b=a then some o else H b
def Um:upd H a o a=some o:=by unfold upd;rw[Wc rfl]
def JX{a b o}(h:b≠a):upd H a o b=H b:=by unfold upd;rw[YV h]
def DB:upd (upd H a o) a u=upd H a u:=by
 funext b;unfold upd;split<;>rfl
def Ad{H:Hp}{a b}{o u}(h:H a=some o)(f:H b=some u)(d:o≠u):a≠b:=by grind
def UF{H:Hp}{a b}{o}(h:H a=some o)(f:H b=none):a≠b:=by grind
section
variable (P:Program) (w:World)
def ObjOk(H:Hp)(h:Heap)(a:Addr):HO->Prop
 | .lst xs=>xs.length<=sizeLine/\∃(g:Yd) (n:Nat),Vals xs g/\h.get? a=some {cls:=.type "list",data:=.seq g.toArray n}
 | .tup xs=>xs.length<=sizeLine/\∃g:Yd,Vals xs g/\IsTup h a g.toArray
 | .dK b=>b.length<=sizeLine/\(a==sysModules)=false/\∃y,KV b y/\h.DictOf (Xs P w) a y
 | .dT b=>b.length<=sizeLine/\(a==sysModules)=false/\∃xs:List (List Key×Addr×Value),
   Paired (λ(p:List Key×V) (q:List Key×Addr×Value)=>p.1=q.1/\H q.2.1=some (.tup<|p.1.map kV)/\RelV p.2 q.2.2) b xs/\
   ∃o B J,h.get? a=some o/\o.ExactDict/\o.data=.dict B J/\B.toList=xs.map (entryOfKey<|tupleKind<|Xs P w)/\(xs.map (·.1)).Nodup
 | .set S n=>h.SetOf (intKind P w) a S n
 | .ins C r fs=>H r=some (.own a)/\fs.length<=1000/\r≠a/\h.get? a=some (PySem.W.instObj C r)/\
   ∃l,h.Ns1 r l/\(∀f,RelO (fs.lookup f) (l f))/\PySem.Within l (fs.map (·.1))
 | .own _=>∃o,h.get? a=some o
 | .xd fs=>∃l,h.Ns1 a l/\∀f,RelO (fs.lookup f) (l f)
 | .rng lo G=>∃t u v,h.get? a=some {cls:=.type "range",data:=.fields #[.int lo t,.int G u,.int 1 v]}
 | .frz o u=>h.get? a=some o/\ObjOk H h a u
 | .tbl E=>h.get? a=some {cls:=.none,data:=.fields E}
 | .met f x=>h.get? a=some (PySem.W.methodObj (.ref f)<|.ref x)
 | .ext s=>s h/\(∃o,h.get? a=some o)/\∀A z:Heap,s A->(∀o,A.get? a=some o->z.get? a=some o)->s z
def HOk(H:Hp)(h:Heap):Prop:=∀a o,H a=some o->ObjOk P w H h a o
end
section
variable {P:Program}{w:World}{H H':Hp}{h h':Heap}{a:Addr}{o:HO}
def ObjOk.lt (x:ObjOk P w H h a o):a<h.objs.size:=by
 cases o with
 |lst xs=>obtain⟨_,_,_,_,e⟩:=x;exact Wd e
 |tup xs=>obtain⟨_,_,_,p⟩:=x;exact p.lt
 |set S n=>obtain⟨o,_,_,_,e,_⟩:=x;exact Wd e
 |ins C r fs=>obtain⟨_,_,_,e,_⟩:=x;exact Wd e
 |own y=>obtain⟨_,e⟩:=x;exact Wd e
 |xd fs=>obtain⟨_,⟨_,_,_,e,_⟩,_⟩:=x;exact Wd e
 |rng lo q=>obtain⟨_,_,_,e⟩:=x;exact Wd e
 |frz l u=>obtain⟨e,_⟩:=x;exact Wd e
 |tbl g|met f y=>exact Wd x
 |ext b=>obtain⟨_,⟨_,e⟩,_⟩:=x;exact Wd e
 |_=>obtain⟨_,_,_,_,o,_,_,e,_⟩:=x;exact Wd e
def Paired.mapP:∀{l:List s}{g:List q},Paired F l g->(∀a b,F a b->G a b)->Paired G l g:=by
 intro p
 induction p with
 |nil=>
  intro _ h _;cases h
  exact .nil
 |cons _ _ n=>
  intro _ h f;cases h with
  |cons h r=>
   exact .cons (f _ _ h) (n r f)
def ObjOk.stay (x:ObjOk P w H h a o) (k:∀b u,(b=a\/H b=some (.own a))->h.get? b=some u->h'.get? b=some u)
  (Q:∀b,H b=some (.own a)->H' b=some (.own a)) (N:∀b xs,H b=some (.tup xs)->H' b=some (.tup xs)):ObjOk P w H' h' a o:=by
 induction o with
 |lst xs=>obtain⟨z,A,n,r,e⟩:=x;exact⟨z,A,n,r,k _ _ (.inl rfl) e⟩
 |tup xs=>obtain⟨z,A,r,g,e,c⟩:=x;exact⟨z,A,r,g,k _ _ (.inl rfl) e,c⟩
 |dK G=>obtain⟨z,y,J,r,g,l,s,e,c⟩:=x;exact⟨z,y,J,r,g,l,s,k _ _ (.inl rfl) e,c⟩
 |dT G=>
  obtain⟨z,y,xs,r,g,l,s,e,c⟩:=x;exact⟨z,y,xs,Paired.mapP r λp q z=>⟨z.1,N _ _ z.2.1,z.2.2⟩,g,l,s,k _ _ (.inl rfl) e,c⟩
 |set S n=>obtain⟨g,l,s,t,e,c⟩:=x;exact⟨g,l,s,t,k _ _ (.inl rfl) e,c⟩
 |ins C dx fs=>
  obtain⟨d,z,L,e,E,⟨B,l,s,T,c⟩,r⟩:=x;exact⟨Q _ d,z,L,k _ _ (.inl rfl) e,E,⟨B,l,s,k _ _ (.inr d) T,c⟩,r⟩
 |own y=>obtain⟨g,e⟩:=x;exact⟨g,k _ _ (.inl rfl) e⟩
 |xd fs=>obtain⟨E,⟨B,l,s,e,c⟩,r⟩:=x;exact⟨E,⟨B,l,s,k _ _ (.inl rfl) e,c⟩,r⟩
 |rng lo hi=>obtain⟨t,u,v,e⟩:=x;exact⟨t,u,v,k _ _ (.inl rfl) e⟩
 |frz g u M=>obtain⟨e,q⟩:=x;exact⟨k _ _ (.inl rfl) e,M q⟩
 |tbl Y=>
  have e:=x;exact k a _ (.inl rfl) e
 |met f y=>
  have e:=x;exact k a _ (.inl rfl) e
 |ext U=>obtain⟨p,⟨o,e⟩,st⟩:=x;exact⟨st _ _ p λo q=>k _ _ (.inl rfl) q,⟨o,k _ _ (.inl rfl) e⟩,st⟩
def HOk.lt (x:HOk P w H h) (e:H a=some o):a<h.objs.size:=(x a o e).lt
def HOk.fresh (x:HOk P w H h) (e:h.objs.size<=a):H a=none:=by
 cases q:H a with
 |none=>rfl
 |some u=>exact absurd (Ws (x.lt q) e) (WR _)
def HOk.kept (x:HOk P w H h) (k:∀b u,h.get? b=some u->h'.get? b=some u):HOk P w H h':=λa o e=>
 (x a o e).stay (λb u _ q=>k b u q) (λ_ q=>q) λ_ _ q=>q
def HOk.laid (x:HOk P w H h) (k:∀b u,h.get? b=some u->h'.get? b=some u) (l:h.objs.size<=a) (new:ObjOk P w (upd H a o) h' a o):HOk P w (upd H a o) h':=λb u e=>by
 have f:=x.fresh l;by_cases g:b=a
 ·subst g;rw[Um]at e;cases e;exact new
 ·rw[JX g]at e;exact(x b u e).stay (λc v _ q=>k c v q) (λc q=>by rw[JX (UF q f)];exact q) λc xs q=>by rw[JX (UF q f)];exact q
end
def Rd(H:Hp)(a:Addr)(u:HO):Prop:=H a=some u\/∃o,H a=some (.frz o u)
def Rd.ok {H h a u} (r:Rd H a u) (x:HOk P w H h):ObjOk P w H h a u:=by
 rcases r with r|⟨o,r⟩
 ·exact x a u r
 ·obtain⟨_,q⟩:=x a _ r;lia
def Mut:Option HO->Prop
 |some (.lst _)=>True
 |some (.dK _)=>True
 |some (.dT _)=>True
 |some (.set _ _)=>True
 |some (.ins _ _ _)=>True
 |some (.ext _)=>True
 |_=>False
section
variable {P:Program}{w:World}{H:Hp}{h h':Heap}{x e:Addr}{o':HO}
def HOk.write (ok:HOk P w H h) (g:Mut (H x)) (A:e=x\/H e=some (.own x)) (k:∀b u,b≠e->h.get? b=some u->h'.get? b=some u) (l:∃u,h'.get? e=some u)
  (new:ObjOk P w (upd H x o') h' x o'):HOk P w (upd H x o') h':=λb u q=>by
 have nown:∀c y,H c=some (.own y)->c≠x:=λc y r z=>by subst z;rw[r]at g;exact g
 have ntup:∀c xs,H c=some (.tup xs)->c≠x:=λc xs r z=>by subst z;rw[r]at g;exact g
 by_cases p:b=x
 ·subst p;rw[Um]at q;cases q;exact new
 ·rw[JX p]at q;by_cases f:b=e
  ·have n:H b=some (.own x):=by
    rcases A with z|z
    ·grind
    ·rw[f];exact z
   rw[q]at n;cases n;obtain⟨v,s⟩:=l;exact⟨v,by rw[f];exact s⟩
  ·refine(ok b u q).stay (λc v o r=>k c v ?_ r) (λc r=>by rw[JX (nown c b r)];exact r) λc xs r=>by rw[JX (ntup c xs r)];exact r
   rcases o with rfl|o
   ·exact f
   ·grind
end
structure Un (fs ex:List Addr) (H H':Hp) (h h':Heap):Prop where
 keep:∀b o,h.get? b=some o->H b=none->b∉fs->b∉ex->h'.get? b=some o
 slot:∀b o,h.get? b=some o->H b=none->b∈fs->b∉ex->∃sl,h'.get? b=some {o with slots:=sl}
 free:∀b o,h.get? b=some o->H b=none->b∉ex->H' b=none
 there:∀b o,h.get? b=some o->b∉ex->∃o',h'.get? b=some o'
 tups:∀b xs,H b=some (.tup xs)->H' b=some (.tup xs)
 frzs:∀b o u,H b=some (.frz o u)->H' b=some (.frz o u)
 tbls:∀b ps,H b=some (.tbl ps)->∃more,H' b=some (.tbl (ps++more))
section
variable {fs fs' ex ex':List Addr}{H H1 H2:Hp}{h h1 h2 h':Heap}{a x e:Addr}{o:HO}
def Un.any (u:Un fs ex H H1 h h1) {b f} (q:h.get? b=some f) (n:H b=none) (hx:b∉ex):∃sl,h1.get? b=some {f with slots:=sl}:=by
 by_cases g:b∈fs
 ·exact u.slot b f q n g hx
 ·exact⟨f.slots,u.keep b f q n g hx⟩
def Un.kept (k:∀b u,h.get? b=some u->h'.get? b=some u):Un fs ex H H h h':=
 ⟨λb f q _ _ _=>k b f q,λb f q _ _ _=>⟨f.slots,k b f q⟩,λ_ _ _ n _=>n,λb f q _=>⟨f,k b f q⟩,λ_ _ q=>q,λ_ _ _ q=>q,λ_ g q=>⟨#[],by rw[q];simp⟩⟩
def Un.refl:Un fs ex H H h h:=Un.kept λ_ _ q=>q
def Un.laid (k:∀b u,h.get? b=some u->h'.get? b=some u) (hp:h.objs.size<=a) (hn:H a=none):Un fs ex H (upd H a o) h h' where
 keep:=λb u q _ _ _=>k b u q
 slot:=λb u q _ _ _=>⟨u.slots,k b u q⟩
 free:=λb u q n _=>by rw[JX (Wt<|Ws (Wd q) hp)];exact n
 there:=λb u q _=>⟨u,k b u q⟩
 tups:=λb xs q=>by rw[JX (UF q hn)];exact q
 frzs:=λb u xs q=>by rw[JX (UF q hn)];exact q
 tbls:=λb ps q=>⟨#[],by rw[JX (UF q hn),q];simp⟩
def Un.write (f:Mut (H x)) (v:e=x\/H e=some (.own x)) (k:∀b u,b≠e->h.get? b=some u->h'.get? b=some u) (s:∃u,h'.get? e=some u):Un fs ex H (upd H x o) h h':=by
 have hx:∀b,H b=none->b≠x:=λb n z=>by subst z;rw[n]at f;exact f
 have l:∀b,H b=none->b≠e:=λb n z=>by
  rcases v with r|r
  ·grind
  ·grind
 have g:∀b u,H b=some u->¬Mut (some u)->b≠x:=λb u q p z=>by subst z;rw[q]at f;exact p f
 refine⟨λb u q n _ _=>k b u (l b n) q,λb u q n _ _=>⟨u.slots,k b u (l b n) q⟩,λb u q n _=>by rw[JX (hx b n)];exact n,λb u q _=>?_,
  λb xs q=>by rw[JX (g b _ q λz=>z)];exact q,λb u xs q=>by rw[JX (g b _ q λz=>z)];exact q,λb y q=>⟨#[],by rw[JX (g b _ q λz=>z),q];simp⟩⟩
 by_cases w:b=e
 ·grind
 ·grind
end
noncomputable def trk(h:Heap)(H:Hp):List Addr:=(List.range h.objs.size).filter λa=>(H a).isSome
noncomputable def Kr(h:Heap)(H:Hp):Heap:=PySem.W.hideAll h (trk h H)
def GT(h:Heap)(H:Hp):(Kr h H).objs.size=h.objs.size:=PySem.W.hideAll_size _ _
def Zam{H b o}(e:h.get? b=some o)(n:H b=none):(Kr h H).get? b=some o:=
 PySem.W.hideAll_get _ e λf=>by
  have q:=(Qv.mp f).2
  grind
def OT(e:(Kr h H).get? b=some o):h.get? b=some o/\H b=none:=by
 have f:=PySem.W.of_hideAll (trk h H) e;refine⟨f,?_⟩;cases q:H b with
 |none=>rfl
 |some x=>
  have g:b∈trk h H:=Qv.mpr ⟨List.mem_range.mpr (Wd f),by simp[q]⟩;have z:(Kr h H).get? b=none:=PySem.W.hideAll_none (trk h H) g
  grind
noncomputable def OL(g h:Heap)(L:Addr):ZY:=(List.range h.objs.size).filterMap λa=>if a=L\/(g.get? a).isSome=true then none else(h.get? a).map λo=>(a,o)
noncomputable def rest(g h:Heap)(L d:Addr):ZY:=(OL g h L).filter λp=>decide (p.1≠d)
structure Mod (K:ZV) (mg:ZZ) (base:Heap):Prop where
 kin:K.In base
 glob:base.Ns mainGlobals mg
 blt:∃mb,base.Ns builtinsNs mb/\∀x:Str,x≠"__name__"->mb x=bootBuiltins x
 nolimit:base.NoLimit
structure Cx where
 prog:Program
 w:World
 K:ZV
 mg:ZZ
 base:Heap
 A:Around
 N:Ye
 s₀:Shared
 H₀:Hp
 env:Env
 outer:List Env
 stack:List Env
 ex:List Addr
 fn:Str->Bool
 calm:Bool
 pn:ZY
 xe:Ya
noncomputable def frs(l:List Env):List Addr:=l.filterMap (·.frame)
noncomputable abbrev Cx.fs (X:Cx):List Addr:=frs X.outer
def Vis(b:Scope)(x:Str):Prop:=b.names.lookup x=some .local\/b.names.lookup x=some .cell\/b.names.lookup x=some .free
def Loc(b:Scope)(x:Str):Prop:=b.names.lookup x=some .local\/b.names.lookup x=some .cell
def Look(env:Env)(h:Heap)(m:ZZ)(x:Str)(u:Value):Prop:=
 (env.kindOf x=some .local/\m x=some u)\/((env.kindOf x=some .cell\/env.kindOf x=some .free)/\∃c,env.cells.lookup x=some c/\h.IsCell c (some u))
structure Cx.Ok (X:Cx):Prop where
 mod:Mod X.K X.mg X.base
 kind:X.env.scope.kind=.function
 glob:X.env.globals=mainGlobals
 blt:X.env.builtins=builtinsNs
 above:X.s₀.heap.objs.size<=X.env.locals
 inj:∀x y c,X.env.cells.lookup x=some c->X.env.cells.lookup y=some c->x=y
 has:∀x,(X.env.kindOf x=some .cell\/X.env.kindOf x=some .free)->∃c,X.env.cells.lookup x=some c
 cab:∀x c,X.fn x=true->X.env.cells.lookup x=some c->X.s₀.heap.objs.size<=c
 hd:X.calm=true->X.A.handled=none
 frames:X.A.frames=some X.stack
 stk:X.stack=X.outer\/(X.stack=X.env::X.outer/\X.env.frame=some X.env.locals)
 exf:∀b∈X.ex,b≠X.env.locals/\∀x c,X.env.cells.lookup x=some c->c≠b
 bs:∀b o,X.base.get? b=some o->X.s₀.heap.get? b=some o/\X.H₀ b=none
 bsz:X.base.objs.size<=X.s₀.heap.objs.size
 noex:∀b o,X.base.get? b=some o->b∉X.ex
 exfs:∀b∈X.ex,b∉X.fs
 funs:X.s₀.heap.FunFrames X.base X.outer
 frf:∀b∈X.fs,X.H₀ b=none
structure Inv (X:Cx) (pins:ZY) (σ:List (Option V)) (H:Hp) (s:Shared):Prop where
 ok:X.Ok
 os:s.os=X.s₀.os
 bare:AllBare s.gens
 base:Un X.fs X.ex X.H₀ H X.s₀.heap s.heap
 loc:∃m,s.heap.Ns X.env.locals m/\∀(i:Nat) (x:Str) (v:V),X.N[i]?=some x->σ[i]?=some (some v)->Vis X.env.scope x->∃u,RelV v u/\Look X.env s.heap m x u
 cell:∀x c,X.env.cells.lookup x=some c->∃v,s.heap.IsCell c v
 free:H X.env.locals=none
 freeC:∀x c,X.env.cells.lookup x=some c->H c=none
 pin:∀p∈X.pn++pins,s.heap.get? p.1=some p.2/\H p.1=none/\p.1≠X.env.locals/\p.1∉X.fs/\∀v,p.2.data≠.cell v
 hok:HOk X.prog X.w H s.heap
 len:σ.length=X.N.length
section
variable {X:Cx}{pins:ZY}{σ:List (Option V)}{H H':Hp}{s:Shared}{h':Heap}
def Cx.Ok.nofr (ok:X.Ok) {b o} (e:X.base.get? b=some o):b∉X.fs:=λf=>by
 have:=(ok.funs.mem f).1
 grind
def Inv.bs (I:Inv X pins σ H s):∀b o,X.base.get? b=some o->s.heap.get? b=some o/\H b=none:=λb o e=>
 ⟨I.base.keep b o (I.ok.bs b o e).1 (I.ok.bs b o e).2 (I.ok.nofr e) (I.ok.noex b o e),I.base.free b o (I.ok.bs b o e).1 (I.ok.bs b o e).2 (I.ok.noex b o e)⟩
def Inv.bk (I:Inv X pins σ H s):∀b o,X.base.get? b=some o->s.heap.get? b=some o:=λb o e=>(I.bs b o e).1
def Inv.mod (I:Inv X pins σ H s):Mod X.K X.mg X.base:=I.ok.mod
def Inv.kIn (I:Inv X pins σ H s):X.K.In s.heap:=I.ok.mod.kin.keeps I.bk
def Inv.lt (I:Inv X pins σ H s):X.env.locals<s.heap.objs.size:=let ⟨_,b,_⟩:=I.loc;b.lt
def Inv.sz (I:Inv X pins σ H s):X.s₀.heap.objs.size<=s.heap.objs.size:=Wi I.ok.above (QD I.lt)
def Inv.nofs (I:Inv X pins σ H s) {a:Addr} (h:s.heap.objs.size<=a):a∉X.fs:=λf=>by
 obtain⟨_,o,b,_⟩:=I.ok.funs.mem f;exact absurd (Ws (Wd b)<|Wi I.sz h) (WR _)
def Inv.cne (I:Inv X pins σ H s):∀x c,X.env.cells.lookup x=some c->c≠X.env.locals:=λx c e z=>by
 obtain⟨v,o,h,l⟩:=I.cell x c e;obtain⟨m,⟨g,n,p,b,f,_⟩,_⟩:=I.loc
 grind
def Inv.funs (I:Inv X pins σ H s):s.heap.FunFrames X.base X.outer:=by
 have all:∀l,(∀b∈frs l,b∈X.fs)->X.s₀.heap.FunFrames X.base l->s.heap.FunFrames X.base l:=by
  intro l
  induction l with
  |nil=>intro _ _;trivial
  |cons A r p=>
   intro n w;obtain⟨x,⟨L,o,f,v,u,y⟩,q⟩:=w;have h:=n L (by unfold frs;rw[WZ,f];exact W3);obtain⟨sl,e⟩:=I.base.slot L o u (I.ok.frf L h) h λz=>I.ok.exfs L z h;exact⟨x,⟨L,_,f,v,e,y⟩,p (λb g=>n b (by unfold frs;rw[WZ,f];exact Wm _ g)) q⟩
 exact all X.outer (λ_ g=>g) I.ok.funs
def Inv.stack (I:Inv X pins σ H s):s.heap.FunFrames X.base X.stack:=by
 rcases I.ok.stk with e|⟨e,f⟩
 ·rw[e];exact I.funs
 ·rw[e];obtain⟨m,b,_⟩:=I.loc;refine .cons (by rw[I.ok.kind];decide) f b ?_ I.funs;exact Ql (Wi I.ok.bsz I.ok.above)
def Inv.stkSub (I:Inv X pins σ H s):∀b∈frs X.stack,b∈X.env.locals::X.fs:=λb f=>by
 rcases I.ok.stk with e|⟨e,g⟩
 ·grind
 ·rw[e]at f;unfold frs at f;rw[WZ,g]at f;trivial
def Inv.stkFree (I:Inv X pins σ H s):∀b∈frs X.stack,H b=none:=λb f=>by
 rcases Wk.mp (I.stkSub b f)with e|f
 ·rw[e];exact I.free
 ·obtain⟨_,o,g,_⟩:=I.ok.funs.mem f;exact I.base.free b o g (I.ok.frf b f) λz=>I.ok.exfs b z f
def Inv.step {d'}{ch:List Addr} (I:Inv X pins σ H s)
  (g:∀b∈ch,(b∈X.ex\/X.s₀.heap.objs.size<=b)/\b≠X.env.locals/\(∀x c,X.env.cells.lookup x=some c->c≠b)/\∀p∈X.pn++pins,p.1≠b)
  (keep:∀b o,b≠X.env.locals->b∉X.fs->b∉ch->s.heap.get? b=some o->H b=none->h'.get? b=some o)
  (slot:∀b o,b≠X.env.locals->b∈X.fs->b∉ch->s.heap.get? b=some o->H b=none->∃sl,h'.get? b=some {o with slots:=sl}) (free:∀b o,b∉ch->s.heap.get? b=some o->H b=none->H' b=none)
  (there:∀b o,b∉ch->s.heap.get? b=some o->∃o',h'.get? b=some o')
  (tups:∀b xs,H b=some (.tup xs)->H' b=some (.tup xs)) (frzs:∀b o u,H b=some (.frz o u)->H' b=some (.frz o u)) (tbls:∀b ps,H b=some (.tbl ps)->∃more,H' b=some (.tbl (ps++more)))
  (ns:∀m,s.heap.Ns X.env.locals m->h'.Ns X.env.locals m) (J:HOk X.prog X.w H' h') (hg:AllBare g') :
  Inv X pins σ H' {s with heap:=h',gens:=g',drawn:=d',toks:=t'}:=by
 have B:∀b o,X.s₀.heap.get? b=some o->b≠X.env.locals:=λb o e=>Wt (Ws (Wd e) I.ok.above)
 have f:∀b o,X.s₀.heap.get? b=some o->b∉X.ex->b∉ch:=λb o e hx y=>by
  rcases(g b y).1 with z|z
  ·exact hx z
  ·exact absurd (Ws (Wd e) z) (WR _)
 have cellK:∀x c,X.env.cells.lookup x=some c->∀v,s.heap.IsCell c v->h'.IsCell c v:=λx c e v ⟨o,A,L⟩=>by
  have C:=λz=>(g c z).2.2.1 x c e rfl;by_cases M:c∈X.fs
  ·obtain⟨sl,q⟩:=slot c o (I.cne x c e) M C A (I.freeC x c e);exact⟨_,q,L⟩
  ·exact⟨o,keep c o (I.cne x c e) M C A (I.freeC x c e),L⟩
 refine⟨I.ok,I.os,hg,⟨λb o e n y hx=>?_,λb o e n y hx=>?_,λb o e n hx=>?_,λb o e hx=>?_,λb xs e=>tups b xs (I.base.tups b xs e),λb o xs e=>frzs b o xs (I.base.frzs b o xs e),λb ps e=>?_⟩,?_,λx c e=>?_,?_,λx c e=>?_,λp T=>?_,J,I.len⟩
 ·exact keep b o (B b o e) y (f b o e hx) (I.base.keep b o e n y hx) (I.base.free b o e n hx)
 ·obtain⟨sl,h⟩:=I.base.slot b o e n y hx;obtain⟨G,E⟩:=slot b _ (B b o e) y (f b o e hx) h (I.base.free b o e n hx);exact⟨G,E⟩
 ·obtain⟨o',h⟩:=I.base.there b o e hx;exact free b o' (f b o e hx) h (I.base.free b o e n hx)
 ·obtain⟨o',h⟩:=I.base.there b o e hx;exact there b o' (f b o e hx) h
 ·obtain⟨Q,h⟩:=I.base.tbls b ps e;obtain⟨N,E⟩:=tbls b _ h;exact⟨Q++N,by rw[E,Array.append_assoc]⟩
 ·obtain⟨m,U,Y⟩:=I.loc;refine⟨m,ns m U,λi x v h E e3=>?_⟩;obtain⟨u,r,l⟩:=Y i x v h E e3;refine⟨u,r,?_⟩;rcases l with l|⟨k,c,e,z⟩
  ·exact .inl l
  ·exact .inr ⟨k,c,e,cellK x c e _ z⟩
 ·obtain⟨v,z⟩:=I.cell x c e;exact⟨v,cellK x c e v z⟩
 ·obtain⟨m,⟨o,_,_,A,_⟩,_⟩:=I.loc;exact free _ o (λz=>(g _ z).2.1 rfl) A I.free
 ·obtain⟨v,o,A,L⟩:=I.cell x c e;exact free c o (λz=>(g c z).2.2.1 x c e rfl) A (I.freeC x c e)
 ·obtain⟨e,n,ne,nf,d⟩:=I.pin p T
  grind
def Inv.un (I:Inv X pins σ H s) (u:Un X.fs [] H H' s.heap h') (g:HOk X.prog X.w H' h'):Inv X pins σ H' {s with heap:=h',toks:=t'}:=by
 obtain⟨m,⟨o,C,E,q,r⟩,_⟩:=id I.loc;obtain⟨sl,y⟩:=u.any q I.free (by simp)
 exact I.step (ch:=[]) (λ_ z=>nomatch z) (λb o _ h _ e n=>u.keep b o e n h (by simp)) (λb o _ h _ e n=>u.slot b o e n h (by simp)) (λb o _ e n=>u.free b o e n (by simp)) (λb o _ e=>u.there b o e (by simp)) u.tups u.frzs u.tbls (λB x=>by
  obtain⟨A,l,p,f,v⟩:=x;rw[q]at f;cases f;exact⟨_,l,p,y,v⟩) g I.bare
def Inv.call {d'}{ch} (I:Inv X pins σ H s) (u:Un (frs X.stack) ch H H' s.heap h') (l:HOk X.prog X.w H' h') (E:AllBare J)
  (h:∀b∈ch,(b∈X.ex\/X.s₀.heap.objs.size<=b)/\b≠X.env.locals/\(∀x c,X.env.cells.lookup x=some c->c≠b)/\∀p∈X.pn++pins,p.1≠b) :
  Inv X pins σ H' {s with heap:=h',gens:=J,drawn:=d',toks:=t'}:=by
 obtain⟨m,⟨o,N,Q,A,r⟩,_⟩:=id I.loc;obtain⟨sl,q⟩:=u.any A I.free λz=>(h _ z).2.1 rfl
 exact I.step h (λb o q G f e n=>u.keep b o e n (λz=>(Wk.mp<|I.stkSub b z).elim q G) f) (λb o _ _ f e n=>u.any e n f) (λb o f e n=>u.free b o e n f) (λb o f e=>u.there b o e f) u.tups u.frzs u.tbls (λM C=>by
  obtain⟨L,v,y,g,B⟩:=C;rw[A]at g;cases g;exact⟨_,v,y,q,B⟩) l E
def Inv.turned {it} (I:Inv X pins σ H s) (k:∀b o,b≠it->s.heap.get? b=some o->h'.get? b=some o) (B:H it=none) (l:it≠X.env.locals)
  (J:it∈X.ex\/X.s₀.heap.objs.size<=it) (G:∀x c,X.env.cells.lookup x=some c->c≠it) (E:∀p∈X.pn++pins,p.1≠it):Inv X pins σ H {s with heap:=h',toks:=t'}:=by
 refine I.step (ch:=[it]) (λb C=>?_) (λb o _ _ f e _=>k b o (λz=>f (by simp[z])) e) (λb o _ _ f e _=>⟨o.slots,k b o (λz=>f (by simp[z])) e⟩) (λ_ _ _ _ n=>n)
  (λb o f e=>⟨o,k b o (λz=>f (by simp[z])) e⟩) (λ_ _ e=>e) (λ_ _ _ e=>e) (λb A e=>⟨#[],by rw[e];simp⟩) (λm h=>?_) (λb u e=>?_) I.bare
 ·grind
 ·obtain⟨o,w,y,g,r⟩:=h;exact⟨o,w,y,k _ o (Ne.symm l) g,r⟩
 ·refine(I.hok b u e).stay (λc v f q=>k c v ?_ q) (λ_ q=>q) λ_ _ q=>q;rcases f with z|z
  ·grind
  ·grind
def Inv.tok (I:Inv X pins σ H s) (t:Nat):Inv X pins σ H {s with toks:=t}:=I.un Un.refl I.hok
def Inv.kept (I:Inv X pins σ H s) (k:∀b u,s.heap.get? b=some u->h'.get? b=some u):Inv X pins σ H {s with heap:=h',toks:=t'}:=I.un (Un.kept k) (I.hok.kept k)
def Inv.laid {a:Addr}{o}{t'} (I:Inv X pins σ H s) (k:∀b u,s.heap.get? b=some u->h'.get? b=some u) (f:s.heap.objs.size<=a) (new:ObjOk X.prog X.w (upd H a o) h' a o) :
  Inv X pins σ (upd H a o) {s with heap:=h',toks:=t'}:=I.un (Un.laid k f<|I.hok.fresh f) (I.hok.laid k f new)
def Inv.write (I:Inv X pins σ H s) (g:Mut (H x)) (h:e=x\/H e=some (.own x)) (k:∀b u,b≠e->s.heap.get? b=some u->h'.get? b=some u) (f:∃u,h'.get? e=some u)
  (new:ObjOk X.prog X.w (upd H x o) h' x o):Inv X pins σ (upd H x o) {s with heap:=h',toks:=t'}:=I.un (Un.write g h k f) (I.hok.write g h k f new)
def Inv.weak (I:Inv X pins σ H s) (h:b.length=σ.length) (w:∀(i:Nat) v,b[i]?=some (some v)->σ[i]?=some (some v)):Inv X pins b H s:=
 ⟨I.ok,I.os,I.bare,I.base,let ⟨m,g,f⟩:=I.loc;⟨m,g,λi x v o n l=>f i x v o (w i v n) l⟩,I.cell,I.free,I.freeC,I.pin,I.hok,h.trans I.len⟩
def Inv.pins_of (I:Inv X pins σ H s) (h:∀p∈pins',s.heap.get? p.1=some p.2/\H p.1=none/\p.1≠X.env.locals/\p.1∉X.fs/\∀v,p.2.data≠.cell v):Inv X pins' σ H s:=
 ⟨I.ok,I.os,I.bare,I.base,I.loc,I.cell,I.free,I.freeC,λp b=>(Wu.mp b).elim (λz=>I.pin p (WL _ z)) (h p),I.hok,I.len⟩
def S9{N:Ye}(f:N.Nodup){i j:Nat}{x}(a:N[i]?=some x)(b:N[j]?=some x):i=j:=by
 obtain⟨n,h⟩:=Wp.mp a;obtain⟨l,g⟩:=Wp.mp b;exact(List.getElem_inj f).mp (h.trans g.symm)
def Ey{i x v u Q}(I:Inv X pins σ H s)(hN:X.N.Nodup)(hi:X.N[i]?=some x)(hx:Loc X.env.scope x)(r:RelV v u)(h:∀s',Inv X pins (σ.set i<|some v) H s'->(∃a,Heap.SameBut a s.heap s'.heap/\(a=X.env.locals\/X.env.cells.lookup x=some a))->Q () s')(hf:autoParam (X.fn x=true\/X.env.scope.names.lookup x=some .local) au_2):wpAny M A (storeName X.env x u) Q E s:=by
 obtain⟨m,hn,hl⟩:=id I.loc;have hcls:(X.env.scope.kind == .class || (X.env.scope.kind == .module&&X.env.locals != X.env.globals))=false:=by rw[I.ok.kind];rfl
 have J:i<σ.length:=by rw[I.len];exact(Wp.mp hi).1
 have cne:=I.cne
 have tracked:∀{a:Addr} {h':Heap},(∃o,s.heap.get? a=some o/\H a=none)->Heap.SameBut a s.heap h'->HOk X.prog X.w H h':=λ{a h'} ha f b ob e=>by
  obtain⟨_,_,B⟩:=ha;refine(I.hok b ob e).stay (λc w' l q=>(f.2 c ?_).trans q) (λ_ q=>q) λ_ _ q=>q;rintro rfl;rcases l with rfl|l
  ·rw[B]at e;cases e
  ·rw[B]at l;cases l
 rcases hx with G|G
 ·refine wpAny_storeName_local G hn (λh' hn' f=>?_) hcls;obtain⟨oL,_,_,hoL,_⟩:=id hn;refine h _ ⟨I.ok,I.os,I.bare,⟨λb o e n U hx=>?_,λb o e n U hx=>?_,I.base.free,λb o e hx=>?_,I.base.tups,I.base.frzs,I.base.tbls⟩,⟨_,hn',λj y v' g C e3=>?_⟩,λy c e=>?_,I.free,I.freeC,λp hp=>?_,tracked ⟨oL,hoL,I.free⟩ f,by simpa using I.len⟩ ⟨_,f,.inl rfl⟩
  ·exact(f.2 b<|Wt<|Ws (Wd e) I.ok.above).trans (I.base.keep b o e n U hx)
  ·obtain⟨sl,g⟩:=I.base.slot b o e n U hx;exact⟨sl,(f.2 b<|Wt<|Ws (Wd e) I.ok.above).trans g⟩
  ·obtain⟨o',g⟩:=I.base.there b o e hx;exact⟨o',(f.2 b<|Wt<|Ws (Wd e) I.ok.above).trans g⟩
  ·by_cases L:j=i
   ·subst L;rw[hi]at g;cases g;rw[List.getElem?_set_self J]at C;cases C
    exact⟨u,r,.inl ⟨G,by simp⟩⟩
   ·rw[Vd (Ne.symm L)]at C;obtain⟨u',r',q⟩:=hl j y v' g C e3;refine⟨u',r',?_⟩;rcases q with⟨k,e⟩|⟨k,c,e,z⟩
    ·refine .inl ⟨k,?_⟩
     have:y≠x:=λe=>L (S9 hN g (e▸hi))
     simp[this,e]
    ·exact .inr ⟨k,c,e,z.sameBut f (cne y c e)⟩
  ·obtain⟨w',z⟩:=I.cell y c e;exact⟨w',z.sameBut f (cne y c e)⟩
  ·obtain⟨e,n,ne,nf,d⟩:=I.pin p hp;exact⟨(f.2 p.1 ne).trans e,n,ne,nf,d⟩
 ·have T:X.fn x=true:=by
   rcases hf with z|z
   ·exact z
   ·rw[z]at G;cases G
  obtain⟨c,l⟩:=I.ok.has x (.inl G);obtain⟨w',z⟩:=I.cell x c l;refine wpAny_storeName_cell I.ok.kind G l z (λh' hc' f=>?_);obtain⟨oc,hoc,Y⟩:=id z;refine h {s with heap:=h'} ⟨I.ok,I.os,I.bare,⟨λb o e n U hx=>?_,λb o e n U hx=>?_,I.base.free,λb o e hx=>?_,I.base.tups,I.base.frzs,I.base.tbls⟩,⟨m,hn.sameBut f (Ne.symm<|cne x c l),λj y v' g C e3=>?_⟩,λy c' e=>?_,I.free,I.freeC,λp hp=>?_,tracked ⟨oc,hoc,I.freeC x c l⟩ f,by simpa using I.len⟩ ⟨c,f,.inr l⟩
  ·exact(f.2 b<|Wt<|Ws (Wd e)<|I.ok.cab x c T l).trans (I.base.keep b o e n U hx)
  ·obtain⟨sl,g⟩:=I.base.slot b o e n U hx;exact⟨sl,(f.2 b<|Wt<|Ws (Wd e)<|I.ok.cab x c T l).trans g⟩
  ·obtain⟨o',g⟩:=I.base.there b o e hx;exact⟨o',(f.2 b<|Wt<|Ws (Wd e)<|I.ok.cab x c T l).trans g⟩
  ·by_cases L:j=i
   ·subst L;rw[hi]at g;cases g;rw[List.getElem?_set_self J]at C;cases C
    exact⟨u,r,.inr ⟨.inl G,c,l,hc'⟩⟩
   ·rw[Vd (Ne.symm L)]at C;obtain⟨u',r',q⟩:=hl j y v' g C e3;refine⟨u',r',?_⟩;rcases q with q|⟨k,c',e,z'⟩
    ·exact .inl q
    ·refine .inr ⟨k,c',e,z'.sameBut f ?_⟩;rintro rfl;exact L (S9 hN g (I.ok.inj _ _ _ e l▸hi))
  ·by_cases hcc:c'=c
   ·subst hcc;exact⟨_,hc'⟩
   ·obtain⟨w2,z2⟩:=I.cell y c' e;exact⟨w2,z2.sameBut f hcc⟩
  ·obtain⟨e,n,ne,nf,d⟩:=I.pin p hp;refine⟨(f.2 p.1 ?_).trans e,n,ne,nf,d⟩;intro q;rw[q,hoc]at e;exact d w' (by rw[←(Wg e)];exact Y)
def Tv{i x v u Q}(I:Inv X pins σ H s)(l:X.N.Nodup)(f:X.N[i]?=some x)(hx:Loc X.env.scope x)(r:RelV v u)(h:∀b,Inv X pins (σ.set i<|some v) H b->Q () b)(g:autoParam (X.fn x=true\/X.env.scope.names.lookup x=some .local) au_2):wpAny M A (storeName X.env x u) Q E s:=
 Ey I l f hx r (λb n _=>h b n) g
def Inv.call' {ch} (I:Inv X pins σ H s) (l:f.os=s.os) (u:Un (frs X.stack) ch H H' s.heap f.heap) (g:HOk X.prog X.w H' f.heap) (n:AllBare f.gens)
  (h:∀b∈ch,(b∈X.ex\/X.s₀.heap.objs.size<=b)/\b≠X.env.locals/\(∀x c,X.env.cells.lookup x=some c->c≠b)/\∀p∈X.pn++pins,p.1≠b):Inv X pins σ H' f:=by
 obtain⟨h',r,v,o,q⟩:=f;subst l;exact I.call u g n h
end
abbrev XK:=Value->Yi->Hp->Prop
abbrev St:=List (Option V)
abbrev VK:=V->Hp->Prop
abbrev TE:=St->Hp->VK->Prop
abbrev TT:=St->Hp->(Bool->Hp->Prop)->Prop
abbrev TA:=St->Hp->(List V->Hp->Prop)->Prop
structure Ends where
 nx:St->Hp->Prop
 rt:VK
 bk:St->Hp->Prop:=λ_ _=>False
 ct:St->Hp->Prop:=λ_ _=>False
abbrev TS:=Ends->St->Hp->Prop
def EP(X:Cx)(pins:ZY)(f:St)(Q:VK)(u:Value)(g:Shared):Prop:=∃v b,Inv X pins f b g/\RelV v u/\Q v b
def TP(X:Cx)(pins:ZY)(g:St)(Q:Bool->Hp->Prop)(b:Bool)(h:Shared):Prop:=∃f,Inv X pins g f h/\Q b f
def AP(X:Cx)(pins:ZY)(g:St)(Q:List V->Hp->Prop)(us:Yd)(h:Shared):Prop:=∃b f,Inv X pins g f h/\Vals b us/\Q b f
def SP(X:Cx)(pins:ZY)(D:Ends)(f:Flow)(h:Shared):Prop:=
 match f with
 | .next=>∃b g,Inv X pins b g h/\D.nx b g
 | .brk=>∃b g,Inv X pins b g h/\D.bk b g
 | .cont=>∃b g,Inv X pins b g h/\D.ct b g
 | .ret u=>∃v b g,Inv X pins b g h/\RelV v u/\D.rt v g
def PE(X:Cx)(e:Expr)(t:TE):Prop:=
 ∀(pins:ZY) (s:Shared) (b:St) (H:Hp) (Q:VK),Inv X pins b H s->t b H Q->wpAny (model X.prog X.w) X.A (eval e X.env) (EP X pins b Q) X.xe s
def PT(X:Cx)(e:Expr)(t:TT):Prop:=
 ∀(pins:ZY) (s:Shared) (b:St) (H:Hp) (Q:Bool->Hp->Prop),Inv X pins b H s->t b H Q->wpAny (model X.prog X.w) X.A (isTrue e X.env<|eval e X.env) (TP X pins b Q) X.xe s
def PW(X:Cx)(e:Expr)(t:TT):Prop:=
 ∀(whole:Sem Value) (pins:ZY) (s:Shared) (b:St) (H:Hp) (Q:Bool->Hp->Prop),Inv X pins b H s->t b H Q->wpAny (model X.prog X.w) X.A (isTrue e X.env whole) (TP X pins b Q) X.xe s
def PW.pt (h:PW X e t):PT X e t:=h _
def PA(X:Cx)(es:Yf)(t:TA):Prop:=
 ∀(pos:Pos) (pins:ZY) (s:Shared) (b:St) (H:Hp) (Q:List V->Hp->Prop),Inv X pins b H s->t b H Q->wpAny (model X.prog X.w) X.A (spliced<|backTo pos<|starEach es X.env) (AP X pins b Q) X.xe s
def PS(X:Cx)(st:Stmt)(t:TS):Prop:=
 ∀(pins:ZY) (s:Shared) (b:St) (H:Hp) (D:Ends),Inv X pins b H s->t D b H->wpAny (model X.prog X.w) X.A (exec st X.env) (SP X pins D) X.xe s
def PSs(X:Cx)(st:Yg)(t:TS):Prop:=
 ∀(pins:ZY) (s:Shared) (b:St) (H:Hp) (D:Ends),Inv X pins b H s->t D b H->wpAny (model X.prog X.w) X.A (execs st X.env) (SP X pins D) X.xe s
def thn{M A E s}(h:wpAny M A t Q E s)(b:∀a s,Q a s->f a s):wpAny M A t f E s:=Wx h b λ_ _ x=>x
section
variable {X:Cx}
def bin{z r}(G:PE X a z)(E:PE X b r){pins}{s}{g:St}{H}{R:V->V->Hp->Prop}(I:Inv X pins g H s)(h:z g H λx q=>r g q λy o=>R x y o){α}{Q}{f:Value->Value->Sem α}(T:∀v u p x y o,Inv X pins g o p->RelV x v->RelV y u->R x y o->wpAny (model X.prog X.w) X.A (f v u) Q X.xe p) :
  wpAny (model X.prog X.w) X.A (eval a X.env) (λv n=>wpAny (model X.prog X.w) X.A (eval b X.env) (λu l=>wpAny (model X.prog X.w) X.A (f v u) Q X.xe l) X.xe n) X.xe s:=by
 refine thn (G pins s g H _ I h) λv B ⟨x,q,J,M,C⟩=>?_;refine thn (E pins B g q _ J C) λu p ⟨y,o,U,L,N⟩=>?_
 grind
noncomputable def Xv(i:Nat):TE:=λb H Q=>∃v,b[i]?=some (some v)/\Q v H
noncomputable def tC(v:V):TE:=λ_ H Q=>Q v H
def OY{pos}(B:X.N[i]?=some x)(w:Vis X.env.scope x)(n:autoParam ((x==("__debug__" : Str))=false) au_1)(o:autoParam ((x==("__classdict__" : Str))=false) au_1):PE X (.Name x pos) (Xv i):=by
 intro pins s q H Q I h;obtain⟨v,e,h⟩:=h;obtain⟨m,y,A⟩:=I.loc;obtain⟨u,r,l⟩:=A i x v B e w;have g:EP X pins q Q u s:=⟨v,H,I,r,h⟩;rcases l with⟨f,z⟩|⟨f,c,p,b⟩
 ·exact wpAny_Name (wpAny_loadName_local I.ok.kind f y z g) n
 ·rcases f with f|f
  ·exact wpAny_Name (wpAny_loadName_cell I.ok.kind f p b g) n
  ·exact wpAny_Name (wpAny_loadName_free I.ok.kind f p b g o) n
def Uk:PE X (.Constant (.int i) j pos) (tC<|.int i):=λ_ _ _ H _ I h=>wpAny_Constant_int ⟨.int i,H,I.tok _,⟨_,rfl⟩,h⟩
def SY:PE X (.Constant (.bool b) j pos) (tC<|.bl b):=λ_ _ _ H _ I h=>Constant_bool ⟨.bl b,H,I,rfl,h⟩
def Ij:PE X (.Constant .none j pos) (tC .non):=λ_ _ _ H _ I h=>Constant_none ⟨.non,H,I,rfl,h⟩
def SE:PE X (.Constant (.str x) j pos) (tC<|.str x):=λ_ _ _ H _ I h=>Calls.Constant_str ⟨.str x,H,I.tok _,⟨_,rfl⟩,h⟩
def Gl(X:Cx)(x:Str):Prop:=X.env.kindOf x=some .globalImplicit
def KI{pins}{s}{b:St}{H}{x}{u}{pos}{Q}(I:Inv X pins b H s)(g:Gl X x)(f:X.mg x=some u)(h:Q u s)(l:autoParam ((x==("__debug__" : Str))=false) au_1):wpAny (model X.prog X.w) X.A (eval (.Name x pos) X.env) Q E s:=
 Calls.Name_function_global I.ok.kind g (Calls.loadGlobal_global (by rw[I.ok.glob];exact I.mod.glob.keeps I.bk) f h) l
def Nq{E}{pins}{s}{b:St}{H}{x}{u}{pos}{Q}(I:Inv X pins b H s)(n:Gl X x)(l:X.mg x=none)(f:bootBuiltins x=some u)(h:Q u s)(g:autoParam (x≠"__name__") au_1)(o:autoParam ((x==("__debug__" : Str))=false) au_1):wpAny (model X.prog X.w) X.A (eval (.Name x pos) X.env) Q E s:=by
 obtain⟨r,q,p⟩:=I.mod.blt;exact Calls.Name_function_global I.ok.kind n (Calls.loadGlobal_builtin (by rw[I.ok.glob];exact I.mod.glob.keeps I.bk) l (by rw[I.ok.blt];exact q.keeps I.bk) ((p x g).trans f) h) o
def Fw{u pos}(f:Gl X x)(b:X.mg x=some u)(r:RelV v u)(g:autoParam ((x==("__debug__" : Str))=false) au_1):PE X (.Name x pos) (tC v):=
 λ_ _ _ H _ I h=>KI I f b ⟨v,H,I,r,h⟩ g
def A3{u pos}(l:Gl X x)(g:X.mg x=none)(b:bootBuiltins x=some u)(r:RelV v u)(f:autoParam (x≠"__name__") au_1)(n:autoParam ((x==("__debug__" : Str))=false) au_1):PE X (.Name x pos) (tC v):=
 λ_ _ _ H _ I h=>Nq I l g b ⟨v,H,I,r,h⟩ f n
variable {a b:Expr}{ta tb:TE}{pos:Pos}
def PC(X:Cx)(l:CmpOp)(a b:Expr)(t:TE):Prop:=
 ∀(pins:ZY) (s:Shared) (h:St) (H:Hp) (Q:VK),Inv X pins h H s->t h H Q->
  wpAny (model X.prog X.w) X.A (eval a X.env) (λv g=>wpAny (model X.prog X.w) X.A (eval b X.env) (λu f=>wpAny (model X.prog X.w) X.A (compareOp l v u) (EP X pins h Q) X.xe f) X.xe g) X.xe s
def Zad(b:Expr){op}(h:op≠.In)(l:op≠.NotIn):behindInMarks op b=false:=by
 have g:(op==CmpOp.In)=false:=by grind
 have f:(op==CmpOp.NotIn)=false:=by grind
 cases b<;>simp[behindInMarks,g,f]
noncomputable def tB(t:TE):TT:=λf H Q=>t f H λx g=>∃c,x=.bl c/\Q c g
def LO(h:PC X g a b t)(f:behindInMarks g b=false:=by first|exact Zad _ (by decide) (by decide)|rfl):PT X (.Compare a [g] [b] pos) (tB t):=by
 intro pins s l H Q I hw;refine wpAny_isTrue_Compare1 (thn (h pins s l H _ I hw) λv A f=>thn f λu z p=>thn p ?_) f;rintro c y ⟨x,w,r,n,o⟩;obtain⟨d,rfl,q⟩:=o;cases n
 exact wpAny_truthy_bool ⟨w,r,q⟩
variable {tA tB':TT}{rest:Yf}
noncomputable def Ep(t u:TT):TT:=λf H Q=>t f H λc g=>if c=true then u f g Q else Q false g
noncomputable def tOr(t u:TT):TT:=λf H Q=>t f H λc g=>if c=true then Q true g else u f g Q
noncomputable def DX(t:TT):TT:=λf H Q=>t f H λc g=>Q (!c) g
def Mt(g:PT X a tA):PW X (.BoolOp .And [a] pos) tA:=by
 intro l pins s f H Q I h;refine isTrue_and (thn (g pins s f H Q I h) λc n e=>?_);cases c with
 |true=>exact isTrue_and_nil e
 |false=>exact e
def Lh(g:PT X a tA):PW X (.BoolOp .Or [a] pos) tA:=by
 intro l pins s f H Q I h;refine isTrue_or (thn (g pins s f H Q I h) λc n e=>?_);cases c with
 |false=>exact isTrue_or_nil e
 |true=>exact e
def IV(p:PT X a tA)(o:PW X (.BoolOp .And (b::rest) pos) tB'):PW X (.BoolOp .And (a::b::rest) pos) (Ep tA tB'):=by
 intro g pins s f H Q I h;refine isTrue_and (thn (p pins s f H _ I h) λc l ⟨r,q,n⟩=>?_);cases c with
 |true=>exact o g pins l f r Q q n
 |false=>trivial
def Le(p:PT X a tA)(o:PW X (.BoolOp .Or (b::rest) pos) tB'):PW X (.BoolOp .Or (a::b::rest) pos) (tOr tA tB'):=by
 intro g pins s f H Q I h;refine isTrue_or (thn (p pins s f H _ I h) λc l ⟨r,q,n⟩=>?_);cases c with
 |true=>trivial
 |false=>exact o g pins l f r Q q n
def RA(g:PT X a tA):PT X (.UnaryOp .Not a pos) (DX tA):=by
 intro pins s f H Q I h;exact isTrue_not (g pins s f H (λc l=>Q (!c) l) I h)
end
def SqL(K:ZV)(H:Hp)(a:Addr)(xs:List V):Prop:=
 Rd H a (.lst xs)\/
  ∃(o:Obj) (b:Array Value) (n:Nat),K.lookup a=some o/\o.cls=.type "list"/\o.dict=none/\o.data=.seq b n/\b.size<=sizeLine/\Vals xs b.toList
def SqT(K:ZV)(H:Hp)(a:Addr)(xs:List V):Prop:=
 Rd H a (.tup xs)\/
  ∃(o:Obj) (b:Array Value) (n:Nat),K.lookup a=some o/\o.cls=.type "tuple"/\o.data=.seq b n/\b.size<=sizeLine/\Vals xs b.toList
noncomputable def R1:Value->Option V
 | .none=>some .non
 | .bool b=>some (.bl b)
 | .int i _=>some (.int i)
 | .str x _=>some (.str x)
 | .bytes b _=>some (.byt b)
 | .float b _=>some (.flt b)
 | .ref a=>some (.ref a)
 | .type n=>some (.ty n)
 |_=>none
def RelV.abs (r:RelV x u):R1 u=some x:=by
 cases x with
 |non|bl _|ref _|ty _=>cases r;rfl
 |_=>obtain⟨t,rfl⟩:=r;rfl
def RelV.inj {u} (r:RelV x u) (q:RelV y u):x=y:=Wg (r.abs.symm.trans q.abs)
def Vals.inj:∀{xs b}{us:Yd},Vals xs us->Vals b us->xs=b:=by
 intro o
 induction o with
 |nil=>
  intro _ _ h g;cases h
  cases g
  rfl
 |cons _ _ n=>
  intro _ _ h g;cases h with
  |cons h r=>
   cases g with
   |cons l f=>rw[h.inj l,n r f]
section
variable {X:Cx}{pins:ZY}{σ:St}{H:Hp}{s:Shared}{a:Addr}{xs ys:List V}
def SqL.of {K} (h:H a=some (.lst xs)):SqL K H a xs:=.inl (.inl h)
def SqT.of {K} (h:H a=some (.tup xs)):SqT K H a xs:=.inl (.inl h)
def Inv.list (I:Inv X pins σ H s) (h:SqL X.K H a xs):∃b,Vals xs b/\PlainL s.heap a b.toArray/\xs.length<=sizeLine:=by
 rcases h with h|⟨o,b,n,g,p,l,f,q,r⟩
 ·obtain⟨z,b,n,r,e⟩:=h.ok I.hok;exact⟨b,r,⟨_,n,e,rfl,rfl,rfl⟩,z⟩
 ·refine⟨b.toList,r,⟨o,n,I.kIn a o g,p,l,by simpa using f⟩,?_⟩;have e:=r.length
  grind
def Inv.tuple (I:Inv X pins σ H s) (h:SqT X.K H a xs):∃b,Vals xs b/\IsTup s.heap a b.toArray/\xs.length<=sizeLine:=by
 rcases h with h|⟨o,b,n,g,l,f,q,r⟩
 ·obtain⟨z,b,r,p⟩:=h.ok I.hok
  grind
 ·refine⟨b.toList,r,⟨o,I.kIn a o g,l,n,by simpa using f⟩,?_⟩;have e:=r.length
  grind
def Inv.list_inj (I:Inv X pins σ H s) (h:SqL X.K H a xs) (l:SqL X.K H a ys):xs=ys:=by
 obtain⟨f,r,⟨o,n,e,_,_,d⟩,_⟩:=I.list h;obtain⟨b,g,⟨p,q,u,_,_,v⟩,_⟩:=I.list l
 have:f=b:=by grind
 subst this;exact r.inj g
end
noncomputable abbrev Cx.wish (X:Cx) (E:Ya):Cx:={X with xe:=E}
noncomputable abbrev Cx.nox (X:Cx):Cx:=X.wish λ_ _=>False
def Cx.Ok.wish {X:Cx} (ok:X.Ok) (E:Ya):(X.wish E).Ok:=
 ⟨ok.mod,ok.kind,ok.glob,ok.blt,ok.above,ok.inj,ok.has,ok.cab,ok.hd,ok.frames,ok.stk,ok.exf,ok.bs,ok.bsz,ok.noex,ok.exfs,ok.funs,ok.frf⟩
def Cx.Ok.unwish {X:Cx}{E} (ok:(X.wish E).Ok):X.Ok:=
 ⟨ok.mod,ok.kind,ok.glob,ok.blt,ok.above,ok.inj,ok.has,ok.cab,ok.hd,ok.frames,ok.stk,ok.exf,ok.bs,ok.bsz,ok.noex,ok.exfs,ok.funs,ok.frf⟩
section
variable {X:Cx}{pins:ZY}{σ:St}{H:Hp}{s:Shared}{E:Ya}
def Inv.wish (I:Inv X pins σ H s) (E:Ya):Inv (X.wish E) pins σ H s:=⟨I.ok.wish E,I.os,I.bare,I.base,I.loc,I.cell,I.free,I.freeC,I.pin,I.hok,I.len⟩
def Inv.unwish (I:Inv (X.wish E) pins σ H s):Inv X pins σ H s:=⟨I.ok.unwish,I.os,I.bare,I.base,I.loc,I.cell,I.free,I.freeC,I.pin,I.hok,I.len⟩
def SP.unwish (h:SP (X.wish E) pins D f l):SP X pins D f l:=by
 cases f with
 |ret u=>obtain⟨v,b,g,I,r,q⟩:=h;exact⟨v,b,g,I.unwish,r,q⟩
 |_=>obtain⟨b,g,I,q⟩:=h;exact⟨b,g,I.unwish,q⟩
def PSs.nox {st t} (h:PSs X.nox st t):PSs X st t:=λpins s σ H D I hw=>
 Wx (h pins s σ H D (I.wish _) hw) (λ_ _ q=>q.unwish) λ_ _ z=>False.elim z
end
section
variable {X:Cx}{st:Stmt}{rest:Yg}{t u:TS}{e:Expr}{te:TE}{pos:Pos}
noncomputable def Et:TS:=λD b H=>D.nx b H
noncomputable def Dj(t u:TS):TS:=λD b H=>t {D with nx:=u D} b H
def Hm:PSs X [] Et:=λ_ _ b H _ I h=>Ve ⟨b,H,I,h⟩
def DS(o:PS X st t)(n:PSs X rest u):PSs X (st::rest) (Dj t u):=by
 intro pins s g H D I h;refine wpAny_execs_cons (thn (o pins s g H {D with nx:=u D} I h) λf l q=>?_)
 cases f with
 |next=>
  obtain⟨b,r,p,q⟩:=q;exact n pins l b r D p q
 |_=>exact q
def KU(g:PS X st t):PSs X [st] t:=by
 intro pins s b H D I h;refine wpAny_execs_cons (thn (g pins s b H D I h) λf l q=>?_);cases f with
 |next=>exact Ve q
 |_=>lia
def Inv.quiet {b:St}{H}{s} (I:Inv X pins b H s):interactive X.env=false:=by simp[interactive,I.ok.kind]
noncomputable def TH(te:TE):TS:=λD b H=>te b H λ_ f=>D.nx b f
def Us(l:PE X e te)(g:autoParam (swapsWith e none pos.line X.env=pure false) au_0):PS X (.Expr e pos) (TH te):=by
 intro pins s b H D I h;exact wpAny_Expr_any (thn (l pins s b H _ I h) λv p ⟨x,o,n,q,f⟩=>⟨b,o,n,f⟩) I.quiet g
noncomputable def KP(te:TE):TS:=λD b H=>te b H D.rt
def KE(l:PE X e te):PS X (.Return (some e) pos) (KP te):=by
 intro pins s b H D I h;exact wpAny_Return_some (thn (l pins s b H _ I h) λv p ⟨x,o,n,f,g⟩=>⟨x,b,o,n,f,g⟩)
noncomputable def A5(c:TT)(t u:TS):TS:=λD f H=>c f H λb g=>if b=true then t D f g else u D f g
def Gw{tc}(p:PT X c tc)(r:PSs X a t)(q:PSs X b u):PS X (.If c a b pos) (A5 tc t u):=by
 intro pins s f H D I h;refine wpAny_If (thn (p pins s f H _ I h) ?_);rintro d g ⟨o,n,l⟩;cases d with
 |true=>exact r pins g f o D n l
 |false=>exact q pins g f o D n l
noncomputable def Fm:TS:=λ_ _ _=>False
def US:PS X st Fm:=λ_ _ _ _ _ _ h=>h.elim
end
abbrev TG:=V->St->Hp->(St->Hp->Prop)->Prop
abbrev TGs:=List V->St->Hp->(St->Hp->Prop)->Prop
def PG(X:Cx)(target:Expr)(t:TG):Prop:=
 ∀(pins:ZY) (s:Shared) (f:St) (H:Hp) (v:V) (u:Value) (Q:St->Hp->Prop),Inv X pins f H s->RelV v u->t v f H Q->
  wpAny (model X.prog X.w) X.A (assign target X.env u) (λ_ h=>∃b g,Inv X pins b g h/\Q b g) X.xe s
def PGs(X:Cx)(n:Yf)(t:TGs):Prop:=
 ∀(pins:ZY) (s:Shared) (f:St) (H:Hp) (g:List V) (h:Yd) (Q:St->Hp->Prop),Inv X pins f H s->Vals g h->t g f H Q->
  wpAny (model X.prog X.w) X.A (assignInOrder ((assignEach n X.env).map (·.2)) h) (λ_ o=>∃b l,Inv X pins b l o/\Q b l) X.xe s
section
variable {X:Cx}{pos:Pos}
noncomputable def Pj(i:Nat):TG:=λv b H Q=>Q (b.set i<|some v) H
def B6(g:X.N.Nodup)(b:X.N[i]?=some x)(hx:Loc X.env.scope x)(f:autoParam (X.fn x=true\/X.env.scope.names.lookup x=some .local) au_2):PG X (.Name x pos) (Pj i):=by
 intro pins s n H v u Q I r h;exact wpAny_assign_Name (Tv I g b hx r (λo l=>⟨_,H,l,h⟩) f)
noncomputable def Aw:TGs:=λf b H Q=>f=[]/\Q b H
noncomputable def Ea(t:TG)(u:TGs):TGs:=λg f H Q=>∃v r,g=v::r/\t v f H λb h=>u r b h Q
def Ew:PGs X [] Aw:=by
 intro pins s b H f g Q I r h;obtain⟨e,h⟩:=h;exact assignInOrder_nil ⟨b,H,I,h⟩
def SW{t u}(q:PG X e t)(p:PGs X es u)(o:autoParam ((assignEach (e::es) X.env).map (·.2)=assign e X.env::(assignEach es X.env).map (·.2)) au_0):PGs X (e::es) (Ea t u):=by
 intro pins s f H z B Q I r h;obtain⟨v,A,w,h⟩:=h;subst w;cases r with
 |cons r l=>
  rw[o];refine assignInOrder_cons (thn (q pins s f H _ _ _ I r h) ?_);rintro _ g ⟨b,y,x,n⟩;exact p pins g b y _ _ Q x l n
noncomputable def SL(K:ZV)(n:Nat)(t:TGs):TG:=λv b H Q=>∃a xs,v=.ref a/\SqT K H a xs/\xs.length=n/\t xs b H Q
def Ov{k t n}(y:X.calm=true)(h:PGs X es t)(w:autoParam ((assignEach es X.env).length=n) au_0)(f:autoParam ((assignEach es X.env).findIdx? (·.1)=none) au_0):PG X (.Tuple es k pos) (SL X.K n t):=by
 intro pins s g H v u Q I r hw;obtain⟨a,xs,A,hq,x,hw⟩:=hw;subst A;cases r
 obtain⟨p,l,q,C⟩:=I.tuple hq;refine assign_Tuple_tuple (I.ok.hd y) q (by simp[w,←x,l.length]) f λz hx=>?_;have B:Inv X pins g H {s with heap:=z}:=I.kept λb o e=>hx b o (Wt<|Wd e) e
 exact h pins _ g H xs _ Q B (by lia) hw
noncomputable def Tx(te:TE)(g:TG):TS:=λD b H=>te b H λx f=>g x b f D.nx
def Zaj(r:X.N.Nodup)(o:X.N[i]?=some x)(hx:Loc X.env.scope x)(q:PE X e te)(n:autoParam (swapsWith e (some<|.Name x b) pos.line X.env=pure false) au_0)(p:autoParam (X.fn x=true\/X.env.scope.names.lookup x=some .local) au_2) :
  PS X (.Assign [.Name x b] e pos) (Tx te<|Pj i):=by
 intro pins s f H D I h;refine wpAny_Assign_Name (thn (q pins s f H _ I h) λv B ⟨y,z,w,g,l⟩=>?_) n;exact Tv w r o hx g (λA u=>⟨_,z,u,l⟩) p
noncomputable def Ck(c:TT)(o:TS):TS:=λD f H=>∃W:Nat->St->Hp->Prop,(∃m,W m f H)/\∀m f H,W m f H->
 c f H λb l=>if b=true then ∃N:St->Hp->Prop,(∀g n,N g n->∃h,h<m/\W h g n)/\o {D with nx:=N,ct:=N,bk:=D.nx} f l else D.nx f l
def GJ{tc p}(r:PassesOwn (model X.prog X.w) X.A X.env X.xe)(T:PT X c tc)(U:PSs X body p):PS X (.While c body [] pos) (Ck tc p):=by
 intro pins s C H D I h;obtain⟨W,⟨Q,G⟩,turn⟩:=h;refine wpAny_While (codeAny_whileLoop (λn M=>∃l z,Inv X pins l z M/\W n l z) ?_ Q ⟨C,H,I,G⟩);rintro n L ⟨g,y,Y,E⟩;refine Qe r (thn (T pins L g y _ Y<|turn n g y E) λb J ⟨x,u,o⟩=>?_);cases b with
 |true=>
  obtain⟨N,hN,o⟩:=o;refine Qe r (thn (U pins J g x _ u o) λf s3 q=>?_);cases f with
  |brk|ret v=>exact q
  |_=>
   obtain⟨B,H3,I3,n3⟩:=q
   grind
 |false=>
  exact Ve ⟨g,x,u,o⟩
end
structure It where
 go:Nat->Hp->Prop
 yld:Nat->Hp->V->Hp->Prop
 stop:Nat->Hp->Prop
def K4(X:Cx)(pins:ZY)(H:Hp)(b:Addr):Prop:=
 H b=none/\b≠X.env.locals/\b∉X.fs/\(b∈X.ex\/X.s₀.heap.objs.size<=b)/\(∀x c,X.env.cells.lookup x=some c->c≠b)/\∀p∈X.pn++pins,p.1≠b
def Inv.fpOk {g:St}{H H'}{s}{b:Addr} (I:Inv X pins g H s) (f:s.heap.objs.size<=b) (l:H' b=none):K4 X pins H' b:=by
 refine⟨l,Vv (Ws I.lt f),I.nofs f,.inr (Wi I.sz f),λx c e z=>?_,λp h z=>?_⟩
 ·obtain⟨v,q⟩:=I.cell x c e;exact absurd (Ws q.lt<|by grind) (WR _)
 ·exact absurd (Ws (Wd (I.pin p h).1)<|by grind) (WR _)
structure Turn (P:Program) (w:World) (K:ZV) (tg:Expr) (J:It) (fp:List Addr) (it:Addr) (tn:Nat->Heap->Prop):Prop where
 mem:it∈fp
 obj:∀i h,tn i h->∀b∈fp,∃o,h.get? b=some o/\∀v,o.data≠.cell v
 keep:∀i h h',tn i h->(∀b∈fp,∀o,h.get? b=some o->h'.get? b=some o)->tn i h'
 item:∀(X:Cx),X.prog=P->X.w=w->X.K=K->X.calm=true->∀(i:Nat) (pins:ZY) (s:Shared) (σ:St) (H:Hp) (E:Ya),Inv X pins σ H s->(∀b∈fp,K4 X pins H b)->tn i s.heap->J.go i H->
  wpAny (model P w) X.A (pyNext<|.ref it) (λr s1=>∃u,r=some u/\
   wpAny (model P w) X.A (letOwnedTupleGo tg (.ref it) u) (λ_ s2=>∃x H',Inv X pins σ H' s2/\RelV x u/\J.yld i H x H'/\tn (i+1) s2.heap/\∀b∈fp,H' b=none) E s1) E s
 done:∀(X:Cx),X.prog=P->X.w=w->X.K=K->X.calm=true->∀(i:Nat) (pins:ZY) (s:Shared) (σ:St) (H:Hp) (E:Ya),Inv X pins σ H s->(∀b∈fp,K4 X pins H b)->tn i s.heap->J.stop i H->
  wpAny (model P w) X.A (pyNext<|.ref it) (λr s1=>r=none/\Inv X pins σ H s1) E s
 self:∀(A:Around) (i:Nat) (s:Shared) (Q:Ya) (E:Ya),tn i s.heap->Q (.ref it) s->wpAny (model P w) A (pyIter<|.ref it) Q E s
abbrev TI:=St->Hp->(It->Hp->Prop)->Prop
def PIE(X:Cx)(pins:ZY)(o:St)(p:Expr)(R:It->Hp->Prop)(f:Value)(h:Shared):Prop:=
 ∃(l:Addr) (n:List Addr) (tn:Nat->Heap->Prop) (J:It) (g:Hp),f=.ref l/\Inv X pins o g h/\Turn X.prog X.w X.K p J n l tn/\tn 0 h.heap/\(∀b∈n,K4 X pins g b)/\R J g
def PI(X:Cx)(g iter:Expr)(f:TI):Prop:=
 ∀(pins:ZY) (s:Shared) (b:St) (H:Hp) (R:It->Hp->Prop),Inv X pins b H s->f b H R->
  wpAny (model X.prog X.w) X.A (eval iter X.env) (λv h=>wpAny (model X.prog X.w) X.A (pyIter v) (PIE X pins b g R) X.xe h) X.xe s
def AH {s f g u o n vs Q} (h : s.heap.get? g = some o) (p : o.cls = .type n) (l : o.data = .fields vs)
    (q : ["enumerate", "zip", "dict_itemiterator", "dict_reverseitemiterator", "odict_iterator", "itertools.zip_longest", "itertools.pairwise"].contains n = false) (b : Q () s) : wpAny M A (letOwnedTupleGo f (.ref g) u) Q E s := by
  cases f <;> first
    | exact Wb b
    | (cases u <;> first
        | exact Wb b
        | (refine YT (wpAny_load h ?_)
           rw [p, l]
           show wpAny M A (if (["enumerate", "zip", "dict_itemiterator", "dict_reverseitemiterator", "odict_iterator", "itertools.zip_longest", "itertools.pairwise"].contains n && vs[0]? == some (rawInt _)) = true then _ else _) Q E s
           rw [YV (by grind)]
           exact Wb b))
noncomputable def Itl(K:ZV)(a:Addr):It:=
 ⟨λi H=>∃xs x,SqL K H a xs/\xs[i]?=some x,λi H x b=>b=H/\∀xs,SqL K H a xs->xs[i]?=some x,λi H=>∃xs,SqL K H a xs/\xs.length<=i⟩
noncomputable def Itr(lo:Int)(n:Nat):It:=⟨λi _=>i<n,λi H x b=>b=H/\x=.int (lo+i),λi _=>n<=i⟩
def Za4{K tg}(a it:Addr):Turn P w K tg (Itl K a) [it] it (λi h=>h.IsListIter it a i) where
 mem:=by simp
 obj:=λi h st b hb=>by
  have e:b=it:=by simpa using hb
  subst e;obtain⟨o,e,c,d⟩:=st;exact⟨o,e,λv z=>by rw[d]at z;cases z⟩
 keep:=λi h h' st k=>st.at λo e=>k it (by simp) o e
 item:=by
  intro X hP hw hK hc i pins s σ H E I hf st hg;subst hP hw hK;obtain⟨xs,x,hq,hx⟩:=hg;obtain⟨its,rv,p,hz⟩:=I.list hq;obtain⟨u,hu,ru⟩:=rv.get hx;obtain⟨f0,f1,f2,f3,f4,f5⟩:=hf it (by simp);refine wpAny_pyNext_list_item st p.isList (by simpa using hu) λh' st' sb=>?_;have I1:Inv X pins σ H {s with heap:=h'}:=I.turned (λb o hb e=>(sb.2 b hb).trans e) f0 f1 f3 f4 f5
  obtain⟨o,e,c,d⟩:=id st';exact⟨u,rfl,AH e c d (by decide) ⟨x,H,I1,ru,⟨rfl,λys hy=>by rw[I.list_inj hy hq];exact hx⟩,st',λb hb=>(hf b hb).1⟩⟩
 done:=by
  intro X hP hw hK hc i pins s σ H E I hf st hg;subst hP hw hK;obtain⟨xs,hq,hx⟩:=hg;obtain⟨its,rv,p,hz⟩:=I.list hq;obtain⟨f0,f1,f2,f3,f4,f5⟩:=hf it (by simp);have hl:=rv.length;exact wpAny_pyNext_list_end (I.ok.hd hc) st p.isList (by simp;lia) λh' eb=>⟨rfl,I.turned (λb o hb e=>eb b o hb e) f0 f1 f3 f4 f5⟩
 self:=λ_ _ _ _ _ st h=>wpAny_pyIter_listiter st h
def Oh{K tg}(it:Addr)(lo:Int)(n:Nat):Turn P w K tg (Itr lo n) [it] it (λi h=>IsRangeIter h it (lo+(i:Nat)*1) ((n:Int)-(i:Nat)) 1) where
 mem:=by simp
 obj:=λi h st b hb=>by
  have e:b=it:=by simpa using hb
  subst e
  exact⟨_,st,λv z=>by
   cases z⟩
 keep:=λi h h' st k=>k it (by simp) _ st
 item:=by
  intro X hP hw hK hc i pins s σ H E I hf st hg;subst hP hw hK;obtain⟨f0,f1,f2,f3,f4,f5⟩:=hf it (by simp);refine(Walks.range (prog:=X.prog) (w:=X.w) (I.ok.hd hc) it lo 1 n).item i s _ _ hg st λv h' tk hv st' kk=>?_;obtain⟨t,rfl⟩:=hv;have I1:Inv X pins σ H {s with heap:=h',toks:=tk}:=I.turned (λb o hb e=>kk b o (by simpa using hb) e) f0 f1 f3 f4 f5
  refine⟨_,rfl,AH st' rfl rfl (by decide) ⟨.int (lo+i),H,I1,⟨t,?_⟩,⟨rfl,rfl⟩,st',λb hb=>(hf b hb).1⟩⟩;rw[Int.mul_one]
 done:=by
  intro X hP hw hK hc i pins s σ H E I hf st hg;obtain⟨f0,f1,f2,f3,f4,f5⟩:=hf it (by simp);exact wpAny_pyNext_range_end (I.ok.hd hc) st (by have:n<=i:=hg;lia) λh' eb=>⟨rfl,I.turned (λb o hb e=>eb b o hb e) f0 f1 f3 f4 f5⟩
 self:=λ_ _ _ _ _ st h=>wpAny_pyIter_rangeiter st h
section
variable {X:Cx}{tg:Expr}
noncomputable def Nh(K:ZV)(g:TE):TI:=λf H R=>g f H λx b=>∃a,x=.ref a/\(∃xs,SqL K b a xs)/\R (Itl K a) b
def Ff(z:PE X l r):PI X tg l (Nh X.K r):=by
 intro pins s n H R I h;refine thn (z pins s n H _ I h) λv g ⟨x,A,f,u,w⟩=>?_;obtain⟨a,e,⟨xs,hq⟩,q⟩:=w;subst e;cases u
 obtain⟨y,B,p,C⟩:=f.list hq;refine wpAny_pyIter_list p.isList ?_;refine⟨g.heap.objs.size,[g.heap.objs.size],_,_,A,rfl,f.kept λb o e=>YX _ e,Za4 a _,⟨_,Wl _ rfl,rfl,rfl⟩,λb E=>?_,q⟩;have e:b=g.heap.objs.size:=by grind
 subst e;exact f.fpOk (Wf _) (f.hok.fresh<|Wf _)
def M1{g:St}{H}{s}{R}{E}{lo f}{t u v}{tk}(I:Inv X pins g H s)(x:-(2 ^ 62)<=lo)(r:lo<2 ^ 62)(p:-(2 ^ 62)<=f)(n:f<2 ^ 62)(q:R (Itr lo (f-lo).toNat) H):wpAny (model X.prog X.w) X.A (pyIter<|.ref s.heap.objs.size) (PIE X pins g tg R) E {s with heap:=s.heap.push {cls:=.type "range",data:=.fields #[.int lo t,.int f u,.int 1 v]},toks:=tk}:=by
 refine wpAny_pyIter_range (IsRange.new ..) (small_one x r p n) ?_;have h:Inv X pins g H {s with heap:=s.heap.push {cls:=.type "range",data:=.fields #[.int lo t,.int f u,.int 1 v]},toks:=tk}:=I.kept λb o e=>YX _ e
 refine⟨(s.heap.push {cls:=.type "range",data:=.fields #[.int lo t,.int f u,.int 1 v]}).objs.size,[(s.heap.push {cls:=.type "range",data:=.fields #[.int lo t,.int f u,.int 1 v]}).objs.size],_,_,H,rfl,
  h.kept λb o e=>YX _ e,Oh _ lo (f-lo).toNat,?_,λb l=>?_,q⟩
 ·have z:lo+((0:Nat):Int)*1=lo:=by simp
  have y:(((f-lo).toNat:Nat):Int)-((0:Nat):Int)=Builtin.Range.rangeSize lo f 1:=by rw[rangeSize_one];split<;>lia
  rw[z,y];exact Wl _ rfl
 ·have e:b=(s.heap.push {cls:=.type "range",data:=.fields #[.int lo t,.int f u,.int 1 v]}).objs.size:=by simpa using l
  subst e;exact h.fpOk (Wf _) (h.hok.fresh<|Wf _)
noncomputable def DU(g:TA):TI:=λb H R=>g b H λf h=>∃j:Int,f=[.int j]/\-(2 ^ 62)<=j/\j<2 ^ 62/\R (Itr 0 j.toNat) h
def Bm(w:Gl X "range")(v:X.mg "range"=none)(x:PA X [a] g)(u:autoParam (starEach [a] X.env=[(false,eval a X.env)]) au_0):PI X tg (.Call (.Name "range" p) [a] [] pos) (DU g):=by
 intro pins s f H R I h;refine Call_ (Nq I w v boot_range<|PyProof.Rows.callWith_type1 (thn (x pos pins s f H _ I h) λA B ⟨z,C,y,n,b⟩=>?_) u rfl);obtain⟨j,e,b,o,q⟩:=b;subst e;cases n with
 |cons r l=>
  cases l
  obtain⟨t,rfl⟩:=r;exact call_range_1 (M1 y (by lia) (by lia) b o<|by grind)
noncomputable def CL(o:TI)(g:TG)(p:TS):TS:=λD b H=>o b H λJ r=>∃W:Nat->Nat->St->Hp->Prop,(∃m,W 0 m b r)/\∀i m b H,W i m b H->
 (J.stop i H/\D.nx b H)\/(J.go i H/\∃N:St->Hp->Prop,(∀f h,N f h->∃n,n<m/\W (i+1) n f h)/\∀x h,J.yld i H x h->g x b h λl q=>p {D with nx:=N,ct:=N,bk:=D.nx} l q)
noncomputable def P6(f:List Addr)(h:Heap):ZY:=f.filterMap λb=>(h.get? b).map λo=>(b,o)
def Nl{b o}(f:b∈g)(e:h.get? b=some o):(b,o)∈P6 g h:=Vo.mpr ⟨b,f,by rw[e];rfl⟩
def Gg(f:p∈P6 g h):p.1∈g/\h.get? p.1=some p.2:=by
 obtain⟨b,l,e⟩:=Vo.mp f;cases q:h.get? b with
 |_=>grind
def Inv.pinned {f:St}{H}{s}{fp} (I:Inv X pins f H s) (h:∀b∈fp,K4 X pins H b) (n:∀b∈fp,∃o,s.heap.get? b=some o/\∀v,o.data≠.cell v):Inv X (pins++P6 fp s.heap) f H s:=
 I.pins_of λp g=>(Wu.mp g).elim (λz=>I.pin p (Wo _ z)) λz=>by
  obtain⟨l,e⟩:=Gg z;obtain⟨f0,f1,q,_⟩:=h p.1 l
  grind
def Inv.unpinned {b:St}{H}{s} (I:Inv X (pins++g) b H s):Inv X pins b H s:=I.pins_of λp f=>I.pin p (Wo _<|WL _ f)
def MQ{wi g tb pos}(M:PassesOwn (model X.prog X.w) X.A X.env X.xe)(hc:X.calm=true)(hi:PI X tg iter wi)(hg:PG X tg g)(y:PSs X body tb)(hs:autoParam (∀x,foldedSetIterable iter X.env x=pure x) au_3):PS X (.For tg iter body [] pos) (CL wi g tb):=by
 intro pins s σ H D I h;refine wpAny_For (thn (hi pins s σ H _ I h) λv s1 h1=>thn h1 λitv s2 h2=>?_) hs;obtain⟨it,U,tn,J,H2,e,I2,T,st2,f2,W,⟨m0,w0⟩,turn⟩:=h2;subst e;have stat:∀{B:Hp},(∀b∈U,B b=none)->∀b∈U,K4 X pins B b:=λhn b y=>⟨hn b y,(f2 b y).2⟩;refine codeAny_forLoop_any (λn s'=>∃i q B,Inv X pins q B s'/\tn i s'.heap/\(∀b∈U,B b=none)/\W i n q B) ?_ m0 ⟨0,σ,H2,I2,st2,λb y=>(f2 b y).1,w0⟩;rintro n s3 ⟨i,p,Y,I3,L,Q,w3⟩;rcases turn i n p Y w3 with⟨stop,qn⟩|⟨go,N,hN,step⟩
 ·refine Qe M (thn (T.done X rfl rfl rfl hc i pins s3 p Y X.xe I3 (stat Q) L stop) ?_);rintro r s4 ⟨hr,I4⟩;subst hr;exact Ve ⟨p,Y,I4,qn⟩
 ·refine Qe M (thn (T.item X rfl rfl rfl hc i pins s3 p Y X.xe I3 (stat Q) L go) ?_);rintro r s4 ⟨u,hr,h4⟩;subst hr;refine Qe M (thn h4 ?_);rintro _ s5 ⟨x,H5,I5,r5,y5,E,fr5⟩;refine Qe M (thn (hg _ s5 p H5 x u _ (I5.pinned (stat fr5)<|T.obj _ _ E) r5<|step x H5 y5) ?_);rintro _ s6 ⟨σ6,H6,I6,q6⟩;refine Qe M (thn (y _ s6 σ6 H6 _ I6 q6) λf s7 G=>?_)
  have again:∀{l:St} {z:Hp},Inv X (pins++P6 U s5.heap) l z s7->N l z->∃m,m<n/\∃i q B,Inv X pins q B s7/\tn i s7.heap/\(∀b∈U,B b=none)/\W i m q B:=λ{l z} C n7=>by
   obtain⟨m',hm,w7⟩:=hN l z n7;refine⟨m',hm,i+1,l,z,C.unpinned,T.keep _ _ _ E λb y o e=>(C.pin (b,o)<|Wo _<|Wo _<|Nl y e).1,λb y=>?_,w7⟩;obtain⟨o,e,d⟩:=T.obj _ _ E b y;exact(C.pin (b,o)<|Wo _<|Wo _<|Nl y e).2.1
  cases f with
  |brk=>obtain⟨l,z,C,G⟩:=G;exact⟨l,z,C.unpinned,G⟩
  |ret v=>obtain⟨x7,l,z,C,r7,G⟩:=G;exact⟨x7,l,z,C.unpinned,r7,G⟩
  |_=>obtain⟨l,z,C,n7⟩:=G;exact again C n7
end
abbrev R2:=V->V->Hp->VK->Prop
def OpR(X:Cx)(f:Value->Value->Sem Value)(r:R2):Prop:=
 ∀(pins:ZY) (s:Shared) (b:St) (H:Hp) (x y:V) (v u:Value) (Q:VK),Inv X pins b H s->RelV x v->RelV y u->r x y H Q->
  wpAny (model X.prog X.w) X.A (f v u) (EP X pins b Q) X.xe s
def UnR(X:Cx)(f:Value->Sem Value)(r:V->Hp->VK->Prop):Prop:=
 ∀(pins:ZY) (s:Shared) (b:St) (H:Hp) (x:V) (v:Value) (Q:VK),Inv X pins b H s->RelV x v->r x H Q->
  wpAny (model X.prog X.w) X.A (f v) (EP X pins b Q) X.xe s
def X6(X:Cx)(f:Value)(r:List V->Hp->VK->Prop):Prop:=
 ∀(pins:ZY) (s:Shared) (b:St) (H:Hp) (xs:List V) (g:Yd) (Q:VK),Inv X pins b H s->Vals xs g->r xs H Q->
  wpAny (model X.prog X.w) X.A (call f g) (EP X pins b Q) X.xe s
def RK(X:Cx)(r:V->Hp->(Bool->Hp->Prop)->Prop):Prop:=
 ∀(pins:ZY) (s:Shared) (b:St) (H:Hp) (x:V) (v:Value) (Q:Bool->Hp->Prop),Inv X pins b H s->RelV x v->r x H Q->
  wpAny (model X.prog X.w) X.A (truthy v) (TP X pins b Q) X.xe s
noncomputable def tOp(r:R2)(g f:TE):TE:=λb H Q=>g b H λx l=>f b l λy h=>r x y h Q
noncomputable def tUn(r:V->Hp->VK->Prop)(f:TE):TE:=λb H Q=>f b H λx g=>r x g Q
noncomputable def rI(C:Int->Int->Prop)(g:Int->Int->V):R2:=λx y H Q=>∃i j,x=.int i/\y=.int j/\C i j/\Q (g i j) H
noncomputable def rI0(g:Int->Int->V):R2:=λx y H Q=>∃i j,x=.int i/\y=.int j/\Q (g i j) H
def rU(g:Int->V):V->Hp->VK->Prop:=λx H Q=>∃i,x=.int i/\Q (g i) H
section
variable {X:Cx}{a b c:Expr}{ta tb tc:TE}{pos:Pos}
def SS(C:PE X a ta)(B:PE X b tb){pins}{s}{g:St}{H}{R:V->V->Hp->Prop}(I:Inv X pins g H s)(h:ta g H λx q=>tb g q λy o=>R x y o){Q}{f:Value->Value->Sem Value}(M:∀v u p x y o,Inv X pins g o p->RelV x v->RelV y u->R x y o->wpAny (model X.prog X.w) X.A (f v u) Q X.xe p) :
  wpAny (model X.prog X.w) X.A (eval a X.env) (λv n=>wpAny (model X.prog X.w) X.A (eval b X.env) (λu l=>wpAny (model X.prog X.w) X.A (f v u) Q X.xe l) X.xe n) X.xe s:=by
 refine thn (C pins s g H _ I h) λv r ⟨x,q,E,J,z⟩=>?_;refine thn (B pins r g q _ E z) λu p ⟨y,o,N,G,L⟩=>?_
 grind
def UI(p:OpR X (binaryOp o) r)(z:PE X a ta)(w:PE X b tb):PE X (.BinOp a o b pos) (tOp r ta tb):=by
 intro pins s f H Q I h;exact wpAny_BinOp (SS z w I h λv u g x y B A n l q=>p pins g f B x y v u Q A n l q)
def Pt(p:UnR X (unaryOp o) r)(q:PE X a ta):PE X (.UnaryOp o a pos) (tUn r ta):=by
 intro pins s f H Q I h;exact UnaryOp_ (thn (q pins s f H _ I h) λv g ⟨x,w,u,l,n⟩=>p pins g f w x v Q u l n)
def opI{C}{g:Int->Int->Int}(rule:∀i j t u s Q E,C i j->Q (.int (g i j) s.toks) {s with toks:=s.toks+1}->wpAny (model X.prog X.w) X.A (f (.int i t)<|.int j u) Q E s) :
  OpR X f (rI C λi j=>.int (g i j)):=by
 intro pins s r H x y v u Q I o n h;obtain⟨i,j,rfl,rfl,p,q⟩:=h;obtain⟨t,rfl⟩:=o;obtain⟨l,rfl⟩:=n;exact rule i j t l s _ _ p ⟨.int (g i j),H,I.tok _,⟨_,rfl⟩,q⟩
def Df{g:Int->Int->Int}(rule:∀i j t u s Q E,Q (.int (g i j) s.toks) {s with toks:=s.toks+1}->wpAny (model X.prog X.w) X.A (f (.int i t)<|.int j u) Q E s) :
  OpR X f (rI0 λi j=>.int (g i j)):=by
 intro pins s p H x y v u Q I o n h;obtain⟨i,j,rfl,rfl,q⟩:=h;obtain⟨t,rfl⟩:=o;obtain⟨l,rfl⟩:=n;exact rule i j t l s _ _ ⟨.int (g i j),H,I.tok _,⟨_,rfl⟩,q⟩
def N7{g:Int->Int->Bool}(rule:∀i j t u s Q E,Q (.bool<|g i j) s->wpAny (model X.prog X.w) X.A (f (.int i t)<|.int j u) Q E s) :
  OpR X f (rI0 λi j=>.bl (g i j)):=by
 intro pins s p H x y v u Q I o n h;obtain⟨i,j,rfl,rfl,q⟩:=h;obtain⟨t,rfl⟩:=o;obtain⟨l,rfl⟩:=n;exact rule i j t l s _ _ ⟨.bl (g i j),H,I,rfl,q⟩
def Bb(i j:Int):Prop:=0<j/\j<1073741824
def UO:OpR X (binaryOp .Add) (rI0 λi j=>.int (i+j)):=Df λ_ _ _ _ _ _ _ q=>add_int q
def Kl:OpR X (binaryOp .Sub) (rI0 λi j=>.int (i-j)):=Df λ_ _ _ _ _ _ _ q=>sub_int q
def Zaq:OpR X (binaryOp .FloorDiv) (rI Bb λi j=>.int (i / j)):=opI λi j _ _ _ _ _ f q=>by
 have h:=f.1;have g:=f.2;exact floordiv_int (by lia) (by rw[Int.fdiv_eq_ediv_of_nonneg i (by lia)];exact q) (.inl<|PyProof.noPylong_small<|by lia)
def XM:OpR X (binaryOp .Mod) (rI (λ_ j=>0<j) λi j=>.int (i % j)):=opI λi j _ _ _ _ _ f q=>by
 exact mod_int' (by lia) (by grind)
def unI{g:Int->Int}(rule:∀i t s Q E,Q (.int (g i) s.toks) {s with toks:=s.toks+1}->wpAny (model X.prog X.w) X.A (f<|.int i t) Q E s) :
  UnR X f (rU λi=>.int (g i)):=by
 intro pins s n H x v Q I l h;obtain⟨i,rfl,q⟩:=h;obtain⟨t,rfl⟩:=l;exact rule i t s _ _ ⟨.int (g i),H,I.tok _,⟨_,rfl⟩,q⟩
def Po:UnR X (unaryOp .USub) (rU λi=>.int (-i)):=unI λ_ _ _ _ _ q=>neg_int q
end
noncomputable def FU:V->V->Bool
 | .non,.non=>true | .non,.int _=>true | .int _,.non=>true | .non,.bl _=>true | .bl _,.non=>true | .non,.str _=>true | .str _,.non=>true
 | .int _,.int _=>true | .bl _,.bl _=>true | .str _,.str _=>true | .byt _,.byt _=>true
 | .int _,.str _=>true | .str _,.int _=>true | .bl _,.str _=>true | .str _,.bl _=>true
 |_,_=>false
noncomputable def rEq:R2:=λx y H Q=>FU x y=true/\Q (.bl<|decide (x=y)) H
noncomputable def rNe:R2:=λx y H Q=>FU x y=true/\Q (.bl (!decide (x=y))) H
def DH{i j:Int}:decide (V.int i=V.int j)=(i==j):=by
 rw[Vf];simp
def Dy{i j:Bool}:decide (V.bl i=V.bl j)=(i==j):=by
 rw[Vf];simp
def Dg{i j:Str}:decide (V.str i=V.str j)=(i==j):=by
 rw[Vf];simp
def Cy{i j:Array UInt8}:decide (V.byt i=V.byt j)=(i.toList==j.toList):=by
 rw[Vf];cases i
 cases j
 simp
section
variable {X:Cx}{a b c:Expr}{ta tb tc:TE}{pos:Pos}
def Uy{f:St}{H}{s}{Q}{k g}(I:Inv X pins f H s)(q:Q (.bl k) H)(e:k=g):EP X pins f Q (.bool g) s:=by
 subst e;exact⟨.bl k,H,I,rfl,q⟩
def op_eq:OpR X (compareOp .Eq) rEq:=by
 intro pins s o H x y v u Q I n f h;obtain⟨l,q⟩:=h;cases x with
 |non=>
  cases n
  cases y with
  |non=>cases f;exact PySem.EqNone.eq_none_none (Uy I q<|by simp)
  |bl j=>cases f;exact PySem.EqNone.eq_none_bool (Uy I q<|by simp)
  |int j=>obtain⟨g,rfl⟩:=f;exact PySem.EqNone.eq_none_int (Uy I q<|by simp)
  |str j=>obtain⟨g,rfl⟩:=f;exact PySem.EqNone.eq_none_str (Uy I q<|by simp)
  |_=>exact absurd l Wn
 |bl i=>
  cases n
  cases y with
  |non=>cases f;exact PySem.EqNone.eq_bool_none (Uy I q<|by simp)
  |bl j=>cases f;exact eq_bool (Uy I q Dy)
  |str j=>obtain⟨g,rfl⟩:=f;exact PySem.EqMixed.eq_bool_str (Uy I q<|by simp)
  |_=>exact absurd l Wn
 |int i=>
  obtain⟨t,rfl⟩:=n;cases y with
  |non=>cases f;exact PySem.EqNone.eq_int_none (Uy I q<|by simp)
  |int j=>obtain⟨g,rfl⟩:=f;exact eq_int (Uy I q DH)
  |str j=>obtain⟨g,rfl⟩:=f;exact PySem.EqMixed.eq_int_str (Uy I q<|by simp)
  |_=>exact absurd l Wn
 |str i=>
  obtain⟨t,rfl⟩:=n;cases y with
  |non=>cases f;exact PySem.EqNone.eq_str_none (Uy I q<|by simp)
  |bl j=>cases f;exact PySem.EqMixed.eq_str_bool (Uy I q<|by simp)
  |int j=>obtain⟨g,rfl⟩:=f;exact PySem.EqMixed.eq_str_int (Uy I q<|by simp)
  |str j=>obtain⟨g,rfl⟩:=f;exact eq_str (Uy I q Dg)
  |_=>exact absurd l Wn
 |byt i=>
  obtain⟨t,rfl⟩:=n;cases y with
  |byt j=>obtain⟨g,rfl⟩:=f;exact PySem.W.eq_bytes (Uy I q Cy)
  |_=>exact absurd l Wn
 |_=>cases y<;>exact absurd (show false=true from l) Wn
def op_ne:OpR X (compareOp .NotEq) rNe:=by
 intro pins s o H x y v u Q I n f h;obtain⟨l,q⟩:=h;cases x with
 |non=>
  cases n
  cases y with
  |non=>cases f;exact PySem.EqNone.ne_none_none (Uy I q<|by simp)
  |bl j=>cases f;exact PySem.EqNone.ne_none_bool (Uy I q<|by simp)
  |int j=>obtain⟨g,rfl⟩:=f;exact PySem.EqNone.ne_none_int (Uy I q<|by simp)
  |str j=>obtain⟨g,rfl⟩:=f;exact PySem.EqNone.ne_none_str (Uy I q<|by simp)
  |_=>exact absurd l Wn
 |bl i=>
  cases n
  cases y with
  |non=>cases f;exact PySem.EqNone.ne_bool_none (Uy I q<|by simp)
  |bl j=>cases f;exact ne_bool (Uy I q<|W2 not Dy)
  |str j=>obtain⟨g,rfl⟩:=f;exact PySem.EqMixed.ne_bool_str (Uy I q<|by simp)
  |_=>exact absurd l Wn
 |int i=>
  obtain⟨t,rfl⟩:=n;cases y with
  |non=>cases f;exact PySem.EqNone.ne_int_none (Uy I q<|by simp)
  |int j=>obtain⟨g,rfl⟩:=f;exact ne_int (Uy I q<|W2 not DH)
  |str j=>obtain⟨g,rfl⟩:=f;exact PySem.EqMixed.ne_int_str (Uy I q<|by simp)
  |_=>exact absurd l Wn
 |str i=>
  obtain⟨t,rfl⟩:=n;cases y with
  |non=>cases f;exact PySem.EqNone.ne_str_none (Uy I q<|by simp)
  |bl j=>cases f;exact PySem.EqMixed.ne_str_bool (Uy I q<|by simp)
  |int j=>obtain⟨g,rfl⟩:=f;exact PySem.EqMixed.ne_str_int (Uy I q<|by simp)
  |str j=>obtain⟨g,rfl⟩:=f;exact ne_str (Uy I q<|W2 not Dg)
  |_=>exact absurd l Wn
 |byt i=>
  obtain⟨t,rfl⟩:=n;cases y with
  |byt j=>obtain⟨g,rfl⟩:=f;exact PySem.W.ne_bytes (Uy I q<|W2 not Cy)
  |_=>exact absurd l Wn
 |_=>cases y<;>exact absurd (show false=true from l) Wn
def Kx:OpR X (compareOp .Lt) (rI0 λi j=>.bl (decide (i<j))):=N7 λ_ _ _ _ _ _ _ q=>lt_int q
def Km:OpR X (compareOp .Gt) (rI0 λi j=>.bl (decide (j<i))):=N7 λ_ _ _ _ _ _ _ q=>gt_int q
def Th:OpR X (compareOp .GtE) (rI0 λi j=>.bl (decide (j<=i))):=N7 λ_ _ _ _ _ _ _ q=>ge_int q
def OpR.or (h:OpR X f r) (p:OpR X f o):OpR X f (λx y H Q=>r x y H Q\/o x y H Q):=by
 intro pins s g H x y v u Q I n l q;rcases q with q|q
 ·exact h pins s g H x y v u Q I n l q
 ·exact p pins s g H x y v u Q I n l q
def KD(b:Expr){op}(h:autoParam (op≠.In) au_1)(l:autoParam (op≠.NotIn) au_1):behindInMarks op b=false:=by
 have g:(op==CmpOp.In)=false:=by grind
 have f:(op==CmpOp.NotIn)=false:=by grind
 cases b<;>simp[behindInMarks,g,f]
def L7(p:OpR X (compareOp f) r)(A:PE X a ta)(z:PE X b tb)(w:behindInMarks f b=false):PE X (.Compare a [f] [b] pos) (tOp r ta tb):=by
 intro pins s g H Q I h;exact wpAny_Compare1 (SS A z I h λv u l x y C B o n q=>p pins l g C x y v u Q B o n q) w
noncomputable def Nn(t:TE):TT:=λf H Q=>t f H λx g=>∃k,x=.bl k/\Q k g
def Kq(C:OpR X (compareOp g) r)(J:PE X a ta)(G:PE X b tb)(E:behindInMarks g b=false):PT X (.Compare a [g] [b] pos) (Nn<|tOp r ta tb):=by
 intro pins s f H Q I h
 refine wpAny_isTrue_Compare1 (thn (J pins s f H _ I h) λv n ⟨x,Y,N,q,B⟩=>thn (G pins n f Y _ N B) λu l ⟨y,U,M,p,A⟩=>
  thn (C pins l f U x y v u _ M q p A) λc s3 ⟨z,T,L,o,k,e,w⟩=>?_) E
 subst e;cases o
 exact wpAny_truthy_bool ⟨T,L,w⟩
def N5(K:ZV)(x:V)(H:Hp)(k:Bool):Prop:=
 match x with
 | .non=>k=false
 | .bl b=>k=b
 | .int i=>k=(i != 0)
 | .str y=>y.length<=sizeLine/\k=((y.length:Int) != 0)
 | .byt y=>y.size<=sizeLine/\k=((y.size:Int) != 0)
 | .ref p=>(∃xs,SqL K H p xs/\k=!xs.isEmpty)\/(∃xs,SqT K H p xs/\k=!xs.isEmpty)\/∃f,H p=some (.dK f)/\k=!f.isEmpty
 |_=>False
def MU(r:KV f vs):(!vs.isEmpty)=!f.isEmpty:=by
 cases r<;>rfl
def AD(r:Vals xs f):(!f.toArray.isEmpty)=!xs.isEmpty:=by
 cases r<;>simp
def SU:(sizeLine:Nat)<2 ^ 63:=by trivial
def Za1:RK X (λx H Q=>∃k,N5 X.K x H k/\Q k H):=by
 intro pins s B H x v Q I l h;obtain⟨k,e,q⟩:=h;have G:=SU;have E:=Vn;cases x with
 |non=>
  cases l
  have f:=e;subst f;exact truthy_none ⟨H,I,q⟩
 |bl b=>
  cases l
  have f:=e;subst f;exact wpAny_truthy_bool ⟨H,I,q⟩
 |int i=>
  obtain⟨t,rfl⟩:=l;have f:=e;subst f;exact PySem.P.truthy_int ⟨H,I,q⟩
 |str y=>
  obtain⟨t,rfl⟩:=l;obtain⟨z,f⟩:=e;subst f;exact PySem.P.truthy_str (by lia) ⟨H,I.tok _,q⟩
 |byt y=>
  obtain⟨t,rfl⟩:=l;obtain⟨z,f⟩:=e;subst f;exact PySem.W.truthy_bytes (by lia) ⟨H,I.tok _,q⟩
 |ref p=>
  cases l
  have f:=e;rcases f with⟨xs,hx,f⟩|⟨xs,hx,f⟩|⟨w,hx,f⟩
  ·subst f;obtain⟨o,r,n,u⟩:=I.list hx;have g:=r.length;exact wpAny_truthy_list n.isList (by simp only[Wy];lia) ⟨H,I.tok _,by rw[AD r];exact q⟩
  ·subst f;obtain⟨o,r,n,u⟩:=I.tuple hx;have g:=r.length;exact truthy_tuple n (by simp only[Wy];lia) ⟨H,I.tok _,by rw[AD r];exact q⟩
  ·subst f;obtain⟨u,A,C,r,m⟩:=I.hok p _ hx;have g:=Paired.length r;exact wpAny_truthy_dict A m (by lia) ⟨H,I.tok _,by rw[MU r];exact q⟩
 |_=>exact e.elim
def G2(p:PE X a ta)(o:∀whole,isTrue a X.env whole=(do let v ←whole;standAt a.pos;holding [v] (truthy v))) :
  PT X a (λf H Q=>ta f H λx H'=>∃k,N5 X.K x H' k/\Q k H'):=by
 intro pins s f H Q I h;exact isTrue_plain (thn (p pins s f H _ I h) λv g ⟨x,r,q,l,n⟩=>Za1 pins g f r x v Q q l n) (o _)
def vals1(r:Vals [x] us):∃u,us=[u]/\RelV x u:=by
 cases r with
 |cons g f=>cases f;exact⟨_,rfl,g⟩
def TR(K:ZV)(x:V)(H:Hp)(n:Nat):Prop:=
 match x with
 | .str y=>y.length<=sizeLine/\n=y.length
 | .byt y=>y.size<=sizeLine/\n=y.size
 | .ref p=>(∃xs,SqL K H p xs/\n=xs.length)\/∃xs,SqT K H p xs/\n=xs.length
 |_=>False
def GL:X6 X (.builtin "len") (λxs H Q=>∃x n,xs=[x]/\TR X.K x H n/\Q (.int n) H):=by
 intro pins s B H xs C Q I r h;obtain⟨x,n,rfl,e,q⟩:=h;obtain⟨u,rfl,l⟩:=vals1 r;have E:=Vn;cases x with
 |str y=>
  obtain⟨t,rfl⟩:=l;obtain⟨A,g⟩:=e;subst g;exact len_str (by lia) ⟨.int _,H,I.tok _,⟨_,rfl⟩,q⟩
 |byt y=>
  obtain⟨t,rfl⟩:=l;obtain⟨A,g⟩:=e;subst g;exact PySem.W.len_bytes (by lia) ⟨.int _,H,I.tok _,⟨_,rfl⟩,q⟩
 |ref p=>
  cases l
  have g:=e;rcases g with⟨xs,hx,g⟩|⟨xs,hx,g⟩
  ·subst g;obtain⟨w,o,v,z⟩:=I.list hx;have f:=o.length;exact Calls.call_len_list v.isList (by simp only[Wy];lia) ⟨.int xs.length,H,I.tok _,⟨_,by simp only[Wy];rw[f]⟩,q⟩
  ·subst g;obtain⟨w,o,v,z⟩:=I.tuple hx;have f:=o.length;exact len_tuple v (by simp only[Wy];lia) ⟨.int xs.length,H,I.tok _,⟨_,by simp only[Wy];rw[f]⟩,q⟩
 |_=>exact e.elim
end
structure K8 (h:Heap) (x dx C:Addr) (mA:ZZ):Prop where
 obj:h.get? x=some (PySem.W.instObj C dx)
 ns:h.Ns1 dx mA
 ne:dx≠x
def Mv{h:Heap}{dx}{mA}(n:h.Ns1 dx mA):∃f,h.get? dx=some f/\∀name,PySem.W.lookIn name f=some (mA name):=by
 obtain⟨o,u,v,l,s,r,_,p⟩:=n;refine⟨o,l,λname=>?_⟩;have e:=p name;unfold nsFind findBy at e;unfold PySem.W.lookIn;rw[s]
 dsimp only
 split
 ·grind
 ·rename_i q
  have a:u.toList.any (·.refKey)=false:=by
   rw[List.any_eq_false];intro y g;obtain⟨z,t,b⟩:=r y (Array.mem_toList_iff.mp g);simp[DictEntry.refKey,b]
  grind
def K8.look (I:K8 h x n C f):∃b,PySem.W.InstAt h x (PySem.W.instObj C n) C (some b)/\∀name,PySem.W.lookIn name b=some (f name):=
 let ⟨b,g,l⟩:=Mv I.ns
 ⟨b,⟨I.obj,rfl,rfl,g⟩,l⟩
section
variable {prog:Program}{w:World}{A:Around}{E:Ya}{s:Shared}{K:ZV}{x dx C f:Addr}{mA:ZZ}{name:Str}{v:Value}
def Hv{Q}(X:K.In s.heap)(I:K8 s.heap x dx C mA)(l:PySem.W.plainGet K C name=true)(g:PySem.W.hasDictIn K C=true)(n:PySem.W.findIn K (.ref C) name=some none)(p:mA name=some v)(b:PySem.W.handedIn v=true)(h:Q v {s with toks:=s.toks+1}) :
  wpAny (model prog w) A (getAttr (.ref x) name expr) Q E s:=by
 obtain⟨o,J,q⟩:=I.look;exact PySem.W.get_value X J (Vl l).1 (PySem.W.findObj_own g n rfl<|by grind) b h
def Hs{Q}(X:K.In s.heap)(I:K8 s.heap x dx C mA)(b:PySem.W.plainGet K C name=true)(p:PySem.W.findIn K (.ref C) name=some (some<|.ref f))(n:PySem.W.isFn K (.ref f)=true)(l:mA name=none)(h:Q (.ref f,[.ref x]) s) :
  wpAny (model prog w) A (getMethod (.ref x) name q) Q E s:=by
 obtain⟨g,J,o⟩:=I.look;exact PySem.W.method_fn X J (Vl b).1 (Vl b).2 p (beq_iff_eq.mp n) (by show(PySem.W.lookIn name g).map (·.isSome)=some false;rw[o,l];rfl) h
def Gn(X:K.In s.heap)(I:K8 s.heap x dx C mA)(z:PySem.W.findIn K (.ref C) "__setattr__"=some (some<|.builtin "object.__setattr__"))(B:PySem.W.plainOver K C=true)(u:PySem.W.takerIn K C name=some none)(G:PySem.W.hasDictIn K C=true)(hw:PySem.Within mA ns)(hsz:ns.length<=sizeLine)(h:∀n,K8 n x dx C (λy=>if y=name then some v else mA y)->Heap.SameBut dx s.heap n->Q () {s with heap:=n,toks:=s.toks+2}) :
  wpAny (model prog w) A (setAttr (.ref x) name v) Q E s:=by
 obtain⟨N,J,U⟩:=I.look;refine PySem.W.set_plain X J z (PySem.W.osa_open X J B u λb=>?_);obtain⟨Y,H,q⟩:=Vw G;refine YT (Wb<|YT<|YT<|wpAny_loadPart I.obj<|YT<|Vp (Vm X H) ?_);rw[q];refine Wb (YT<|Wb<|YT ?_);refine wpAny_nsSet1 I.ns λn l g=>?_;obtain⟨T,L,M,o,p,r⟩:=l.count (PySem.Within.cons name v hw);refine YT (wpAny_lookBehind o (by rw[p];exact pastItsLine_dict (Wi r<|by grind)) ?_);exact Wb (h _ ⟨(g.2 _<|Ne.symm I.ne).trans I.obj,l,I.ne⟩ g)
def IT{vs b}(X:K.In s.heap)(g:PySem.W.makesIn K C=true)(l:PySem.W.findIn K (.ref C) "__init__"=some (some<|.ref f))(n:PySem.W.typeIn K (.ref f)=some (.type "function"))
  (h:codeAny (model prog w) (A.under<|.builtin "type.__call__" ⟨.ref C::vs,b⟩) (.call (.ref f) ⟨.ref (s.heap.objs.size+1)::vs,b⟩) (PySem.W.InitBack (s.heap.objs.size+1) R)
   {s with heap:=(s.heap.push PySem.W.emptyDict).push (PySem.W.instObj C s.heap.objs.size)}) :
  codeAny (model prog w) A (.call (.ref C) ⟨vs,b⟩) R s:=PySem.W.make_core (PySem.W.makes_of X g) (Qm X l) (λself=>PySem.W.bind_fn X self n) (.inl rfl) h
end
noncomputable def UL(f:Str)(v:V):List (Str×V)->List (Str×V)
 |[]=>[(f,v)]
 |(g,x)::r=>if g=f then(g,v)::r else(g,x)::UL f v r
theorem Dp(f g:Str)(v:V):∀fs,(UL f v fs).lookup g=if g=f then some v else fs.lookup g
 |[]=>by
  show List.lookup g [(f,v)]=_;by_cases h:g=f
  ·have b:=beq_iff_eq.mpr h;simp only[List.lookup,b,Wc h]
  ·have b:=Qt.mpr h;simp only[List.lookup,b,YV h]
 |(k,x)::r=>by
  rw[show UL f v ((k,x)::r)=(if k=f then(k,v)::r else(k,x)::UL f v r)from rfl]
  by_cases l:k=f
  ·rw[Wc l];by_cases h:g=k
   ·simp_all
   ·have b:=Qt.mpr h;simp only[List.lookup,b,YV (λe:g=f=>h (e.trans l.symm))]
  ·rw[YV l];by_cases h:g=k
   ·simp_all
   ·have b:=Qt.mpr h;simp only[List.lookup,b];exact(Dp f g v r)
theorem By(f:Str)(v:V):∀fs,f∈(UL f v fs).map (·.1)/\∀g,g∈fs.map (·.1)->g∈(UL f v fs).map (·.1)
 |[]=>⟨by simp[UL],λg h=>by simp at h⟩
 |(k,x)::r=>by
  obtain⟨l,b⟩:=By f v r;rw[show UL f v ((k,x)::r)=(if k=f then(k,v)::r else(k,x)::UL f v r)from rfl]
  by_cases n:k=f
  ·grind
  ·grind
theorem Cf(f:Str)(v:V):∀fs,(UL f v fs).length<=fs.length+1
 |[]=>by simp[UL]
 |(k,x)::r=>by
  have b:=Cf f v r;rw[show UL f v ((k,x)::r)=(if k=f then(k,v)::r else(k,x)::UL f v r)from rfl]
  by_cases g:k=f
  ·grind
  ·grind
def RelO.some_of (r:RelO (some v) o):∃u,o=some u/\RelV v u:=by
 cases o with
 |none=>trivial
 |some u=>exact⟨u,rfl,r⟩
def RelO.none_of (r:RelO none o):o=none:=by
 cases o with
 |none=>rfl
 |some u=>trivial
def OQ(r:RelV v u):PySem.W.handedIn u=true:=by
 cases v with
 |non|bl b|ref a|ty n=>cases r;rfl
 |_=>obtain⟨t,e⟩:=r;cases e;rfl
section
variable {P:Program}{w:World}{H H':Hp}{h h':Heap}{a C dx:Addr}{fs fs':List (Str×V)}
def NK(g:HOk P w H h)(e:H a=some (.ins C dx fs)):∃b,K8 h a dx C b/\(∀f,RelO (fs.lookup f) (b f))/\PySem.Within b (fs.map (·.1))/\fs.length<=1000/\H dx=some (.own a):=by
 obtain⟨d,z,o,l,b,n,r,q⟩:=(g a _ e);exact⟨b,⟨l,n,o⟩,r,q,z,d⟩
end
structure Cls (K:ZV) (C:Addr):Prop where
 pg:PySem.W.plainGet K C Str.empty=true
 hd:PySem.W.hasDictIn K C=true
 po:PySem.W.plainOver K C=true
 sa:PySem.W.findIn K (.ref C) "__setattr__"=some (some<|.builtin "object.__setattr__")
def Cls.get {K C} (c:Cls K C) (f:Str):PySem.W.plainGet K C f=true:=c.pg
def NoAttr(K:ZV)(C:Addr)(f:Str):Prop:=PySem.W.findIn K (.ref C) f=some none
def NoAttr.taker {K C f} (n:NoAttr K C f):PySem.W.takerIn K C f=some none:=by
 unfold PySem.W.takerIn;rw[show PySem.W.findIn K (.ref C) f=some none from n]
 rfl
structure Up (K:ZV) (C:Addr) (m:Str) (f:Addr):Prop where
 at_:PySem.W.findIn K (.ref C) m=some (some<|.ref f)
 fn:PySem.W.isFn K (.ref f)=true
 kp:PySem.W.keepIn K (.ref f)=true
section
variable {X:Cx}{pins:ZY}{σ:St}{H:Hp}{s:Shared}{a C dx:Addr}{fs:List (Str×V)}{f:Str}{v:V}{A:Around}{E:Ya}
def Rq{Q}(I:Inv X pins σ H s)(e:H a=some (.ins C dx fs))(c:Cls X.K C)(n:NoAttr X.K C f)(l:fs.lookup f=some v)(h:∀u g,Inv X pins σ H g->RelV v u->Q u g):wpAny (model X.prog X.w) A (getAttr (.ref a) f b) Q E s:=by
 obtain⟨q,O,r,_,_,_⟩:=NK I.hok e;obtain⟨u,p,o⟩:=RelO.some_of (by rw[←l];exact r f);exact Hv I.kIn O (c.get f) c.hd n p (OQ o) (h u _ (I.tok _) o)
def BC{Q}(I:Inv X pins σ H s)(e:H a=some (.ins C dx fs))(c:Cls X.K C)(k:Up X.K C m g)(l:fs.lookup m=none)(h:Q (.ref g,[.ref a]) s):wpAny (model X.prog X.w) A (getMethod (.ref a) m b) Q E s:=by
 obtain⟨n,O,r,_,_,_⟩:=NK I.hok e;exact Hs I.kIn O (c.get m) k.at_ k.fn (RelO.none_of<|by rw[←l];exact r m) h
def IR(I:Inv X pins σ H s)(e:H a=some (.ins C dx fs))(c:Cls X.K C)(n:NoAttr X.K C f)(hl:fs.length<1000)(J:RelV y u)(h:∀x,Inv X pins σ (upd H a<|.ins C dx<|UL f y fs) x->Q () x):wpAny (model X.prog X.w) A (setAttr (.ref a) f u) Q E s:=by
 obtain⟨L,O,r,p,_,B⟩:=NK I.hok e;have M:(fs.map (·.1)).length<=sizeLine:=by rw[YU,Vn];lia
 refine Gn I.kIn O c.sa c.po n.taker c.hd p M λY l G=>h _ ?_;have T:∃o,Y.get? dx=some o:=let ⟨o,_,_,e',_⟩:=l.ns;⟨o,e'⟩;refine I.write (by rw[e];exact True.intro) (.inr B) (λb q U z=>(G.2 b U).trans z) T ?_;refine⟨by rw[JX O.ne];exact B,?_,O.ne,l.obj,_,l.ns,λg=>?_,λg N=>?_⟩
 ·have:=Cf f y fs;lia
 ·show RelO ((UL f y fs).lookup g) (if g=f then some u else L g);rw[Dp];by_cases q:g=f
  ·rw[Wc q,Wc q];exact J
  ·grind
 ·by_cases q:g=f
  ·rw[q];exact(By f y fs).1
  ·refine(By f y fs).2 g (p g λz=>N ?_)
   grind
def Inv.made (I:Inv X pins σ H s):Inv X pins σ (upd (upd H s.heap.objs.size<|.own (s.heap.objs.size+1)) (s.heap.objs.size+1)<|.ins C s.heap.objs.size [])
  {s with heap:=(s.heap.push PySem.W.emptyDict).push (PySem.W.instObj C s.heap.objs.size)}:=by
 have h:(s.heap.push PySem.W.emptyDict).get? s.heap.objs.size=some PySem.W.emptyDict:=Wl s.heap rfl
 have r:((s.heap.push PySem.W.emptyDict).push (PySem.W.instObj C s.heap.objs.size)).get? (s.heap.objs.size+1)=some (PySem.W.instObj C s.heap.objs.size):=by
  have:=Wl (s.heap.push PySem.W.emptyDict) (o:=PySem.W.instObj C s.heap.objs.size) rfl
  rwa[Qz]at this
 have p:(s.heap.push PySem.W.emptyDict).Ns s.heap.objs.size (λ_=>none):=⟨PySem.W.emptyDict,#[],_,h,rfl,(λe n=>absurd n (by simp)),λ_=>rfl⟩;refine(I.laid (o:=.own (s.heap.objs.size+1)) (t':=s.toks) (λb u q=>YX _ q) (Wf _) ⟨_,h⟩).laid (λb u q=>YX _ q) (Qc<|Qz _ _) ?_;have g:s.heap.objs.size≠s.heap.objs.size+1:=Wt (QX _);refine⟨by rw[JX g,Um],WX _,g,r,λ_=>none,(Heap.Ns1.of_empty p).at λo q=>YX _ q,λ_=>True.intro,λy l=>absurd rfl l⟩
def Ip{env e f pos s Q}(g:attributeBase e f env (eval e env)=eval e env)(h:wpAny (model prog w) A (eval e env) (λo b=>wpAny (model prog w) A (getAttr o f true) Q E b) E s):wpAny (model prog w) A (eval (.Attribute e f pos) env) Q E s:=
 Attribute_any_ h (by rw[arm_eval_Attribute,g])
end
noncomputable def NB(K:ZV)(h:TE)(f:Str):TE:=λg H Q=>h g H λx b=>∃a C l fs v,x=.ref a/\b a=some (.ins C l fs)/\Cls K C/\NoAttr K C f/\fs.lookup f=some v/\Q v b
noncomputable def D3(K:ZV)(l tv:TE)(f:Str):TS:=λD b H=>tv b H λy n=>l b n λx h=>∃a C g fs,x=.ref a/\h a=some (.ins C g fs)/\Cls K C/\NoAttr K C f/\fs.length<1000/\
 D.nx b (upd h a<|.ins C g<|UL f y fs)
section
variable {X:Cx}{o e value:Expr}{f:Str}{pos pos' tpos:Pos}{ta tv:TE}
def XW(r:PE X e ta)(w:attributeBase e f X.env (eval e X.env)=eval e X.env):PE X (.Attribute e f pos) (NB X.K ta f):=by
 intro pins s b H Q I h;refine Ip w (thn (r pins s b H _ I h) ?_);rintro u L ⟨x,E,B,g,a,C,M,fs,v,y,z,c,n,l,q⟩;subst y;obtain rfl:=g;exact Rq B z c n l λG J A p=>⟨v,E,A,p,q⟩
def ND(A:PE X o ta)(w:PE X value tv)(z:swapsWith value (some<|.Attribute o f pos') pos.line X.env=pure false):PS X (.Assign [.Attribute o f pos'] value pos) (D3 X.K ta tv f):=by
 intro pins s b H D I h;refine plainObj_wpAny_Assign_Attribute (thn (w pins s b H _ I h) ?_) z;rintro u g ⟨y,M,L,p,q⟩;refine thn (A pins g b M _ L q) ?_;rintro T Q ⟨x,Y,J,r,a,C,U,fs,B,E,c,n,l,v⟩;subst B;obtain rfl:=r;exact IR J E c n l p λN G=>⟨b,_,G,v⟩
def Za5{m}{apos}{args}{pins}{s}{b:St}{H}{Q}{te}(E:PE X e te)(I:Inv X pins b H s)
  (h:te b H λx p=>∃a C v fs g,x=.ref a/\p a=some (.ins C v fs)/\Cls X.K C/\Up X.K C m g/\fs.lookup m=none/\
   ∀n,Inv X pins b p n->wpAny (model X.prog X.w) X.A (callWith pos (.ref g) [.ref a] (backTo pos<|starEach args X.env)<|backToKw pos<|keywordEach [] X.env) Q X.xe n)
  (B:eval (.Call (.Attribute e m apos) args [] pos) X.env=(do
   let r ←eval e X.env
   standAt apos.atName
   let (f,first) ←holding [r] (getMethod r m L)
   callWith pos f first (backTo pos<|starEach args X.env) (backToKw pos<|keywordEach [] X.env))) :
  wpAny (model X.prog X.w) X.A (eval (.Call (.Attribute e m apos) args [] pos) X.env) Q X.xe s:=by
 refine Vb (thn (E pins s b H _ I h) ?_) B;rintro u n ⟨x,p,y,z,a,C,v,fs,g,G,J,c,k,l,q⟩;subst G;obtain rfl:=z;exact BC y J c k l (q n y)
end
structure JZ (k:Nat) (A:Around):Prop where
 hd:A.handled=none
 dp:A.depth+3*k+5<recursionLimit
 un:A.units+16*k+200<cLine
 gd:A.guards=some []
def JZ.mono {j k A} (r:JZ k A) (h:j<=k):JZ j A:=⟨r.hd,by have:=r.dp;lia,by have:=r.un;lia,r.gd⟩
def JZ.deeper (r:JZ (k+1) A) (env:Env):JZ k (A.deeper env):=
 ⟨r.hd,by have:=r.dp;show A.depth+1+3*k+5<_;lia,by have:=r.un;show A.units+3+16*k+200<_;lia,r.gd⟩
def RW{A:Around}{C}{us}{kw}:(A.under<|.builtin "type.__call__" ⟨.ref C::us,kw⟩).depth=A.depth+1:=by
 rfl
def Zap{A:Around}{C}{us}{kw}:(A.under<|.builtin "type.__call__" ⟨.ref C::us,kw⟩).units=A.units+1:=rfl
def LC{A:Around}{C:Addr}{us:Yd}{b:List (Str×Value)}(h:A.guards=some []):(A.under<|.builtin "type.__call__" ⟨.ref C::us,b⟩).guards=some []:=by
 simpa [Around.under,Code.guards,Code.isGuard,guardIds,pushGuards]using h
def JZ.make (r:JZ (k+1) A) (C:Addr) (us:Yd) (b:List (Str×Value)):JZ k (A.under<|.builtin "type.__call__" ⟨.ref C::us,b⟩):=
 ⟨r.hd,by have:=r.dp;rw[RW];lia,by have:=r.un;rw[Zap];lia,LC r.gd⟩
def JZ.depth (r:JZ k A):A.depth<recursionLimit:=by have:=r.dp;lia
def JZ.units (r:JZ k A):A.units+64<cLine:=by have:=r.un;lia
def JZ.units0 (r:JZ k A):A.units<cLine:=by have:=r.un;lia
noncomputable def Xe:TA:=λ_ H Q=>Q [] H
noncomputable def UJ(g:TE)(f:TA):TA:=λb H Q=>g b H λx l=>f b l λxs h=>Q (x::xs) h
section
variable {X:Cx}{e:Expr}{es:Yf}{te:TE}{t:TA}{pos:Pos}
def UY:PA X [] Xe:=λ_ _ _ _ H Q I h=>Calls.spliced_nil ⟨[],H,I,.nil,h⟩
def Uc(r:PE X e te)(q:PA X es t)(p:autoParam (starEach (e::es) X.env=(false,eval e X.env)::starEach es X.env) au_0):PA X (e::es) (UJ te t):=by
 intro pos pins s b H Q I h;rw[p];refine Calls.spliced_cons (thn (r pins s b H _ I h) ?_);rintro u f ⟨x,z,w,l,o⟩;exact thn (q pos pins f b z _ w o) λA B ⟨xs,y,v,g,n⟩=>⟨x::xs,y,v,.cons l g,n⟩
noncomputable def Er(t:TA):TE:=λf H Q=>t f H λxs b=>xs.length<=sizeLine/\∀p,b p=none->Q (.ref p) (upd b p<|.tup xs)
noncomputable def NP(t:TA):TE:=λf H Q=>t f H λxs b=>xs.length<=sizeLine/\∀p,b p=none->Q (.ref p) (upd b p<|.lst xs)
def Tn(h:PA X es t):PE X (.Tuple es p pos) (Er t):=by
 intro pins s l H Q I hq;refine wpAny_Tuple_spliced (thn (h pos pins s l H _ I hq) ?_);rintro n f ⟨xs,o,g,r,z,q⟩;refine⟨by rw[←r.length];exact z,?_⟩;refine⟨.ref f.heap.objs.size,upd o f.heap.objs.size (.tup xs),g.laid (λb u e=>YX _ e) (Wf _) ?_,rfl,q _ (g.hok.fresh<|Wf _)⟩;exact⟨z,n,r,⟨_,Wl _ rfl,rfl,_,rfl⟩⟩
def X4(h:PA X es t):PE X (.List es pos) (NP t):=by
 intro pins s l H Q I hq;refine wpAny_List_spliced (thn (h pos pins s l H _ I hq) ?_);rintro n f ⟨xs,o,g,r,z,q⟩;refine⟨by rw[←r.length];exact z,?_⟩;refine⟨.ref f.heap.objs.size,upd o f.heap.objs.size (.lst xs),g.laid (λb u e=>YX _ e) (Wf _) ?_,rfl,q _ (g.hok.fresh<|Wf _)⟩;exact⟨z,n,0,r,Wl _ rfl⟩
end
abbrev Sp:=List V->Hp->VK->XK->Prop
abbrev CXT:=List Env->Hp->Shared->XK->Ya
structure KB (P:Program) (w:World) (K:ZV) (mg:ZZ) (base:Heap) (A:Around) (outer:List Env) (s:Shared) (H:Hp):Prop where
 frames:A.frames=some outer
 mod:Mod K mg base
 bs:∀b o,base.get? b=some o->s.heap.get? b=some o/\H b=none
 bsz:base.objs.size<=s.heap.objs.size
 funs:s.heap.FunFrames base outer
 frf:∀b∈frs outer,H b=none
 hok:HOk P w H s.heap
 bare:AllBare s.gens
def CE(outer:List Env)(P:Program)(w:World)(H:Hp)(s:Shared)(Q:VK)(u:Value)(b:Shared):Prop:=
 ∃v f,b.os=s.os/\AllBare b.gens/\Un (frs outer) [] H f s.heap b.heap/\HOk P w f b.heap/\RelV v u/\Q v f
def CR(CX:CXT)(outer:List Env)(P:Program)(w:World)(H:Hp)(s:Shared)(Q:VK)(E:XK)(r:Result)(b:Shared):Prop:=
 match r with
 | .ok (.ret u)=>CE outer P w H s Q u b
 | .ok _=>False
 | .error e=>CX outer H s E e b
structure UN (P:Program) (w:World) (K:ZV) (mg:ZZ) (base:Heap) (CX:CXT) (k:Nat) (f:Addr) (fd:FuncData) (ps:Ye) (sp:Sp):Prop where
 len:∀vs H Q E,sp vs H Q E->vs.length=ps.length
 run:∀(A:Around) (outer:List Env) (s:Shared) (H:Hp) (args:Args) (us:Yd) (vs:List V) (Q:VK) (E:XK),JZ k A->KB P w K mg base A outer s H->BindsTo s fd args (ps.zip us)->Vals vs us->sp vs H Q E->
  codeAny (model P w) A (.call (.ref f) args) (CR CX outer P w H s Q E) s
def UN.imp {K g base CX k f l ps sp b} (F:UN P w K g base CX k f l ps sp)
  (h:∀vs H Q E,b vs H Q E->sp vs H Q E):UN P w K g base CX k f l ps b:=
 ⟨λvs H Q E q=>F.len vs H Q E (h _ _ _ _ q),λA outer s H args n vs Q E r u v o p=>F.run A outer s H args n vs Q E r u v o (h _ _ _ _ p)⟩
def KB.make {K b base A outer s H} (e:KB P w K b base A outer s H) (C:Addr) (us:Yd) (f:List (Str×Value)) :
  KB P w K b base (A.under<|.builtin "type.__call__" ⟨.ref C::us,f⟩) outer s H:=⟨by first|exact e.frames|(simpa [Around.under,Code.envs,Code.isFrame,pushEnvs]using e.frames),e.mod,e.bs,e.bsz,e.funs,e.frf,e.hok,e.bare⟩
section
variable {X:Cx}{pins:ZY}{σ:St}{H:Hp}{s s':Shared}
def Inv.env0 (I:Inv X pins σ H s):KB X.prog X.w X.K X.mg X.base X.A X.stack s H:=
 ⟨I.ok.frames,I.ok.mod,I.bs,Wi I.ok.bsz I.sz,I.stack,I.stkFree,I.hok,I.bare⟩
def Inv.after (I:Inv X pins σ H s) (h:CE X.stack X.prog X.w H s Q u s'):EP X pins σ Q u s':=by
 obtain⟨v,n,os,bare,un,f,r,q⟩:=h;obtain⟨o,g,d,t,l⟩:=s';obtain rfl:=os;exact⟨v,n,I.call un f bare (λb z=>absurd z (by simp)),r,q⟩
end
noncomputable def PM(sp:Sp)(b:List V)(E:XK)(t:TA):TE:=λf H Q=>t f H λg h=>sp (g++b) h Q E
noncomputable def K0(C:Addr)(m:Str)(sp:Sp)(b:List V)(E:XK)(l:TE)(t:TA):TE:=λf H Q=>l f H λx g=>∃a n fs,x=.ref a/\g a=some (.ins C n fs)/\fs.lookup m=none/\
 t f g λh o=>sp (x::(h++b)) o Q E
noncomputable def SG(C:Addr)(sp:Sp)(f:List V)(E:XK)(t:TA):TE:=λh H Q=>t h H λl g=>∀x b,g x=none->g b=none->b≠x->
 sp (.ref x::(l++f)) (upd (upd g b<|.own x) x<|.ins C b []) (λv n=>v=.non/\Q (.ref x) n) E
def Binds(K:ZV)(f:FuncData)(ps:Ye)(ds:Yd):Prop:=
 ∀(s:Shared) (b:Yd),K.In s.heap->(b++ds).length=ps.length->BindsTo s f ⟨b,[]⟩ (ps.zip (b++ds))
def Binds.all {K f ps} (h:∀us,us.length=ps.length->bindArgs f ⟨us,[]⟩=pure (ps.zip us)):Binds K f ps []:=λs us _ b=>by
 rw[WC]at b ⊢;exact .of_eq (h us b)
def Xj(CX:CXT)(X:Cx)(E:XK):Prop:=∀(pins:ZY) (f:St) (H:Hp) (s:Shared) (e:Value) (b:Shared),Inv X pins f H s->CX X.stack H s E e b->X.xe e b
section
variable {X:Cx}{CX:CXT}{k:Nat}{f C:Addr}{fd:FuncData}{ps:Ye}{sp:Sp}{dvs:List V}{ds:Yd}{E:XK}{x m:Str}{p pos apos:Pos}{e o:Expr}{es:Yf}{ta:TE}{t:TA}
def Sl{b:St}{H}{s}{Q}{us}{vs}(F:UN X.prog X.w X.K X.mg X.base CX k f fd ps sp)(n:JZ k X.A)(y:Binds X.K fd ps ds)(v:Vals dvs ds)(hx:Xj CX X E)(I:Inv X pins b H s)(r:Vals vs us)(h:sp (vs++dvs) H Q E):wpAny (model X.prog X.w) X.A (call (.ref f) us) (EP X pins b Q) X.xe s:=by
 have g:=r.append v;have q:(us++ds).length=ps.length:=by rw[←g.length];exact F.len _ _ _ _ h
 refine Vg (Qd (F.run X.A X.stack s H ⟨us,[]⟩ (us++ds) (vs++dvs) Q E n I.env0 (y s us I.kIn q) g h) λr l hq=>?_);cases r with
 |error e=>exact hx pins b H s e l I hq
 |ok z=>
  cases z with
  |ret u=>exact I.after hq
  |cont=>exact False.elim hq
  |_=>trivial
def HM(F:UN X.prog X.w X.K X.mg X.base CX k f fd ps sp)(u:JZ k X.A)(z:Gl X x)(v:X.mg x=some (.ref f))(y:PySem.W.keepIn X.K (.ref f)=true)(J:Binds X.K fd ps ds)(G:Vals dvs ds)(hx:Xj CX X E)(L:PA X (e::es) t)(g:autoParam ((x==("__debug__" : Str))=false) au_1)(B:autoParam (starEach (e::es) X.env=(false,eval e X.env)::starEach es X.env) au_0)(b:autoParam ((backTo pos<|starEach es X.env).any (·.1)=false) au_0) :
  PE X (.Call (.Name x p) (e::es) [] pos) (PM sp dvs E t):=by
 intro pins s n H Q I h;refine Qw (KI I z v ?_ g);refine QE I.ok.mod.kin y (thn (L pos pins s n H _ I h) ?_) B b;rintro N T ⟨M,U,l,r,q⟩;refine⟨l.kIn,?_⟩;exact Sl F u J G hx l r q
def HV{pl}(T:PE X o ta)(c:Cls X.K C)(y:Up X.K C m f)(F:UN X.prog X.w X.K X.mg X.base CX k f fd ps sp)(N:JZ k X.A)(Y:Binds X.K fd ps ds)(U:Vals dvs ds)(hx:Xj CX X E)(ha:PA X (e::es) t)(b:autoParam (starEach (e::es) X.env=(false,eval e X.env)::starEach es X.env) au_0)(g:autoParam ((backTo pos<|starEach es X.env).any (·.1)=false) au_0)
  (M:autoParam (eval (.Call (.Attribute o m apos) (e::es) [] pos) X.env=(do
   let v ←eval o X.env
   standAt apos.atName
   let (f,first) ←holding [v] (getMethod v m pl)
   callWith pos f first (backTo pos<|starEach (e::es) X.env) (backToKw pos<|keywordEach [] X.env))) au_0) :
  PE X (.Call (.Attribute o m apos) (e::es) [] pos) (K0 C m sp dvs E ta t):=by
 intro pins s n H Q I h;refine Vb (thn (T pins s n H _ I h) ?_) M;rintro u G ⟨x,H1,B,J,a,dx,fs,ex,ea,l,q⟩;subst ex;obtain rfl:=J;refine BC B ea c y l ?_;refine QE I.ok.mod.kin y.kp (thn (ha pos pins G n H1 _ B q) ?_) b g;rintro us s2 ⟨vs,H2,z,r,L⟩;refine⟨z.kIn,?_⟩;exact Sl (vs:=.ref a::vs) F N Y U hx z (.cons rfl r) L
def EC(B:PE X o ta)(c:Cls X.K C)(n:Up X.K C m f)(F:UN X.prog X.w X.K X.mg X.base CX k f fd ps sp)(z:JZ k X.A)(J:Binds X.K fd ps ds)(G:Vals dvs ds)(hx:Xj CX X E)
  (y:autoParam (eval (.Call (.Attribute o m apos) [] [] pos) X.env=(do
   let g ←eval o X.env
   standAt apos.atName
   let (f,first) ←holding [g] (getMethod g m T)
   callWith pos f first (backTo pos<|starEach [] X.env) (backToKw pos<|keywordEach [] X.env))) au_0) :
  PE X (.Call (.Attribute o m apos) [] [] pos) (K0 C m sp dvs E ta Xe):=by
 intro pins s r H Q I h;refine Vb (thn (B pins s r H _ I h) ?_) y;rintro u N ⟨x,Y,b,v,a,U,fs,L,M,l,q⟩;subst L;obtain rfl:=v;refine BC b M c n l ?_;exact PySem.W.callWith_K0 b.kIn n.kp (Sl (vs:=[.ref a]) F z J G hx b (.cons rfl .nil) q)
structure Mk (K:ZV) (C f:Addr):Prop where
 makes:PySem.W.makesIn K C=true
 init:PySem.W.findIn K (.ref C) "__init__"=some (some<|.ref f)
 fn:PySem.W.isFn K (.ref f)=true
 kp:PySem.W.keepIn K (.ref C)=true
def RB{n:St}{H}{s}{Q}{us}{vs}(M:Mk X.K C f)(F:UN X.prog X.w X.K X.mg X.base CX k f fd ps sp)(G:JZ (k+1) X.A)(N:Binds X.K fd ps ds)(L:Vals dvs ds)(hx:Xj CX X E)(I:Inv X pins n H s)(r:Vals vs us)(h:∀x g,H x=none->H g=none->g≠x->sp (.ref x::(vs++dvs)) (upd (upd H g<|.own x) x<|.ins C g []) (λv H2=>v=.non/\Q (.ref x) H2) E) :
  wpAny (model X.prog X.w) X.A (call (.ref C) us) (EP X pins n Q) X.xe s:=by
 have hq:=h (s.heap.objs.size+1) s.heap.objs.size (I.hok.fresh<|Qy _) (I.hok.fresh<|Wf _) (Wt<|QX _);have l:=Inv.made (C:=C) I;have q:Vals (V.ref (s.heap.objs.size+1)::(vs++dvs)) (Value.ref (s.heap.objs.size+1)::(us++ds)):=.cons rfl (r.append L)
 have J:(Value.ref (s.heap.objs.size+1)::us++ds).length=ps.length:=by
  have e:=q.length;rw[F.len _ _ _ _ hq]at e
  grind
 refine Vg (IT I.kIn M.makes M.init (beq_iff_eq.mp M.fn) (Qd (F.run _ X.stack _ _ ⟨Value.ref (s.heap.objs.size+1)::us,[]⟩ (Value.ref (s.heap.objs.size+1)::(us++ds)) _ _ E (G.make C us [])
  (l.env0.make C us []) (N _ (Value.ref (s.heap.objs.size+1)::us) l.kIn J) q hq) λr y b=>?_))
 cases r with
 |error e=>exact hx pins n _ _ e y l b
 |ok T=>
  cases T with
  |ret u=>
   obtain⟨v,H',Y,z,U,B⟩:=l.after b;subst U;exact⟨z,⟨V.ref (s.heap.objs.size+1),H',Y,rfl,B⟩⟩
  |_=>exact False.elim b
def Gc(M:Mk X.K C f)(F:UN X.prog X.w X.K X.mg X.base CX k f fd ps sp)(u:JZ (k+1) X.A)(y:Gl X x)(v:X.mg x=some (.ref C))(G:Binds X.K fd ps ds)(B:Vals dvs ds)(hx:Xj CX X E)(J:PA X (e::es) t)(g:autoParam ((x==("__debug__" : Str))=false) au_1)(z:autoParam (starEach (e::es) X.env=(false,eval e X.env)::starEach es X.env) au_0)(b:autoParam ((backTo pos<|starEach es X.env).any (·.1)=false) au_0) :
  PE X (.Call (.Name x p) (e::es) [] pos) (SG C sp dvs E t):=by
 intro pins s n H Q I h;refine Qw (KI I y v ?_ g);refine QE I.ok.mod.kin M.kp (thn (J pos pins s n H _ I h) ?_) z b;rintro N T ⟨L,U,l,r,q⟩;refine⟨l.kIn,?_⟩;exact RB M F u G B hx l r q
end
structure JY (N P:Ye) (sc:Scope):Prop where
 kind:sc.kind=.function
 co:sc.isCoroutine=false
 gen:sc.isGenerator=false
 nd:N.Nodup
 pre:N.take P.length=P
 par:∀x∈P,sc.names.lookup x=some .local\/sc.names.lookup x=some .cell
 nofree:∀y∈sc.names,y.2≠.free
theorem BH{kindOf x}:∀{binds}{m:ZZ},(∀v,(x,v)∉binds)->bindL kindOf binds m x=m x
 |[],_,_=>rfl
 |(n,v)::r,m,h=>by
  unfold bindL;rw[BH λw hw=>h w (Wm _ hw)];split
  ·grind
  ·rfl
theorem AI{kindOf x}:∀{binds}{m:ZZ},(∀v,(x,v)∉binds)->bindC kindOf binds m x=m x
 |[],_,_=>rfl
 |(n,v)::r,m,h=>by
  unfold bindC;rw[AI λw hw=>h w (Wm _ hw)];split
  ·rfl
  ·grind
theorem AE{kindOf}{x}{v}:∀{P:Ye}{vs}{i:Nat}{m:ZZ},P.Nodup->P[i]?=some x->vs[i]?=some v->kindOf x=some .local->
  bindL kindOf (P.zip vs) m x=some v
 |[],_,_,_,_,h,_,_|_::_,[],_,_,_,_,h,_=>by simp at h
 |p::P,w::vs,0,m,b,l,g,f=>by
  simp at l g;subst l;subst g;show bindL kindOf ((p,w)::P.zip vs) m p=_;unfold bindL;rw[BH λv n=>(WO.mp b).1 (List.of_mem_zip n).1,Wc f];simp
 |p::P,w::vs,i+1,m,b,l,g,f=>by
  unfold bindL;exact AE (WO.mp b).2 (by trivial) (by grind) f
theorem As{kindOf}{x}{v}:∀{P:Ye}{vs}{i:Nat}{m:ZZ},P.Nodup->P[i]?=some x->vs[i]?=some v->kindOf x≠some .local->
  bindC kindOf (P.zip vs) m x=some v
 |[],_,_,_,_,h,_,_|_::_,[],_,_,_,_,h,_=>by simp at h
 |p::P,w::vs,0,m,b,l,g,f=>by
  simp at l g;subst l;subst g;show bindC kindOf ((p,w)::P.zip vs) m p=_;unfold bindC;rw[AI λv n=>(WO.mp b).1 (List.of_mem_zip n).1,YV f];simp
 |p::P,w::vs,i+1,m,b,l,g,f=>by
  unfold bindC;exact As (WO.mp b).2 (by trivial) (by grind) f
noncomputable def start(N:Ye)(vs:List V):St:=vs.map some++List.replicate (N.length-vs.length) none
noncomputable def U1(CX:CXT)(P:Program)(w:World)(K:ZV)(mg:ZZ)(base:Heap)(N:Ye)(qual:Str)(scope:Scope)(f:Addr)(cd:Value)(A:Around)(outer:List Env)(s:Shared)(H:Hp)(E:XK):Cx where
 prog:=P
 w:=w
 K:=K
 mg:=mg
 base:=base
 A:=A.deeper (envOfC qual scope s.heap.objs.size f cd)
 N:=N
 s₀:=s
 H₀:=H
 env:=envOfC qual scope s.heap.objs.size f cd
 outer:=outer
 stack:=envOfC qual scope s.heap.objs.size f cd::outer
 ex:=[]
 calm:=true
 fn:=λ_=>true
 pn:=[]
 xe:=λe s'=>wpAny (model P w) (A.deeper<|envOfC qual scope s.heap.objs.size f cd) (leaving (envOfC qual scope s.heap.objs.size f cd) e) (λ_ s''=>CX outer H s E e s'') (λe' s''=>CX outer H s E e' s'') s'
def BU{b:Scope}{n}{x}(h:b.names.lookup x=some .cell):∃c,(cellsFrom n b.names []).lookup x=some c:=by
 exact Option.isSome_iff_exists.mp (PySem.W.cellsFrom_some b.names n []<|.inl h)
def R3{P}{w}{K}{mg}{base}{N ps}{qual}{scope}{f}{cd}{A}{outer}{s L}{H}{E}{us}{vs}(S:JY N ps scope)(Y:A.handled=none)(l:KB P w K mg base A outer s H)(hl:vs.length=ps.length)(r:Vals vs us)(x:InCallC s s.heap.objs.size (bindL (envOfC qual scope s.heap.objs.size f cd).kindOf (ps.zip us) λ_=>none) (cellsFrom (s.heap.objs.size+1) scope.names []) (bindC (envOfC qual scope s.heap.objs.size f cd).kindOf (ps.zip us) λ_=>none) L) :
  Inv (U1 CX P w K mg base N qual scope f cd A outer s H E) [] (start N vs) H L:=by
 have U:ps.length<=N.length:=by have:=W2 List.length S.pre;rw[WS]at this;lia
 obtain⟨J,tk,rfl,Q⟩:=x.done;have n:∀b,b∉(U1 CX P w K mg base N qual scope f cd A outer s H E).ex:=λb z=>absurd (show b∈([]:List Addr)from z) (by simp)
 refine⟨⟨l.mod,S.kind,rfl,rfl,Wf _,λy z c J g=>?_,λy o=>?_,λy c _ h=>?_,λ_=>Y,Around.frames_deeper l.frames,.inr ⟨rfl,rfl⟩,λb z=>absurd z (n b),l.bs,l.bsz,λb _ _=>n b,λb z=>absurd z (n b),l.funs,l.frf⟩,
  rfl,l.bare,Un.kept Q,⟨_,x.toInCall.ns,λi y v J g h3=>?_⟩,λy c h=>⟨_,x.cell y c h⟩,l.hok.fresh (Wf _),λy c h=>?_,λp C=>absurd (show p∈([]:ZY)from C) (by simp),l.hok.kept Q,?_⟩
 ·exact name_of_addr x.apart (Qa J) (Qa g)
 ·have o:=o;rcases o with o|o
  ·exact BU o
  ·exact absurd rfl (S.nofree _<|Qa o)
 ·exact QD (x.above y c<|Qa h)
 ·have G:i<vs.length:=by
   unfold start at g;by_cases G:i<vs.length
   ·exact G
   ·rw[W5 (by simpa using G)]at g;rw[QN]at g;split at g<;>cases g
  have ha:vs[i]?=some v:=by
   unfold start at g;rw[W1 (by simpa using G),Wh]at g;cases e:vs[i]? with
   |none=>rw[e]at g;cases g
   |some a=>rw[e]at g;cases g;rfl
  obtain⟨u,M,T⟩:=r.get ha
  have C:ps[i]?=some y:=by
   rw[←S.pre,List.getElem?_take_of_lt (by lia)];exact J
  have B:ps.Nodup:=by rw[←S.pre];exact S.nd.sublist (Vs _ _)
  refine⟨u,T,?_⟩;rcases S.par y (Wj C)with k|k
  ·exact .inl ⟨k,AE B C M k⟩
  ·obtain⟨c,e⟩:=BU k;refine .inr ⟨.inl k,c,e,?_⟩;have q:=x.cell y c e;rw[As B C M (by show scope.names.lookup y≠_;rw[k];decide)]at q;exact q
 ·exact l.hok.fresh (QD<|x.above y c<|Qa h)
 ·unfold start;show _=N.length;rw[Wv,YU,List.length_replicate];lia
def B4{K M base k f name qual params body scope dV kV L pm g ct oc an od Y N ps sp}(lk:K.lookup f=some ⟨oc,od,.func (PySem.W.fnOf name qual params body scope dV kV L pm an g ct),Y⟩)(hcd:PySem.W.codeIn K g qual=true)(S:JY N ps scope)(len:∀vs H Q E,sp vs H Q E->vs.length=ps.length)
  (p:∀A outer s H vs Q E,JZ k (A.deeper<|envOfC qual scope s.heap.objs.size f g)->sp vs H Q E->
   ∃t,PSs (U1 CX P w K M base N qual scope f g A outer s H E) body t/\t {nx:=λ_ H'=>Q .non H',rt:=Q} (start N vs) H) :
  UN P w K M base CX (k+1) f (PySem.W.fnOf name qual params body scope dV kV L pm an g ct) ps sp:=by
 refine⟨len,λA outer s H args us vs Q E hr G hb r z=>?_⟩;have KX:=G.mod.kin.keeps λb o e=>(G.bs b o e).1
 have l:∀y∈ps.zip us,scope.names.lookup y.1=some .local\/(scope.names.lookup y.1=some .cell/\((cellsFrom (s.heap.objs.size+1) scope.names []).lookup y.1).isSome=true):=λ⟨n,v⟩ hy=>by
  rcases S.par n (List.of_mem_zip hy).1 with q|q
  ·exact .inl q
  ·exact .inr ⟨q,PySem.W.cellsFrom_some _ _ _ (.inl q)⟩
 refine codeAny_call_function hr.depth (KX _ _ lk) rfl S.co S.gen rfl (PySem.W.codeRec_of KX hcd) (hb _ _ _ _ ?_);refine wpAny_newFunctionEnv_cells S.kind l λenv he s1 x=>?_;subst he;refine⟨(G.mod.nolimit.keeps λb o e=>(G.bs b o e).1).keeps x.toInCall.keep,codeAny_func ?_⟩;obtain⟨t,ht,hq⟩:=p A outer s H vs Q E (hr.deeper _) z;have I:Inv (U1 CX P w K M base N qual scope f g A outer s H E) [] (start N vs) H s1:=R3 S hr.hd G (len _ _ _ _ z) r x;refine Wx (ht [] s1 (start N vs) H _ I hq) (λfl T B=>?_) λe T B=>B
 have C:∀{h:St} {H':Hp} {v:V} {u:Value},Inv (U1 CX P w K M base N qual scope f g A outer s H E) [] h H' T->RelV v u->Q v H'->CE outer P w H s Q u T:=
  λ{h H' v u} J U q=>⟨v,H',J.os,J.bare,J.base,J.hok,U,q⟩
 cases fl with
 |ret u=>
  obtain⟨v,h,H',J,U,q⟩:=B;exact C J U q
 |next=>
  obtain⟨h,H',J,q⟩:=B;exact C (v:=V.non) J rfl q
 |_=>
  obtain⟨_,_,_,q⟩:=B;exact False.elim q
section
variable {X:Cx}{x:Str}{p pos:Pos}{e:Expr}{es:Yf}{t:TA}{id T:String}{r:List V->Hp->VK->Prop}
noncomputable def tCB(r:List V->Hp->VK->Prop)(t:TA):TE:=λb H Q=>t b H λf g=>r f g Q
def Ul(B:X6 X (.builtin id) r)(z:Gl X x)(y:X.mg x=none)(v:bootBuiltins x=some (.builtin id))(C:PA X (e::es) t)(w:autoParam (x≠"__name__") au_1)(f:autoParam ((x==("__debug__" : Str))=false) au_1)(A:autoParam (starEach (e::es) X.env=(false,eval e X.env)::starEach es X.env) au_0)(b:autoParam ((backTo pos<|starEach es X.env).any (·.1)=false) au_0):PE X (.Call (.Name x p) (e::es) [] pos) (tCB r t):=by
 intro pins s g H Q I h;refine Qw (Nq I z y v ?_ w f);exact PyProof.Rows.callWith_builtin1 (thn (C pos pins s g H _ I h) λn o ⟨l,G,E,q,u⟩=>B pins o g G l n Q E q u) A b
def Pr(B:X6 X (.type T) r)(z:Gl X x)(y:X.mg x=none)(v:bootBuiltins x=some (.type T))(C:PA X (e::es) t)(w:autoParam (x≠"__name__") au_1)(f:autoParam ((x==("__debug__" : Str))=false) au_1)(A:autoParam (starEach (e::es) X.env=(false,eval e X.env)::starEach es X.env) au_0)(b:autoParam ((backTo pos<|starEach es X.env).any (·.1)=false) au_0):PE X (.Call (.Name x p) (e::es) [] pos) (tCB r t):=by
 intro pins s g H Q I h;refine Qw (Nq I z y v ?_ w f);exact PyProof.Rows.callWith_type1 (thn (C pos pins s g H _ I h) λn o ⟨l,G,E,q,u⟩=>B pins o g G l n Q E q u) A b
end
end L2
namespace HT
open PySem PyProof.Rows
section
variable {prog:Program}{w:World}{A:Around}{E:Ya}{s:Shared}
noncomputable def sIx(n d:Nat):Option Int->Nat
 |none=>d
 |some v=>if v<0 then(v+(n:Int)).toNat else min v.toNat n
def DZ(n d:Nat):sIx n d none=d:=rfl
def Dk(n d k:Nat):sIx n d (some (k:Int))=min k n:=rfl
end
end HT
namespace L2
abbrev TO:=St->Hp->(Option Int->Hp->Prop)->Prop
def PO(X:Cx)(e:Option Expr)(t:TO):Prop:=
 ∀(pins:ZY) (s:Shared) (b:St) (H:Hp) (Q:Option Int->Hp->Prop),Inv X pins b H s->t b H Q->
  wpAny (model X.prog X.w) X.A (evalPart e X.env) (λu g=>∃o f,Inv X pins b f g/\IsPart u o/\Q o f) X.xe s
noncomputable def F7:TO:=λ_ H Q=>Q none H
noncomputable def Am(t:TE):TO:=λb H Q=>t b H λx f=>∃i,x=.int i/\Q (some i) f
def Eo:∀{us:Yd},Vals (ns.map V.int) us->IntsAre us ns:=by
 induction ns with
 |nil=>intro us r;rw[Vx]at r;cases r;exact .nil
 |cons n ns g=>
  intro us r;cases r with
  |cons f b=>
   obtain⟨t,e⟩:=f;subst e;exact .cons n t (g b)
section
variable {X:Cx}{e:Expr}{te:TE}{lo hi:Option Expr}{tl th:TO}{pos p2:Pos}
def Ez:PO X none F7:=by
 intro pins s b H Q I h;exact Wb ⟨none,H,I,.none,h⟩
def IC(h:PE X e te):PO X (some e) (Am te):=by
 intro pins s b H Q I hw;refine thn (h pins s b H _ I hw) ?_;rintro u o ⟨x,n,l,f,g⟩;obtain⟨i,rfl,q⟩:=g;obtain⟨t,rfl⟩:=f;exact⟨some i,n,l,.int i t,q⟩
def SlR(X:Cx)(r:V->Option Int->Option Int->Hp->VK->Prop):Prop:=
 ∀(pins:ZY) (s:Shared) (b:St) (H:Hp) (x:V) (v g f:Value) (lo hi:Option Int) (sl:Addr) (Q:VK),Inv X pins b H s->RelV x v->s.heap.IsSliceOf sl g f .none->IsPart g lo->IsPart f hi->r x lo hi H Q->
  ∃T id,typeLookup (.type T) "__getitem__"=pure (some<|.builtin id)/\s.TypeIs v T/\wpAny (model X.prog X.w) X.A (getItem v<|.ref sl) (EP X pins b Q) X.xe s
noncomputable def tSl(r:V->Option Int->Option Int->Hp->VK->Prop)(te:TE)(tl th:TO):TE:=λb H Q=>te b H λx h=>tl b h λl g=>th b g λu f=>r x l u f Q
def G3(M:SlR X r)(Y:PE X e te)(N:PO X lo tl)(J:PO X hi th):PE X (.Subscript e (.Slice lo hi none p2) pos) (tSl r te tl th):=by
 intro pins s f H Q I h;refine Subscript_ (thn (Y pins s f H _ I h) ?_);rintro v y ⟨x,H1,I1,z,C⟩;refine wpAny_Slice (thn (N pins y f H1 _ I1 C) ?_);rintro o w ⟨l,H2,I2,G,B⟩;refine thn (J pins w f H2 _ I2 B) ?_;rintro n g ⟨u,p,I3,E,A⟩;refine Wb ?_;have I4:Inv X pins f p {g with heap:=g.heap.push {cls:=.type "slice",data:=.fields #[o,n,.none]}}:=I3.kept λb ob q=>YX _ q
 obtain⟨T,id,hT,L,U⟩:=M pins {g with heap:=g.heap.push {cls:=.type "slice",data:=.fields #[o,n,.none]}} f p x v o n l u g.heap.objs.size Q I4 z (Heap.IsSliceOf.new ..) G E A
 exact tail_any L hT U rfl
noncomputable def PV(xs:List V)(lo hi:Option Int):List V:=(xs.drop<|HT.sIx xs.length 0 lo).take (HT.sIx xs.length xs.length hi-HT.sIx xs.length 0 lo)
def Ma(xs:List V)(lo hi:Option Int):(PV xs lo hi).length<=xs.length:=by
 unfold PV
 grind
end
noncomputable def ixN(n:Nat)(i:Int):Option Nat:=if 0<=i then(if i<n then some i.toNat else none)else if -(n:Int)<=i then some (i+n).toNat else none
noncomputable def atI{b:Type}(xs:List b)(i:Int):Option b:=(ixN xs.length i).bind λj=>xs[j]?
def OJ(h:ixN n i=some j):seqIndex? i n=some j/\j<n/\-(n:Int)<=i/\i<n:=by
 unfold ixN at h;by_cases f:0<=i
 ·rw[Wc f]at h;by_cases b:i<n
  ·rw[Wc b]at h;have e:=Wg h;exact⟨by rw[seqIndex_of f b,e],by lia,by lia,b⟩
  ·grind
 ·rw[YV f]at h;by_cases b:-(n:Int)<=i
  ·rw[Wc b]at h;have e:=Wg h;exact⟨by rw[seqIndex_neg (by lia) b,e],by lia,b,by lia⟩
  ·grind
def F1(h:atI xs i=some v):∃j,seqIndex? i xs.length=some j/\xs[j]?=some v/\j<xs.length/\-(xs.length:Int)<=i/\i<xs.length:=by
 unfold atI at h;cases e:ixN xs.length i with
 |none=>grind
 |some j=>
  obtain⟨l,g,f,b⟩:=OJ e
  grind
def Ex{j:Nat}{v}(h:xs[j]?=some v):atI xs (j:Int)=some v:=by
 have e:ixN xs.length (j:Int)=some j:=by
  unfold ixN
  grind
 unfold atI;rw[e];exact h
def Ss(b:Expr):Prop:=∀o i,subscripted b false o i=operate [o,i] (getItem o i)
def IxR(X:Cx)(r:R2):Prop:=
 ∀(value slice:Expr) (pins:ZY) (s:Shared) (b:St) (H:Hp) (x y:V) (v u:Value) (Q:VK),Inv X pins b H s->RelV x v->RelV y u->r x y H Q->
  subscripted slice false v u=operate [v,u] (getItem v u)->wpAny (model X.prog X.w) X.A (subscriptTail value slice v u) (EP X pins b Q) X.xe s
def MtR(X:Cx)(id:String)(r:V->List V->Hp->VK->Prop):Prop:=
 ∀(pins:ZY) (s:Shared) (b:St) (H:Hp) (x:V) (xs:List V) (v:Value) (f:Yd) (Q:VK),Inv X pins b H s->RelV x v->Vals xs f->r x xs H Q->
  wpAny (model X.prog X.w) X.A (call (.builtin id) (v::f)) (EP X pins b Q) X.xe s
section
variable {X:Cx}{a b:Expr}{ta tb:TE}{pos:Pos}
def IxR.or (h:IxR X r) (p:IxR X o):IxR X (λx y H Q=>r x y H Q\/o x y H Q):=by
 intro value slice pins s f H x y v u Q I l g q n;rcases q with q|q
 ·exact h value slice pins s f H x y v u Q I l g q n
 ·exact p value slice pins s f H x y v u Q I l g q n
def M7(p:IxR X r)(z:PE X a ta)(w:PE X b tb)(o:Ss b):PE X (.Subscript a b pos) (tOp r ta tb):=by
 intro pins s f H Q I h;exact Subscript_ (SS z w I h λv u g x y B A n l q=>p a b pins g f B x y v u Q A n l q (o _ _))
noncomputable def KO(K:ZV):R2:=λx y H Q=>∃p xs i v,x=.ref p/\y=.int i/\SqL K H p xs/\atI xs i=some v/\Q v H
noncomputable def KS(K:ZV):R2:=λx y H Q=>∃p xs i v,x=.ref p/\y=.int i/\SqT K H p xs/\atI xs i=some v/\Q v H
def ix_list:IxR X (KO X.K):=by
 intro value slice pins s G H x y v u Q I L J h B;obtain⟨p,xs,i,z,rfl,rfl,hq,N,q⟩:=h;cases L
 obtain⟨t,rfl⟩:=J;obtain⟨o,r,n,hz⟩:=I.list hq;obtain⟨j,g,Y,h3,U,T⟩:=F1 N;obtain⟨w,E,l⟩:=r.get Y;have M:=r.length;have hn:=SU;have f:EP X pins G Q w s:=⟨z,H,I,l,q⟩;by_cases C:0<=i
 ·have A:i.toNat=j:=by
   rw[seqIndex_of C T]at g;exact Wg g
  exact item_listR n.isList C (by lia) (by rw[A];simpa using E) f B
 ·have A:(i+(o.toArray.size:Int)).toNat=j:=by
   rw[seqIndex_neg (by lia) U]at g;rw[Wy,←M];exact Wg g
  exact subscriptTail_builtinR n.isList.typeIs slot_list_getitem.lookup
   (wpAny_getItem_list_neg n.isList (by lia) (by rw[Wy]<;>lia) (by lia) (by rw[A];simpa using E) ⟨rfl,f⟩) B
def RJ:IxR X (KS X.K):=by
 intro value slice pins s n H x y v u Q I A o h C;obtain⟨p,xs,i,z,rfl,rfl,hq,E,q⟩:=h;cases A
 obtain⟨t,rfl⟩:=o;obtain⟨B,r,l,L⟩:=I.tuple hq;obtain⟨j,J,G,U,T,N⟩:=F1 E;obtain⟨w,Y,f⟩:=r.get G;have M:=SU;have g:EP X pins n Q w s:=⟨z,H,I,f,q⟩
 exact subscriptTail_builtinR l.typeIs slot_tuple_getitem.lookup
  (getItem_tuple l (by lia) (by lia) (by rw[Wy,←r.length];exact J) (by grind) ⟨rfl,g⟩) C
def HE(lo f:Option Int)(n:Nat):(sliceBounds lo f none n).1=((HT.sIx n 0 lo:Nat):Int)/\(sliceBounds lo f none n).2.1=((HT.sIx n n f:Nat):Int)/\(sliceBounds lo f none n).2.2=1:=by
 refine⟨?_,?_,rfl⟩
 ·cases lo with
  |none=>simp[sliceBounds,HT.sIx]
  |some i=>
   simp only[sliceBounds,HT.sIx,Option.getD_none,show(1:Int)>0 by decide,if_true];by_cases h:i<0
   ·grind
   ·simp only[h,if_false]<;>lia
 ·cases f with
  |none=>simp[sliceBounds,HT.sIx]
  |some i=>
   simp only[sliceBounds,HT.sIx,Option.getD_none,show(1:Int)>0 by decide,if_true];by_cases h:i<0
   ·simp only[h,if_true]<;>lia
   ·simp only[h,if_false]<;>lia
def IJ(f:Yd)(lo g:Option Int):slicePick f.toArray lo g none=((f.drop<|HT.sIx f.length 0 lo).take (HT.sIx f.length f.length g-HT.sIx f.length 0 lo)).toArray:=by
 obtain⟨n,l,h⟩:=HE lo g f.toArray.size;unfold slicePick;rw[n,l,h];simp only[sliceRange_one,pick_run,Wy]<;>rfl
def N2(K:ZV):V->Option Int->Option Int->Hp->VK->Prop:=λx lo f H Q=>∃a xs,x=.ref a/\SqL K H a xs/\∀p,H p=none->Q (.ref p) (upd H p<|.lst<|PV xs lo f)
def L6:SlR X (N2 X.K):=by
 intro pins s z H x v B A lo l sl Q I n y p o h;obtain⟨a,xs,rfl,hx,q⟩:=h;cases n
 obtain⟨u,r,g,w⟩:=I.list hx;have f:=r.length;refine⟨"list",_,slot_list_getitem.lookup,g.isList.typeIs,?_⟩;refine wpAny_getItem_list_slice g.isList y p o .none (by simp) ?_ (by grind);rw[IJ,←f];refine⟨.ref s.heap.objs.size,_,I.laid (λb C q=>YX _ q) (Wf _) ?_,rfl,q _ (I.hok.fresh<|Wf _)⟩;exact⟨Wi (Ma xs lo l) w,_,0,(r.drop<|HT.sIx xs.length 0 lo).take (HT.sIx xs.length xs.length l-HT.sIx xs.length 0 lo),Wl _ rfl⟩
noncomputable def UM:V->Bool
 | .non=>true
 | .bl _=>true
 | .int _=>true
 | .str _=>true
 |_=>false
noncomputable def eqV:V->V->Bool
 | .non,.non=>true
 | .bl a,.bl b=>a==b
 | .bl a,.int b=>(if a then 1 else 0)==b
 | .int a,.bl b=>a==(if b then 1 else 0)
 | .int a,.int b=>a==b
 | .str a,.str b=>a==b
 |_,_=>false
def Du{y x u v}(h:RelV y u)(f:RelV x v)(fy:UM y=true)(l:UM x=true):SeqAt.EqAt A s u v (eqV y x):=by
 cases y with
 |non=>
  cases h
  cases x with
  |non=>cases f;exact SeqAt.EqAt.same _
  |bl b=>cases f;exact SeqAt.EqAt.none_bool b
  |int b=>obtain⟨t,rfl⟩:=f;exact SeqAt.EqAt.none_int b t
  |str b=>obtain⟨t,rfl⟩:=f;exact SeqAt.EqAt.none_str b t
  |_=>exact absurd l Wn
 |bl a=>
  cases h
  cases x with
  |non=>cases f;exact SeqAt.EqAt.bool_none a
  |bl b=>cases f;exact SeqAt.EqAt.bool_bool a b
  |int b=>obtain⟨t,rfl⟩:=f;exact SeqAt.EqAt.bool_int a b t
  |str b=>obtain⟨t,rfl⟩:=f;exact SeqAt.EqAt.bool_str a b t
  |_=>exact absurd l Wn
 |int a=>
  obtain⟨g,rfl⟩:=h;cases x with
  |non=>cases f;exact SeqAt.EqAt.int_none a g
  |bl b=>cases f;exact SeqAt.EqAt.int_bool a g b
  |int b=>obtain⟨t,rfl⟩:=f;exact SeqAt.EqAt.int_int a g b t
  |str b=>obtain⟨t,rfl⟩:=f;exact SeqAt.EqAt.int_str a g b t
  |_=>exact absurd l Wn
 |str a=>
  obtain⟨g,rfl⟩:=h;cases x with
  |non=>cases f;exact SeqAt.EqAt.str_none a g
  |bl b=>cases f;exact SeqAt.EqAt.str_bool a g b
  |int b=>obtain⟨t,rfl⟩:=f;exact SeqAt.EqAt.str_int a g b t
  |str b=>obtain⟨t,rfl⟩:=f;exact SeqAt.EqAt.str_str a g b t
  |_=>exact absurd l Wn
 |_=>exact absurd fy Wn
noncomputable def eqU(x:V)(u:Value):Bool:=match u with
 | .none=>eqV .non x
 | .bool b=>eqV (.bl b) x
 | .int i _=>eqV (.int i) x
 | .str z _=>eqV (.str z) x
 |_=>false
def CM{x y u}(r:RelV y u)(f:UM y=true):eqU x u=eqV y x:=by
 cases y with
 |non|bl b=>cases r;rfl
 |int i|str z=>obtain⟨t,rfl⟩:=r;rfl
 |_=>trivial
theorem Tf:∀{xs}{us:Yd},Vals xs us->xs.all UM=true->us.any (eqU x)=xs.any λy=>eqV y x
 |_,_,.nil,_=>rfl
 |y::xs,u::us,.cons r t,f=>by
  rw[QV,W6]at f;rw[Q8,Q8,CM r f.1,Tf t f.2]
theorem P8{x v}(h:RelV x v)(l:UM x=true):∀{xs}{us:Yd},Vals xs us->xs.all UM=true->∀u∈us,SeqAt.EqAt A s u v (eqU x u)
 |_,_,.nil,_=>λu g=>by cases g
 |y::xs,u::us,.cons r t,f=>λn g=>by
  rw[QV,W6]at f;rcases Wk.mp g with rfl|g
  ·rw[CM r f.1];exact Du r h f.1 l
  ·exact P8 h l t f.2 n g
noncomputable def inV(x:V)(xs:List V):Bool:=xs.any λy=>eqV y x
noncomputable def rIn(K:ZV)(neg:Bool):R2:=λx y H Q=>∃p xs,y=.ref p/\(SqL K H p xs\/SqT K H p xs)/\UM x=true/\xs.all UM=true/\Q (.bl (if neg then !inV x xs else inV x xs)) H
def Hj:OpR X (compareOp .In) (rIn X.K false):=by
 intro pins s A H x y v u Q I l o h;obtain⟨p,xs,rfl,hq,n,fs,q⟩:=h;cases o
 rcases hq with hq|hq
 ·obtain⟨f,r,g,z⟩:=I.list hq;refine SeqAt.in_listAt (eqU x) g.isList (λw hw=>P8 l n r fs w (by grind)) ⟨.bl _,H,I,rfl,?_⟩;rwa[show f.toArray.any (eqU x)=f.any (eqU x) by simp,Tf r fs]
 ·obtain⟨f,r,g,z⟩:=I.tuple hq;refine SeqAt.in_tupleAt (eqU x) g (λw hw=>P8 l n r fs w (by simpa using hw)) ⟨.bl _,H,I,rfl,?_⟩;rwa[show f.toArray.any (eqU x)=f.any (eqU x) by simp,Tf r fs]
def EN:OpR X (compareOp .NotIn) (rIn X.K true):=by
 intro pins s A H x y v u Q I l o h;obtain⟨p,xs,rfl,hq,n,fs,q⟩:=h;cases o
 rcases hq with hq|hq
 ·obtain⟨f,r,g,z⟩:=I.list hq;refine SeqAt.notIn_listAt (eqU x) g.isList (λw hw=>P8 l n r fs w (by grind)) ⟨.bl _,H,I,rfl,?_⟩;rwa[show f.toArray.any (eqU x)=f.any (eqU x) by simp,Tf r fs]
 ·obtain⟨f,r,g,z⟩:=I.tuple hq;refine SeqAt.notIn_tupleAt (eqU x) g (λw hw=>P8 l n r fs w (by grind)) ⟨.bl _,H,I,rfl,?_⟩;rwa[show f.toArray.any (eqU x)=f.any (eqU x) by simp,Tf r fs]
def FW:X6 X (.type "list") (λxs H Q=>∃p v,xs=[.ref p]/\(SqL X.K H p v\/SqT X.K H p v)/\∀l,H l=none->Q (.ref l) (upd H l<|.lst v)):=by
 intro pins s N H xs U Q I r h;obtain⟨p,v,rfl,hq,q⟩:=h;obtain⟨u,rfl,T⟩:=vals1 r;cases T
 have C:∀f,Vals v f->v.length<=sizeLine->∀g y,(∀b M,s.heap.get? b=some M->g.get? b=some M)->
   g.get? s.heap.objs.size=some {cls:=.type "list",dict:=none,data:=.seq f.toArray y,slots:=#[]}->EP X pins N Q (.ref s.heap.objs.size) {s with heap:=g}:=λf x A g y z e=>
  ⟨.ref s.heap.objs.size,_,I.laid z (Wf _) (show ObjOk X.prog X.w _ g _ (.lst v)from⟨A,f,y,x,e⟩),rfl,q _ (I.hok.fresh<|Wf _)⟩
 rcases hq with hq|hq
 ·obtain⟨f,x,E,A⟩:=I.list hq;have B:=x.length;obtain⟨o,G,L,n,J⟩:=E.isList;exact call_list_seq p (.inl rfl) G L J (λg y z e=>C f x A g y z e) (by grind)
 ·obtain⟨f,x,E,A⟩:=I.tuple hq;have B:=x.length;obtain⟨o,G,L,n,J⟩:=E;exact call_list_seq p (.inr rfl) G L J (λg y z e=>C f x A g y z e) (by simp only[Wy]<;>lia)
def tyV(K:ZV)(T:String)(x:V)(H:Hp):Prop:=match x with
 | .str _=>T = "str"
 | .int _=>T = "int"
 | .ref p=>(T = "list"/\∃xs,SqL K H p xs)\/(T = "tuple"/\∃o,K.lookup p=some o/\o.cls=.type "tuple"/\o.dict=none)\/
   (T = "dict"/\((∃f,H p=some (.dK f))\/∃f,H p=some (.dT f)))\/(T = "set"/\∃S n,H p=some (.set S n))
 |_=>False
def IG{A:St}{H}{s}{T}{x}{v}(I:Inv X pins A H s)(r:RelV x v)(h:tyV X.K T x H) :
  s.TypeIs v T/\∀a,v=.ref a->∃y,s.heap.get? a=some y/\y.dict=none:=by
 cases x with
 |str z=>
  obtain⟨t,rfl⟩:=r;cases h
  exact⟨typeIs_str s z t,λ_ e=>nomatch e⟩
 |int i=>
  obtain⟨t,rfl⟩:=r;cases h
  exact⟨typeIs_int s i t,λ_ e=>nomatch e⟩
 |ref p=>
  cases r
  rcases h with⟨rfl,xs,hq⟩|⟨rfl,o,f,C,q⟩|⟨rfl,f⟩|⟨rfl,S,n,f⟩
  ·obtain⟨B,_,w,_⟩:=I.list hq;refine⟨w.isList.typeIs,λa e=>?_⟩;cases e
   obtain⟨o,n,e,c,q,_⟩:=w;exact⟨o,e,q⟩
  ·refine⟨⟨o,I.kIn p o f,C⟩,λa e=>?_⟩;cases e
   exact⟨o,I.kIn _ o f,q⟩
  ·have z:∃o,s.heap.get? p=some o/\o.ExactDict:=by
    rcases f with⟨l,f⟩|⟨l,f⟩
    ·obtain⟨_,_,_,_,o,_,_,e,g,_⟩:=I.hok p _ f;exact⟨o,e,g⟩
    ·obtain⟨_,_,_,_,o,_,_,e,g,_⟩:=I.hok p _ f;exact⟨o,e,g⟩
   obtain⟨o,e,g⟩:=z;refine⟨⟨o,e,g.1⟩,λa u=>?_⟩;cases u
   exact⟨o,e,g.2.1⟩
  ·obtain⟨o,_,_,_,e,g,_⟩:=I.hok p _ f;refine⟨⟨o,e,g.1⟩,λa u=>?_⟩;cases u
   exact⟨o,e,g.2.1⟩
 |_=>exact False.elim h
noncomputable def tBM(K:ZV)(T:String)(r:V->List V->Hp->VK->Prop)(h:TE)(t:TA):TE:=λf H Q=>h f H λx g=>tyV K T x g/\t f g λxs l=>r x xs l Q
variable {o e:Expr}{es:Yf}{to:TE}{t:TA}{name:Str}{apos cpos:Pos}{T id:String}{r:V->List V->Hp->VK->Prop}
def Na(M:PlainAttrs T)(slot:Slot T name id)(q:typeOf (.builtin id)=pure (.type "method_descriptor"))(Y:MtR X id r)(U:PE X o to)(ha:PA X (e::es) t)(g:autoParam (attributeBase o name X.env (eval o X.env)=eval o X.env) au_0)
  (l:autoParam (((backTo cpos<|starEach (e::es) X.env).all (λx=>!x.1)&&(backToKw cpos<|keywordEach [] X.env).all (λx=>x.1.isSome)
   && decide ((e::es).length+([]:List Keyword).length+(if ([]:List Keyword).isEmpty then 0 else 1)<30))=true) au_0)
  (f:autoParam ((apos.endLine==cpos.line)=true) au_0) (N:autoParam (starEach (e::es) X.env=(false,eval e X.env)::starEach es X.env) au_0) (n:autoParam ((backTo cpos<|starEach es X.env).any (·.1)=false) au_0) :
  PE X (.Call (.Attribute o name apos) (e::es) [] cpos) (tBM X.K T r to t):=by
 intro pins s p H Q I h;refine wpAny_Call_method_late g l f rfl (thn (U pins s p H _ I h) λv E ⟨x,H1,y,u,B,L⟩=>?_);obtain⟨h1,h2⟩:=IG y u B;refine⟨T,id,M,slot,q,h1,h2,?_⟩;have w:=ha cpos pins E p H1 _ y L;rw[N]at w ⊢;refine Calls.callWith_builtin (by grind) (Vh ?_);exact thn w λA C ⟨z,H2,I2,G,J⟩=>Y pins C p H2 x z v A Q I2 u G J
end
def MtM(X:Cx)(id:String)(r:V->List V->Hp->VK->Prop):Prop:=
 ∀(pins:ZY) (s:Shared) (b:St) (H:Hp) (x:V) (xs:List V) (v:Value) (f:Yd) (Q:VK),Inv X pins b H s->RelV x v->Vals xs f->r x xs H Q->
  wpAny (model X.prog X.w) X.A (call (.builtin id) (v::f)) (EP X pins b Q) X.xe s
def Vals.one:∀{x}{us:Yd},Vals [x] us->∃u,us=[u]/\RelV x u:=by
 intro _ _ h;cases h with
 |cons r t=>
  cases t
  exact⟨_,rfl,r⟩
theorem Vals.rep (h:Vals xs us):∀k,Vals (List.replicate k xs).flatten (List.replicate k us).flatten
 | 0=>.nil
 |k+1=>by
  exact Vals.append h (Vals.rep h k)
theorem FO(b:Yd):∀k f,
  List.foldl (λh g=>h++g) f.toArray (List.replicate k b.toArray)=(f++(List.replicate k b).flatten).toArray
 | 0,f=>by simp
 |k+1,f=>by
  have e:f.toArray++b.toArray=(f++b).toArray:=by simp
  have l:(f++b)++(List.replicate k b).flatten=f++(List.replicate (k+1) b).flatten:=by grind
  rw[←l,←FO b k (f++b),←e,List.replicate_succ,List.foldl_cons]
section
variable {X:Cx}{pins:ZY}{σ:St}{H:Hp}{s:Shared}{l b:Addr}{xs ys zs:List V}
def Inv.lset {h g:Yd}{n}{f}{t'} (I:Inv X pins σ H s) (x:H l=some (.lst xs))
  (e:s.heap.get? l=some {cls:=.type "list",data:=.seq h.toArray n}) (v:f h.toArray=g.toArray) (p:Vals ys g) (o:ys.length<=sizeLine) :
  Inv X pins σ (upd H l<|.lst ys) {s with heap:=s.heap.update l (Obj.mapSeq f),toks:=t'}:=by
 have q:=PySem.IsL.update e f;rw[v]at q;refine I.write (by rw[x];exact trivial) (.inl rfl) (λy u w r=>(WD s.heap (Obj.mapSeq f)<|Ne.symm w).trans r) ⟨_,q⟩ ?_;exact⟨o,g,_,p,q⟩
def Inv.lnew (I:Inv X pins σ H s) (h:Vals ys f) (g:ys.length<=sizeLine) :
  Inv X pins σ (upd H s.heap.objs.size<|.lst ys) {s with heap:=s.heap.push {cls:=.type "list",data:=.seq f.toArray},toks:=t'}:=
 I.laid (λ_ _ q=>YX _ q) (Wf _) ⟨g,f,0,h,Wl _ rfl⟩
def Inv.fresh (I:Inv X pins σ H s):H s.heap.objs.size=none:=I.hok.fresh (Wf _)
def Inv.lstM (I:Inv X pins σ H s) (g:H l=some (.lst xs)):xs.length<=sizeLine/\∃f n,Vals xs f/\xs.length=f.length/\s.heap.get? l=some {cls:=.type "list",data:=.seq f.toArray n}:=by
 obtain⟨z,f,n,r,e⟩:=I.hok l _ g;exact⟨z,f,n,r,r.length,e⟩
def Hd(h:n<=sizeLine):Builtin.List.listTooLong n=false:=by
 unfold Builtin.List.listTooLong
 grind
end
section
variable {X:Cx}
def NW:V->List V->Hp->VK->Prop:=λx b H Q=>∃l xs y,x=.ref l/\b=[y]/\H l=some (.lst xs)/\xs.length<sizeLine/\Q .non (upd H l<|.lst (xs++[y]))
def PZ:MtM X "list.append" NW:=by
 intro pins s w H x A v B Q I g o h;obtain⟨l,xs,y,rfl,rfl,f,C,q⟩:=h;cases g
 obtain⟨u,rfl,p⟩:=o.one;obtain⟨z,b,n,r,E,e⟩:=I.lstM f;refine call_meets F.slot_list_append ⟨_,e,rfl⟩ F.entry_list_append (F.args_list_append_2 _ _) (PySem.list_append l b.toArray n u<|by grind) ⟨e,?_⟩;refine⟨.non,_,I.lset f e (by simp) (r.append<|.cons p .nil) ?_,rfl,q⟩
 grind
noncomputable def B0:R2:=λx y H Q=>∃l b xs f,x=.ref l/\y=.ref b/\H l=some (.lst xs)/\H b=some (.lst f)/\xs.length+f.length<=sizeLine/\∀p,H p=none->Q (.ref p) (upd H p<|.lst (xs++f))
def Xy:OpR X (binaryOp .Add) B0:=by
 intro pins s J H x y v u Q I p o h;obtain⟨l,b,xs,L,rfl,rfl,B,C,T,q⟩:=h;cases p
 cases o
 obtain⟨z,g,n,r,U,e⟩:=I.lstM B;obtain⟨M,f,N,w,A,G⟩:=I.lstM C;refine PySem.P.add_list e G ?_ (by grind);have E:g.toArray++f.toArray=(g++f).toArray:=by simp
 rw[E];exact⟨.ref _,_,I.lnew (r.append w) (by grind),rfl,q _ I.fresh⟩
noncomputable def BS:R2:=λx y H Q=>∃l k xs,x=.ref l/\y=.int k/\H l=some (.lst xs)/\-(2 ^ 63)<=k/\k<2 ^ 63/\xs.length*k.toNat<=sizeLine/\
 ∀p,H p=none->Q (.ref p) (upd H p (.lst (List.replicate k.toNat xs).flatten))
def GF{b:Type}(xs:List b)(k:Nat):(List.replicate k xs).flatten.length=k*xs.length:=by simp
def D6:OpR X (binaryOp .Mult) BS:=by
 intro pins s U H x y v u Q I J G h;obtain⟨l,k,xs,rfl,rfl,M,T,N,A,q⟩:=h;cases J
 obtain⟨t,rfl⟩:=G;obtain⟨z,b,n,r,L,e⟩:=I.lstM M;have o:b.toArray.size*k.toNat<=sizeLine:=by rw[Wy,←L];exact A
 have w:¬b.toArray.size*k.toNat>(2 ^ 63-1) / 8:=by
  have:(sizeLine:Nat)<=(2 ^ 63-1) / 8:=by decide
  lia
 have p:¬(!Builtin.List.listFitsIndex k)=true:=by
  rw[fitsIndex_both T N];exact Wn
 have f:¬Builtin.List.listTooLong (b.toArray.size*k.toNat)=true:=by
  rw[Hd o];exact Wn
 have g:List.foldl (λC B=>C++B) #[] (List.replicate (if b.toArray.isEmpty=true then 0 else k.toNat) b.toArray)=(List.replicate k.toNat b).flatten.toArray:=by
  have f0:=λm=>by
   have:=FO b m []
   rw[List.nil_append]at this;exact this
  rw[f0];cases b with
  |nil=>simp
  |cons a Y=>rw[YV (by simp)]
 refine wpAny_binaryOp_repeat_ref (by decide) ⟨_,e,rfl⟩ (λE=>typeIs_int E k t) noFill_list_mul F.fills_int_mul F.slot_int_rmul repeat_list F.slot_int_index.lookup
  (call_meets F.slot_int_rmul (typeIs_int s k t) F.entry_int_rmul (F.args_int_rmul_2 _ _) (int___rmul___int_list k t l b.toArray n)
   ⟨e,rfl,⟨_,e,rfl⟩,call_meets F.slot_list_mul ⟨_,e,rfl⟩ F.entry_list_mul (F.args_list_mul_2 _ _) (AutoListH.list___mul___list_int_3 l b.toArray n k t p w f) ⟨e,?_⟩⟩)
 rw[g];exact⟨.ref _,_,I.lnew (r.rep k.toNat) (by rw[GF,Nat.mul_comm];exact A),rfl,q _ I.fresh⟩
end
end L2
namespace Att
open PySem PySem.W PySem.Calls PyProof.Rows
def IP:∀ns vs,WellAll P h vs (ns.map WData.int)->IntsAre vs ns:=by
 intro ns
 induction ns with
 |nil=>
  intro vs w;cases w
  exact .nil
 |cons n ns f=>
  intro vs w;cases w with
  |cons a b=>
   cases a
   exact .cons _ _ (f _ b)
def MN{l:OpenLaw}{n}(w:l.most=some n){P}{h}{args}{vals}(b:l.row.toRowW.claim.pre args=true)(o:WellAll P h vals args) :
  ∃a vs ns,vals=[Value.ref a]/\args=[WData.list (ns.map WData.int)]/\h.get? a=some {cls:=.type "list",data:=.seq vs.toArray}/\IntsAre vs ns/\ns.length<=n:=by
 have p:WShape.hasAll [] args [.list .int]=true:=(pre_splitW b).1;have x:l.pre.holds [] {args:=args}=true:=(pre_splitW b).2;obtain⟨d,r,rfl,A,z⟩:=hasAllW_cons p;obtain rfl:=hasAllW_nil z;obtain⟨xs,rfl,y⟩:=hasW_list A;obtain⟨ns,rfl⟩:=items_int y
 have f:ns.length<=n:=by
  have q:(WTm.not<|.lt (.lit<|.int (n:Int))<|.len<|.arg 0).holds [] {args:=[.list (ns.map .int)]}=true:=by
   have q:=(holds_andW x).1;rw[w]at q;lia
  have B:=condW_of q (w_not<|w_lt w_lit<|w_len_list<|w_arg rfl);simp_all
 cases o with
 |cons u s=>
  cases s
  cases u with
  |list v g=>exact⟨_,_,ns,rfl,rfl,v,IP ns _ g,f⟩
def OF(l:OpenLaw)(args:List WData):l.row.toRowW.claim.post args (.bool true) args=true:=
 postW_of
  rfl
  (w_eq_bool (w_res rfl) w_lit) rfl
def MJ{l:OpenLaw}{n}{q}{loose}{XP}{YP}{d}(Q:l.most=some n)(E:d.params.defaults=[])
  (call:∀w s₀ b y A v o z cd h a vs ns,
   Ground q loose [] XP w s₀ y A b.heap->YP w b.heap->
   b.heap.get? v=some o->o.data=.func (docDef d.name d.params d.body d.scope z cd h)->b.heap.CodeRec cd d.name->y d.name=some (.ref v)->
   b.heap.get? a=some {cls:=.type "list",data:=.seq vs.toArray}->IntsAre vs ns->ns.length<=n->b.gens=#[]->
   codeAny (model l.prog w) callerA (.call (.ref v) ⟨[.ref a],[]⟩) (λr x=>r=.ok (.ret<|.bool true)/\OldK b.heap x.heap/\x.os=b.os/\AllBare x.gens) b) :
  WalkO q loose XP YP l.row.toRowW d [] (λf vs=>PySem.call f vs):=by
 intro w s₀ b y A G Y v o z cd h dV kV N hd H L C hg args vals as p J M B U;obtain rfl:=Dflts.none L E;obtain rfl:=Dflts.noKw L;obtain⟨a,vs,ns,rfl,rfl,s,g,u⟩:=MN Q p B;refine enter_call (Qd (call w s₀ b y A v o z cd h a vs ns G Y N (fd_plain hd) H C s g u hg) λr x hq=>?_);obtain⟨rfl,h2,h3,h4⟩:=hq;exact⟨.inl ⟨.bool true,.bool true,[],rfl,λ_=>rfl,.bool true,OF l _,λ_=>⟨List.Pairwise.nil,λ_ T=>(nomatch T)⟩⟩,h2,h3,h4⟩
end Att
namespace L2
theorem TB:∀{vs}{ns:ZX},IntsAre vs ns->Vals (ns.map V.int) vs
 |_,_,.nil=>.nil
 |_,_,.cons n t h=>.cons ⟨t,rfl⟩ (TB h)
def TZ(H:Hp):Prop:=∀b,H b=none\/∃o xs,H b=some (.frz o<|.lst xs)
def Rz{K B U CX k fa a fd x sp f vs ns}(KX:K.In f.heap)(G:f.heap.Ns mainGlobals B)(g:f.heap.Ns builtinsNs U)(hbb:∀x:Str,x≠"__name__"->U x=bootBuiltins x)(J:f.heap.NoLimit)(hg:f.gens=#[])(M:f.heap.get? a=some {cls:=.type "list",data:=.seq vs.toArray})(hi:IntsAre vs ns)(hl:ns.length<=sizeLine)(hr:JZ k callerA)(F:∀base,K.In base->base.Ns mainGlobals B->UN P w K B base CX k fa fd [x] sp)(y:∀s u,BindsTo s fd ⟨[u],[]⟩ [(x,u)])(Y:∀H,TZ H->SqL K H a (ns.map V.int)->sp [.ref a] H (λv _=>v=.bl true) λ_ _ _=>False)(hCX:∀H e l,CX [] H f (λ_ _ _=>False) e l->False) :
  codeAny (model P w) callerA (.call (.ref fa) ⟨[.ref a],[]⟩) (λr l=>r=.ok (.ret<|.bool true)/\OldK f.heap l.heap/\l.os=f.os/\AllBare l.gens) f:=by
 have rv:=TB hi
 have core:∀H,TZ H->SqL K H a (ns.map V.int)->HOk P w H f.heap->(∀b,H b≠none->b=a)->(H a≠none->K.lookup a=none)->
   codeAny (model P w) callerA (.call (.ref fa) ⟨[.ref a],[]⟩) (λr l=>r=.ok (.ret<|.bool true)/\OldK f.heap l.heap/\l.os=f.os/\AllBare l.gens) f:=by
  intro H hO hS E hA hK;have base_of:∀{b:Addr} {o:Obj},f.heap.get? b=some o->H b=none->(Kr f.heap H).get? b=some o:=λe n=>Zam e n
  have T:∀{b:Addr} {o:Obj} {N:Array DictEntry} {Q:Nat},f.heap.get? b=some o->o.data=.dict N Q->H b=none:=λ{b o N Q} e d=>by
   cases q:H b with
   |none=>rfl
   |some u=>
    have e':=hA b (by rw[q];simp);subst e';rw[M]at e;cases e;cases d
  have p:∀{b:Addr} {m:ZZ},f.heap.Ns b m->(Kr f.heap H).Ns b m:=λ{b m} ⟨o,N,Q,e,d,r⟩=>⟨o,N,Q,base_of e (T e d),d,r⟩
  have L:=λb o e=>base_of (KX b o e) (by
   cases q:H b with
   |none=>rfl
   |some u=>
    have e':=hA b (by rw[q];simp);subst e';rw[hK (by rw[q];simp)]at e;cases e)
  have hM:Mod K B (Kr f.heap H):=⟨L,p G,⟨U,p g,hbb⟩,let ⟨mc,h1,h2⟩:=J;⟨mc,p h1,h2⟩⟩;have e0:KB P w K B (Kr f.heap H) callerA [] f H:=⟨rfl,hM,λb o e=>OT e,Qc (GT _ _),trivial,λb g=>absurd (show b∈([]:List Addr)from g) (by simp),E,.of_eq hg⟩
  refine Qd ((F _ L<|p G).run callerA [] f H ⟨[.ref a],[]⟩ [.ref a] [.ref a] _ _ hr e0 (y f<|.ref a) (.cons rfl .nil) (Y H hO hS)) λr l h=>?_;cases r with
  |error e=>exact(hCX H e l h).elim
  |ok fl=>
   cases fl with
   |ret u=>
    obtain⟨v,H',os,bare,un,C,r',q⟩:=h;subst q;obtain rfl:=r';refine⟨rfl,OldK.of_keep λb o e=>?_,os,bare⟩;cases q:H b with
    |none=>exact un.keep b o e q (by intro z;exact absurd (show b∈([]:List Addr)from z) (by simp)) (by simp)
    |some u=>
     rcases hO b with z|⟨ob,xs,z⟩
     ·rw[q]at z;cases z
     ·have z2:=un.frzs b ob _ z;obtain⟨e1,_⟩:=E b _ z;obtain⟨e2,_⟩:=C b _ z2;rw[e]at e1;cases e1;exact e2
   |_=>exact False.elim h
 cases hk:K.lookup a with
 |some o=>
  have e:=KX a o hk;rw[M]at e;cases e
  refine core (λ_=>none) (λ_=>.inl rfl) (.inr ⟨_,vs.toArray,_,hk,rfl,rfl,rfl,by rw[Wy,hi.length];exact hl,by simpa using rv⟩) (λb u z=>by have A:=z;cases A) (λb z=>absurd rfl z) λz=>absurd rfl z
 |none=>
  refine core (λb=>if b=a then some (.frz {cls:=.type "list",data:=.seq vs.toArray} (.lst<|ns.map V.int))else none) (λb=>?_) (.inl<|.inr ⟨{cls:=.type "list",data:=.seq vs.toArray},Wc rfl⟩) (λb u z=>?_) (λb z=>?_) λ_=>hk
  ·by_cases g:b=a
   ·exact .inr ⟨_,_,Wc g⟩
   ·exact .inl (YV g)
  ·by_cases g:b=a
   ·have A:=(Wc g).symm.trans z;cases A
    subst g;exact⟨M,by rw[YU];exact hl,vs,_,rv,M⟩
   ·have A:=(YV g).symm.trans z;cases A
  ·by_cases g:b=a
   ·exact g
   ·exact absurd (YV g) z
def MD{l:PySem.W.OpenLaw}{n k}{q}{loose}{XP}{YP}{d}{K:Params->ZV}{CX:World->CXT}{sp:World->Sp}{x}(hn:l.most=some n)(J:n<=sizeLine)(M:d.params.defaults=[])(hr:JZ k callerA)(hY:∀w h,YP w h->(K w.params).In h)
  (F:∀w y B h,(K w.params).In h->h.Ns mainGlobals y->y d.name=some (.ref B)->
   ∃Q,(∀s u,BindsTo s Q ⟨[u],[]⟩ [(x,u)])/\
    ∀base,(K w.params).In base->base.Ns mainGlobals y->UN l.prog w (K w.params) y base (CX w) k B Q [x] (sp w))
  (E:∀w H a (ns:ZX),ns.length<=n->TZ H->SqL (K w.params) H a (ns.map V.int)->sp w [.ref a] H (λv _=>v=.bl true) λ_ _ _=>False)
  (N:∀w H s e C,CX w [] H s (λ_ _ _=>False) e C->False) :
  PySem.W.WalkO q loose XP YP l.row.toRowW d [] (λf vs=>PySem.call f vs):=by
 refine Att.MJ hn M λw U z y mb B o pm cd doc a vs ns G Y ho hd hcd L A r p hg=>?_;have KX:=hY w _ Y;obtain⟨Q,hb,hF⟩:=F w y B _ KX G.T.g L;exact Rz KX G.T.g G.T.b G.T.builtins G.T.nolimit hg A r (Wi p J) hr hF hb (λH hO hS=>E w H a ns p hO hS) λH e C=>N w H z e C
def EX{l:PySem.W.OpenLaw}{n k}{q}{loose}{XP}{YP}{d}{K:Params->ZV}{CX}{sp:ZV->Sp}{x}(C:l.most=some n)(p:n<=sizeLine)(r:d.params.defaults=[])(B:JZ k callerA)(E:∀w h,YP w h->(K w.params).In h)
  (F:∀w b A h,(K w.params).In h->h.Ns mainGlobals b->b d.name=some (.ref A)->
   ∃z,(∀s u,BindsTo s z ⟨[u],[]⟩ [(x,u)])/\
    ∀base,(K w.params).In base->base.Ns mainGlobals b->UN l.prog w (K w.params) b base CX k A z [x] (sp<|K w.params))
  (o:∀K H a (ns:ZX),ns.length<=n->TZ H->SqL K H a (ns.map V.int)->sp K [.ref a] H (λv _=>v=.bl true) λ_ _ _=>False)
  (y:∀H s e g,CX [] H s (λ_ _ _=>False) e g->False) :
  PySem.W.WalkO q loose XP YP l.row.toRowW d [] (λf vs=>PySem.call f vs):=
 MD C p r B E F (λw H a ns L J G=>o (K w.params) H a ns L J G) λ_ H s e g=>y H s e g
noncomputable def inClass(s:Stmt)(j:Nat):Stmt:=match s with
 | .ClassDef _ _ _ body _ _ _ _ _ _ _=>body.getD j (.Pass ⟨0,0,0,0⟩)
 |_=>.Pass ⟨0,0,0,0⟩
noncomputable def Xo(s:Stmt):Arguments:=match s with
 | .FunctionDef _ a _ _ _ _ _ _ _ _=>a
 |_=>{posonlyargs:=[],args:=[],vararg:=none,kwonlyargs:=[],kw_defaults:=[],kwarg:=none,defaults:=[]}
noncomputable def Uw(s:Stmt):Yg:=match s with
 | .FunctionDef _ _ b _ _ _ _ _ _ _=>b
 |_=>[]
noncomputable def JT(s:Stmt):Scope:=match s with
 | .FunctionDef _ _ _ _ _ _ b _ _ _=>b
 |_=>{kind:=.function,names:=[],isGenerator:=false,isCoroutine:=false}
noncomputable abbrev CX0:CXT:=λ_ _ _ _ _ _=>False
noncomputable abbrev E0:XK:=λ_ _ _=>False
def Xb:Xj CX0 X E0:=λ_ _ _ _ _ _ _ h=>h.elim
structure Fun (K:ZV) (x qual:Str) (st:Stmt) (f:Addr) (fd:FuncData):Prop where
 ex:∃(oc:Value) (od:Yi) (kV doc pm:Value) (an:Yi) (cdv ct:Value) (osl:Array (Yh)),
  fd=PySem.W.fnOf x qual (Xo st) (Uw st) (JT st) .none kV doc pm an cdv ct/\K.lookup f=some ⟨oc,od,.func fd,osl⟩/\PySem.W.codeIn K cdv qual=true
 kp:PySem.W.keepIn K (.ref f)=true
section
variable {P:Program}{w:World}{K:ZV}{mg:ZZ}{base:Heap}
def Fun.ok {st f o N ps k sp} (F:Fun K x qual st f o) (S:JY N ps (JT st)) (len:∀vs H Q E,sp vs H Q E->vs.length=ps.length)
  (g:∀b A outer s H vs Q E,JZ k (A.deeper<|envOfC qual (JT st) s.heap.objs.size f b)->sp vs H Q E->
   ∃t,PSs (U1 CX0 P w K mg base N qual (JT st) f b A outer s H E).nox (Uw st) t/\t {nx:=λ_ H'=>Q .non H',rt:=Q} (start N vs) H):UN P w K mg base CX0 (k+1) f o ps sp:=by
 obtain⟨oc,z,kV,v,y,C,b,B,p,rfl,r,n⟩:=F.ex;refine B4 r n S len λA outer s H vs Q E u l=>?_;obtain⟨t,h,q⟩:=g b A outer s H vs Q E u l;exact⟨t,h.nox,q⟩
def Fun.binds {st f o ps} (F:Fun K x qual st f o)
  (h:∀kV b l n g ct us,us.length=ps.length->bindArgs (PySem.W.fnOf x qual (Xo st) (Uw st) (JT st) .none kV b l n g ct) ⟨us,[]⟩=pure (ps.zip us)):Binds K o ps []:=by
 obtain⟨oc,r,kV,b,l,n,g,ct,p,rfl,s,q⟩:=F.ex;exact .all (h kV b l n g ct)
def Nc{st f oc p o h kV g n b ct}(l:K.lookup f=some ⟨oc,p,.func (PySem.W.fnOf x qual (Xo st) (Uw st) (JT st) .none kV g n o b ct),h⟩)(c:PySem.W.codeIn K b qual=true)(k:PySem.W.keepIn K (.ref f)=true):Fun K x qual st f (PySem.W.fnOf x qual (Xo st) (Uw st) (JT st) .none kV g n o b ct):=⟨⟨oc,p,kV,g,n,o,b,ct,h,rfl,l,c⟩,k⟩
end
def T3{k}(b:JZ k A):A.units+1<cLine:=Vq (Nat.add_le_add_left (by simp) _) b.units
def Oq(h:n<=1000):n<sizeLine:=Vq h (by decide)
section
variable {X:Cx}
def pv(i:Nat){x pos}(h:autoParam (X.N[i]?=some x) au_0)(f:autoParam (Vis X.env.scope x) au_4)(g:autoParam ((x==("__debug__" : Str))=false) au_1)(b:autoParam ((x==("__classdict__" : Str))=false) au_1):PE X (.Name x pos) (Xv i):=OY h f g b
end
def Pm{A B:Prop}(h:B):if false=true then A else B:=by grind
def XI{A B:Prop}(h:A):if true=true then A else B:=by grind
def Ud{c A B:Prop}[Decidable c](f:c->A)(b:¬c->B):if c then A else B:=by grind
def Same(H H':Hp):Prop:=∀b o,H b=some o->H' b=some o
def Same.refl (H:Hp):Same H H:=λ_ _ h=>h
def Same.trans (a:Same H g) (b:Same g f):Same H f:=λc o h=>b c o (a c o h)
def Same.free (e:Same H H') {l} (h:H' l=Option.none):H l=Option.none:=by
 cases q:H l with
 |none=>rfl
 |some o=>
  rw[e l o q]at h;lia
def Same.seq {K H H'}{a xs} (e:Same H H') (h:SqL K H a xs):SqL K H' a xs:=by
 rcases h with(h|⟨o,h⟩)|h
 ·exact .inl (.inl<|e _ _ h)
 ·exact .inl (.inr ⟨o,e _ _ h⟩)
 ·exact .inr h
end L2
set_option maxHeartbeats 4000000
namespace L2
section
variable {κ:Type} [DecidableEq κ]
noncomputable def Ut(b:List (κ×V))(k:κ):Option V:=(b.find? λf=>decide (f.1=k)).map (·.2)
noncomputable def putK(b:List (κ×V))(k:κ)(v:V):List (κ×V):=
 if (b.any λf=>decide (f.1=k))=true then b.map (λf=>if f.1=k then(f.1,v)else f)else b++[(k,v)]
def X7{p:κ×V}{r:List (κ×V)}{k:κ}(e:p.1=k):Ut (p::r) k=some p.2:=by simp[Ut,Qx,e]
def Xz{p:κ×V}{r:List (κ×V)}{k:κ}(e:¬p.1=k):Ut (p::r) k=Ut r k:=by simp[Ut,Qx,e]
theorem TQ(k:κ):∀b:List (κ×V),(b.any λf=>decide (f.1=k))=(Ut b k).isSome
 |[]=>rfl
 |p::r=>by
  rw[Q8];by_cases e:p.1=k
  ·simp only[X7 e,YZ e,Bool.true_or,Option.isSome_some]
  ·rw[Xz e,W4 e,Bool.false_or];exact TQ k r
theorem FJ(k j:κ)(y:V):∀b:List (κ×V),Ut (b.map λf=>if f.1=k then(f.1,y)else f) j=(Ut b j).map λx=>if j=k then y else x
 |[]=>rfl
 |p::r=>by
  have g:=FJ k j y r;rw[Wz];by_cases h:p.1=k
  ·rw[Wc h];by_cases e:p.1=j
   ·rw[X7 (p:=(p.1,y)) e,X7 e,Vi,Wc (e.symm.trans h)]
   ·rw[Xz (p:=(p.1,y)) e,Xz e,g]
  ·rw[YV h];by_cases e:p.1=j
   ·rw[X7 (p:=p) e,X7 e,Vi,YV (λz=>h (e.trans z))]
   ·rw[Xz (p:=p) e,Xz e,g]
theorem D7(k j:κ)(y:V):∀b:List (κ×V),Ut b k=none->Ut (b++[(k,y)]) j=if j=k then some y else Ut b j
 |[],_=>by
  by_cases e:k=j
  ·rw[Wc e.symm];exact X7 (p:=(k,y)) e
  ·rw[YV (λz=>e z.symm)];exact Xz (p:=(k,y)) e
 |p::r,f=>by
  rw[QY];have g:¬p.1=k:=λz=>by rw[X7 z]at f;cases f
  rw[Xz g]at f;have h:=D7 k j y r f;by_cases e:p.1=j
  ·rw[X7 e,X7 e,YV (λz=>g (e.trans z))]
  ·rw[Xz e,Xz e,h]
def GM(b:List (κ×V))(k j:κ)(y:V):Ut (putK b k y) j=if j=k then some y else Ut b j:=by
 unfold putK;by_cases a:(b.any λf=>decide (f.1=k))=true
 ·rw[Wc a,FJ];rw[TQ]at a;by_cases e:j=k
  ·obtain⟨x,hx⟩:=Option.isSome_iff_exists.mp a;rw[Wc e,e,hx,Vi,Wc rfl]
  ·rw[YV e];cases Ut b j with
   |none=>rfl
   |some x=>rw[Vi,YV e]
 ·rw[YV a];refine D7 k j y b ?_;rw[TQ]at a;cases q:Ut b k with
  |none=>rfl
  |some x=>rw[q]at a;exact(a rfl).elim
def SJ(b:List (κ×V))(k:κ)(v:V):(putK b k v).length<=b.length+1:=by
 unfold putK;split
 ·rw[YU];omega
 ·rw[Wv,Qp,List.length_nil];omega
def RelO.isSome_eq {o:Option V}{u:Yh} (r:RelO o u):o.isSome=u.isSome:=by
 cases o with
 |none=>cases u with
  |none=>rfl
  |some _=>exact(show False from r).elim
 |some _=>cases u with
  |none=>exact(show False from r).elim
  |some _=>rfl
def KV.val {f:List (κ×V)}{vs:List (κ×Value)} (r:KV f vs) (k:κ):RelO (Ut f k) (valueAt vs k):=by
 unfold KV at r
 induction r with
 |nil=>exact True.intro
 | @cons p q u g h t o=>
  obtain⟨n,s⟩:=h;by_cases e:p.1=k
  ·have l:q.1=k:=n.symm.trans e;have b:valueAt (q::g) k=some q.2:=by simp[valueAt,Qx,l]
   rw[X7 e,b];exact s
  ·have l:¬q.1=k:=λz=>e (n.trans z);have b:valueAt (q::g) k=valueAt g k:=by simp[valueAt,Qx,l]
   rw[Xz e,b];exact o
def KV.any {b:List (κ×V)}{vs:List (κ×Value)} (r:KV b vs) (k:κ):(b.any λf=>decide (f.1=k))=vs.any λf=>decide (f.1=k):=by
 unfold KV at r
 induction r with
 |nil=>rfl
 |cons h t g=>rw[Q8,Q8,g,h.1]
def KV.repl {f:List (κ×V)}{vs:List (κ×Value)} (r:KV f vs) (k:κ) {y:V}{u:Value} (l:RelV y u) :
  KV (f.map λb=>if b.1=k then(b.1,y)else b) (vs.map λb=>if b.1=k then(b.1,u)else b):=by
 unfold KV at r ⊢
 induction r with
 |nil=>exact .nil
 | @cons p q v s h t n=>
  rw[Wz,Wz];refine .cons ?_ n;obtain⟨g,o⟩:=h;by_cases e:p.1=k
  ·rw[Wc e,Wc (g.symm.trans e)];exact⟨g,l⟩
  ·rw[YV e,YV (λz=>e (g.trans z))];exact⟨g,o⟩
def KV.put {b:List (κ×V)}{vs:List (κ×Value)} (r:KV b vs) (k:κ) {y:V}{u:Value} (f:RelV y u):KV (putK b k y) (stored vs k u):=by
 unfold putK stored;rw[r.any k];by_cases e:(vs.any λg=>decide (g.1=k))=true
 ·rw[Wc e,Wc e];exact r.repl k f
 ·rw[YV e,YV e];exact Paired.snoc r ⟨rfl,f⟩
def KV.length {b:List (κ×V)}{vs:List (κ×Value)} (r:KV b vs):b.length=vs.length:=Paired.length r
end
def Ny{P:Program}{w:World}{k:Key}{u:Value}(r:RelV (kV k) u):(Xs P w).is k u=true:=by
 cases k with
 |inl i=>obtain⟨t,e⟩:=(show ∃t,u=Value.int i t from r);subst e;exact Mw P w i t
 |inr x=>obtain⟨t,e⟩:=(show ∃t,u=Value.str x t from r);subst e;exact MH P w x t
theorem AW{P:Program}{w:World}:∀{b:List Key}{us:Yd},Vals (b.map kV) us->ItemsAre (Xs P w) b us
 |[],_,r=>by rw[Vx]at r;cases r;exact .nil
 |k::b,_,r=>by
  rw[Wz]at r;cases r with
  |cons h t=>exact .cons (Ny h) (AW t)
abbrev KT(H:Hp):List (List Key×V)->List (List Key×Addr×Value)->Prop:=Paired λp q=>p.1=q.1/\H q.2.1=some (.tup<|p.1.map kV)/\RelV p.2 q.2.2
def KT.val {H:Hp}{f:List (List Key×V)}{xs:List (List Key×Addr×Value)} (r:KT H f xs) (k:List Key):RelO (Ut f k) ((atKey xs k).map (·.2)):=by
 induction r with
 |nil=>exact True.intro
 | @cons p q u g h t o=>
  obtain⟨n,_,s⟩:=h;by_cases e:p.1=k
  ·have l:q.1=k:=n.symm.trans e;have b:atKey (q::g) k=some q.2:=by simp[atKey,Qx,l]
   rw[X7 e,b];exact s
  ·have l:¬q.1=k:=λz=>e (n.trans z);have b:atKey (q::g) k=atKey g k:=by simp[atKey,Qx,l]
   rw[Xz e,b];exact o
def KT.repl {H:Hp}{b:List (List Key×V)}{xs:List (List Key×Addr×Value)} (r:KT H b xs) (k:List Key) {y:V}{u:Value} (n:RelV y u) :
  KT H (b.map λg=>if g.1=k then(g.1,y)else g) (xs.map<|putAt k u):=by
 induction r with
 |nil=>exact .nil
 | @cons p q w v h t o=>
  rw[Wz,Wz];refine .cons ?_ o;obtain⟨f,l,s⟩:=h;unfold putAt;by_cases e:p.1=k
  ·rw[Wc e,Wc (f.symm.trans e)];exact⟨f,l,n⟩
  ·rw[YV e,YV (λz=>e (f.trans z))];exact⟨f,l,s⟩
def KT.put {H:Hp}{f:List (List Key×V)}{xs:List (List Key×Addr×Value)} (r:KT H f xs) (k:List Key) {b:Addr}{y:V}{u:Value} (l:H b=some (.tup<|k.map kV)) (g:RelV y u) :
  KT H (putK f k y) (storedH xs k b u):=by
 have e:(f.any λh=>decide (h.1=k))=(atKey xs k).isSome:=by
  rw[TQ,(r.val k).isSome_eq,Option.isSome_map]
 unfold putK storedH;rw[e];by_cases q:(atKey xs k).isSome=true
 ·rw[Wc q,Wc q];exact r.repl k g
 ·rw[YV q,YV q];exact Paired.snoc r ⟨rfl,l,g⟩
def KT.keeps {H H':Hp}{f:List (List Key×V)}{xs:List (List Key×Addr×Value)} (r:KT H f xs) (h:∀b g,H b=some (.tup g)->H' b=some (.tup g)):KT H' f xs:=
 Paired.mapP r λ_ _ z=>⟨z.1,h _ _ z.2.1,z.2.2⟩
section
variable {P:Program}{w:World}{H:Hp}{h:Heap}{a:Addr}
def CY{u:HO}(ok:HOk P w H h)(e:Rd H a u):ObjOk P w H h a u:=e.ok ok
def AO{b:List (Key×V)}(ok:HOk P w H h)(e:Rd H a (.dK b)):b.length<=sizeLine/\(a==sysModules)=false/\∃vs,KV b vs/\h.DictOf (Xs P w) a vs:=
 show ObjOk P w H h a (.dK b)from CY ok e
def Lp{b:List (Key×V)}(ok:HOk P w H h)(e:H a=some (.dK b)):b.length<=sizeLine/\(a==sysModules)=false/\∃vs,KV b vs/\h.DictOf (Xs P w) a vs:=AO ok (.inl e)
def SZ{b:List Key}(ok:HOk P w H h)(e:H a=some (.tup<|b.map kV)):(tupleKind<|Xs P w).is h b a:=by
 obtain⟨_,f,r,o,p,l,n,g⟩:=(show ObjOk P w H h a (.tup<|b.map kV)from ok a _ e)
 exact⟨o,f.toArray,n,p,l,g,by simpa using AW r⟩
def CV{b:List (List Key×V)}(ok:HOk P w H h)(e:Rd H a (.dT b)):b.length<=sizeLine/\(a==sysModules)=false/\
  ∃xs,KT H b xs/\h.DictOfH (tupleKind<|Xs P w) a xs:=by
 obtain⟨z,y,xs,r,o,A,B,v,u,s,n,g⟩:=(show ObjOk P w H h a (.dT b)from CY ok e)
 refine⟨z,y,xs,r,o,A,B,v,u,s,n,λx hx=>?_,g⟩
 have all:∀{l:List (List Key×V)} {m:List (List Key×Addr×Value)},KT H l m->∀x∈m,(tupleKind<|Xs P w).is h x.1 x.2.1:=by
  intro l m q
  induction q with
  |nil=>intro x hx;exact nomatch hx
  | @cons p q E C hq t f=>
   intro x hx;rcases Wk.mp hx with e|hx
   ·subst e;exact SZ ok (by rw[←hq.1];exact hq.2.1)
   ·exact f x hx
 exact all r x hx
def GU{b:List (List Key×V)}(ok:HOk P w H h)(e:H a=some (.dT b)):b.length<=sizeLine/\(a==sysModules)=false/\
  ∃xs,KT H b xs/\h.DictOfH (tupleKind<|Xs P w) a xs:=CV ok (.inl e)
end
def DGet(H:Hp)(a:Addr)(y:V)(r:Option V):Prop:=
 (∃f k,Rd H a (.dK f)/\y=kV k/\r=Ut f k)\/∃f k b,Rd H a (.dT f)/\y=.ref b/\H b=some (.tup<|k.map kV)/\r=Ut f k
def DPut(H:Hp)(a:Addr)(y v:V)(H':Hp):Prop:=
 (∃f k,H a=some (.dK f)/\y=kV k/\f.length<sizeLine/\H'=upd H a (.dK<|putK f k v))\/
 ∃f k b,H a=some (.dT f)/\y=.ref b/\H b=some (.tup<|k.map kV)/\f.length<sizeLine/\H'=upd H a (.dT<|putK f k v)
def DGet.k {H:Hp}{a:Addr}{b:List (Key×V)}{k:Key} (e:H a=some (.dK b)):DGet H a (kV k) (Ut b k):=.inl ⟨b,k,.inl e,rfl,rfl⟩
def DGet.t {H:Hp}{a b:Addr}{f:List (List Key×V)}{k:List Key} (e:H a=some (.dT f)) (g:H b=some (.tup<|k.map kV)):DGet H a (.ref b) (Ut f k):=.inr ⟨f,k,b,.inl e,rfl,g,rfl⟩
def DPut.k {H:Hp}{a:Addr}{b:List (Key×V)}{k:Key}{v:V} (e:H a=some (.dK b)) (f:b.length<sizeLine):DPut H a (kV k) v (upd H a<|.dK<|putK b k v):=.inl ⟨b,k,e,rfl,f,rfl⟩
def DPut.t {H:Hp}{a b:Addr}{f:List (List Key×V)}{k:List Key}{v:V} (e:H a=some (.dT f)) (h:H b=some (.tup<|k.map kV)) (g:f.length<sizeLine) :
  DPut H a (.ref b) v (upd H a<|.dT<|putK f k v):=.inr ⟨f,k,b,e,rfl,h,g,rfl⟩
section
variable {X:Cx}{pins:ZY}{σ:St}{H:Hp}{s:Shared}{a:Addr}{y v:V}{u r:Value}{o:Option V}{A:Around}{E:Ya}
def Inv.big (I:Inv X pins σ H s):sysModules<s.heap.objs.size:=by
 have h:mainGlobals<s.heap.objs.size:=(I.mod.glob.keeps I.bk).lt;exact Q0 (by decide) h
def Mn{Q:Ya}(C:A.units+1<cLine)(I:Inv X pins σ H s)(g:DGet H a y o)(B:RelV y u)(h:∀x,Inv X pins σ H x->Q (.bool (!o.isSome)) x) :
  wpAny (model X.prog X.w) A (compareOp .NotIn u<|.ref a) Q E s:=by
 rcases g with⟨f,k,e,ey,l⟩|⟨f,k,b,e,ey,G,l⟩
 ·subst ey;obtain⟨z,n,J,rel,p⟩:=AO I.hok e;refine wpAny_notIn_of (Ny B) n p.mapOf ?_;rw[←(rel.val k).isSome_eq,←l];exact h _ (I.tok _)
 ·subst ey;cases (show u=Value.ref b from B)
  obtain⟨z,n,xs,rel,p⟩:=CV I.hok e;refine wpAny_notIn_heap (tupleKind_room_in1 C) (SZ I.hok G) n p ?_;have q:=(rel.val k).isSome_eq;rw[Option.isSome_map]at q;rw[←q,←l];exact h _ (I.tok _)
def BD{f:Heap}{t':Nat}{g:HO}(I:Inv X pins σ H s)(h:Mut (H a))(l:Heap.SameBut a s.heap f)(n:∃q,f.get? a=some q)(new:ObjOk X.prog X.w (upd H a g) f a g) :
  Inv X pins σ (upd H a g) {s with heap:=f,toks:=t'}:=
 I.write (x:=a) (e:=a) h (.inl rfl) (λb q p z=>(l.2 b p).trans z) n new
def Hk{P:Program}{w:World}{H':Hp}{f:Heap}{b:List (Key×V)}{vs:List (Key×Value)}(z:b.length<=sizeLine)(g:(a==sysModules)=false)(rel:KV b vs)(dd:f.DictOf (Xs P w) a vs) :
  ObjOk P w H' f a (.dK b):=⟨z,g,vs,rel,dd⟩
def Rl{H':Hp}{Q:Unit->Shared->Prop}(hu:A.units+1<cLine)(I:Inv X pins σ H s)(g:DPut H a y v H')(M:RelV y u)(rv:RelV v r)(h:∀L,Inv X pins σ H' L->Q () L) :
  wpAny (model X.prog X.w) A (setItem (.ref a) u r) Q E s:=by
 rcases g with⟨f,k,e,ey,l,G⟩|⟨f,k,b,e,ey,U,l,G⟩
 ·subst ey G;obtain⟨z,C,Y,rel,J⟩:=Lp I.hok e;have p:Y.length<=sizeLine:=by rw[←rel.length];exact z
  have B:(putK f k v).length<=sizeLine:=by have:=SJ f k v;omega
  refine wpAny_setItem_pairs (hsz:=p) (Ny M) J λN n x=>h _ ?_;have he:∃q,N.get? a=some q:=let ⟨q,_,_,hq,_⟩:=n;⟨q,hq⟩;exact BD I (by rw[e];exact True.intro) x he (Hk B C (rel.put k rv) n)
 ·subst ey G;cases (show u=Value.ref b from M)
  obtain⟨z,C,xs,rel,J⟩:=GU I.hok e;have p:xs.length<=sizeLine:=by rw[←Paired.length rel];exact z
  have B:(putK f k v).length<=sizeLine:=by have:=SJ f k v;omega
  refine wpAny_setItem_heap (hsz:=p) (tupleKind_room_in1 hu) (SZ I.hok U) J λN n x=>h _ ?_;obtain⟨q,es,ep,hq,h2,h3,h4,_,h5⟩:=n;refine BD I (by rw[e];exact True.intro) x ⟨q,hq⟩ ⟨B,C,_,(rel.put k U rv).keeps λc ys T=>?_,q,es,ep,hq,h2,h3,h4,h5⟩;rw[JX (Ad T e (λz=>nomatch z))];exact T
end
noncomputable def A1(g h:TE):TE:=λb H Q=>g b H λy l=>h b l λx f=>∃a o,x=.ref a/\DGet f a y o/\Q (.bl (!o.isSome)) f
noncomputable def D4(h g tv:TE):TS:=λD b H=>tv b H λv o=>h b o λx n=>g b n λy l=>∃a f,x=.ref a/\DPut l a y v f/\D.nx b f
section
variable {X:Cx}{o i e value:Expr}{pos pos' tpos:Pos}{td ty tv:TE}
def Rc(v:X.A.units+1<cLine)(z:PE X i ty)(w:PE X o td):PC X .NotIn i o (A1 ty td):=by
 intro pins s b H Q I h;refine thn (z pins s b H _ I h) ?_;rintro T f ⟨y,L,G,l,q⟩;refine thn (w pins f b L _ G q) ?_;rintro u N ⟨x,J,E,n,a,r,B,g,p⟩;subst B;obtain rfl:u=Value.ref a:=n;exact Mn v E g l λM C=>⟨.bl (!r.isSome),J,C,rfl,p⟩
def OM(E:X.A.units+1<cLine)(J:PE X o td)(L:PE X i ty)(C:PE X value tv)(G:swapsWith value (some<|.Subscript o i pos') pos.line X.env=pure false) :
  PS X (.Assign [.Subscript o i pos'] value pos) (D4 td ty tv):=by
 intro pins s b H D I h;refine wpAny_Assign_Subscript (thn (C pins s b H _ I h) ?_) G;rintro r l ⟨v,H1,U,q,B⟩;refine thn (J pins l b H1 _ U B) ?_;rintro u f ⟨x,H2,T,p,z⟩;refine thn (L pins f b H2 _ T z) ?_;rintro iv s3 ⟨y,H3,Q,n,a,Y,M,g,w⟩;subst M;obtain rfl:u=Value.ref a:=p;exact Rl E Q g n q λs4 N=>⟨b,Y,N,w⟩
end
def OP{P:Program}{w:World}{H:Hp}(h:Heap)(b:sysModules<h.objs.size):ObjOk P w H (h.push {cls:=.type "dict",data:=.dict #[]}) h.objs.size (.dK []):=
 ⟨WX _,Qt.mpr (Ne.symm<|Wt b),[],.nil,Heap.DictOf.new h⟩
noncomputable def Fd:TE:=λ_ H Q=>∀p,H p=none->Q (.ref p) (upd H p<|.dK [])
section
variable {X:Cx}{pos:Pos}
def O1:PE X (.Dict [] [] pos) Fd:=λpins s b H Q I h=>
 wpAny_Dict_empty ⟨.ref s.heap.objs.size,_,I.laid (a:=s.heap.objs.size) (o:=.dK []) (t':=s.toks) (λ_ _ q=>YX _ q) (Wf _) (OP s.heap I.big),rfl,h _ (I.hok.fresh<|Wf _)⟩
end
end L2
set_option genInjectivity false
set_option genSizeOfSpec false
namespace Own
open L2
structure Def (K:ZV) (mg:ZZ) (x:Str) (st:Stmt) (ps:Ye):Prop where
 ex:∃f fd,Fun K x x st f fd/\mg x=some (.ref f)/\Binds K fd ps []
structure Callee (P:Program) (w:World) (K:ZV) (mg:ZZ) (base:Heap) (CX:CXT) (k:Nat) (x:Str) (ps:Ye) (sp:Sp):Prop where
 ex:∃f fd,UN P w K mg base CX k f fd ps sp/\mg x=some (.ref f)/\PySem.W.keepIn K (.ref f)=true/\(∃o:Obj,K.lookup f=some o/\o.data=.func fd)/\Binds K fd ps []
section
variable {P:Program}{w:World}{K:ZV}{mg:ZZ}{base:Heap}
def Callee.at {st f b k ps sp} (C:Callee P w K mg base CX k x ps sp) (s:mg x=some (.ref f)) (F:Fun K x x st f b) (_:Def K mg x st ps):UN P w K mg base CX k f b ps sp:=by
 obtain⟨v,l,A,h,_,u,_⟩:=C.ex;obtain⟨oc,q,kV,n,p,z,o,y,g,_,r,_⟩:=F.ex
 grind
def Def.ok {st N ps k sp} (D:Def K mg x st ps) (S:JY N ps (JT st)) (len:∀vs H Q E,sp vs H Q E->vs.length=ps.length)
  (g:∀f b A outer s H vs Q E,JZ k (A.deeper<|envOfC x (JT st) s.heap.objs.size f b)->sp vs H Q E->
   ∃t,PSs (U1 CX0 P w K mg base N x (JT st) f b A outer s H E).nox (Uw st) t/\t {nx:=λ_ H'=>Q .non H',rt:=Q} (start N vs) H):Callee P w K mg base CX0 (k+1) x ps sp:=by
 obtain⟨f,q,F,o,p⟩:=D.ex;refine⟨f,q,F.ok S len λb A outer s H vs Q E n h=>g f b A outer s H vs Q E n h,o,F.kp,?_,p⟩;obtain⟨oc,v,kV,r,u,B,b,z,l,_,y,_⟩:=F.ex
 grind
end
section
variable {X:Cx}{CX:CXT}{k:Nat}{ps:Ye}{sp:Sp}{E:XK}{x:Str}{p pos:Pos}{e:Expr}{es:Yf}{t:TA}
def D8(C:Callee X.prog X.w X.K X.mg X.base CX k x ps sp)(h:JZ k X.A)(hx:Xj CX X E)(s:PA X (e::es) t)(o:autoParam (Gl X x) au_0)(g:autoParam ((x==("__debug__" : Str))=false) au_1)(q:autoParam (starEach (e::es) X.env=(false,eval e X.env)::starEach es X.env) au_0)(b:autoParam ((backTo pos<|starEach es X.env).any (·.1)=false) au_0) :
  PE X (.Call (.Name x p) (e::es) [] pos) (PM sp [] E t):=by
 obtain⟨f,u,F,l,n,_,r⟩:=C.ex;exact HM F h o l n r .nil hx s g q b
def MY:IxR X (λx y H Q=>KO X.K x y H Q\/KS X.K x y H Q):=ix_list.or RJ
end
noncomputable def Fz(t u:TS):TS:=λD g H=>∃J:L2.St->Hp->Prop,t {D with nx:=J} g H/\∀b f,J b f->u D b f
def Ri{st rest t u}(p:PS X st t)(o:PSs X rest u):PSs X (st::rest) (Fz t u):=by
 intro pins s l H D I h;obtain⟨J,h,k⟩:=h;refine wpAny_execs_cons (thn (p pins s l H {D with nx:=J} I h) λf n q=>?_)
 cases f with
 |next=>
  obtain⟨b,g,r,q⟩:=q;exact o pins n b g D r (k b g q)
 |_=>exact q
def PY{xs i v}(h:atI xs i=some v):atI (xs.map f) i=some (f v):=by
 unfold atI at h ⊢;cases e:ixN xs.length i with
 |_=>grind
def Sj{i v}(b:0<=i)(h:xs[i.toNat]?=some v):atI xs i=some v:=by
 have:=Ex h
 grind
def UB(h:H a=none):Same H (upd H a o):=λb u e=>by rw[JX (UF e h)];exact e
def Same.upd (S:Same H H') (h:H a=none):Same H (upd H' a o):=λb u e=>by rw[JX (UF e h)];exact S b u e
def Same.new (S:Same H H') (h:H' a=none):Same H (L2.upd H' a o):=Own.Same.upd S (S.free h)
def Rg(names:List (Str×NameKind))(f:∀x∈names,x.2=.free->∃c,env.cells.lookup x.1=some c):∀b,(∀x c,b.lookup x=some c->env.cells.lookup x=some c)->
  ∃g,(forIn names b (λx w=>if (x.2 == .free)=true then(do let c ←cellOf env x.1;pure (ForInStep.yield ((x.1,c)::w)))else pure (ForInStep.yield w)):Sem (Yj))=pure g/\
   (∀x c,g.lookup x=some c->env.cells.lookup x=some c)/\(∀x,(∃c,b.lookup x=some c)->∃c,g.lookup x=some c)/\∀x∈names,x.2=.free->∃c,g.lookup x.1=some c:=by
 induction names with
 |nil=>
  intro b p;exact⟨b,rfl,p,λ_ h=>h,λx hx=>by cases hx⟩
 |cons y r z=>
  intro b p;have l:=z λx hx=>f x (Wm _ hx);obtain⟨n,k⟩:=y;by_cases u:k=.free
  ·subst u;obtain⟨c,v⟩:=f (n,.free) W3 rfl
   have A:∀x d,List.lookup x ((n,c)::b)=some d->env.cells.lookup x=some d:=λx d e=>by
    rw[WT]at e;by_cases hx:x=n
    ·subst hx;simp at e;subst e;exact v
    ·have:(x==n)=false:=by simpa using hx
     rw[this]at e;exact p x d e
   obtain⟨g,e,s,p2,q⟩:=l ((n,c)::b) A;refine⟨g,?_,s,λx hx=>p2 x ?_,λx hx o=>?_⟩
   ·rw[List.forIn_cons];have B:cellOf env n=pure c:=by unfold cellOf;rw[v]
    rwa[B]
   ·rw[WT];cases (x==n)
    ·exact hx
    ·exact⟨c,rfl⟩
   ·rcases Wk.mp hx with rfl|hx
    ·exact p2 n ⟨c,by simp[WT]⟩
    ·exact q x hx o
  ·obtain⟨g,e,s,p2,q⟩:=l b p;refine⟨g,?_,s,p2,λx hx o=>?_⟩
   ·grind
   ·rcases Wk.mp hx with rfl|hx
    ·exact absurd o u
    ·exact q x hx o
def L4{sc}(b:∀x∈sc.names,x.2=.free->∃c,env.cells.lookup x.1=some c) :
  ∃f,closureFor sc env=pure f/\(∀x c,f.lookup x=some c->env.cells.lookup x=some c)/\∀x∈sc.names,x.2=.free->∃c,f.lookup x.1=some c:=by
 obtain⟨f,e,l,_,g⟩:=Rg sc.names b [] (λx c h=>by cases h);unfold closureFor
 grind
noncomputable def U6(X:Cx)(N':Ye)(g:Scope)(h:Yj)(C:Addr)(b:Shared)(f:Hp)(ex:List Addr):Cx:=
 {X with N:=N',s₀:=b,H₀:=f,env:=compEnvC g h C X.env,outer:=X.stack,ex:=ex,fn:=λ_=>false,pn:=[],xe:=λ_ _=>False}
structure Pv (X:Cx) (N':Ye) (φ:Yb) (sc:Scope):Prop where
 kind:sc.kind=.function
 okind:X.env.scope.kind=.function
 nocell:∀y∈sc.names,y.2≠.cell
 names:∀y∈sc.names,y.2=.local->sc.names.lookup y.1=some .local
 frees:∀y∈sc.names,y.2=.free->X.env.scope.names.lookup y.1=some .cell
 len:φ.length=N'.length
 pick:∀(i:Nat) (x:Str) (j:Nat),N'[i]?=some x->φ[i]?=some (some j)->X.N[j]?=some x/\sc.names.lookup x=some .free
noncomputable def atStart(φ:Yb)(b:L2.St):L2.St:=φ.map λo=>o.bind λj=>(b[j]?).join
def Sub(f b:L2.St):Prop:=b.length=f.length/\∀(i:Nat) (v:V),f[i]?=some (some v)->b[i]?=some (some v)
def Sub.refl:Sub b b:=⟨rfl,λ_ _ h=>h⟩
def Sub.skip (h:Sub f b):Sub (none::f) (x::b):=by
 refine⟨by simp[h.1],λi v e=>?_⟩;cases i with
 |zero=>grind
 |succ i=>simp at e ⊢;exact h.2 i v e
theorem FP{env:Env}(o:env.scope.kind=.function):∀{names:List (Str×NameKind)}{x:Str},names.lookup x=some .free->env.scope.names.lookup x=some .cell->
  (names.map λ(n,k)=>if (k==NameKind.free&&env.scope.kind == .function&&env.kindOf n==some .cell)then(n,NameKind.cell)else(n,k)).lookup x=some .cell
 |[],_,h,_=>by simp at h
 |(n,k)::r,x,h,f=>by
  have g:=@FP env o r x;show List.lookup x ((if (k==NameKind.free&&env.scope.kind == .function&&env.kindOf n==some .cell)=true then(n,NameKind.cell)else(n,k))::_)=_;cases hx:x==n with
  |true=>
   have l:env.kindOf x=some .cell:=f;simp_all
  |false=>
   simp only[WT,hx]at h;by_cases b:(k==NameKind.free&&env.scope.kind == .function&&env.kindOf n==some .cell)=true
   ·rw[Wc b];simp only[WT,hx];exact g h f
   ·rw[YV b];simp only[WT,hx];exact g h f
theorem SK{env:Env}:∀{names:List (Str×NameKind)}{x}{q:NameKind},
  (names.map λ(n,k)=>if (k==NameKind.free&&env.scope.kind == .function&&env.kindOf n==some .cell)then(n,NameKind.cell)else(n,k)).lookup x=some q->∃k,(x,k)∈names/\(q=k\/k=.free)
 |[],_,_,h=>by simp at h
 |(n,k)::r,x,q,h=>by
  have f:List.lookup x ((if (k==NameKind.free&&env.scope.kind == .function&&env.kindOf n==some .cell)=true then(n,NameKind.cell)else(n,k))::(r.map λ(n,k)=>if (k==NameKind.free&&env.scope.kind == .function&&env.kindOf n==some .cell)then(n,NameKind.cell)else(n,k)))=some q:=h;cases hx:x==n with
  |true=>
   have e:x=n:=by simpa using hx
   subst e;by_cases b:(k==NameKind.free&&env.scope.kind == .function&&env.kindOf x==some .cell)=true
   ·simp_all
   ·simp_all
  |false=>
   have o:List.lookup x (r.map λ(n,k)=>if (k==NameKind.free&&env.scope.kind == .function&&env.kindOf n==some .cell)then(n,NameKind.cell)else(n,k))=some q:=by
    by_cases b:(k==NameKind.free&&env.scope.kind == .function&&env.kindOf n==some .cell)=true
    ·rw[Wc b]at f;simp only[WT,hx]at f;exact f
    ·rw[YV b]at f;simp only[WT,hx]at f;exact f
   obtain⟨g,l,hq⟩:=(@SK env r x q) o;exact⟨g,Wm _ l,hq⟩
def Mu{H target iter B scope pos L J env}(I:Nat->Shared->Prop)
  (turn:∀n s,I n s->wpAny (model prog w) A (pyNext L) (λr g=>match r with
   |none=>R (.ok .next) g
   |some v=>wpAny (model prog w) A (letOwnedTupleGo target L v) (λ_ f=>wpAny (model prog w) A (assign target env v) (λ_ q=>
     wpAny (model prog w) A (forIn B true λc r=>if r=true then do let ok ←isTrue c env (eval c env);pure (ForInStep.yield ok)else pure (ForInStep.yield r)) (λok b=>
      if ok=true then wpAny (model prog w) A (eval H env) (λx p=>
       wpAny (model prog w) A (call (.builtin "list.append") [J,x]) (λ_ o=>∃m,m<n/\I m o) (λ_ _=>False) p) (λ_ _=>False) b
      else ∃m,m<n/\I m b) (λ_ _=>False) q) (λ_ _=>False) f) (λ_ _=>False) g) (λ_ _=>False) s)
  (n:Nat) (h:I n s) :
  codeAny (model prog w) A (.compLoop (.ListComp H [⟨target,iter,B,0⟩] scope pos) 0 L J env) R s:=by
 refine codeAny_loop rfl I (λn s M=>?_) n h;refine wpAny_noted ?_;rw[compTurn_list];refine YT (QW<|YT (Wx (turn n s M) (λr g y=>?_) λ_ _ l=>l.elim));cases r with
 |none=>exact Wb y
 |some v=>
  refine YT (Wx y (λ_ f z=>?_) λ_ _ l=>l.elim);refine YT (Wx z (λ_ q G=>YT (Wx G (λok b u=>?_) λ_ _ l=>l.elim)) λ_ _ l=>l.elim);cases ok with
  |false=>exact Wb ⟨rfl,u⟩
  |true=>
   exact YT (YT (Wx u (λx p E=>YT (Wx E (λ_ o C=>Wb (Wb ⟨rfl,C⟩)) λ_ _ l=>l.elim)) λ_ _ l=>l.elim))
def KF(X:Cx)(f:Yf)(t:TT):Prop:=
 ∀(pins:ZY) (s:Shared) (b:L2.St) (H:Hp) (Q:Bool->Hp->Prop),Inv X pins b H s->t b H Q->
  wpAny (model X.prog X.w) X.A (forIn f true λc r=>if r=true then do let ok ←isTrue c X.env (eval c X.env);pure (ForInStep.yield ok)else pure (ForInStep.yield r)) (TP X pins b Q) X.xe s
noncomputable def Az:TT:=λ_ H Q=>Q true H
def TL:KF X [] Az:=λ_ _ _ H _ I h=>Wb ⟨H,I,h⟩
def Al(g:PT X c t):KF X [c] t:=by
 intro pins s f H Q I h;rw[List.forIn_cons];refine YT ?_;exact YT (thn (g pins s f H Q I h) λb l q=>Wb (Wb q))
noncomputable def Pn(φ:Yb)(u:TI)(g:TG)(tc:TT)(te:TE):TE:=λo H Q=>u o H λJ s=>∀D,s D=none->∃W:Nat->Nat->List V->Hp->Prop,(∃m,W 0 m [] (upd s D<|.lst []))/\
 ∀i m h n,W i m h n->(J.stop i n/\Q (.ref D) n)\/(J.go i n/\∀x r,J.yld i n x r->g x (atStart φ o) r λf v=>Sub (atStart φ o) f/\tc f v λb q=>
  if b=true then te f q λy p=>p D=some (.lst h)/\h.length<sizeLine/\∃l,l<m/\W (i+1) l (h++[y]) (upd p D<|.lst (h++[y]))else ∃l,l<m/\W (i+1) l h q)
def Inv.weak {f b:L2.St}{H}{s} (I:Inv X pins b H s) (S:Sub f b):Inv X pins f H s:=
 ⟨I.ok,I.os,I.bare,I.base,let ⟨m,g,h⟩:=I.loc;⟨m,g,λi x v o n l=>h i x v o (S.2 i v n) l⟩,I.cell,I.free,I.freeC,I.pin,I.hok,by rw[←S.1];exact I.len⟩
def B3{i:Nat}{v}(h:(atStart φ b)[i]?=some (some v)):∃j,φ[i]?=some (some j)/\b[j]?=some (some v):=by
 unfold atStart at h;cases e:φ[i]? with
 |none=>grind
 |some o=>
  cases o with
  |_=>grind
def CompEnd(X:Cx)(pins:ZY)(g:L2.St)(Q:VK)(use:Option (Value->Sem Unit))(h:Ya):Prop:=
 ∀(D C:Addr) (f:Hp) (b:Shared),Q (.ref D) f->Inv X pins g f b->(∃m,b.heap.Ns C m)->f C=none->C≠X.env.locals->X.s₀.heap.objs.size<=C->(∀x c,X.env.cells.lookup x=some c->c≠C)->(∀p∈X.pn++pins,p.1≠C)->C∉X.fs->
  compPost (model X.prog X.w) X.A X.xe use h (.ref D) C (.ok .next) b
def AF{elt iter tg}{ifs}{pos pos'}{wi}{g}{tc}{te}{use}{QQ}(hcalm:X.calm=true)(S:Pv X N' φ G)(hi:PI X tg iter wi)(hin:∀U C s₃ H₃ ex,PG (U6 X N' G U C s₃ H₃ ex) tg g/\KF (U6 X N' G U C s₃ H₃ ex) ifs tc/\PE (U6 X N' G U C s₃ H₃ ex) elt te)(hs:∀x,foldedSetIterable iter X.env x=pure x){pins}{s}{σ:L2.St}{H}{Q}(I:Inv X pins σ H s)(h:Pn φ wi g tc te σ H Q)(fin:CompEnd X pins σ Q use QQ) :
  wpAny (model X.prog X.w) X.A (comprehension (.ListComp elt [⟨tg,iter,ifs,0⟩] G pos) G X.env pos' (newList []) false (eval iter X.env) use) QQ X.xe s:=by
 obtain⟨U,hcl,p1,p3⟩:=L4 λx hx hf=>I.ok.has x.1 (.inl<|S.frees x hx hf);refine wpAny_comprehension_free rfl hs hcl S.kind S.names ?_;refine thn (hi pins s σ H _ I h) λv s1 h1=>thn h1 λitv s2 h2=>?_;obtain⟨it,L,tn,J,H2,e,I2,T,st2,f2,hR⟩:=h2;subst e;refine WN ?_;have hf:=I2.hok.fresh (Wf _);obtain⟨W,⟨m0,w0⟩,turn⟩:=hR s2.heap.objs.size hf;generalize eD:s2.heap.objs.size=D at *
 have I3:Inv X pins σ (upd H2 D<|.lst []) {s2 with heap:=s2.heap.push {cls:=.type "list",dict:=none,data:=.seq ([]:Yd).toArray}}:=
  I2.laid (λb u e=>YX _ e) (Qc eD) ⟨WX _,[],0,.nil,by rw[←eD];exact Wl _ rfl⟩
 have st3:tn 0 (s2.heap.push {cls:=.type "list",dict:=none,data:=.seq ([]:Yd).toArray}):=T.keep _ _ _ st2 λb _ o e=>YX _ e
 have hfpD:∀b∈L,b≠D:=λb f z=>by
  obtain⟨o,ho,_⟩:=T.obj _ _ st2 b f
  have:=Wd ho
  rw[z,←eD]at this;exact WR _ this
 have f3:∀b∈L,K4 X pins (upd H2 D<|.lst []) b:=λb f=>⟨by rw[JX (hfpD b f)];exact(f2 b f).1,(f2 b f).2⟩;generalize es3:({s2 with heap:=s2.heap.push {cls:=.type "list",dict:=none,data:=.seq ([]:Yd).toArray}}:Shared)=l at *
 have st3':tn 0 l.heap:=by rw[←es3];exact st3
 generalize eH3:upd H2 D (.lst [])=H3 at *;refine wpAny_newFunctionEnv S.nocell (by intro y hy;simp at hy) (λh₁ E B=>?_) S.kind;have hh3:l.heap=s2.heap.push {cls:=.type "list",dict:=none,data:=.seq ([]:Yd).toArray}:=by rw[←es3]
 rw[hh3]at E B;rw[←hh3]at E B;have old:=λb o e=>B.extBut b o (Wt<|Wd e) (YX _ e)
 have hC0:l.heap.get? l.heap.objs.size=none:=by
  cases e:l.heap.get? l.heap.objs.size with
  |none=>rfl
  |some o=>exact absurd (Wd e) (WR _)
 generalize eC:l.heap.objs.size=C at *;have hH3C:=I3.hok.fresh (Qc eC)
 have OK:(U6 X N' G U C l H3 L).Ok:=by
  refine⟨I.ok.mod,?_,I.ok.glob,I.ok.blt,Qc eC,λx y c h1 h2=>I.ok.inj x y c (p1 x c h1) (p1 y c h2),?_,(λx c hx=>by cases hx),I.ok.hd,I.ok.frames,.inl rfl,?_,I3.bs,Wi I.ok.bsz I3.sz,?_,?_,I3.stack,I3.stkFree⟩
  ·exact S.kind
  ·intro x hx;have hx':=hx.imp SK SK
   have hfr:(x,NameKind.free)∈G.names:=by
    rcases hx' with⟨k,hm,rfl|rfl⟩|⟨k,hm,rfl|rfl⟩
    ·exact absurd rfl (S.nocell _ hm)
    ·exact hm
    ·exact hm
    ·exact hm
   exact p3 _ hfr rfl
  ·intro b f;refine⟨λz=>?_,λx c hx=>(f3 b f).2.2.2.2.1 x c (p1 x c hx)⟩;obtain⟨o,ho,_⟩:=T.obj _ _ st3' b f;have z':b=C:=z;rw[z',hC0]at ho;cases ho
  ·intro b o f hx;obtain⟨_,_,_,q,_,_⟩:=f3 b hx;rcases q with q|q
   ·exact I.ok.noex b o f q
   ·have:=Ws (Wd f) (Wi I.ok.bsz q)
    exact WR _ this
  ·intro b f hz;rcases Wk.mp (I.stkSub b hz)with q|q
   ·exact(f3 b f).2.1 q
   ·exact(f3 b f).2.2.1 q
 have hlen0:(atStart φ σ).length=N'.length:=by unfold atStart;rw[YU];exact S.len
 have I4:Inv (U6 X N' G U C l H3 L) [] (atStart φ σ) H3 {l with heap:=h₁,toks:=l.toks+([]:List (Str×Value)).length}:=by
  refine⟨OK,rfl,I3.bare,Un.kept old,⟨_,E,λi x v h1 h2 h3=>?_⟩,λx c hx=>?_,hH3C,λx c hx=>I3.freeC x c (p1 x c hx),λp hp=>?_,I3.hok.kept old,hlen0⟩
  ·obtain⟨j,hj,hv⟩:=B3 h2;obtain⟨hN,hfr⟩:=S.pick i x j h1 hj;obtain⟨m,_,hl⟩:=I3.loc;have hm:=Qa hfr;have M:=S.frees _ hm rfl;obtain⟨u,ru,lk⟩:=hl j x v hN hv (.inr<|.inl M);refine⟨u,ru,.inr ⟨.inl (FP S.okind hfr M),?_⟩⟩;obtain⟨c,hc⟩:=p3 _ hm rfl;rcases lk with⟨hk,_⟩|⟨_,c',hc',hcl'⟩
   ·have hk':X.env.scope.names.lookup x=some .local:=hk;rw[M]at hk';cases hk'
   ·have e:=p1 _ _ hc;rw[hc']at e;cases e
    obtain⟨o,ho,hd⟩:=hcl';exact⟨_,hc,o,old _ o ho,hd⟩
  ·obtain⟨v,hv⟩:=I3.cell x c (p1 x c hx);obtain⟨o,ho,hd⟩:=hv;exact⟨v,o,old _ o ho,hd⟩
  ·exact absurd hp (by simp[U6])
 have st4:=T.keep _ _ _ st3' λb _ o e=>old b o e
 have stat:∀{H':Hp},(∀b∈L,H' b=none)->∀b∈L,K4 (U6 X N' G U C l H3 L) [] H' b:=λhn b f=>
  ⟨hn b f,(OK.exf b f).1,OK.exfs b f,.inl f,(OK.exf b f).2,λp hp=>absurd hp (by simp[U6])⟩
 obtain⟨hPG,hPI,hPE⟩:=hin U C l H3 L
 have loop:codeAny (model X.prog X.w) X.A (.compLoop (.ListComp elt [⟨tg,iter,ifs,0⟩] G pos) 0 (.ref it) (.ref D)<|compEnvC G U C X.env) (compPost (model X.prog X.w) X.A X.xe use QQ (.ref D) C) {l with heap:=h₁,toks:=l.toks+([]:List (Str×Value)).length}:=by
  refine Mu (λn s'=>∃i ys σ' H',Inv (U6 X N' G U C l H3 L) [] σ' H' s'/\Sub (atStart φ σ) σ'/\tn i s'.heap/\(∀b∈L,H' b=none)/\W i n ys H') ?_ m0 ⟨0,[],_,_,I4,Sub.refl,st4,λb f=>(f3 b f).1,w0⟩;rintro n s5 ⟨i,ys,σ5,H5,I5,sub5,st5,fr5,w5⟩;have I5':=Own.Inv.weak I5 sub5;rcases turn i n ys H5 w5 with⟨stop,qn⟩|⟨go,step⟩
  ·refine thn (T.done (U6 X N' G U C l H3 L) rfl rfl rfl hcalm i [] s5 _ H5 _ I5' (stat fr5) st5 stop) ?_;rintro r s6 ⟨hr,I6⟩;subst hr;obtain⟨m,hn,_⟩:=I6.loc;obtain⟨hh,gg,dd,tt,oo⟩:=s6;obtain rfl:=I6.os;have R:Inv X pins σ H5 {l with heap:=hh,gens:=gg,drawn:=dd,toks:=tt}:=I3.call I6.base I6.hok I6.bare λb f=>⟨(f3 b f).2.2.2.1,(f3 b f).2.1,(f3 b f).2.2.2.2.1,(f3 b f).2.2.2.2.2⟩
   have hC3:=Qc eC;obtain⟨q0,q1,q2,q3,q4,q5⟩:=I3.fpOk hC3 hH3C;refine fin D C H5 _ qn R ⟨m,hn⟩ I6.free q1 (Wi I3.sz hC3) q4 q5 q2
  ·refine thn (T.item (U6 X N' G U C l H3 L) rfl rfl rfl hcalm i [] s5 _ H5 _ I5' (stat fr5) st5 go) ?_;rintro r s6 ⟨u,hr,h6⟩;subst hr;refine thn h6 ?_;rintro _ s7 ⟨x,H7,I7,r7,y7,st7,fr7⟩;have I7':=I7.pinned (stat fr7) (T.obj _ _ st7);refine thn (hPG _ s7 _ H7 x u _ I7' r7<|step x H7 y7) ?_;rintro _ s8 ⟨σ8,H8,I8,sub8,q8⟩;refine thn (hPI _ s8 σ8 H8 _ I8 q8) ?_;rintro ok s9 ⟨H9,I9,q9⟩
   have again:∀{Y:Shared} {N:Hp} {ys':List V} {m':Nat},Inv (U6 X N' G U C l H3 L) ([]++P6 L s7.heap) σ8 N Y->W (i+1) m' ys' N->∃i ys σ' H',Inv (U6 X N' G U C l H3 L) [] σ' H' Y/\Sub (atStart φ σ) σ'/\tn i Y.heap/\(∀b∈L,H' b=none)/\W i m' ys H':=λ{Y N ys' m'} J10 w10=>by
    refine⟨i+1,ys',σ8,N,J10.unpinned,sub8,T.keep _ _ _ st7 λb f o e=>(J10.pin (b,o)<|Wo _<|Wo _<|Nl f e).1,λb f=>?_,w10⟩;obtain⟨o,e,d⟩:=T.obj _ _ st7 b f;exact(J10.pin (b,o)<|Wo _<|Wo _<|Nl f e).2.1
   cases ok with
   |false=>
    obtain⟨m',hm,w'⟩:=q9;exact⟨m',hm,again I9 w'⟩
   |true=>
    refine thn (hPE _ s9 σ8 H9 _ I9 q9) ?_;rintro xv Y ⟨y,N,I10,r10,hD,hl,m',hm,w'⟩;refine thn (PZ _ Y σ8 N (.ref D) [y] (.ref D) [xv] (λ_ H11=>H11=upd N D (.lst (ys++[y]))) I10 rfl (.cons r10 .nil) ⟨D,ys,y,rfl,rfl,hD,hl,rfl⟩) ?_;rintro _ s11 ⟨_,H11,I11,_,e11⟩;subst e11;exact⟨m',hm,again I11 w'⟩
 refine codeAny_compStart_list loop (T.self _ 0 _ _ _ st4 loop)
def N6{r iter v p pos z g tc te}(n:X.calm=true)(S:Pv X N' φ u)(J:PI X v iter z)(w:∀y C f l ex,PG (U6 X N' u y C f l ex) v g/\KF (U6 X N' u y C f l ex) p tc/\PE (U6 X N' u y C f l ex) r te)(B:autoParam (∀x,foldedSetIterable iter X.env x=pure x) au_3):PE X (.ListComp r [⟨v,iter,p,0⟩] u pos) (Pn φ z g tc te):=by
 intro pins s σ H Q I h;refine AF n S J w B I h λD C H5 s6 q R G Y U T N M c5=>?_;obtain⟨m,E⟩:=G;exact⟨m,E,λh' A=>⟨.ref D,H5,R.turned (λb o L e=>A.extBut b o L e) Y U (.inr T) N M,rfl,q⟩⟩
def OZ{u iter A n pos spos py M g tc te i y}(hN:X.N.Nodup)(hy:X.N[i]?=some y)(Q:X.env.scope.names.lookup y=some .local)(r:X.calm=true)(S:Pv X N' φ w)(hi:PI X A iter M)(G:∀L C f l ex,PG (U6 X N' w L C f l ex) A g/\KF (U6 X N' w L C f l ex) n tc/\PE (U6 X N' w L C f l ex) u te)(hs:autoParam (∀x,foldedSetIterable iter X.env x=pure x) au_3)(E:autoParam (swapsWith (.ListComp u [⟨A,iter,n,0⟩] w pos) (some<|.Name y py) spos.line X.env=pure true) au_0) :
  PS X (.Assign [.Name y py] (.ListComp u [⟨A,iter,n,0⟩] w pos) spos) (Tx (Pn φ M g tc te)<|Pj i):=by
 intro pins s Y H D0 I h;rw[exec_Assign_Name_used _ _ _ _ E];refine YT (QW<|YT ?_);refine YT (Wx (AF r S hi G hs I h λD C U s6 q R hm c0 c1 c2 c3 c4 c5=>?_) (λ_ s' z=>Wb (Wb z)) λ_ _ e=>e);obtain⟨m,B,es,ep,hoC,J,rC⟩:=hm
 have R2:Inv X (pins++[(C,B)]) Y U s6:=R.pins_of λp hp=>(Wu.mp hp).elim (λz=>R.pin p (Wo _ z)) λz=>by
  grind
 refine wpAny_assign_Name (Tv R2 hN hy (.inl Q) (v:=.ref D) rfl (λs7 T=>?_)<|.inr Q);refine⟨m,⟨B,es,ep,((T.pin (C,B)<|Wo _<|Wo _<|YW.mpr rfl).1),J,rC⟩,λh' sb=>?_⟩;exact⟨_,U,T.unpinned.turned (λb o hb e=>sb.extBut b o hb e) c0 c1 (.inr c2) c3 c4,q⟩
noncomputable def PB(sc b:Scope)(N N':Ye)(φ:Yb):Bool:=
 sc.kind == .function&&b.kind == .function&&(sc.names.all λy=>y.2 != .cell&&(y.2 != .local || sc.names.lookup y.1==some .local)&&(y.2 != .free || b.names.lookup y.1==some .cell)) &&
  φ.length==N'.length&&((N'.zip φ).all λp=>match p.2 with|none=>true|some j=>N[j]? == some p.1&&sc.names.lookup p.1==some .free)
def Pv.of {N'}{φ f} (h:PB f X.env.scope X.N N' φ=true):Pv X N' φ f:=by
 unfold PB at h;simp only[W6,beq_iff_eq,WA,Vj,bne_iff_ne,ne_eq]at h;obtain⟨⟨⟨⟨s,r⟩,q⟩,p⟩,o⟩:=h;refine⟨s,r,λy b=>(q y b).1.1,λy b u=>?_,λy b v=>?_,p,λi x j n l=>?_⟩
 ·grind
 ·grind
 ·have g:(N'.zip φ)[i]?=some (x,some j):=by rw[List.getElem?_zip_eq_some];exact⟨n,l⟩
  have:=o _ (Wj g)
  grind
end Own
namespace SetR
open L2
def Ris(xs:Array Nat):Prop:=∀i j,i<j->j<xs.size->xs.getD i 0<xs.getD j 0
def FL{xs:Array Nat}{i a b}(h:i<xs.size):xs.getD i a=xs.getD i b:=by grind
def MK(R:Ris xs)(j:Nat):∀fuel lo f,f-lo<=fuel->lo<=f->f<=xs.size->(∀k,k<lo->xs.getD k 0<j)->(∀k,f<=k->k<xs.size->j<=xs.getD k 0)->
  let r:=SetTable.below.go xs j fuel lo f
  r<=xs.size/\(∀k,k<r->xs.getD k 0<j)/\∀k,r<=k->k<xs.size->j<=xs.getD k 0:=by
 intro fuel
 induction fuel with
 |zero=>
  intro lo f w v n l h;have e:lo=f:=by lia
  subst e;exact⟨n,l,h⟩
 |succ fuel q=>
  intro lo f w v n l h;show(let r:=(if lo<f then(if xs.getD ((lo+f) / 2) j<j then SetTable.below.go xs j fuel ((lo+f) / 2+1) f else SetTable.below.go xs j fuel lo ((lo+f) / 2))else lo);r<=xs.size/\(∀k,k<r->xs.getD k 0<j)/\∀k,r<=k->k<xs.size->j<=xs.getD k 0);by_cases s:lo<f
  ·rw[Wc s];have o:(lo+f) / 2<xs.size:=by lia
   by_cases g:xs.getD ((lo+f) / 2) j<j
   ·rw[Wc g];refine q _ _ (by lia) (by lia) n (λk u=>?_) h;rw[FL o]at g;by_cases e:k=(lo+f) / 2
    ·rw[e];exact g
    ·exact Q0 (R k _ (by lia) o) g
   ·rw[YV g];refine q _ _ (by lia) (by lia) (by lia) l (λk u p=>?_);rw[FL (b:=0) o]at g;by_cases e:k=(lo+f) / 2
    ·rw[e];lia
    ·have:=R _ k (show(lo+f) / 2<k by lia) p
     lia
  ·rw[YV s];have e:lo=f:=by lia
   subst e;exact⟨n,l,h⟩
def Dc(R:Ris xs)(j:Nat):SetTable.below xs j<=xs.size/\(∀k,k<SetTable.below xs j->xs.getD k 0<j)/\∀k,SetTable.below xs j<=k->k<xs.size->j<=xs.getD k 0:=
 MK R j xs.size 0 xs.size (by simp) (by simp) (by simp) (λk b=>by lia) (λk g f=>by lia)
def GC(R:Ris xs){i}(f:i<=xs.size){slot}(l:∀k,k<i->xs.getD k 0<slot)(g:∀k,i<=k->k<xs.size->slot<=xs.getD k 0):SetTable.below xs slot=i:=by
 obtain⟨a,b,c⟩:=Dc R slot;rcases Nat.lt_trichotomy (SetTable.below xs slot) i with h|h|h
 ·grind
 ·lia
 ·grind
def Rise(xs:Array Nat):Prop:=xs.toList.Pairwise (· < ·)
def Rise.ris (h:Rise xs):Ris xs:=by
 intro i j b f;have g:i<xs.size:=by lia
 have:=(WJ.mp h) i j (by omega) (by omega) b
 simp_all
def Ik(h:Rise xs)(u:xs[SetTable.below xs j]?≠some j):Rise (SetTable.insertAt xs (SetTable.below xs j) j):=by
 obtain⟨a,b,c⟩:=Dc h.ris j;generalize SetTable.below xs j=p at *;unfold Rise;rw[SetTable.toList_insertAt];refine List.pairwise_append.mpr ⟨h.sublist (Vs _ _),List.pairwise_cons.mpr ⟨λy g=>?_,h.sublist (List.drop_sublist _ _)⟩,λx hx y g=>?_⟩
 ·obtain⟨k,l,e⟩:=List.mem_drop_iff_getElem.mp g
  have f:p+k<xs.size:=by
   simp only[Qb]at l;lia
  have w:=c (p+k) (by lia) f;have s:xs.getD (p+k) 0=y:=by simpa [Array.getD,f]using e
  rcases Nat.lt_or_ge j y with r|r
  ·exact r
  ·have ey:y=j:=by lia
   exfalso;rcases Nat.eq_zero_or_pos k with rfl|v
   ·apply u;rw[WW (by lia)]
    have:xs[p]=y:=by simpa using e
    rw[this,ey]
   ·have A:=h.ris p (p+k) (by lia) f;have z:=c p (Wf _) (by lia);lia
 ·have n:x<j:=by
   obtain⟨k,l,e⟩:=List.mem_take_iff_getElem.mp hx;have q:k<p:=by lia
   have o:k<xs.size:=by lia
   have:=b k q
   have s:xs.getD k 0=x:=by simpa [Array.getD,o]using e
   lia
  rcases Wk.mp g with rfl|g
  ·exact n
  ·obtain⟨k,l,e⟩:=List.mem_drop_iff_getElem.mp g
   have f:p+k<xs.size:=by
    simp only[Qb]at l;lia
   have w:=c (p+k) (by lia) f;have s:xs.getD (p+k) 0=y:=by simpa [Array.getD,f]using e
   lia
structure Tb (b:Bool) (t:SetTable):Prop where
 led:t.led=b
 dum:t.dummies=#[]
 ris:Rise t.place
def BY(j:Nat):SetTable.has #[] j=false:=rfl
def Tb.fresh (b:Bool):Tb b (.fresh 0 0 b):=⟨rfl,rfl,List.Pairwise.nil⟩
def IA(n:Nat):Rise (Array.range n):=by
 unfold Rise;rw[Array.toList_range];exact List.pairwise_lt_range
def Tb.stand (h:Tb b t) (n:Nat):Tb b (t.standIn n):=⟨h.led,rfl,IA n⟩
def Tb.orStand (h:Tb b t) (n:Nat):Tb b (t.orStandIn n):=by
 unfold SetTable.orStandIn;split
 ·lia
 ·exact h.stand n
def Tb.plainOff (h:Tb b t):Tb b {t with plain:=false}:=⟨h.led,h.dum,h.ris⟩
def Tb.put (h:Tb b t) {j} (f:t.place[SetTable.below t.place j]?≠some j):Tb b (t.put j).1:=by
 refine⟨h.led,?_,Ik h.ris f⟩;show(if SetTable.has t.dummies j=true then _ else t.dummies)=#[];rw[h.dum,BY];rfl
def O9(h:Tb b t)(f:Nat->Int)(z:Int):∀fuel p j d,p.dummy=none->SetTable.probe.go t f z fuel p=some (.empty j d)->d=none/\t.place[SetTable.below t.place j]?≠some j:=by
 intro fuel
 induction fuel with
 |zero=>intro p j d _ e;cases e
 |succ fuel n=>
  intro p j d o e;unfold SetTable.probe.go at e
  have l:∀q,q.dummy=none->(t.advance q).dummy=none:=λq hq=>by
   unfold SetTable.advance;split
   ·exact hq
   ·exact hq
  cases g:t.slot p.j with
  |empty=>
   rw[g]at e;unfold SetTable.slot at g
   grind
  |dummy=>
   unfold SetTable.slot at g
   dsimp only at g
   split at g
   ·cases g
   ·rw[h.dum,BY]at g;simp at g
  |live i=>
   rw[g]at e
   dsimp only at e
   split at e
   ·cases e
   ·exact n _ j d (l p o) e
def Tb.layNew (h:Tb b t) (es:Yk) (z:Int) (x:Value):Tb b (PySem.layNew t es z x).2.1:=by
 unfold PySem.layNew;split
 ·rename_i slot wasDummy e
  have f:t.place[SetTable.below t.place slot]?≠some slot:=by
   unfold SetTable.freeSlot SetTable.probe at e;split at e
   ·rename_i j dummy g;obtain⟨n,l⟩:=O9 h _ _ _ _ _ _ rfl g
    grind
   ·grind
  exact(h.put f).orStand _
 ·exact h.stand _
def Gj(n:Nat)(f:Nat->Option Nat):((List.range n).filterMap λj=>(f j).map (j,·)).Pairwise (λa b=>a.1<b.1):=by
 refine List.Pairwise.filterMap _ ?_ List.pairwise_lt_range;intro a l h b o q g;cases e:f a with
 |none=>grind
 |some v=>
  cases p:f l with
  |_=>grind
def Tb.relayAll (h:Tb b t) (es:Yk) (n:Nat):Tb b (PySem.relayAll t es n).2.1:=by
 unfold PySem.relayAll;split
 ·rename_i l order e
  dsimp only
  split
  ·unfold SetTable.relaid SetTable.laid at e;cases f:SetTable.layClean (SetTable.sizeAbove n-1) (es.map (·.1))with
   |none=>grind
   |some owner=>
    rw[f]at e;have g:=W2 Prod.fst (Wg e);subst g;refine⟨h.led,rfl,?_⟩;show(List.map (λx=>x.fst) ((List.range (SetTable.sizeAbove n-1+1)).filterMap λj=>(owner.getD j none).map (j,·))).toArray.toList.Pairwise (· < ·);rw[List.toList_toArray,List.pairwise_map];exact Gj _ _
  ·exact h.stand _
 ·exact h.stand _
noncomputable def keyOf(e:Int×Value):Int:=match e.2 with
 | .int k _=>k
 |_=>0
def Ent(e:Int×Value):Prop:=∃(k:Int) (t:Tok),e=(hashInt k,.int k t)
section
variable (prog:Program) (w:World)
noncomputable def Xr(w:World):Bool:=w.params.followText "set-order"
structure UD (h:Heap) (a:Addr) (js:ZX) (es:Yk) (ep:Nat) (t:SetTable):Prop where
 obj:∃o,h.get? a=some o/\o.ExactSet/\o.data=.set es ep t
 ent:∀e∈es.toList,Ent e
 per:(es.toList.map keyOf).Perm js
 nod:js.Nodup
 few:es.size<scanBound
 fit:t.fits es.size=true
 tab:Tb (!Xr w) t
def SetB(h:Heap)(a:Addr)(b:ZX):Prop:=∃f g t,UD w h a b f g t
end
section
variable {prog:Program}{w:World}{A:Around}{E:Ya}{s:Shared}
def Ent.elems (h:∀e∈l,Ent e):ElemsOf (intKind prog w) l:=λe b=>by
 obtain⟨k,t,rfl⟩:=h e b;exact⟨⟨k,intKind_is _ _ _ _,rfl⟩,rfl⟩
def Aa(h:Ent e)(k:Int):(intKind prog w).is k e.2=decide (k=keyOf e):=by
 obtain⟨b,t,rfl⟩:=h;show Value.isInt k (.int b t)=decide (k=b);by_cases e:k=b
 ·subst e;simp[Value.isInt]
 ·rw[W4 e];simp[Value.isInt];lia
def SetB.len (S:UD w h a b es f t):es.size=b.length:=by
 have:=S.per.length_eq
 grind
def SetB.at {a l} (S:SetB w h a l) (k:∀o,h.get? a=some o->p.get? a=some o):SetB w p a l:=by
 obtain⟨q,u,t,⟨o,n,r⟩,b,c,d,e,f,g⟩:=S;exact⟨q,u,t,⟨o,k o n,r⟩,b,c,d,e,f,g⟩
def UD.store {es b}{g t t'} (S:UD w h a z es g t) (y:∀e∈b.toList,Ent e) (x:(b.toList.map keyOf).Perm f) (v:f.Nodup) (u:b.size<scanBound)
  (r:t'.fits b.size=true) (p:Tb (!Xr w) t'):UD w (h.update a<|Obj.putSet b t') a f b (g+1) t':=by
 obtain⟨o,n,hx,l⟩:=S.obj;refine⟨⟨{o with data:=.set b (g+1) t'},?_,hx,rfl⟩,y,x,v,u,r,p⟩
 have q:=WB (Obj.putSet b t') n (by rw[putSet_of b t' l];rfl);rwa[putSet_of b t' l]at q
def DN{g:Bool->Sem Unit}(Y:∀b C M,M () C->wpAny (model prog w) A (g b) M E C){a Q h}{es f}{ep t t'}(S:UD w s.heap a Q es ep t)(L:∀e∈f.toList,Ent e)(J:(f.toList.map keyOf).Perm h)(H:h.Nodup)(r:f.size<scanBound)(h5:t'.fits f.size=true)(G:Tb (!Xr w) t'){d R}(n:∀u,Heap.SameBut a s.heap u->SetB w u a h->R (some true) {s with heap:=u}) :
  wpAny (model prog w) A (do
    storeSet a f t'
    if (!d&&t'.tooFull)=true then do
      g (relayAll t' f<|SetTable.grown f.size).2.2
      storeSet a (relayAll t' f<|SetTable.grown f.size).1 (relayAll t' f<|SetTable.grown f.size).2.1
      pure (some true)
     else pure (some true)) R E s:=by
 obtain⟨o,U,hx,hd⟩:=S.obj;have B:=S.store L J H r h5 G;obtain⟨o1,p,T,q⟩:=B.obj;have N:=WQ s.heap a (Obj.putSet f t');refine YT (wpAny_storeSet_of U hd ?_<|QP r);split
 ·have l:=relayAll_perm t' f (SetTable.grown f.size);have v:=relayAll_fits t' f (SetTable.grown f.size);have tt:=G.relayAll f (SetTable.grown f.size);generalize relayAll t' f (SetTable.grown f.size)=y at l v tt ⊢;obtain⟨x,t2,g2⟩:=y
  dsimp only at l v tt ⊢
  have z:x.size=f.size:=by rw[←Qb,l.length_eq,Qb]
  refine YT (Y _ _ _<|YT<|wpAny_storeSet_of p q ?_<|QP<|by lia);exact Wb (n _ (N.trans<|WQ _ a _) ⟨_,_,_,B.store (λe he=>L e (l.mem_iff.mp he)) ((l.map keyOf).trans J) H (by rw[z];exact r) v tt⟩)
 ·exact Wb (n _ N ⟨_,_,_,B⟩)
noncomputable def UA(b:ZX)(k:Int):ZX:=if k∈b then b else b++[k]
def Oy{R}(S:SetB w s.heap a n)(room:n.length+1<scanBound)(H:∀r g,Heap.SameBut a s.heap g->SetB w g a (UA n k)->R r {s with heap:=g}) :
  wpAny (model prog w) A (setAddHashed a (.int k u)<|hashInt k) R E s:=by
 obtain⟨l,ep,t,S⟩:=S;obtain⟨o,Y,hx,hd⟩:=S.obj;have el:=Ent.elems (prog:=prog) (w:=w) S.ent;have M:=SetB.len S;refine Qi (YT<|Qk Y hd S.fit ?_)
 dsimp only
 rw[byScan_of rfl S.few el];simp only[↓reduceIte];unfold setAddByScan;refine YT (YT<|wpAny_rule<|YT<|wpAny_setScan_of (intKind_is _ _ _ _) Y hd S.fit el ?_);have mem:∀z,z∈n↔∃e∈l.toList,keyOf e=z:=λz=>by rw[←S.per.mem_iff,W8]
 cases q:List.findIdx? (λe=>(intKind prog w).is k e.2) l.toList with
 |some j=>
  dsimp only
  obtain⟨hj,U,_⟩:=List.findIdx?_eq_some_iff_getElem.mp q
  have L:k∈n:=by
   rw[Aa (S.ent _<|WE hj)]at U;exact(mem k).mpr ⟨_,WE hj,(YY U).symm⟩
  refine Wb (Wb ?_);have f:=H false s.heap (Heap.SameBut.refl a s.heap);unfold UA at f;rw[Wc L]at f;exact f ⟨_,_,_,S⟩
 |none=>
  dsimp only
  have L:¬k∈n:=λM=>by
   obtain⟨e,he,N⟩:=(mem k).mp M
   have:=List.findIdx?_eq_none_iff.mp q e he
   rw[Aa (S.ent e he),YZ N.symm]at this;cases this
  have P:=layNew_perm t l (hashInt k) (.int k u);have F:=layNew_fits t l (hashInt k) (.int k u);have T:=S.tab.layNew l (hashInt k) (.int k u);change wpAny (model prog w) A (match layNew t l (hashInt k) (.int k u)with|(l,t,wasDummy,gave)=>_) _ _ _
  generalize layNew t l (hashInt k) (.int k u)=y at P F T ⊢;obtain⟨p,t1,d1,g1⟩:=y
  dsimp only at P F T ⊢
  rw[Array.toList_push]at P
  have e1:∀e∈p.toList,Ent e:=λe he=>by
   rcases Wu.mp (P.mem_iff.mp he)with he|he
   ·exact S.ent e he
   ·rw[YW.mp he];exact⟨k,u,rfl⟩
  have e2:(p.toList.map keyOf).Perm (n++[k]):=by
   refine(P.map keyOf).trans ?_;rw[Ww];exact S.per.append_right _
  have e3:(n++[k]).Nodup:=Vt.mpr ⟨S.nod,by simp,λx hx y hy=>by rw[YW.mp hy];rintro rfl;exact L hx⟩
  have e4:p.size<scanBound:=by
   rwa[←Qb,P.length_eq,Wv,Qb,M]
  have h:=λg B G=>by
   have f:=H true g B;unfold UA at f;rw[YV L]at f;exact f G
  have Q:∀b {C:Shared} {J:Unit->Shared->Prop},J () C->wpAny (model prog w) A (match b with|true=>rule "set.scan.the-table-gave-way" |false=>pure ()) J E C:=λb C J v=>by cases b<;>first|exact Wb v|exact wpAny_rule v
  refine YT (Q _ ?_);split
  ·refine YT ?_;rw[hashByValue_scannable 8 rfl];refine Wb (DN (λb C J v=>Q b v) S e1 e2 e3 e4 ?_ ?_ λg B G=>Wb (h g B G))
   ·split
    ·exact F
    ·exact SetTable.fits_plain_off F
   ·split
    ·exact T
    ·exact T.plainOff
  ·refine YT (Wb ?_);simp only[↓reduceIte];exact DN (λb C J v=>Q b v) S e1 e2 e3 e4 F T λg B G=>Wb (h g B G)
def O7{I G x P St}{ns:ZX}(W:Walks prog w A.in1 I G x ns.length P St)(S:Addr)(C:S∉G)(L:∀i v,P i v->∃t,v=.int (ns.getD i 0) t)(room:ns.length+1<scanBound):∀k i s n,ns.length-i=k->i<=ns.length->St i s.heap->SetB w s.heap S n->n.length<=i->
   (∀h p,(∀b o,b∉S::x->s.heap.get? b=some o->h.get? b=some o)->SetB w h S ((ns.drop i).foldl UA n)->R (.ok<|.ret .none) {s with heap:=h,toks:=p})->
   codeAny (model prog w) A (.builtin "set.update.loop" ⟨[.ref S,.ref I],[]⟩) R s:=by
 have q:=λz=>C (W.sub _ z);intro k
 induction k with
 |zero=>
  intro i s n M Q st B N l;have ei:i=ns.length:=by lia
  refine Qf QF ?_;show wpAny _ A.in1 (pyNext (.ref I) >>= _) _ _ s;refine YT (W.done s _ _ (ei▸st) λh p keep=>?_);show wpAny _ A.in1 (ret Value.none) _ _ _;refine Wb (l h p (λb o g e=>keep b o (λz=>g (Wm _ z)) e) ?_);rw[ei,List.drop_length];exact B.at λo e=>keep S o q e
 |succ k J=>
  intro i s n M Q st B N l;have f:i<ns.length:=by lia
  refine Qf QF ?_;rw[Q6 QG _];show wpAny _ A.in1 (pyNext (.ref I) >>= _) _ _ s;refine YT (W.item i s _ _ f st λv T H pv u keep1=>?_);obtain⟨t,rfl⟩:=L i v pv;have B1:=B.at λo e=>keep1 S o q e;unfold setAdd;refine YT (Qi<|Qi<|YT ((intKind prog w).pyHash (intKind_is _ _ _ _) ?_));refine Oy B1 (by lia) λr h2 y B2=>?_
  have U:(UA n<|ns.getD i 0).length<=i+1:=by
   unfold UA;split
   ·lia
   ·simp;lia
  refine Wb ⟨plainId_quiet QG _,J (i+1) _ _ (by lia) f (W.frame _ T _ u λb g o e=>?_) B2 U λh p keep B'=>?_⟩
  ·rw[y.2 b (λz=>C (by rw[←z];exact g))];exact e
  ·refine l h p (λb o g e=>keep b o g ?_) ?_
   ·rw[y.2 b (λz=>g (by rw[z];exact W3))];exact keep1 b o (λz=>g (Wm _ z)) e
   ·have Y:ns.drop i=ns.getD i 0::ns.drop (i+1):=by
     rw[QC f,Wr,Wa f];rfl
    rwa[Y]
def E4(a:Value){Q}(b:Q (.ref s.heap.objs.size) {s with heap:=s.heap.push {cls:=.type "set",dict:=none,data:=.set #[] 0 (.fresh 0 0 (!Xr w))}}) :
  codeAny (model prog w) A (.call (.builtin "set.__new__") ⟨[.type "set",a],[]⟩) (wants Q E) s:=by
 refine codeAny_of_tree (?_);refine YT (wpAny_of_eq (F.newCall_set_1 a)<|Wb ⟨plainId_quiet F.plain_set_new _,Qf F.entry_set_new ?_⟩);rw[(Q6 (A:=A) F.plain_set_new ⟨[.type "set",a],[]⟩)];unfold Builtin.«set.__new__» Builtin.Frozenset.newClass;have f:=sub_set_self
 dsimp only
 wp_walk
 refine wpAny_askSetting (Wb<|?_)
 dsimp only
 simp only[newObj];exact YT (wpAny_alloc<|Wb<|Wb b)
set_option maxHeartbeats 4000000 in
def M0{l:Addr}{f:Array Value}{ns:ZX}{Q:Ya}(hh:A.handled=none)(hl:s.heap.IsList l f)(hi:IntsAre f.toList ns)(room:ns.length+1<scanBound)(T:∀(h:Heap) (q:Nat),SetB w h s.heap.objs.size (ns.foldl UA [])->(∀b o,b<s.heap.objs.size->s.heap.get? b=some o->h.get? b=some o)->Q (.ref s.heap.objs.size) {s with heap:=h,toks:=q}) :
  wpAny (model prog w) A (call (.type "set") [.ref l]) Q E s:=by
 have hn:f.size=ns.length:=by have:=IntsAre.length hi;simpa using this
 obtain⟨mroC,mroT,mro⟩:=F.called_set.mro;have made:=F.called_set.made;have subs:=F.called_set.sub;refine Vg (codeAny_of_tree<|show wpAny _ _ (callAny (.type "set") _) _ _ _ from ?_)
 refine Wb ⟨QH _ (by decide +kernel),Qf F.entry_type_call ?_⟩;have wt:=Around.under_plain (A:=A) (weight_type_call_type "set" [.ref l] []) rfl;rw[wt];have nt:=F.called_set.notType;have cc:=F.called_set.canCreate;have tc:=F.typeCall_set_1 (.ref l)
 repeat (any_goals (first|assumption|wp_step))
 refine Qd (E4 (.ref l) (E:=E) (Q:=λobj Y=>obj=.ref s.heap.objs.size/\Y={s with heap:=s.heap.push {cls:=.type "set",dict:=none,data:=.set #[] 0 (.fresh 0 0 (!Xr w))}}) ⟨rfl,rfl⟩) λr Y x=>?_
 cases r with
 |error e=>exact x
 |ok fl=>
  cases fl with
  |next=>exact x.elim
  |brk=>exact x.elim
  |cont=>exact x.elim
  |ret obj=>
   obtain⟨rfl,rfl⟩:=x;generalize H:s.heap.push {cls:=.type "set",dict:=none,data:=.set #[] 0 (.fresh 0 0 (!Xr w))}=n;have g1:n.get? s.heap.objs.size=some {cls:=.type "set",dict:=none,data:=.set #[] 0 (.fresh 0 0 (!Xr w))}:=by rw[←H];exact Wl _ rfl
   have hT:Shared.TypeIs {s with heap:=n} (.ref s.heap.objs.size) "set":=⟨_,g1,rfl⟩
   have ini:=F.called_set.init.lookup;have inb:=F.called_set.init.bind (.ref s.heap.objs.size)
   repeat (any_goals (first|assumption|wp_step))
   refine Qd (Q7 (R:=wants (λr U=>r=.none/\∃h q,U={s with heap:=h,toks:=q}/\SetB w h s.heap.objs.size (ns.foldl UA [])/\(∀b o,b<s.heap.objs.size->s.heap.get? b=some o->h.get? b=some o)) E)
    F.called_set.init.plain F.entry_set_init (check_set_init_1 hT ?_)) λr2 U g=>?_
   ·obtain⟨ob,z,G,nl,C⟩:=hl;obtain⟨c1,d1,dt1,J⟩:=ob;simp only at G C;subst G;subst C;have y:n.get? l=some {cls:=.type "list",dict:=d1,data:=.seq f nl,slots:=J}:=by rw[←H];exact YX _ z
    have p:n.objs.size=s.heap.objs.size+1:=by rw[←H,Qz]
    have no1:=F.sub_list_set;have no2:=F.sub_list_frozenset;have no3:(Value.type "list" == Value.type "dict")=false:=by decide
    have L1:n.IsList l f:=⟨_,y,rfl,nl,rfl⟩;unfold Builtin.«set.__init__» noKeywords Builtin.Frozenset.updateFrom;generalize eP:pyIter=PI
    wp_walk
    subst eP;refine wpAny_pyIter_list L1 (YT<|wpAny_runValue ?_);have u:l<s.heap.objs.size:=Wd z;have N:A.in1.in1.in1.handled=none:=by simp[hh]
    have M:l≠n.objs.size:=by rw[p];exact Wt (QR u)
    have L:s.heap.objs.size∉[n.objs.size,l]:=by
     rw[p];simp only[Wk,Qq,or_false,not_or];exact⟨Wt (QX _),Vv u⟩
    have W0:=Walks.list (prog:=prog) (w:=w) N n.objs.size l M f;rw[hn]at W0;refine O7 (ns:=ns) W0 s.heap.objs.size L (λi v hv=>IntsAre.int_at hi i v (by rw[WU];exact hv)) room (ns.length-0) 0 _ [] rfl (WX _) ⟨⟨_,Wl _ rfl,rfl,rfl⟩,L1.push _⟩ ?_ (WX _) λh q keep B=>?_
    ·exact⟨#[],0,_,⟨_,YX _ g1,⟨rfl,rfl,rfl⟩,rfl⟩,λe he=>by simp at he,by simp,QL,by show(0:Nat)<4096;decide,rfl,Tb.fresh _⟩
    ·show wpAny _ _ _ _ _ _;refine Wb (show wpAny _ _ (ret Value.none) _ _ _ from Wb ⟨rfl,h,q,rfl,B,λb o hb e=>?_⟩)
     refine keep b o ?_ (YX _<|by rw[←H];exact YX _ e);rw[p];simp only[Wk,Qq,or_false,not_or];exact⟨Wt hb,Wt (QR hb)⟩
   ·cases r2 with
    |error e=>exact g
    |ok f2=>
     cases f2 with
     |next=>exact g.elim
     |brk=>exact g.elim
     |cont=>exact g.elim
     |ret r=>
      obtain⟨rfl,h,q,rfl,B,keep⟩:=g
      repeat (any_goals (first|assumption|wp_step))
      exact T _ _ B keep
end
def si_slot:Slot "set_iterator" "__next__" "set_iterator.__next__":=
 Slot.of (owner:="set_iterator") (n:="__next__") (by rw[typeLookup_type,builtinLookup_eq_fast];kernel_rfl) (by decide +kernel) (by decide +kernel) (by decide +kernel)
  (by first|exact Or.inl (by decide +kernel)|exact Or.inr (by decide +kernel)) (by rw[isSubtype_type];kernel_rfl)
def Ra:entryFor table "set_iterator.__next__"=some Builtin.«set_iterator.__next__»:=entryFor_of_tree rfl
def HX(a:Value):argsOk "set_iterator.__next__" ⟨[a],[]⟩:=by trivial
def GY:entryFor table "set.__iter__"=some Builtin.«frozenset.__iter__»:=entryFor_alias (id':="frozenset.__iter__") (by kernel_rfl) rfl (by decide +kernel) (by kernel_rfl)
def Cs:Slot "set_iterator" "__iter__" "set_iterator.__iter__":=
 Slot.of (owner:="set_iterator") (n:="__iter__") (by rw[typeLookup_type,builtinLookup_eq_fast];kernel_rfl) (by decide +kernel) (by decide +kernel) (by decide +kernel)
  (by first|exact Or.inl (by decide +kernel)|exact Or.inr (by decide +kernel)) (by rw[isSubtype_type];kernel_rfl)
def LA:entryFor table "set_iterator.__iter__"=some Builtin.«dict_keyiterator.__iter__»:=entryFor_alias (id':="dict_keyiterator.__iter__") (by kernel_rfl) rfl (by decide +kernel) (by kernel_rfl)
def Rm(a:Value):argsOk "set_iterator.__iter__" ⟨[a],[]⟩:=by unfold argsOk;kernel_rfl
def SI(h:Heap)(I a:Addr)(first:Value)(i n b:Nat):Prop:=∃o,h.get? I=some o/\o.cls=.type "set_iterator"/\o.data=.fields #[first,.int i 0,.ref a,.int n 0,.int b 0]
section
variable {prog:Program}{w:World}{A:Around}{E:Ya}{s:Shared}{I a:Addr}{first:Value}{i n ep:Nat}{js:ZX}{es:Yk}{t:SetTable}
def SI.typ (h:SI s.heap I a first i n ep):s.TypeIs (.ref I) "set_iterator":=let ⟨o,b,f,_⟩:=h;⟨o,b,f⟩
def SI.at (x:SI h I a first i n ep) (k:∀o,h.get? I=some o->f.get? I=some o):SI f I a first i n ep:=let ⟨o,b,r⟩:=x;⟨o,k o b,r⟩
noncomputable def P9(first:Value)(a I:Addr)(i ep:Int):Sem PySem.Fin:=
 match first with
 |Value.int slot _=>do
  match ←setNext a slot.toNat i.toNat ep.toNat with
  |some (x,next)=>
   setField (.ref I) 0 (rawInt next)
   setField (.ref I) 1 (rawInt (i+1))
   ret x
  |none=>
   setField (.ref I) 2 .none
   raiseNew (←newExc (.type "StopIteration") [])
 |_=>do
  let some places ←seqItems? first|unsupported "internal:set_iterator"
  match places[i.toNat]? with
  |some (.int place _)=>
   let x ←setNextDrawn a place.toNat ep.toNat
   setField (.ref I) 1 (rawInt (i+1))
   ret x
  |some _=>unsupported "internal:set_iterator"
  |none=>
   setField (.ref I) 0 (rawInt 0)
   setField (.ref I) 2 .none
   raiseNew (←newExc (.type "StopIteration") [])
def T8(f:SI s.heap I a first i es.size ep)(S:UD w s.heap a js es ep t)
  (body:wpAny (model prog w) A.in1 (P9 first a I i ep) (λp l=>∃v,p=.done (.ret v)/\Q (some v) l)
   (λe l=>wpAny (model prog w) A (isInstance e<|.type "StopIteration") (λb g=>b=true/\Q none g) E l) s) :
  wpAny (model prog w) A (pyNext<|.ref I) Q E s:=by
 obtain⟨o,x,G,y⟩:=id f;obtain⟨C,r,hx,u⟩:=S.obj;refine YT (wpAny_attempt<|wpAny_callSpecial?_slot f.typ si_slot<|QZ si_slot f.typ Ra ?_<|HX _);refine YT (Wb<|YT<|wpAny_fieldsOf x y ?_);refine YT (wpAny_setEntries_of r u S.fit ?_);rw[YV (by simp)];refine Wx body (λp l h=>?_) λe l h=>?_
 ·obtain⟨v,e,q⟩:=h;exact⟨v,e,Wb q⟩
 ·refine YT (Wx h (λb g B=>?_) λ_ _ z=>z);obtain⟨rfl,q⟩:=B;exact Wb q
def FC{Q:Yh->Shared->Prop}{o}{vs}(q:A.handled=none)(p:s.heap.get? I=some o)(r:o.data=.fields vs)(u:2<vs.size)(g:∀h,Heap.ExtBut I s.heap h->Q none {s with heap:=h}){R:PySem.Fin->Shared->Prop} :
  wpAny (model prog w) A.in1 (do setField (.ref I) 2 .none;raiseNew (←newExc (.type "StopIteration") [])) R (λe l=>wpAny (model prog w) A (isInstance e<|.type "StopIteration") (λb f=>b=true/\Q none f) E l) s:=by
 refine YT (Qo p r u<|YT ?_);refine YT (WN ?_<|by size_fits);refine YT (wpAny_of_eq (by first|rfl|(simp only[firstArgMember];rfl))<|WN ?_<|by size_fits)
 simp only[raiseNew];refine YT (wpAny_handled ?_);rw[q];refine YT (Wb<|wpAny_throw ?_);refine wpAny_isInstance ⟨_,Wl _ rfl,rfl⟩ isSubtype_stop ?_;exact⟨rfl,g _ (((WQ ..).extBut.push _).push _)⟩
def SI.step1 {x:Value} (f:s.heap.get? I=some o) (g:o.cls=.type "set_iterator") (b:o.data=.fields #[first,.int i 0,.ref a,.int n 0,.int ep 0]) :
  SI (s.heap.update I<|Obj.mapFields (·.setIfInBounds 1 (rawInt ((i:Int)+1)))) I a first (i+1) n ep:=
 ⟨_,WB _ f (Qg<|WK b _),(Obj.cls_mapFields ..).trans g,by rw[WK b];simp[rawInt]⟩
def Nj(h:Q (Xr w) s):wpAny (model prog w) A setsByText Q E s:=YT (wpAny_askSetting<|Wb h)
def Ll(S:UD w s.heap a js es ep t)(g:Xr w=true)(h:Q (((pickOrder (w.params.setOrder a ep) es)[i]?).map λe=>(e.2,slot)) s) :
  wpAny (model prog w) A (setNext a slot i ep) Q E s:=by
 obtain⟨l,b,hx,f⟩:=S.obj;refine YT (Qk b f S.fit<|YT<|Nj ?_);rw[g,Wc rfl,YV (by simp)];refine YT ?_;refine YT (Qk b f S.fit<|YT<|Nj ?_);rw[g,Wc rfl];exact YT (wpAny_askSetting<|Wb<|Wb h)
def Mj(S:UD w s.heap a js es ep t)(g:Xr w=false)(l:(!t.plain&&decide (es.size>1))=false)(h:Q (match es[SetTable.below t.place slot]?,t.place[SetTable.below t.place slot]? with|some (_,x),some j=>some (x,j+1)|_,_=>none) s):wpAny (model prog w) A (setNext a slot i ep) Q E s:=by
 obtain⟨p,b,hx,f⟩:=S.obj;refine YT (Qk b f S.fit<|YT<|Nj ?_);rw[g,YV (by decide)];show wpAny _ _ (if (!t.plain&&decide (es.size>1))=true then _ else _) _ _ _;rw[l,YV (by decide)];refine YT (?_:wpAny _ _ (if (!t.led && !es.isEmpty)=true then unsupported "set:maker-not-led" else pure ()) _ _ _);have o:t.led=true:=by rw[S.tab.led,g];rfl
 rw[o,YV (by simp)];exact Wb (Wb h)
def IY{p e}(S:UD w s.heap a js es ep t)(g:es[p]?=some e)(h:Q e.2 s):wpAny (model prog w) A (setNextDrawn a p ep) Q E s:=by
 obtain⟨l,b,hx,f⟩:=S.obj;refine YT (Qk b f S.fit ?_)
 dsimp only
 rw[YV (by simp),g];exact Wb h
def E2{m}(b:m≠0)(h:∀k d,k<m->Q k {s with drawn:=d}):wpAny (model prog w) A (choose f m) Q E s:=by
 intro Γ p g;exact⟨b,h _ _ (Nat.mod_lt _<|Nat.pos_of_ne_zero b)⟩
theorem Bp{b:Type}:∀(xs:List b) k h,(xs[k]::xs.eraseIdx k).Perm xs
 |x::r,0,_=>List.Perm.refl _
 |x::r,k+1,h=>by
  have f:k<r.length:=by grind
  exact(List.Perm.swap _ _ _).trans (List.Perm.cons _<|Bp r k f)
def O2:∀m xs s {Q:List q->Shared->Prop},xs.length=m->(∀b d,b.Perm xs->Q b {s with drawn:=d})->wpAny (model prog w) A (drawOrder m xs) Q E s:=by
 intro m
 induction m with
 |zero=>
  intro xs s Q f h;have e:=QO.mp f;subst e;exact Wb (h [] s.drawn<|List.Perm.refl _)
 |succ m l=>
  intro xs s Q f h;cases xs with
  |nil=>grind
  |cons x r=>
   unfold drawOrder;refine YT (E2 (by simp) λk d g=>?_);rw[Wa g];refine YT (l _ _ (by grind) λb p o=>Wb ?_);exact h _ p ((List.Perm.cons _ o).trans (Bp _ _ g))
def UD.keep (S:UD w h a js es ep t) (k:∀o,h.get? a=some o->p.get? a=some o):UD w p a js es ep t:=by
 obtain⟨⟨o,l,r⟩,b,c,d,e,f,g⟩:=S;exact⟨⟨o,k o l,r⟩,b,c,d,e,f,g⟩
def AA(b:SI s.heap I a first i n ep)(h:Q (.ref I) s):wpAny (model prog w) A (pyIter<|.ref I) Q E s:=by
 refine wpAny_pyIter_slot b.typ Cs (QZ Cs b.typ LA ?_<|Rm _);exact Wb ⟨_,rfl, "set_iterator",_,b.typ,si_slot.lookup,h⟩
def Ae(hh:A.handled=none)(I a:Addr)(hne:a≠I)(vs:Yd)(hl:vs.length=es.size)(sl:Nat->Nat)(nx:∀A E s i Q,i<=es.size->UD w s.heap a js es ep t->Q ((vs[i]?).map λv=>(v,sl (i+1))) s->wpAny (model prog w) A (setNext a (sl i) i ep) Q E s) :
  Walks prog w A I [I,a] [I] es.size (λi v=>vs[i]?=some v) (λi h=>SI h I a (.int (sl i) 0) i es.size ep/\UD w h a js es ep t) where
 sub:=λb hb=>by simp at hb;simp[hb]
 frame:=λ_ _ _ st k=>⟨st.1.at λo e=>k I (by simp) o e,st.2.keep λo e=>k a (by simp) o e⟩
 item:=λi s Q E hi st fin=>by
  obtain⟨o,ho,hc,hd⟩:=id st.1;refine T8 st.1 st.2 ?_;unfold P9
  dsimp only
  rw[WG,WG,WG];refine YT (nx _ _ s i _ (QD hi) st.2 ?_);have hi2:i<vs.length:=by lia
  rw[Wa hi2];refine YT (Qo ho hd (by simp) ?_);have g1:=WB (Obj.mapFields (·.setIfInBounds 0 (rawInt (sl (i+1):Int)))) ho (Qg<|WK hd _);have d1:(Obj.mapFields (·.setIfInBounds 0 (rawInt (sl (i+1):Int))) o).data=.fields #[.int (sl (i+1)) 0,.int i 0,.ref a,.int es.size 0,.int ep 0]:=by rw[WK hd];simp[rawInt]
  refine YT (Qo g1 d1 (by simp) ?_);have sb:=(WQ s.heap I<|Obj.mapFields (·.setIfInBounds 0 (rawInt (sl (i+1):Int)))).trans (WQ _ I<|Obj.mapFields (·.setIfInBounds 1 (rawInt ((i:Int)+1))));refine Wb ⟨_,rfl,fin vs[i] _ s.toks (Wa hi2) ⟨?_,st.2.keep λo e=>sb.extBut a o hne e⟩ λb o hb e=>sb.extBut b o (λz=>hb (by simp[z])) e⟩;exact SI.step1 (x:=.none) g1 ((Obj.cls_mapFields ..).trans hc) d1
 done:=λs Q E st fin=>by
  obtain⟨o,ho,hc,hd⟩:=id st.1;refine T8 st.1 st.2 ?_;unfold P9
  dsimp only
  rw[WG,WG,WG];refine YT (nx _ _ s es.size _ (Wf _) st.2 ?_);rw[Q1 (by lia)];exact FC hh ho hd (by simp) λh' eb=>fin h' s.toks λb o hb e=>eb b o (λz=>hb (by simp[z])) e
 self:=λ_ _ _ _ st fin=>AA st.1 fin
def La(hh:A.handled=none)(I a T:Addr)(hne:a≠I)(hT:T≠I)(ps:Yc)(hl:ps.length=es.size)(hps:∀p∈ps,p<es.size)(vs:Yd)(hvs:vs=ps.map λp=>((es[p]?).map (·.2)).getD .none) :
  Walks prog w A I [I,a,T] [I] es.size (λi v=>vs[i]?=some v) (λi h=>SI h I a (.ref T) i es.size ep/\UD w h a js es ep t/\∃o,h.get? T=some o/\∃c,o.data=.seq (ps.map λ(p:Nat)=>rawInt p).toArray c) where
 sub:=λb hb=>by simp at hb;simp[hb]
 frame:=λ_ _ _ st k=>⟨st.1.at λo e=>k I (by simp) o e,st.2.1.keep λo e=>k a (by simp) o e,let ⟨o,ho,c⟩:=st.2.2;⟨o,k T (by simp) o ho,c⟩⟩
 item:=λi s Q E hi st fin=>by
  obtain⟨o,ho,hc,hd⟩:=id st.1;obtain⟨oT,hoT,c,hdT⟩:=st.2.2;refine T8 st.1 st.2.1 ?_;unfold P9
  dsimp only
  refine YT (wpAny_seqItems hoT hdT ?_);have hi2:i<ps.length:=by lia
  have e1:(ps.map λ(p:Nat)=>rawInt p).toArray[(i:Int).toNat]?=some (.int ps[i] 0):=by
   rw[WG,List.getElem?_toArray,Wh,Wa hi2];rfl
  have hp:=hps _ (WE hi2)
  dsimp only
  rw[e1]
  dsimp only
  have e3:vs[i]?=some (es[ps[i]]).2:=by rw[hvs,Wh,Wa hi2];simp[hp]
  refine YT (IY st.2.1 (WW hp)<|YT<|Qo ho hd (by simp) ?_);have sb:=WQ s.heap I (Obj.mapFields (·.setIfInBounds 1 (rawInt ((i:Int)+1))));exact Wb ⟨_,rfl,fin _ _ s.toks e3 ⟨SI.step1 (x:=.none) ho hc hd,st.2.1.keep λo e=>sb.extBut a o hne e,oT,sb.extBut T oT hT hoT,c,hdT⟩ λb o hb e=>sb.extBut b o (λz=>hb (by simp[z])) e⟩
 done:=λs Q E st fin=>by
  obtain⟨o,ho,hc,hd⟩:=id st.1;obtain⟨oT,hoT,c,hdT⟩:=st.2.2;refine T8 st.1 st.2.1 ?_;unfold P9
  dsimp only
  refine YT (wpAny_seqItems hoT hdT ?_)
  have e1:(ps.map λ(p:Nat)=>rawInt p).toArray[(es.size:Int).toNat]?=none:=by
   rw[WG,List.getElem?_toArray,Wh,Q1 (by lia)];rfl
  dsimp only
  rw[e1]
  dsimp only
  refine YT (Qo ho hd (by simp) ?_);refine FC (s:={s with heap:=_}) hh (WB (Obj.mapFields (·.setIfInBounds 0 (rawInt 0))) ho<|Qg<|WK hd _) (WK hd _) (by simp) λh' eb=>fin h' s.toks λb o hb e=>eb b o (λz=>hb (by simp[z])) ((WQ s.heap I<|Obj.mapFields (·.setIfInBounds 0 (rawInt 0))).extBut b o (λz=>hb (by simp[z])) e)
 self:=λ_ _ _ _ st fin=>AA st.1 fin
def HL(nx:Nat->Nat):∀m k left (b:Array l),left.length=m->(pickOrder.go nx m k left b).toList.Perm (b.toList++left):=by
 intro m
 induction m with
 |zero=>
  intro k left b g;have e:=QO.mp g;subst e;show b.toList.Perm (b.toList++[]);simp
 |succ m h=>
  intro k left b g;have f:nx k % left.length<left.length:=Nat.mod_lt _ (by lia);unfold pickOrder.go;rw[Wa f];refine(h _ _ _<|by grind).trans ?_;rw[Array.toList_push,List.append_assoc];exact(Bp left _ f).append_left _
def DO(nx:Nat->Nat)(xs:Array b):(pickOrder nx xs).toList.Perm xs.toList:=by
 have:=HL nx xs.size 0 xs.toList #[] rfl
 simpa [pickOrder]using this
noncomputable def slotAt(t:SetTable)(i:Nat):Nat:=if i=0 then 0 else t.place.getD (i-1) 0+1
def AR(h:t.fits m=true):t.place.size=m:=by
 simp only[SetTable.fits,W6,beq_iff_eq]at h
 grind
def RH(S:UD w s.heap a js es ep t){i}(l:i<=es.size):SetTable.below t.place (slotAt t i)=i:=by
 have g:=AR S.fit;have R:=S.tab.ris.ris;refine GC R (by lia) (λk h=>?_) λk o b=>?_
 ·unfold slotAt;rw[YV (by lia)];by_cases e:k=i-1
  ·rw[e];lia
  ·have:=R k (i-1) (by lia) (by lia)
   lia
 ·unfold slotAt;by_cases f:i=0
  ·grind
  ·rw[YV f]
   have:=R (i-1) k (by lia) b
   lia
def Oi{A'}(M:A'.handled=none)(S:UD w s.heap a js es ep t)
  (l:∀I fp (vs:Yd) St N d1,Walks prog w A' I fp [I] es.size (λi v=>vs[i]?=some v) St->St 0 N->(∀b∈fp,b=a\/s.heap.get? b=none)->vs.length=es.size->vs.Perm (es.toList.map (·.2))->
   s.heap.get? I=none->(∀b o,s.heap.get? b=some o->N.get? b=some o)->Q (.ref I) {s with heap:=N,drawn:=d1}) :
  wpAny (model prog w) A (pyIter<|.ref a) Q E s:=by
 obtain⟨ob,g,hx,h⟩:=S.obj;have hT:s.TypeIs (.ref a) "set":=⟨ob,g,hx.1⟩;have ha:=Wd g
 have new:∀b,s.heap.objs.size<=b->s.heap.get? b=none:=λb f=>by
  cases e:s.heap.get? b with
  |none=>rfl
  |some o=>exact absurd (Wd e) (Vk.mpr f)
 refine wpAny_pyIter_slot hT F.slot_set_iter (QZ F.slot_set_iter hT GY ?_<|F.args_set_iter_1 _);unfold Builtin.«frozenset.__iter__»;show wpAny _ _ (Builtin.Frozenset.sizeOf a >>= _) _ _ s;unfold Builtin.Frozenset.sizeOf;refine YT (YT<|wpAny_setEntries_of g h S.fit<|Wb ?_);refine YT ?_;unfold setDrawn;refine YT (Qk g h S.fit<|YT<|Nj<|Wb ?_)
 dsimp only
 change wpAny _ _ (if (!Xr w&&(!t.plain&&decide (es.size>1)))=true then _ else _) _ _ _;cases hd:(!Xr w&&(!t.plain&&decide (es.size>1)))with
 |false=>
  rw[YV (by decide)];refine YT (Wb<|YT<|wpAny_setEpoch_of g h S.fit<|YT<|WN<|Wb ⟨_,rfl, "set_iterator",_,⟨_,Wl _ rfl,rfl⟩,si_slot.lookup,?_⟩);have B:=Wt ha;have S1:UD w (s.heap.push {cls:=.type "set_iterator",data:=.fields [rawInt 0,rawInt 0,.ref a,rawInt es.size,rawInt ep].toArray}) a js es ep t:=S.keep λo e=>YX _ e
  have lt:∀b∈[s.heap.objs.size,a],b=a\/s.heap.get? b=none:=λb f=>by
   rcases Wk.mp f with rfl|f
   ·exact .inr (new _<|Wf _)
   ·exact .inl (YW.mp f)
  cases f:Xr w with
  |true=>
   have u:((pickOrder (w.params.setOrder a ep) es).toList.map (·.2)).length=es.size:=by
    rw[YU,(DO _ _).length_eq];simp
   refine l _ _ _ _ _ s.drawn (Ae M s.heap.objs.size a B ((pickOrder (w.params.setOrder a ep) es).toList.map (·.2)) u (λ_=>0) λA E s i Q hi G q=>Ll G f ?_) ⟨⟨_,Wl _ rfl,rfl,rfl⟩,S1⟩ lt u ((DO _ _).map _) (new _<|Wf _) λb o e=>YX _ e;rw[Wh]at q;rw[←WU];cases e:(pickOrder (w.params.setOrder a ep) es).toList[i]? with
   |none=>rw[e]at q;exact q
   |some x=>rw[e]at q;exact q
  |false=>
   have y:(!t.plain&&decide (es.size>1))=false:=by rw[f]at hd;simpa using hd
   refine l _ _ _ _ _ s.drawn (Ae M s.heap.objs.size a B (es.toList.map (·.2)) (by simp) (slotAt t) λA E s i Q hi G q=>Mj G f y ?_) ⟨⟨_,Wl _ rfl,rfl,rfl⟩,S1⟩ lt (by simp) (List.Perm.refl _) (new _<|Wf _) λb o e=>YX _ e;rw[RH G hi];have hz:=AR G.fit;rw[Wh]at q;by_cases L:i<es.size
   ·have C:=WW L;have e2:t.place[i]?=some t.place[i]:=WW (by lia);have U:es.toList[i]?=some es[i]:=by rw[WU];exact C
    rw[U]at q;rw[C,e2]
    have e4:slotAt t (i+1)=t.place[i]+1:=by
     unfold slotAt;rw[YV (by lia)]
     have:i<t.place.size:=by lia
     simp[Array.getD,this]
    have Y:=q;rw[e4]at Y;exact Y
   ·have C:es[i]?=none:=Array.getElem?_eq_none (by lia);have U:es.toList[i]?=none:=by rw[WU];exact C
    rw[U]at q;rwa[C]
 |true=>
  rw[Wc rfl];refine YT (O2 _ _ s (by simp) λr d y=>?_);have u:r.length=es.size:=by rw[y.length_eq];simp
  have J:∀p∈r,p<es.size:=λp hm=>List.mem_range.mp (y.mem_iff.mp hm);refine YT (WN ?_<|by show(r.map λ(i:Nat)=>rawInt i).toArray.size<=sizeLine;rw[Wy,YU,u];exact QP S.few);have z:=YX {cls:=.type "tuple",data:=.seq (r.map λ(i:Nat)=>rawInt i).toArray} g;refine YT (wpAny_setEpoch_of z h S.fit<|YT<|WN<|Wb ⟨_,rfl, "set_iterator",_,⟨_,Wl _ rfl,rfl⟩,si_slot.lookup,?_⟩);have H:(s.heap.push {cls:=.type "tuple",data:=.seq (r.map λ(i:Nat)=>rawInt i).toArray}).objs.size=s.heap.objs.size+1:=Qz ..
  have T:(List.range es.size).map (λp=>((es[p]?).map (·.2)).getD Value.none)=es.toList.map (·.2):=by
   apply QS;intro k;by_cases hk:k<es.size
   ·simp[hk]
   ·have:es.size<=k:=by lia
    simp[this]
  refine l _ _ _ _ _ d (La M _ a s.heap.objs.size ?_ ?_ r u J _ rfl) ⟨⟨_,Wl _ rfl,rfl,rfl⟩,S.keep λo e=>YX _ (YX _ e),_,YX _ (Wl _ rfl),0,rfl⟩ (λb f=>?_) (by rw[YU];exact u) ?_ (new _ ?_) λb o e=>YX _ (YX _ e)
  ·show a≠_;rw[H];exact Wt (QR ha)
  ·show s.heap.objs.size≠_;rw[H];exact Wt (QX _)
  ·rcases Wk.mp f with rfl|f
   ·refine .inr (new _ ?_);show s.heap.objs.size<=_;rw[H];exact Qy _
   ·rcases Wk.mp f with rfl|f
    ·exact .inl rfl
    ·rw[YW.mp f];exact .inr (new _<|Wf _)
  ·rw[←T];exact y.map _
  ·show s.heap.objs.size<=_;rw[H];exact Qy _
def ER(g:s.TypeIs (.ref a) "set")(h:Q false s):wpAny (model prog w) A (Builtin.List.listLengthHint<|.ref a) Q E s:=by
 refine YT (wpAny_specialOf g F.slot_set_len.lookup ?_);generalize f:("set.__len__" : String)=z
 wp_delta
 have l:splitId z=some ("set","__len__"):=by subst f;decide +kernel
 rw[l];subst f;refine YT (wpAny_isInstance (b:=true) g (by rw[isSubtype_type];kernel_rfl) (wpAny_ite_split (λz=>absurd z (by decide)) λ_=>?_));exact wpAny_ite_split (λ_=>YT (wpAny_typeOf g<|Wb h)) λz=>absurd (by decide +kernel) z
def Iz(hh:A.handled=none)(S:UD w s.heap a js es ep t)(D:Addr)(c:Nat)(g:Value)(Y:s.heap.get? D=some {cls:=.type "list",data:=.seq #[] c})(C:D≠a)(fin:∀h' L d (vs:Yd) x,vs.Perm (es.toList.map (·.2))->h'.get? D=some {cls:=.type "list",dict:=none,data:=.seq vs.toArray x,slots:=#[]}->(∀b o,b≠D->s.heap.get? b=some o->h'.get? b=some o)->R (.ok<|.ret g) {s with heap:=h',toks:=L,drawn:=d}) :
  wpAny (model prog w) A.in1 (Builtin.List.listExtendWith (.ref D) (.ref a) g) (λf u=>match f with | .done f=>R (.ok f) u | .again x=>x.quiet=true/\codeAny (model prog w) A x R u) (λe u=>R (.error e) u) s:=by
 obtain⟨ob,B,hx,hdd⟩:=S.obj;have hT:s.TypeIs (.ref a) "set":=⟨ob,B,hx.1⟩;unfold Builtin.List.listExtendWith;refine YT (wpAny_typeOf hT ?_);have n1:Builtin.List.listSameRef (.ref D) (.ref a)=false:=by simp[Builtin.List.listSameRef,C]
 have n2:(Value.type "set" == Value.type "list")=false:=by decide
 have n3:(Value.type "set" == Value.type "tuple")=false:=by decide
 simp only[n1,n2,n3,Bool.or_false,Bool.false_eq_true,if_false];refine YT (Oi (A':=A.in1) hh S λI fp vs St h1 d1 W N flt hl hp U keep=>?_);have hDI:D≠I:=λz=>by rw[←z,Y]at U;cases U
 have loop:∀h L c1,St 0 h->(∀b o,b≠D->s.heap.get? b=some o->h.get? b=some o)->h.get? D=some {cls:=.type "list",data:=.seq #[] c1}->D∉fp->
   codeAny (model prog w) A (.builtin "list.extend.loop" ⟨[.ref D,.ref I,g],[]⟩) R {s with heap:=h,toks:=L,drawn:=d1}:=λh L c1 st hk q p=>by
  refine codeAny_extend_loopS W.toS (QP S.few) D p g es.size 0 _ #[] c1 rfl (WX _) st q (ItemsOf.nil _) λu v x M J r=>?_
  have ev:v.toList=vs:=by
   apply QS;intro k;by_cases Q:k<v.size
   ·have e1:=WW Q;rw[WU,e1];exact(r.2 k _ e1).symm
   ·rw[WU,Array.getElem?_eq_none (by lia),Q1 (by have:=r.1;lia)]
  have e2:v=vs.toArray:=by rw[←ev]
  rw[e2]at J;rw[Moved.eq_with M];refine fin u.heap u.toks d1 vs x hp J λb o l e=>M.heap b o (λG=>?_) (hk b o l e);rcases Wk.mp G with z|z
  ·exact l z
  ·rw[YW.mp z,U]at e;cases e
 have p:D∉fp:=λM=>by
  rcases flt D M with z|z
  ·exact C z
  ·rw[Y]at z;cases z
 have T:Shared.TypeIs {s with heap:=h1,drawn:=d1} (.ref a) "set":=⟨ob,keep _ _ B,hx.1⟩
 refine YT (Qi<|ER T ?_);have q:=keep _ _ Y;refine YT (wpAny_rule<|YT (?_:wpAny _ _ (updateSeq D (·.push .none) >>= λ_=>updateSeq D (·.pop)) _ _ _));refine YT (wpAny_updateSeq q rfl ?_);have H:=WB (Obj.mapSeq (·.push Value.none)) q rfl;refine wpAny_updateSeq H rfl ?_
 have y:∀b o,b≠D->h1.get? b=some o->((h1.update D<|Obj.mapSeq (·.push Value.none)).update D (Obj.mapSeq (·.pop))).get? b=some o:=λb o l e=>
  (WD _ _<|Ne.symm l).trans ((WD _ _<|Ne.symm l).trans e)
 exact Wb ⟨plainId_quiet F.plain_extend_loop _,loop _ _ _ (W.frame 0 _ _ N λb l o e=>y b o (λz=>p (z▸l)) e) (λb o l e=>y b o l (keep b o e)) (WB (Obj.mapSeq (·.pop)) H rfl) p⟩
def Zal(G:A.handled=none)(S:UD w s.heap a js es ep t)(u:∀g h d vs,vs.Perm (es.toList.map (·.2))->(∀b o,s.heap.get? b=some o->g.get? b=some o)->s.heap.objs.size<g.objs.size->R vs {s with heap:=g,toks:=h,drawn:=d}) :
  wpAny (model prog w) A (collect<|.ref a) R E s:=by
 obtain⟨Q,C,hx,H⟩:=S.obj;refine YT (wpAny_runValue<|Qf entry_proto_collect' ?_);have M:=Q6 (A:=A) PySem.F.plain_proto_collect ⟨[.ref a],[]⟩;refine(YT<|WN<|Wb ⟨plainId_quiet PySem.F.plain_list_iadd _,Qf entry_list_iadd' ?_⟩);rw[(Q6 (A:=A) PySem.F.plain_list_iadd ⟨[.ref s.heap.objs.size,.ref a],[]⟩)];have J:(s.heap.push {cls:=.type "list",data:=.seq ([]:Yd).toArray}).get? s.heap.objs.size=some {cls:=.type "list",data:=.seq #[]}:=Wl _ rfl
 have B:=Iz (prog:=prog) (s:={s with heap:=s.heap.push {cls:=.type "list",data:=.seq ([]:Yd).toArray}})
  (R:=λq z=>∃g h d vs v,q=.ok (.ret<|.ref s.heap.objs.size)/\z={s with heap:=g,toks:=h,drawn:=d}/\vs.Perm (es.toList.map (·.2))/\(∀b o,s.heap.get? b=some o->g.get? b=some o)/\
   g.get? s.heap.objs.size=some {cls:=.type "list",dict:=none,data:=.seq vs.toArray v,slots:=#[]}) G (S.keep λo e=>YX _ e) s.heap.objs.size 0 (.ref s.heap.objs.size) J (Vv<|Wd C)
  λg h d vs v p l r=>⟨g,h,d,vs,v,rfl,rfl,p,λb o e=>r b o (Wt<|Wd e) (YX _ e),l⟩
 refine Wx B (λf z x=>?_) λe z x=>?_
 ·cases f with
  |done f=>
   obtain⟨g,h,d,vs,v,e,rfl,p,r,l⟩:=x;cases e
   refine(YT<|wpAny_load l<|Wb ?_);exact u g h d vs p r (Wd l)
  |again T=>
   refine⟨x.1,Qd x.2 λq N y=>?_⟩;obtain⟨g,h,d,vs,v,rfl,rfl,p,r,l⟩:=y;refine(YT<|wpAny_load l<|Wb ?_);exact u g h d vs p r (Wd l)
 ·obtain⟨_,_,_,_,_,L,_⟩:=x;cases L
theorem Es:∀{l:List (Int×Value)},(∀e∈l,Ent e)->IntsAre (l.map (·.2)) (l.map keyOf)
 |[],_=>.nil
 |e::r,h=>by
  obtain⟨k,t,rfl⟩:=h e W3;exact .cons k t (Es λx hx=>h x (Wm _ hx))
def My{vs us}(p:vs.Perm us):∀{ns:ZX},IntsAre us ns->∃b,IntsAre vs b/\b.Perm ns:=by
 induction p with
 |cons x _ q=>
  intro ns h;cases h with
  |cons n t r=>
   obtain⟨b,v,u⟩:=q r;exact⟨n::b,.cons n t v,List.Perm.cons _ u⟩
 |swap x y l=>
  intro ns h;cases h with
  |cons n t r=>
   cases r with
   |cons f g o=>exact⟨f::n::_,.cons f g (.cons n t o),List.Perm.swap _ _ _⟩
 |_=>grind
def Zaa(L:A.handled=none)(B:SetB w s.heap a js)(x:js.length<64)
  (C:∀l y u d f ns e,IntsAre f ns->ns.Perm js->ns.Pairwise (·<=·)->s.heap.get? l=none->s.heap.objs.size<=l->y.get? l=some {cls:=.type "list",data:=.seq f.toArray e}->
   (∀b o,s.heap.get? b=some o->y.get? b=some o)->Q (.ref l) {s with heap:=y,toks:=u,drawn:=d}) :
  wpAny (model prog w) A (call (.builtin "sorted") [.ref a]) Q E s:=by
 obtain⟨es,ep,t,S⟩:=B;refine Calls.call_function_entry kind_sorted plain_sorted entry_sorted (args_sorted1 _) ?_;refine YT (Wb<|YT (Zal L S λp u d r H keep big=>?_));obtain⟨N,G,v⟩:=My H (Es S.ent);have g:=v.trans S.per;have J:r.length<64:=by rw[IntsAre.length G,g.length_eq];exact x
 refine YT (wpAny_newList ?_<|by have:(64:Nat)<=sizeLine:=(by decide);lia);have z:(p.push<|seqObj "list" r.toArray 0).get? p.objs.size=some (seqObj "list" r.toArray 0):=Wl _ rfl;refine YT (Qi<|QZ slot_list_sort ⟨_,z,rfl⟩ entry_list_sort (list_sort_tree z G J λf ns a1 a2 a3=>⟨_,rfl,?_⟩)<|args_list_sort _);obtain⟨e,M⟩:=sortedHeap_at z;refine Wb ⟨_,rfl,C p.objs.size _ u d f.toList ns e a1 (a2.trans g) a3 ?_ (QD big) (by simpa [seqObj]using M) λb o q=>?_⟩
 ·cases q:s.heap.get? p.objs.size with
  |none=>rfl
  |some o=>exact absurd (Wd<|keep _ _ q) (WR _)
 ·have h:=Wd (keep b o q);rw[sortedHeap_old (Wt h) (by rw[size_push'];exact QR h)];exact YX _ (keep b o q)
end
end SetR
namespace Own
open L2
noncomputable def KC(w:World)(l:Addr)(b:ZX):HO:=.ext λh=>SetR.SetB w h l b
section
variable {X:Cx}
def RN{w H h l b}(B:SetR.SetB w h l b):ObjOk P w H h l (KC w l b):=by
 refine⟨B,?_,λp n f k=>f.at k⟩;obtain⟨q,r,t,S⟩:=B;obtain⟨o,g,_⟩:=S.obj
 grind
def Mo(y:X.calm=true):X6 X (.type "set") (λxs H Q=>∃(p:Addr) (ns:ZX),xs=[.ref p]/\SqL X.K H p (ns.map V.int)/\ns.length+1<4096/\∀l,H l=none->Q (.ref l) (upd H l<|KC X.w l<|ns.foldl SetR.UA [])):=by
 intro pins s A H xs C Q I f h;obtain⟨p,ns,rfl,z,x,q⟩:=h;obtain⟨u,rfl,g⟩:=f.one;obtain rfl:=g;obtain⟨v,r,n,_⟩:=I.list z;refine SetR.M0 (I.ok.hd y) n.isList (by simpa using Eo r) x λG E B keep=>?_;exact⟨.ref s.heap.objs.size,upd H s.heap.objs.size (KC X.w s.heap.objs.size _),I.laid (λb o e=>keep b o (Wd e) e) (Wf _) (RN B),rfl,q _ (I.hok.fresh<|Wf _)⟩
def Av(N:X.calm=true):X6 X (.builtin "sorted") (λxs H Q=>∃p g,xs=[.ref p]/\g.length<64/\(SqL X.K H p (g.map V.int)\/H p=some (KC X.w p g))/\
  ∀l (ns:ZX),H l=none->ns.Perm g->ns.Pairwise (·<=·)->Q (.ref l) (upd H l<|.lst<|ns.map V.int)):=by
 intro pins s U H xs Y Q I G h;obtain⟨p,g,rfl,A,v,q⟩:=h;obtain⟨u,rfl,J⟩:=G.one;obtain rfl:=J
 have big:∀{ns:ZX},ns.Perm g->(ns.map V.int).length<=sizeLine:=λM=>by
  rw[YU,M.length_eq]
  have:(64:Nat)<=sizeLine:=by decide
  lia
 rcases v with v|v
 ·obtain⟨n,r,L,_⟩:=I.list v;have E:IntsAre n g:=by simpa using Eo r
  refine sorted_ints L.isList E (by rw[IntsAre.length E];exact A) λf ns a1 a2 a3=>?_;obtain⟨e,C⟩:=sortedAll_at s.heap n f;have x:=I.hok.fresh (Qy _);refine⟨.ref (s.heap.objs.size+1),upd H (s.heap.objs.size+1) (.lst<|ns.map V.int),I.laid (λb o e=>sortedAll_old e) (Qy _) ⟨big a2,f.toList,e,TB a1,?_⟩,rfl,q _ ns x a2 a3⟩;omega
 ·have B:=(I.hok p _ v).1;refine SetR.Zaa (I.ok.hd N) B A λl T tk d f ns e a1 a2 a3 nl y C keep=>?_;have x:=I.hok.fresh y;refine⟨.ref l,upd H l (.lst<|ns.map V.int),?_,rfl,q l ns x a2 a3⟩;have ok:HOk X.prog X.w (upd H l<|.lst<|ns.map V.int) T:=I.hok.laid keep y ⟨big a2,f,e,TB a1,C⟩;exact I.call (ch:=[]) (Un.laid keep y x) ok I.bare (λb z=>absurd z (by simp))
end
section
variable {X:Cx}{K:ZV}
def G8(b:autoParam (X.K=K) au_0):IxR X (λx y H Q=>KO K x y H Q\/KS K x y H Q):=by subst b;exact MY
def HA(b:autoParam (X.K=K) au_0):X6 X (.builtin "len") (λxs H Q=>∃x n,xs=[x]/\TR K x H n/\Q (.int n) H):=by subst b;exact GL
def EB(b:autoParam (X.K=K) au_0):OpR X (compareOp .In) (rIn K false):=by subst b;exact Hj
def RY(b:autoParam (X.K=K) au_0):OpR X (compareOp .NotIn) (rIn K true):=by subst b;exact EN
def Eg{pos es k t n}(g:X.calm=true)(h:PGs X es t)(l:autoParam (X.K=K) au_0)(f:autoParam ((assignEach es X.env).length=n) au_0)(b:autoParam ((assignEach es X.env).findIdx? (·.1)=none) au_0):PG X (.Tuple es k pos) (SL K n t):=by subst l;exact Ov g h f b
end
section
variable {α:Type}{R:Hp->V->α->Prop}{φ:Yb}{g:TG}{tc:TT}{te:TE}{σ:L2.St}{H1:Hp}{F:Hp->Prop}{D:Addr}
def Zaz{K a xs}{ds:List α}(f:α->Option V)(v:SqL K H1 a xs)(E:xs.length=ds.length)(G:H1 D=none)(J:ds.length<=sizeLine)(turn:∀(i:Nat) x d l,xs[i]?=some x->ds[i]?=some d->Same H1 l->∀k:Option V->Hp->Prop,k (f d) l->g x (atStart φ σ) l λh w=>Sub (atStart φ σ) h/\tc h w λb r=>if b=true then te h r λy u=>k (some y) u else k none r)(done:F (upd H1 D<|.lst<|ds.filterMap f)) :
  ∃W:Nat->Nat->List V->Hp->Prop,(∃m,W 0 m [] (upd H1 D<|.lst []))/\
   ∀i m q l,W i m q l->((Itl K a).stop i l/\F l)\/((Itl K a).go i l/\∀x z,(Itl K a).yld i l x z->g x (atStart φ σ) z λh w=>Sub (atStart φ σ) h/\tc h w λb r=>
    if b=true then te h r λy u=>u D=some (.lst q)/\q.length<sizeLine/\∃n,n<m/\W (i+1) n (q++[y]) (upd u D<|.lst (q++[y]))else ∃n,n<m/\W (i+1) n q r):=by
 refine⟨λi m q l=>m=ds.length-i/\i<=ds.length/\q=(ds.take i).filterMap f/\l=upd H1 D (.lst q),⟨ds.length,by simp,WX _,by simp,rfl⟩,?_⟩;rintro i m q l ⟨rfl,L,rfl,rfl⟩;have s:Same H1 (upd H1 D<|.lst ((ds.take i).filterMap f)):=UB G;by_cases p:i<ds.length
 ·refine .inr ⟨⟨xs,xs[i]'(by lia),s.seq v,by simp[E,p]⟩,λx z y=>?_⟩;obtain⟨e,y⟩:=y;subst e
  refine turn i x ds[i] _ (y xs<|s.seq v) (Wa p) s (λo A=>match o with
   |some y=>A D=some (.lst ((ds.take i).filterMap f))/\((ds.take i).filterMap f).length<sizeLine/\∃n,n<ds.length-i/\(n=ds.length-(i+1)/\i+1<=ds.length/\(ds.take i).filterMap f++[y]=(ds.take (i+1)).filterMap f/\upd A D (.lst ((ds.take i).filterMap f++[y]))=upd H1 D (.lst ((ds.take i).filterMap f++[y])))
   |none=>∃n,n<ds.length-i/\(n=ds.length-(i+1)/\i+1<=ds.length/\(ds.take i).filterMap f=(ds.take (i+1)).filterMap f/\A=upd H1 D (.lst ((ds.take i).filterMap f)))) ?_
  have B:=WI p;cases C:f ds[i]with
  |some y=>
   refine⟨Um,?_,ds.length-(i+1),by lia,rfl,p,?_,DB⟩
   ·have H:=QI f (ds.take i);rw[WS]at H;lia
   ·rw[B,Q2];simp[C]
  |none=>
   refine⟨ds.length-(i+1),by lia,rfl,p,?_,rfl⟩;rw[B,Q2];simp[C]
 ·have e:i=ds.length:=by lia
  subst e;refine .inl ⟨⟨xs,s.seq v,by lia⟩,?_⟩;rwa[Va]
end
noncomputable def eqL(xs b:List V):Bool:=decide (xs.length=b.length)&&(List.range xs.length).all λj=>eqV (xs.getD j .non) (b.getD j .non)
noncomputable def X8(K:ZV)(neg:Bool):R2:=λx y H Q=>∃(p q:Addr) (xs b:List V),x=.ref p/\y=.ref q/\SqL K H p xs/\SqL K H q b/\xs.all UM=true/\b.all UM=true/\Q (.bl (if neg then !eqL xs b else eqL xs b)) H
section
variable {X:Cx}
def Nu{xs b us ws}(h:Vals xs us)(g:Vals b ws)(f1:xs.all UM=true)(r:b.all UM=true)(j:Nat)(q:j<us.toArray.size)(p:j<ws.toArray.size) :
  SeqAt.EqAt A s us.toArray[j] ws.toArray[j] (eqV (xs.getD j .non)<|b.getD j .non):=by
 have C:=h.length;have B:=g.length;have G:j<us.length:=by simpa using q
 have E:j<ws.length:=by simpa using p
 have n:xs[j]?=some (xs[j]'(by lia)):=Wa _;have l:b[j]?=some (b[j]'(by lia)):=Wa _;obtain⟨u,J,o⟩:=h.get n;obtain⟨w,H,f⟩:=g.get l;have x:us.toArray[j]=u:=by grind
 have v:ws.toArray[j]=w:=by grind
 have z:xs.getD j .non=xs[j]'(by lia):=by rw[Wr,n];rfl
 have y:b.getD j .non=b[j]'(by lia):=by rw[Wr,l];rfl
 rw[x,v,z,y];exact Du o f (WA.mp f1 _<|WE _) (WA.mp r _<|WE _)
def Ox(o:X.A.units<cLine):OpR X (compareOp .Eq) (X8 X.K false):=by
 intro pins s G H x y v u Q I w r h;obtain⟨p,q,xs,b,rfl,rfl,z,hq,f1,E,k⟩:=h;obtain rfl:=w;obtain rfl:=r;obtain⟨L,g,l,_⟩:=I.list z;obtain⟨J,f,p2,_⟩:=I.list hq;have N:=g.length;have M:=f.length;have n:=k;by_cases e:xs.length=b.length
 ·refine SeqAt.eq_listAt l.isList p2.isList (by simp;lia) o (λj C B=>Nu g f f1 E j C B) ⟨.bl (eqL xs b),H,I,?_,n⟩;show _=Value.bool (eqL xs b);unfold eqL
  grind
 ·refine SeqAt.eq_list_lengthsAt l.isList p2.isList (by simp;lia) o ⟨.bl (eqL xs b),H,I,?_,n⟩;unfold eqL;rw[W4 e];rfl
def Dw(o:X.A.units<cLine):OpR X (compareOp .NotEq) (X8 X.K true):=by
 intro pins s G H x y v u Q I w r h;obtain⟨p,q,xs,b,rfl,rfl,z,hq,f1,E,k⟩:=h;obtain rfl:=w;obtain rfl:=r;obtain⟨L,g,l,_⟩:=I.list z;obtain⟨J,f,p2,_⟩:=I.list hq;have N:=g.length;have M:=f.length;have n:=k;by_cases e:xs.length=b.length
 ·refine SeqAt.RcNeAt.lists l.isList p2.isList (by simp;lia) o (λj C B=>Nu g f f1 E j C B) _ _ _ _ ⟨.bl (!eqL xs b),H,I,?_,n⟩;show _=Value.bool (!eqL xs b);unfold eqL
  grind
 ·refine SeqAt.RcNeAt.lists_lengths l.isList p2.isList (by simp;lia) o _ _ _ _ ⟨.bl (!eqL xs b),H,I,?_,n⟩;unfold eqL;rw[W4 e];rfl
end
section
variable {X:Cx}{K:ZV}
def MA{n t name apos cpos T id r}(p:PlainAttrs T)(slot:Slot T name id)(l:typeOf (.builtin id)=pure (.type "method_descriptor"))(u:MtM X id r)(s:PE X o n)(v:PA X (e::es) t)(w:autoParam (X.K=K) au_0)(g:autoParam (attributeBase o name X.env (eval o X.env)=eval o X.env) au_0)
  (h:autoParam (((backTo cpos<|starEach (e::es) X.env).all (λx=>!x.1)&&(backToKw cpos<|keywordEach [] X.env).all (λx=>x.1.isSome)
   && decide ((e::es).length+([]:List Keyword).length+(if ([]:List Keyword).isEmpty then 0 else 1)<30))=true) au_0)
  (f:autoParam ((apos.endLine==cpos.line)=true) au_0) (q:autoParam (starEach (e::es) X.env=(false,eval e X.env)::starEach es X.env) au_0) (b:autoParam ((backTo cpos<|starEach es X.env).any (·.1)=false) au_0) :
  PE X (.Call (.Attribute o name apos) (e::es) [] cpos) (tBM K T r n t):=by
 subst w;exact Na p slot l u s v g h f q b
end
def Bu(xs b:ZX):eqL (xs.map V.int) (b.map V.int)=decide (xs=b):=by
 unfold eqL;rw[YU,YU];by_cases e:xs=b
 ·subst e;rw[YZ rfl,YZ rfl,Bool.true_and,WA];intro j n;have g:j<xs.length:=by simpa using n
  rw[Wr,Wh,Wa g];show(xs[j]==xs[j])=true;simp
 ·rw[W4 e];by_cases h:xs.length=b.length
  ·rw[YZ h,Bool.true_and,Bool.eq_false_iff];intro f;apply e;apply List.ext_getElem h;intro j l p
   have:=WA.mp f j (by simpa using l)
   rw[Wr,Wh,Wa l,Wr,Wh,Wa p]at this;have o:(xs[j]==b[j])=true:=this;simpa using o
  ·grind
def Ku(xs:ZX):(xs.map V.int).all UM=true:=by
 rw[List.all_map];exact WA.mpr λ_ _=>rfl
end Own
namespace M
open L2 Own
def LV{b:Type}(R:Hp->V->b->Prop)(H:Hp)(vs:List V)(xs:List b):Prop:=
 vs.length=xs.length/\∀(i:Nat) (x:b),xs[i]?=some x->∃v,vs[i]?=some v/\R H v x
def LAt{b:Type}(R:Hp->V->b->Prop)(H:Hp)(l:Addr)(xs:List b):Prop:=∃f,H l=some (.lst f)/\LV R H f xs
def Xi(H:Hp)(v:V)(q:Int×Int):Prop:=∃a,v=.ref a/\H a=some (.tup [.int q.1,.int q.2])
section
variable {α:Type}{R:Hp->V->α->Prop}{H H':Hp}{vs:List V}{xs:List α}{l:Addr}
def LV.get {i:Nat}{v} (h:LV R H vs xs) (e:vs[i]?=some v):∃x,xs[i]?=some x/\R H v x:=by
 have f:i<xs.length:=by rw[←h.1];exact(Wp.mp e).1
 obtain⟨b,g,r⟩:=h.2 i xs[i] (by simp)
 grind
end
def Field(ps:ZW):Prop:=∀q∈ps,1<=q.1/\q.1<=10/\1<=q.2/\q.2<=1000
def OE(b:ZX)(k z:Int):z∈SetR.UA b k↔z∈b\/z=k:=by
 unfold SetR.UA;split
 ·grind
 ·simp
theorem Co:∀(ns b:ZX) z,z∈ns.foldl SetR.UA b↔z∈b\/z∈ns
 |[],b,z=>by simp
 |n::r,b,z=>by
  rw[List.foldl_cons,Co r,OE,Wk];constructor
  ·grind
  ·grind
def Ry(k:Int)(h:b.Nodup):(SetR.UA b k).Nodup:=by
 unfold SetR.UA;split
 ·lia
 ·grind
theorem AV:∀(ns:ZX) {b:ZX},b.Nodup->(ns.foldl SetR.UA b).Nodup
 |[],_,h=>h
 |n::r,b,h=>AV r (Ry n h)
theorem FX:∀(ns b:ZX),(ns.foldl SetR.UA b).length<=b.length+ns.length
 |[],b=>by simp
 |n::r,b=>by
  have g:=FX r (SetR.UA b n)
  have f:(SetR.UA b n).length<=b.length+1:=by
   unfold SetR.UA;split
   ·simp
   ·simp
  grind
def TN{l:ZX}(h:l.Pairwise (·<=·))(n:l.Nodup):l.Pairwise (· < ·):=by
 have:=h.and n
 exact this.imp λ{a b} h=>by have:=h.1;have:=h.2;lia
def AU{g f:ZX}(n:g.Pairwise (· < ·))(l:f.Pairwise (· < ·))(h:∀z,z∈g↔z∈f):g=f:=by
 have p:g.Nodup:=n.imp λ{a b} h=>by lia
 have o:f.Nodup:=l.imp λ{a b} h=>by lia
 exact((List.perm_ext_iff_of_nodup p o).mpr h).eq_of_pairwise (λa b _ _ x y=>by lia) n l
noncomputable def tenL:ZX:=[1,2,3,4,5,6,7,8,9,10]
def IB:z∈tenL↔1<=z/\z<=10:=by
 unfold tenL;constructor
 ·intro h;simp only[Wk,Qq,or_false]at h;omega
 ·rintro⟨f,b⟩;simp only[Wk,Qq,or_false];lia
noncomputable def U9(ps:ZW):ZX:=tenL.filter λh=>decide (h∈ps.map (·.1))
def Tp(ps:ZW):(U9 ps).Pairwise (· < ·):=List.Pairwise.filter _ (by trivial)
def A0(b:Field ps){z}:z∈U9 ps↔z∈ps.map (·.1):=by
 unfold U9;rw[Qv,QT,IB];constructor
 ·grind
 ·intro h;obtain⟨q,hq,rfl⟩:=W8.mp h
  have:=b q hq
  grind
def R8(ps:ZW):(U9 ps).length<=10:=by
 have:=Q3 (λh=>decide (h∈ps.map (·.1))) tenL
 trivial
def OA(b:Field ps)(p:ns.Perm ((ps.map (·.1)).foldl SetR.UA []))(h:ns.Pairwise (·<=·)):ns=U9 ps:=by
 refine AU (TN h<|p.symm.nodup<|AV _ QL) (Tp ps) λz=>?_;rw[p.mem_iff,Co,A0 b];simp
def AY(z:Int)(xs:ZX):inV (.int z) (xs.map V.int)=decide (z∈xs):=by
 unfold inV
 induction xs with
 |nil=>rfl
 |cons x r b=>
  show((x==z) || _)=_;by_cases e:x=z
  ·grind
  ·grind
def LF{os ns}(g:os.Perm (U9 ps))(n:ns.Perm os)(l:ns.Pairwise (·<=·)):ns=U9 ps:=by
 have f:(U9 ps).Nodup:=(Tp ps).imp λ{a b} h=>by lia
 have p:=n.trans g;exact AU (TN l<|p.symm.nodup f) (Tp ps) λz=>p.mem_iff
end M
namespace ExcR
open L2
structure UT (fs ex:List Addr) (h h':Heap):Prop where
 keep:∀b o,h.get? b=some o->b∉fs->b∉ex->h'.get? b=some o
 slot:∀b o,h.get? b=some o->b∉ex->∃sl,h'.get? b=some {o with slots:=sl}
 size:h.objs.size<=h'.objs.size
def UT.trans (a:UT fs ex l h) (b:UT fs ex h g):UT fs ex l g:=
 ⟨λc o e n m=>b.keep c o (a.keep c o e n m) n m,λc o e m=>by
  obtain⟨r,q⟩:=a.slot c o e m;obtain⟨f,p⟩:=b.slot c _ q m;exact⟨f,p⟩,Wi a.size b.size⟩
def UT.mono {fs f ex g}{l h} (a:UT fs ex l h) (p:∀b∈fs,b∈f) (hx:∀b∈ex,b∈g):UT f g l h:=
 ⟨λc o e n m=>a.keep c o e (λz=>n (p c z)) (λz=>m (hx c z)),λc o e m=>a.slot c o e λz=>m (hx c z),a.size⟩
def M5(o:Obj)(f):(o.mapFields f).dict=o.dict:=by
 obtain⟨c,d,b,sl⟩:=o;cases b<;>rfl
structure Trc (h:Heap) (e T:Addr) (cls:Value×Yi) (fl:Value):Prop where
 ne:T≠e
 exc:∃oe vs,h.get? e=some oe/\(oe.cls,oe.dict)=cls/\oe.data=.fields vs/\vs[1]?=some (.ref T)
 ent:∃oT ts,h.get? T=some oT/\oT.data=.fields ts/\ts[3]?=some fl
section
variable {M:Model}{A:Around}{E:Ya}{s:Shared}{base:Heap}{env:Env}{outer:List Env}{L e:Addr}
def BP{hadNext Q}(B:A.frames=some (env::outer))(U:s.heap.FunFrames base (env::outer))(hf:env.frame=some L)(Y:s.heap.get? e=some v)(C:v.data=.fields vs)(hsz:1<vs.size)(h:∀H T,s.heap.objs.size<=T->Trc H e T (v.cls,v.dict) (rawInt L)->UT (frs (env::outer)) [e] s.heap H->Q () {s with heap:=H}) :
  wpAny M A (do let a ←frameOf env;let u ←entryPlaceOf L hadNext;let b ←EntryCells.newEntry head a .none (rawInt L) .none u;setField (.ref e) 1 b) Q E s:=by
 have n:e∉frs (env::outer):=λhm=>by
  obtain⟨_,o,N,y⟩:=U.mem hm;rw[Y]at N;cases N
  exact y vs C
 refine YT (wpAny_frameOf_fun B U hf λG g=>YT (wpAny_entryPlaceOf λu x=>?_));refine YT (WN ?_<|x.sizeOk5 _ _ _ _ _);have r:=(g.2.1 e n).trans Y;generalize eo:({cls:=.type "traceback",dict:=none,data:=.fields ([head,.ref L,.none,rawInt L,.none]++(if u.isEmpty then List.replicate 6 Value.none else u)).toArray}:Obj)=J;have p:=YX J r;refine Qo p C hsz (h _ G.objs.size (Qc g.1.symm) ?_ ?_)
 ·have l:=Vv (Wd r);have d3:=WK C (·.setIfInBounds 1 (Value.ref G.objs.size));refine⟨l,⟨_,_,WB _ p (Qg d3),by rw[Obj.cls_mapFields,M5],d3,by simp[hsz]⟩,J,_,?_,by rw[←eo],?_⟩
  ·exact(WD _ _<|Ne.symm l).trans (Wl G<|by rw[←eo];rfl)
  ·rfl
 ·refine⟨λb o q nb w=>?_,λb o q w=>?_,?_⟩
  ·have f:b≠e:=λz=>w (by simp[z]);rw[WD _ _ (Ne.symm f)];exact YX _ ((g.2.1 b nb).trans q)
  ·have f:b≠e:=λz=>w (by simp[z]);obtain⟨sl,q1⟩:=g.2.2 b o q;exact⟨sl,by rw[WD _ _ (Ne.symm f)];exact YX _ q1⟩
  ·rw[Heap.size_update,Qz,g.1];exact Qy _
def Zae(f:A.frames=some (env::outer))(q:s.heap.FunFrames base (env::outer))(l:env.frame=some L)(n:s.heap.get? e=some b)(o:b.data=.fields vs)(p:vs[1]?=some .none)(h:∀g T,s.heap.objs.size<=T->Trc g e T (b.cls,b.dict) (rawInt L)->UT (frs (env::outer)) [e] s.heap g->Q () {s with heap:=g}):wpAny M A (noteFrame (.ref e) env) Q E s:=by
 unfold noteFrame;simp only[l];refine YT (wpAny_field n o p ?_);exact BP f q l n o (Q9.mp p).1 h
def Ar(x:Trc s.heap e T cls Y)(h:∀g,Trc g e T cls .none->UT [] [T] s.heap g->Q () {s with heap:=g}) :
  wpAny M A (setField (.ref T) 3 .none) Q E s:=by
 obtain⟨n,⟨w,v,J,H,G,C⟩,U,N,r,p,y⟩:=x;have u:=(Q9.mp y).1;refine Qo r p u (h _ ?_ ?_)
 ·have d3:=WK p (·.setIfInBounds 3 Value.none);exact⟨n,⟨w,v,(WD _ _ n).trans J,H,G,C⟩,_,_,WB _ r (Qg d3),d3,by simp[u]⟩
 ·have l:∀b,b≠T->(s.heap.update T<|Obj.mapFields (·.setIfInBounds 3 Value.none)).get? b=s.heap.get? b:=λb B=>WD _ _ (Ne.symm B);exact⟨λb o q _ f=>(l b λz=>f (by grind)).trans q,λb o q f=>⟨o.slots,(l b λz=>f (by grind)).trans q⟩,Qc (Heap.size_update ..).symm⟩
def DA(n:A.frames=some (env::outer))(hl:s.heap.FunFrames base (env::outer))(y:env.frame=some L)(x:Trc s.heap e T cls .none)(h:∀r f,s.heap.objs.size<=f->Trc r e f cls (rawInt L)->UT (frs (env::outer)) [e,T] s.heap r->Q () {s with heap:=r}):wpAny M A (noteFrame (.ref e) env) Q E s:=by
 obtain⟨ne,⟨oe,vs,g1,g2,g3,g4⟩,oT,G,w,v,Y⟩:=id x;unfold noteFrame;simp only[y];refine YT (wpAny_field g1 g3 g4 ?_);refine YT (wpAny_field w v Y ?_);refine YT (Ar x λh1 B u=>?_)
 have l:=hl.of_keeps λb o q g=>⟨o,u.keep b o q (by simp) (λz=>by
  rw[YW.mp z,w]at q;cases q
  exact g G v),rfl⟩
 obtain⟨_,⟨U,C,N,p2,J,H⟩,_⟩:=id B;refine BP n l y N J (Q9.mp H).1 λh2 f p x2 K2=>h h2 f (Wi u.size p) (by grind) ?_;exact(u.mono (by simp)<|by simp).trans (K2.mono (λ_ z=>z)<|by simp)
def Ng(x:Trc s.heap e T cls r)(h:∀b,Trc b e T cls .none->UT [] [T] s.heap b->Q () {s with heap:=b}) :
  wpAny M A (setFlight (.ref e) none) Q E s:=by
 obtain⟨p,⟨o,n,l,q,g,f⟩,_⟩:=id x;refine YT (wpAny_field l g f ?_);exact Ar x h
def MZ(l:A.frames=some (env::outer))(y:s.heap.FunFrames base (env::outer))(B:env.frame=some L)(C:s.heap.get? e=some f)(G:f.data=.fields vs)(J:vs[1]?=some .none)(h:∀p T,s.heap.objs.size<=T->Trc p e T (f.cls,f.dict) .none->UT (frs (env::outer)) [e] s.heap p->Q () {s with heap:=p}):wpAny M A (leaving env<|.ref e) Q E s:=by
 unfold leaving;refine YT (Zae l y B C G J λN T n x K=>Ng x λH u r=>h H T n u ?_);refine⟨λb o q w g=>r.keep b o (K.keep b o q w g) (by simp) (λz=>?_),λb o q g=>?_,Wi K.size r.size⟩
 ·rw[YW.mp z]at q;exact absurd (Wd q) (Vk.mpr n)
 ·obtain⟨sl,v⟩:=K.slot b o q g;exact⟨sl,r.keep b _ v (by simp) (λz=>by rw[YW.mp z]at q;exact absurd (Wd q) (Vk.mpr n))⟩
def G9(l:A.frames=some (env::outer))(B:s.heap.FunFrames base (env::outer))(C:env.frame=some L)(x:Trc s.heap e T cls .none)(h:∀p f,s.heap.objs.size<=f->Trc p e f cls .none->UT (frs (env::outer)) [e,T] s.heap p->Q () {s with heap:=p}):wpAny M A (leaving env<|.ref e) Q E s:=by
 refine YT (DA l B C x λH f n v K=>Ng v λG u r=>h G f n u ?_);refine⟨λb o q y g=>r.keep b o (K.keep b o q y g) (by simp) (λz=>?_),λb o q g=>?_,Wi K.size r.size⟩
 ·rw[YW.mp z]at q;exact absurd (Wd q) (Vk.mpr n)
 ·obtain⟨sl,w⟩:=K.slot b o q g;exact⟨sl,r.keep b _ w (by simp) (λz=>by rw[YW.mp z]at q;exact absurd (Wd q) (Vk.mpr n))⟩
end
section
variable {P:Program}{w:World}{H H':Hp}{h h':Heap}{a:Addr}{o:HO}{fs ex:List Addr}
def has(x:ObjOk P w H h a o):∃u,h.get? a=some u:=by
 cases o with
 |lst xs=>exact let ⟨_,_,_,_,e⟩:=x;⟨_,e⟩
 |tup xs=>exact let ⟨_,_,_,u,e,_⟩:=x;⟨u,e⟩
 |dK b|dT b=>exact let ⟨_,_,_,_,u,_,_,e,_⟩:=x;⟨u,e⟩
 |set S n=>exact let ⟨u,_,_,_,e,_⟩:=x;⟨u,e⟩
 |ins C p fs=>exact let ⟨_,_,_,e,_⟩:=x;⟨_,e⟩
 |own y=>exact x
 |xd fs=>exact let ⟨_,⟨u,_,_,e,_⟩,_⟩:=x;⟨u,e⟩
 |rng lo l=>exact let ⟨_,_,_,e⟩:=x;⟨_,e⟩
 |frz g u=>exact⟨_,x.1⟩
 |ext f=>exact x.2.1
 |_=>exact⟨_,x⟩
def Bt(ok:HOk P w H h)(e:h.get? a=none):H a=none:=by
 cases q:H a with
 |none=>rfl
 |some o=>
  obtain⟨u,z⟩:=has (ok a o q)
  grind
def PK(ok:HOk P w H h)(k:UT fs ex h h')(g:∀b∈fs,H b=none)(hx:∀b∈ex,H b=none):HOk P w H h':=λa o e=>by
 refine(ok a o e).stay (λb u l q=>?_) (λ_ q=>q) (λ_ _ q=>q);have f:H b≠none:=by grind
 exact k.keep b u q (λz=>f (g b z)) λz=>f (hx b z)
end
structure XAt (P:Program) (w:World) (outer:List Env) (H H':Hp) (s s':Shared) (a T C:Addr) (dx:Yi):Prop where
 os:s'.os=s.os
 bare:AllBare s'.gens
 un:Un (frs outer) [] H H' s.heap s'.heap
 hok:HOk P w H' s'.heap
 na:s.heap.get? a=none
 nT:s.heap.get? T=none
 fa:H' a=none
 fT:H' T=none
 tr:Trc s'.heap a T (.ref C,dx) .none
noncomputable def CXe(P:Program)(w:World):CXT:=λouter H s E e g=>∃a T C b f,e=.ref a/\XAt P w outer H f s g a T C b/\E (.ref C) b f
section
variable {X:Cx}{pins:ZY}{σ:L2.St}{H H':Hp}{s s':Shared}{a T C:Addr}{dx:Yi}
def F5(I:Inv X pins σ H s)(hex:X.ex=[])(k:UT (frs X.stack) ex s.heap w)(hx:∀b∈ex,X.s₀.heap.get? b=none):Un X.fs [] X.H₀ H X.s₀.heap w:=by
 have B:=I.base;rw[hex]at B;have f:∀b o,X.s₀.heap.get? b=some o->b∉ex:=λb o q z=>by rw[hx b z]at q;cases q
 have u:∀b o,X.s₀.heap.get? b=some o->b∉X.fs->b∉frs X.stack:=λb o q h z=>by
  rcases Wk.mp (I.stkSub b z)with e|e
  ·have y:=Wd q;have x:=I.ok.above
   grind
  ·exact h e
 refine⟨λb o q n h g=>k.keep b o (B.keep b o q n h g) (u b o q h) (f b o q),λb o q n v g=>?_,λb o q n g=>B.free b o q n g,λb o q g=>?_,B.tups,B.frzs,B.tbls⟩
 ·obtain⟨sl,p⟩:=B.slot b o q n v g;obtain⟨l,r⟩:=k.slot b _ p (f b o q)
  grind
 ·obtain⟨o1,p⟩:=B.there b o q g;obtain⟨l,r⟩:=k.slot b _ p (f b o q);exact⟨_,r⟩
def PL(I:Inv X pins σ H s)(hex:X.ex=[])(e:s.heap.get? b=none):X.s₀.heap.get? b=none:=by
 cases q:X.s₀.heap.get? b with
 |none=>rfl
 |some o=>
  obtain⟨u,z⟩:=I.base.there b o q (by grind)
  grind
variable {E:Ya}
def R6(I:Inv X pins σ H s)(hex:X.ex=[])(g:X.stack=X.env::X.outer)(l:X.env.frame=some X.env.locals)(x:XAt X.prog X.w X.stack H H' s s' a T C dx) :
  wpAny (model X.prog X.w) X.A (leaving X.env<|.ref a) (λ_ r=>∃n,XAt X.prog X.w X.outer X.H₀ H' X.s₀ r a n C dx) E s':=by
 have J:=I.call' x.os x.un x.hok x.bare λb z=>absurd z (by simp);have o:=J.stack;have p:=J.ok.frames;rw[g]at o p;refine G9 p o l x.tr λu n h q k=>⟨n,J.os,J.bare,?_,?_,PL I hex x.na,?_,x.fa,x.hok.fresh h,q⟩
 ·exact F5 J hex (by rw[g];exact k) λb f=>by
   rcases Wk.mp f with rfl|f
   ·exact PL I hex x.na
   ·rw[YW.mp f];exact PL I hex x.nT
 ·refine PK x.hok k (λb f=>J.stkFree b (by grind)) λb f=>?_;rcases Wk.mp f with rfl|f
  ·exact x.fa
  ·rw[YW.mp f];exact x.fT
 ·exact Ql (Wi J.sz h)
def Dq(J:Inv X pins σ H s)(hex:X.ex=[])(f:X.stack=X.env::X.outer)(n:X.env.frame=some X.env.locals)(q:X.s₀.heap.get? a=none)(v:H a=none)(z:s.heap.get? a=some l)(G:l.cls=.ref C)(o:l.dict=dx)(B:l.data=.fields vs)(L:vs[1]?=some .none) :
  wpAny (model X.prog X.w) X.A (leaving X.env<|.ref a) (λ_ y=>∃p,XAt X.prog X.w X.outer X.H₀ H X.s₀ y a p C dx) E s:=by
 have r:=J.stack;have u:=J.ok.frames;rw[f]at r u;refine MZ u r n z B L λM p g x k=>⟨p,J.os,J.bare,?_,?_,q,?_,v,J.hok.fresh g,by rw[←G,←o];exact x⟩
 ·exact F5 J hex (by rw[f];exact k) λb h=>by rw[YW.mp h];exact q
 ·exact PK J.hok k (λb h=>J.stkFree b (by grind)) λb h=>by rw[YW.mp h];exact v
 ·exact Ql (Wi J.sz g)
def E8{f vs}(I:Inv X pins σ H s)(hex:X.ex=[])(g:X.stack=X.env::X.outer)(h:X.env.frame=some X.env.locals)(keeps:∀b o,s.heap.get? b=some o->n.get? b=some o)(new:s.heap.get? a=none)(q:n.get? a=some f)(u:f.cls=.ref C)(l:f.dict=dx)(r:f.data=.fields vs)(v:vs[1]?=some .none) :
  wpAny (model X.prog X.w) X.A (leaving X.env<|.ref a) (λ_ p=>∃x,XAt X.prog X.w X.outer X.H₀ H X.s₀ p a x C dx) E {s with heap:=n}:=
 Dq (s:={s with heap:=n}) (I.call' (ch:=[]) rfl (Un.kept keeps) (I.hok.kept keeps) I.bare λb z=>absurd z (by simp)) hex g h (PL I hex new) (Bt I.hok new) q u l r v
end
structure T9 (K:ZV) (C:Addr):Prop where
 q:PySem.W.excIn K C [.type "ValueError",.type "Exception",.type "BaseException",.type "object"] "ValueError.__new__"=true
def T9.obj {K C h} (c:T9 K C) (k:K.In h):∃b N nm q bs hdct sn sub ab col dd k0 k1 k2 k3 k5 o,h.get? C=some (excClassObj nm q C N bs b hdct sn sub ab col dd k0 k1 k2 k3 k5 "ValueError.__new__")/\h.Ns N o/\o "__init__"=none/\
  OwnTail h [.type "ValueError",.type "Exception",.type "BaseException",.type "object"] b:=by
 have e:=c.q;unfold PySem.W.excIn at e;split at e
 next dd J sl z=>
  split at e
  next L b k0 k1 k2 k3 n k5 r p=>
   simp only[W6,beq_iff_eq,Bool.not_eq_true']at e;obtain⟨⟨⟨⟨⟨G,E⟩,v⟩,B⟩,g⟩,u⟩:=e;subst G E;have s:=k _ _ z;cases J with
   |mk nm bs y x w A sn sub ab col H=>
    simp only at r v g u
    have f:sl=#[k0,k1,k2,k3,some (.builtin "ValueError.__new__"),k5]:=by
     cases sl with
     |mk l=>simp only at p;rw[p]
    rw[r,v,f]at s;exact⟨b,x,nm,w,bs,A,sn,sub,ab,col,dd,k0,k1,k2,k3,k5,_,s,.of_isNs (Vr k g),PySem.W.nsMap_none_of_in k g u,PySem.W.tail_of_in k B⟩
  next=>cases e
 next=>cases e
abbrev TF:=L2.St->Hp->Str->(Str->Hp->Prop)->Prop
def PF(X:Cx)(es:Yf)(t:TF):Prop:=
 ∀(pins:ZY) (s:Shared) (f:L2.St) (H:Hp) (b:Str) (Q:Str->Hp->Prop),Inv X pins f H s->t f H b Q->
  wpAny (model X.prog X.w) X.A (joinParts b<|evalEach es X.env) (λu h=>∃x g,Inv X pins f g h/\RelV (.str x) u/\Q x g) X.xe s
section
variable {X:Cx}{e e1 e2:Expr}{es:Yf}{t:TF}{tv:TE}{pos:Pos}
noncomputable def Ei:TF:=λ_ H b Q=>b.length<=sizeLine/\Q b H
noncomputable def Cv(x:Str)(t:TF):TF:=λf H b Q=>(b++x).length<=sizeLine/\t f H (b++x) Q
noncomputable def Cz(tv:TE)(t:TF):TF:=λf H b Q=>tv f H λv g=>(∃i:Int,v=.int i/\i.natAbs.log2<1920/\(b++(Str.ofString<|toString i)).length<=sizeLine/\t f g (b++Str.ofString (toString i)) Q)\/
 ∃x:Str,v=.str x/\x.length<=sizeLine/\(b++x).length<=sizeLine/\t f g (b++x) Q
def Kk:PF X [] Ei:=λpins s f H b Q I h=>joinParts_nilE (joinParts_nil ⟨b,H,I.tok _,⟨_,rfl⟩,h.2⟩ h.1)
def Xk(h:PF X es t):PF X (.Constant (.str x) j pos::es) (Cv x t):=λpins s b H f Q I q=>
 joinParts_consE (joinParts_cons<|Calls.Constant_str ⟨q.1,h pins _ b H _ Q (I.tok _) q.2⟩)
def Kz(z:PE X e tv)(h:PF X es t):PF X (.FormattedValue e (-1) none pos::es) (Cz tv t):=λpins s b H y Q I q=>by
 refine joinParts_consE (joinParts_cons<|FormattedValue_plain<|thn (z pins s b H _ I q) ?_);rintro u C ⟨v,n,l,r,w⟩;rcases w with⟨i,rfl,A,g,f⟩|⟨x,rfl,hx,g,f⟩
 ·obtain⟨p,rfl⟩:=r;exact formatField_int_small A ⟨g,h pins _ b n _ Q (l.tok _) f⟩
 ·obtain⟨p,rfl⟩:=r;exact formatField_str (λB o=>⟨g,h pins _ b n _ Q (l.tok _) f⟩) hx
noncomputable def tF(t:TF):TE:=λb H Q=>t b H Str.empty λx f=>Q (.str x) f
def Kt(h:PF X (e1::e2::es) t):PE X (.JoinedStr (e1::e2::es) pos) (tF t):=λpins s b H Q I q=>
 JoinedStr_many (thn (h pins s b H _ _ I q) λu n ⟨x,l,g,r,f⟩=>⟨.str x,l,g,r,f⟩)
end
def SH(X:Cx)(E:XK):Prop:=∀(pins:ZY) (f:L2.St) (H:Hp) (s:Shared) (C a:Addr) (b:Heap) (args:Yd),Inv X pins f H s->Heap.MadeExcOf s.heap b a (.ref C) args->E (.ref C) none H->X.xe (.ref a) {s with heap:=b}
noncomputable def Ak(C:Addr)(E:XK)(t:TA):TS:=λ_ b H=>t b H λf g=>f.length<=sizeLine/\E (.ref C) none g
section
variable {X:Cx}{x:Str}{C:Addr}{E:XK}{e:Expr}{es:Yf}{t:TA}{p cpos pos:Pos}
def OB(c:T9 X.K C)(J:X.mg x=some (.ref C))(T:SH X E)(M:X.calm=true)(Q:PA X (e::es) t)(L:autoParam (Gl X x) au_0)(o:autoParam ((x==("__debug__" : Str))=false) au_1)(u:autoParam (starEach (e::es) X.env=(false,eval e X.env)::starEach es X.env) au_0)(g:autoParam ((backTo cpos<|starEach es X.env).any (·.1)=false) au_0):PS X (.Raise (some<|.Call (.Name x p) (e::es) [] cpos) none pos) (Ak C E t):=by
 intro pins s r H D I h;obtain⟨bm,N,nm,q,bs,hdct,sn,sub,ab,col,dd,k0,k1,k2,k3,k5,mN,Y,U,l,v⟩:=c.obj I.ok.mod.kin
 have b:(backTo cpos<|starEach (e::es) X.env).any (·.1)=false:=by
  rw[u];show(false || (backTo cpos<|starEach es X.env).any (·.1))=false;rw[g];rfl
 refine wpAny_Raise_call_subU (nm:=nm) (q:=q) (N:=N) (bs:=bs) (hdct:=hdct) (sn:=sn) (sub:=sub) (ab:=ab) (col:=col) (dd:=dd) (k0:=k0) (k1:=k1) (k2:=k2) (k3:=k3) (k5:=k5)
  Qj (by decide +kernel) Qj (v.hasType<|by decide +kernel) (I.ok.hd M) b l (KI I L J ⟨rfl,?_⟩ o)
 have w:=Q cpos pins s r H _ I h;rw[u]at w ⊢;refine Vh (thn w ?_);rintro y z ⟨vs,H2,f,A,G,B⟩;refine⟨rfl,by rw[←A.length];exact G,f.bk _ _ Y,U.keeps f.bk,v.keeps f.bk,λh' a n=>?_⟩;exact T pins r H2 z C a h' y f n B
end
section
variable {P:Program}{w:World}{K:ZV}{mg:ZZ}{base:Heap}{N ps:Ye}{qual x:Str}{scope:Scope}{f:Addr}{cd:Value}{A:Around}{outer:List Env}{s:Shared}{H:Hp}{E:XK}
def UK:SH (U1 (CXe P w) P w K mg base N qual scope f cd A outer s H E) E:=by
 intro pins l h o C a p args I m q;obtain⟨t,b,_,_⟩:=m.there;exact Wx (E8 I rfl rfl rfl m.keeps m.new b rfl rfl rfl rfl) (λ_ n ⟨g,y⟩=>⟨a,g,C,none,h,rfl,y,q⟩) λ_ _ z=>z
def Uj:Xj (CXe P w) (U1 (CXe P w) P w K mg base N qual scope f cd A outer s H E) E:=by
 rintro pins l r p e o I ⟨a,T,C,b,h,rfl,y,q⟩;exact Wx (R6 I rfl rfl rfl y) (λ_ n ⟨g,z⟩=>⟨a,g,C,b,h,rfl,z,q⟩) λ_ _ z=>z
def Lo:PassesOwn (model P w) (U1 (CXe P w) P w K mg base N qual scope f cd A outer s H E).A (U1 (CXe P w) P w K mg base N qual scope f cd A outer s H E).env (U1 (CXe P w) P w K mg base N qual scope f cd A outer s H E).xe:=PassesOwn.leaving
def Def.okX {st k sp} (D:Own.Def K mg x st ps) (S:JY N ps (JT st)) (len:∀vs H Q E,sp vs H Q E->vs.length=ps.length)
  (g:∀f b A outer s H vs Q E,JZ k (A.deeper<|envOfC x (JT st) s.heap.objs.size f b)->sp vs H Q E->
   ∃t,PSs (U1 (CXe P w) P w K mg base N x (JT st) f b A outer s H E) (Uw st) t/\t {nx:=λ_ H'=>Q .non H',rt:=Q} (start N vs) H):Own.Callee P w K mg base (CXe P w) (k+1) x ps sp:=by
 obtain⟨f,z,F,q,r⟩:=D.ex;obtain⟨oc,y,kV,u,v,C,b,B,o,rfl,n,l⟩:=F.ex;exact⟨f,_,B4 n l S len λA outer s H vs Q E p h=>g f b A outer s H vs Q E p h,q,F.kp,⟨_,n,rfl⟩,r⟩
end
end ExcR
namespace ExcR
open L2
open Sem (wp)
structure U4 (K:ZV) (C:Addr):Prop where
 c:T9 K C
 ga:PySem.W.findIn K (.ref C) "__getattribute__"=some (some<|.builtin "BaseException.__getattribute__")
 gt:PySem.W.findIn K (.ref C) "__getattr__"=some none
 cl:PySem.W.findIn K (.ref C) "__class__"=some (some<|.builtin "object.__class__")
 is:(PySem.W.clsIn K C).isSome=true
structure Xl (K:ZV) (C:Addr):Prop where
 obj:∀{h:Heap},K.In h->∃bm N nm q bs hdct sn sub ab col dd k0 k1 k2 k3 k5,h.get? C=some (excClassObj nm q C N bs bm hdct sn sub ab col dd k0 k1 k2 k3 k5 "ValueError.__new__")/\OwnTail h [.type "ValueError",.type "Exception",.type "BaseException",.type "object"] bm
 ga:PySem.W.findIn K (.ref C) "__getattribute__"=some (some<|.builtin "BaseException.__getattribute__")
 gt:PySem.W.findIn K (.ref C) "__getattr__"=some none
 cl:PySem.W.findIn K (.ref C) "__class__"=some (some<|.builtin "object.__class__")
 is:(PySem.W.clsIn K C).isSome=true
def U4.any {K:ZV}{C:Addr} (G:U4 K C):Xl K C:=
 ⟨λk=>by
  obtain⟨x,N,h,q,bs,b,g,sub,y,f,w,r,p,o,n,l,z,v,A,s,u⟩:=G.c.obj k;exact⟨x,N,h,q,bs,b,g,sub,y,f,w,r,p,o,n,l,v,u⟩,G.ga,G.gt,G.cl,G.is⟩
section
variable {prog:Program}{w:World}{A:Around}{E:Ya}{h:Heap}{g:Array GenState}{d:Drawn}{t:Nat}{os:OsState}{a C:Addr}{o:Obj}{K:ZV}
def LI{R:Result->Shared->Prop}(k:K.In h)(G:Xl K C)(hx:h.get? a=some o)(p:o.cls=.ref C)(hq:R (.ok<|.ret<|.ref C) ⟨h,g,d,t,os⟩) :
  codeAny (model prog w) A (.call (.builtin "getset_descriptor.__get__") ⟨[.builtin "object.__class__",.ref a,.ref C],[]⟩) R ⟨h,g,d,t,os⟩:=by
 obtain⟨v,N,y,q,bs,n,x,sub,Q,u,M,L,J,H,B,z,s,r⟩:=G.obj k;have f:(⟨h,g,d,t,os⟩:Shared).TypeIs (.builtin "object.__class__") "getset_descriptor":=Vc
 have l:(Value.ref C::v).contains (.type (".".intercalate ("object.__class__".cutAt '.').dropLast))=true:=by
  rw[F.owner_object_class,QJ,r.hasType (b:=true) (by decide +kernel)];rfl
 refine Q7 F.slot_gs_get.plain F.entry_gs_get (F.slot_gs_get.check _ _ _ _ _ _ _ _ f (F.args_gs_get _ _ _) ?_)
 repeat (any_goals (first|assumption|(with_reducible refine WH hx ?_;rw[p])|(with_reducible refine QA s ?_;rw[l])|wp_step))
 refine⟨QH _ (by decide +kernel),Qf F.entry_object_class ?_⟩
 repeat (any_goals (first|assumption|(with_reducible refine WH hx ?_;rw[p])|wp_step))
def HQ{f:Tok}{Q:Fin->Shared->Prop}(k:K.In h)(G:Xl K C)(hx:h.get? a=some o)(b:o.cls=.ref C)(hq:Q (.done<|.ret<|.ref C) ⟨h,g,d,t,os⟩) :
  wpAny (model prog w) A (Builtin.«object.__getattribute__» ⟨[.ref a,.str "__class__" f],[]⟩) Q E ⟨h,g,d,t,os⟩:=by
 have l:(⟨h,g,d,t,os⟩:Shared).TypeIs (.builtin "object.__class__") "getset_descriptor":=Vc;have f1:=Vc;have p:=F.slot_gs_get.lookup;have n:=F.slot_gs_set.lookup;have L:=Qm (M:=model prog w) k G.cl
 repeat (any_goals (first|assumption|(with_reducible refine WH hx ?_;rw[b])|with_reducible refine L.at ?_|wp_step))
 refine LI k G hx b ?_
 repeat (any_goals (first|assumption|wp_step))
def EU{M:Model}{v:Value}{Q:Unit->Shared->Prop}(k:K.In h)(G:Xl K C)(hx:h.get? a=some o)(n:o.cls=.ref C)(hq:Q () ⟨h,g,d,t,os⟩) :
  wpAny M A (checkBuiltinCall "BaseException.__getattribute__" ⟨[.ref a,v],[]⟩) Q E ⟨h,g,d,t,os⟩:=by
 obtain⟨y,N,B,q,bs,l,z,sub,ab,x,dd,U,T,L,J,H,r,p⟩:=G.obj k;have f:(Value.ref C::y).contains (.type "BaseException")=true:=by rw[QJ,p.hasType (b:=true) (by decide +kernel)];rfl
 have u:builtinKind "BaseException.__getattribute__"=some .slot:=by decide +kernel
 have s:splitId "BaseException.__getattribute__"=some ("BaseException","__getattribute__"):=by decide +kernel
 have Y:=F.args_bexc_ga (.ref a) v;simp only[checkBuiltinCall,u,s];refine YT ?_;unfold isInstance
 repeat (first|(with_reducible refine WH hx ?_;rw[n])|(with_reducible refine QA r ?_;rw[f])|wp_step)
 exact hq
def OV{n:Tok}{Q:Ya}(k:K.In h)(G:Xl K C)(hx:h.get? a=some o)(b:o.cls=.ref C)(hq:Q (.ref C) ⟨h,g,d,t,os⟩) :
  wpAny (model prog w) A (getAttrBy (.ref a) (.str "__class__" n) false) Q E ⟨h,g,d,t,os⟩:=by
 obtain⟨U,N,u,q,bs,f,s,sub,Y,p,T,B,z,y,x,v,J,H⟩:=G.obj k;have f0:=F.attrBase_ValueError.ga.bind (.ref a);have l:(Value.builtin "BaseException.__getattribute__" == Value.builtin "object.__getattribute__")=false:=by decide +kernel
 have r:(onTheHeap (Value.ref C)&&Value.builtin "BaseException.__getattribute__" == Value.builtin "object.__getattribute__")=false:=by rw[l];rfl
 have L:=Qm (M:=model prog w) k G.ga;have L2:=Qm (M:=model prog w) k G.gt
 repeat (any_goals (first|assumption|(with_reducible refine WH hx ?_;rw[b])|with_reducible refine L.at ?_|with_reducible refine L2.at ?_|wp_step))
 refine Q7 F.attrBase_ValueError.ga.plain F.entry_bexc_ga (EU k G hx b<|HQ k G hx b ?_)
 repeat (any_goals (first|assumption|wp_step))
def HS{Q:Yh->Shared->Prop}(k:K.In h)(G:Xl K C)(hx:h.get? a=some o)(b:o.cls=.ref C)(hq:Q (some<|.ref C) ⟨h,g,d,t+1,os⟩) :
  wpAny (model prog w) A (getAttr? (.ref a) "__class__") Q E ⟨h,g,d,t,os⟩:=by
 unfold getAttr? getAttrBy?
 repeat (any_goals (first|assumption|with_reducible apply OV k G hx b|wp_step))
end
end ExcR
namespace ExcR
open L2
noncomputable def Xf(a C:Addr)(f:Yi):HO:=.ext λh=>∃o,h.get? a=some o/\(o.cls,o.dict)=(.ref C,f)/\∃b,o.data=.fields b
noncomputable abbrev Cb(a C:Addr):HO:=Xf a C none
def Ob{h a T C f p}(x:Trc h a T (.ref C,f) p):ObjOk P w H h a (Xf a C f):=by
 obtain⟨_,⟨o,g,b,r,q,_⟩,_⟩:=x;exact⟨⟨o,b,r,g,q⟩,⟨o,b⟩,λu s ⟨o1,n,l⟩ k=>⟨o1,k o1 n,l⟩⟩
def Mm{K M h C}(k:K.In h)(e:(PySem.W.clsIn K C).isSome=true):PySem.W.Looks M h (isType<|.ref C) true:=by
 unfold PySem.W.clsIn at e;split at e
 next f=>
  intro o l n g b q;exact YT (wpAny_loadPart (b _ _<|k _ _ f)<|Wb q)
 grind
def Ih{K a C}(G:Xl K C):PySem.W.KitX K (.ref a) (.ref C) (λh=>∃o,h.get? a=some o/\o.cls=.ref C) where
 ty:=λM h _ ⟨o,h1,h2⟩=>h2▸(PySem.W.Looks.ld h1).andThen .now
 it:=λM h k _=>Mm k G.is
 ne:=λh tp dd its n sl k htp=>by
  refine Bool.eq_false_iff.mpr λq=>?_;obtain⟨bm,N,nm,q,bs,hdct,sn,sub,ab,col,dd,k0,k1,k2,k3,k5,hC,_⟩:=G.obj k
  grind
 ca:=λ{prog w A E Q s} k ⟨o,h1,h2⟩ q=>by
  exact HS k G h1 h2 q
section
variable {X:Cx}
def Iv:X6 X (.builtin "isinstance") (λxs H Q=>∃a C n c b,xs=[.ref a,c]/\H a=some (Xf a C n)/\Xl X.K C/\(∃l,(∀u,RelV c u->u=l)/\PySem.W.kitOne X.K (.ref C) l=some b)/\Q (.bl b) H):=by
 intro pins s E H xs J Q I v h;obtain⟨a,C,n,c,b,rfl,y,G,⟨l,g,e⟩,q⟩:=h;cases v with
 |cons r w=>
  cases w with
  |cons x f=>
   cases f
   obtain rfl:=r;cases g _ x
   obtain⟨⟨o,B,A,_⟩,_⟩:=(I.hok a _ y);exact PySem.W.kia_one (Ih G) I.kIn ⟨o,B,(W2 Prod.fst A)⟩ e (λz=>nomatch z) λp=>⟨.bl b,H,I.tok p,rfl,q⟩
def Uq{K}(g:autoParam (X.K=K) au_0):X6 X (.builtin "isinstance") (λxs H Q=>∃a C h c b,xs=[.ref a,c]/\H a=some (Xf a C h)/\Xl K C/\(∃f,(∀u,RelV c u->u=f)/\PySem.W.kitOne K (.ref C) f=some b)/\Q (.bl b) H):=by
 subst g;exact Iv
end
def Nt{H H'}{h v s}(u:Un fs [] H H' h v)(k:UT fs ex v s)(hx:∀b∈ex,h.get? b=none):Un fs [] H H' h s:=by
 have f:∀b o,h.get? b=some o->b∉ex:=λb o q z=>by rw[hx b z]at q;cases q
 refine⟨λb o q n r g=>k.keep b o (u.keep b o q n r g) r (f b o q),λb o q n x g=>?_,u.free,λb o q g=>?_,u.tups,u.frzs,u.tbls⟩
 ·obtain⟨sl,p⟩:=u.slot b o q n x g;obtain⟨l,w⟩:=k.slot b _ p (f b o q)
  grind
 ·obtain⟨o1,p⟩:=u.there b o q g;obtain⟨l,w⟩:=k.slot b _ p (f b o q)
  grind
noncomputable def Ke(X:Cx)(a:Addr):Cx:={X with A:=X.A.mark (some<|.ref a),calm:=false,xe:=λ_ _=>False}
section
variable {X:Cx}{pins pins1:ZY}{σ:L2.St}{H H':Hp}{s s':Shared}{a T C:Addr}{D:Ends}{h0:ExceptHandler}
def Oa(o:X.Ok):(Ke X a).Ok:=⟨o.mod,o.kind,o.glob,o.blt,o.above,o.inj,o.has,o.cab,(λz=>nomatch z),o.frames,o.stk,o.exf,o.bs,o.bsz,o.noex,o.exfs,o.funs,o.frf⟩
def Fe(I:Inv X pins σ H s):Inv (Ke X a) pins σ H s:=⟨Oa I.ok,I.os,I.bare,I.base,I.loc,I.cell,I.free,I.freeC,I.pin,I.hok,I.len⟩
def Gk(o:X.Ok)(I:Inv (Ke X a) pins σ H s):Inv X pins σ H s:=⟨o,I.os,I.bare,I.base,I.loc,I.cell,I.free,I.freeC,I.pin,I.hok,I.len⟩
def Hy{h'}{tk}(I:Inv X pins σ H s)(hN:X.N.Nodup)(hi:X.N[i]?=some n)(hk:X.env.scope.names.lookup n=some .local)(hm:∀(i:Nat) x v,X.N[i]?=some x->σ[i]?=some (some v)->Vis X.env.scope x->∃u,RelV v u/\Look X.env s.heap m x u)(hn:s.heap.Ns X.env.locals m)(l:h'.Ns X.env.locals (λx=>if x=n then v else m x))(f:Heap.SameBut X.env.locals s.heap h'):Inv X pins (σ.set i none) H {s with heap:=h',toks:=tk}:=by
 have cne:=I.cne;have h:∀{b o},X.s₀.heap.get? b=some o->b≠X.env.locals:=λe=>Wt (Ws (Wd e) I.ok.above);refine⟨I.ok,I.os,I.bare,⟨λb o e n r hx=>(f.2 b<|h e).trans (I.base.keep b o e n r hx),λb o e n r hx=>?_,I.base.free,λb o e hx=>?_,I.base.tups,I.base.frzs,I.base.tbls⟩,⟨_,l,λj y J g E e3=>?_⟩,λy c e=>?_,I.free,I.freeC,λp hp=>?_,λb Q e=>?_,by simpa using I.len⟩
 ·obtain⟨sl,g⟩:=I.base.slot b o e n r hx;exact⟨sl,(f.2 b<|h e).trans g⟩
 ·obtain⟨U,g⟩:=I.base.there b o e hx;exact⟨U,(f.2 b<|h e).trans g⟩
 ·by_cases A:j=i
  ·grind
  ·rw[Vd (Ne.symm A)]at E;obtain⟨L,M,q⟩:=hm j y J g E e3;refine⟨L,M,?_⟩;rcases q with⟨k,e⟩|⟨k,c,e,z⟩
   ·have hy:y≠n:=λz=>A (S9 hN g (z▸hi));exact .inl ⟨k,by simp[hy,e]⟩
   ·exact .inr ⟨k,c,e,z.sameBut f (cne y c e)⟩
 ·obtain⟨G,z⟩:=I.cell y c e;exact⟨G,z.sameBut f (cne y c e)⟩
 ·obtain⟨e,n,w,Y,d⟩:=I.pin p hp;exact⟨(f.2 p.1 w).trans e,n,w,Y,d⟩
 ·refine(I.hok b Q e).stay (λc u hc q=>(f.2 c ?_).trans q) (λ_ q=>q) λ_ _ q=>q;rintro rfl;have B:=I.free;rcases hc with z|z
  ·rw[←z,B]at e;cases e
  ·rw[B]at z;cases z
end
noncomputable def CU(i:Nat)(D:Ends):Ends:={nx:=λb H=>D.nx (b.set i none) H,rt:=D.rt,bk:=λb H=>D.bk (b.set i none) H,ct:=λb H=>D.ct (b.set i none) H}
noncomputable def hx(K:ZV)(h:Addr)(i:Nat)(f:TS)(D:Ends):L2.St->XK:=λb c g H=>∃C,c=.ref C/\PySem.W.exmOne K (.ref C) (.ref h)=some true/\
 ∀a,H a=none->f (CU i D) (b.set i<|some<|.ref a) (upd H a<|Xf a C g)
def FQ(CX:CXT)(X:Cx)(E:L2.St->XK):Prop:=∀(pins:ZY) (b:L2.St) (H:Hp) (s:Shared) (e:Value) (f:Shared),Inv X pins b H s->CX X.stack H s (E b) e f->X.xe e f
noncomputable def CQ(sp:Sp)(E:L2.St->XK)(t:TA):TE:=λb H Q=>t b H λf g=>sp (f++[]) g Q (E b)
section
variable {X:Cx}{CX:CXT}{k:Nat}{ps:Ye}{sp:Sp}{E:L2.St->XK}{x:Str}{p pos:Pos}{e:Expr}{es:Yf}{t:TA}
def CK(C:Own.Callee X.prog X.w X.K X.mg X.base CX k x ps sp)(G:JZ k X.A)(J:FQ CX X E)(ha:PA X (e::es) t)(T:autoParam (Gl X x) au_0)(v:autoParam ((x==("__debug__" : Str))=false) au_1)(U:autoParam (starEach (e::es) X.env=(false,eval e X.env)::starEach es X.env) au_0)(o:autoParam ((backTo pos<|starEach es X.env).any (·.1)=false) au_0) :
  PE X (.Call (.Name x p) (e::es) [] pos) (CQ sp E t):=by
 obtain⟨f,fd,F,L,N,_,Y⟩:=C.ex;intro pins s l H Q I h;refine Qw (KI I T L ?_ v);refine QE I.ok.mod.kin N (thn (ha pos pins s l H _ I h) λg n ⟨z,y,b,r,q⟩=>⟨b.kIn,?_⟩) U o;have M:(g++[]).length=ps.length:=by rw[WC,←r.length,←F.len _ _ _ _ q,WC]
 refine Vg (Qd (F.run X.A X.stack n y ⟨g,[]⟩ (g++[]) (z++[]) Q (E l) G b.env0 (Y n g b.kIn M) (by grind) q) λr B hq=>?_);cases r with
 |error e=>exact J pins l y n e B b hq
 |ok fl=>
  cases fl with
  |ret u=>exact b.after hq
  |next=>trivial
  |_=>exact False.elim hq
end
noncomputable def JU(b:ZZ)(x:Str):Addr:=match b x with
 |some (.ref C)=>C
 |_=>0
def Sb(h:b x=some (.ref C)):JU b x=C:=by unfold JU;rw[h]
def UX{v pos}(h:∃u,X.mg x=some u/\RelV v u)(b:autoParam (Gl X x) au_0)(f:autoParam ((x==("__debug__" : Str))=false) au_1):PE X (.Name x pos) (tC v):=by
 obtain⟨u,l,g⟩:=h;exact Fw b l g f
def Ur{C pos}(h:X.mg x=some (.ref C))(b:autoParam (Gl X x) au_0)(f:autoParam ((x==("__debug__" : Str))=false) au_1):PE X (.Name x pos) (tC<|.ref C):=Fw b h rfl f
end ExcR
namespace Own
open L2 M
section
variable {X:Cx}{pins:ZY}{σ:L2.St}{H:Hp}{s:Shared}
def Cu{p:Int×Int}{its}(r:Vals [V.int p.1,V.int p.2] its):∃f b,its=[.int p.1 f,.int p.2 b]:=by
 cases r with
 |cons n g=>
  cases g with
  |cons l h=>
   cases h
   obtain⟨f,rfl⟩:=n;obtain⟨b,rfl⟩:=l
   grind
def MF{x y p q u v}(I:Inv X pins σ H s)(U:A.units<cLine)(L:RelV x u)(J:RelV y v)(Y:Xi H x p)(hq:Xi H y q):SeqAt.EqAt A s u v (decide (p=q)):=by
 obtain⟨a,rfl,C⟩:=Y;obtain⟨b,rfl,l⟩:=hq;obtain rfl:=L;obtain rfl:=J;by_cases n:a=b
 ·subst n;rw[C]at l
  have e:p=q:=by
   injection l with l;injection l with l;injection l with g f;injection f with f _;exact Prod.ext (V.int.inj g) (V.int.inj f)
  rw[YZ e];exact SeqAt.EqAt.same _
 ·obtain⟨_,T,N,G⟩:=(I.hok a _ C);obtain⟨_,Q,M,E⟩:=(I.hok b _ l);obtain⟨B,w,rfl⟩:=Cu N;obtain⟨r,o,rfl⟩:=Cu M
  have h:=SeqAt.RcAt.tuples (e:=λj=>if j=0 then p.1==q.1 else p.2==q.2) G E U (λj g f=>by
   have hj:j=0\/j=1:=by
    have h1':j<2:=g;lia
   rcases hj with rfl|rfl
   ·exact SeqAt.EqAt.int_int _ _ _ _
   ·exact SeqAt.EqAt.int_int _ _ _ _)
  have e:((List.range (min ([Value.int p.1 B,Value.int p.2 w].toArray).size ([Value.int q.1 r,Value.int q.2 o].toArray).size)).all (λj=>if j=0 then p.1==q.1 else p.2==q.2)&&([Value.int p.1 B,Value.int p.2 w].toArray).size==([Value.int q.1 r,Value.int q.2 o].toArray).size)=decide (p=q):=by
   show((List.range 2).all (λj=>if j=0 then p.1==q.1 else p.2==q.2)&&true)=decide (p=q);rw[Bool.and_true];have e2:(List.range 2).all (λj=>if j=0 then p.1==q.1 else p.2==q.2)=((p.1==q.1)&&(p.2==q.2)):=by simp[List.range,List.range.loop]
   rw[e2];by_cases g:p.1=q.1
   ·by_cases f:p.2=q.2
    ·rw[YZ (Prod.ext g f)];simp[g,f]
    ·rw[W4 (λz=>f (by rw[z]))];simp[f]
   ·rw[W4 (λz=>g (by rw[z]))];simp[g]
  rw[e]at h;exact SeqAt.EqAt.of_refs n h
noncomputable def eP(H:Hp)(q:Int×Int)(u:Value):Bool:=match u with
 | .ref a=>(match H a with
  |some (.tup [.int i,.int j])=>decide ((i,j)=q)
  |_=>false)
 |_=>false
def FG{p q}(h:Xi H v p)(r:RelV v u):eP H q u=decide (p=q):=by
 obtain⟨a,rfl,b⟩:=h;obtain rfl:=r;unfold eP;simp_all
theorem NS:∀{vs us}{ps:ZW},Vals vs us->LV Xi H vs ps->us.any (eP H q)=decide (q∈ps)
 |_,_,[],.nil,_=>rfl
 |_,_,_::_,.nil,h|v::vs,u::us,[],.cons _ _,h=>absurd h.1 (by simp)
 |v::vs,u::us,p::ps,.cons r t,h=>by
  obtain⟨g,e,b⟩:=h.2 0 p rfl;cases e
  have f:LV Xi H vs ps:=⟨by simpa using h.1,λi x e=>h.2 (i+1) x e⟩;rw[Q8,FG b r,NS t f];by_cases l:p=q
  ·grind
  ·grind
noncomputable def P3(neg:Bool):R2:=λx y H Q=>∃(l:Addr) (b:ZW) (q:Int×Int),y=.ref l/\Xi H x q/\LAt Xi H l b/\Q (.bl (if neg then !decide (q∈b)else decide (q∈b))) H
theorem NO{x v q}(I:Inv X pins σ H s)(g:A.units<cLine)(f:RelV x v)(hx:Xi H x q):∀{vs us}{ps:ZW},Vals vs us->LV Xi H vs ps->∀u∈us,SeqAt.EqAt A s u v (eP H q u)
 |_,_,_,.nil,_,u,b=>by cases b
 |w::vs,u::us,[],.cons _ _,h,_,_=>absurd h.1 (by simp)
 |w::vs,u::us,p::ps,.cons r t,h,l,b=>by
  obtain⟨o,e,hw⟩:=h.2 0 p rfl;cases e
  have n:LV Xi H vs ps:=⟨by simpa using h.1,λi x e=>h.2 (i+1) x e⟩;rcases Wk.mp b with rfl|b
  ·rw[FG hw r];exact MF I g r f hw hx
  ·exact NO I g f hx t n l b
def Ow(p:X.A.in1.units<cLine):OpR X (compareOp .In) (P3 false):=by
 intro pins s σ H x y v u Q I n g h;obtain⟨l,C,q,rfl,hx,⟨B,z,f⟩,k⟩:=h;cases g
 obtain⟨b,r,o,E⟩:=I.list (SqL.of z);refine SeqAt.in_listAt (eP H q) o.isList (λw hw=>NO I p n hx r f w (by grind)) ⟨.bl _,H,I,rfl,?_⟩;rwa[show b.toArray.any (eP H q)=b.any (eP H q) by simp,NS r f]
def Lj(p:X.A.in1.units<cLine):OpR X (compareOp .NotIn) (P3 true):=by
 intro pins s σ H x y v u Q I n g h;obtain⟨l,C,q,rfl,hx,⟨B,z,f⟩,k⟩:=h;cases g
 obtain⟨b,r,o,E⟩:=I.list (SqL.of z);refine SeqAt.notIn_listAt (eP H q) o.isList (λw hw=>NO I p n hx r f w (by grind)) ⟨.bl _,H,I,rfl,?_⟩;rwa[show b.toArray.any (eP H q)=b.any (eP H q) by simp,NS r f]
end
end Own
namespace M
open L2 Own
section
variable {α:Type}{R:Hp->V->α->Prop}{H:Hp}
noncomputable def pick(c:α->Bool)(d:V×α):Option V:=if c d.2=true then some d.1 else none
end
def Nm(ws:ZW)(r:ZX):Prop:=∀(i:Nat) (x y:Int),r[i]?=some x->r[i+1]?=some y->(x,y)∈ws
structure Ring (hs:ZX) (ws:ZW) (r:ZX):Prop where
 two:2<=r.length
 nodup:r.Nodup
 sub:∀x∈r,x∈hs
 chain:Nm ws r
 last:∀x y,r[0]?=some x->r[r.length-1]?=some y->(y,x)∈ws
theorem CP:∀{xs b:ZX},xs.Nodup->(∀x∈xs,x∈b)->xs.length<=b.length
 |[],_,_,_=>WX _
 |x::xs,b,g,h=>by
  obtain⟨n,l⟩:=WO.mp g;have o:=CP l λz f=>(List.mem_erase_of_ne (λe:z=x=>n (e▸f))).mpr (h z<|Wm _ f)
  grind
end M
namespace M
def sl:ZX->ZX->Prop
 |x::xs,y::b=>x<y\/(x=y/\sl xs b)
 |_,_=>False
theorem N4:∀{a b} x y,sl a b->sl (a++[x]) (b++[y])
 |[],[],_,_,h|[],_::_,_,_,h|_::_,[],_,_,h=>by unfold sl at h;exact h.elim
 |p::a,q::b,x,y,h=>by
  rw[QY,QY];unfold sl at h ⊢;rcases h with h|⟨g,f⟩
  ·lia
  ·exact .inr ⟨g,N4 x y f⟩
theorem Fs:∀{a}{x y:Int},x<y->sl (a++[x]) (a++[y])
 |[],x,y,h=>.inl h
 |p::a,x,y,h=>by
  exact .inr ⟨rfl,Fs h⟩
theorem Su:∀{a b c:ZX},sl a b->sl b c->sl a c
 |[],b,c,h,_|_::_,[],_,h,_|_::_,_::_,[],_,h=>by unfold sl at h;exact h.elim
 |x::a,y::b,z::c,g,f=>by
  unfold sl at g f ⊢;rcases g with g|⟨g,n⟩
  ·lia
  ·rcases f with f|⟨f,l⟩
   ·lia
   ·exact .inr ⟨by lia,Su n l⟩
noncomputable def Ub(g:Int):ZX->Int
 |[]=>g
 |x::t=>Ub x t
theorem Xc(g:Int):∀a b,Ub g (a++b)=Ub (Ub g a) b
 |[],b=>rfl
 |x::a,b=>Xc x a b
theorem TM(g:Int):∀t,(g::t)[t.length]?=some (Ub g t)
 |[]=>rfl
 |x::t=>by
  exact TM x t
def Path(C:Int->Prop)(ws:ZW):Int->ZX->Prop
 |_,[]=>True
 |g,x::t=>C x/\(g,x)∈ws/\Path C ws x t
section
variable {C:Int->Prop}{ws:ZW}
theorem path_app:∀{g}{a b:ZX},Path C ws g (a++b)↔Path C ws g a/\Path C ws (Ub g a) b
 |g,[],b=>⟨λh=>⟨trivial,h⟩,λh=>h.2⟩
 |g,x::a,b=>by
  constructor
  ·rintro⟨n,l,f⟩
   have:=path_app.mp f
   exact⟨⟨n,l,this.1⟩,this.2⟩
  ·rintro⟨⟨n,l,f⟩,o⟩;exact⟨n,l,path_app.mpr ⟨f,o⟩⟩
theorem Af:∀{g}{t:ZX},Path C ws g t->∀x∈t,C x
 |g,[],_,x,h=>by cases h
 |g,y::t,⟨f,_,b⟩,x,h=>by
  rcases Wk.mp h with rfl|h
  ·lia
  ·exact Af b x h
theorem Dd:∀{g}{t:ZX},Path C ws g t->Nm ws (g::t)
 |g,[],_=>λi x y n b=>by simp at b
 |g,z::t,⟨n,b,l⟩=>λi x y h f=>by
  cases i with
  |zero=>grind
  |succ i=>exact Dd l i x y h f
theorem Do:∀{g}{t:ZX},Nm ws (g::t)->(∀x∈t,C x)->Path C ws g t
 |g,[],_,_=>trivial
 |g,z::t,h,b=>⟨b z W3,h 0 g z rfl rfl,Do (λi x y l f=>h (i+1) x y l f) λx hx=>b x (Wm _ hx)⟩
end
def Gr(b:ZX)(l:Int):Int->Prop:=λx=>x∈b/\l<x
def Xa(b:ZX)(ws:ZW)(l:Int)(t:ZX):Prop:=Path (Gr b l) ws l t/\(Ub l t,l)∈ws
def RF(b:ZX)(ws:ZW)(l:Int)(r:ZX):Prop:=
 (r=[]/\∀t,¬Xa b ws l t)\/∃t,r=l::t/\Xa b ws l t/\∀u,Xa b ws l u->t.length<u.length\/(t.length=u.length/\(t=u\/sl t u))
structure Lev (hs:ZX) (ws:ZW) (l:Int) (k:Nat) (ps:List (ZX)) (ls:ZX):Prop where
 way:∀p∈ps,p.length=k/\Path (Gr hs l) ws l p
 srt:ps.Pairwise sl
 lin:∀h∈ls,Gr hs l h
 lsrt:ls.Pairwise (· < ·)
 cover:∀t,t.length<=k->Path (Gr hs l) ws l t->Ub l t∉ls
 first:∀t,t.length=k->Path (Gr hs l) ws l t->(∃p∈ps,Ub l p=Ub l t/\(p=t\/sl p t))\/∃u,u.length<k/\Path (Gr hs l) ws l u/\Ub l u=Ub l t
 none:∀t,t.length<k->¬Xa hs ws l t
 comp:∀h,Gr hs l h->h∉ls->∃t,t.length<=k/\Path (Gr hs l) ws l t/\Ub l t=h
section
variable {hs:ZX}{ws:ZW}{l:Int}{k:Nat}{ps:List (ZX)}{ls:ZX}
def Lev.start (q:ls.Pairwise (· < ·)) (f:∀h,h∈ls↔Gr hs l h):Lev hs ws l 0 [[]] ls:=by
 have nil:∀t:ZX,t.length=0->t=[]:=λt h=>QO.mp h;refine⟨λp n=>?_,by simp,λh g=>(f h).mp g,q,λt b _ h=>?_,λt b _=>.inl ⟨[],by simp,by rw[nil t b],.inl (nil t b).symm⟩,λt b=>by lia,λh g o=>absurd ((f h).mpr g) o⟩
 ·rw[YW.mp n];trivial
 ·rw[nil t (by lia)]at h
  have:=((f _).mp h).2
  exact absurd this (by show ¬l<l;lia)
def Lev.found (L:Lev hs ws l k ps ls) {p i} (o:i<ps.length) (r:ps[i]=p) (G:(Ub l p,l)∈ws) (E:∀j h,j<i->(Ub l ps[j],l)∉ws):RF hs ws l (l::p):=by
 have B:p∈ps:=by rw[←r];exact WE o
 obtain⟨N,w⟩:=L.way p B;refine .inr ⟨p,rfl,⟨w,G⟩,λu f=>?_⟩;by_cases J:u.length<k
 ·exact absurd f (L.none u J)
 ·by_cases H:u.length=k
  ·rcases L.first u H f.1 with⟨q,hq,M,g⟩|⟨v,A,y,x⟩
   ·refine .inr ⟨by lia,?_⟩;obtain⟨j,h,s⟩:=Qn.mp hq;have n:(Ub l ps[j],l)∈ws:=by rw[s,M];exact f.2
    have C:=Nat.le_of_not_lt λz=>E j h z n
    have b:p=q\/sl p q:=by
     by_cases e:i=j
     ·grind
     ·have:=WJ.mp L.srt i j o h (by lia)
      rw[r,s]at this;exact .inr this
    rcases b with rfl|b
    ·exact g
    ·rcases g with rfl|g
     ·exact .inr b
     ·exact .inr (Su b g)
   ·exact absurd ⟨y,by rw[x];exact f.2⟩ (L.none v A)
  ·exact .inl (by lia)
def Lev.none_here (L:Lev hs ws l k ps ls) (h:∀p∈ps,(Ub l p,l)∉ws):∀t,t.length<k+1->¬Xa hs ws l t:=λt s b=>by
 by_cases o:t.length<k
 ·exact L.none t o b
 ·rcases L.first t (by lia) b.1 with⟨q,hq,r,u⟩|⟨v,n,g,f⟩
  ·exact h q hq (by rw[r];exact b.2)
  ·exact L.none v n ⟨g,by rw[f];exact b.2⟩
def Lev.over (L:Lev hs ws l k [] ls):RF hs ws l []:=by
 refine .inl ⟨rfl,?_⟩
 have early:∀n t,t.length=n->Path (Gr hs l) ws l t->∃u,u.length<k/\Path (Gr hs l) ws l u/\Ub l u=Ub l t:=by
  intro n
  induction n with
  |zero=>
   intro t b f;by_cases M:0<k
   ·exact⟨t,by lia,f,rfl⟩
   ·rcases L.first t (by lia) f with⟨q,hq,_⟩|⟨v,p,_⟩
    ·cases hq
    ·lia
  |succ n H=>
   intro t b f;have y:t≠[]:=λz=>by rw[z]at b;cases b
   have o:=(Q4 y).symm;generalize t.getLast y=x at o;generalize t.dropLast=s at o;subst o;obtain⟨G,p2⟩:=path_app.mp f;obtain⟨u,r,h,g⟩:=H s (by simpa using b) G;have w:=path_app.mpr ⟨h,by rw[g];exact p2⟩;have A:Ub l (u++[x])=Ub l (s++[x]):=by rw[Xc,Xc];rfl
   by_cases J:(u++[x]).length<k
   ·exact⟨_,J,w,A⟩
   ·rcases L.first (u++[x]) (by grind) w with⟨q,hq,_⟩|⟨v,p,E,C⟩
    ·cases hq
    ·exact⟨v,p,E,C.trans A⟩
 intro t B;obtain⟨u,r,h,g⟩:=early t.length t rfl B.1;exact L.none u r ⟨h,by rw[g];exact B.2⟩
structure LG (ws:ZW) (l:Int) (P:ZX->Int->Prop) (lg:List (ZX)):Prop where
 mem:∀q∈lg,∃p h,P p h/\q=p++[h]/\(Ub l p,h)∈ws
 srt:lg.Pairwise sl
 has:∀p h,P p h->(Ub l p,h)∈ws->∃p',p'++[h]∈lg/\(p'=p\/sl p' p)
def Lev.next (L:Lev hs ws l k ps ls) (hn:∀p∈ps,(Ub l p,l)∉ws) (G:LG ws l (λp h=>p∈ps/\h∈ls) E)
  (e:y=ls.filter λh=>decide (¬h∈E.map (Ub l))):Lev hs ws l (k+1) E y:=by
 have b:∀h,h∈y↔h∈ls/\¬h∈E.map (Ub l):=λh=>by rw[e,Qv,QT]
 have f:∀q∈E,q.length=k+1/\Path (Gr hs l) ws l q:=λq hq=>by
  obtain⟨p,h,⟨g,h2⟩,rfl,h3⟩:=G.mem q hq;obtain⟨w1,N⟩:=L.way p g;exact⟨by simp[w1],path_app.mpr ⟨N,L.lin h h2,h3,trivial⟩⟩
 have reach:∀s x,s.length=k->Path (Gr hs l) ws l s->Gr hs l x->(Ub l s,x)∈ws->x∈ls->∃p∈ps,Ub l p=Ub l s/\(p=s\/sl p s):=λs x g h2 h3 h4 h5=>by
  rcases L.first s g h2 with z|⟨v,v1,v2,v3⟩
  ·exact z
  ·have:=L.cover (v++[x]) (by simp;lia) (path_app.mpr ⟨v2,h3,by rw[v3];exact h4,trivial⟩)
   rw[Xc]at this;exact absurd h5 this
 refine⟨f,G.srt,λh hh=>L.lin h ((b h).mp hh).1,?_,λt A J hl=>?_,λt A J=>?_,L.none_here hn,λh hg hnl=>?_⟩
 ·rw[e];exact L.lsrt.filter _
 ·obtain⟨C,m2⟩:=(b _).mp hl;by_cases g:t.length<=k
  ·exact L.cover t g J C
  ·have w:t≠[]:=λz=>by rw[z]at g;simp at g
   have o:=(Q4 w).symm;generalize t.getLast w=x at o;generalize t.dropLast=s at o;subst o;obtain⟨U,p2,r,_⟩:=path_app.mp J;rw[Xc]at C m2;obtain⟨p,n,B,_⟩:=reach s x (by simp at A g;lia) U p2 r C;obtain⟨Y,k1,_⟩:=G.has p x ⟨n,C⟩ (by rw[B];exact r);exact m2 (W8.mpr ⟨_,k1,by rw[Xc];rfl⟩)
 ·have w:t≠[]:=λz=>by rw[z]at A;simp at A
  have o:=(Q4 w).symm;generalize t.getLast w=x at o;generalize t.dropLast=s at o;subst o;obtain⟨U,p2,r,_⟩:=path_app.mp J;have hs':s.length=k:=by simpa using A
  by_cases hx:x∈ls
  ·obtain⟨p,n,B,M⟩:=reach s x hs' U p2 r hx;obtain⟨Y,k1,H⟩:=G.has p x ⟨n,hx⟩ (by rw[B];exact r);refine .inl ⟨_,k1,by rw[Xc,Xc];rfl,?_⟩
   have:Y=s\/sl Y s:=by
    rcases H with rfl|H
    ·exact M
    ·rcases M with rfl|M
     ·exact .inr H
     ·exact .inr (Su H M)
   rcases this with rfl|h
   ·exact .inl rfl
   ·exact .inr (N4 x x h)
  ·obtain⟨u,u1,T,Q⟩:=L.comp x p2 hx;exact .inr ⟨u,by lia,T,by rw[Q,Xc];rfl⟩
 ·by_cases hx:h∈ls
  ·have:=W9 λz=>hnl ((b h).mpr ⟨hx,z⟩)
   obtain⟨q,hq,B⟩:=W8.mp this;obtain⟨w1,N⟩:=f q hq;exact⟨q,by lia,N,B⟩
  ·obtain⟨u,u1,T,Q⟩:=L.comp h hg hx;exact⟨u,by lia,T,Q⟩
end
def FR(b:ZX)(ws:ZW)(r:ZX):Prop:=
 (r=[]/\∀l∈b,∀t,¬Xa b ws l t)\/∃l t,r=l::t/\l∈b/\Xa b ws l t/\∀m∈b,∀u,Xa b ws m u->t.length<u.length\/(t.length=u.length/\(l<m\/(l=m/\(t=u\/sl t u))))
theorem DV:∀(r:ZX),r≠[]->∃i,∃h:i<r.length,∀x∈r,r[i]<=x
 |[],h=>absurd rfl h
 |[a],_=>⟨0,by simp,λx hx=>by rw[YW.mp hx];exact Int.le_refl _⟩
 |a::b::r,_=>by
  obtain⟨i,f,h⟩:=DV (b::r) (by simp);by_cases c:a<=(b::r)[i]
  ·refine⟨0,by simp,λx hx=>?_⟩;rcases Wk.mp hx with rfl|hx
   ·exact Int.le_refl _
   ·grind
  ·refine⟨i+1,by simpa using f,λx hx=>?_⟩;have e:(a::b::r)[i+1]'(by grind)=(b::r)[i]:=rfl;rcases Wk.mp hx with rfl|hx
   ·lia
   ·exact h x hx
def Cg(r:ZX){i j}(b:i<=r.length):(r.drop i++r.take i)[j]?=if i+j<r.length then r[i+j]? else if j<r.length then r[i+j-r.length]? else none:=by grind
def Gi(R:Ring u ws r):∃l∈u,∃t,Xa u ws l t/\t.length+1=r.length:=by
 have two:=R.two;obtain⟨i,p,n⟩:=DV r (λz=>by rw[z]at two;simp at two);have erot:r.drop i++r.take i=r[i]::(r.drop (i+1)++r.take i):=by rw[QC p];rfl
 have o:(r.drop (i+1)++r.take i).length+1=r.length:=by rw[Wv,List.length_drop,WS];lia
 have C:Nm ws (r[i]::(r.drop (i+1)++r.take i)):=by
  rw[←erot];intro j x y g b;rw[Cg r (by lia)]at g b;by_cases A:i+(j+1)<r.length
  ·rw[Wc A]at b;rw[Wc (by lia)]at g;exact R.chain (i+j) x y g b
  ·rw[YV A]at b;by_cases w:j+1<r.length
   ·rw[Wc w]at b;by_cases v:i+j<r.length
    ·rw[Wc v]at g;have f:i+j=r.length-1:=by lia
     have q:i+(j+1)-r.length=0:=by lia
     rw[f]at g;rw[q]at b;exact R.last y x b g
    ·rw[YV v,Wc (by lia)]at g;have e:i+(j+1)-r.length=(i+j-r.length)+1:=by lia
     rw[e]at b;exact R.chain _ x y g b
   ·rw[YV w]at b;cases b
 refine⟨r[i],R.sub _ (WE p),r.drop (i+1)++r.take i,⟨Do C λx hx=>?_,?_⟩,o⟩
 ·have h:=(Wu.mp hx).elim List.mem_of_mem_drop List.mem_of_mem_take;refine⟨R.sub x h,Int.lt_iff_le_and_ne.mpr ⟨n x h,λz=>?_⟩⟩
  have s:(r.drop i++r.take i).Nodup:=by
   have:(r.take i++r.drop i).Perm (r.drop i++r.take i):=List.perm_append_comm
   rw[←this.nodup_iff,List.take_append_drop];exact R.nodup
  rw[erot]at s;exact(WO.mp s).1 (by rw[z];exact hx)
 ·have f:=TM r[i] (r.drop (i+1)++r.take i);rw[←erot,Cg r (by lia)]at f;have q:(r.drop (i+1)++r.take i).length=r.length-1:=by lia
  rw[q]at f;by_cases c:i=0
  ·subst c;rw[Wc (by lia)]at f;exact R.last _ _ (Wa p) (by simpa using f)
  ·rw[YV (by lia),Wc (by lia)]at f;have B:i+(r.length-1)-r.length=i-1:=by lia
   rw[B]at f;exact R.chain (i-1) _ _ f (by rw[show i-1+1=i by lia];exact Wa p)
theorem Fb:∀{t:ZX},¬t.Nodup->∃a x b c,t=a++x::(b++x::c)
 |[],h=>absurd QL h
 |y::t,h=>by
  by_cases f:y∈t
  ·obtain⟨b,c,e⟩:=List.append_of_mem f;exact⟨[],y,b,c,by rw[e];rfl⟩
  ·obtain⟨a,x,b,c,e⟩:=Fb λz=>h (WO.mpr ⟨f,z⟩)
   grind
def IH{ws l t}(v:∀q∈ws,q.1≠q.2)(w:l∈h)(f:Xa h ws l t)(p:∀u,Xa h ws l u->t.length<=u.length):Ring h ws (l::t):=by
 have o:t≠[]:=λz=>by
  have g:=f.2;rw[z]at g;exact v _ g rfl
 have r:=Af f.1;refine⟨by have:=List.length_pos_iff.mpr o;simp;lia,WO.mpr ⟨λz=>absurd (r l z).2 (by lia),?_⟩,λx hx=>?_,Dd f.1,λx y n g=>?_⟩
 ·refine W9 λz=>?_;obtain⟨a,x,b,c,e⟩:=Fb z;have n:=f.1;rw[e]at n;obtain⟨s,p2⟩:=path_app.mp n
  have B:Xa h ws l (a++x::c):=by
   refine⟨path_app.mpr ⟨s,p2.1,p2.2.1,((path_app (a:=x::b)).mp p2).2.2.2⟩,?_⟩
   have A:Ub l (a++x::c)=Ub l t:=by
    rw[e,Xc,Xc];show Ub x c=Ub x (b++x::c);rw[Xc];rfl
   rw[A];exact f.2
  grind
 ·rcases Wk.mp hx with rfl|hx
  ·exact w
  ·exact(r x hx).1
 ·cases n
  simp only[Qp,Nat.add_sub_cancel]at g;rw[(TM l t)]at g;cases g
  exact f.2
def FR.none_iff {ws r} (n:∀q∈ws,q.1≠q.2) (F:FR o ws r):r=[]↔¬ ∃r,Ring o ws r:=by
 constructor
 ·rintro rfl ⟨r,R⟩;obtain⟨l,b,t,f,_⟩:=Gi R;rcases F with⟨_,F⟩|⟨_,_,e,_⟩
  ·grind
  ·grind
 ·intro h;rcases F with⟨e,_⟩|⟨l,t,rfl,b,f,p⟩
  ·exact e
  ·refine absurd ⟨_,IH n b f λu g=>?_⟩ h
   grind
end M
namespace Pu
open L2 Own
inductive D where
 |int (i:Int)|bl (b:Bool)|non|str (x:Str)|ty (n:String)|tup (ds:List D)|lst (ds:List D)|scr (ns:ZX)|dK (kvs:List (Key×V))|dT (kvs:List (List Key×V))|loc (a:Addr) (d:D)|err (C:Addr)|ref (a:Addr)|ins (C:Addr) (xs:Ye) (ds:List D)|dF (kvs:List (List Key×V))|erM (C:Addr) (r:ZX)|fL (ns:ZX)
mutual
inductive Rp (K:ZV) (H:Hp):D->V->Prop
 |int (i:Int):Rp K H (.int i) (.int i)
 |bl (b:Bool):Rp K H (.bl b) (.bl b)
 |non:Rp K H .non .non
 |str (x:Str):Rp K H (.str x) (.str x)
 |ty (n:String):Rp K H (.ty n) (.ty n)
 |tup {ds:List D} {vs:List V} {a:Addr}:H a=some (.tup vs)->Rps K H ds vs->Rp K H (.tup ds) (.ref a)
 |lst {ds:List D} {vs:List V} {a:Addr}:H a=some (.lst vs)->Rps K H ds vs->Rp K H (.lst ds) (.ref a)
 |scr {ns:ZX} {a:Addr}:SqL K H a (ns.map V.int)->Rp K H (.scr ns) (.ref a)
 |dK {kvs:List (Key×V)} {a:Addr}:H a=some (.dK kvs)->Rp K H (.dK kvs) (.ref a)
 |dT {kvs:List (List Key×V)} {a:Addr}:H a=some (.dT kvs)->Rp K H (.dT kvs) (.ref a)
 |dF {kvs:List (List Key×V)} {o:Obj} {a:Addr}:H a=some (.frz o<|.dT kvs)->Rp K H (.dF kvs) (.ref a)
 |loc {d:D} {a:Addr}:Rp K H d (.ref a)->Rp K H (.loc a d) (.ref a)
 |err {C a:Addr}:H a=some (ExcR.Cb a C)->Rp K H (.err C) (.ref a)
 |ref (a:Addr):Rp K H (.ref a) (.ref a)
 |erM {C a dx l:Addr} {o:Obj} {r:ZX}:H a=some (ExcR.Xf a C<|some dx)->H dx=some (.xd [("members",.ref l)])->H l=some (.frz o<|.lst<|r.map V.int)->Rp K H (.erM C r) (.ref a)
 |fL {a:Addr} {o:Obj} {ns:ZX}:H a=some (.frz o<|.lst<|ns.map V.int)->Rp K H (.fL ns) (.ref a)
 |ins {C a dx:Addr} {xs:Ye} {ds:List D} {vs:List V}:H a=some (.ins C dx<|xs.zip vs)->xs.length=vs.length->Rps K H ds vs->Rp K H (.ins C xs ds) (.ref a)
inductive Rps (K:ZV) (H:Hp):List D->List V->Prop
 |nil:Rps K H [] []
 |cons {d:D} {v:V} {ds:List D} {vs:List V}:Rp K H d v->Rps K H ds vs->Rps K H (d::ds) (v::vs)
end
section
variable {K:ZV}{H H':Hp}
def Rp.mono (S:Same H H') {d:D}{v:V}:Rp K H d v->Rp K H' d v:=
 Rp.rec (motive_1:=λd v _=>Rp K H' d v) (motive_2:=λg f _=>Rps K H' g f) .int .bl .non .str .ty (λh _ r=>.tup (S _ _ h) r) (λh _ r=>.lst (S _ _ h) r) (λh=>.scr (S.seq h)) (λh=>.dK (S _ _ h)) (λh=>.dT (S _ _ h)) (λh=>.dF (S _ _ h)) (λ_ h=>.loc h) (λh=>.err (S _ _ h)) .ref (λa b c=>.erM (S _ _ a) (S _ _ b) (S _ _ c)) (λh=>.fL (S _ _ h)) (λh e _ r=>.ins (S _ _ h) e r) .nil λ_ _=>.cons
def Rps.mono (S:Same H H') {ds:List D}:∀{vs:List V},Rps K H ds vs->Rps K H' ds vs:=by
 induction ds with
 |nil=>intro _ h;cases h;exact .nil
 |cons _ _ f=>intro _ h;cases h with|cons a b=>exact .cons (Rp.mono S a) (f b)
def Rps.len:∀{ds}{vs:List V},Rps K H ds vs->vs.length=ds.length:=by
 intro ds
 induction ds with
 |nil=>
  intro _ h;cases h
  rfl
 |cons _ _ b=>
  intro _ h;cases h with
  |cons h r=>
   exact W2 (· + 1) (b r)
def Rps.get:∀{ds vs}{i:Nat}{d:D},Rps K H ds vs->ds[i]?=some d->∃v,vs[i]?=some v/\Rp K H d v:=by
 intro ds
 induction ds with
 |nil=>
  intro _ i _ h e;simp at e
 |cons _ _ b=>
  intro _ i d h e;cases h with
  |cons h r=>
   cases i with
   |zero=>
    simp at e;subst e;exact⟨_,rfl,h⟩
   |succ i=>
    obtain⟨v,g,f⟩:=b r (by simpa using e);exact⟨v,by simpa using g,f⟩
def Rps.append:∀{ds es}{vs us:List V},Rps K H ds vs->Rps K H es us->Rps K H (ds++es) (vs++us):=by
 intro ds
 induction ds with
 |nil=>
  intro _ _ _ h s;cases h
  exact s
 |cons _ _ b=>
  intro _ _ _ h s;cases h with
  |cons h r=>
   exact .cons h (b r s)
theorem Rps.drop:∀{ds vs} n,Rps K H ds vs->Rps K H (ds.drop n) (vs.drop n)
 |_,_,0,r=>r
 |_,_,_+1,.nil=>.nil
 |_,_,n+1,.cons _ r=>Rps.drop n r
theorem Rps.take:∀{ds vs} n,Rps K H ds vs->Rps K H (ds.take n) (vs.take n)
 |_,_,0,_|_,_,_+1,.nil=>.nil
 |_,_,n+1,.cons h r=>.cons h (Rps.take n r)
end
mutual
noncomputable def imm:D->Bool
 | .tup b=>Xd b
 | .lst _=>false
 | .scr _=>false
 | .dK _=>false
 | .dT _=>false
 | .loc _ _=>false
 | .err _=>false
 | .erM _ _=>false
 | .ins _ _ _=>false
 |_=>true
noncomputable def Xd:List D->Bool
 |[]=>true
 |d::r=>imm d&&Xd r
end
open Classical in
noncomputable def off(Z:Addr->Prop)(H:Hp):Hp:=λb=>if Z b then none else H b
section
variable {K:ZV}{H H':Hp}{Z Z':Addr->Prop}
def Xp(h:off Z H b=some o):H b=some o/\¬Z b:=by
 unfold off at h;by_cases z:Z b
 ·grind
 ·grind
def U2(h:H b=some o)(z:¬Z b):off Z H b=some o:=by
 unfold off
 grind
def Ug(S:Same H H')(g:∀b o,H b=some o->¬Z b->¬Z' b):Same (off Z H) (off Z' H'):=λb o h=>by
 obtain⟨f,l⟩:=Xp h;exact U2 (S b o f) (g b o f l)
def off_sub:Same (off Z H) H:=λ_ _ h=>(Xp h).1
def Rp.off (q:∀b,Z b->Mut (H b)) {d:D}{v:V}:Rp K H d v->imm d=true->Rp K (off Z H) d v:=by
 have g:∀{a o},H a=some o->¬Mut (some o)->Pu.off Z H a=some o:=λh n=>U2 h λz=>n (h▸q _ z);have f:∀{d} {P:Prop},imm d=false->imm d=true->P:=λh e=>by rw[h]at e;cases e
 exact Rp.rec (motive_1:=λd v _=>imm d=true->Rp K (Pu.off Z H) d v) (motive_2:=λl p _=>Xd l=true->Rps K (Pu.off Z H) l p) (λi _=>.int i) (λb _=>.bl b) (λ_=>.non) (λx _=>.str x) (λn _=>.ty n) (λh _ r e=>.tup (g h id) (r<|by unfold imm at e;exact e)) (λ_ _ _=>f (by unfold imm;rfl)) (λ_=>f (by unfold imm;rfl)) (λ_=>f (by unfold imm;rfl)) (λ_=>f (by unfold imm;rfl)) (λh _=>.dF (g h id)) (λ_ _=>f (by unfold imm;rfl)) (λ_=>f (by unfold imm;rfl)) (λa _=>.ref a) (λ_ _ _=>f (by unfold imm;rfl)) (λh _=>.fL (g h id)) (λ_ _ _ _=>f (by unfold imm;rfl)) (λ_=>.nil) (λ_ _ a b e=>by
  unfold Xd at e;rw[W6]at e;exact .cons (a e.1) (b e.2))
def Rps.off (g:∀b,Z b->Mut (H b)) {ds:List D}:∀{vs:List V},Rps K H ds vs->Xd ds=true->Rps K (off Z H) ds vs:=by
 induction ds with
 |nil=>intro _ h _;cases h;exact .nil
 |cons _ _ f=>
  intro _ h e;unfold Xd at e;rw[W6]at e;cases h with|cons a b=>exact .cons (Rp.off g a e.1) (f b e.2)
end
inductive O where
 |lst (ds:List D)|dK (kvs:List (Key×V))|dT (kvs:List (List Key×V))|ins (a C:Addr) (xs:Ye) (cs:List (Addr×List D))|lsA (a:Addr) (ds:List D)|nst (cs:List (Addr×List D))|nsl (a:Addr) (cs:List (Addr×List D))|vls (a C:Addr) (xs:Ye) (vs:List (Addr×List (Addr×List D)))
instance:Coe (List D) O:=⟨O.lst⟩
noncomputable def O.d:O->D
 | .lst g=>.lst g | .dK b=>.dK b | .dT b=>.dT b | .ins _ C xs f=>.ins C xs (f.map λc=>.lst c.2) | .lsA _ g=>.lst g | .nst f=>.tup (f.map λc=>.lst c.2) | .nsl _ f=>.lst (f.map λc=>.lst c.2) | .vls _ C xs h=>.lst (h.map λv=>.ins C xs (v.2.map λc=>.lst c.2))
def O.adr (a:Addr):O->Addr->Prop
 | .lst _=>λb=>b=a
 | .dK _=>λb=>b=a
 | .dT _=>λb=>b=a
 | .ins x _ _ f=>λb=>b=x\/∃c∈f,b=c.1
 | .lsA x _=>λb=>b=x
 | .nst f=>λb=>∃c∈f,b=c.1
 | .nsl x f=>λb=>b=x\/∃c∈f,b=c.1
 | .vls x _ _ g=>λb=>b=x\/∃v∈g,b=v.1\/∃c∈v.2,b=c.1
def OR(K:ZV)(F H:Hp)(a:Addr):O->Prop
 | .lst p=>∃f,H a=some (.lst f)/\Rps K F p f
 | .dK h=>H a=some (.dK h)
 | .dT h=>H a=some (.dT h)
 | .lsA x p=>a=x/\∃f,H a=some (.lst f)/\Rps K F p f
 | .ins x C xs g=>a=x/\xs.length=g.length/\(∃o,H a=some (.ins C o<|xs.zip (g.map λc=>V.ref c.1)))/\(∀c∈g,∃f,H c.1=some (.lst f)/\Rps K F c.2 f)/\(g.map (·.1)).Nodup
 | .nsl x g=>a=x/\H a=some (.lst (g.map λc=>V.ref c.1))/\(∀c∈g,∃f,H c.1=some (.lst f)/\Rps K F c.2 f)/\(x::g.map (·.1)).Nodup
 | .vls x C xs l=>a=x/\H a=some (.lst (l.map λw=>V.ref w.1))/\(∀w∈l,xs.length=w.2.length/\(∃o,H w.1=some (.ins C o<|xs.zip (w.2.map λc=>V.ref c.1)))/\∀c∈w.2,∃f,H c.1=some (.lst f)/\Rps K F c.2 f)/\(∀w∈l,(w.2.map (·.1)).Nodup/\¬(x=w.1\/∃c∈w.2,x=c.1))/\∀(i j:Nat) (w n:Addr×List (Addr×List D)) (b:Addr),l[i]?=some w->l[j]?=some n->(b=w.1\/∃c∈w.2,b=c.1)->(b=n.1\/∃c∈n.2,b=c.1)->i=j
 | .nst g=>F a=some (.tup (g.map λc=>V.ref c.1))/\(∀c∈g,∃f,H c.1=some (.lst f)/\Rps K F c.2 f)/\(g.map (·.1)).Nodup
def OR.mono {K F A H H'}{a o} (v:Same F A) (q:∀b,o.adr a b->∀x,H b=some x->H' b=some x) (h:OR K F H a o):OR K A H' a o:=by
 cases o with
 |lst G=>obtain⟨f,p,n⟩:=h;exact⟨f,q _ rfl _ p,Rps.mono v n⟩
 |lsA x G=>obtain⟨rfl,f,p,n⟩:=h;exact⟨rfl,f,q _ rfl _ p,Rps.mono v n⟩
 |nsl x z=>
  obtain⟨e,p,n,u⟩:=h;exact⟨e,q _ (.inl e) _ p,λc g=>let ⟨f,s,r⟩:=n c g;⟨f,q _ (.inr ⟨c,g,rfl⟩) _ s,Rps.mono v r⟩,u⟩
 |vls x C xs J=>
  obtain⟨e,p,n,u⟩:=h;refine⟨e,q _ (.inl e) _ p,λw hw=>?_,u⟩;obtain⟨l,⟨y,E⟩,B⟩:=n w hw;exact⟨l,⟨y,q _ (.inr ⟨w,hw,.inl rfl⟩) _ E⟩,λc g=>let ⟨f,s,r⟩:=B c g;⟨f,q _ (.inr ⟨w,hw,.inr ⟨c,g,rfl⟩⟩) _ s,Rps.mono v r⟩⟩
 |nst z=>
  obtain⟨p,n,u⟩:=h;exact⟨v _ _ p,λc g=>let ⟨f,s,r⟩:=n c g;⟨f,q _ ⟨c,g,rfl⟩ _ s,Rps.mono v r⟩,u⟩
 |ins x C xs z=>
  obtain⟨e,l,⟨y,p⟩,n,u⟩:=h;exact⟨e,l,⟨y,q _ (.inl e) _ p⟩,λc g=>let ⟨f,s,r⟩:=n c g;⟨f,q _ (.inr ⟨c,g,rfl⟩) _ s,Rps.mono v r⟩,u⟩
 |_=>exact q _ rfl _ h
theorem XQ{K F}:∀{b:List (Addr×List D)},(∀c∈b,∃vs,F c.1=some (.lst vs)/\Rps K F c.2 vs)->Rps K F (b.map λc=>.lst c.2) (b.map λc=>V.ref c.1)
 |[],_=>.nil
 |c::b,h=>let ⟨_,g,f⟩:=h c W3;.cons (.lst g f) (XQ λn l=>h n (Wm _ l))
theorem T6{K:ZV}{F:Hp}{C:Addr}{xs:Ye}:∀{ws:List (Addr×List (Addr×List D))},(∀w∈ws,xs.length=w.2.length/\(∃n,F w.1=some (.ins C n<|xs.zip (w.2.map λc=>V.ref c.1)))/\∀c∈w.2,∃vs,F c.1=some (.lst vs)/\Rps K F c.2 vs)->Rps K F (ws.map λw=>.ins C xs (w.2.map λc=>.lst c.2)) (ws.map λw=>V.ref w.1)
 |[],_=>.nil
 |w::ws,h=>let ⟨l,⟨_,g⟩,f⟩:=h w W3;.cons (.ins g (by rw[YU];exact l)<|XQ f) (T6 λb hw=>h b (Wm _ hw))
def OR.rpIn {K F z H a o} (u:Same F z) (f:∀b,o.adr a b->∀x,H b=some x->z b=some x) (h:OR K F H a o):Rp K z o.d (.ref a):=by
 cases o with
 |lst J=>obtain⟨q,p,n⟩:=h;exact .lst (f _ rfl _ p) (Rps.mono u n)
 |dK v=>exact .dK (f _ rfl _ h)
 |dT v=>exact .dT (f _ rfl _ h)
 |lsA x J=>obtain⟨rfl,q,p,n⟩:=h;exact .lst (f _ rfl _ p) (Rps.mono u n)
 |nsl x B=>
  obtain⟨e,p,n,y⟩:=h;exact .lst (f _ (.inl e) _ p) (XQ λc g=>let ⟨q,s,r⟩:=n c g;⟨q,f _ (.inr ⟨c,g,rfl⟩) _ s,Rps.mono u r⟩)
 |vls x C xs L=>
  obtain⟨e,p,n,y⟩:=h;refine .lst (f _ (.inl e) _ p) (T6 λw hw=>?_);obtain⟨l,⟨A,G⟩,E⟩:=n w hw;exact⟨l,⟨A,f _ (.inr ⟨w,hw,.inl rfl⟩) _ G⟩,λc g=>let ⟨q,s,r⟩:=E c g;⟨q,f _ (.inr ⟨w,hw,.inr ⟨c,g,rfl⟩⟩) _ s,Rps.mono u r⟩⟩
 |nst B=>
  obtain⟨p,n,y⟩:=h;exact .tup (u _ _ p) (XQ λc g=>let ⟨q,s,r⟩:=n c g;⟨q,f _ ⟨c,g,rfl⟩ _ s,Rps.mono u r⟩)
 |ins x C xs B=>
  obtain⟨e,l,⟨A,p⟩,n,y⟩:=h;exact .ins (f _ (.inl e) _ p) (by grind) (XQ λc g=>let ⟨q,s,r⟩:=n c g;⟨q,f _ (.inr ⟨c,g,rfl⟩) _ s,Rps.mono u r⟩)
def OR.rp {K F H a o} (b:Same F H) (h:OR K F H a o):Rp K H o.d (.ref a):=h.rpIn b λ_ _ _ e=>e
def OR.mut {K F H a o} (h:OR K F H a o):∀b,o.adr a b->Mut (H b):=by
 cases o with
 |lst B=>obtain⟨s,n,g⟩:=h;intro b e;rw[show b=a from e,n];trivial
 |dK q=>intro b e;rw[show b=a from e,show H a=some (.dK q)from h];trivial
 |dT q=>intro b e;rw[show b=a from e,show H a=some (.dT q)from h];trivial
 |lsA x B=>obtain⟨rfl,s,n,g⟩:=h;intro b e;rw[show b=a from e,n];trivial
 |nsl x v=>
  obtain⟨e,n,g,u⟩:=h;intro b f;rcases f with f|⟨c,r,f⟩
  ·rw[show b=a from f.trans e.symm,n];trivial
  ·obtain⟨s,p,_⟩:=g c r;rw[f,p];trivial
 |vls x C xs E=>
  obtain⟨e,n,g,u⟩:=h;intro b f;rcases f with f|⟨w,hw,f|⟨c,r,f⟩⟩
  ·rw[show b=a from f.trans e.symm,n];trivial
  ·obtain⟨_,⟨A,z⟩,_⟩:=g w hw;rw[f,z];trivial
  ·obtain⟨_,_,y⟩:=g w hw;obtain⟨s,p,_⟩:=y c r;rw[f,p];trivial
 |nst v=>
  obtain⟨n,g,u⟩:=h;rintro b ⟨c,r,f⟩;obtain⟨s,p,_⟩:=g c r;rw[f,p];trivial
 |ins x C xs v=>
  obtain⟨e,l,⟨A,n⟩,g,u⟩:=h;intro b f;rcases f with f|⟨c,r,f⟩
  ·rw[show b=a from f.trans e.symm,n];trivial
  ·obtain⟨s,p,_⟩:=g c r;rw[f,p];trivial
inductive S where
 |bor (d:D)|sh (d:D)|own (o:O)|view (o:O)|tmp (d:D)
abbrev Γ:=List (Option S)
noncomputable def D.strip:D->D
 | .loc _ d=>d|d=>d
def Rp.strip {K H d v} (h:Rp K H d v):Rp K H d.strip v:=by
 cases h with
 |loc h=>exact h
 |int i=>exact .int i
 |bl b=>exact .bl b
 |non=>exact .non
 |str x=>exact .str x
 |ty n=>exact .ty n
 |tup h r=>exact .tup h r
 |lst h r=>exact .lst h r
 |scr h=>exact .scr h
 |dK h=>exact .dK h
 |dT h=>exact .dT h
 |dF h=>exact .dF h
 |err h=>exact .err h
 |ref a=>exact .ref a
 |erM l g f=>exact .erM l g f
 |fL h=>exact .fL h
 |ins h e r=>exact .ins h e r
noncomputable def S.d:S->D
 | .bor d=>d.strip | .sh d=>d | .own o=>o.d | .view o=>o.d | .tmp d=>d
noncomputable def arg(d:D):S:=match imm d with|true=>.sh d|false=>.bor d
noncomputable def UU(d:D):S:=match imm d with|true=>.sh d|false=>.tmp d
noncomputable def S.sub:S->D->S
 | .bor _,e=>arg e | .tmp _,e=>UU e | .own (.nst _),e=>UU e | .view (.nst _),e=>UU e | .own (.nsl _ _),e=>UU e | .view (.nsl _ _),e=>UU e | .own (.vls _ _ _ _),e=>UU e | .view (.vls _ _ _ _),e=>UU e|_,e=>.sh e
noncomputable def S.shd:S->Option D
 | .sh d=>some d | .own o=>some o.d
 | .bor d=>match imm d with|true=>some d|false=>none
 | .tmp d=>match imm d with|true=>some d|false=>none
 | .view _=>none
noncomputable def S.slot:S->Option S
 | .view _=>none | .bor d=>some (.bor d) | .sh d=>some (.sh d) | .own b=>some (.own b)
 | .tmp d=>match imm d with|true=>some (.sh d)|false=>none
def GA(h:Γ)(g:L2.St)(b:Addr):Prop:=∃(i:Nat) (f:O) (a:Addr),h[i]?=some (some<|.own f)/\g[i]?=some (some<|.ref a)/\f.adr a b
def zof(B:Addr->Prop)(g:Γ)(f:L2.St):Addr->Prop:=λb=>B b\/GA g f b
def SV(K:ZV)(Z:Addr->Prop)(f H:Hp):S->V->Prop
 | .bor d,v=>Rp K f d v
 | .sh d,v=>Rp K (off Z H) d v
 | .own o,v=>∃a,v=.ref a/\(∀b,o.adr a b->f b=none)/\OR K (off Z H) H a o
 |_,_=>False
def TV(K:ZV)(Z:Addr->Prop)(f H H':Hp):S->V->Prop
 | .bor d,v=>Rp K f d v
 | .sh d,v=>Rp K (off Z H') d v
 | .own o,v=>∃a,v=.ref a/\(∀b,o.adr a b->H b=none)/\OR K (off (λb=>Z b\/o.adr a b) H') H' a o
 | .view o,v=>∃a,v=.ref a/\OR K (off Z H') H' a o
 | .tmp d,v=>Rp K H' d v
structure JW (K:ZV) (H0:Hp) (B:Addr->Prop) (H:Hp) (σ:L2.St) (γ:Γ):Prop where
 same:Same H0 H
 len:σ.length=γ.length
 bm:∀b,B b->Mut (H b)
 own:∀(i j:Nat) (a a':Addr) (ds es:O) (b:Addr),γ[i]?=some (some<|.own ds)->γ[j]?=some (some<|.own es)->σ[i]?=some (some<|.ref a)->σ[j]?=some (some<|.ref a')->ds.adr a b->es.adr a' b->i=j
 slot:∀(i:Nat) (s:S),γ[i]?=some (some s)->∃v,σ[i]?=some (some v)/\SV K (zof B γ σ) H0 H s v
section
variable {K:ZV}{H0 H H1 H':Hp}{B Z Z':Addr->Prop}{σ:L2.St}{γ:Γ}
def XG(S:Same H H'){b}(h:Mut (H b)):Mut (H' b):=by
 cases e:H b with
 |none=>rw[e]at h;exact h.elim
 |some o=>rw[S b o e,←e];exact h
def XB(h:Mut (H b)):∃o,H b=some o:=by
 cases e:H b with
 |none=>rw[e]at h;exact h.elim
 |some o=>grind
def JW.grow (E:JW K H0 B H σ γ) (S:Same H H'):JW K H0 B H' σ γ where
 same:=E.same.trans S
 len:=E.len
 bm b h:=XG S (E.bm b h)
 own:=E.own
 slot i s h:=by
  obtain⟨v,h1,h2⟩:=E.slot i s h;refine⟨v,h1,?_⟩;cases s with
  |bor d=>trivial
  |sh d=>exact Rp.mono (Ug S λ_ _ _ z=>z) h2
  |own ds=>
   obtain⟨a,e1,e3,e4⟩:=h2;exact⟨a,e1,e3,e4.mono (Ug S λ_ _ _ z=>z) λb _ x=>S b x⟩
  |_=>exact h2
def JW.zm (E:JW K H0 B H σ γ):∀b,zof B γ σ b->Mut (H b):=λb h=>by
 rcases h with h|⟨i,r,x,n,l,g⟩
 ·exact E.bm b h
 ·obtain⟨v,f,a,p,q,o⟩:=E.slot i _ n;rw[l]at f;cases f
  cases p
  exact o.mut b g
def TV.rp (b:Same H0 H') (h:TV K Z H0 H H' s v):Rp K H' s.d v:=by
 cases s with
 |bor d=>exact(Rp.mono b h).strip
 |sh d=>exact Rp.mono off_sub h
 |own f=>
  obtain⟨a,rfl,_,r⟩:=h;exact r.rp off_sub
 |view f=>
  obtain⟨a,rfl,r⟩:=h;exact r.rp off_sub
 |tmp d=>exact h
def TV.grow (f:Same H' H1) (h:TV K Z H0 H H' s v):TV K Z H0 H H1 s v:=by
 cases s with
 |bor d=>exact h
 |sh d=>exact Rp.mono (Ug f λ_ _ _ z=>z) h
 |own l=>
  obtain⟨a,rfl,g,r⟩:=h;exact⟨a,rfl,g,r.mono (Ug f λ_ _ _ z=>z) λb _ x=>f b x⟩
 |view l=>
  obtain⟨a,rfl,r⟩:=h;exact⟨a,rfl,r.mono (Ug f λ_ _ _ z=>z) λb _ x=>f b x⟩
 |tmp d=>exact Rp.mono f h
def TV.weak (o:Same H H1) (f:∀b,Z b->Z' b) (h:TV K Z' H0 H1 H' s v):TV K Z H0 H H' s v:=by
 cases s with
 |sh d=>exact Rp.mono (Ug (Same.refl _) λb _ _ z y=>z (f b y)) h
 |own n=>
  obtain⟨a,rfl,l,r⟩:=h;exact⟨a,rfl,λb g=>o.free (l b g),r.mono (Ug (Same.refl _) λb _ _ z y=>z (y.imp (f b) id)) λ_ _ _ q=>q⟩
 |view n=>
  obtain⟨a,rfl,r⟩:=h;exact⟨a,rfl,r.mono (Ug (Same.refl _) λb _ _ z y=>z (f b y)) λ_ _ _ q=>q⟩
 |_=>exact h
def TV.shd (o:Same H0 H') (l:∀b,Z b->Mut (H b)) (w:Same H H') (h:TV K Z H0 H H' s v) (e:s.shd=some d):Rp K (off Z H') d v:=by
 have f:=λb z=>XG w (l b z);cases s with
 |bor g=>
  unfold S.shd at e;cases q:imm g with
  |false=>simp_all
  |true=>
   simp[q]at e;subst e;exact Rp.off f (Rp.mono o h) q
 |sh g=>cases e;exact h
 |own u=>
  cases e
  obtain⟨a,rfl,p,r⟩:=h;exact r.rpIn (Ug (Same.refl _) λb _ _ z y=>z (.inl y)) λb n x e=>U2 e λz=>by have:=l _ z;rw[p b n]at this;exact this
 |view u=>cases e
 |tmp g=>
  unfold S.shd at e;cases q:imm g with
  |false=>simp[q]at e
  |true=>
   simp[q]at e;subst e;exact Rp.off f h q
def KM(f:∀b,Z b->Mut (H' b))(g:Same H0 H')(h:Rp K H0 d v):TV K Z H0 H H' (arg d) v:=by
 unfold arg;cases q:imm d with
 |true=>exact Rp.off f (Rp.mono g h) q
 |false=>exact h
def Xx(f:∀b,Z b->Mut (H' b))(h:Rp K H' d v):TV K Z H0 H H' (UU d) v:=by
 unfold UU;cases q:imm d with
 |true=>exact Rp.off f h q
 |false=>exact h
def Rp.lst_inv (h:Rp K H (.lst ds) v):∃a vs,v=.ref a/\H a=some (.lst vs)/\Rps K H ds vs:=by
 cases h with
 |lst h r=>grind
def Rp.tup_inv (h:Rp K H (.tup ds) v):∃a vs,v=.ref a/\H a=some (.tup vs)/\Rps K H ds vs:=by
 cases h with
 |tup h r=>grind
def TV.part (M:Same H0 H') (hm:∀b,Z b->Mut (H b)) (S1:Same H H') (h:TV K Z H0 H H' s v) :
  (∀ds,s.d=.lst ds->∃a vs,v=.ref a/\H' a=some (.lst vs)/\vs.length=ds.length/\∀(i:Nat) d,ds[i]?=some d->∃u,vs[i]?=some u/\TV K Z H0 H H' (s.sub d) u)/\
  (∀ds,s.d=.tup ds->∃a vs,v=.ref a/\H' a=some (.tup vs)/\vs.length=ds.length/\∀(i:Nat) d,ds[i]?=some d->∃u,vs[i]?=some u/\TV K Z H0 H H' (s.sub d) u):=by
 have n:=λb z=>XG S1 (hm b z);cases s with
 |bor d=>
  have h:=Rp.strip h;refine⟨λds e=>?_,λds e=>?_⟩<;>rw[show d.strip=_ from e]at h
  ·obtain⟨a,vs,rfl,h,r⟩:=Rp.lst_inv h;exact⟨_,_,rfl,M _ _ h,r.len,λi d e=>let ⟨u,g,f⟩:=r.get e;⟨u,g,KM n M f⟩⟩
  ·obtain⟨a,vs,rfl,h,r⟩:=Rp.tup_inv h;exact⟨_,_,rfl,M _ _ h,r.len,λi d e=>let ⟨u,g,f⟩:=r.get e;⟨u,g,KM n M f⟩⟩
 |sh d=>
  refine⟨λds e=>?_,λds e=>?_⟩<;>(have U:=e;subst U)
  ·obtain⟨a,vs,rfl,h,r⟩:=Rp.lst_inv h;exact⟨_,_,rfl,off_sub _ _ h,r.len,λi d e=>r.get e⟩
  ·obtain⟨a,vs,rfl,h,r⟩:=Rp.tup_inv h;exact⟨_,_,rfl,off_sub _ _ h,r.len,λi d e=>r.get e⟩
 |own G=>
  cases G with
  |lst G=>
   refine⟨λds e=>?_,λds e=>by cases e⟩;cases e
   obtain⟨a,rfl,N,vs,e,r⟩:=h;exact⟨a,vs,rfl,e,r.len,λi d e=>let ⟨u,g,f⟩:=r.get e;⟨u,g,Rp.mono (Ug (Same.refl _) λb _ _ z y=>z (.inl y)) f⟩⟩
  |lsA x G=>
   refine⟨λds e=>?_,λds e=>by cases e⟩;cases e
   obtain⟨a,rfl,N,_,vs,e,r⟩:=h;exact⟨a,vs,rfl,e,r.len,λi d e=>let ⟨u,g,f⟩:=r.get e;⟨u,g,Rp.mono (Ug (Same.refl _) λb _ _ z y=>z (.inl y)) f⟩⟩
  |nsl x Y=>
   refine⟨λds e=>?_,λds e=>by cases e⟩;cases e
   obtain⟨a,rfl,N,_,E,A,L⟩:=h;have r:=XQ λc q=>let ⟨vs,p,o⟩:=A c q;⟨vs,p,Rps.mono off_sub o⟩;exact⟨a,_,rfl,E,r.len,λi d e=>let ⟨u,g,f⟩:=r.get e;⟨u,g,Xx n f⟩⟩
  |vls x C xs J=>
   refine⟨λds e=>?_,λds e=>by cases e⟩;cases e
   obtain⟨a,rfl,N,_,E,A,L⟩:=h;have r:Rps K H' (J.map λw=>D.ins C xs (w.2.map λc=>D.lst c.2)) (J.map λw=>V.ref w.1):=T6 λw hw=>let ⟨l,T,Q⟩:=A w hw;⟨l,T,λc q=>let ⟨vs,p,o⟩:=Q c q;⟨vs,p,Rps.mono off_sub o⟩⟩;exact⟨a,_,rfl,E,r.len,λi d e=>let ⟨u,g,f⟩:=r.get e;⟨u,g,Xx n f⟩⟩
  |nst Y=>
   refine⟨(λds e=>by cases e),λds e=>?_⟩;cases e
   obtain⟨a,rfl,N,E,A,L⟩:=h;have r:=XQ λc q=>let ⟨vs,p,o⟩:=A c q;⟨vs,p,Rps.mono off_sub o⟩;exact⟨a,_,rfl,off_sub _ _ E,r.len,λi d e=>let ⟨u,g,f⟩:=r.get e;⟨u,g,Xx n f⟩⟩
  |_=>exact⟨(λds e=>by cases e),(λds e=>by cases e)⟩
 |view G=>
  cases G with
  |lst G=>
   refine⟨λds e=>?_,λds e=>by cases e⟩;cases e
   obtain⟨a,rfl,vs,e,r⟩:=h;exact⟨a,vs,rfl,e,r.len,λi d e=>r.get e⟩
  |lsA x G=>
   refine⟨λds e=>?_,λds e=>by cases e⟩;cases e
   obtain⟨a,rfl,_,vs,e,r⟩:=h;exact⟨a,vs,rfl,e,r.len,λi d e=>r.get e⟩
  |nsl x Y=>
   refine⟨λds e=>?_,λds e=>by cases e⟩;cases e
   obtain⟨a,rfl,_,E,A,L⟩:=h;have r:=XQ λc q=>let ⟨vs,p,o⟩:=A c q;⟨vs,p,Rps.mono off_sub o⟩;exact⟨a,_,rfl,E,r.len,λi d e=>let ⟨u,g,f⟩:=r.get e;⟨u,g,Xx n f⟩⟩
  |vls x C xs J=>
   refine⟨λds e=>?_,λds e=>by cases e⟩;cases e
   obtain⟨a,rfl,_,E,A,L⟩:=h;have r:Rps K H' (J.map λw=>D.ins C xs (w.2.map λc=>D.lst c.2)) (J.map λw=>V.ref w.1):=T6 λw hw=>let ⟨l,T,Q⟩:=A w hw;⟨l,T,λc q=>let ⟨vs,p,o⟩:=Q c q;⟨vs,p,Rps.mono off_sub o⟩⟩;exact⟨a,_,rfl,E,r.len,λi d e=>let ⟨u,g,f⟩:=r.get e;⟨u,g,Xx n f⟩⟩
  |nst Y=>
   refine⟨(λds e=>by cases e),λds e=>?_⟩;cases e
   obtain⟨a,rfl,E,A,L⟩:=h;have r:=XQ λc q=>let ⟨vs,p,o⟩:=A c q;⟨vs,p,Rps.mono off_sub o⟩;exact⟨a,_,rfl,off_sub _ _ E,r.len,λi d e=>let ⟨u,g,f⟩:=r.get e;⟨u,g,Xx n f⟩⟩
  |_=>exact⟨(λds e=>by cases e),(λds e=>by cases e)⟩
 |tmp d=>
  refine⟨λds e=>?_,λds e=>?_⟩<;>(have U:=e;subst U)
  ·obtain⟨a,vs,rfl,h,r⟩:=Rp.lst_inv h;exact⟨_,_,rfl,h,r.len,λi d e=>let ⟨u,g,f⟩:=r.get e;⟨u,g,Xx n f⟩⟩
  ·obtain⟨a,vs,rfl,h,r⟩:=Rp.tup_inv h;exact⟨_,_,rfl,h,r.len,λi d e=>let ⟨u,g,f⟩:=r.get e;⟨u,g,Xx n f⟩⟩
def Fr(B:Addr->Prop)(H:Hp)(σ:L2.St)(γ:Γ)(H':Hp)(f:L2.St)(g:Γ):Prop:=∀b o,H b=some o->¬zof B γ σ b->H' b=some o/\¬zof B g f b
def Fr.refl:Fr B H σ γ H σ γ:=λ_ _ h z=>⟨h,z⟩
def Fr.trans {H1 p g f n l} (a:Fr B H σ γ H1 g n) (b:Fr B H1 g n p f l):Fr B H σ γ p f l:=λx o h z=>let ⟨r,q⟩:=a x o h z;b x o r q
def Fr.grow (b:Same H H'):Fr B H σ γ H' σ γ:=λ_ _ h z=>⟨b _ _ h,z⟩
def Fr.off {H'}{σ'}{γ'} (f:Fr B H σ γ H' σ' γ'):Same (off (zof B γ σ) H) (Pu.off (zof B γ' σ') H'):=λb o h=>by
 obtain⟨p,n⟩:=Xp h;obtain⟨l,g⟩:=f b o p n;exact U2 l g
def Ux{b:Type}{l:List b}{i j}{x y}(h:(l.set i x)[j]?=some y):(j=i/\x=y/\i<l.length)\/(j≠i/\l[j]?=some y):=by grind
def Np{b:Type}{l:List b}{i}{x}(h:i<l.length):(l.set i x)[i]?=some x:=by grind
def X3{b:Type}{l:List b}{i j}{x}(h:j≠i):(l.set i x)[j]?=l[j]?:=by grind
def JW.drop (E:JW K H0 B H σ γ) (i:Nat):JW K H0 B H σ (γ.set i none)/\Fr B H σ γ H σ (γ.set i none):=by
 have p:∀b,zof B (γ.set i none) σ b->zof B γ σ b:=λb z=>z.imp id λ⟨j,l,a,g,f,u⟩=>by
  rcases Ux g with⟨_,e,_⟩|⟨_,e⟩
  ·grind
  ·exact⟨j,l,a,e,f,u⟩
 refine⟨⟨E.same,by rw[WY];exact E.len,E.bm,λk j a G l w b g f=>?_,λk s h=>?_⟩,λb o h z=>⟨h,λy=>z (p b y)⟩⟩
 ·rcases Ux g with⟨_,e,_⟩|⟨_,n⟩
  ·cases e
  ·rcases Ux f with⟨_,e,_⟩|⟨_,C⟩
   ·cases e
   ·exact E.own k j a G l w b n C
 ·rcases Ux h with⟨_,e,_⟩|⟨_,e⟩
  ·cases e
  ·obtain⟨v,g,f⟩:=E.slot k s e;refine⟨v,g,?_⟩;have r:Same (Pu.off (zof B γ σ) H) (Pu.off (zof B (γ.set i none) σ) H):=Ug (Same.refl _) λb _ _ z y=>z (p b y);cases s with
   |sh d=>exact Rp.mono r f
   |own l=>
    obtain⟨a,n,A,x⟩:=f;exact⟨a,n,A,x.mono r λ_ _ _ q=>q⟩
   |_=>exact f
def JW.put {s L}{v} (E:JW K H0 B H σ γ) (S1:Same H H') (h:TV K (zof B γ σ) H0 H H' s v) (e:s.slot=some L) (hi:i<γ.length) :
  JW K H0 B H' (σ.set i<|some v) (γ.set i<|some L)/\Fr B H σ γ H' (σ.set i<|some v) (γ.set i<|some L):=by
 have n:i<σ.length:=by rw[E.len];exact hi
 have E':=E.grow S1
 have isown:∀f,L=.own f->s=.own f:=λf q=>by
  subst q;cases s with
  |own J=>cases e;rfl
  |tmp d=>unfold S.slot at e;cases q:imm d<;>simp[q]at e
  |_=>cases e
 have l:∀b,zof B (γ.set i<|some L) (σ.set i<|some v) b->zof B γ σ b\/∃f a,s=.own f/\v=.ref a/\f.adr a b:=λb z=>by
  rcases z with z|⟨j,f,a,h1,G,A⟩
  ·exact .inl (.inl z)
  ·rcases Ux h1 with⟨Y,g,_⟩|⟨T,g⟩
   ·subst Y;rw[Np n]at G
    have:=Wg g
    exact .inr ⟨f,a,isown f this,Wg (Wg G),A⟩
   ·rw[X3 T]at G;exact .inl (.inr ⟨j,f,a,g,G,A⟩)
 have fresh:∀f a b,s=.own f->v=.ref a->f.adr a b->H b=none:=λf a b J ev p=>by
  subst J;obtain⟨a',g,e0,_⟩:=h;rw[ev]at g;cases g
  exact e0 b p
 have hz:∀b o,H b=some o->¬zof B γ σ b->¬zof B (γ.set i<|some L) (σ.set i<|some v) b:=λb o p z y=>by
  rcases l b y with y|⟨f,a,y1,y2,y3⟩
  ·exact z y
  ·rw[fresh f a b y1 y2 y3]at p;cases p
 have So:=Ug S1 hz;refine⟨⟨E'.same,by rw[WY,WY];exact E.len,E'.bm,λk j a a' f J b h1 G A M h5 h6=>?_,λk u hk=>?_⟩,λb o p z=>⟨S1 b o p,hz b o p z⟩⟩
 ·have Q:∀(k:Nat) f a b,γ[k]?=some (some<|.own f)->σ[k]?=some (some<|.ref a)->f.adr a b->∃o,H b=some o:=λk f a b g C e3=>by
   obtain⟨u,q1,a',N,_,q3⟩:=E.slot k _ g;rw[C]at q1;cases q1
   cases N
   exact XB (q3.mut b e3)
  rcases Ux h1 with⟨ek,g,_⟩|⟨nk,g⟩
  ·rcases Ux G with⟨Y,C,_⟩|⟨T,C⟩
   ·rw[ek,Y]
   ·subst ek;rw[Np n]at A;rw[X3 T]at M;obtain⟨o,U⟩:=Q j J a' b C M h6;rw[fresh f a b (isown f<|Wg g) (Wg<|Wg A) h5]at U;cases U
  ·rcases Ux G with⟨Y,C,_⟩|⟨T,C⟩
   ·subst Y;rw[Np n]at M;rw[X3 nk]at A;obtain⟨o,U⟩:=Q k f a b g A h5;rw[fresh J a' b (isown J<|Wg C) (Wg<|Wg M) h6]at U;cases U
   ·rw[X3 nk]at A;rw[X3 T]at M;exact E.own k j a a' f J b g C A M h5 h6
 ·rcases Ux hk with⟨ek,g,_⟩|⟨nk,g⟩
  ·subst ek
   have:=(Wg g).symm
   subst this;refine⟨v,Np n,?_⟩;cases s with
   |own f=>
    cases e
    obtain⟨a,rfl,e0,r⟩:=h;refine⟨a,rfl,λb p=>E.same.free (e0 b p),r.mono (Ug (Same.refl _) λb o _ z y=>?_) λ_ _ _ q=>q⟩;rcases l b y with y|⟨_,_,y1,y,y2⟩
    ·exact z (.inl y)
    ·cases y;cases y1;exact z (.inr y2)
   |sh d=>
    cases e
    refine Rp.mono (Ug (Same.refl _) λb o _ z y=>?_) h;rcases l b y with y|⟨_,_,y,_⟩
    ·exact z y
    ·cases y
   |bor d=>cases e;exact h
   |view d=>cases e
   |tmp d=>
    unfold S.slot at e;cases q:imm d with
    |false=>simp[q]at e
    |true=>
     simp[q]at e;subst e;refine Rp.off (λb y=>?_) h q;rcases l b y with y|⟨_,_,y,_⟩
     ·exact XG S1 (E.zm b y)
     ·cases y
  ·obtain⟨w,q1,N⟩:=E.slot k u g;refine⟨w,by rw[X3 nk];exact q1,?_⟩;cases u with
   |sh d=>exact Rp.mono So N
   |own f=>
    obtain⟨a,g,e3,e4⟩:=N;exact⟨a,g,e3,e4.mono So λb _ x=>S1 b x⟩
   |_=>exact N
noncomputable def frz(i:Nat)(γ:Γ):Γ:=match γ[i]? with
 |some (some<|.own o)=>γ.set i (some<|.sh o.d)
 |_=>γ
def JW.frz (E:JW K H0 B H σ γ) (hB:∀b,B b->∃o,H0 b=some o) (i:Nat):JW K H0 B H σ (frz i γ)/\Fr B H σ γ H σ (Pu.frz i γ):=by
 unfold Pu.frz;split
 ·rename_i p J
  have G:∀b,zof B (γ.set i<|some<|.sh p.d) σ b->zof B γ σ b:=λb z=>z.imp id λ⟨j,l,a,g,f,L⟩=>by
   rcases Ux g with⟨_,e,_⟩|⟨_,e⟩
   ·cases e
   ·exact⟨j,l,a,e,f,L⟩
  have C:Same (Pu.off (zof B γ σ) H) (Pu.off (zof B (γ.set i<|some<|.sh p.d) σ) H):=Ug (Same.refl _) λb _ _ z y=>z (G b y);refine⟨⟨E.same,by rw[WY];exact E.len,E.bm,λk j a A l r b g f=>?_,λk s h=>?_⟩,λb o h z=>⟨h,λy=>z (G b y)⟩⟩
  ·rcases Ux g with⟨_,e,_⟩|⟨_,n⟩
   ·cases e
   ·rcases Ux f with⟨_,e,_⟩|⟨_,w⟩
    ·cases e
    ·exact E.own k j a A l r b n w
  ·rcases Ux h with⟨T,e,_⟩|⟨Y,e⟩
   ·subst T
    have:=Wg e
    subst this;obtain⟨v,g,a,rfl,L,Q⟩:=E.slot k _ J;refine⟨_,g,Q.rpIn C λb N x f=>U2 f λz=>?_⟩;rcases z with z|⟨j,l,A,n,w,u⟩
    ·grind
    ·rcases Ux n with⟨_,q,_⟩|⟨M,q⟩
     ·cases q
     ·exact M (E.own j k A a l p b q J w g u N)
   ·obtain⟨v,g,f⟩:=E.slot k s e;refine⟨v,g,?_⟩;cases s with
    |sh d=>exact Rp.mono C f
    |own p=>
     obtain⟨a,n,u,U⟩:=f;exact⟨a,n,u,U.mono C λ_ _ _ q=>q⟩
    |_=>exact f
 ·exact⟨E,Fr.refl⟩
def JW.change {o o'} (E:JW K H0 B H σ γ) (M:γ[i]?=some (some<|.own o)) (A:σ[i]?=some (some<|.ref a))
  (N:∀b x,H b=some x->¬o.adr a b->H' b=some x) (hm:∀b,o.adr a b->Mut (H' b)) (l:∀b,o'.adr a b->o.adr a b\/H b=none) (r:OR K (Pu.off (zof B (γ.set i<|some<|.own o') σ) H') H' a o') :
  JW K H0 B H' σ (γ.set i<|some<|.own o')/\Fr B H σ γ H' σ (γ.set i<|some<|.own o'):=by
 obtain⟨v,h1,a',rfl,h3,h4⟩:=E.slot i _ M;rw[A]at h1;cases h1
 have za:∀b,o.adr a b->zof B γ σ b:=λb C=>.inr ⟨i,o,a,M,A,C⟩
 have hz:∀b x,H b=some x->zof B (γ.set i<|some<|.own o') σ b->zof B γ σ b:=λb x hx z=>by
  rcases z with z|⟨j,fs,a',U,p,n⟩
  ·exact .inl z
  ·rcases Ux U with⟨T,q,_⟩|⟨_,e⟩
   ·subst T;cases q
    rw[A]at p;cases p
    rcases l b n with k|k
    ·exact za b k
    ·rw[k]at hx;cases hx
   ·exact .inr ⟨j,fs,a',e,p,n⟩
 have S1:=λb x h=>by
  obtain⟨g,f⟩:=Xp h;exact U2 (N b x g λk=>f (za b k)) λz=>f (hz b x g z)
 have J:∀(k:Nat) ds a b,γ[k]?=some (some<|.own ds)->σ[k]?=some (some<|.ref a)->ds.adr a b->∃o,H b=some o:=λk ds a b U p n=>by
  obtain⟨u,g,a',f,_,q3⟩:=E.slot k _ U;rw[p]at g;cases g
  cases f
  exact XB (q3.mut b n)
 refine⟨⟨λb x h=>?_,by rw[WY];exact E.len,λb C=>?_,λk j x x' fs Q b U p n G e5 e6=>?_,λk s h=>?_⟩,λb x h z=>⟨?_,λy=>z (hz b x h y)⟩⟩
 ·exact N b x (E.same b x h) λk=>by rw[h3 b k]at h;cases h
 ·by_cases k:o.adr a b
  ·exact hm b k
  ·have:=E.bm b C
   obtain⟨x,hx⟩:=XB this;rwa[N b x hx k,←hx]
 ·rcases Ux U with⟨Y,g,_⟩|⟨nk,g⟩
  ·rcases Ux p with⟨T,_,_⟩|⟨nj,f⟩
   ·rw[Y,T]
   ·subst Y;cases g
    rw[A]at n;cases n
    rcases l b e5 with w|w
    ·exact E.own k j _ _ _ _ b M f A G w e6
    ·obtain⟨u,L⟩:=J j Q x' b f G e6;rw[w]at L;cases L
  ·rcases Ux p with⟨T,f,_⟩|⟨nj,f⟩
   ·subst T;cases f
    rw[A]at G;cases G
    rcases l b e6 with w|w
    ·exact E.own k j _ _ _ _ b g M n A e5 w
    ·obtain⟨u,L⟩:=J k fs x b g n e5;rw[w]at L;cases L
   ·exact E.own k j x x' fs Q b g f n G e5 e6
 ·rcases Ux h with⟨Y,e,_⟩|⟨nk,e⟩
  ·subst Y
   have:=Wg e
   subst this;exact⟨_,A,a,rfl,λb C=>(l b C).elim (h3 b) λw=>E.same.free w,r⟩
  ·obtain⟨v,g,f⟩:=E.slot k s e;refine⟨v,g,?_⟩;cases s with
   |sh d=>exact Rp.mono S1 f
   |own fs=>
    obtain⟨x,rfl,n,G⟩:=f;exact⟨x,rfl,n,G.mono S1 λb C y p=>N b y p λw=>nk (E.own k i x a fs o b e M g A C w)⟩
   |_=>exact f
 ·exact N b x h λk=>z (za b k)
def JW.mutate {i:Nat}{a:Addr}{ds es:O}{us:HO} (E:JW K H0 B H σ γ) (u:γ[i]?=some (some<|.own ds)) (f:σ[i]?=some (some<|.ref a)) (w:Mut (some us)) (r:∀F H':Hp,Same (Pu.off (zof B γ σ) H) F->H' a=some us->OR K F H' a es)
  (k1:autoParam (ds.adr a=λb=>b=a) au_0) (k2:autoParam (es.adr a=λb=>b=a) au_0) :
  JW K H0 B (upd H a us) σ (γ.set i<|some<|.own es)/\Fr B H σ γ (upd H a us) σ (γ.set i<|some<|.own es):=by
 refine E.change (o:=ds) (o':=es) u f (λb x h n=>by rw[JX (λz=>n (by rw[k1];exact z))];exact h) (λb h=>by rw[k1]at h;rw[show b=a from h,Um];exact w) (λb h=>.inl (by rw[k1];rw[k2]at h;exact h)) (r _ _ ?_ Um)
 intro b x h;obtain⟨v,p⟩:=Xp h;have s:b≠a:=λz=>p (.inr ⟨i,ds,a,u,f,by rw[k1];exact z⟩);refine U2 (by rw[JX s];exact v) λz=>p ?_;rcases z with z|⟨j,fs,C,A,l,g⟩
 ·exact .inl z
 ·rcases Ux A with⟨y,q,_⟩|⟨_,e⟩
  ·subst y;cases q
   rw[f]at l;cases l
   rw[k2]at g;exact absurd g s
  ·exact .inr ⟨j,fs,C,e,l,g⟩
end
end Pu
namespace Pu
open L2 Own
abbrev XR:=Str->Prop
noncomputable def eI:Int->Nat
 | .ofNat n=>2*n
 | .negSucc n=>2*n+1
noncomputable def dI(n:Nat):Int:=if n % 2=0 then .ofNat (n / 2)else .negSucc (n / 2)
def Oz:∀i,dI (eI i)=i
 | .ofNat n=>by
  show dI (2*n)=_;unfold dI;simp
 | .negSucc n=>by
  show dI (2*n+1)=_;unfold dI;lia
noncomputable def X5(r:ZX):Str:=⟨(0::r.map eI).toArray⟩
noncomputable def OW:Yc->Option (ZX)
 | 0::t=>some (t.map dI)
 |_=>none
noncomputable def KA(x:Str):Option (ZX):=OW x.cps.toList
def Dn(r:ZX):KA (X5 r)=some r:=by
 show some ((r.map eI).map dI)=some r;rw[Q5];congr 1
 conv=>rhs;rw[←List.map_id r]
 exact List.map_congr_left λi _=>Oz i
def XE(b:ZZ)(E:XK)(c:Str)(H':Hp):Prop:=match KA c with
 |none=>E (.ref<|ExcR.JU b c) none H'
 |some r=>∀(f l:Addr) (o:Obj),H' f=some (.xd [("members",.ref l)])->H' l=some (.frz o<|.lst<|r.map V.int)->E (.ref<|ExcR.JU b "Ringed") (some f) H'
def XE.plain {c H'} (f:KA c=none) (h:XE b E c H'):E (.ref<|ExcR.JU b c) none H':=by
 unfold XE at h;simp_all
def XE.of {E c H'} (f:KA c=none) (h:E (.ref<|ExcR.JU b c) none H'):XE b E c H':=by
 unfold XE;simp_all
def XE.mem (h:XE f E (X5 r) H') {b l o} (n:H' b=some (.xd [("members",.ref l)])) (g:H' l=some (.frz o<|.lst<|r.map V.int)) :
  E (.ref<|ExcR.JU f "Ringed") (some b) H':=by
 unfold XE at h;rw[Dn]at h
 grind
def XE.ofM {E r H'} (h:∀b l o,H' b=some (.xd [("members",.ref l)])->H' l=some (.frz o<|.lst<|r.map V.int)->E (.ref<|ExcR.JU f "Ringed") (some b) H'):XE f E (X5 r) H':=by
 unfold XE;rw[Dn];lia
abbrev PTE:=Γ->(S->Prop)->XR->Prop
abbrev PTT:=Γ->(Bool->Prop)->XR->Prop
abbrev PTA:=Γ->(List S->Prop)->XR->Prop
abbrev PTO:=Γ->(Option Int->Prop)->XR->Prop
structure XH where
 nx:Γ->Prop
 rt:S->Prop
 ex:Γ->Str->Prop
 bk:Γ->Prop:=λ_=>False
 ct:Γ->Prop:=λ_=>False
 rv:Γ->D->Prop:=λ_ _=>False
abbrev PTS:=XH->Γ->Prop
abbrev PTG:=S->Γ->(Γ->Prop)->Prop
abbrev Pb:=List S->Γ->(Γ->Prop)->Prop
inductive TVs (K:ZV) (Z:Addr->Prop) (H0 H H':Hp):List S->List V->Prop
 |nil:TVs K Z H0 H H' [] []
 |cons {s:S} {v:V} {ss:List S} {vs:List V}:TV K Z H0 H H' s v->TVs K Z H0 H H' ss vs->TVs K Z H0 H H' (s::ss) (v::vs)
section
variable (K:ZV) (mg:ZZ) (E:L2.St->XK)
def JR(t:TE)(p:PTE):Prop:=∀(h:Hp) (B:Addr->Prop) (H:Hp) (f:L2.St) (g:Γ) (R:S->Prop) (X:XR) (Q:VK),JW K h B H f g->p g R X->
 (∀s v b,R s->Same H b->TV K (zof B g f) h H b s v->Q v b)->(∀c b,X c->Same H b->XE mg (E f) c b)->t f H Q
def UG(t:TT)(p:PTT):Prop:=∀(l:Hp) (B:Addr->Prop) (H:Hp) (g:L2.St) (h:Γ) (R:Bool->Prop) (X:XR) (Q:Bool->Hp->Prop),JW K l B H g h->p h R X->
 (∀b f,R b->Same H f->Q b f)->(∀c f,X c->Same H f->XE mg (E g) c f)->t g H Q
def U3(t:TA)(p:PTA):Prop:=∀(n:Hp) (B:Addr->Prop) (H:Hp) (f:L2.St) (g:Γ) (R:List S->Prop) (X:XR) (Q:List V->Hp->Prop),JW K n B H f g->p g R X->
 (∀l h b,R l->Same H b->TVs K (zof B g f) n H b l h->Q h b)->(∀c b,X c->Same H b->XE mg (E f) c b)->t f H Q
def PX(t:TO)(p:PTO):Prop:=∀(h:Hp) (B:Addr->Prop) (H:Hp) (f:L2.St) (g:Γ) (R:Option Int->Prop) (X:XR) (Q:Option Int->Hp->Prop),JW K h B H f g->p g R X->
 (∀o b,R o->Same H b->Q o b)->(∀c b,X c->Same H b->XE mg (E f) c b)->t f H Q
structure PQ (H0:Hp) (B:Addr->Prop) (H:Hp) (σ:L2.St) (γ:Γ) (R:XH) (D:Ends):Prop where
 nx:∀σ' γ' H',R.nx γ'->JW K H0 B H' σ' γ'->Fr B H σ γ H' σ' γ'->D.nx σ' H'
 rt:∀s v H',R.rt s->Same H0 H'->TV K B H0 H0 H' s v->D.rt v H'
 ex:∀σ' γ' c H',R.ex γ' c->JW K H0 B H' σ' γ'->Fr B H σ γ H' σ' γ'->XE mg (E σ') c H'
 bk:∀σ' γ' H',R.bk γ'->JW K H0 B H' σ' γ'->Fr B H σ γ H' σ' γ'->D.bk σ' H'
 ct:∀σ' γ' H',R.ct γ'->JW K H0 B H' σ' γ'->Fr B H σ γ H' σ' γ'->D.ct σ' H'
 rv:∀σ' γ' d v H',R.rv γ' d->JW K H0 B H' σ' γ'->Fr B H σ γ H' σ' γ'->Rp K (off (zof B γ' σ') H') d v->D.rt v H'
def Ui(t:TS)(p:PTS):Prop:=∀(h:Hp) (B:Addr->Prop) (H:Hp) (f:L2.St) (g:Γ) (R:XH) (D:Ends),(∀b,B b->∃o,h b=some o)->JW K h B H f g->p R g->PQ K mg E h B H f g R D->t D f H
end
section
variable {K:ZV}{mg:ZZ}{E:L2.St->XK}{H0 H H1 H':Hp}{B Z Z':Addr->Prop}{σ:L2.St}{γ:Γ}
def TVs.weakG {H1 f}:∀{ss}{vs:List V},Same H H1->TVs K Z H0 H1 f ss vs->TVs K Z H0 H f ss vs:=by
 intro ss
 induction ss with
 |nil=>
  intro _ _ h;cases h
  exact .nil
 |cons _ _ g=>
  intro _ b h;cases h with
  |cons h r=>
   exact .cons (TV.weak b (λ_ z=>z) h) (g b r)
def TVs.rps (f:Same H0 H'):∀{ss}{vs:List V},TVs K Z H0 H H' ss vs->Rps K H' (ss.map S.d) vs:=by
 intro ss
 induction ss with
 |nil=>
  intro _ h;cases h
  exact .nil
 |cons _ _ b=>
  intro _ h;cases h with
  |cons h r=>
   exact .cons (h.rp f) (b r)
theorem TVs.shd {ds:List D} (l:Same H0 H') (g:∀b,Z b->Mut (H b)) (n:Same H H'):∀{f vs}{ds:List D},TVs K Z H0 H H' f vs->f.map S.shd=ds.map some->Rps K (off Z H') ds vs
 |_,_,[],.nil,_=>.nil
 |_,_,_::_,.nil,e|_,_,[],.cons _ _,e=>by cases e
 |_,_,d::ds,.cons h r,e=>by
  rw[Wz,Wz,List.cons.injEq]at e;exact .cons (h.shd l g n e.1) (TVs.shd (ds:=ds) l g n r e.2)
def Rp.int_inv (h:Rp K H (.int i) v):v=.int i:=by cases h;rfl
def Rp.bl_inv (h:Rp K H (.bl b) v):v=.bl b:=by cases h;rfl
def Rp.str_inv (h:Rp K H (.str x) v):v=.str x:=by cases h;rfl
def Rp.non_inv (h:Rp K H .non v):v=.non:=by cases h;rfl
def Rp.ty_inv (h:Rp K H (.ty n) v):v=.ty n:=by cases h;rfl
noncomputable def NL(i:Nat):PTE:=λγ R _=>match γ[i]? with
 |some (some<|.own b)=>R (.view b)
 |some (some s)=>R s
 |_=>False
def JS(i:Nat):JR K mg E (Xv i) (NL i):=by
 intro H0 B H σ γ R X Q b h q _;unfold NL at h;split at h
 ·rename_i n e;obtain⟨v,f,a,rfl,p,l⟩:=b.slot i _ e;exact⟨_,f,q _ _ H h (Same.refl _) ⟨a,rfl,l⟩⟩
 ·rename_i s o e;obtain⟨v,f,g⟩:=b.slot i _ e;refine⟨v,f,q _ _ H h (Same.refl _) ?_⟩;cases s with
  |bor d|sh d=>exact g
  |own n=>grind
  |_=>exact g.elim
 ·grind
noncomputable def pC(d:D):PTE:=λ_ R _=>R (.sh d)
def Pi(h:∀H,Rp K H d v):JR K mg E (tC v) (pC d):=by
 intro H0 B H σ γ R X Q b p q _;exact q _ _ H p (Same.refl _) (h _)
def Ua:JR K mg E (tC<|.int i) (pC<|.int i):=Pi λ_=>.int i
def Bv:JR K mg E (tC<|.bl b) (pC<|.bl b):=Pi λ_=>.bl b
def HJ:JR K mg E (tC .non) (pC .non):=Pi λ_=>.non
def Bx:JR K mg E (tC<|.str x) (pC<|.str x):=Pi λ_=>.str x
def Hz:JR K mg E (tC<|.ty n) (pC<|.ty n):=Pi λ_=>.ty n
noncomputable def p2(a b:PTE)(f:S->S->(S->Prop)->Prop):PTE:=λγ R X=>a γ (λx=>b γ (λy=>f x y R) X) X
def X0{A w a b f}(Y:JR K mg E A a)(U:JR K mg E w b)(N:∀H0 H h Z x y v u R Q,Same H0 h->Same H h->(∀b,Z b->Mut (H b))->TV K Z H0 H h x v->TV K Z H0 H h y u->f x y R->(∀s z H',R s->Same h H'->TV K Z H0 H H' s z->Q z H')->r v u h Q) :
  JR K mg E (tOp r A w) (p2 a b f):=by
 intro H0 B H σ γ R X Q l p q C;refine Y H0 B H σ γ _ X _ l p (λx v H1 h1 n L=>?_) C;have g:=l.grow n;refine U H0 B H1 σ γ _ X _ g h1 (λy u h h2 o J=>?_) λc H' T S'=>C c H' T (n.trans S');exact N H0 H h _ x y v u R Q (g.same.trans o) (n.trans o) l.zm (L.grow o) (TV.weak n (λ_ z=>z) J) h2 λs z H' M S3 G=>q s z H' M ((n.trans o).trans S3) G
def fI0(g:Int->Int->D):S->S->(S->Prop)->Prop:=λx y R=>match x.d,y.d with
 | .int i,.int j=>R (.sh<|g i j)
 |_,_=>False
def fI(C:Int->Int->Prop)(g:Int->Int->D):S->S->(S->Prop)->Prop:=λx y R=>match x.d,y.d with
 | .int i,.int j=>C i j/\R (.sh<|g i j)
 |_,_=>False
def Ti{g'}{l f a b}(w:∀H i j,Rp K H (g' i j) (g i j))(A:JR K mg E l a)(z:JR K mg E f b):JR K mg E (tOp (rI0 g) l f) (p2 a b<|fI0 g'):=by
 refine X0 A z λH0 H J Z x y v u R Q n L M s r h q=>?_;unfold fI0 at h;have p:=s.rp n;have o:=r.rp n;split at h
 ·rename_i i j G C;rw[G]at p;rw[C]at o;exact⟨i,j,p.int_inv,o.int_inv,q _ _ J h (Same.refl _) (w _ i j)⟩
 ·grind
def CH{g r}{l f a b}(z:∀H i j,Rp K H (r i j) (g i j))(G:JR K mg E l a)(A:JR K mg E f b):JR K mg E (tOp (rI C g) l f) (p2 a b<|fI C r):=by
 refine X0 G A λH0 H M Z x y v u R Q n N T w s h q=>?_;unfold fI at h;have p:=w.rp n;have o:=s.rp n;split at h
 ·rename_i i j L J;rw[L]at p;rw[J]at o;exact⟨i,j,p.int_inv,o.int_inv,h.1,q _ _ M h.2 (Same.refl _) (z _ i j)⟩
 ·grind
section
variable {ta tb tc:TE}{a b c:PTE}
def UP(g:JR K mg E ta a)(f:JR K mg E tb b):JR K mg E (tOp (rI0 λi j=>.int (i+j)) ta tb) (p2 a b (fI0 λi j=>.int (i+j))):=Ti (λ_ _ _=>.int _) g f
def Kf(g:JR K mg E ta a)(f:JR K mg E tb b):JR K mg E (tOp (rI0 λi j=>.int (i-j)) ta tb) (p2 a b (fI0 λi j=>.int (i-j))):=Ti (λ_ _ _=>.int _) g f
def GH(g:JR K mg E ta a)(f:JR K mg E tb b):JR K mg E (tOp (rI Bb λi j=>.int (i / j)) ta tb) (p2 a b (fI Bb λi j=>.int (i / j))):=CH (λ_ _ _=>.int _) g f
def XD(g:JR K mg E ta a)(f:JR K mg E tb b):JR K mg E (tOp (rI (λ_ j=>0<j) λi j=>.int (i % j)) ta tb) (p2 a b (fI (λ_ j=>0<j) λi j=>.int (i % j))):=CH (λ_ _ _=>.int _) g f
def Kh(g:JR K mg E ta a)(f:JR K mg E tb b):JR K mg E (tOp (rI0 λi j=>.bl (decide (i<j))) ta tb) (p2 a b (fI0 λi j=>.bl (decide (i<j)))):=Ti (λ_ _ _=>.bl _) g f
def K5(g:JR K mg E ta a)(f:JR K mg E tb b):JR K mg E (tOp (rI0 λi j=>.bl (decide (j<i))) ta tb) (p2 a b (fI0 λi j=>.bl (decide (j<i)))):=Ti (λ_ _ _=>.bl _) g f
def PN(g:JR K mg E ta a)(f:JR K mg E tb b):JR K mg E (tOp (rI0 λi j=>.bl (decide (j<=i))) ta tb) (p2 a b (fI0 λi j=>.bl (decide (j<=i)))):=Ti (λ_ _ _=>.bl _) g f
def fEq(neg:Bool):S->S->(S->Prop)->Prop:=λx y R=>match x.d,y.d with
 | .int i,.int j=>R (.sh<|.bl (if neg then !decide (i=j)else decide (i=j)))
 | .str i,.str j=>R (.sh<|.bl (if neg then !decide (i=j)else decide (i=j)))
 | .bl i,.bl j=>R (.sh<|.bl (if neg then !decide (i=j)else decide (i=j)))
 |_,_=>False
def Ph{g h:Type}[DecidableEq g][DecidableEq h]{f:g->h}(l:∀a b,f a=f b->a=b)(a b:g):decide (f a=f b)=decide (a=b):=by grind
def fIx:S->S->(S->Prop)->Prop:=λx y R=>match x.d,y.d with
 | .lst g,.int k=>∃d,atI g k=some d/\R (x.sub d)
 | .tup g,.int k=>∃d,atI g k=some d/\R (x.sub d)
 | .scr f,.int k=>∃i,atI f k=some i/\R (.sh<|.int i)
 | .fL f,.int k=>∃i,atI f k=some i/\R (.sh<|.int i)
 |_,_=>False
def DG{P:D->V->Prop}(f:vs.length=ds.length)(h:∀(i:Nat) d,ds[i]?=some d->∃u,vs[i]?=some u/\P d u)(e:atI ds k=some d):∃u,atI vs k=some u/\P d u:=by
 unfold atI at e ⊢;cases q:ixN ds.length k with
 |_=>grind
def Xu(ha:JR K mg E ta a)(hb:JR K mg E tb b):JR K mg E (tOp (λx y H Q=>KO K x y H Q\/KS K x y H Q) ta tb) (p2 a b fIx):=by
 refine X0 ha hb λH0 H s Z x y v u R Q r s1 hm A Y h q=>?_;unfold fIx at h;have f:=Y.rp r;obtain⟨pl,pt⟩:=A.part r hm s1;split at h
 ·rename_i U k o n;rw[n]at f;obtain⟨d,T,g⟩:=h;obtain⟨l,w,rfl,M,L,J⟩:=pl U o;obtain⟨z,C,tz⟩:=DG L J T;exact .inl ⟨l,w,k,z,rfl,f.int_inv,SqL.of M,C,q _ _ s g (Same.refl _) tz⟩
 ·rename_i U k o n;rw[n]at f;obtain⟨d,T,g⟩:=h;obtain⟨l,w,rfl,M,L,J⟩:=pt U o;obtain⟨z,C,tz⟩:=DG L J T;exact .inr ⟨l,w,k,z,rfl,f.int_inv,SqT.of M,C,q _ _ s g (Same.refl _) tz⟩
 ·rename_i ns k o n;rw[n]at f;obtain⟨i,N,g⟩:=h;have p:=A.rp r;rw[o]at p;cases p with
  |scr G=>exact .inl ⟨_,_,k,.int i,rfl,f.int_inv,G,PY N,q _ _ s g (Same.refl _) (.int i)⟩
 ·rename_i ns k o n;rw[n]at f;obtain⟨i,N,g⟩:=h;have p:=A.rp r;rw[o]at p;cases p with
  |fL G=>exact .inl ⟨_,_,k,.int i,rfl,f.int_inv,.inl (.inr ⟨_,G⟩),PY N,q _ _ s g (Same.refl _) (.int i)⟩
 ·exact h.elim
noncomputable def Zbg(a b:PTE):PTE:=λγ R X=>a γ (λx=>match x.d with | .bl c=>if c=true then b γ R X else R (.sh<|.bl false)|_=>False) X
noncomputable def Ly(a:PTE):PTE:=λγ R X=>a γ (λx=>match x.d with | .int i=>R (.sh<|.int (-i))|_=>False) X
def KZ(r:JR K mg E ta a):JR K mg E (tUn (rU λi=>.int (-i)) ta) (Ly a):=by
 intro H0 B H σ γ R X Q f p q o;refine r H0 B H σ γ _ X _ f p (λx v H1 h l n=>?_) o;have g:=n.rp (f.grow l).same;split at h
 ·rename_i c s;rw[s]at g;exact⟨c,g.int_inv,q _ _ H1 h l (.int _)⟩
 ·grind
noncomputable def KG(a:PTE):PTT:=λγ R X=>a γ (λx=>match x.d with | .bl c=>R c|_=>False) X
def XS(r:JR K mg E ta a):UG K mg E (Nn ta) (KG a):=by
 intro H0 B H σ γ R X Q f p q o;refine r H0 B H σ γ _ X _ f p (λx v H1 h l n=>?_) o;have g:=n.rp (f.grow l).same;split at h
 ·rename_i c s;rw[s]at g;exact⟨c,g.bl_inv,q _ H1 h l⟩
 ·grind
def RP(f:JR K mg E ta a):UG K mg E (tB ta) (KG a):=XS f
variable {sa sb:TT}{pa pb:PTT}
noncomputable def Dl(a b:PTT):PTT:=λγ R X=>a γ (λc=>if c=true then b γ R X else R false) X
noncomputable def pOr(a b:PTT):PTT:=λγ R X=>a γ (λc=>if c=true then R true else b γ R X) X
noncomputable def Ah(a:PTT):PTT:=λγ R X=>a γ (λc=>R (!c)) X
def RM(r:UG K mg E sa pa)(o:UG K mg E sb pb):UG K mg E (Ep sa sb) (Dl pa pb):=by
 intro H0 B H σ γ R X Q f p q l;refine r H0 B H σ γ _ X _ f p (λc H1 n h=>?_) l;split at n
 ·rename_i g;rw[Wc g];exact o H0 B H1 σ γ _ X _ (f.grow h) n (λy w s u=>q y w s (h.trans u)) λc H' g v=>l c H' g (h.trans v)
 ·grind
def R7(r:UG K mg E sa pa)(o:UG K mg E sb pb):UG K mg E (tOr sa sb) (pOr pa pb):=by
 intro H0 B H σ γ R X Q f p q l;refine r H0 B H σ γ _ X _ f p (λc H1 n h=>?_) l;split at n
 ·grind
 ·rename_i g;rw[YV g];exact o H0 B H1 σ γ _ X _ (f.grow h) n (λy w s u=>q y w s (h.trans u)) λc H' g v=>l c H' g (h.trans v)
def M6(h:UG K mg E sa pa):UG K mg E (DX sa) (Ah pa):=by
 intro H0 B H σ γ R X Q f p q g;exact h H0 B H σ γ _ X _ f p (λc H1 l n=>q _ H1 l n) g
end
noncomputable def XX:PTA:=λ_ R _=>R []
noncomputable def Xg(a:PTE)(r:PTA):PTA:=λγ R X=>a γ (λs=>r γ (λb=>R (s::b)) X) X
def U0:U3 K mg E Xe XX:=by
 intro H0 B H σ γ R X Q b p q _;exact q _ _ H p (Same.refl _) .nil
def Uv{a r}(x:JR K mg E te a)(u:U3 K mg E l r):U3 K mg E (UJ te l) (Xg a r):=by
 intro H0 B H σ γ R X Q b p q g;refine x H0 B H σ γ _ X _ b p (λs v H1 z f o=>?_) g;refine u H0 B H1 σ γ _ X _ (b.grow f) z (λJ G C y h n=>?_) λc H' w A=>g c H' w (f.trans A);exact q _ _ C y (f.trans h) (.cons (o.grow h)<|TVs.weakG f n)
noncomputable def Tj:List S->Option (List D)
 |[]=>some []
 |s::r=>match s.shd,Tj r with
  |some d,some b=>some (d::b)
  |_,_=>none
theorem Sm:∀{ss}{ds:List D},Tj ss=some ds->ss.map S.shd=ds.map some
 |[],ds,h=>by cases h;rfl
 |s::r,ds,h=>by
  unfold Tj at h;split at h
  ·rename_i d g f b;cases h
   rw[Wz,Wz,f,Sm b]
  ·grind
noncomputable def BQ(r:PTA):PTE:=λγ R X=>r γ (λf=>match Tj f with|some b=>b.length<=1000/\R (.sh<|.tup b)|none=>False) X
noncomputable def AS(r:PTA):PTE:=λγ R X=>r γ (λf=>match Tj f with|some b=>b.length<=1000/\R (.own b)|none=>False) X
def B7(h:n<=1000):n<=sizeLine:=QD (Oq h)
def Ni(y:U3 K mg E v r):JR K mg E (Er v) (BQ r):=by
 intro H0 B H σ γ R X Q f p q x;refine y H0 B H σ γ _ X _ f p (λA u H1 g h w=>?_) x;split at g
 ·rename_i ds e;have b:=f.grow h;have rp:=w.shd (ds:=ds) b.same f.zm h (Sm e);refine⟨by rw[rp.len];exact B7 g.1,λl n=>?_⟩;have s:=UB (o:=.tup u) n;refine q _ _ _ g.2 (h.trans s) (.tup (U2 Um λz=>?_)<|Rps.mono (Ug s λ_ _ _ z=>z) rp)
  have:=b.zm l z
  rw[n]at this;exact this
 ·grind
def K9{H H1 l vs ds}(h:Same H H1)(f:H1 l=none)(rp:Rps K (off Z H1) ds vs):TV K Z H0 H (upd H1 l<|.lst vs) (.own ds) (.ref l):=
 ⟨l,rfl,(λ_ e=>e▸h.free f),vs,Um,Rps.mono (Ug (UB f) λb o g z y=>y.elim z λe=>by rw[e,f]at g;cases g) rp⟩
def XN(u:U3 K mg E n r):JR K mg E (NP n) (AS r):=by
 intro H0 B H σ γ R X Q b p q s;refine u H0 B H σ γ _ X _ b p (λw v H1 g f o=>?_) s;split at g
 ·rename_i ds e;have rp:=o.shd (ds:=ds) (b.grow f).same b.zm f (Sm e);refine⟨by rw[rp.len];exact B7 g.1,λl h=>?_⟩;exact q _ _ _ g.2 (f.trans<|UB h) (K9 f h rp)
 ·grind
abbrev Pc:=List D->(S->Prop)->XR->Prop
noncomputable def Ue(mg:ZZ)(c:Pc)(K:ZV):Sp:=λg H Q E=>∃f R X,Rps K H f g/\c f R X/\(∀s v H',R s->Same H H'->TV K (λb=>Mut (H b)) H H H' s v->Q v H')/\∀e H',X e->Same H H'->XE mg E e H'
noncomputable def S.back:S->S
 | .bor d=>UU d | .view o=>.tmp o.d|s=>s
def TV.back (env:JW K H0 B H1 σ γ) (o:Same H H1) (f:Same H1 H') (h:TV K (λb=>Mut (H1 b)) H1 H1 H' s v):TV K (zof B γ σ) H0 H H' s.back v:=by
 cases s with
 |bor d=>exact Xx (λb z=>XG f (env.zm b z)) (Rp.mono f h)
 |sh d=>exact Rp.mono (Ug (Same.refl _) λb _ _ z y=>z (env.zm b y)) h
 |own n=>
  obtain⟨a,rfl,l,r⟩:=h;exact⟨a,rfl,(λb g=>o.free (l b g)),r.mono (Ug (Same.refl _) λb _ _ z y=>z (y.imp (env.zm b) id)) λ_ _ _ q=>q⟩
 |view n=>
  obtain⟨a,rfl,r⟩:=h;exact r.rp off_sub
 |tmp d=>exact h
noncomputable def Ed(c:Pc)(r:PTA):PTE:=λγ R X=>r γ (λb=>c (b.map S.d) (λs=>R s.back) λ_=>False) X
noncomputable def NG(c:Pc)(r:PTA):PTE:=λγ R X=>r γ (λb=>c (b.map S.d) (λs=>R s.back) X) X
def LU{h r}(w:U3 K mg E h r):JR K mg E (PM (Ue mg c K) [] E0 h) (Ed c r):=by
 intro H0 B H σ γ R X Q f p q o;refine w H0 B H σ γ _ X _ f p (λA y H1 x g n=>?_) o;rw[WC];have b:=f.grow g;exact⟨_,_,_,n.rps b.same,x,λs v H' u l tv=>q _ _ H' u (g.trans l) (tv.back b g l),λ_ _ z=>z.elim⟩
def IM{n r l}(x:U3 K mg (λ_=>l) n r):JR K mg (λ_=>l) (PM (Ue mg c K) [] l n) (NG c r):=by
 intro H0 B H σ γ R X Q f p q o;refine x H0 B H σ γ _ X _ f p (λC A H1 z h u=>?_) o;rw[WC];have b:=f.grow h;exact⟨_,_,X,u.rps b.same,z,λs v H' w g tv=>q _ _ H' w (h.trans g) (tv.back b h g),λe H' y g=>o e H' y (h.trans g)⟩
def AN{l r}(w:U3 K mg E l r):JR K mg E (ExcR.CQ (Ue mg c K) E l) (NG c r):=by
 intro H0 B H σ γ R X Q f p q n;refine w H0 B H σ γ _ X _ f p (λA z H1 y h o=>?_) n;rw[WC];have b:=f.grow h;exact⟨_,_,X,o.rps b.same,y,λs v H' u g tv=>q _ _ H' u (h.trans g) (tv.back b h g),λe H' x g=>n e H' x (h.trans g)⟩
def JW.set {s b}{v} (g:JW K H0 B H σ γ) (f:Same H H') (h:TV K (zof B γ σ) H0 H H' s v) (e:s.slot=some b) :
  JW K H0 B H' (σ.set i<|some v) (γ.set i<|some b)/\Fr B H σ γ H' (σ.set i<|some v) (γ.set i<|some b):=by
 by_cases l:i<γ.length
 ·exact g.put f h e l
 ·rw[List.set_eq_of_length_le (by rw[g.len];lia),List.set_eq_of_length_le (by lia)];exact⟨g.grow f,Fr.grow f⟩
def Upd(is:Yc)(σ b:L2.St):Prop:=(∀j,j∉is->b[j]?=σ[j]?)/\b.length=σ.length
def Ki(K:ZV)(is:Yc)(t:TG)(p:PTG):Prop:=∀(H0:Hp) (B:Addr->Prop) (H H':Hp) (σ:L2.St) (γ:Γ) (s:S) (v:V) (R:Γ->Prop) (Q:L2.St->Hp->Prop),JW K H0 B H σ γ->Same H H'->TV K (zof B γ σ) H0 H H' s v->p s γ R->
 (∀b f,R f->JW K H0 B H' b f->Fr B H σ γ H' b f->Upd is σ b->Q b H')->t v σ H' Q
noncomputable def P4(i:Nat):PTG:=λs γ R=>match s.slot with|some b=>R (γ.set i<|some b)|none=>False
def Kp(i:Nat):Ki K [i] (Pj i) (P4 i):=by
 intro H0 B H H' σ γ s v R Q b h tv p q;unfold P4 at p;split at p
 ·rename_i l e;obtain⟨g,f1⟩:=b.set h tv e;exact q _ _ p g f1 ⟨λj f=>X3 λz=>f (by grind),WY⟩
 ·grind
noncomputable def Ay:Pb:=λb γ R=>match b with|[]=>R γ|_=>False
noncomputable def De(g:PTG)(r:Pb):Pb:=λf γ R=>match f with|s::t=>g s γ λb=>r t b R|[]=>False
def TV.notown {σ'}{γ'}{Hb} (f:Fr B H σ γ H' σ' γ') (b:Same H H') (n:∀ds,s≠.own ds) (g:∀ds,s≠.view ds) (h:TV K (zof B γ σ) H0 Hb H s v):TV K (zof B γ' σ') H0 H' H' s v:=by
 cases s with
 |bor d=>exact h
 |sh d=>exact Rp.mono f.off h
 |tmp d=>exact Rp.mono b h
 |_=>grind
def TVs.notown (f:Fr B H σ γ H b g):∀{ss}{vs:List V},(∀s∈ss,∀ds,s≠.own ds/\s≠.view ds)->TVs K (zof B γ σ) H0 p H ss vs->TVs K (zof B g b) H0 H H ss vs:=by
 intro ss
 induction ss with
 |nil=>
  intro _ _ h;cases h
  exact .nil
 |cons _ _ l=>
  intro _ n h;cases h with
  |cons h r=>
   exact .cons (h.notown f (Same.refl _) (λds=>(n _ W3 ds).1) λds=>(n _ W3 ds).2) (l (λs o=>n s (Wm _ o)) r)
def Nw(d:D):arg d=.sh d\/arg d=.bor d:=by unfold arg;cases imm d<;>simp
def A2(d:D):UU d=.sh d\/UU d=.tmp d:=by unfold UU;cases imm d<;>simp
def F0(s:S)(d:D):∀ds,s.sub d≠.own ds/\s.sub d≠.view ds:=λds=>by
 cases s with
 |bor b=>rcases Nw d with e|e<;>(show arg d≠_/\arg d≠_;rw[e];exact⟨(λz=>by cases z),(λz=>by cases z)⟩)
 |tmp b=>rcases A2 d with e|e<;>(show UU d≠_/\UU d≠_;rw[e];exact⟨(λz=>by cases z),(λz=>by cases z)⟩)
 |sh b=>exact⟨(λz=>by cases z),(λz=>by cases z)⟩
 |own b|view b=>
  cases b with
  |nst f|nsl a f|vls a C xs g=>rcases A2 d with e|e<;>(show UU d≠_/\UU d≠_;rw[e];exact⟨(λz=>by cases z),(λz=>by cases z)⟩)
  |_=>exact⟨(λz=>by cases z),(λz=>by cases z)⟩
def Py(K:ZV)(is:Yc)(t:TGs)(p:Pb):Prop:=∀(H0:Hp) (B:Addr->Prop) (H:Hp) (σ:L2.St) (γ:Γ) (g:List S) (h:List V) (R:Γ->Prop) (Q:L2.St->Hp->Prop),JW K H0 B H σ γ->TVs K (zof B γ σ) H0 H H g h->(∀s∈g,∀l,s≠.own l/\s≠.view l)->p g γ R->
 (∀b f,R f->JW K H0 B H b f->Fr B H σ γ H b f->Upd is σ b->Q b H)->t h σ H Q
def MX:Py K [] Aw Ay:=by
 intro H0 B H σ γ g f R Q b tv no p q;cases tv with
 |nil=>exact⟨rfl,q _ _ p b Fr.refl ⟨λ_ _=>rfl,rfl⟩⟩
 |cons _ _=>exact p.elim
def Oo{g r w v}(L:Ki K is g w)(J:Py K G r v):Py K (is++G) (Ea g r) (De w v):=by
 intro H0 B H σ γ Y U R Q u tv no p q;cases tv with
 |nil=>exact p.elim
 |cons h t=>
  refine⟨_,_,rfl,L H0 B H H σ γ _ _ _ _ u (Same.refl _) h p λf n C T f1 y=>?_⟩;refine J H0 B H f n _ _ _ _ T (TVs.notown f1 (λs o=>no s (Wm _ o)) t) (λs o=>no s (Wm _ o)) C λb l p2 N M x=>?_;exact q b l p2 N (f1.trans M) ⟨λj A=>(x.1 j λz=>A (Wo _ z)).trans (y.1 j λz=>A (WL _ z)),x.2.trans y.2⟩
noncomputable def Bk(n:Nat)(r:Pb):PTG:=λs γ R=>match s.d with | .tup b=>b.length=n/\r (b.map s.sub) γ R|_=>False
theorem TVs.of_part {ds:List D}{s:S}:∀{vs}{ds:List D},vs.length=ds.length->(∀(i:Nat) d,ds[i]?=some d->∃u,vs[i]?=some u/\TV K Z H0 H H' (s.sub d) u)->TVs K Z H0 H H' (ds.map s.sub) vs
 |[],[],_,_=>.nil
 |[],_::_,e,_|_::_,[],e,_=>by cases e
 |v::vs,d::ds,e,h=>by
  obtain⟨u,f,b⟩:=h 0 d rfl;cases f
  exact .cons b (TVs.of_part (ds:=ds) (by grind) λi g l=>by simpa using h (i+1) g (by grind))
def On{is r w}(A:Py K is r w):Ki K is (SL K n r) (Bk n w):=by
 intro H0 B H H' σ γ s v R Q f o tv p q;unfold Bk at p;have b:=f.grow o;obtain⟨_,pt⟩:=tv.part b.same f.zm o;split at p
 ·rename_i ds e;obtain⟨a,u,rfl,G,x,C⟩:=pt ds e;refine⟨a,u,rfl,SqT.of G,x.trans p.1,?_⟩;refine A H0 B H' σ γ _ u R Q b (TVs.notown (Fr.refl) (λy l ds=>?_)<|TVs.of_part (ds:=ds) x C) (λy l ds=>?_) p.2 λg h J L f1 z=>q g h J L (Fr.trans (Fr.grow o) f1) z
  ·obtain⟨d,_,rfl⟩:=W8.mp l;exact F0 s d ds
  ·obtain⟨d,_,rfl⟩:=W8.mp l;exact F0 s d ds
 ·grind
def PQ.from {D o p} (e:PQ K mg E H0 B H σ γ R D) (f:Fr B H σ γ H1 o p):PQ K mg E H0 B H1 o p R D:=
 ⟨λb g H' n l h=>e.nx b g H' n l (f.trans h),e.rt,λb g c H' n l h=>e.ex b g c H' n l (f.trans h),λb g H' n l h=>e.bk b g H' n l (f.trans h),λb g H' n l h=>e.ct b g H' n l (f.trans h),λb g d v H' n l h=>e.rv b g d v H' n l (f.trans h)⟩
variable {te:TE}{a:PTE}{tt:TT}{c:PTT}{t u:TS}{p q:PTS}
noncomputable def Dx:PTS:=λR γ=>R.nx γ
def GP:Ui K mg E Et Dx:=λ_ _ _ _ _ _ _ _ b h e=>e.nx _ _ _ h b Fr.refl
noncomputable def Cn(p q:PTS):PTS:=λR γ=>p {R with nx:=q R} γ
def AX(n:Ui K mg E t p)(hq:Ui K mg E u q):Ui K mg E (Dj t u) (Cn p q):=by
 intro H0 B H σ γ R D l g h e;refine n H0 B H σ γ _ _ l g h ⟨λb f H' o r f1=>?_,e.rt,e.ex,e.bk,e.ct,e.rv⟩;exact hq H0 B H' b f R D l r o (e.from f1)
structure FS (p q:PTS) (R:XH) (γ:Γ):Prop where
 w:∃J:Γ->Prop,p {R with nx:=J} γ/\∀γ',J γ'->q R γ'
noncomputable def DP(p q:PTS):PTS:=λR γ=>FS p q R γ
def Hl(r:Ui K mg E t p)(hq:Ui K mg E u q):Ui K mg E (Fz t u) (DP p q):=by
 intro H0 B H σ γ R D o l h e;obtain⟨J,h,k⟩:=h.w;refine⟨λf H'=>∃b,J b/\JW K H0 B H' f b/\Fr B H σ γ H' f b,r H0 B H σ γ _ _ o l h ⟨λf b H' g n f1=>⟨b,g,n,f1⟩,e.rt,e.ex,e.bk,e.ct,e.rv⟩,?_⟩;rintro f H' ⟨b,g,n,f1⟩;exact hq H0 B H' f b R D o n (k b g) (e.from f1)
noncomputable def FK(i:Nat)(p:PTS):PTS:=λR γ=>p R (frz i γ)
def OC(i:Nat)(g:Ui K mg E t p):Ui K mg E t (FK i p):=by
 intro H0 B H σ γ R D f b h e;obtain⟨l,f1⟩:=b.frz f i;exact g H0 B H σ _ R D f l h (e.from f1)
noncomputable def Sw(a:PTE)(g:PTG):PTS:=λR γ=>a γ (λs=>g s γ R.nx) (R.ex γ)
def TX(y:JR K mg E te a)(w:Ki K is g r):Ui K mg E (Tx te g) (Sw a r):=by
 intro H0 B H σ γ R D L b h e;refine y H0 B H σ γ _ _ _ b h (λs v H1 A J o=>?_) λc H' x n=>e.ex σ γ c H' x (b.grow n) (Fr.grow n);exact w H0 B H H1 σ γ s v _ _ b J o A λf l z G C _=>e.nx f l H1 z G C
noncomputable def Zbc(i:Nat)(f:Int->Int->Int)(a:PTE):PTS:=λR γ=>match γ[i]? with
 |some (some<|.sh<|.int x)=>a γ (λy=>match y.d with | .int j=>R.nx (γ.set i<|some<|.sh<|.int<|f x j)|_=>False) (R.ex γ)
 |_=>False
noncomputable def AM(a:PTE):PTS:=λR γ=>a γ R.rt (R.ex γ)
def Ha(o:JR K mg E te a):Ui K mg E (KP te) (AM a):=by
 intro H0 B H σ γ R D x f h e;refine o H0 B H σ γ _ _ _ f h (λs v H1 r w l=>?_) λc H' n g=>e.ex σ γ c H' n (f.grow g) (Fr.grow g);exact e.rt s v H1 r (f.same.trans w) (TV.weak f.same (λb z=>.inl z) l)
noncomputable def Bg(i:Nat):PTS:=λR γ=>match γ[i]? with|some (some s)=>R.rt s|_=>False
def GR(i:Nat):Ui K mg E (KP<|Xv i) (Bg i):=by
 intro H0 B H σ γ R D C f h e;unfold Bg at h;split at h
 ·rename_i s n;obtain⟨v,o,g⟩:=f.slot i _ n;refine⟨v,o,e.rt s v H h f.same ?_⟩;cases s with
  |bor d=>exact g
  |sh d=>exact Rp.mono (Ug (Same.refl _) λb _ _ z y=>z (.inl y)) g
  |own r=>
   obtain⟨l,rfl,A,x⟩:=g;exact⟨l,rfl,A,x.mono (Ug (Same.refl _) λb _ _ z y=>z (y.elim .inl λw=>.inr ⟨i,r,l,n,o,w⟩)) λ_ _ _ q=>q⟩
  |view r=>exact g.elim
  |tmp d=>trivial
 ·grind
noncomputable def DY(c:PTT)(p q:PTS):PTS:=λR γ=>c γ (λb=>if b=true then p R γ else q R γ) (R.ex γ)
def R0(l:UG K mg E tt c)(v:Ui K mg E t p)(hq:Ui K mg E u q):Ui K mg E (A5 tt t u) (DY c p q):=by
 intro H0 B H σ γ R D r f h e;refine l H0 B H σ γ _ _ _ f h (λb H1 o g=>?_) λc H' l s=>e.ex σ γ c H' l (f.grow s) (Fr.grow s);split at o
 ·rename_i n;rw[Wc n];exact v H0 B H1 σ γ R D r (f.grow g) o (e.from<|Fr.grow g)
 ·rename_i n;rw[YV n];exact hq H0 B H1 σ γ R D r (f.grow g) o (e.from<|Fr.grow g)
noncomputable def Cw(a:PTE):PTS:=λR γ=>a γ (λ_=>R.nx γ) (R.ex γ)
def U5(n:JR K mg E te a):Ui K mg E (TH te) (Cw a):=by
 intro H0 B H σ γ R D w b h e;exact n H0 B H σ γ _ _ _ b h (λs v H1 o f r=>e.nx σ γ H1 o (b.grow f) (Fr.grow f)) λc H' l g=>e.ex σ γ c H' l (b.grow g) (Fr.grow g)
noncomputable def Rx:PTS:=λ_ _=>False
def UR:Ui K mg E Fm Rx:=λ_ _ _ _ _ _ _ _ _ h _=>h
noncomputable def F3(x:Str)(r:PTA):PTS:=λR γ=>r γ (λb=>b.length<=1000/\R.ex γ x) (R.ex γ)
def TVs.len:∀{ss}{vs:List V},TVs K Z H0 H H' ss vs->vs.length=ss.length:=by
 intro ss
 induction ss with
 |nil=>
  intro _ h;cases h
  rfl
 |cons _ _ b=>
  intro _ h;cases h with
  |cons h r=>
   exact W2 (· + 1) (b r)
def Ge{g r f}(v:U3 K mg (λ_=>f) g r)(hx:autoParam (KA x=none) au_0):Ui K mg (λ_=>f) (ExcR.Ak (ExcR.JU mg x) f g) (F3 x r):=by
 intro H0 B H σ γ R D A b h e;refine v H0 B H σ γ _ _ _ b h (λz y H1 l n s=>⟨?_,?_⟩) λc H' w o=>e.ex σ γ c H' w (b.grow o) (Fr.grow o)
 ·rw[s.len];exact B7 l.1
 ·exact(e.ex σ γ x H1 l.2 (b.grow n)<|Fr.grow n).plain hx
def Za8(i j:Nat)(γ:Γ)(R:Γ->Prop):List S->Prop
 |[.sh d,.sh e]=>R ((γ.set i<|some<|.sh d).set j (some<|.sh e))
 |_=>False
noncomputable def clr:Yc->Γ->Γ
 |[],γ=>γ
 |i::r,γ=>clr r (γ.set i none)
theorem JW.clr:∀is {γ:Γ},JW K H0 B H σ γ->JW K H0 B H σ (clr is γ)/\Fr B H σ γ H σ (Pu.clr is γ)
 |[],_,e=>⟨e,Fr.refl⟩
 |i::r,γ,e=>by
  obtain⟨g,f1⟩:=e.drop i;obtain⟨f,b⟩:=JW.clr r g;exact⟨f,f1.trans b⟩
def Later(H0:Hp)(Z:Addr->Prop)(H1:Hp)(Z':Addr->Prop)(H':Hp):Prop:=Same H0 H'/\(∀b,Z' b->Mut (H' b))/\∀b o,H1 b=some o->¬Z b->H' b=some o/\¬Z' b
def Later.of (e:JW K H0 B H' b g) (f:Fr B H1 σ γ H' b g):Later H0 (zof B γ σ) H1 (zof B g b) H':=⟨e.same,e.zm,f⟩
def Later.off (l:Later H0 Z H1 Z' H'):Same (off Z H1) (Pu.off Z' H'):=λb o h=>by
 obtain⟨r,n⟩:=Xp h;obtain⟨g,f⟩:=l.2.2 b o r n;exact U2 g f
structure Au (K:ZV) (H0:Hp) (B:Addr->Prop) (H1:Hp) (σ:L2.St) (γ:Γ) (J:It) (n:Nat) (item:Nat->S):Prop where
 go:∀(i:Nat) (H':Hp) (Z':Addr->Prop),i<n->Later H0 (zof B γ σ) H1 Z' H'->J.go i H'/\∀x H'',J.yld i H' x H''->Same H' H''/\TV K Z' H0 H' H'' (item i) x
 stop:∀(H':Hp) (Z':Addr->Prop),Later H0 (zof B γ σ) H1 Z' H'->J.stop n H'
abbrev PTI:=Γ->(Nat->(Nat->S)->Prop)->XR->Prop
def SndI(K:ZV)(mg:ZZ)(E:L2.St->XK)(b:TI)(f:PTI):Prop:=∀(H0:Hp) (B:Addr->Prop) (H:Hp) (σ:L2.St) (γ:Γ) (R:Nat->(Nat->S)->Prop) (X:XR) (Q:It->Hp->Prop),JW K H0 B H σ γ->f γ R X->
 (∀n item J H1,R n item->Same H H1->Au K H0 B H1 σ γ J n item->Q J H1)->(∀c H',X c->Same H H'->XE mg (E σ) c H')->b σ H Q
structure Sy (js:Yc) (γ:Γ) (g:PTG) (body:PTS) (R:XH) (n:Nat) (item:Nat->S):Prop where
 w:∃inv:Nat->Γ->Prop,inv 0 (clr js γ)/\
 (∀i γ',i<n->inv i γ'->g (item i) γ' λγ2=>body {R with nx:=λγ3=>inv (i+1) (clr js γ3),ct:=λγ3=>inv (i+1) (clr js γ3),bk:=R.nx} γ2)/\∀γ',inv n γ'->R.nx γ'
noncomputable def Cr(b:Yc)(f:PTI)(g:PTG)(body:PTS):PTS:=λR γ=>f γ (λn item=>Sy b γ g body R n item) (R.ex γ)
def HN{wi g it pg}(L:Yc)(hi:SndI K mg E wi it)(hg:Ki K is g pg)(hb:Ui K mg E t p):Ui K mg E (CL wi g t) (Cr L it pg p):=by
 intro H0 B H σ γ R D hB N h e;refine hi H0 B H σ γ _ _ _ N h (λn item J H1 h1 Y ok=>?_) λc H' hc S'=>e.ex σ γ c H' hc (N.grow S') (Fr.grow S');obtain⟨inv,h0,hs,hd⟩:=h1.w;have G:=N.grow Y;refine⟨λi m s H'=>m=n-i/\i<=n/\∃b,inv i b/\JW K H0 B H' s b/\Fr B H1 σ γ H' s b,⟨n,by simp,WX _,_,h0,(G.clr L).1,(G.clr L).2⟩,?_⟩;rintro i m s H' ⟨rfl,hin,b,U,e',f'⟩;by_cases M:i<n
 ·obtain⟨go,yl⟩:=ok.go i H' _ M (Later.of e' f');refine .inr ⟨go,λr H2=>∃o,inv (i+1) o/\JW K H0 B H2 r o/\Fr B H1 σ γ H2 r o,λr H2 ⟨o,a1,a2,a3⟩=>⟨n-(i+1),by lia,rfl,M,o,a1,a2,a3⟩,λx T y=>?_⟩;obtain⟨S2,tv⟩:=yl x T y;refine hg H0 B H' T s b _ _ _ _ e' S2 tv (hs i b M U) λr o q2 e2 f2 _=>?_;have fall:=f'.trans f2;refine hb H0 B T r o _ _ hB e2 q2 ⟨λf l Q A z C=>?_,e.rt,λf l c Q A z C=>e.ex f l c Q A z ((Fr.grow Y).trans (fall.trans C)),λf l Q A z C=>e.nx f l Q A z ((Fr.grow Y).trans (fall.trans C)),λf l Q A z C=>?_,λf l d v Q A z C=>e.rv f l d v Q A z ((Fr.grow Y).trans (fall.trans C))⟩
  ·exact⟨_,A,(z.clr L).1,(fall.trans C).trans (z.clr L).2⟩
  ·exact⟨_,A,(z.clr L).1,(fall.trans C).trans (z.clr L).2⟩
 ·have:i=n:=by lia
  subst this;exact .inl ⟨ok.stop H' _ (Later.of e' f'),e.nx s b H' (hd b U) e' ((Fr.grow Y).trans f')⟩
noncomputable def S.fix:S->Bool
 | .bor _=>true | .sh _=>true | .own (.nsl _ _)=>false | .own (.vls _ _ _ _)=>false | .own _=>true|_=>false
noncomputable def pIL(a:PTE):PTI:=λγ R X=>a γ (λs=>match s.d with
 | .lst f=>s.fix=true/\R f.length λi=>s.sub (f.getD i .non)
 | .scr b=>s.fix=true/\R b.length λi=>.sh (.int<|b.getD i 0)
 |_=>False) X
def TV.last (env:JW K H0 B H σ γ) (G:Same H H1) (tv:TV K (zof B γ σ) H0 H H1 s v) (z:s.fix=true) (g:s.d=.lst ds):∃l vs,v=.ref l/\vs.length=ds.length/\
  ∀H' Z',Later H0 (zof B γ σ) H1 Z' H'->H' l=some (.lst vs)/\∀(i:Nat) d,ds[i]?=some d->∃u,vs[i]?=some u/\TV K Z' H0 H' H' (s.sub d) u:=by
 have b:∀{s:S},(∀d,s.sub d=.sh d)->Rp K (Pu.off (zof B γ σ) H1) (.lst ds) v->∃l vs,v=.ref l/\vs.length=ds.length/\
   ∀H' Z',Later H0 (zof B γ σ) H1 Z' H'->H' l=some (.lst vs)/\∀i d,ds[i]?=some d->∃u,vs[i]?=some u/\TV K Z' H0 H' H' (s.sub d) u:=λJ h=>by
  obtain⟨l,vs,rfl,w,f⟩:=Rp.lst_inv h;refine⟨l,vs,rfl,f.len,λH' Z' lt=>⟨off_sub _ _ (lt.off _ _ w),λi d n=>?_⟩⟩;obtain⟨u,r,o⟩:=f.get n;refine⟨u,r,?_⟩;rw[J];exact Rp.mono lt.off o
 cases s with
 |bor d=>
  have tv:=Rp.strip tv;rw[show d.strip=.lst ds from g]at tv
  obtain⟨l,vs,rfl,w,f⟩:=Rp.lst_inv tv;refine⟨l,vs,rfl,f.len,λH' Z' lt=>⟨lt.1 _ _ w,λi d n=>?_⟩⟩;obtain⟨u,r,o⟩:=f.get n;exact⟨u,r,KM lt.2.1 lt.1 o⟩
 |sh d=>
  have:=g
  subst this;exact b (λ_=>rfl) tv
 |own y=>
  cases y with
  |dK y|dT y|ins x C xs A|nst A=>cases g
  |nsl a A|vls a C xs L=>cases z
  |_=>
   cases g
   exact b (λ_=>rfl) (tv.shd (env.grow G).same env.zm G rfl)
 |_=>cases z
def Ln(ha:JR K mg E te a):SndI K mg E (Nh K te) (pIL a):=by
 intro H0 B H σ γ R X Q g h q qx;refine ha H0 B H σ γ _ X _ g h (λs v H1 o L n=>?_) qx;have b:=g.grow L;split at o
 ·rename_i U A;obtain⟨l,C,rfl,hn,f⟩:=n.last g L o.1 A;obtain⟨M,_⟩:=f H1 _ (Later.of b Fr.refl);refine⟨l,rfl,⟨C,SqL.of M⟩,q _ _ _ H1 o.2 L ⟨λi H' Z' J lt=>?_,λH' Z' lt=>?_⟩⟩
  ·obtain⟨r,k2⟩:=f H' Z' lt;have hd:U[i]?=some (U.getD i .non):=by rw[Wr,Wa J];rfl
   obtain⟨u,w,Y⟩:=k2 i _ hd;refine⟨⟨C,u,SqL.of r,w⟩,λx N y=>?_⟩;obtain⟨rfl,y⟩:=y
   have:=y C (SqL.of r)
   rw[w]at this;cases this
   exact⟨Same.refl _,Y⟩
  ·exact⟨C,SqL.of (f H' Z' lt).1,by lia⟩
 ·rename_i G A
  have z:∃l,v=.ref l/\∀H' Z',Later H0 (zof B γ σ) H1 Z' H'->SqL K H' l (G.map V.int):=by
   cases s with
   |bor d=>
    have n:=Rp.strip n;rw[show d.strip=.scr G from A]at n
    cases n with
    |scr z=>exact⟨_,rfl,λH' Z' lt=>lt.1.seq z⟩
   |sh d=>
    have:=A
    subst this;cases n with
    |scr z=>exact⟨_,rfl,λH' Z' lt=>off_sub.seq (lt.off.seq z)⟩
   |own T|view T=>cases T<;>cases A
   |tmp d=>cases o.1
  obtain⟨l,rfl,f⟩:=z;refine⟨l,rfl,⟨_,f H1 _ (Later.of b Fr.refl)⟩,q _ _ _ H1 o.2 L ⟨λi H' Z' J lt=>?_,λH' Z' lt=>?_⟩⟩
  ·have r:=f H' Z' lt
   have w:(G.map V.int)[i]?=some (.int<|G.getD i 0):=by
    rw[Wh,Wa J,Wr,Wa J];rfl
   refine⟨⟨_,_,r,w⟩,λx N y=>?_⟩;obtain⟨rfl,y⟩:=y
   have:=y _ r
   rw[w]at this;cases this
   exact⟨Same.refl _,.int _⟩
  ·exact⟨_,f H' Z' lt,by rw[YU];exact Wf _⟩
 ·exact o.elim
def fR1(R:Nat->(Nat->S)->Prop):List D->Prop
 |[.int j]=>(-(2 ^ 62)<=j/\j<2 ^ 62)/\R j.toNat λi=>.sh (.int (0+(i:Int)))
 |_=>False
noncomputable def D5(r:PTA):PTI:=λγ R X=>r γ (λb=>fR1 R (b.map S.d)) X
def Rps.one_inv (h:Rps K H [d] vs):∃v,vs=[v]/\Rp K H d v:=by
 cases h with
 |cons h r=>cases r;exact⟨_,rfl,h⟩
def Rps.two_inv (h:Rps K H [d,e] vs):∃v u,vs=[v,u]/\Rp K H d v/\Rp K H e u:=by
 cases h with
 |cons h r=>cases r with|cons b r=>cases r;exact⟨_,_,rfl,h,b⟩
def LZ{lo n}:Au K H0 B H1 σ γ (Itr lo n) n λi=>.sh (.int (lo+(i:Int))):=by
 refine⟨λi H' Z' b lt=>⟨b,λx f y=>?_⟩,λH' Z' lt=>Wf _⟩;obtain⟨e,y⟩:=y;subst e y;exact⟨Same.refl _,.int _⟩
def NX(x:U3 K mg E n r):SndI K mg E (DU n) (D5 r):=by
 intro H0 B H σ γ R X Q f h q w;refine x H0 B H σ γ _ X _ f h (λA z H1 b l o=>?_) w;have g:=o.rps (f.grow l).same;unfold fR1 at b;split at b
 ·rename_i j y;rw[y]at g;obtain⟨v,rfl,s⟩:=g.one_inv;rw[s.int_inv];exact⟨j,rfl,b.1.1,b.1.2,q _ _ _ H1 b.2 l LZ⟩
 ·grind
structure A8 (js:Yc) (γ:Γ) (c:PTT) (body:PTS) (R:XH):Prop where
 w:∃(inv:Γ->Prop) (μ:Γ->Nat),inv (clr js γ)/\∀γ',inv γ'->c γ' (λb=>if b=true then
  body {R with nx:=λγ3=>inv (clr js γ3)/\μ (clr js γ3)<μ γ',ct:=λγ3=>inv (clr js γ3)/\μ (clr js γ3)<μ γ',bk:=R.nx} γ' else R.nx γ') (R.ex γ')
noncomputable def Da(b:Yc)(c:PTT)(body:PTS):PTS:=λR γ=>A8 b γ c body R
def HD(z:Yc)(J:UG K mg E tt c)(hb:Ui K mg E t p):Ui K mg E (Ck tt t) (Da z c p):=by
 intro H0 B H σ γ R D hB C h e;obtain⟨inv,G,h0,hs⟩:=h.w;refine⟨λm l H'=>∃f,m=G f/\inv f/\JW K H0 B H' l f/\Fr B H σ γ H' l f,⟨_,_,rfl,h0,(C.clr z).1,(C.clr z).2⟩,?_⟩;rintro m l H' ⟨f,rfl,hi,L,T⟩;refine J H0 B H' l f _ _ _ L (hs f hi) (λb H1 Q Y=>?_) λc N J S'=>e.ex l f c N J (L.grow S') (T.trans<|Fr.grow S');have U:=L.grow Y;have f1:=T.trans (Fr.grow Y);cases b with
 |false=>
  exact e.nx l f H1 Q U f1
 |true=>
  refine⟨λy M=>∃o,G o<G f/\inv o/\JW K H0 B M y o/\Fr B H σ γ M y o,λy M ⟨o,k,a1,a2,a3⟩=>⟨_,k,o,rfl,a1,a2,a3⟩,?_⟩;refine hb H0 B H1 l f _ _ hB U Q ⟨λg n A r s x=>?_,e.rt,λg n c A r s x=>e.ex g n c A r s (f1.trans x),λg n A r s x=>e.nx g n A r s (f1.trans x),λg n A r s x=>?_,λg n d v A r s x=>e.rv g n d v A r s (f1.trans x)⟩
  ·exact⟨_,r.2,r.1,(s.clr z).1,(f1.trans x).trans (s.clr z).2⟩
  ·exact⟨_,r.2,r.1,(s.clr z).1,(f1.trans x).trans (s.clr z).2⟩
end
section
variable {K:ZV}{mg:ZZ}{E:L2.St->XK}{H0 H H1 H':Hp}{B Z Z':Addr->Prop}{σ:L2.St}{γ:Γ}
noncomputable def Ky(N:Ye)(ds:List D):Γ:=ds.map (λd=>some (arg d))++List.replicate (N.length-ds.length) none
def Za0{ds vs}(r:Rps K H ds vs)(w:ds.length<=N.length):JW K H (λb=>Mut (H b)) H (start N vs) (Ky N ds):=by
 have get:∀i s,(Ky N ds)[i]?=some (some s)->∃d,ds[i]?=some d/\s=arg d:=λi s h=>by
  unfold Ky at h;by_cases g:i<ds.length
  ·rw[W1 (by rw[YU];exact g),Wh,Wa g]at h;exact⟨_,Wa g,(Wg<|Wg h).symm⟩
  ·rw[W5 (by rw[YU];lia),QN]at h;split at h<;>cases h
 have noown:∀(i:Nat) f,(Ky N ds)[i]?≠some (some<|.own f):=λi f h=>by
  obtain⟨d,_,e⟩:=get i _ h;rcases Nw d with q|q<;>rw[q]at e<;>cases e
 refine⟨Same.refl _,?_,λb h=>h,λi j a x f u b h=>absurd h (noown i f),λi s h=>?_⟩
 ·unfold L2.start Ky;simp[r.len]
 ·obtain⟨d,p,rfl⟩:=get i s h;obtain⟨v,l,n⟩:=r.get p;refine⟨v,?_,?_⟩
  ·unfold L2.start;rw[W1 (by rw[YU];exact(Wp.mp l).1),Wh,l];rfl
  ·have tv:=KM (Z:=zof (λb=>Mut (H b)) (Ky N ds) (start N vs)) (H:=H) (λb z=>z.elim id λ⟨k,f,_,o,_⟩=>absurd o (noown k f)) (Same.refl _) n;rcases Nw d with q|q<;>rw[q]at tv ⊢<;>exact tv
def ET{t p vs Q x n}(h:Ue mg c K vs H Q x)(o:Ui K mg (λ_=>x) t p)(G:n<=N.length)(q:∀ds R X,c ds R X->ds.length=n/\p {nx:=λ_=>R (.sh .non),rt:=R,ex:=λ_ e=>X e} (Ky N ds)):t {nx:=λ_ H'=>Q .non H',rt:=Q} (start N vs) H:=by
 obtain⟨ds,R,X,r,y,w,A⟩:=h;obtain⟨e,q⟩:=q ds R X y;refine o H (λb=>Mut (H b)) H _ _ _ _ (λb z=>XB z) (Za0 r<|by lia) q ⟨λg l H' f u f1=>w _ _ H' f u.same .non,λs v H' f C tv=>w s v H' f C tv,λg l c H' f u f1=>A c H' f u.same,λ_ _ _ z=>z.elim,λ_ _ _ z=>z.elim,λ_ _ _ _ _ z=>z.elim⟩
def Ie(h:Ue mg c K vs H Q g)(b:∀ds R X,c ds R X->ds.length=n):vs.length=n:=by
 obtain⟨ds,R,X,r,f,_⟩:=h;rw[r.len]
 grind
noncomputable def atP(φ:Yb)(γ:Γ):Γ:=φ.map λo=>o.bind λj=>(γ[j]?).join
structure NR (φ:Yb) (γ:Γ) (g:PTG) (c:PTT) (e:PTE) (n:Nat) (item:Nat->S) (R:S->Prop):Prop where
 w:n<=100000/\∃f:Nat->Option D,(∀i,i<n->g (item i) (atP φ γ) λγ2=>c γ2 (λb=>if b=true then e γ2 (λs=>∃d,s.shd=some d/\f i=some d) (λ_=>False)else f i=none) (λ_=>False))/\R (.own ((List.range n).filterMap f))
noncomputable def SR(φ:Yb)(b:PTI)(g:PTG)(c:PTT)(e:PTE):PTE:=λγ R X=>b γ (λn item=>NR φ γ g c e n item R) X
def Kj{i:Nat}{s}(h:(atP φ γ)[i]?=some (some s)):∃j,φ[i]?=some (some j)/\γ[j]?=some (some s):=by
 unfold atP at h;cases e:φ[i]? with
 |none=>grind
 |some o=>
  cases o with
  |_=>grind
theorem TJ:∀{φ:Yb},(φ.filterMap id).Nodup->∀(i j k:Nat),φ[i]?=some (some k)->φ[j]?=some (some k)->i=j
 |[],_,i,_,_,h,_=>by simp at h
 |none::r,l,i,j,k,f,b=>by
  cases i with
  |zero=>simp at f
  |succ i=>
   cases j with
   |zero=>simp at b
   |succ j=>exact W2 (· + 1) (TJ (by simpa using l) i j k (by simpa using f)<|by simpa using b)
 |some m::r,l,i,j,k,f,b=>by
  have g:m∉r.filterMap id/\(r.filterMap id).Nodup:=by simpa using l
  have mem:∀{j:Nat},r[j]?=some (some k)->k∈r.filterMap id:=λh=>Vo.mpr ⟨some k,Wj h,rfl⟩;cases i with
  |zero=>
   cases j with
   |zero=>rfl
   |succ j=>simp_all
  |succ i=>
   cases j with
   |zero=>simp_all
   |succ j=>exact W2 (· + 1) (TJ g.2 i j k (by simpa using f)<|by simpa using b)
def Kd{i j:Nat}(f:φ[i]?=some (some j)){v}(b:σ[j]?=some (some v)):(atStart φ σ)[i]?=some (some v):=by
 unfold atStart
 grind
def Ds{L}(env:JW K H0 B H σ γ)(r:H L=none):∀b o,H b=some o->¬zof B γ σ b->¬zof (λb=>zof B γ σ b\/b=L) (atP φ γ) (atStart φ σ) b:=λb o u z y=>by
 rcases y with(y|y)|⟨s,q,x,n,f,l⟩
 ·grind
 ·grind
 ·obtain⟨m,p,h⟩:=Kj n;obtain⟨w,g,_⟩:=env.slot m _ h;rw[Kd p g]at f;exact z (.inr ⟨m,q,x,h,by rw[g];exact W2 some (Wg f),l⟩)
def Rv{L}(env:JW K H0 B H σ γ)(n:Same H H')(M:H L=none)(N:∃r,H' L=some (.lst r))(q:(φ.filterMap id).Nodup) :
  JW K H0 (λb=>zof B γ σ b\/b=L) H' (atStart φ σ) (atP φ γ):=by
 refine⟨env.same.trans n,by unfold atStart atP;simp,λb z=>?_,λi j a a' G es b h1 Y U C T Q=>?_,λi s h=>?_⟩
 ·rcases z with z|rfl
  ·exact XG n (env.zm b z)
  ·obtain⟨r,e⟩:=N;rw[e];trivial
 ·obtain⟨k,g,f⟩:=Kj h1;obtain⟨l,A,y⟩:=Kj Y;obtain⟨v,p,_⟩:=env.slot k _ f;obtain⟨u,w,_⟩:=env.slot l _ y;rw[Kd g p]at U;rw[Kd A w]at C
  have:=env.own k l a a' G es b f y (by grind) (by rw[w];exact W2 some (Wg C)) T Q
  subst this;exact TJ q i j k g A
 ·obtain⟨k,g,f⟩:=Kj h;obtain⟨v,p,o⟩:=env.slot k _ f;have J:Same (off (zof B γ σ) H) (off (zof (λb=>zof B γ σ b\/b=L) (atP φ γ)<|atStart φ σ) H'):=Ug n (Ds env M);refine⟨v,Kd g p,?_⟩;cases s with
  |sh d=>exact Rp.mono J o
  |own G=>
   obtain⟨a,e1,e3,e4⟩:=o;exact⟨a,e1,e3,e4.mono J λb _ x=>n b x⟩
  |_=>exact o
def Sub.of {is:Yc} (f:b.length=σ.length) (h:∀j,j∉is->b[j]?=σ[j]?) (l:∀j∈is,∀v,σ[j]?≠some (some v)):Sub σ b:=⟨f,λi v e=>by
 by_cases g:i∈is
 ·grind
 ·rw[h i g];exact e⟩
structure GG (K:ZV) (H0:Hp) (B:Addr->Prop) (H1:Hp) (σ:L2.St) (γ:Γ) (J:It) (n:Nat) (item:Nat->S):Prop where
 go:∀(i:Nat) (H':Hp) (Z':Addr->Prop),i<n->Same H1 H'->Later H0 (zof B γ σ) H1 Z' H'->J.go i H'/\∀x H'',J.yld i H' x H''->Same H' H''/\TV K Z' H0 H' H'' (item i) x
 stop:∀(H':Hp) (Z':Addr->Prop),Same H1 H'->Later H0 (zof B γ σ) H1 Z' H'->J.stop n H'
def P7(K:ZV)(mg:ZZ)(E:L2.St->XK)(b:TI)(f:PTI):Prop:=∀(H0:Hp) (B:Addr->Prop) (H:Hp) (σ:L2.St) (γ:Γ) (R:Nat->(Nat->S)->Prop) (X:XR) (Q:It->Hp->Prop),JW K H0 B H σ γ->f γ R X->
 (∀n item J H1,R n item->Same H H1->GG K H0 B H1 σ γ J n item->Q J H1)->(∀c H',X c->Same H H'->XE mg (E σ) c H')->b σ H Q
def SndI.c (h:SndI K mg E f l):P7 K mg E f l:=λH0 B H σ γ R X Q b p q g=>
 h H0 B H σ γ R X Q b p (λn item J H1 r s ok=>q n item J H1 r s ⟨λi H' Z' o _ lt=>ok.go i H' Z' o lt,λH' Z' _ lt=>ok.stop H' Z' lt⟩) g
noncomputable def F9(a:PTE):PTI:=λγ R X=>a γ (λs=>match s.d with
 | .lst b=>R b.length λi=>s.sub (b.getD i .non)
 | .tup b=>False
 | .scr f=>R f.length λi=>.sh (.int<|f.getD i 0)
 |_=>False) X
def Fj(ha:JR K mg E te a):P7 K mg E (Nh K te) (F9 a):=by
 intro H0 B H σ γ R X Q env h q qx;refine ha H0 B H σ γ _ X _ env h (λs v H1 h1 S1 A=>?_) qx;have M:=env.grow S1;split at h1
 ·rename_i ds G;have Y:=A.rp M.same;rw[G]at Y;obtain⟨l,U,rfl,f,r1⟩:=Y.lst_inv;refine⟨l,rfl,⟨U,SqL.of f⟩,q _ _ _ H1 h1 S1 ⟨λi H' Z' hi J lt=>?_,λH' Z' J lt=>⟨U,SqL.of (J _ _ f),by rw[r1.len];exact Wf _⟩⟩⟩;have N:ds[i]?=some (ds.getD i .non):=by rw[Wr,Wa hi];rfl
  have hi':∃u,U[i]?=some u/\TV K Z' H0 H' H' (s.sub<|ds.getD i .non) u:=by
   cases s with
   |bor d=>
    have A:=Rp.strip A;rw[show d.strip=.lst ds from G]at A
    obtain⟨T,o,w,r,p⟩:=Rp.lst_inv A;cases w
    rw[M.same _ _ r]at f;cases f
    obtain⟨u,n,g⟩:=p.get N;exact⟨u,n,KM lt.2.1 lt.1 g⟩
   |sh d=>
    have:=G
    subst this;obtain⟨T,o,w,r,p⟩:=Rp.lst_inv A;cases w
    rw[off_sub _ _ r]at f;cases f
    obtain⟨u,n,g⟩:=p.get N;exact⟨u,n,Rp.mono lt.off g⟩
   |own L=>
    cases L with
    |dK L|dT L|ins x C xs cs|nst cs=>cases G
    |nsl x cs|vls x C xs ws=>
     obtain⟨u,n,g⟩:=r1.get N;exact⟨u,n,Xx lt.2.1 (Rp.mono J g)⟩
    |lsA x L=>
     cases G
     obtain⟨T,w,h0,_,o,r,p⟩:=A;cases w
     rw[r]at f;cases f
     obtain⟨u,n,g⟩:=p.get N;exact⟨u,n,Rp.mono lt.off (Rp.mono (Ug (Same.refl _) λb _ _ z y=>z (.inl y)) g)⟩
    |lst L=>
    cases G
    obtain⟨T,w,h0,o,r,p⟩:=A;cases w
    rw[r]at f;cases f
    obtain⟨u,n,g⟩:=p.get N;exact⟨u,n,Rp.mono lt.off (Rp.mono (Ug (Same.refl _) λb _ _ z y=>z (.inl y)) g)⟩
   |view L=>
    cases L with
    |dK L|dT L|ins x C xs cs|nst cs=>cases G
    |nsl x cs|vls x C xs ws=>
     obtain⟨u,n,g⟩:=r1.get N;exact⟨u,n,Xx lt.2.1 (Rp.mono J g)⟩
    |lsA x L=>
     cases G
     obtain⟨T,w,_,o,r,p⟩:=A;cases w
     rw[r]at f;cases f
     obtain⟨u,n,g⟩:=p.get N;exact⟨u,n,Rp.mono lt.off g⟩
    |lst L=>
    cases G
    obtain⟨T,w,o,r,p⟩:=A;cases w
    rw[r]at f;cases f
    obtain⟨u,n,g⟩:=p.get N;exact⟨u,n,Rp.mono lt.off g⟩
   |tmp d=>
    have:=G
    subst this;obtain⟨T,o,w,r,p⟩:=Rp.lst_inv A;cases w
    rw[r]at f;cases f
    obtain⟨u,n,g⟩:=p.get N;exact⟨u,n,Xx lt.2.1 (Rp.mono J g)⟩
  obtain⟨u,hu,tu⟩:=hi';refine⟨⟨U,u,SqL.of (J _ _ f),hu⟩,λx H'' y=>?_⟩;obtain⟨rfl,y⟩:=y
  have:=y U (SqL.of<|J _ _ f)
  rw[hu]at this;cases this
  exact⟨Same.refl _,tu⟩
 ·exact h1.elim
 ·rename_i ns G;have Y:=A.rp M.same;rw[G]at Y;cases Y with
  |scr hs=>
   refine⟨_,rfl,⟨_,hs⟩,q _ _ _ H1 h1 S1 ⟨λi H' Z' hi J lt=>?_,λH' Z' J lt=>⟨_,J.seq hs,by rw[YU];exact Wf _⟩⟩⟩
   have hu:(ns.map V.int)[i]?=some (.int<|ns.getD i 0):=by
    rw[Wh,Wa hi,Wr,Wa hi];rfl
   refine⟨⟨_,_,J.seq hs,hu⟩,λx H'' y=>?_⟩;obtain⟨rfl,y⟩:=y
   have:=y _ (J.seq hs)
   rw[hu]at this;cases this
   exact⟨Same.refl _,.int _⟩
 ·exact h1.elim
def Nd{φ is wi g tc te it pg c a}(hi:P7 K mg E wi it)(hg:Ki K is g pg)(hc:UG K mg E tc c)(he:JR K mg E te a)(h1:autoParam ((φ.filterMap id).Nodup) au_1)(h2:autoParam (∀j∈is,φ[j]?=some none) au_1):JR K mg E (Pn φ wi g tc te) (SR φ it pg c a):=by
 intro H0 B H σ γ R X Q env h q qx;refine hi H0 B H σ γ _ X _ env h (λn item J H1 h1' S1 ok=>?_) qx;obtain⟨hn,f,hf,hR⟩:=h1'.w;have l:=env.grow S1;have hbig:n<=sizeLine:=Wi hn (by decide);intro L U;refine⟨λi m G C=>m=n-i/\i<=n/\Same H1 C/\C L=some (.lst G)/\Rps K (off (λb=>zof B γ σ b\/b=L) C) ((List.range i).filterMap f) G,⟨n,by simp,WX _,UB U,Um,.nil⟩,?_⟩;rintro i m G C ⟨rfl,hin,u,hL,p⟩;have A:=l.grow u;by_cases r:i<n
 ·have envI2:=Rv l u U ⟨G,hL⟩ h1;obtain⟨go,yl⟩:=ok.go i C _ r u ⟨A.same,envI2.zm,λb o Y z=>⟨u _ _ Y,Ds l U b o Y z⟩⟩;refine .inr ⟨go,λx H3 y=>?_⟩;obtain⟨S3,tv⟩:=yl x H3 y;refine hg H0 _ C H3 _ _ _ _ _ _ envI2 S3 tv (hf i r) λN T p2 e2 f2 k2=>⟨?_,?_⟩
  ·refine Sub.of k2.2 k2.1 λj hj v z=>?_;obtain⟨k,k1,_⟩:=B3 z;rw[h2 j hj]at k1;cases k1
  ·refine hc H0 _ H3 N T _ _ _ e2 p2 (λb H5 q5 S5=>?_) λ_ _ z=>z.elim;have e5:=e2.grow S5;cases b with
   |false=>
    rw[YV Wn]at q5 ⊢;refine⟨n-(i+1),by lia,rfl,r,(u.trans S3).trans S5,(S3.trans S5) _ _ hL,?_⟩;rw[List.range_succ,Q2];simp only[WZ,q5,List.filterMap_nil,WC];exact Rps.mono (Ug (S3.trans S5) λ_ _ _ z=>z) p
   |true=>
    refine he H0 _ H5 N T _ _ _ e5 q5 (λs v H6 q6 S6 t6=>?_) λ_ _ z=>z.elim;obtain⟨d,hd,hfd⟩:=q6;have M:=(S3.trans S5).trans S6
    have hlen:G.length<=i:=by
     rw[p.len];exact Wi (QI _ _) (by rw[Vu];exact Wf _)
    refine⟨M _ _ hL,by lia,n-(i+1),by lia,rfl,r,λb o Y=>?_,Um,?_⟩
    ·rw[JX (UF Y U)];exact M _ _ (u _ _ Y)
    ·rw[List.range_succ,Q2];have ef:[i].filterMap f=[d]:=by simp[hfd]
     rw[ef]
     have So:Same (off (λb=>zof B γ σ b\/b=L) H6) (off (λb=>zof B γ σ b\/b=L)<|upd H6 L<|.lst (G++[v])):=λb o h=>by
      obtain⟨a1,a2⟩:=Xp h;refine U2 ?_ a2;rwa[JX λz=>a2 (.inr z)]
     refine Rps.append (Rps.mono So<|Rps.mono (Ug M λ_ _ _ z=>z) p) (.cons (Rp.mono So<|Rp.mono (Ug (Same.refl _) λb _ _ z y=>z (.inl y)) (t6.shd (e5.grow S6).same e5.zm S6 hd)) .nil)
 ·have:i=n:=by lia
  subst this;exact .inl ⟨ok.stop C _ u (Later.of A<|Fr.grow u),q _ _ C hR (S1.trans u) ⟨L,rfl,(λ_ e=>e▸S1.free U),G,hL,p⟩⟩
noncomputable def FH:PTT:=λ_ R _=>R true
def Bh:UG K mg E Az FH:=λ_ _ H _ _ _ _ _ _ p q _=>q _ H p (Same.refl _)
def MB{b g:Type}(xs:List b)(f:b->Option g):(List.range xs.length).filterMap (λi=>(xs[i]?).bind f)=xs.filterMap f:=by
 induction xs with
 |nil=>rfl
 |cons x r h=>
  rw[Qp,List.range_succ_eq_map,WZ,List.filterMap_map,WZ];have e:(λi=>((x::r)[i]?).bind f)∘Nat.succ=λi=>(r[i]?).bind f:=rfl;rw[e,h];rfl
end
open M
section
variable {K:ZV}{mg:ZZ}{E:L2.St->XK}{H0 H H1 H':Hp}{B Z Z':Addr->Prop}{σ:L2.St}{γ:Γ}
noncomputable def pCB(f:List S->(S->Prop)->Prop)(r:PTA):PTE:=λγ R X=>r γ (λb=>f b R) X
def Nk{f o r}(y:U3 K mg E o r)(h:∀H0 H H1 Z l vs R Q,Same H0 H1->Same H H1->(∀b,Z b->Mut (H b))->TVs K Z H0 H H1 l vs->f l R->(∀s z H',R s->Same H1 H'->TV K Z H0 H H' s z->Q z H')->v vs H1 Q) :
  JR K mg E (tCB v o) (pCB f r):=by
 intro H0 B H σ γ R X Q g p q w;refine y H0 B H σ γ _ X _ g p (λl vs H1 A n u=>?_) w;exact h H0 H H1 _ l vs R Q (g.grow n).same n g.zm u A λs z H' x C tv=>q s z H' x (n.trans C) tv
noncomputable def S.free:S->List D->Bool
 | .bor _,b=>Xd b | .tmp _,b=>Xd b | .view (.nst _),b=>Xd b | .view (.nsl _ _),b=>Xd b | .view (.vls _ _ _ _),b=>Xd b|_,_=>true
def TVs.one_inv (h:TVs K Z H0 H H' [s] vs):∃v,vs=[v]/\TV K Z H0 H H' s v:=by
 cases h with
 |cons h r=>cases r;exact⟨_,rfl,h⟩
def TVs.two_inv (h:TVs K Z H0 H H' [s,t] vs):∃v u,vs=[v,u]/\TV K Z H0 H H' s v/\TV K Z H0 H H' t u:=by
 cases h with
 |cons h r=>cases r with|cons b r=>cases r;exact⟨_,_,rfl,h,b⟩
def TV.items (n:Same H0 H') (q:∀b,Z b->Mut (H b)) (A:Same H H') (h:TV K Z H0 H H' s v) (p:s.free ds=true) :
  (s.d=.lst ds->∃a vs,v=.ref a/\H' a=some (.lst vs)/\Rps K (off Z H') ds vs)/\(s.d=.tup ds->∃a vs,v=.ref a/\H' a=some (.tup vs)/\Rps K (off Z H') ds vs):=by
 have g:=λb z=>XG A (q b z);cases s with
 |bor d=>
  have h:=Rp.strip h;refine⟨λe=>?_,λe=>?_⟩<;>rw[show d.strip=_ from e]at h
  ·obtain⟨a,vs,rfl,f,r⟩:=Rp.lst_inv h;exact⟨a,vs,rfl,n _ _ f,Rps.off g (Rps.mono n r) p⟩
  ·obtain⟨a,vs,rfl,f,r⟩:=Rp.tup_inv h;exact⟨a,vs,rfl,n _ _ f,Rps.off g (Rps.mono n r) p⟩
 |sh d=>
  refine⟨λe=>?_,λe=>?_⟩<;>(have u:=e;subst u)
  ·obtain⟨a,vs,rfl,f,r⟩:=Rp.lst_inv h;exact⟨a,vs,rfl,off_sub _ _ f,r⟩
  ·obtain⟨a,vs,rfl,f,r⟩:=Rp.tup_inv h;exact⟨a,vs,rfl,off_sub _ _ f,r⟩
 |own o=>
  cases o with
  |nsl x w|vls x C xs G=>
   refine⟨λe=>?_,λe=>by cases e⟩;have l:=h.shd n q A rfl;cases e
   obtain⟨a,vs,rfl,f,r⟩:=Rp.lst_inv l;exact⟨a,vs,rfl,off_sub _ _ f,r⟩
  |nst w=>
   refine⟨(λe=>by cases e),λe=>?_⟩;have l:=h.shd n q A rfl;cases e
   obtain⟨a,vs,rfl,f,r⟩:=Rp.tup_inv l;exact⟨a,vs,rfl,off_sub _ _ f,r⟩
  |lst o=>
   refine⟨λe=>?_,λe=>by cases e⟩;cases e
   obtain⟨a,rfl,J,vs,e,r⟩:=h;exact⟨a,vs,rfl,e,Rps.mono (Ug (Same.refl _) λb _ _ z y=>z (.inl y)) r⟩
  |lsA x o=>
   refine⟨λe=>?_,λe=>by cases e⟩;cases e
   obtain⟨a,rfl,J,_,vs,e,r⟩:=h;exact⟨a,vs,rfl,e,Rps.mono (Ug (Same.refl _) λb _ _ z y=>z (.inl y)) r⟩
  |_=>exact⟨(λe=>by cases e),(λe=>by cases e)⟩
 |view o=>
  cases o with
  |nsl x w|vls x C xs G=>
   refine⟨λe=>?_,λe=>by cases e⟩;have l:=h.rp n;rw[e]at l;obtain⟨a,vs,rfl,f,r⟩:=Rp.lst_inv l;exact⟨a,vs,rfl,f,Rps.off g r p⟩
  |nst w=>
   refine⟨(λe=>by cases e),λe=>?_⟩;have l:=h.rp n;rw[e]at l;obtain⟨a,vs,rfl,f,r⟩:=Rp.tup_inv l;exact⟨a,vs,rfl,f,Rps.off g r p⟩
  |lst o=>
   refine⟨λe=>?_,λe=>by cases e⟩;cases e
   obtain⟨a,rfl,vs,e,r⟩:=h;exact⟨a,vs,rfl,e,r⟩
  |lsA x o=>
   refine⟨λe=>?_,λe=>by cases e⟩;cases e
   obtain⟨a,rfl,_,vs,e,r⟩:=h;exact⟨a,vs,rfl,e,r⟩
  |_=>exact⟨(λe=>by cases e),(λe=>by cases e)⟩
 |tmp d=>
  refine⟨λe=>?_,λe=>?_⟩<;>(have u:=e;subst u)
  ·obtain⟨a,vs,rfl,f,r⟩:=Rp.lst_inv h;exact⟨a,vs,rfl,f,Rps.off g r p⟩
  ·obtain⟨a,vs,rfl,f,r⟩:=Rp.tup_inv h;exact⟨a,vs,rfl,f,Rps.off g r p⟩
def SA:List S->(S->Prop)->Prop
 |[s],R=>(match s.d with
  | .lst f=>R (.sh<|.int f.length) | .tup f=>R (.sh<|.int f.length) | .scr b=>R (.sh<|.int b.length) | .fL b=>R (.sh<|.int b.length) | .str x=>x.length<=sizeLine/\R (.sh<|.int x.length)|_=>False)
 |_,_=>False
def Eb(z:U3 K mg E p r):JR K mg E (tCB (λxs H Q=>∃x n,xs=[x]/\TR K x H n/\Q (.int n) H) p) (pCB SA r):=by
 refine Nk z λH0 H H1 Z G C R Q w J L tv h q=>?_;unfold SA at h;split at h
 ·rename_i s;obtain⟨v,rfl,u⟩:=tv.one_inv;have b:=u.rp w;split at h
  ·rename_i A e;rw[e]at b;obtain⟨a,f,rfl,o,g⟩:=b.lst_inv;exact⟨_,_,rfl,.inl ⟨f,SqL.of o,rfl⟩,by rw[g.len];exact q _ _ H1 h (Same.refl _) (.int _)⟩
  ·rename_i A e;rw[e]at b;obtain⟨a,f,rfl,o,g⟩:=b.tup_inv;exact⟨_,_,rfl,.inr ⟨f,SqT.of o,rfl⟩,by rw[g.len];exact q _ _ H1 h (Same.refl _) (.int _)⟩
  ·rename_i y e;rw[e]at b;cases b with
   |scr l=>exact⟨_,_,rfl,.inl ⟨_,l,rfl⟩,by rw[YU];exact q _ _ H1 h (Same.refl _) (.int _)⟩
  ·rename_i y e;rw[e]at b;cases b with
   |fL l=>exact⟨_,_,rfl,.inl ⟨_,.inl (.inr ⟨_,l⟩),rfl⟩,by rw[YU];exact q _ _ H1 h (Same.refl _) (.int _)⟩
  ·rename_i x e;rw[e]at b;rw[b.str_inv];exact⟨_,_,rfl,⟨h.1,rfl⟩,q _ _ H1 h.2 (Same.refl _) (.int _)⟩
  ·exact h.elim
 ·exact h.elim
def Ac:List S->(S->Prop)->Prop
 |[s],R=>(match s.d with
  | .lst b=>s.free b=true/\R (.own b) | .tup b=>s.free b=true/\R (.own b)|_=>False)
 |_,_=>False
def Tz(A:U3 K mg E z r):JR K mg E (tCB (λxs H Q=>∃p g,xs=[.ref p]/\(SqL K H p g\/SqT K H p g)/\∀l,H l=none->Q (.ref l) (upd H l<|.lst g)) z) (pCB Ac r):=by
 refine Nk A λH0 H H1 Z J G R Q x f y tv h q=>?_;unfold Ac at h;split at h
 ·rename_i s;obtain⟨v,rfl,w⟩:=tv.one_inv;split at h
  ·rename_i C e;obtain⟨a,n,rfl,u,o⟩:=(w.items x y f h.1).1 e;exact⟨a,n,rfl,.inl (SqL.of u),λl b=>q _ _ _ h.2 (UB b) (K9 f b o)⟩
  ·rename_i C e;obtain⟨a,n,rfl,u,o⟩:=(w.items x y f h.1).2 e;exact⟨a,n,rfl,.inr (SqT.of u),λl b=>q _ _ _ h.2 (UB b) (K9 f b o)⟩
  ·grind
 ·grind
theorem Rps.ints:∀{b:ZX}{vs:List V},Rps K H (b.map D.int) vs->vs=b.map V.int
 |[],_,.nil=>rfl
 |j::r,_,.cons h t=>by rw[Rp.int_inv h,Rps.ints t];rfl
theorem Rps.of_ints:∀(b:ZX),Rps K H (b.map D.int) (b.map V.int)
 |[]=>.nil
 |j::r=>.cons (.int j) (Rps.of_ints r)
def FB:List S->(S->Prop)->Prop
 |[s],R=>∃f:ZX,s.d=.lst (f.map D.int)/\f.length<64/\∀b:ZX,b.Perm f->b.Pairwise (·<=·)->R (.own<|b.map D.int)
 |_,_=>False
def NY{f r}(G:U3 K mg E f r):JR K mg E (tCB (λxs H Q=>∃p b,xs=[.ref p]/\b.length<64/\(SqL K H p (b.map V.int)\/H p=some (KC w p b))/\
  ∀l (ns:ZX),H l=none->ns.Perm b->ns.Pairwise (·<=·)->Q (.ref l) (upd H l<|.lst<|ns.map V.int)) f) (pCB FB r):=by
 refine Nk G λH0 H H1 Z N L R Q y x T tv h q=>?_;unfold FB at h;split at h
 ·rename_i s;obtain⟨v,rfl,u⟩:=tv.one_inv;obtain⟨b,e,A,k⟩:=h;have g:=u.rp y;rw[e]at g;obtain⟨a,M,rfl,o,z⟩:=g.lst_inv;rw[z.ints]at o;exact⟨a,b,rfl,A,.inl (SqL.of o),λl ns n J C=>q _ _ _ (k ns J C) (UB n) (K9 x n<|Rps.of_ints ns)⟩
 ·grind
def Zbb:List S->(S->Prop)->Prop
 |[s,t],R=>(match s.d,t.d with | .int i,.int j=>R (.sh<|.int (if j>i then j else i))|_,_=>False)
 |_,_=>False
def Zbf:List S->(S->Prop)->Prop
 |[s],R=>(match s.d with | .int i=>R (.sh<|.int (if i<0 then -i else i))|_=>False)
 |_,_=>False
noncomputable def tyD:D->Option String
 | .int _=>some "int" | .bl _=>some "bool" | .non=>some "NoneType" | .str _=>some "str" | .tup _=>some "tuple" | .lst _=>some "list" | .fL _=>some "list" | .dK _=>some "dict" | .dT _=>some "dict" |_=>none
inductive UW:String->String->Bool->Prop
 |same (n:String):UW n n true
 |ib:UW "int" "bool" false
 |bi:UW "bool" "int" true
 |tl:UW "tuple" "list" false
 |lt:UW "list" "tuple" false
 |it:UW "int" "tuple" false
 |il:UW "int" "list" false
 |bt:UW "bool" "tuple" false
 |bL:UW "bool" "list" false
 |ti:UW "tuple" "int" false
 |li:UW "list" "int" false
 |si:UW "str" "int" false
 |is:UW "int" "str" false
 |ni:UW "NoneType" "int" false
 |nl:UW "NoneType" "list" false
 |nt:UW "NoneType" "tuple" false
def Za9:List S->(S->Prop)->Prop
 |[s,t],R=>(match tyD s.d,t.d with|some m,.ty n=>∃b,UW m n b/\R (.sh<|.bl b)|_,_=>False)
 |_,_=>False
noncomputable def prD(p:Int×Int):D:=.tup [.int p.1,.int p.2]
inductive InR:D->D->Bool->Prop
 |li (i:Int) (hs:ZX):InR (.int i) (.lst<|hs.map D.int) (decide (i∈hs))
 |ti (i:Int) (hs:ZX):InR (.int i) (.tup<|hs.map D.int) (decide (i∈hs))
 |lp (q:Int×Int) (ps:ZW):InR (prD q) (.lst<|ps.map prD) (decide (q∈ps))
def fIn(neg:Bool):S->S->(S->Prop)->Prop:=λx y R=>∃b,InR x.d y.d b/\R (.sh<|.bl (if neg then !b else b))
def Rp.pair (h:Rp K H (prD q) v):Xi H v q:=by
 obtain⟨a,l,rfl,b,r⟩:=Rp.tup_inv h;obtain⟨x,y,rfl,g,f⟩:=r.two_inv;rw[g.int_inv,f.int_inv]at b;exact⟨a,rfl,b⟩
def Rps.lv {vs} (h:Rps K H (ps.map prD) vs):LV Xi H vs ps:=by
 refine⟨by rw[h.len,YU],λi p b=>?_⟩;obtain⟨v,g,f⟩:=h.get (by rw[Wh,b];rfl);exact⟨v,g,f.pair⟩
def Fq{C A a b}(U:JR K mg E C a)(T:JR K mg E A b):JR K mg E (tOp (λx y H Q=>rIn K neg x y H Q\/P3 neg x y H Q) C A) (p2 a b<|fIn neg):=by
 refine X0 U T λH0 H z Z x y v u R Q G Y hm L J h q=>?_;obtain⟨k,s,w⟩:=h;have n:=L.rp G;have g:=J.rp G;generalize ex:x.d=dx at s n;generalize ey:y.d=dy at s g;cases s with
 |li i N=>
  obtain⟨l,o,rfl,f,r⟩:=g.lst_inv;rw[r.ints]at f;rw[n.int_inv];refine .inl ⟨l,_,rfl,.inl (SqL.of f),rfl,Ku _,?_⟩;rw[AY];exact q _ _ z w (Same.refl _) (.bl _)
 |ti i N=>
  obtain⟨l,o,rfl,f,r⟩:=g.tup_inv;rw[r.ints]at f;rw[n.int_inv];refine .inl ⟨l,_,rfl,.inr (SqT.of f),rfl,Ku _,?_⟩;rw[AY];exact q _ _ z w (Same.refl _) (.bl _)
 |lp p M=>
  obtain⟨l,o,rfl,f,r⟩:=g.lst_inv;exact .inr ⟨l,M,p,rfl,n.pair,⟨o,f,r.lv⟩,q _ _ z w (Same.refl _) (.bl _)⟩
def Pk(neg:Bool):S->S->(S->Prop)->Prop:=λx y R=>match x.d,y.d with
 | .lst g,.lst f=>∃xs b:ZX,g=xs.map D.int/\f=b.map D.int/\R (.sh<|.bl (if neg then !decide (xs=b)else decide (xs=b)))
 |_,_=>fEq neg x y R
def F6{a b}(T:JR K mg E L a)(N:JR K mg E J b):JR K mg E (tOp (λx y H Q=>rEq x y H Q\/X8 K false x y H Q) L J) (p2 a b<|Pk false):=by
 refine X0 T N λH0 H p Z x y v u R Q w s1 s G C h q=>?_;have g:=G.rp w;have f:=C.rp w;unfold Pk at h;split at h
 ·rename_i ds es o n;obtain⟨xs,Y,rfl,rfl,U⟩:=h;rw[o]at g;rw[n]at f;obtain⟨l,us,rfl,A,r⟩:=g.lst_inv;obtain⟨m,ws,rfl,s,M⟩:=f.lst_inv;rw[r.ints]at A;rw[M.ints]at s;refine .inr ⟨l,m,_,_,rfl,rfl,SqL.of A,SqL.of s,Ku _,Ku _,?_⟩;rw[Bu];exact q _ _ p U (Same.refl _) (.bl _)
 ·refine .inl ?_;unfold fEq at h;split at h
  ·rename_i i j o n;rw[o]at g;rw[n]at f;rw[g.int_inv,f.int_inv];refine⟨rfl,?_⟩;rw[Ph λ_ _ z=>V.int.inj z];exact q _ _ p h (Same.refl _) (.bl _)
  ·rename_i i j o n;rw[o]at g;rw[n]at f;rw[g.str_inv,f.str_inv];refine⟨rfl,?_⟩;rw[Ph λ_ _ z=>V.str.inj z];exact q _ _ p h (Same.refl _) (.bl _)
  ·rename_i i j o n;rw[o]at g;rw[n]at f;rw[g.bl_inv,f.bl_inv];refine⟨rfl,?_⟩;rw[Ph λ_ _ z=>V.bl.inj z];exact q _ _ p h (Same.refl _) (.bl _)
  ·exact h.elim
def HU{a b}(T:JR K mg E L a)(N:JR K mg E J b):JR K mg E (tOp (λx y H Q=>rNe x y H Q\/X8 K true x y H Q) L J) (p2 a b<|Pk true):=by
 refine X0 T N λH0 H p Z x y v u R Q w s1 s G C h q=>?_;have g:=G.rp w;have f:=C.rp w;unfold Pk at h;split at h
 ·rename_i ds es o n;obtain⟨xs,Y,rfl,rfl,U⟩:=h;rw[o]at g;rw[n]at f;obtain⟨l,us,rfl,A,r⟩:=g.lst_inv;obtain⟨m,ws,rfl,s,M⟩:=f.lst_inv;rw[r.ints]at A;rw[M.ints]at s;refine .inr ⟨l,m,_,_,rfl,rfl,SqL.of A,SqL.of s,Ku _,Ku _,?_⟩;rw[Bu];exact q _ _ p U (Same.refl _) (.bl _)
 ·refine .inl ?_;unfold fEq at h;split at h
  ·rename_i i j o n;rw[o]at g;rw[n]at f;rw[g.int_inv,f.int_inv];refine⟨rfl,?_⟩;rw[Ph λ_ _ z=>V.int.inj z];exact q _ _ p h (Same.refl _) (.bl _)
  ·rename_i i j o n;rw[o]at g;rw[n]at f;rw[g.str_inv,f.str_inv];refine⟨rfl,?_⟩;rw[Ph λ_ _ z=>V.str.inj z];exact q _ _ p h (Same.refl _) (.bl _)
  ·rename_i i j o n;rw[o]at g;rw[n]at f;rw[g.bl_inv,f.bl_inv];refine⟨rfl,?_⟩;rw[Ph λ_ _ z=>V.bl.inj z];exact q _ _ p h (Same.refl _) (.bl _)
  ·exact h.elim
noncomputable abbrev AZ(K:ZV)(b:TE):TT:=λσ H Q=>b σ H λx H'=>∃k,N5 K x H' k/\Q k H'
noncomputable def Ag(a:PTE):PTT:=λγ R X=>a γ (λx=>match x.d with
 | .bl b=>R b | .lst f=>R (!f.isEmpty) | .tup f=>R (!f.isEmpty) | .int i=>R (i != 0) | .non=>R false|_=>False) X
def CZ{f b:Type}{l:List f}{m:List b}(h:l.length=m.length):l.isEmpty=m.isEmpty:=by
 cases l<;>cases m<;>simp at h ⊢
def R4(y:JR K mg E te a):UG K mg E (AZ K te) (Ag a):=by
 intro H0 B H σ γ R X Q o p q w;refine y H0 B H σ γ _ X _ o p (λx v H1 g h u=>?_) w;have f:=u.rp (o.grow h).same;split at g
 ·rename_i b e;rw[e]at f;rw[f.bl_inv];exact⟨b,rfl,q _ H1 g h⟩
 ·rename_i z e;rw[e]at f;obtain⟨l,n,rfl,s,r⟩:=f.lst_inv;exact⟨!n.isEmpty,.inl ⟨n,SqL.of s,rfl⟩,by rw[CZ r.len];exact q _ H1 g h⟩
 ·rename_i z e;rw[e]at f;obtain⟨l,n,rfl,s,r⟩:=f.tup_inv;exact⟨!n.isEmpty,.inr (.inl ⟨n,SqT.of s,rfl⟩),by rw[CZ r.len];exact q _ H1 g h⟩
 ·rename_i i e;rw[e]at f;rw[f.int_inv];exact⟨_,rfl,q _ H1 g h⟩
 ·rename_i e;rw[e]at f;rw[f.non_inv];exact⟨_,rfl,q _ H1 g h⟩
 ·exact g.elim
noncomputable def cutD{b:Type}(xs:List b)(lo f:Option Int):List b:=(xs.drop<|HT.sIx xs.length 0 lo).take (HT.sIx xs.length xs.length f-HT.sIx xs.length 0 lo)
noncomputable def Fx:PTO:=λ_ R _=>R none
noncomputable def FT(a:PTE):PTO:=λγ R X=>a γ (λs=>match s.d with | .int i=>R (some i)|_=>False) X
def LQ:PX K mg E F7 Fx:=λ_ _ H _ _ _ _ _ _ p q _=>q _ H p (Same.refl _)
def RX(o:JR K mg E te a):PX K mg E (Am te) (FT a):=by
 intro H0 B H σ γ R X Q b p q n;refine o H0 B H σ γ _ X _ b p (λx v H1 g h l=>?_) n;have f:=l.rp (b.grow h).same;split at g
 ·rename_i i e;rw[e]at f;exact⟨i,f.int_inv,q _ H1 g h⟩
 ·grind
noncomputable def pSl(a:PTE)(l u:PTO):PTE:=λγ R X=>a γ (λs=>l γ (λlo=>u γ (λf=>match s.d with | .lst b=>s.free b=true/\R (.own<|cutD b lo f)|_=>False) X) X) X
def Rps.cut {lo b} (r:Rps K H ds vs):Rps K H (cutD ds lo b) (PV vs lo b):=by
 unfold cutD PV;rw[r.len];exact Rps.take _ (Rps.drop _ r)
def RL{a l u}(U:JR K mg E te a)(N:PX K mg E G l)(M:PX K mg E J u):JR K mg E (tSl (N2 K) te G J) (pSl a l u):=by
 intro H0 B H σ γ R X Q f p q o;refine U H0 B H σ γ _ X _ f p (λx v H1 h1 h L=>?_) o;refine N H0 B H1 σ γ _ X _ (f.grow h) h1 (λlo H2 Y n=>?_) λc H' s y=>o c H' s (h.trans y);refine M H0 B H2 σ γ _ X _ ((f.grow h).grow n) Y (λhi H3 w A=>?_) λc H' s y=>o c H' s ((h.trans n).trans y);have g:=(h.trans n).trans A;split at w
 ·rename_i ds e;obtain⟨b,C,rfl,T,r⟩:=((L.grow<|n.trans A).items (f.grow g).same f.zm g w.1).1 e;exact⟨b,C,rfl,SqL.of T,λm z=>q _ _ _ w.2 (g.trans<|UB z) (K9 g z r.cut)⟩
 ·grind
def Ft:S->S->(S->Prop)->Prop:=λx y R=>match x.d,y.d with
 | .lst f,.lst b=>x.free f=true/\y.free b=true/\f.length+b.length<=100000/\R (.own (f++b))
 |_,_=>False
def XF{a b}(U:JR K mg E L a)(T:JR K mg E J b):JR K mg E (tOp B0 L J) (p2 a b Ft):=by
 refine X0 U T λH0 H H2 Z x y v u R Q s f A G C h q=>?_;unfold Ft at h;split at h
 ·rename_i ds es e1 Y;obtain⟨l,o,rfl,N,r⟩:=(G.items s A f h.1).1 e1;obtain⟨m,n,rfl,g,w⟩:=(C.items s A f h.2.1).1 Y;have M:o.length+n.length<=sizeLine:=by rw[r.len,w.len];exact Wi h.2.2.1 (by decide)
  exact⟨l,m,o,n,rfl,rfl,N,g,M,λp z=>q _ _ _ h.2.2.2 (UB z) (K9 f z<|r.append w)⟩
 ·grind
noncomputable def SQ(i:Nat)(a:PTE):PTS:=λR γ=>match γ[i]? with
 |some (some<|.own<|.lst b)=>a γ (λs=>match s.shd with
  |some d=>b.length<10000000/\R.nx (γ.set i<|some<|.own (b++[d]))
  |none=>False) (R.ex γ)
 |some (some<|.own<|.lsA x b)=>a γ (λs=>match s.shd with
  |some d=>b.length<10000000/\R.nx (γ.set i<|some<|.own<|.lsA x (b++[d]))
  |none=>False) (R.ex γ)
 |_=>False
def Md(i:Nat){te a}(Q:JR K mg E te a):Ui K mg E (TH<|tBM K "list" NW (Xv i)<|UJ te Xe) (SQ i a):=by
 intro H0 B H σ γ R D T f h e;unfold SQ at h;split at h
 ·rename_i M r;obtain⟨v,q,b,rfl,G,us,w,p⟩:=f.slot i _ r;refine⟨_,q,.inl ⟨rfl,us,SqL.of w⟩,Q H0 B H σ γ _ _ _ f h (λs u H1 n l A=>?_) λc H' C y=>e.ex σ γ c H' C (f.grow y) (Fr.grow y)⟩;have g:=f.grow l;split at n
  ·rename_i d o;refine⟨b,us,u,rfl,rfl,l _ _ w,by rw[p.len];exact Q0 n.1 (by decide),?_⟩;obtain⟨o,L⟩:=g.mutate (es:=.lst (M++[d])) (us:=.lst (us++[u])) r q trivial λF H' N J=>⟨_,J,Rps.mono N (Rps.append (Rps.mono (Ug l λ_ _ _ z=>z) p)<|.cons (A.shd g.same f.zm l o) .nil)⟩;exact e.nx _ _ _ n.2 o ((Fr.grow l).trans L)
  ·exact n.elim
 ·rename_i x M r;obtain⟨v,q,b,rfl,G,rfl,us,w,p⟩:=f.slot i _ r;refine⟨_,q,.inl ⟨rfl,us,SqL.of w⟩,Q H0 B H σ γ _ _ _ f h (λs u H1 n l A=>?_) λc H' C y=>e.ex σ γ c H' C (f.grow y) (Fr.grow y)⟩;have g:=f.grow l;split at n
  ·rename_i d o;refine⟨b,us,u,rfl,rfl,l _ _ w,by rw[p.len];exact Q0 n.1 (by decide),?_⟩;obtain⟨o,L⟩:=g.mutate (es:=.lsA b (M++[d])) (us:=.lst (us++[u])) r q trivial λF H' N J=>⟨rfl,_,J,Rps.mono N (Rps.append (Rps.mono (Ug l λ_ _ _ z=>z) p)<|.cons (A.shd g.same f.zm l o) .nil)⟩;exact e.nx _ _ _ n.2 o ((Fr.grow l).trans L)
  ·exact n.elim
 ·exact h.elim
end
section
variable {X:Cx}{K:ZV}
def IK(b:X.A.in1.units<cLine)(f:autoParam (X.K=K) au_0):OpR X (compareOp .In) (λx y H Q=>rIn K false x y H Q\/P3 false x y H Q):=(EB f).or (Ow b)
def Mp(b:X.A.in1.units<cLine)(f:autoParam (X.K=K) au_0):OpR X (compareOp .NotIn) (λx y H Q=>rIn K true x y H Q\/P3 true x y H Q):=(RY f).or (Lj b)
def FN(b:X.A.units<cLine)(f:autoParam (X.K=K) au_0):OpR X (compareOp .Eq) (λx y H Q=>rEq x y H Q\/X8 K false x y H Q):=by subst f;exact op_eq.or (Ox b)
def Hf(b:X.A.units<cLine)(f:autoParam (X.K=K) au_0):OpR X (compareOp .NotEq) (λx y H Q=>rNe x y H Q\/X8 K true x y H Q):=by subst f;exact op_ne.or (Dw b)
def E7(f:PE X e te)(g:autoParam (X.K=K) au_0)(b:autoParam (∀whole,isTrue e X.env whole=(do let v ←whole;standAt e.pos;holding [v] (truthy v))) au_3):PT X e (AZ K te):=by
 subst g;exact G2 f b
def Ts(f:autoParam (X.K=K) au_0):X6 X (.type "list") (λxs H Q=>∃p b,xs=[.ref p]/\(SqL K H p b\/SqT K H p b)/\∀l,H l=none->Q (.ref l) (upd H l<|.lst b)):=by subst f;exact FW
def HH(b:autoParam (X.K=K) au_0):SlR X (N2 K):=by subst b;exact L6
def SB(f:X.calm=true){w}(g:autoParam (X.K=K) au_0)(hw:autoParam (X.w=w) au_0):X6 X (.builtin "sorted") (λxs H Q=>∃p b,xs=[.ref p]/\b.length<64/\(SqL K H p (b.map V.int)\/H p=some (KC w p b))/\
  ∀l (ns:ZX),H l=none->ns.Perm b->ns.Pairwise (·<=·)->Q (.ref l) (upd H l<|.lst<|ns.map V.int)):=by subst g;subst hw;exact Av f
def Sg{f l b}(g:PE X l b)(h:autoParam (X.K=K) au_0):PI X f l (Nh K b):=by subst h;exact Ff g
end
section
variable {P:Program}{w:World}{K:ZV}{mg:ZZ}{base:Heap}{H H':Hp}
def Gd(C:Callee P w K mg base CX k x ps sp)(h:∀ds R X vs H Q E,Rps K H ds vs->c ds R X->(∀s v H',R s->Same H H'->TV K (λb=>Mut (H b)) H H H' s v->Q v H')->(∀e H',X e->Same H H'->XE mg E e H')->sp vs H Q E) :
  Callee P w K mg base CX k x ps (Ue mg c K):=by
 obtain⟨f,o,F,rest⟩:=C.ex;exact⟨f,o,F.imp λvs H Q E ⟨ds,R,X,r,g,n,l⟩=>h ds R X vs H Q E r g n l,rest⟩
def Rp.pairs_inv {v} (h:Rp K H (.lst<|ps.map prD) v):∃a,v=.ref a/\LAt Xi H a ps:=by
 obtain⟨a,b,rfl,f,r⟩:=h.lst_inv;exact⟨a,rfl,b,f,r.lv⟩
def GD{ns:ZX}(n:H a=none)(h:H' a=some (.lst<|ns.map V.int)):TV K (λb=>Mut (H b)) H H H' (.own<|ns.map D.int) (.ref a):=⟨a,rfl,(λ_ e=>e▸n),_,h,Rps.of_ints ns⟩
theorem Dv:∀(ns:ZX),Xd (ns.map D.int)=true
 |[]=>rfl
 |n::r=>by rw[Wz];unfold Xd;rw[Dv r];unfold imm;rfl
def OG(p:Int×Int):imm (prD p)=true:=rfl
theorem XC:∀(ps:ZW),Xd (ps.map prD)=true
 |[]=>rfl
 |p::r=>by rw[Wz];unfold Xd;rw[XC r,OG];rfl
def Zba{b:Type}{f:b->D}{xs:List b}{i}(h:i<xs.length):(xs.map f).getD i .non=f xs[i]:=by grind
def MP{b:Type}{f:b->D}{xs:List b}{i}(g:0<=i)(h:i<(xs.length:Int)):atI (xs.map f) i=some (f (xs[i.toNat]'(by lia))):=by
 have l:i.toNat<xs.length:=by lia
 exact PY (Sj g<|Wa l)
def Pz{l:Type}{φ}{γ}{g}{c}{e}{s:S}{R}{xs:List l}{emb}(f:l->Option D)(n:xs.length<=100000)(turn:∀x∈xs,g (s.sub<|emb x) (atP φ γ) λh=>c h (λb=>if b=true then e h (λs=>∃d,s.shd=some d/\f x=some d) (λ_=>False)else f x=none) λ_=>False)(done:R (.own<|xs.filterMap f)) :
  NR φ γ g c e (xs.map emb).length (λi=>s.sub ((xs.map emb).getD i .non)) R:=by
 rw[YU];refine⟨⟨n,λi=>(xs[i]?).bind f,λi o=>?_,by rw[MB];exact done⟩⟩;simp_all
def Od{g c e item R n}(f:Nat->Option D)(o:n<=100000)(turn:∀i,i<n->g (item i) (atP φ l) λh=>c h (λb=>if b=true then e h (λs=>∃d,s.shd=some d/\f i=some d) (λ_=>False)else f i=none) λ_=>False)(done:R (.own ((List.range n).filterMap f))) :
  NR φ l g c e n item R:=⟨⟨o,f,turn,done⟩⟩
def T7{n:Type}{js}{γ}{g}{body}{s:S}{R}{xs:List n}{emb}(inv:Nat->Γ->Prop)(p:inv 0 (clr js γ))(turn:∀i o b,inv i b->g (s.sub (emb xs[i])) b λl=>body {R with nx:=λf=>inv (i+1) (clr js f),ct:=λf=>inv (i+1) (clr js f),bk:=R.nx} l)(done:∀b,inv xs.length b->R.nx b) :
  Sy js γ g body R (xs.map emb).length (λi=>s.sub ((xs.map emb).getD i .non)):=by
 refine⟨⟨inv,p,λi b o h=>?_,λb h=>?_⟩⟩
 ·grind
 ·grind
def Bz{n item}(inv:Nat->Γ->Prop)(p:inv 0 (clr l o))(turn:∀i b,i<n->inv i b->g (item i) b λh=>body {R with nx:=λf=>inv (i+1) (clr l f),ct:=λf=>inv (i+1) (clr l f),bk:=R.nx} h)(done:∀b,inv n b->R.nx b):Sy l o g body R n item:=⟨⟨inv,p,turn,done⟩⟩
def RT(inv:Γ->Prop)(h:Γ->Nat)(o:inv (clr l n))(turn:∀f,inv f->c f (λb=>if b=true then body {R with nx:=λg=>inv (clr l g)/\h (clr l g)<h f,ct:=λg=>inv (clr l g)/\h (clr l g)<h f,bk:=R.nx} f else R.nx f) (R.ex f)):A8 l n c body R:=⟨⟨inv,h,o,turn⟩⟩
def UE(J:Γ->Prop)(h:p {R with nx:=J} f)(g:∀b,J b->q R b):FS p q R f:=⟨⟨J,h,g⟩⟩
theorem Td{b:Type}(c:b->Bool)(emb:b->D):∀ws:List b,ws.filterMap (λq=>if c q=true then some (emb q)else none)=(ws.filter c).map emb
 |[]=>rfl
 |q::r=>by
  by_cases h:c q=true
  ·rw[List.filterMap_cons_some (by rw[Wc h]),List.filter_cons_of_pos h,Wz,Td c emb r]
  ·rw[List.filterMap_cons_none (by grind),List.filter_cons_of_neg h,Td c emb r]
def Pe(f:g->D)(xs:List g)(lo b:Option Int):cutD (xs.map f) lo b=(cutD xs lo b).map f:=by
 unfold cutD;simp
def Nr(xs:List b){n}(h:0<=n):cutD xs none (some n)=xs.take n.toNat:=by
 unfold cutD;have e:n=(n.toNat:Int):=by lia
 rw[HT.DZ,e,HT.Dk,List.drop_zero,Nat.sub_zero,WG];by_cases c:n.toNat<=xs.length
 ·simp
 ·simp
def B8(xs:List b){n}(h:0<=n):cutD xs (some n) none=xs.drop n.toNat:=by
 unfold cutD;have e:n=(n.toNat:Int):=by lia
 rw[HT.DZ,e,HT.Dk,WG];by_cases c:n.toNat<=xs.length
 ·grind
 ·rw[Nat.min_eq_right (by lia),List.drop_of_length_le (Wf _),List.drop_of_length_le (by lia)];simp
noncomputable def NF(K:ZV):Sp:=λb H Q _=>∃(a:Addr) (f:ZX),b=[.ref a]/\SqL K H a (f.map V.int)/\∀H',Q (.bl true) H'
noncomputable def AK:Pc:=λf R _=>∃b:ZX,f=[.scr b]/\R (.sh<|.bl true)
def IZ(h:NF K vs H Q g):Ue mg AK K vs H Q g:=by
 obtain⟨a,b,rfl,f,q⟩:=h;refine⟨[.scr b],λs=>s=.sh (.bl true),λ_=>False,.cons (.scr f) .nil,⟨b,rfl,rfl⟩,λs v H' e l tv=>?_,λ_ _ z=>z.elim⟩;subst e;cases tv
 grind
end
section
variable {K:ZV}{mg:ZZ}{E:L2.St->XK}{H0 H H1 H':Hp}{B Z Z':Addr->Prop}{σ:L2.St}{γ:Γ}
noncomputable def Tq:D->Option V
 | .int i=>some (.int i) | .bl b=>some (.bl b) | .non=>some .non | .str x=>some (.str x)|_=>none
noncomputable def vD:V->D
 | .int i=>.int i | .bl b=>.bl b | .str x=>.str x|_=>.non
noncomputable def AC:V->Bool
 | .int _=>true | .bl _=>true | .str _=>true | .non=>true|_=>false
def NM(h:Rp K H d v)(e:Tq d=some u):v=u:=by
 cases h with
 |int i|bl b|non|str x=>cases e;rfl
 |_=>cases e
noncomputable def P2:D->Option Key
 | .int i=>some (.inl i) | .str x=>some (.inr x)|_=>none
noncomputable def Tu:List D->Option (List Key)
 |[]=>some []
 |d::r=>match P2 d,Tu r with
  |some k,some b=>some (k::b)
  |_,_=>none
noncomputable def T5:D->Option (List Key)
 | .tup b=>Tu b
 |_=>none
def NI(h:Rp K H d v)(e:P2 d=some k):v=kV k:=by
 cases h with
 |int i|str x=>cases e;rfl
 |_=>cases e
def Hc:∀{ds vs}{b:List Key},Rps K H ds vs->Tu ds=some b->vs=b.map kV:=by
 intro ds
 induction ds with
 |nil=>
  intro _ _ h e;cases h
  cases e
  rfl
 |cons _ _ f=>
  intro _ b h e;cases h with
  |cons h r=>
   unfold Tu at e;split at e
   ·rename_i k n l g;cases e
    rw[NI h l,f r g];rfl
   ·grind
def CD(h:Rp K H d v)(e:T5 d=some f):∃b,v=.ref b/\H b=some (.tup<|f.map kV):=by
 cases h with
 |tup h r=>
  rw[Hc r e]at h
  grind
 |_=>cases e
def Rp.dK_inv (h:Rp K H (.dK b) v):∃a,v=.ref a/\H a=some (.dK b):=by
 cases h with
 |dK h=>grind
def Rp.dT_inv (h:Rp K H (.dT b) v):∃a,v=.ref a/\H a=some (.dT b):=by
 cases h with
 |dT h=>grind
noncomputable def OU:PTE:=λ_ R _=>R (.own<|.dK [])
def Lg:JR K mg E Fd OU:=by
 intro H0 B H σ γ R X Q f p q _ l b;exact q _ _ _ p (UB b) ⟨l,rfl,(λ_ e=>e▸b),Um⟩
def Za7:S->S->(S->Prop)->Prop:=λx y R=>match x.d with
 | .dK b=>∃k v,P2 y.d=some k/\Ut b k=some v/\AC v=true/\R (.sh<|vD v)
 | .dT b=>∃k v,T5 y.d=some k/\Ut b k=some v/\AC v=true/\R (.sh<|vD v)
 |_=>False
def A7(neg:Bool):S->S->(S->Prop)->Prop:=λy x R=>match x.d with
 | .dK b=>∃k,P2 y.d=some k/\R (.sh<|.bl (if neg then !(Ut b k).isSome else(Ut b k).isSome))
 | .dT b=>∃k,T5 y.d=some k/\R (.sh<|.bl (if neg then !(Ut b k).isSome else(Ut b k).isSome))
 |_=>False
def Ht{w f a b}(J:JR K mg E f a)(p:JR K mg E w b):JR K mg E (A1 f w) (p2 a b<|A7 true):=by
 refine X0 J p λH0 H C Z y x u v R Q z L M f G h q=>?_;have g:=G.rp z;have A:=f.rp z;unfold A7 at h;split at h
 ·rename_i n e;rw[e]at g;obtain⟨l,rfl,o⟩:=g.dK_inv;obtain⟨k,s,r⟩:=h;refine⟨l,_,rfl,?_,q _ _ C r (Same.refl _) (.bl _)⟩;rw[NI A s];exact DGet.k o
 ·rename_i n e;rw[e]at g;obtain⟨l,rfl,o⟩:=g.dT_inv;obtain⟨k,s,r⟩:=h;obtain⟨b,rfl,p⟩:=CD A s;exact⟨l,_,rfl,DGet.t o p,q _ _ C r (Same.refl _) (.bl _)⟩
 ·grind
noncomputable def Di(i:Nat)(b a:PTE):PTS:=λR γ=>match γ[i]? with
 |some (some<|.own<|.dK f)=>a γ (λs=>b γ (λy=>∃k u,P2 y.d=some k/\Tq s.d=some u/\f.length<100000/\R.nx (γ.set i<|some<|.own<|.dK<|putK f k u)) (R.ex γ)) (R.ex γ)
 |some (some<|.own<|.dT f)=>a γ (λs=>b γ (λy=>∃k u,T5 y.d=some k/\Tq s.d=some u/\f.length<100000/\R.nx (γ.set i<|some<|.own<|.dT<|putK f k u)) (R.ex γ)) (R.ex γ)
 |_=>False
def EG(i:Nat){ty tv a b}(hb:JR K mg E ty b)(ha:JR K mg E tv a):Ui K mg E (D4 (Xv i) ty tv) (Di i b a):=by
 intro H0 B H σ γ R D hB n h e;have hx:=λc H' C r=>e.ex σ γ c H' C (n.grow r) (Fr.grow r);unfold Di at h;split at h
 ·rename_i o A;obtain⟨v,x,l,rfl,U,T⟩:=n.slot i _ A;refine ha H0 B H σ γ _ _ _ n h (λs u H1 h1 p J=>⟨_,x,?_⟩) hx;have f:=n.grow p;refine hb H0 B H1 σ γ _ _ _ f h1 (λy w H2 h2 q G=>?_) λc H' C r=>hx c H' C (p.trans r);obtain⟨k,z,Q,N,M,L⟩:=h2;have g:=f.grow q;have eu:=NM (J.rp f.same) N;have ew:=NI (G.rp g.same) Q;subst eu ew;refine⟨l,_,rfl,DPut.k (q _ _<|p _ _ T) (Q0 M<|by decide),?_⟩;obtain⟨e2,f2⟩:=g.mutate (es:=.dK (putK o k u)) (us:=.dK (putK o k u)) A x trivial λF H' SF hF=>hF;exact e.nx _ _ _ L e2 ((Fr.grow<|p.trans q).trans f2)
 ·rename_i o A;obtain⟨v,x,l,rfl,U,T⟩:=n.slot i _ A;refine ha H0 B H σ γ _ _ _ n h (λs u H1 h1 p J=>⟨_,x,?_⟩) hx;have f:=n.grow p;refine hb H0 B H1 σ γ _ _ _ f h1 (λy w H2 h2 q G=>?_) λc H' C r=>hx c H' C (p.trans r);obtain⟨k,z,Q,N,M,L⟩:=h2;have g:=f.grow q;have eu:=NM (J.rp f.same) N;obtain⟨b',rfl,Y⟩:=CD (G.rp g.same) Q;subst eu;refine⟨l,_,rfl,DPut.t (q _ _<|p _ _ T) Y (Q0 M<|by decide),?_⟩;obtain⟨e2,f2⟩:=g.mutate (es:=.dT (putK o k u)) (us:=.dT (putK o k u)) A x trivial λF H' SF hF=>hF;exact e.nx _ _ _ L e2 ((Fr.grow<|p.trans q).trans f2)
 ·exact h.elim
noncomputable def Fi(a:PTE):PTS:=λR γ=>a γ (λs=>match s.shd with|some d=>R.rt (.sh d)|none=>False) (R.ex γ)
def EA(r:JR K mg E te a):Ui K mg E (KP te) (Fi a):=by
 intro H0 B H σ γ R D u f h e;refine r H0 B H σ γ _ _ _ f h (λs v H1 l g o=>?_) λc H' q n=>e.ex σ γ c H' q (f.grow n) (Fr.grow n);split at l
 ·rename_i d p;exact e.rt (.sh d) v H1 l (f.same.trans g) (Rp.mono (Ug (Same.refl _) λb _ _ z y=>z (.inl y)) (o.shd (f.grow g).same f.zm g p))
 ·grind
noncomputable def Ce(i:Nat)(γ:Γ):Nat:=match γ[i]? with
 |some (some<|.own<|.lst b)=>b.length
 |_=>0
def M4(d:b)(ds:List b):atI (d::ds) 0=some d:=Sj (by simp) rfl
noncomputable def em(l:Int)(p:ZX):D:=.lst ((l::p).map D.int)
def B9(l:Int)(p:ZX):atI ((l::p).map D.int) (-1)=some (.int<|Ub l p):=by
 refine PY ?_;unfold atI ixN;rw[YV (by lia),Wc (by grind)];have e:(-1+((l::p).length:Int)).toNat=p.length:=by grind
 rw[e];exact TM l p
def KQ(xs:List f)(lo b:Option Int):(cutD xs lo b).Sublist xs:=(Vs _ _).trans (List.drop_sublist _ _)
def JW.gone (N:JW K H0 B H σ γ) (i:Nat):JW K H0 B H (σ.set i none) (γ.set i none)/\Fr B H σ γ H (σ.set i none) (γ.set i none):=by
 obtain⟨l,f1⟩:=N.drop i
 have f:∀j s,(γ.set i none)[j]?=some (some s)->j≠i:=λj s h=>by
  rcases Ux h with⟨_,e,_⟩|⟨n,_⟩
  ·cases e
  ·exact n
 have C:∀b,zof B (γ.set i none) (σ.set i none) b↔zof B (γ.set i none) σ b:=λb=>by
  constructor
  ·rintro(z|⟨j,p,x,g,q,r⟩)
   ·exact .inl z
   ·rw[X3 (f j _ g)]at q;exact .inr ⟨j,p,x,g,q,r⟩
  ·rintro(z|⟨j,p,x,g,q,r⟩)
   ·exact .inl z
   ·exact .inr ⟨j,p,x,g,by rw[X3 (f j _ g)];exact q,r⟩
 have ez:=funext λb=>propext (C b);refine⟨⟨l.same,by rw[WY];exact l.len,l.bm,λk j a M p L b w u A y J G=>?_,λj s h=>?_⟩,λb o h z=>?_⟩
 ·rw[X3 (f k _ w)]at A;rw[X3 (f j _ u)]at y;exact l.own k j a M p L b w u A y J G
 ·obtain⟨v,w,u⟩:=l.slot j s h
  grind
 ·rw[ez];exact f1 b o h z
def UQ:JR K mg E (tC<|.ref a) (pC<|.ref a):=Pi λ_=>.ref a
def An(K:ZV):List S->(S->Prop)->Prop
 |[s,t],R=>(match s.d,t.d with
  | .err C,.ref f=>∃b,ExcR.U4 K C/\PySem.W.kitOne K (.ref C) (.ref f)=some b/\R (.sh<|.bl b)
  | .err C,.ty n=>∃b,ExcR.U4 K C/\PySem.W.kitOne K (.ref C) (.type n)=some b/\R (.sh<|.bl b)
  | .erM C _,.ref f=>∃b,ExcR.Xl K C/\PySem.W.kitOne K (.ref C) (.ref f)=some b/\R (.sh<|.bl b)
  | .erM C _,.ty n=>∃b,ExcR.Xl K C/\PySem.W.kitOne K (.ref C) (.type n)=some b/\R (.sh<|.bl b)
  |_,_=>False)
 |_,_=>False
def Rp.err_inv (h:Rp K H (.err C) v):∃a,v=.ref a/\H a=some (ExcR.Cb a C):=by
 cases h with
 |err h=>grind
def Rp.ref_inv (h:Rp K H (.ref a) v):v=.ref a:=by cases h;rfl
def Rp.erM_inv (h:Rp K H (.erM C r) v):∃a b l o,v=.ref a/\H a=some (ExcR.Xf a C<|some b)/\H b=some (.xd [("members",.ref l)])/\H l=some (.frz o<|.lst<|r.map V.int):=by
 cases h with
 |erM n g f=>grind
def UH(T:U3 K mg E L r):JR K mg E (tCB (λxs H Q=>∃a C z c b,xs=[.ref a,c]/\H a=some (ExcR.Xf a C z)/\ExcR.Xl K C/\(∃J,(∀u,RelV c u->u=J)/\PySem.W.kitOne K (.ref C) J=some b)/\Q (.bl b) H) L) (pCB (An K) r):=by
 refine Nk T λH0 H H1 Z Y U R Q G s1 hm tv h q=>?_;unfold An at h;split at h
 ·obtain⟨v,u,rfl,N,M⟩:=tv.two_inv;have g:=N.rp G;have f:=M.rp G;split at h
  ·rename_i C A y x;rw[y]at g;rw[x]at f;obtain⟨a,rfl,o⟩:=g.err_inv;obtain⟨b,w,s,p⟩:=h;rw[f.ref_inv];exact⟨a,C,_,_,b,rfl,o,w.any,⟨.ref A,λu l=>l,s⟩,q _ _ H1 p (Same.refl _) (.bl _)⟩
  ·rename_i C n y x;rw[y]at g;rw[x]at f;obtain⟨a,rfl,o⟩:=g.err_inv;obtain⟨b,w,s,p⟩:=h;rw[f.ty_inv];exact⟨a,C,_,_,b,rfl,o,w.any,⟨.type n,λu l=>l,s⟩,q _ _ H1 p (Same.refl _) (.bl _)⟩
  ·rename_i C r A y x;rw[y]at g;rw[x]at f;obtain⟨a,z,_,_,rfl,o,_,_⟩:=g.erM_inv;obtain⟨b,w,s,p⟩:=h;rw[f.ref_inv];exact⟨a,C,_,_,b,rfl,o,w,⟨.ref A,λu l=>l,s⟩,q _ _ H1 p (Same.refl _) (.bl _)⟩
  ·rename_i C r n y x;rw[y]at g;rw[x]at f;obtain⟨a,z,_,_,rfl,o,_,_⟩:=g.erM_inv;obtain⟨b,w,s,p⟩:=h;rw[f.ty_inv];exact⟨a,C,_,_,b,rfl,o,w,⟨.type n,λu l=>l,s⟩,q _ _ H1 p (Same.refl _) (.bl _)⟩
  ·exact h.elim
 ·exact h.elim
noncomputable def Zbe(i:Nat)(b a:PTE):PTS:=λR γ=>match γ[i]? with
 |some (some<|.own<|.lst f)=>a γ (λs=>b γ (λy=>match y.d with
   | .int k=>∃j d,ixN f.length k=some j/\s.shd=some d/\R.nx (γ.set i<|some<|.own<|.lst<|f.set j d)
   |_=>False) (R.ex γ)) (R.ex γ)
 |some (some<|.own<|.lsA x f)=>a γ (λs=>b γ (λy=>match y.d with
   | .int k=>∃j d,ixN f.length k=some j/\s.shd=some d/\R.nx (γ.set i<|some<|.own<|.lsA x<|f.set j d)
   |_=>False) (R.ex γ)) (R.ex γ)
 |_=>False
def DK:S->S->(S->Prop)->Prop:=λx y R=>match x.d,y.d with
 | .lst b,.int k=>x.free b=true/\(-(2 ^ 63)<=k/\k<2 ^ 63)/\b.length*k.toNat<=10000000/\R (.own (.lst (List.replicate k.toNat b).flatten))
 |_,_=>False
theorem Rps.rep (h:Rps K H ds vs):∀k,Rps K H (List.replicate k ds).flatten (List.replicate k vs).flatten
 | 0=>.nil
 |k+1=>by
  exact Rps.append h (Rps.rep h k)
def Fy{a b}(M:JR K mg E C a)(L:JR K mg E A b):JR K mg E (tOp BS C A) (p2 a b DK):=by
 refine X0 M L λH0 H Y Z x y v u R Q g f G z w h q=>?_;unfold DK at h;have n:=w.rp g;split at h
 ·rename_i U k T N;rw[N]at n;obtain⟨l,s,rfl,J,r⟩:=(z.items g G f h.1).1 T;refine⟨l,k,s,rfl,n.int_inv,J,h.2.1.1,h.2.1.2,by rw[r.len];exact Wi h.2.2.1 (by decide),λp o=>?_⟩;exact q _ _ _ h.2.2.2 (UB o) (K9 f o<|r.rep _)
 ·grind
noncomputable def Kv:List D->Option (List V)
 |[]=>some []
 |d::r=>match Tq d,Kv r with
  |some v,some b=>some (v::b)
  |_,_=>none
theorem Sr:∀{ds}{vs us:List V},Rps K H ds vs->Kv ds=some us->vs=us
 |[],_,_,.nil,e=>by cases e;rfl
 |d::r,_,us,.cons h t,e=>by
  unfold Kv at e;split at e
  ·rename_i v vs f b;cases e
   rw[NM h f,Sr t b]
  ·grind
def Dr(neg:Bool):S->S->(S->Prop)->Prop:=λx y R=>match x.d,y.d with
 | .lst h,.lst g=>∃f b,Kv h=some f/\Kv g=some b/\f.all UM=true/\b.all UM=true/\R (.sh<|.bl (if neg then !eqL f b else eqL f b))
 |_,_=>False
def M2{n g a b}(N:JR K mg E n a)(M:JR K mg E g b):JR K mg E (tOp (X8 K neg) n g) (p2 a b<|Dr neg):=by
 refine X0 N M λH0 H H2 Z x y v u R Q o s1 hm J G h q=>?_;unfold Dr at h;have s:=J.rp o;have p:=G.rp o;split at h
 ·rename_i ds es e1 e2;rw[e1]at s;rw[e2]at p;obtain⟨C,z,h1,h2,Y,U,T⟩:=h;obtain⟨l,vs,rfl,w,r⟩:=s.lst_inv;obtain⟨m,A,rfl,f,L⟩:=p.lst_inv;rw[Sr r h1]at w;rw[Sr L h2]at f;exact⟨l,m,C,z,rfl,rfl,SqL.of w,SqL.of f,Y,U,q _ _ H2 T (Same.refl _) (.bl _)⟩
 ·grind
def Iu(b:X.A.units<cLine)(f:autoParam (X.K=K) au_0):OpR X (compareOp .NotEq) (X8 K true):=by subst f;exact Dw b
end
end Pu
namespace M
open L2 Own Pu
noncomputable def oc(c:Int->Int->Int):ZX->Int
 |[]=>0
 |a::r=>(r.map<|c a).sum+oc c r
end M
namespace Pu
open L2 Own
section
variable {K:ZV}{mg:ZZ}{E:L2.St->XK}{H0 H H1 H':Hp}{B Z Z':Addr->Prop}{σ:L2.St}{γ:Γ}
def O.from:O->O->Prop
 | .ins x _ _ g,.ins f _ _ b=>f=x/\∀c∈g,∃h∈b,h.1=c.1
 | .lsA x _,.lsA f _=>f=x
 | .nsl x g,.nsl f b=>f=x/\b.map (·.1)=g.map (·.1)
 |_,_=>False
def O.from_adr {o o':O}{a} (h:o.from o'):∀b,o.adr a b->o'.adr a b:=by
 unfold O.from at h
 split at h
 ·intro b g;rcases g with g|⟨c,p,g⟩
  ·exact .inl (g.trans h.1.symm)
  ·obtain⟨q,n,l⟩:=h.2 c p;exact .inr ⟨q,n,g.trans l.symm⟩
 ·intro b g;exact g.trans h.symm
 ·intro b g;rcases g with g|⟨c,p,g⟩
  ·exact .inl (g.trans h.1.symm)
  ·have m:=QB (f:=(·.1)) p;rw[←h.2]at m;obtain⟨q,n,l⟩:=W8.mp m;exact .inr ⟨q,n,g.trans l.symm⟩
 ·grind
def O.from_at {a g}{F l H H'} (h:o.from o') (f:OR K F H a o) (b:OR K l H' g o'):g=a:=by
 unfold O.from at h
 split at h
 ·exact b.1.trans (h.1.trans f.1.symm)
 ·exact b.1.trans (h.trans f.1.symm)
 ·exact b.1.trans (h.1.trans f.1.symm)
 ·grind
abbrev Pw:=O->List S->(O->D->Prop)->(O->Str->Prop)->Prop
noncomputable def S.pass:S->Option S
 | .sh d=>some (.sh d) | .own o=>some (.sh o.d)
 | .bor d=>match imm d with|true=>some (.sh d)|false=>some (.bor d)
 | .tmp d=>match imm d with|true=>some (.sh d)|false=>none
 | .view _=>none
def S.flat:S->Prop
 | .sh _=>True | .bor _=>True|_=>False
noncomputable def passes:List S->Option (List S)
 |[]=>some []
 |s::r=>match s.pass,passes r with|some b,some f=>some (b::f)|_,_=>none
structure After (K:ZV) (B:Addr->Prop) (H:Hp) (a:Addr) (o o':O) (H':Hp):Prop where
 same:Same (off (o.adr a) H) H'
 old:∀b,o.adr a b->o'.adr a b
 new:∀b,o'.adr a b->o.adr a b\/H b=none
 at_:OR K (off (λb=>B b\/o'.adr a b) H') H' a o'
noncomputable def spW(mg:ZZ)(c:Pw)(K:ZV):Sp:=λl H Q E=>∃(o:O) (a:Addr) (g:List S) (h:List V) (B:Addr->Prop) (R:O->D->Prop) (X:O->Str->Prop),
 l=.ref a::h/\(∀b,B b->Mut (H b)/\¬o.adr a b)/\OR K (off (λb=>B b\/o.adr a b) H) H a o/\TVs K (λb=>B b\/o.adr a b) (off (o.adr a) H) H H g h/\(∀s∈g,s.flat)/\c o g R X/\
 (∀f d v H',R f d->After K B H a o f H'->Rp K (off (λb=>B b\/f.adr a b) H') d v->Q v H')/\∀f e H',X f e->After K B H a o f H'->XE mg E e H'
def TVs.get:∀{b vs}{i:Nat}{s:S},TVs K Z H0 H H' b vs->b[i]?=some s->∃v,vs[i]?=some v/\TV K Z H0 H H' s v:=by
 intro n
 induction n with
 |nil=>
  intro _ i _ h e;simp at e
 |cons _ _ f=>
  intro _ i d h e;cases h with
  |cons h r=>
   cases i with
   |zero=>
    simp at e;subst e;exact⟨_,rfl,h⟩
   |succ i=>
    obtain⟨v,l,g⟩:=f r (by simpa using e);exact⟨v,by simpa using l,g⟩
noncomputable def Kg(N:Ye)(o:O)(b:List S):Γ:=some (.own o)::(b.map some++List.replicate (N.length-(b.length+1)) none)
def RE{o a f us}(Q:∀b,B b->Mut (H b)/\¬o.adr a b)(L:OR K (off (λb=>B b\/o.adr a b) H) H a o)(r:TVs K (λb=>B b\/o.adr a b) (off (o.adr a) H) H H f us)(J:∀s∈f,s.flat)(Y:f.length+1<=N.length) :
  JW K (off (o.adr a) H) B H (start N (.ref a::us)) (Kg N o f):=by
 have get:∀i s,(Kg N o f)[i+1]?=some (some s)->f[i]?=some s:=λi s h=>by
  unfold Kg at h;rw[List.getElem?_cons_succ]at h;by_cases p:i<f.length
  ·rw[W1 (by rw[YU];exact p),Wh,Wa p]at h;rw[Wa p];exact W2 some (Wg<|Wg h)
  ·rw[W5 (by rw[YU];lia),QN]at h;split at h<;>cases h
 have noown:∀i g,(Kg N o f)[i+1]?≠some (some<|.own g):=λi g h=>J _ (Wj<|get i _ h)
 have n:(start N (V.ref a::us))[0]?=some (some<|.ref a):=by
  unfold L2.start;rfl
 have A:∀b,zof B (Kg N o f) (start N (V.ref a::us)) b->B b\/o.adr a b:=λb z=>by
  rcases z with z|⟨i,g,a',l,u,T⟩
  ·exact .inl z
  ·cases i with
   |zero=>
    cases u
    have:o=g:=by
     cases l
     rfl
    subst this;exact .inr T
   |succ i=>exact absurd l (noown i g)
 refine⟨off_sub,?_,λb h=>(Q b h).1,λi j x U g w b l u _ _ _ _=>?_,λi s h=>?_⟩
 ·unfold L2.start Kg;simp[r.len]
 ·cases i with
  |succ i=>exact absurd l (noown i g)
  |zero=>
   cases j with
   |zero=>rfl
   |succ j=>exact absurd u (noown j w)
 ·cases i with
  |zero=>
   have h:=h;cases h
   refine⟨_,n,a,rfl,λb M=>?_,L.mono (Ug (Same.refl _) λb _ _ z y=>z (A b y)) λ_ _ _ q=>q⟩;unfold off;rw[Wc M]
  |succ i=>
   have G:=get i s h;obtain⟨v,C,tv⟩:=r.get G;refine⟨v,?_,?_⟩
   ·unfold L2.start;rw[W1 (by rw[YU,Qp];have:=(Wp.mp C).1;lia),Wh,List.getElem?_cons_succ,C];rfl
   ·have:=J s (Wj G)
    cases s with
    |bor d=>exact tv
    |sh d=>exact Rp.mono (Ug (Same.refl _) λb _ _ z y=>z (A b y)) tv
    |_=>exact this.elim
def Ax(o:O)(R:O->D->Prop)(γ:Γ)(d:D):Prop:=∃b,γ[0]?=some (some<|.own b)/\o.from b/\R b d
def IE(o:O)(X:O->Str->Prop)(γ:Γ)(e:Str):Prop:=∃b,γ[0]?=some (some<|.own b)/\o.from b/\X b e
noncomputable def BG(o:O)(R:O->D->Prop)(X:O->Str->Prop):XH:={nx:=λγ=>Ax o R γ .non,rt:=λ_=>False,ex:=IE o X,rv:=Ax o R}
def N1{σ'}{γ'}(n:OR K (off (λb=>B b\/o.adr a b) H) H a o)(e:JW K (off (o.adr a) H) B H' σ' γ')(h:γ'[0]?=some (some<|.own o'))(k:o.from o'):After K B H a o o' H'/\∀b,B b\/o'.adr a b->zof B γ' σ' b:=by
 obtain⟨v,s,f,rfl,r,l⟩:=e.slot 0 _ h;have u:=O.from_at k n l;subst u;have g:∀b,B b\/o'.adr f b->zof B γ' σ' b:=λb z=>z.imp id λz=>⟨0,o',f,h,s,z⟩;refine⟨⟨e.same,O.from_adr k,λb p=>?_,l.mono (Ug (Same.refl _) λb _ _ z y=>z (g b y)) λ_ _ _ q=>q⟩,g⟩
 have:=r b p
 unfold off at this;by_cases q:o.adr f b
 ·exact .inl q
 ·grind
def GE{t p vs Q U n}(h:spW mg c K vs H Q U)(J:Ui K mg (λ_=>U) t p)(hn:n+1<=N.length)(L:∀o s R X,c o s R X->s.length=n/\p (BG o R X) (Kg N o s)):t {nx:=λ_ H'=>Q .non H',rt:=Q} (start N vs) H:=by
 obtain⟨o,a,s,us,B,R,X,rfl,T,G,r,hf,hc,M,hX⟩:=h;obtain⟨e,L⟩:=L o s R X hc;refine J _ B H _ _ _ _ (λb z=>?_) (RE T G r hf<|by rw[e];exact hn) L ⟨λl q H' A C f1=>?_,λ_ _ _ z=>z.elim,λl q c H' A C f1=>?_,λ_ _ _ z=>z.elim,λ_ _ _ z=>z.elim,λl q d v H' A C f1 Y=>?_⟩
 ·obtain⟨g,f⟩:=T b z;obtain⟨x,hx⟩:=XB g;exact⟨x,U2 hx f⟩
 ·obtain⟨w,g,f,u⟩:=A;exact M w .non .non H' u (N1 G C g f).1 .non
 ·obtain⟨w,g,f,u⟩:=A;exact hX w c H' u (N1 G C g f).1
 ·obtain⟨w,g,f,u⟩:=A;obtain⟨k1,k2⟩:=N1 G C g f;exact M w d v H' u k1 (Rp.mono (Ug (Same.refl _) λb _ _ z y=>z (k2 b y)) Y)
def Hw(h:spW mg c K vs H Q p)(f:∀o b R X,c o b R X->b.length=n):vs.length=n+1:=by
 obtain⟨o,a,b,l,B,R,X,rfl,_,_,r,_,g,_⟩:=h;rw[Qp,r.len,f o b R X g]
abbrev PTW:=Γ->(Γ->D->Prop)->(Γ->Str->Prop)->Prop
def P1(K:ZV)(mg:ZZ)(E:L2.St->XK)(t:TE)(p:PTW):Prop:=∀(H0:Hp) (B:Addr->Prop) (H:Hp) (σ:L2.St) (γ:Γ) (R:Γ->D->Prop) (X:Γ->Str->Prop) (Q:VK),(∀b,B b->∃o,H0 b=some o)->JW K H0 B H σ γ->p γ R X->
 (∀f d v H',R f d->JW K H0 B H' σ f->Fr B H σ γ H' σ f->Rp K (off (zof B f σ) H') d v->Q v H')->(∀f c H',X f c->JW K H0 B H' σ f->Fr B H σ γ H' σ f->XE mg (E σ) c H')->t σ H Q
variable {te:TE}{w:PTW}
noncomputable def He(w:PTW):PTS:=λR γ=>w γ (λb _=>R.nx b) R.ex
def Ka(hw:P1 K mg E te w):Ui K mg E (TH te) (He w):=by
 intro H0 B H σ γ R D l f h e;exact hw H0 B H σ γ _ _ _ l f h (λb d v H1 n p f1 _=>e.nx σ b H1 n p f1) λb c H' g q o=>e.ex σ b c H' g q o
noncomputable def Zay(w:PTW):PTS:=λR γ=>w γ R.rv R.ex
def BX(hw:P1 K mg E te w):Ui K mg E (KP te) (Zay w):=by
 intro H0 B H σ γ R D n f h e;exact hw H0 B H σ γ _ _ _ n f h (λb d v H1 o q f1 g=>e.rv σ b d v H1 o q f1 g) λb c H' l r p=>e.ex σ b c H' l r p
noncomputable def Mg(a:PTE):PTS:=λR γ=>a γ (λs=>match s.shd with|some d=>R.rv γ d|none=>False) (R.ex γ)
def Hg(p:JR K mg E te a):Ui K mg E (KP te) (Mg a):=by
 intro H0 B H σ γ R D r b h e;refine p H0 B H σ γ _ _ _ b h (λs v H1 g f n=>?_) λc H' o l=>e.ex σ γ c H' o (b.grow l) (Fr.grow l);split at g
 ·rename_i d q;exact e.rv σ γ d v H1 g (b.grow f) (Fr.grow f) (n.shd (b.grow f).same b.zm f q)
 ·grind
def G4{s b:S}(h:s.pass=some b):b.flat:=by
 cases s with
 |bor d=>unfold S.pass at h;cases q:imm d<;>simp[q]at h<;>subst h<;>trivial
 |tmp d=>
  unfold S.pass at h;cases q:imm d<;>simp[q]at h
  subst h;trivial
 |view o=>cases h
 |_=>cases h;trivial
theorem Tr:∀{f b:List S},passes f=some b->∀s∈b,s.flat
 |[],_,h=>by cases h;simp
 |s::r,_,h=>by
  unfold passes at h;split at h
  ·rename_i n o l g;cases h
   intro x hx;rcases Wk.mp hx with rfl|hx
   ·exact G4 l
   ·exact Tr g x hx
  ·grind
def TV.pass {v P W f} (r:Same H0 H') (n:∀b,Z b->Mut (H b)) (x:Same H H') (p:Same H0 (off P f)) (l:Same (off Z H') (off W f)) (h:TV K Z H0 H H' s v) (e:s.pass=some g):TV K W (off P f) f f g v:=by
 have shd:∀d,s.shd=some d->Rp K (off W f) d v:=λd u=>Rp.mono l (h.shd r n x u);cases s with
 |view o=>cases e
 |tmp d=>
  unfold S.pass at e;cases q:imm d with
  |false=>simp_all
  |true=>simp[q]at e;subst e;exact shd d (by unfold S.shd;simp[q])
 |bor d=>
  unfold S.pass at e;cases q:imm d with
  |false=>simp[q]at e;subst e;exact Rp.mono p h
  |true=>simp[q]at e;subst e;exact shd d (by unfold S.shd;simp[q])
 |_=>cases e;exact shd _ rfl
theorem TVs.pass {HB} (p:Same H0 H') (n:∀b,Z b->Mut (H b)) (q:Same H H') (o:Same H0 (off P HB)) (l:Same (off Z H') (off W HB)):∀{g f}{vs:List V},TVs K Z H0 H H' g vs->passes g=some f->TVs K W (off P HB) HB HB f vs
 |_,_,_,.nil,e=>by cases e;exact .nil
 |_,_,_,.cons h r,e=>by
  unfold passes at e;split at e
  ·rename_i v x u s;cases e
   exact .cons (h.pass p n q o l u) (TVs.pass p n q o l r s)
  ·grind
def Gu{c:Pw}{i:Nat}{o:O}{a:Addr}{ss l:List S}{us:List V}{R:Γ->D->Prop}{X:Γ->Str->Prop}{Q:VK}{Ec:XK}(env:JW K H0 B H σ γ)(hB:∀b,B b->∃o,H0 b=some o)(U:Same H H1)(L:γ[i]?=some (some<|.own o))(G:σ[i]?=some (some<|.ref a))(t1:TVs K (zof B γ σ) H0 H H1 ss us)(hp:passes ss=some l)(hc:c o l (λo' d=>R (γ.set i<|some<|.own o') d) (λo' e=>X (γ.set i<|some<|.own o') e))(q:∀f d v H',R f d->JW K H0 B H' σ f->Fr B H σ γ H' σ f->Rp K (off (zof B f σ) H') d v->Q v H')(qx:∀f c H',X f c->JW K H0 B H' σ f->Fr B H σ γ H' σ f->XE mg Ec c H'):spW mg c K (.ref a::us) H1 Q Ec:=by
 have g:=env.grow U;obtain⟨v,h1,T,ev,h3,h4⟩:=g.slot i _ L;rw[G]at h1;cases h1
 cases ev
 have Y:∀b,o.adr a b->zof B γ σ b:=λb p=>.inr ⟨i,o,a,L,G,p⟩
 have J:∀o' H',After K (λb=>zof B γ σ b/\¬o.adr a b) H1 a o o' H'->JW K H0 B H' σ (γ.set i<|some<|.own o')/\Fr B H σ γ H' σ (γ.set i<|some<|.own o')/\∀b x,H' b=some x->¬((zof B γ σ b/\¬o.adr a b)\/o'.adr a b)->¬zof B (γ.set i<|some<|.own o') σ b:=λo' H' A=>by
  have C:∀b x,H' b=some x->¬((zof B γ σ b/\¬o.adr a b)\/o'.adr a b)->¬zof B (γ.set i<|some<|.own o') σ b:=λb x _ n z=>by
   rcases z with z|⟨j,fs,T,e1,M,N⟩
   ·refine n (.inl ⟨.inl z,λw=>?_⟩);obtain⟨u,hu⟩:=hB b z;rw[h3 b w]at hu;cases hu
   ·rcases Ux e1 with⟨ej,q,_⟩|⟨nj,q⟩
    ·subst ej;cases q
     rw[G]at M;cases M
     exact n (.inr N)
    ·exact n (.inl ⟨.inr ⟨j,fs,T,q,M,N⟩,λw=>nj (env.own j i T a fs o b q L M G N w)⟩)
  obtain⟨s,r⟩:=g.change (o':=o') (H':=H') L G (λb x hx n=>A.same b x (U2 hx n)) (λb p=>A.at_.mut b (A.old b p)) A.new (A.at_.mono (Ug (Same.refl _) λb x hx z=>C b x hx z) λ_ _ _ q=>q);exact⟨s,(Fr.grow U).trans r,C⟩
 refine⟨o,a,l,us,λb=>zof B γ σ b/\¬o.adr a b,_,_,rfl,λb p=>⟨g.zm b p.1,p.2⟩,h4.mono (Ug (Same.refl _) λb _ _ z y=>z (y.elim (λy=>y.1)<|Y b)) λ_ _ _ q=>q,?_,Tr hp,hc,λo' d v H' hR A rd=>?_,λo' e H' hX A=>?_⟩
 ·refine t1.pass g.same env.zm U (λb x hx=>U2 (g.same b x hx) λw=>?_) (Ug (Same.refl _) λb _ _ z y=>z (y.elim (λy=>y.1)<|Y b)) hp;rw[h3 b w]at hx;cases hx
 ·obtain⟨s,r,k3⟩:=J o' H' A;exact q _ d v H' hR s r (Rp.mono (λb x h=>let ⟨p1,p2⟩:=Xp h;U2 p1 (k3 b x p1 p2)) rd)
 ·obtain⟨s,r,_⟩:=J o' H' A;exact qx _ e H' hX s r
noncomputable def Za6(i:Nat)(c:Pw)(r:PTA):PTW:=λγ R X=>match γ[i]? with
 |some (some<|.own o)=>r γ (λg=>match passes g with|some b=>c o b (λf d=>R (γ.set i<|some<|.own f) d) (λf e=>X (γ.set i<|some<|.own f) e)|none=>False) (X γ)
 |_=>False
def AB(C:Addr)(xs:Ye)(j:Nat):S->(S->Prop)->Prop
 | .view (.ins _ f b h),R=>f=C/\b=xs/\∃c,h[j]?=some c/\R (.view<|.lst c.2)
 | .bor (.ins f b g),R=>f=C/\b=xs/\∃d,g[j]?=some d/\R (arg d)
 |_,_=>False
noncomputable def R5(C:Addr)(xs:Ye)(j:Nat)(a:PTE):PTE:=λγ R X=>a γ (λs=>AB C xs j s R) X
def Rp.ins_inv (h:Rp K H (.ins C xs ds) v):∃a b vs,v=.ref a/\H a=some (.ins C b<|xs.zip vs)/\xs.length=vs.length/\Rps K H ds vs:=by
 cases h with
 |ins h e r=>grind
def FldAt(f:Str)(xs:Ye)(j:Nat):Prop:=∀b:List V,xs.length=b.length->(xs.zip b).lookup f=b[j]?
def KY(j:Nat){a}(L:Cls K C)(G:NoAttr K C f)(J:FldAt f xs j)(ha:JR K mg E te a):JR K mg E (NB K te f) (R5 C xs j a):=by
 intro H0 B H σ γ R X Q l p q qx;refine ha H0 B H σ γ _ X _ l p (λs v H1 h z A=>?_) qx;have g:=l.grow z;unfold AB at h;split at h
 ·rename_i x C' n cs;obtain⟨rfl,rfl,c,M,o⟩:=h;obtain⟨b,rfl,T,N,⟨y,r⟩,e4,e5⟩:=A;obtain⟨U,u1,Y⟩:=e4 c (Wj M);refine⟨b,_,y,_,_,rfl,r,L,G,?_,q _ _ H1 o z ⟨c.1,rfl,U,u1,Y⟩⟩;rw[J _ (by grind),Wh,M];rfl
 ·rename_i C' n ds;obtain⟨rfl,rfl,d,ed,o⟩:=h;obtain⟨b,y,vs,rfl,T,N,r⟩:=Rp.ins_inv A;obtain⟨u,hu,ru⟩:=r.get ed;refine⟨b,_,y,_,u,rfl,g.same _ _ T,L,G,by rw[J _ N];exact hu,q _ _ H1 o z (KM g.zm g.same ru)⟩
 ·exact h.elim
noncomputable def CC(C:Addr)(xs:Ye)(c:Pc)(a:PTE)(r:PTA):PTE:=λγ R X=>a γ (λs=>match s.d with
 | .ins f b h=>f=C/\b=xs/\r γ (λg=>c (.ins f b h::g.map S.d) (λs=>R s.back) X) X
 |_=>False) X
def NoFld(m:Str)(xs:Ye):Prop:=∀b:List V,(xs.zip b).lookup m=none
noncomputable def II(C:Addr)(m:Str)(sp:Sp)(E:L2.St->XK)(f:TE)(t:TA):TE:=λσ H Q=>f σ H λx H1=>∃a g fs,x=.ref a/\H1 a=some (.ins C g fs)/\fs.lookup m=none/\t σ H1 λb h=>sp (x::(b++[])) h Q (E σ)
def Iy{m xs c z a r}(hx:NoFld m xs)(Y:JR K mg E te a)(N:U3 K mg E z r):JR K mg E (II C m (Ue mg c K) E te z) (CC C xs c a r):=by
 intro H0 B H σ γ R X Q h p q y;refine Y H0 B H σ γ _ X _ h p (λs v H1 o n L=>?_) y;have f:=h.grow n;split at o
 ·rename_i C' A ds ed;obtain⟨rfl,rfl,o⟩:=o;have x:=L.rp f.same;rw[ed]at x;obtain⟨b,dx,G,rfl,e1,e2,e3⟩:=Rp.ins_inv x;refine⟨b,dx,_,rfl,e1,hx G,N H0 B H1 σ γ _ X _ f o (λss us H2 h2 l J=>?_) λc H' U S'=>y c H' U (n.trans S')⟩;have g:=f.grow l;rw[WC];refine⟨_,_,X,Rps.cons (Rp.mono l x) (J.rps g.same),h2,λs v H' M u tv=>q _ _ H' M ((n.trans l).trans u) (tv.back g (n.trans l) u),λe H' T u=>y e H' T ((n.trans l).trans u)⟩
 ·grind
def U7{m xs c f a r b}(hx:NoFld m xs)(h:JR K mg (λ_=>b) te a)(g:U3 K mg (λ_=>b) f r):JR K mg (λ_=>b) (K0 C m (Ue mg c K) [] b te f) (CC C xs c a r):=Iy hx h g
noncomputable def Rn(C:Addr)(xs:Ye)(c:Pc)(a:PTE)(r:PTA):PTE:=λγ R X=>a γ (λs=>match s.d with
 | .ins f b h=>f=C/\b=xs/\r γ (λg=>c (.ins f b h::g.map S.d) (λs=>R s.back) λ_=>False) X
 |_=>False) X
def Xw{m xs c x a r}(hx:NoFld m xs)(Y:JR K mg E te a)(T:U3 K mg E x r):JR K mg E (K0 C m (Ue mg c K) [] E0 te x) (Rn C xs c a r):=by
 intro H0 B H σ γ R X Q h p q y;refine Y H0 B H σ γ _ X _ h p (λs v H1 l o M=>?_) y;have f:=h.grow o;split at l
 ·rename_i C' G ds ed;obtain⟨rfl,rfl,l⟩:=l;have u:=M.rp f.same;rw[ed]at u;obtain⟨b,dx,J,rfl,e1,e2,e3⟩:=Rp.ins_inv u;refine⟨b,dx,_,rfl,e1,hx J,T H0 B H1 σ γ _ X _ f l (λss us H2 h2 n L=>?_) λc H' U S'=>y c H' U (o.trans S')⟩;have g:=f.grow n;rw[WC];exact⟨_,_,_,Rps.cons (Rp.mono n u) (L.rps g.same),h2,λs v H' N A tv=>q _ _ H' N ((o.trans n).trans A) (tv.back g (o.trans n) A),λ_ _ z=>z.elim⟩
 ·grind
noncomputable def Zbd(i:Nat)(C:Addr)(xs:Ye)(c:Pw)(r:PTA):PTW:=λγ R X=>match γ[i]? with
 |some (some<|.own<|.ins x h b n)=>h=C/\b=xs/\r γ (λl=>match passes l with|some f=>c (.ins x h b n) f (λg d=>R (γ.set i<|some<|.own g) d) (λg e=>X (γ.set i<|some<|.own g) e)|none=>False) (X γ)
 |_=>False
noncomputable def Ej(i:Nat)(C:Addr)(xs:Ye)(c:Pw)(r:PTA):PTW:=λγ R X=>match γ[i]? with
 |some (some<|.own<|.ins x g b n)=>g=C/\b=xs/\r γ (λh=>match passes h with|some f=>c (.ins x g b n) f (λl d=>R (γ.set i<|some<|.own l) d) (λ_ _=>False)|none=>False) (X γ)
 |_=>False
def Ab(i:Nat){C m xs c f r}(hx:NoFld m xs)(A:U3 K mg E f r):P1 K mg E (K0 C m (spW mg c K) [] E0 (Xv i) f) (Ej i C xs c r):=by
 intro H0 B H σ γ R X Q J b h q y;unfold Ej at h;split at h
 ·rename_i x C' p cs l;obtain⟨rfl,rfl,h⟩:=h;obtain⟨v,g,a,rfl,_,e1,e2,⟨N,M⟩,e4⟩:=b.slot i _ l;refine⟨_,g,a,N,_,rfl,M,hx _,A H0 B H σ γ _ _ _ b h (λY U H1 n T s=>?_) λc H' G o=>y γ c H' G (b.grow o) (Fr.grow o)⟩;rw[WC];split at n
  ·rename_i u L;exact Gu (X:=λ_ _=>False) b J T l g s L n q λ_ _ _ z=>z.elim
  ·grind
 ·grind
theorem FA{f:Type}:∀{l:List f}{i j:Nat}{x:f},l.Nodup->l[i]?=some x->l[j]?=some x->i=j
 |[],_,_,_,_,h,_=>by simp at h
 |y::r,0,0,_,_,_,_=>rfl
 |y::r,0,j+1,x,b,n,g|y::r,i+1,0,x,b,n,g=>by
  grind
 |y::r,i+1,j+1,x,b,n,g=>W2 (· + 1) (FA (WO.mp b).2 (by trivial)<|by grind)
def JW.cell {f b ds es us} (env:JW K H0 B H σ γ) (L:γ[i]?=some (some<|.own<|.ins x C xs f)) (s:f[j]?=some (b,ds)) (r:Rps K (off (zof B γ σ) H) es us) :
  JW K H0 B (upd H b<|.lst us) σ (γ.set i<|some<|.own<|.ins x C xs<|f.set j (b,es))/\Fr B H σ γ (upd H b<|.lst us) σ (γ.set i<|some<|.own<|.ins x C xs<|f.set j (b,es)):=by
 obtain⟨v,Y,a,rfl,e0,e1,e2,⟨dx,e3⟩,e4,e5⟩:=env.slot i _ L;subst e1;have l:=Wj s
 have M:a≠b:=λz=>by
  obtain⟨T,o,_⟩:=e4 _ l;rw[←show a=b from z,e3]at o
  cases o
 have em:(f.set j (b,es)).map (·.1)=f.map (·.1):=by
  apply QS;intro k;rw[Wh,Wh,List.getElem?_set];by_cases e:j=k
  ·subst e;rw[Wc rfl,Wc ((Wp.mp s).1),s];rfl
  ·rw[YV e]
 have N:(f.set j (b,es)).map (λc=>V.ref c.1)=f.map λc=>V.ref c.1:=by
  have:=W2 (List.map V.ref) em
  rw[Q5,Q5]at this;exact this
 have adr:∀c,(O.ins a C xs<|f.set j (b,es)).adr a c->(O.ins a C xs f).adr a c:=λc g=>by
  rcases g with g|⟨d,hd,g⟩
  ·exact .inl g
  ·have:d.1∈(f.set j (b,es)).map (·.1):=QB hd
   rw[em]at this;obtain⟨d',A,p⟩:=W8.mp this;exact .inr ⟨d',A,g.trans p.symm⟩
 have y:∀c,(O.ins a C xs f).adr a c->zof B γ σ c:=λc g=>.inr ⟨i,_,a,L,Y,g⟩
 have So:Same (off (zof B γ σ) H) (off (zof B (γ.set i<|some<|.own<|.ins a C xs<|f.set j (b,es)) σ)<|upd H b<|.lst us):=λc u h=>by
  obtain⟨A,p⟩:=Xp h;have G:=λz=>p (y c<|.inr ⟨_,l,z⟩);refine U2 (by rw[JX G];exact A) λz=>p ?_;rcases z with z|⟨k,fs,a',k1,k2,U⟩
  ·exact .inl z
  ·rcases Ux k1 with⟨Q,q,_⟩|⟨_,q⟩
   ·subst Q;cases q
    exact y c (adr c U)
   ·exact .inr ⟨k,fs,a',q,k2,U⟩
 refine env.change L Y (λc u hu n=>?_) (λc g=>?_) (λc g=>.inl (adr c g)) ⟨rfl,by rw[WY];exact e2,⟨dx,?_⟩,λc g=>?_,by rw[em];exact e5⟩
 ·rw[JX λz=>n (.inr ⟨_,l,z⟩)];exact hu
 ·by_cases z:c=b
  ·rw[z,Um];trivial
  ·rw[JX z];exact env.zm c (y c g)
 ·rw[JX M,N];exact e3
 ·obtain⟨k,hk,Q⟩:=List.getElem_of_mem g;have J:(f.set j (b,es))[k]?=some c:=by rw[Wa hk,Q]
  rcases Ux J with⟨_,q,_⟩|⟨nk,q⟩
  ·subst q;exact⟨us,Um,Rps.mono So r⟩
  ·obtain⟨T,o,w2⟩:=e4 c (Wj q)
   have G:=λz=>nk (by
    have h1:(f.map (·.1))[k]?=some b:=by rw[Wh,q];exact W2 some z
    have h2:(f.map (·.1))[j]?=some b:=by rw[Wh,s];rfl
    exact FA e5 h1 h2)
   exact⟨T,by rw[JX G];exact o,Rps.mono So w2⟩
noncomputable def Cd(i j:Nat)(C:Addr)(xs:Ye)(a:PTE):PTW:=λγ R X=>match γ[i]? with
 |some (some<|.own<|.ins x g b f)=>g=C/\b=xs/\∃c,f[j]?=some c/\a γ (λs=>match s.shd with
  |some d=>c.2.length<10000000/\R (γ.set i<|some<|.own<|.ins x g b<|f.set j (c.1,c.2++[d])) .non
  |none=>False) (X γ)
 |_=>False
def NC(i j:Nat){C f xs a}(p:Cls K C)(hn:NoAttr K C f)(hj:FldAt f xs j)(ha:JR K mg E te a):P1 K mg E (tBM K "list" NW (NB K (Xv i) f)<|UJ te Xe) (Cd i j C xs a):=by
 intro H0 B H σ γ R X Q hB g h q T;unfold Cd at h;split at h
 ·rename_i x C' M cs J;obtain⟨rfl,rfl,c,r,h⟩:=h;obtain⟨v,hv,b,rfl,_,e1,e2,⟨dx,e3⟩,e4,e5⟩:=g.slot i _ J;obtain⟨y,G,A⟩:=e4 c (Wj r);refine⟨_,hv,b,_,dx,_,V.ref c.1,rfl,e3,p,hn,?_,.inl ⟨rfl,y,SqL.of G⟩,ha H0 B H σ γ _ _ _ g h (λs u H1 o n N=>?_) λc H' p L=>T γ c H' p (g.grow L) (Fr.grow L)⟩
  ·rw[hj _ (by grind),Wh,r];rfl
  ·have l:=g.grow n;split at o
   ·rename_i d ed;refine⟨c.1,y,u,rfl,rfl,n _ _ G,by rw[A.len];exact Q0 o.1 (by decide),?_⟩;obtain⟨Y,U⟩:=l.cell J r (Rps.append (Rps.mono (Ug n λ_ _ _ z=>z) A)<|.cons (N.shd l.same g.zm n ed) .nil);exact q _ _ _ _ o.2 Y ((Fr.grow n).trans U) .non
   ·exact o.elim
 ·exact h.elim
def PutAt(f:Str)(xs:Ye):Prop:=∀(b:List V) (y:V),xs.length=b.length->UL f y (xs.zip b)=(xs++[f]).zip (b++[y])
noncomputable def Zai(i:Nat)(C:Addr)(f:Str)(xs:Ye)(a:PTE):PTS:=λR γ=>a γ (λs=>match s with
 | .own (.lst l)=>(match γ[i]? with
  |some (some<|.own<|.ins x h g n)=>h=C/\g=xs/\xs.length<1000/\∀b,R.nx (γ.set i<|some<|.own<|.ins x h (xs++[f]) (n++[(b,l)]))
  |_=>False)
 |_=>False) (R.ex γ)
def Sn(i:Nat){C f xs a}(g:Cls K C)(hn:NoAttr K C f)(hp:PutAt f xs)(ha:JR K mg E te a):Ui K mg E (D3 K (Xv i) te f) (Zai i C f xs a):=by
 intro H0 B H σ γ R D hB p h e;refine ha H0 B H σ γ _ _ _ p h (λs v H1 G Q t1=>?_) λc H' g S'=>e.ex σ γ c H' g (p.grow S') (Fr.grow S');split at G
 ·rename_i ds;split at G
  ·rename_i x M o r hi;obtain⟨rfl,rfl,hl,G⟩:=G;obtain⟨u,hv,b,rfl,e0,e1,e2,⟨dx,e3⟩,e4,e5⟩:=p.slot i _ hi;subst e1;obtain⟨l,rfl,L,vs,l1,l2⟩:=t1;have L:=L l rfl;refine⟨_,hv,b,_,dx,_,rfl,Q _ _ e3,g,hn,?_,?_⟩
   ·rw[List.length_zip,YU];lia
   ·rw[hp _ _ (by rw[YU];exact e2)]
    have nl:∀c∈r,c.1≠l:=λc g=>by
     obtain⟨ws,J,_⟩:=e4 c g;exact UF J L
    have nb:∀c∈r,c.1≠b:=λc g z=>by
     obtain⟨ws,J,_⟩:=e4 c g;rw[z,e3]at J;cases J
    have T:∀c,(O.ins b M o r).adr b c->zof B γ σ c:=λc g=>.inr ⟨i,_,b,hi,hv,g⟩
    have key:∀c u,H1 c=some u->¬(zof B γ σ c\/c=l)->¬zof B (γ.set i<|some<|.own<|.ins b M (o++[f]) (r++[(l,ds)])) σ c:=λc u _ n z=>by
     rcases z with z|⟨k,fs,a',k1,N,A⟩
     ·exact n (.inl<|.inl z)
     ·rcases Ux k1 with⟨ek,q,_⟩|⟨_,q⟩
      ·subst ek;cases q
       rw[hv]at N;cases N
       rcases A with A|⟨d,hd,A⟩
       ·exact n (.inl<|T c<|.inl A)
       ·rcases Wu.mp hd with hd|hd
        ·exact n (.inl<|T c<|.inr ⟨d,hd,A⟩)
        ·rw[YW]at hd;subst hd;exact n (.inr A)
      ·exact n (.inl<|.inr ⟨k,fs,a',q,N,A⟩)
    have So:Same (off (λc=>zof B γ σ c\/c=l) H1) (off (zof B (γ.set i<|some<|.own<|.ins b M (o++[f]) (r++[(l,ds)])) σ)<|upd H1 b<|.ins M dx ((o++[f]).zip ((r.map λc=>V.ref c.1)++[.ref l]))):=λc u h=>by
     obtain⟨Y,U⟩:=Xp h;exact U2 (by rw[JX λz=>U (.inl<|T c<|.inl z)];exact Y) (key c u Y U)
    have S0:Same (off (zof B γ σ) H) (off (λc=>zof B γ σ c\/c=l) H1):=Ug Q λc u g z y=>y.elim z λy=>by rw[y,L]at g;cases g
    obtain⟨k1,N⟩:=p.change (o':=.ins b M (o++[f]) (r++[(l,ds)])) (H':=upd H1 b (.ins M dx ((o++[f]).zip ((r.map λc=>V.ref c.1)++[.ref l])))) hi hv
     (λc u hu n=>by rw[JX λz=>n (.inl z)];exact Q _ _ hu)
     (λc g=>by
      by_cases z:c=b
      ·rw[z,Um];trivial
      ·rw[JX z];exact(p.grow Q).zm c (T c g))
     (λc g=>by
      rcases g with g|⟨d,hd,g⟩
      ·exact .inl (.inl g)
      ·rcases Wu.mp hd with hd|hd
       ·exact .inl (.inr ⟨d,hd,g⟩)
       ·rw[YW]at hd;subst hd;exact .inr (by rw[show c=l from g];exact L))
     ⟨rfl,by rw[Wv,Wv,e2];rfl,⟨dx,by rw[Um,Ww];rfl⟩,λc g=>by
      rcases Wu.mp g with g|g
      ·obtain⟨ws,J,w2⟩:=e4 c g;exact⟨ws,by rw[JX (nb c g)];exact Q _ _ J,Rps.mono So (Rps.mono S0 w2)⟩
      ·rw[YW]at g;subst g;exact⟨vs,by rw[JX (λz=>(UF e3 L) z.symm)];exact l1,Rps.mono So l2⟩,by
      rw[Ww,Vt]
      exact⟨e5,by simp,λc g d hd z=>by
       obtain⟨c',Y,U⟩:=W8.mp g
       have:d=l:=by simpa using hd
       exact nl c' Y (U.trans<|z.trans this)⟩⟩
    exact e.nx _ _ _ (G l) k1 N
  ·exact G.elim
 ·exact G.elim
def GW{c}{M l}{us}{R:S->Prop}{X:XR}{Q:VK}{Ec}(env:JW K H0 B H σ γ)(p:Same H H1)(T:TVs K (zof B γ σ) H0 H H1 M us)(N:passes M=some l)(h1:∀x,c (.ins x C [] []) l (λo' d=>d=.non/\R (.own o')) (λ_ e=>X e))(q:∀s v H',R s->Same H H'->TV K (zof B γ σ) H0 H H' s v->Q v H')(Y:∀c H',X c->Same H H'->XE mg Ec c H') :
  ∀x h,H1 x=none->H1 h=none->h≠x->spW mg c K (.ref x::us) (upd (upd H1 h<|.own x) x<|.ins C h []) (λv H2=>v=.non/\Q (.ref x) H2) Ec:=by
 have f:=env.grow p;intro x h n J nex
 have u:Same H1 (upd (upd H1 h<|.own x) x<|.ins C h []):=λb o e=>by
  rwa[JX (UF e n),JX (UF e J)]
 have r:∀o' H',After K (zof B γ σ) (upd (upd H1 h<|.own x) x<|.ins C h []) x (.ins x C [] []) o' H'->Same H1 H'/\∀b,o'.adr x b->H b=none:=λo' H' A=>by
  refine⟨λb o e=>A.same b o (U2 (u b o e) λz=>?_),λb G=>?_⟩
  ·rcases z with z|⟨c,g,_⟩
   ·rw[z,n]at e;cases e
   ·cases g
  ·rcases A.new b G with(z|⟨c,g,_⟩)|z
   ·rw[z];exact p.free n
   ·cases g
   ·exact p.free (u.free z)
 refine⟨.ins x C [] [],x,l,us,zof B γ σ,_,_,rfl,λb G=>⟨XG u (f.zm b G),λz=>?_⟩,⟨rfl,rfl,⟨h,Um⟩,(λc g=>by cases g),QL⟩,?_,Tr N,h1 x,λo' d v H' L A U=>?_,λo' e H' hX A=>?_⟩
 ·rcases z with z|⟨c,g,_⟩
  ·have:=f.zm b G
   rw[z,n]at this;exact this
  ·cases g
 ·refine T.pass f.same env.zm p (λb o e=>U2 (u _ _<|f.same b o e) λz=>?_) (Ug u λb o e z y=>?_) N
  ·rcases z with z|⟨c,g,_⟩
   ·rw[z,(f.same).free n]at e;cases e
   ·cases g
  ·rcases y with y|y|⟨c,g,_⟩
   ·exact z y
   ·rw[y,n]at e;cases e
   ·cases g
 ·obtain⟨rfl,L⟩:=L;obtain⟨k1,k2⟩:=r o' H' A;exact⟨Rp.non_inv U,q _ _ H' L (p.trans k1) ⟨x,rfl,k2,A.at_⟩⟩
 ·exact Y e H' hX (p.trans (r o' H' A).1)
noncomputable def RG(C:Addr)(c:Pw)(r:PTA):PTE:=λγ R X=>r γ (λf=>match passes f with|some b=>∀x,c (.ins x C [] []) b (λg d=>d=.non/\R (.own g)) (λ_ _=>False)|none=>False) X
def AQ{f r}(o:U3 K mg E f r):JR K mg E (SG C (spW mg c K) [] E0 f) (RG C c r):=by
 intro H0 B H σ γ R X Q b p q n;refine o H0 B H σ γ _ X _ b p (λx v H1 g u h=>?_) n;split at g
 ·rename_i l s;rw[WC];exact GW b u h s g q λ_ _ z=>z.elim
 ·grind
end
def Tg{b:Type}{us:List b}(h:us.length=1):∃a,us=[a]:=List.length_eq_one_iff.mp h
def Px{f:Type}{us:List f}(h:us.length=2):∃a b,us=[a,b]:=by
 cases us with
 |nil=>grind
 |cons a r=>obtain⟨b,rfl⟩:=Tg (by simpa using h);exact⟨a,b,rfl⟩
def T4{f:Type}{us:List f}(h:us.length=3):∃a b c,us=[a,b,c]:=by
 cases us with
 |nil=>grind
 |cons a r=>obtain⟨b,c,rfl⟩:=Px (by simpa using h);exact⟨a,b,c,rfl⟩
def N8{f:Type}{us:List f}(h:us.length=4):∃a b c d,us=[a,b,c,d]:=by
 cases us with
 |nil=>grind
 |cons a r=>obtain⟨b,c,d,rfl⟩:=T4 (by simpa using h);exact⟨a,b,c,d,rfl⟩
def RZ{f:Type}{us:List f}(h:us.length=5):∃a b c d e,us=[a,b,c,d,e]:=by
 cases us with
 |nil=>grind
 |cons a r=>obtain⟨b,c,d,e,rfl⟩:=N8 (by simpa using h);exact⟨a,b,c,d,e,rfl⟩
structure Uo (K:ZV) (W:Addr->Prop) (x q:Str) (st:Stmt) (ps:Ye):Prop where
 ex:∃f fd,Fun K x q st f fd/\W f/\Binds K fd ps []
structure Xh (P:Program) (w:World) (K:ZV) (mg:ZZ) (base:Heap) (CX:CXT) (k:Nat) (W:Addr->Prop) (ps:Ye) (sp:Sp):Prop where
 ex:∃f fd,UN P w K mg base CX k f fd ps sp/\W f/\Binds K fd ps []
section
variable {P:Program}{w:World}{K:ZV}{mg:ZZ}{base:Heap}{W:Addr->Prop}
def Uo.ok {st N ps k sp} (D:Uo K W x q st ps) (S:JY N ps (JT st)) (len:∀vs H Q E,sp vs H Q E->vs.length=ps.length)
  (g:∀f b A outer s H vs Q E,JZ k (A.deeper<|envOfC q (JT st) s.heap.objs.size f b)->sp vs H Q E->
   ∃t,PSs (U1 CX0 P w K mg base N q (JT st) f b A outer s H E).nox (Uw st) t/\t {nx:=λ_ H'=>Q .non H',rt:=Q} (start N vs) H):Xh P w K mg base CX0 (k+1) W ps sp:=by
 obtain⟨f,p,F,n,o⟩:=D.ex;exact⟨f,p,F.ok S len λb A outer s H vs Q E l h=>g f b A outer s H vs Q E l h,n,o⟩
def Uo.okX {st N ps k sp} (D:Uo K W x q st ps) (S:JY N ps (JT st)) (len:∀vs H Q E,sp vs H Q E->vs.length=ps.length)
  (g:∀f b A outer s H vs Q E,JZ k (A.deeper<|envOfC q (JT st) s.heap.objs.size f b)->sp vs H Q E->
   ∃t,PSs (U1 (ExcR.CXe P w) P w K mg base N q (JT st) f b A outer s H E) (Uw st) t/\t {nx:=λ_ H'=>Q .non H',rt:=Q} (start N vs) H):Xh P w K mg base (ExcR.CXe P w) (k+1) W ps sp:=by
 obtain⟨f,B,F,r,u⟩:=D.ex;obtain⟨oc,z,kV,v,y,G,b,C,n,rfl,o,l⟩:=F.ex;exact⟨f,_,B4 o l S len λA outer s H vs Q E p h=>g f b A outer s H vs Q E p h,r,u⟩
def Ks:Xj (ExcR.CXe P w) X E0:=λ_ _ _ _ _ _ _ h=>by
 obtain⟨a,T,C,b,f,_,_,z⟩:=h
 grind
end
section
variable {X:Cx}{CX:CXT}{k:Nat}{Cc:Addr}{ps:Ye}{sp:Sp}{E:XK}{ES:L2.St->XK}{x m:Str}{p pos apos:Pos}{e o:Expr}{es:Yf}{ta:TE}{t:TA}
def UC{pl}(C:Xh X.prog X.w X.K X.mg X.base CX k (Up X.K Cc m) ps sp)(c:Cls X.K Cc)(n:JZ k X.A)(hx:Xj CX X E)(r:PE X o ta)(u:PA X (e::es) t)(b:autoParam (starEach (e::es) X.env=(false,eval e X.env)::starEach es X.env) au_0)(g:autoParam ((backTo pos<|starEach es X.env).any (·.1)=false) au_0)
  (l:autoParam (eval (.Call (.Attribute o m apos) (e::es) [] pos) X.env=(do
   let h ←eval o X.env
   standAt apos.atName
   let (f,first) ←holding [h] (getMethod h m pl)
   callWith pos f first (backTo pos<|starEach (e::es) X.env) (backToKw pos<|keywordEach [] X.env))) au_0) :
  PE X (.Call (.Attribute o m apos) (e::es) [] pos) (K0 Cc m sp [] E ta t):=by
 obtain⟨f,v,F,q,s⟩:=C.ex;exact HV r c q F n s .nil hx u b g l
def U8(C:Xh X.prog X.w X.K X.mg X.base CX k (Up X.K Cc m) ps sp)(c:Cls X.K Cc)(h:JZ k X.A)(hx:Xj CX X E)(n:PE X o ta)
  (g:autoParam (eval (.Call (.Attribute o m apos) [] [] pos) X.env=(do
   let b ←eval o X.env
   standAt apos.atName
   let (f,first) ←holding [b] (getMethod b m r)
   callWith pos f first (backTo pos<|starEach [] X.env) (backToKw pos<|keywordEach [] X.env))) au_0) :
  PE X (.Call (.Attribute o m apos) [] [] pos) (K0 Cc m sp [] E ta Xe):=by
 obtain⟨f,s,F,l,q⟩:=C.ex;exact EC n c l F h q .nil hx g
def BW(C:Xh X.prog X.w X.K X.mg X.base CX k (Mk X.K Cc) ps sp)(l:X.mg x=some (.ref Cc))(h:JZ (k+1) X.A)(hx:Xj CX X E)(s:PA X (e::es) t)(n:autoParam (Gl X x) au_0)(g:autoParam ((x==("__debug__" : Str))=false) au_1)(q:autoParam (starEach (e::es) X.env=(false,eval e X.env)::starEach es X.env) au_0)(b:autoParam ((backTo pos<|starEach es X.env).any (·.1)=false) au_0) :
  PE X (.Call (.Name x p) (e::es) [] pos) (SG Cc sp [] E t):=by
 obtain⟨f,u,F,M,r⟩:=C.ex;exact Gc M F h n l r .nil hx s g q b
end
abbrev PTF:=Γ->Str->(Str->Prop)->XR->Prop
section
variable {K:ZV}{mg:ZZ}{E:L2.St->XK}{t:ExcR.TF}{p:PTF}{te:TE}{a:PTE}
def KW(K:ZV)(mg:ZZ)(E:L2.St->XK)(t:ExcR.TF)(p:PTF):Prop:=∀(l:Hp) (B:Addr->Prop) (H:Hp) (g:L2.St) (h:Γ) (b:Str) (R:Str->Prop) (X:XR) (Q:Str->Hp->Prop),JW K l B H g h->p h b R X->
 (∀x f,R x->Same H f->Q x f)->(∀c f,X c->Same H f->XE mg (E g) c f)->t g H b Q
noncomputable def Zag:PTF:=λ_ b R _=>b.length<=sizeLine/\R b
def Kn:KW K mg E ExcR.Ei Zag:=λn B H g l b R X Q f h q _=>⟨h.1,q _ H h.2 (Same.refl _)⟩
noncomputable def Hu(x:Str)(p:PTF):PTF:=λf b R X=>(b++x).length<=sizeLine/\p f (b++x) R X
def Xn(h:KW K mg E t p):KW K mg E (ExcR.Cv x t) (Hu x p):=λr B H g l o R X Q b f q n=>⟨f.1,h r B H g l _ R X Q b f.2 q n⟩
noncomputable def L0(a:PTE)(p:PTF):PTF:=λf b R X=>a f (λs=>match s.d with
 | .int i=>i.natAbs.log2<1920/\(b++(Str.ofString<|toString i)).length<=sizeLine/\p f (b++Str.ofString (toString i)) R X
 | .str x=>x.length<=sizeLine/\(b++x).length<=sizeLine/\p f (b++x) R X
 |_=>False) X
def Kc(M:JR K mg E te a)(h:KW K mg E t p):KW K mg E (ExcR.Cz te t) (L0 a p):=λA B H u w J R X Q n L q y=>by
 refine M A B H u w _ X _ n L (λs v C f o G=>?_) y;have b:=n.grow o;have r:=G.rp b.same;split at f
 ·rename_i i ei;rw[ei]at r;exact .inl ⟨i,r.int_inv,f.1,f.2.1,h A B C u w _ R X Q b f.2.2 (λx l hx g=>q x l hx (o.trans g)) λc l z g=>y c l z (o.trans g)⟩
 ·rename_i x N;rw[N]at r;exact .inr ⟨x,r.str_inv,f.1,f.2.1,h A B C u w _ R X Q b f.2.2 (λx l hx g=>q x l hx (o.trans g)) λc l z g=>y c l z (o.trans g)⟩
 ·grind
noncomputable def pF(p:PTF):PTE:=λb R X=>p b Str.empty (λx=>R (.sh<|.str x)) X
def K6(h:KW K mg E t p):JR K mg E (ExcR.tF t) (pF p):=λr B H f g R X Q b n q l=>
 h r B H f g _ _ X _ b n (λx s hx o=>q _ _ s hx o (.str x)) l
end
open M
noncomputable abbrev plD(f:ZW):D:=.lst (f.map prD)
noncomputable abbrev dD(q:Str×ZX):D:=.tup (.str q.1::q.2.map D.int)
noncomputable abbrev vF:Ye:=["book","fields","wished"]
noncomputable abbrev vO(C x b1 f b:Addr)(bk:List (Str×ZX))(fs ws:List (ZW)):O:=.ins x C vF [(b1,bk.map dD),(f,fs.map plD),(b,ws.map plD)]
noncomputable abbrev UV(C:Addr)(bk:List (Str×ZX))(fs ws:List (ZW)):D:=.ins C vF [.lst (bk.map dD),.lst (fs.map plD),.lst (ws.map plD)]
def DT{b:Type}(f:b->D)(xs:List b)(x:b):atI ((xs++[x]).map f) (-1)=some (f x):=by
 refine PY ?_;unfold atI ixN;rw[YV (by lia),Wc (by grind)];show(xs++[x])[_]?=some x;have e:((-1:Int)+((xs++[x]).length:Int)).toNat=xs.length:=by grind
 rw[e,W5 (Wf _),Nat.sub_self];rfl
def Xm(e:Option Str)(X:Str->Prop)(R:Prop):Prop:=match e with|some c=>X c|none=>R
noncomputable def Pf(h:Int):Option Str:=if 1<=h/\h<=10 then none else some "BadHolder"
noncomputable def Kb:ZW->Option Str
 |[]=>none
 |q::r=>if ¬(1<=q.1/\q.1<=10)then some "BadHolder" else if ¬(1<=q.2/\q.2<=1000)then some "BadWidth" else Kb r
noncomputable def XY(ps:ZW):Option Str:=if 40<ps.length then some "TooManyStrips" else Kb ps
theorem F8:∀{ps:ZW},Field ps->Kb ps=none
 |[],_=>rfl
 |q::r,h=>by
  obtain⟨l,g,f,b⟩:=h q W3;unfold Kb;rw[YV (λz=>z ⟨l,g⟩),YV (λz=>z ⟨f,b⟩)];exact F8 λx hx=>h x (Wm _ hx)
def Oe(h:Field ps)(b:ps.length<=40):XY ps=none:=by
 unfold XY;rw[YV (by lia)];exact F8 h
noncomputable def TY(ps:ZW)(p:Int):Option Str:=if p<1\/(ps.length:Int)<p then some "NoStrip" else none
noncomputable def Uu(ps:ZW)(p:Int):Int×Int:=ps.getD (p-1).toNat (0,0)
noncomputable def PD(ps:ZW)(p h:Int):Option Str:=if p<1\/(ps.length:Int)<p then some "NoStrip" else if ¬(1<=h/\h<=10)then some "BadHolder" else if (Uu ps p).1=h then some "OwnStrip" else none
noncomputable def E5(ps:ZW)(p h:Int):ZW:=ps.set (p-1).toNat (h,(Uu ps p).2)
def Zat{ps:ZW}{p:Int}{x}(f:1<=p)(b:p<=ps.length):cutD (ps.map prD) none (some (p-1))++[prD x]++cutD (ps.map prD) (some p) none=(ps.set (p-1).toNat x).map prD:=by
 rw[Pe,Pe,Nr ps (by lia),B8 ps (by lia)];have e:p.toNat=(p-1).toNat+1:=by lia
 rw[e,List.set_eq_take_append_cons_drop,Wc (by lia),Ww,Wz,List.append_assoc];rfl
def Nf{p}(f:1<=p)(b:p<=ps.length):atI (ps.map prD) (p-1)=some (prD<|Uu ps p):=by
 rw[MP (by lia) (by lia)];unfold Uu;rw[Wr,Wa (by lia)];rfl
def Tc(q:Int×Int)(r:ZW):Kb (q::r)=if ¬(1<=q.1/\q.1<=10)then some ("BadHolder" : Str)else if ¬(1<=q.2/\q.2<=1000)then some ("BadWidth" : Str)else Kb r:=rfl
noncomputable def To(ps:ZW)(p w:Int):Option Str:=if p<1\/(ps.length:Int)<p then some "NoStrip" else if w<1\/(Uu ps p).2<=w then some "BadPart" else if 40<=ps.length then some "TooManyStrips" else none
noncomputable def Nv(ps:ZW)(p w:Int):ZW:=ps.take (p-1).toNat++[((Uu ps p).1,w),((Uu ps p).1,(Uu ps p).2-w)]++ps.drop p.toNat
def Gs{p w}(b:1<=p):cutD (ps.map prD) none (some (p-1))++[prD ((Uu ps p).1,w),prD ((Uu ps p).1,(Uu ps p).2-w)]++cutD (ps.map prD) (some p) none=(Nv ps p w).map prD:=by
 rw[Pe,Pe,Nr ps (by lia),B8 ps (by lia)];unfold Nv
 grind
noncomputable def X1(ws:ZW)(a b:Int):Option Str:=if ¬(1<=a/\a<=10)then some "BadHolder" else if ¬(1<=b/\b<=10)then some "BadHolder" else if a=b then some "LikeHolders" else if (a,b)∈ws then some "WishStands" else if 20<=ws.length then some "TooManyWishes" else none
noncomputable def KJ(ws:ZW)(a b:Int):Option Str:=if (a,b)∈ws then none else some "NoWish"
noncomputable def PJ(ws:ZW)(a b:Int):ZW:=ws.filter λq=>!decide (q=(a,b))
noncomputable def Pg(ps:ZW)(p:Int):Option Str:=if p<1\/(ps.length:Int)<=p then some "NoStrip" else if ¬(Uu ps p).1=(Uu ps (p+1)).1 then some "UnlikeHolders" else if 1000<(Uu ps p).2+(Uu ps (p+1)).2 then some "TooWide" else none
noncomputable def BA(ps:ZW)(p:Int):ZW:=ps.take (p-1).toNat++[((Uu ps p).1,(Uu ps p).2+(Uu ps (p+1)).2)]++ps.drop (p+1).toNat
def Ga{p}(b:1<=p):cutD (ps.map prD) none (some (p-1))++[prD ((Uu ps p).1,(Uu ps p).2+(Uu ps (p+1)).2)]++cutD (ps.map prD) (some (p+1)) none=(BA ps p).map prD:=by
 rw[Pe,Pe,Nr ps (by lia),B8 ps (by lia)];unfold BA
 grind
noncomputable def Pq(ps:ZW)(os:ZX):Option Str:=if os.isPerm (U9 ps)=true then none else some "BadOrder"
def EO{os ns}(b:ns.Perm os)(f:ns.Pairwise (·<=·)):(ns=U9 ps)↔os.isPerm (U9 ps)=true:=by
 rw[List.isPerm_iff];exact⟨λz=>z▸b.symm,λz=>LF z b f⟩
noncomputable abbrev d3(k:Str)(a b:Int):D:=.tup [.str k,.int a,.int b]
end Pu
namespace M
open L2 Own Pu
def B5{o:ZX}(f:Field ps)(h:o.Perm (U9 ps)):∀p∈ps,p.1∈o:=λp b=>h.mem_iff.mpr ((A0 f).mpr (W8.mpr ⟨p,b,rfl⟩))
end M
namespace Pu
open L2 Own
section
variable {K:ZV}{mg:ZZ}{E:L2.St->XK}
noncomputable def Aj(K:ZV):R2:=λx y H Q=>∃(p q:Addr) (xs b:List V),x=.ref p/\y=.ref q/\SqT K H p xs/\SqT K H q b/\xs.all UM=true/\b.all UM=true/\Q (.bl (!eqL xs b)) H
def HW(r:X.A.units<cLine)(z:autoParam (X.K=K) au_0):OpR X (compareOp .NotEq) (Aj K):=by
 subst z;intro pins s J H x y v u Q I n l h;obtain⟨p,q,xs,b,rfl,rfl,w,hq,f1,G,k⟩:=h;obtain rfl:=n;obtain rfl:=l;obtain⟨M,g,o,_⟩:=I.tuple w;obtain⟨L,f,p2,_⟩:=I.tuple hq;have T:=g.length;have N:=f.length;refine SeqAt.RcNeAt.tuples o p2 r (λj C B=>Nu g f f1 G j C B) _ _ _ _ ⟨.bl (!eqL xs b),H,I,?_,k⟩;show _=Value.bool (!eqL xs b);unfold eqL;by_cases e:xs.length=b.length
 ·grind
 ·grind
def BF:S->S->(S->Prop)->Prop:=λx y R=>∃xs b:ZX,x.d=.tup (xs.map D.int)/\y.d=.tup (b.map D.int)/\R (.sh<|.bl (!decide (xs=b)))
def EL{a b}(J:JR K mg E z a)(G:JR K mg E w b):JR K mg E (tOp (Aj K) z w) (p2 a b BF):=by
 refine X0 J G λH0 H T Z x y v u R Q g s1 hm s r h q=>?_;obtain⟨xs,U,N,M,L⟩:=h;have n:=s.rp g;have l:=r.rp g;rw[N]at n;rw[M]at l;obtain⟨p,us,rfl,o,B⟩:=Rp.tup_inv n;obtain⟨C,Y,rfl,f,A⟩:=Rp.tup_inv l;rw[B.ints]at o;rw[A.ints]at f;refine⟨p,C,_,_,rfl,rfl,SqT.of o,SqT.of f,Ku _,Ku _,?_⟩;rw[Bu];exact q _ _ T L (Same.refl _) (.bl _)
def Ot{R}(h:R (.sh<|.bl (!decide (p=q)))):BF (.sh<|prD p) (.sh<|prD q) R:=by
 refine⟨[p.1,p.2],[q.1,q.2],rfl,rfl,?_⟩;have e:decide ([p.1,p.2]=[q.1,q.2])=decide (p=q):=by grind
 rw[e];omega
end
structure DI (K:ZV) (x:Str) (st:Stmt):Prop where
 ex:∃f fd,PySem.W.nsIn K mainGlobals x=some (some<|.ref f)/\Fun K x x st f fd
structure MI (K:ZV) (C:Addr) (m q:Str) (st:Stmt):Prop where
 ex:∃f fd,PySem.W.findIn K (.ref C) m=some (some<|.ref f)/\PySem.W.isFn K (.ref f)=true/\Fun K m q st f fd
section
variable {K:ZV}{h:Heap}{mg:ZZ}
def di{st f oc p q g kV n o b ct}(a:PySem.W.nsIn K mainGlobals x=some (some<|.ref f))(l:K.lookup f=some ⟨oc,p,.func (PySem.W.fnOf x x (Xo st) (Uw st) (JT st) .none kV n o q b ct),g⟩)(c:PySem.W.codeIn K b x=true)(k:PySem.W.keepIn K (.ref f)=true):DI K x st:=⟨f,_,a,Nc l c k⟩
def mi{st f oc p r g kV n o b ct}(a:PySem.W.findIn K (.ref C) m=some (some<|.ref f))(i:PySem.W.isFn K (.ref f)=true)(l:K.lookup f=some ⟨oc,p,.func (PySem.W.fnOf m q (Xo st) (Uw st) (JT st) .none kV n o r b ct),g⟩)(c:PySem.W.codeIn K b q=true)(k:PySem.W.keepIn K (.ref f)=true):MI K C m q st:=⟨f,_,a,i,Nc l c k⟩
def DI.d {st ps} (D:DI K x st) (X:K.In h) (o:h.Ns mainGlobals mg)
  (b:∀kV f l n g ct us,us.length=ps.length->bindArgs (PySem.W.fnOf x x (Xo st) (Uw st) (JT st) .none kV f l n g ct) ⟨us,[]⟩=pure (ps.zip us)):Def K mg x st ps:=
 let ⟨_,_,a,F⟩:=D.ex
 ⟨_,_,F,W7 X o a,F.binds b⟩
def MI.d {m q st ps} (D:MI K C m q st) (e:o=C)
  (b:∀kV f l n g ct us,us.length=ps.length->bindArgs (PySem.W.fnOf m q (Xo st) (Uw st) (JT st) .none kV f l n g ct) ⟨us,[]⟩=pure (ps.zip us)):Uo K (Up K o m) m q st ps:=
 let ⟨_,_,a,i,F⟩:=D.ex
 ⟨_,_,F,by rw[e];exact⟨a,i,F.kp⟩,F.binds b⟩
def MI.i {q st ps} (D:MI K C "__init__" q st) (e:p=C) (mk:PySem.W.makesIn K C=true) (n:PySem.W.keepIn K (.ref C)=true)
  (b:∀kV f l o g ct us,us.length=ps.length->bindArgs (PySem.W.fnOf "__init__" q (Xo st) (Uw st) (JT st) .none kV f l o g ct) ⟨us,[]⟩=pure (ps.zip us)):Uo K (Mk K p) "__init__" q st ps:=
 let ⟨_,_,a,i,F⟩:=D.ex
 ⟨_,_,F,by rw[e];exact⟨mk,a,i,n⟩,F.binds b⟩
end
def fs{N P b}(p:autoParam (b.kind=.function) au_0)(o:autoParam (b.isCoroutine=false) au_0)(n:autoParam (b.isGenerator=false) au_0)(l:autoParam (N.Nodup) au_5)(h:autoParam (N.take P.length=P) au_0)(g:autoParam (∀x∈P,b.names.lookup x=some .local\/b.names.lookup x=some .cell) au_5)(f:autoParam (∀y∈b.names,y.2≠.free) au_5):JY N P b:=⟨p,o,n,l,h,g,f⟩
def pz{pos x e te b}(i:Nat)(n:X.N.Nodup)(l:PE X e te)(g:autoParam (X.N[i]?=some x) au_0)(hx:autoParam (Loc X.env.scope x) au_6)(f:autoParam (swapsWith e (some<|.Name x b) pos.line X.env=pure false) au_0)(h:autoParam (X.fn x=true\/X.env.scope.names.lookup x=some .local) au_2) :
  PS X (.Assign [.Name x b] e pos) (Tx te<|Pj i):=Zaj n g hx l f h
section
variable {K:ZV}{mg:ZZ}{E:L2.St->XK}{H0 H H1 H':Hp}{B Z Z':Addr->Prop}{σ:L2.St}{γ:Γ}
def two(o1 f:O)(a1 a2:Addr):Addr->Prop:=λb=>o1.adr a1 b\/f.adr a2 b
end
section
variable {X:Cx}{k j:Nat}{x:Str}{ps:Ye}{sp:Sp}{e a b c:Expr}{es:Yf}{t:TA}{te tf tg:TE}{p pos:Pos}
def fz(C:Callee X.prog X.w X.K X.mg X.base CX0 k x ps sp)(h:JZ j X.A)(q:PA X (e::es) t)(l:autoParam (k<=j) au_1)(n:autoParam (Gl X x) au_0)(g:autoParam ((x==("__debug__" : Str))=false) au_1)(o:autoParam (starEach (e::es) X.env=(false,eval e X.env)::starEach es X.env) au_0)(f:autoParam ((backTo pos<|starEach es X.env).any (·.1)=false) au_0) :
  PE X (.Call (.Name x p) (e::es) [] pos) (PM sp [] E0 t):=D8 C (h.mono l) Xb q n g o f
def jx(K:ZV)(h:PE X a te)(g:PE X b tf)(l:autoParam (X.K=K) au_0)(f:autoParam (Ss b) au_7):PE X (.Subscript a b pos) (tOp (λx y H Q=>KO K x y H Q\/KS K x y H Q) te tf):=M7 (G8 l) h g f
def ln(K:ZV)(h:X.mg "len"=none)(o:PE X a te)(q:autoParam (X.K=K) au_0)(l:autoParam (Gl X "len") au_0)(g:autoParam (starEach [a] X.env=(false,eval a X.env)::starEach [] X.env) au_0)(f:autoParam ((backTo pos<|starEach [] X.env).any (·.1)=false) au_0) :
  PE X (.Call (.Name "len" p) [a] [] pos) (tCB (λxs H Q=>∃x n,xs=[x]/\TR K x H n/\Q (.int (n:Nat)) H)<|UJ te Xe):=Ul (HA q) l h PySem.boot_len (Uc o UY g) (by decide) rfl g f
def cq(K:ZV)(f:JZ j X.A)(h:PE X a te)(g:PE X b tf)(l:autoParam (X.K=K) au_0):PT X (.Compare a [.Eq] [b] pos) (Nn<|tOp (λx y H Q=>rEq x y H Q\/X8 K false x y H Q) te tf):=Kq (FN f.units0 l) h g (KD _)
def cn(K:ZV)(f:JZ j X.A)(h:PE X a te)(g:PE X b tf)(l:autoParam (X.K=K) au_0):PT X (.Compare a [.NotEq] [b] pos) (Nn<|tOp (λx y H Q=>rNe x y H Q\/X8 K true x y H Q) te tf):=Kq (Hf f.units0 l) h g (KD _)
def az(f:PE X a te)(g:autoParam (starEach [a] X.env=(false,eval a X.env)::starEach [] X.env) au_0):PA X [a] (UJ te Xe):=Uc f UY g
def bz(g:PE X a te)(f:PE X b tf)(l:autoParam (starEach [a,b] X.env=(false,eval a X.env)::starEach [b] X.env) au_0)(h:autoParam (starEach [b] X.env=(false,eval b X.env)::starEach [] X.env) au_0):PA X [a,b] (UJ te<|UJ tf Xe):=Uc g (Uc f UY h) l
def dz(h:PE X a te)(g:PE X b tf)(f:PE X c tg)(o:autoParam (starEach [a,b,c] X.env=(false,eval a X.env)::starEach [b,c] X.env) au_0)(n:autoParam (starEach [b,c] X.env=(false,eval b X.env)::starEach [c] X.env) au_0)(l:autoParam (starEach [c] X.env=(false,eval c X.env)::starEach [] X.env) au_0):PA X [a,b,c] (UJ te<|UJ tf<|UJ tg Xe):=Uc h (Uc g (Uc f UY l) n) o
end
section
variable {K:ZV}{mg:ZZ}{E:L2.St->XK}{ta tb tc:TE}{a b c:PTE}
def sz(f:JR K mg E ta a):U3 K mg E (UJ ta Xe) (Xg a XX):=Uv f U0
def tz(g:JR K mg E ta a)(f:JR K mg E tb b):U3 K mg E (UJ ta<|UJ tb Xe) (Xg a<|Xg b XX):=Uv g (sz f)
def uz(h:JR K mg E ta a)(g:JR K mg E tb b)(f:JR K mg E tc c):U3 K mg E (UJ ta<|UJ tb<|UJ tc Xe) (Xg a<|Xg b<|Xg c XX):=Uv h (tz g f)
end
section
variable {K:ZV}{h:Heap}{mg:ZZ}{C C':Addr}{x m q:Str}{st:Stmt}{ps:Ye}
abbrev Bd(x q:Str)(st:Stmt)(ps:Ye):Prop:=∀(kV f l:Value) (o:Yi) (g n:Value) (b:Yd),b.length=ps.length->bindArgs (PySem.W.fnOf x q (Xo st) (Uw st) (JT st) .none kV f l o g n) ⟨b,[]⟩=pure (ps.zip b)
def DI.e (D:DI K x st) (X:K.In h) (g:h.Ns mainGlobals mg) (b:Bd x x st ps:=by
  intro _ _ _ _ _ _ us f
  first
   |(obtain⟨_,rfl⟩:=Pu.Tg f;rfl)
   |(obtain⟨_,_,rfl⟩:=Pu.Px f;rfl)
   |(obtain⟨_,_,_,rfl⟩:=Pu.T4 f;rfl)
   |(obtain⟨_,_,_,_,rfl⟩:=Pu.N8 f;rfl)
   |(obtain⟨_,_,_,_,_,rfl⟩:=Pu.RZ f;rfl)):Def K mg x st ps:=D.d X g b
def MI.e (D:MI K C m q st) (e:C'=C) (b:Bd m q st ps:=by
  intro _ _ _ _ _ _ us f
  first
   |(obtain⟨_,rfl⟩:=Pu.Tg f;rfl)
   |(obtain⟨_,_,rfl⟩:=Pu.Px f;rfl)
   |(obtain⟨_,_,_,rfl⟩:=Pu.T4 f;rfl)
   |(obtain⟨_,_,_,_,rfl⟩:=Pu.N8 f;rfl)):Uo K (Up K C' m) m q st ps:=D.d e b
def MI.j (D:MI K C "__init__" q st) (e:C'=C) (mk:PySem.W.makesIn K C=true) (g:PySem.W.keepIn K (.ref C)=true) (b:Bd "__init__" q st ps:=by
  intro _ _ _ _ _ _ us f
  first
   |(obtain⟨_,rfl⟩:=Pu.Tg f;rfl)
   |(obtain⟨_,_,rfl⟩:=Pu.Px f;rfl)
   |(obtain⟨_,_,_,rfl⟩:=Pu.T4 f;rfl)):Uo K (Mk K C') "__init__" q st ps:=D.i e mk g b
end
section
variable {P:Program}{w:World}{K:ZV}{mg:ZZ}{base:Heap}{N ps:Ye}{sp:Sp}{p:PTS}{x q:Str}{st:Stmt}{k:Nat}{W:Addr->Prop}
structure Uz (K:ZV) (mg:ZZ) (N ps:Ye) (sp:Sp) (p:PTS):Prop where
 len:∀vs H Q E,sp vs H Q E->vs.length=ps.length
 run:∀vs H Q E t,sp vs H Q E->Ui K mg (λ_=>E) t p->t {nx:=λ_ H'=>Q .non H',rt:=Q} (start N vs) H
def Uz.a (b:∀ds R X,c ds R X->ds.length=ps.length/\p {nx:=λ_=>R (.sh .non),rt:=R,ex:=λ_ e=>X e} (Ky N ds)) (f:autoParam (ps.length<=N.length) au_1):Uz K mg N ps (Ue mg c K) p:=
 ⟨λ_ _ _ _ h=>Ie h λds R X z=>(b ds R X z).1,λ_ _ _ _ _ h s=>ET h s f b⟩
def Uz.c {c y} (f:∀o b R X,c o b R X->b.length=ps.length/\p (BG o R X) (Kg N o b)) (g:autoParam (ps.length+1<=N.length) au_1):Uz K mg N (y::ps) (spW mg c K) p:=
 ⟨λ_ _ _ _ h=>Hw h λo l R X z=>(f o l R X z).1,λ_ _ _ _ _ h s=>GE h s g f⟩
def _root_.Own.Def.oz (D:Def K mg x st ps) (S:JY N ps (JT st))
  (g:∀f b A outer s H E,JZ k (A.deeper<|envOfC x (JT st) s.heap.objs.size f b)->
   ∃t,PSs (U1 CX0 P w K mg base N x (JT st) f b A outer s H E).nox (Uw st) t/\Ui K mg (λ_=>E) t p) (u:Uz K mg N ps sp p):Callee P w K mg base CX0 (k+1) x ps sp:=
 D.ok S u.len λf b A outer s H n Q E l h=>(g f b A outer s H E l).elim λt z=>⟨t,z.1,u.run _ _ _ _ _ h z.2⟩
def _root_.Own.Def.ox (D:Def K mg x st ps) (S:JY N ps (JT st))
  (g:∀f b A outer s H E,JZ k (A.deeper<|envOfC x (JT st) s.heap.objs.size f b)->
   ∃t,PSs (U1 (ExcR.CXe P w) P w K mg base N x (JT st) f b A outer s H E) (Uw st) t/\Ui K mg (λ_=>E) t p) (u:Uz K mg N ps sp p):Callee P w K mg base (ExcR.CXe P w) (k+1) x ps sp:=
 ExcR.Def.okX D S u.len λf b A outer s H n Q E l h=>(g f b A outer s H E l).elim λt z=>⟨t,z.1,u.run _ _ _ _ _ h z.2⟩
def Uo.oz (D:Uo K W x q st ps) (S:JY N ps (JT st))
  (g:∀f b A outer s H E,JZ k (A.deeper<|envOfC q (JT st) s.heap.objs.size f b)->
   ∃t,PSs (U1 CX0 P w K mg base N q (JT st) f b A outer s H E).nox (Uw st) t/\Ui K mg (λ_=>E) t p) (u:Uz K mg N ps sp p):Xh P w K mg base CX0 (k+1) W ps sp:=
 D.ok S u.len λf b A outer s H n Q E l h=>(g f b A outer s H E l).elim λt z=>⟨t,z.1,u.run _ _ _ _ _ h z.2⟩
def Uo.ox (D:Uo K W x q st ps) (S:JY N ps (JT st))
  (g:∀f b A outer s H E,JZ k (A.deeper<|envOfC q (JT st) s.heap.objs.size f b)->
   ∃t,PSs (U1 (ExcR.CXe P w) P w K mg base N q (JT st) f b A outer s H E) (Uw st) t/\Ui K mg (λ_=>E) t p) (u:Uz K mg N ps sp p):Xh P w K mg base (ExcR.CXe P w) (k+1) W ps sp:=
 D.okX S u.len λf b A outer s H n Q E l h=>(g f b A outer s H E l).elim λt z=>⟨t,z.1,u.run _ _ _ _ _ h z.2⟩
end
section
variable {K:ZV}{h:Heap}{mg:ZZ}{x:Str}{C:Addr}
structure EI (K:ZV) (x:Str) (C:Addr):Prop where
 a:PySem.W.nsIn K mainGlobals x=some (some<|.ref C)
 g:ExcR.U4 K C
def ei(a:PySem.W.nsIn K mainGlobals x=some (some<|.ref C))(q:PySem.W.excIn K C [.type "ValueError",.type "Exception",.type "BaseException",.type "object"] "ValueError.__new__"=true)(f:PySem.W.findIn K (.ref C) "__getattribute__"=some (some<|.builtin "BaseException.__getattribute__"))(b:PySem.W.findIn K (.ref C) "__getattr__"=some none)(g:PySem.W.findIn K (.ref C) "__class__"=some (some<|.builtin "object.__class__"))(i:PySem.W.clsIn K C=some d):EI K x C:=⟨a,⟨⟨q⟩,f,b,g,by rw[i];rfl⟩⟩
def EI.c (y:EI K x C) (X:K.In h) (b:h.Ns mainGlobals mg):ExcR.JU mg x=C:=ExcR.Sb (W7 X b y.a)
def EI.m (y:EI K x C) (X:K.In h) (b:h.Ns mainGlobals mg):mg x=some (.ref<|ExcR.JU mg x):=by rw[y.c X b];exact W7 X b y.a
def EI.k (y:EI K x C) (X:K.In h) (b:h.Ns mainGlobals mg):ExcR.U4 K (ExcR.JU mg x):=by rw[y.c X b];exact y.g
end
theorem NoFld.of:∀{xs:Ye},(xs.all λx=>!(m==x))=true->NoFld m xs
 |[],_,_|_::_,_,[]=>rfl
 |x::xs,h,v::b=>by
  rw[QV,W6]at h;show(match m==x with|true=>some v|false=>(xs.zip b).lookup m)=none
  rw[show(m==x)=false by simpa using h.1];exact NoFld.of h.2 b
theorem FldAt.of (g:(f==f)=true):∀{xs}{j:Nat},((xs.take j).all λx=>!(f==x))=true->xs[j]?=some f->FldAt f xs j
 |[],_,_,e,_,_=>by simp at e
 |_::_,_,_,_,[],e=>rfl
 |x::xs,0,_,e,v::b,_=>by
  simp_all
 |x::xs,j+1,h,e,v::b,l=>by
  rw[List.take_succ_cons,QV,W6]at h;show(match f==x with|true=>some v|false=>(xs.zip b).lookup f)=(v::b)[j+1]?
  rw[show(f==x)=false by simpa using h.1];exact FldAt.of g h.2 (by grind) b (by grind)
theorem PutAt.of:∀{xs:Ye},(xs.all λx=>decide (x≠f))=true->PutAt f xs
 |[],_,[],_,_=>rfl
 |[],_,_::_,_,e|_::_,_,[],_,e=>by cases e
 |x::xs,h,v::b,y,e=>by
  rw[QV,W6]at h;show(if x=f then(x,y)::xs.zip b else(x,v)::UL f y (xs.zip b))=(x,v)::(xs++[f]).zip (b++[y]);rw[YV (YY h.1),PutAt.of h.2 b y (by grind)]
end Pu
namespace Lam
open L2 Own
section
variable {X:Cx}{pins:ZY}{σ:L2.St}{H:Hp}{A:Around}{E:Ya}{s:Shared}{kS D:Addr}{vs:Yd}{kz:ZX}{keys:Array Value}{e e1:Nat}
def Oj{H h a o}(x:HOk P w H h)(f:H a=none)(new:ObjOk P w (upd H a o) h a o):HOk P w (upd H a o) h:=λb u e=>by
 by_cases g:b=a
 ·subst g;rw[Um]at e;cases e;exact new
 ·rw[JX g]at e;exact(x b u e).stay (λc v _ q=>q) (λc q=>by rw[JX (UF q f)];exact q) λc xs q=>by rw[JX (UF q f)];exact q
variable {P:PySem.Fin->Shared->Prop}
end
end Lam
namespace ExcR
open L2
open Sem (wp)
section
variable {prog:Program}{w:World}{A:Around}{E:Ya}{h:Heap}{g:Array GenState}{d:Drawn}{t:Nat}{os:OsState}
variable {nm q:Str}{C N:Addr}{bs bm bmB:Yd}{hdct:Bool}{sn:Ye}{sub:Yd}{ab:Bool}{col:Option Bool}{dd:Yi}{k0 k1 k2 k3 k5:Yh}{B Bn newId nid initId inN:String}{bmN:Yd}
noncomputable def X9(C t:Addr)(b:Yi):Obj:={cls:=.ref C,dict:=b,data:=.fields #[.ref t,.none,.none,.none,.bool false,.none]}
def Zac(H:ExcBaseFacts Bn newId inN bmN)(u:bmB.contains (.type Bn)=true)(F:ExcBaseFacts B nid initId bmB)(T:OwnTail h bmB bm){M rest fI L Q}(s:h.get? C=some (excClassObj nm q C N bs bm hdct sn sub ab col dd k0 k1 k2 k3 k5 newId))(hn:h.Ns N M)(hi:M "__init__"=some (.ref fI))(z:h.get? fI=some L)(y:L.cls=.type "function")(hq:∀U e,Heap.MadeExcOf h U e (.ref C) rest->wpAny (model prog w) A (call (.ref fI) (.ref e::rest)) (λr J=>r=.none/\Q (.done<|.ret<|.ref e) J) E ⟨U,g,d,t,os⟩)(hrest:autoParam (rest.length<=sizeLine) au_8) :
  wpAny (model prog w) A (Builtin.«type.__call__» ⟨.ref C::rest,[]⟩) Q E ⟨h,g,d,t,os⟩:=by
 repeat (first|with_reducible refine WH s ?_|with_reducible refine wpAny_madeBy_exc s ?_|wp_step)
 refine codeAny_call_builtin_code (QH _ H.quiet) (wpAny_check_new_subU H u T s ?_);refine codeAny_exc_new_subU H u F T s ?_ hrest;show wpAny _ _ _ _ _ _
 have k:∀b o,h.get? b=some o->((h.push {cls:=.type "tuple",data:=.seq rest.toArray}).push {cls:=.ref C,data:=.fields #[.ref h.objs.size,.none,.none,.none,.bool false,.none]}).get? b=some o:=
  λb o e=>YX _ (YX _ e)
 have f:=k _ _ s;have l:=k _ _ z;have p:=hn.keeps k;have v:=T.keeps k
 have n:((h.push {cls:=.type "tuple",data:=.seq rest.toArray}).push
   {cls:=.ref C,data:=.fields #[.ref h.objs.size,.none,.none,.none,.bool false,.none]}).get? (h.objs.size+1)=some
   {cls:=.ref C,data:=.fields #[.ref h.objs.size,.none,.none,.none,.bool false,.none]}:=by heap_get
 have G:(Value.ref C::bm).contains (.ref C)=true:=by simp
 unfold isInstance
 repeat (first|with_reducible refine WH n ?_|(with_reducible refine QA f ?_;rw[G])|wp_step)
 show wpAny _ _ (typeLookup (.ref C) _) _ _ _;refine wpAny_typeLookup_tail f p v F.mroIs F.init.lookup ?_;rw[hi];refine Qi (YT ?_);unfold bindSpecial;refine YT (wpAny_typeOf ⟨_,l,y⟩ ?_);rw[Wc (by decide)];refine Wb (YT (Wx (hq _ (h.objs.size+1) ⟨k,Ql (Qy _),h.objs.size,n,Ql (Wf _),?_⟩) (λr J Y=>?_) λ_ _ x=>x))
 ·exact YX _ (Heap.get?_push_at rfl rfl)
 ·obtain⟨rfl,hQ⟩:=Y
  wp_walk
  exact hQ
def L8(z:ExcBaseFacts Bn newId inN bmN)(o:bmB.contains (.type Bn)=true)(F:ExcBaseFacts B nid initId bmB)(T:OwnTail h bmB bm){s rest fI p Q}(b:h.get? C=some (excClassObj nm q C N bs bm hdct sn sub ab col dd k0 k1 k2 k3 k5 newId))(v:h.Ns N s)(y:s "__init__"=some (.ref fI))(n:h.get? fI=some p)(l:p.cls=.type "function")(hq:∀f e,Heap.MadeExcOf h f e (.ref C) rest->wpAny (model prog w) (A.under<|.builtin "type.__call__" ⟨.ref C::rest,[]⟩) (call (.ref fI) (.ref e::rest)) (λr u=>r=.none/\Q (.ref e) u) E ⟨f,g,d,t,os⟩)(hrest:autoParam (rest.length<=sizeLine) au_8) :
  wpAny (model prog w) A (call (.ref C) rest) Q E ⟨h,g,d,t,os⟩:=by
 have f1:=tc_lookup;have H:=tc_bind (.ref C);have G:(⟨h,g,d,t,os⟩:Shared).TypeIs (.ref C) "type":=⟨_,b,rfl⟩;refine Vg (codeAny_of_tree ?_);show wpAny _ _ (callAny (.ref C) _) _ _ _
 repeat (any_goals (first|assumption|with_reducible refine WH b ?_|wp_step))
 refine⟨rfl,?_⟩;refine codeAny_call_builtin_at (QH _<|by decide +kernel) entry_typeCall (wpAny_check_type_call_sub b (Zac (hrest:=hrest) z o F T b v y n l λf e x=>?_));exact hq f e x
end
section
variable {prog:Program}{w:World}{A:Around}{E:Ya}{s:Shared}{env:Env}
variable {nm q:Str}{C N:Addr}{bs bm bmB:Yd}{hdct:Bool}{sn:Ye}{sub:Yd}{ab:Bool}{col:Option Bool}{dd:Yi}{k0 k1 k2 k3 k5:Yh}{B Bn newId nid initId inN:String}{bmN:Yd}
def GB(f:bm.contains (.type "BaseException")=true)(u:A.handled=none)(h:wpAny (model prog w) A x (λv b=>∃e t r,v=.ref e/\b.heap.get? C=some (excClassObj nm q C N bs bm hdct sn sub ab col dd k0 k1 k2 k3 k5 newId)/\b.heap.get? e=some (X9 C t r)/\E (.ref e) b) E s) :
  wpAny (model prog w) A (raiseStmt env (some x) none) Q E s:=by
 have n:(Value.ref C::bm).contains (.type "BaseException")=true:=by rw[QJ,f,Bool.or_true]
 unfold raiseStmt;refine YT (Wx h (λv b l=>?_) λ_ _ x=>x);obtain⟨e,t,r,rfl,p,o,y⟩:=l;obtain⟨G,g,d,z,os⟩:=b;unfold X9 at o
 repeat (first|with_reducible refine WH o ?_|with_reducible refine WH p ?_|(with_reducible refine QA p ?_;rw[n])|wp_step)
 exact wpAny_raiseNew_none u y
def LY(Fn:ExcBaseFacts Bn newId inN bmN)(U:bmB.contains (.type Bn)=true)(F:ExcBaseFacts B nid initId bmB){mN x np cpos pos args fI oI Q}(p:bm.contains (.type "BaseException")=true)(hh:A.handled=none)(n:(backTo cpos<|starEach args env).any (·.1)=false)(hi:mN "__init__"=some (.ref fI))(J:oI.cls=.type "function")
  (h:wpAny (model prog w) A (eval (.Name x np) env) (λf o=>f=.ref C/\wpAny (model prog w) A (evalArgs (.ref C) true (backTo cpos<|starEach args env) [])
   (λa b=>a.kw=[]/\a.pos.length<=sizeLine/\b.heap.get? C=some (excClassObj nm q C N bs bm hdct sn sub ab col dd k0 k1 k2 k3 k5 newId)/\b.heap.Ns N mN/\OwnTail b.heap bmB bm/\b.heap.get? fI=some oI/\
    ∀G e,Heap.MadeExcOf b.heap G e (.ref C) a.pos->wpAny (model prog w) (A.under<|.builtin "type.__call__" ⟨.ref C::a.pos,[]⟩) (call (.ref fI) (.ref e::a.pos))
     (λr y=>r=.none/\y.heap.get? C=some (excClassObj nm q C N bs bm hdct sn sub ab col dd k0 k1 k2 k3 k5 newId)/\(∃t Y,y.heap.get? e=some (X9 C t Y))/\E (.ref e) y) E {b with heap:=G}) E o) E s) :
  wpAny (model prog w) A (exec (.Raise (some<|.Call (.Name x np) args [] cpos) none pos) env) Q E s:=by
 refine YT (QW<|GB (C:=C) (nm:=nm) (q:=q) (N:=N) (bs:=bs) (hdct:=hdct) (sn:=sn) (sub:=sub) (ab:=ab) (col:=col) (dd:=dd) (k0:=k0) (k1:=k1) (k2:=k2) (k3:=k3) (k5:=k5) (newId:=newId) p hh<|YT (Wx (wpAny_Call_ofName (Wx h (λf o l=>?_) λ_ _ x=>x)) (λv s₃ u=>YT (QW<|Wb u)) λ_ _ x=>x));obtain⟨rfl,l⟩:=l;refine YT (Qi (Wx l (λa b g=>YT (QW ?_)) λ_ _ x=>x));obtain⟨apos,akw⟩:=a;obtain⟨H,hlen,hC,hn,T,L,g⟩:=g;obtain rfl:=H;simp only[n];refine YT (wpAny_keeperOf_exc hC ?_);refine YT (L8 Fn U F T hC hn hi L J λG e hm=>Wx (g G e hm) (λr y z=>?_) λ_ _ x=>x);obtain⟨rfl,M,⟨t,Y,he⟩,hE⟩:=z;exact⟨rfl,YT (Qi<|wpAny_point<|Wb ⟨e,t,Y,rfl,M,he,hE⟩)⟩
end
end ExcR
namespace ExcR
open L2
open Sem (wp)
open Builtin Builtin.ObjectAttr
noncomputable def KR:Yd:=[.type "ValueError",.type "Exception",.type "BaseException",.type "object"]
noncomputable def PR:Yd->Bool
 | .ref _::r=>PR r
 |l=>l==KR
theorem A6(self:Value):∀{l:Yd},PR l=true->refuseLoop self "__setattr__" l=pure ()
 | .ref c::r,e=>by rw[refuseLoop_ref];exact A6 self e
 |[],e=>rfl
 | .type n::r,e=>by
  have:=beq_iff_eq.mp e
  rw[this];exact PySem.F.store_ValueError.passes self
theorem Ee:∀{l:Yd},PR l=true->l.contains (.type "object")=true
 | .ref c::r,e=>by rw[QJ,Ee (l:=r) e,Bool.or_true]
 |[],e=>by cases e
 | .type n::r,e=>by
  have:=beq_iff_eq.mp e
  rw[this];decide
structure Nb (K:ZV) (C:Addr):Prop where
 po:(PySem.W.clsIn K C).any (λcd=>PR cd.mro&&cd.hasDict)=true
 sa:PySem.W.findIn K (.ref C) "__setattr__"=some (some<|.builtin "object.__setattr__")
section
variable {prog:Program}{w:World}{A:Around}{E:Ya}{s:Shared}{K:ZV}{x C t:Addr}{name:Str}{v:Value}
def Lz(X:K.In s.heap)(hx:s.heap.get? x=some (X9 C t none))(c:Nb K C)(n:NoAttr K C name)
  (h:∀g,g.get? x=some (X9 C t<|some s.heap.objs.size)->g.Ns1 s.heap.objs.size (λy=>if y=name then some v else none)->(∀b o,b≠x->s.heap.get? b=some o->g.get? b=some o)->s.heap.objs.size<=g.objs.size->
   Q () {s with heap:=g,toks:=s.toks+2}):wpAny (model prog w) A (setAttr (.ref x) name v) Q E s:=by
 have u:=PySem.F.store_object;have J:PySem.W.InstAt s.heap x (X9 C t none) C none:=⟨hx,rfl,rfl,True.intro⟩;obtain⟨Y,T,l⟩:=Vw c.po;obtain⟨l,M⟩:=(W6 _ _▸l:_/\_);have ne:Y.mro.isEmpty=false:=by cases q:Y.mro with|nil=>rw[q]at l;cases l|cons _ _=>rfl
 have sub:PySem.W.Looks (model prog w) s.heap (isInstance (.ref x)<|.type "object") true:=J.type.andThen (PySem.W.looks_mroIn X<|by unfold PySem.W.mroIn;rw[T,Option.bind_some,YV (by rw[ne];decide),Ee l]);have hm:PySem.W.Looks (model prog w) s.heap (mroOf<|.ref C) Y.mro:=(Vm X T).andThen .now;refine PySem.W.set_plain X J c.sa (Q7 u.slot.plain u.entry (@PySem.W.check_slot (model prog w) _ _ {s with toks:=s.toks+1} "object.__setattr__" "object" "__setattr__" (.ref x) [.str name s.toks,v] [] _ u.kind u.split sub (u.args (.ref x) (.str name s.toks) v) ?_))
 rw[PySem.W.osa_eq,refuse_eq];refine YT (YT<|J.type.here (s:={s with toks:=s.toks+1})<|YT<|hm.here (s:={s with toks:=s.toks+1}) ?_)
 rw[A6 _ l];refine Wb (YT<|J.type.here (s:={s with toks:=s.toks+1})<|YT<|Vp (Qm X n)<|YT<|Wb ?_)
 refine YT (Wb<|YT<|YT<|wpAny_loadPart hx<|YT<|Vp (Vm X T) ?_);rw[M];have f:(s.heap.push {cls:=.type "dict",data:=.dict #[]}).get? x=some (X9 C t none):=YX _ hx;have p:=Wt (Wd hx);refine YT (wpAny_alloc' ?_);refine YT (wpAny_update' f ?_);refine Wb ?_
 have H:((s.heap.push {cls:=.type "dict",data:=.dict #[]}).update x λo=>{cls:=o.cls,dict:=some s.heap.objs.size,data:=o.data,slots:=o.slots}).get? s.heap.objs.size
   = some {cls:=.type "dict",data:=.dict #[]}:=
  (Heap.get?_update_ne _ _ _ _ p.symm).trans (Heap.get?_push_at rfl rfl)
 have G:((s.heap.push {cls:=.type "dict",data:=.dict #[]}).update x λo=>{cls:=o.cls,dict:=some s.heap.objs.size,data:=o.data,slots:=o.slots}).Ns s.heap.objs.size (λ_=>none):=
  ⟨_,#[],_,H,rfl,λe he=>absurd he (by simp),λ_=>rfl⟩
 refine YT (Wb<|YT (wpAny_nsSet1 (Heap.Ns1.of_empty G) λg r z=>?_));obtain⟨oD,esD,epD,B,L,N⟩:=r.count (Within.cons name v Within.nil);refine YT (wpAny_lookBehind B (by rw[L];exact pastItsLine_dict (Wi N<|by rw[Qp,List.length_nil,Vn];lia)) ?_);refine Wb (h g ?_ r (λb ob U hb=>?_) ?_)
 ·refine(z.2 x p).trans (WB _ f rfl)
 ·exact(z.2 b<|Wt<|Wd hb).trans ((Heap.get?_update_ne _ _ _ _ U).trans (YX _ hb))
 ·rw[z.1,Heap.size_update,Qz];exact Qy _
end
end ExcR
namespace ExcR
open L2
section
variable {X:Cx}{pins:ZY}{σ:L2.St}{H:Hp}{s:Shared}{a b:Addr}
def F2(I:Inv X pins σ H s)(n:H b=none)(E:b≠X.env.locals)(C:∀x c,X.env.cells.lookup x=some c->c≠b)(B:∀p∈X.pn++pins,p.1≠b)(A:∀c u,X.s₀.heap.get? c=some u->c≠b)(new:ObjOk X.prog X.w (upd H b o) s.heap b o):Inv X pins σ (upd H b o) s:=by
 refine⟨I.ok,I.os,I.bare,⟨λc u g h f r=>I.base.keep c u g h f r,λc u g h f r=>I.base.slot c u g h f r,λc u g h f=>?_,I.base.there,λc y g=>?_,λc u v g=>?_,λc z g=>?_⟩,I.loc,I.cell,?_,λx c g=>?_,λp l=>?_,?_,I.len⟩
 ·rw[JX (A c u g)];exact I.base.free c u g h f
 ·rw[JX (UF (I.base.tups c y g) n)];exact I.base.tups c y g
 ·rw[JX (UF (I.base.frzs c u v g) n)];exact I.base.frzs c u v g
 ·obtain⟨m,q⟩:=I.base.tbls c z g;exact⟨m,by rw[JX (UF q n)];exact q⟩
 ·rw[JX (Ne.symm E)];exact I.free
 ·rw[JX (C x c g)];exact I.freeC x c g
 ·obtain⟨a1,a2,a3,a4,a5⟩:=I.pin p l;exact⟨a1,by rw[JX (B p l)];exact a2,a3,a4,a5⟩
 ·exact Lam.Oj I.hok n new
def GX(I:Inv X pins σ H s)(hex:X.ex=[])(h:s.heap.get? b=none)(k:∀c u,s.heap.get? c=some u->l.get? c=some u)(new:ObjOk X.prog X.w (upd H b o) l b o) :
  Inv X pins σ (upd H b o) {s with heap:=l,toks:=t'}:=by
 have g:∀{c u},s.heap.get? c=some u->c≠b:=λ{c u} e z=>by rw[z,h]at e;cases e
 refine F2 (I.kept k) (Bt I.hok h) ?_ (λx c e=>?_) (λp n=>g (I.pin p n).1) (λc u e=>?_) new
 ·obtain⟨m,⟨o1,r,y,f,_⟩,_⟩:=I.loc
  grind
 ·obtain⟨v,o1,f,_⟩:=I.cell x c e
  grind
 ·obtain⟨q,f⟩:=I.base.there c u e (by grind);exact g f
noncomputable def er(H:Hp)(a:Addr):Hp:=λb=>if b=a then none else H b
def Tt:er H a a=none:=by unfold er;rw[Wc rfl]
def Kw(h:b≠a):er H a b=H b:=by unfold er;rw[YV h]
def IQ(h:er H a b=some o):H b=some o:=by
 by_cases z:b=a
 ·rw[z,Tt]at h;cases h
 ·rw[Kw z]at h;exact h
def forget(I:Inv X pins σ H s)(E:H a=some (.ext φ)):Inv X pins σ (er H a) s:=by
 have f:∀{c o},H c=some o->(∀A,o≠HO.ext A)->c≠a:=λ{c o} e n z=>by rw[z,E]at e;exact n _ (Wg e).symm
 have no:∀{c},H c=none->er H a c=none:=λ{c} e=>by
  by_cases z:c=a
  ·rw[z];exact Tt
  ·rw[Kw z];exact e
 refine⟨I.ok,I.os,I.bare,⟨λc u g l h r=>I.base.keep c u g l h r,λc u g l h r=>I.base.slot c u g l h r,λc u g l h=>no (I.base.free c u g l h),I.base.there,λc B g=>?_,λc u v g=>?_,λc C g=>?_⟩,I.loc,I.cell,no I.free,λx c g=>no (I.freeC x c g),λp y=>?_,λc o e=>?_,I.len⟩
 ·have q:=I.base.tups c B g;rw[Kw (f q λ_ z=>nomatch z)];exact q
 ·have q:=I.base.frzs c u v g;rw[Kw (f q λ_ z=>nomatch z)];exact q
 ·obtain⟨m,q⟩:=I.base.tbls c C g;exact⟨m,by rw[Kw (f q λ_ z=>nomatch z)];exact q⟩
 ·obtain⟨a1,a2,a3,a4,a5⟩:=I.pin p y
  grind
 ·refine(I.hok c o<|IQ e).stay (λ_ _ _ z=>z) (λd z=>?_) λd xs z=>?_
  ·rw[Kw (f z λ_ w=>nomatch w)];exact z
  ·rw[Kw (f z λ_ w=>nomatch w)];exact z
def Za3(I:Inv X pins σ H s)(h:H l=some (.lst xs)):∃o,Inv X pins σ (upd H l<|.frz o<|.lst xs) s:=by
 obtain⟨z,f,n,r,e⟩:=(I.hok l _ h);exact⟨_,BD I (by rw[h];trivial) ⟨rfl,λ_ _=>rfl⟩ ⟨_,e⟩ ⟨e,z,f,n,r,e⟩⟩
end
def Zaw(K:ZV)(C f:Addr):Prop:=∃(q:Yi) (b:ClassData) (sl:Array (Yh)) (g:Yd) (p o n l h:Yh),K.lookup C=some ⟨.type "type",q,.cls b,sl⟩/\b.mro=.ref C::g/\
 sl.toList=[p,o,n,l,some (.builtin "ValueError.__new__"),h]/\b.hasDel=false/\PySem.W.tailIn K KR g=true/\PySem.W.nsOkIn K b.ns=true/\PySem.W.nsIn K b.ns "__init__"=some (some<|.ref f)
def LS{K h N b n v}(X:K.In h)(G:h.Ns N b)(e:PySem.W.nsIn K N n=some (some v)):b n=some v:=by
 obtain⟨o,u,w,p,s,_,f⟩:=G;unfold PySem.W.nsIn at e;split at e
 ·rename_i c d g l sl q
  have:=X _ _ q
  split at e
  ·rename_i x r;rw[←f];unfold nsFind findBy
   grind
  ·grind
 ·cases e
structure Xq (K:ZV) (C f:Addr):Prop where
 q:Zaw K C f
 fn:PySem.W.typeIn K (.ref f)=some (.type "function")
 st:Nb K C
 ga:PySem.W.findIn K (.ref C) "__getattribute__"=some (some<|.builtin "BaseException.__getattribute__")
 gt:PySem.W.findIn K (.ref C) "__getattr__"=some none
 nm:NoAttr K C "members"
 cl:PySem.W.findIn K (.ref C) "__class__"=some (some<|.builtin "object.__class__")
def Xq.obj {K C f h} (c:Xq K C f) (k:K.In h):∃b N nm q bs hdct sn sub ab col dd k0 k1 k2 k3 k5 n,h.get? C=some (excClassObj nm q C N bs b hdct sn sub ab col dd k0 k1 k2 k3 k5 "ValueError.__new__")/\h.Ns N n/\n "__init__"=some (.ref f)/\
  OwnTail h KR b:=by
 obtain⟨dd,B,sl,b,k0,k1,k2,k3,k5,x,o,E,s,z,l,r⟩:=c.q;have p:=k _ _ x;cases B with
 |mk nm bs w v u y sn sub ab col A=>
  simp only at o s l r;have g:sl=#[k0,k1,k2,k3,some (.builtin "ValueError.__new__"),k5]:=by grind
  rw[o,s,g]at p;exact⟨b,v,nm,u,bs,y,sn,sub,ab,col,dd,k0,k1,k2,k3,k5,_,p,.of_isNs (Vr k l),LS k (.of_isNs<|Vr k l) r,PySem.W.tail_of_in k z⟩
def Xq.any {K C f} (c:Xq K C f):Xl K C:=
 ⟨λk=>by
  obtain⟨z,N,l,q,bs,b,h,sub,A,g,y,s,r,p,o,n,B,w,E,u,v⟩:=c.obj k
  exact⟨z,N,l,q,bs,b,h,sub,A,g,y,s,r,p,o,n,w,v⟩,c.ga,c.gt,c.cl,by
   obtain⟨G,x,_⟩:=Vw c.st.po;rw[x];rfl⟩
noncomputable def Xt(a C t:Addr)(b:Yi):HO:=.ext λh=>h.get? a=some (X9 C t b)
def FF{a C t b}(e:h.get? a=some (X9 C t b)):ObjOk P w H h a (Xt a C t b):=⟨e,⟨_,e⟩,λ_ _ q k=>k _ q⟩
noncomputable def Cq(K:ZV)(f:Str)(n te:TE):TS:=λD g H=>te g H λy p=>n g p λx b=>∃a C t l xs,x=.ref a/\y=.ref l/\b a=some (Xt a C t none)/\Nb K C/\NoAttr K C f/\b l=some (.lst xs)/\
 ∀o h,b h=none->D.nx g (upd (upd (upd b l<|.frz o<|.lst xs) a<|Xt a C t<|some h) h<|.xd [(f,.ref l)])
def GK{pos p}{M tv}(ha:PE X o M)(hv:PE X value tv)(hs:swapsWith value (some<|.Attribute o f p) pos.line X.env=pure false):PS X (.Assign [.Attribute o f p] value pos) (Cq X.K f M tv):=by
 intro pins s w H D I h;refine plainObj_wpAny_Assign_Attribute (thn (hv pins s w H _ I h) ?_) hs;rintro u U ⟨y,H1,I1,Y,q⟩;refine thn (ha pins U w H1 _ I1 q) ?_;rintro ov A ⟨x,L,v,rx,a,C,t,l,xs,ex,ey,E,c,n,Q,q2⟩;subst ex ey;obtain rfl:=rx;obtain rfl:=Y;obtain⟨B,J⟩:=Za3 v Q;have G:upd L l (.frz B<|.lst xs) a=some (Xt a C t none):=by rw[JX (Ad E Q λz=>nomatch z)];exact E
 have N:=v.hok.fresh (Wf _);refine Lz v.kIn ((v.hok a _ E).1) c n λh' T h2 h3 h4=>?_;have f0:=J.fpOk (H':=upd (upd L l<|.frz B<|.lst xs) a (Xt a C t<|some A.heap.objs.size)) (Wf _) (by rw[JX (UF E N |>.symm)];exact(J.hok.fresh<|Wf _))
 have I4:Inv X pins w (upd (upd L l<|.frz B<|.lst xs) a<|Xt a C t<|some A.heap.objs.size) {A with heap:=h',toks:=A.toks+2}:=
  J.write (by rw[G];exact True.intro) (.inl rfl) (λb q r z=>h3 b q r z) ⟨_,T⟩ (FF T)
 have I5:=F2 (o:=.xd [(f,.ref l)]) I4 f0.1 f0.2.1 f0.2.2.2.2.1 f0.2.2.2.2.2 (λc u e z=>by
  have:=Wd e
  rw[z]at this
  exact absurd (Ws this v.sz) (WR _)) ⟨_,h2,λg=>by
   by_cases r:g=f
   ·subst r;simp only[List.lookup,beq_self_eq_true];exact rfl
   ·rw[YV r];simp only[List.lookup,Qt.mpr r];exact True.intro⟩
 exact⟨w,_,I5,q2 B _ N⟩
def Fk(X:Cx)(E:XK):Prop:=∀(pins:ZY) (f:L2.St) (H:Hp) (s:Shared) (C a t:Addr) (b:Yi),Inv X pins f H s->s.heap.get? a=some (X9 C t b)->H a=none->X.s₀.heap.get? a=none->E (.ref C) b H->X.xe (.ref a) s
noncomputable def Te(K:ZV):Sp:=λf H Q _=>∃(a C t p:Addr) (xs:List V),f=[.ref a,.ref p]/\H a=some (Xt a C t none)/\SqL K H p xs/\Nb K C/\NoAttr K C "members"/\
 ∀(l b:Addr) (o:Obj),H l=none->H b=none->b≠l->Q .non (upd (upd (upd H l<|.frz o<|.lst xs) a<|Xt a C t<|some b) b<|.xd [("members",.ref l)])
noncomputable def BM(K:ZV)(C:Addr)(E:XK)(t:TA):TS:=λ_ g H=>t g H λh f=>∃(p:Addr) (xs:List V),h=[.ref p]/\SqL K f p xs/\
 ∀(l b:Addr) (o:Obj),f l=none->f b=none->b≠l->E (.ref C) (some b) (upd (upd f l<|.frz o<|.lst xs) b<|.xd [("members",.ref l)])
def Zau{a l f o0 o1 F D}(n:H a=none)(g:l≠a)(h:f≠a):er (upd (upd (upd (upd H a o0) l F) a o1) f D) a=upd (upd H l F) f D:=by
 funext b;by_cases z:b=a
 ·subst z;rw[Tt,JX (Ne.symm h),JX (Ne.symm g),n]
 ·rw[Kw z];by_cases y:b=f
  ·rw[y,Um,Um]
  ·rw[JX y,JX y,JX z];by_cases x:b=l
   ·rw[x,Um,Um]
   ·rw[JX x,JX x,JX z]
section
variable {X:Cx}{x:Str}{C:Addr}{E:XK}{e:Expr}{t:TA}{p cpos pos:Pos}{k:Nat}{ps:Ye}
def Lm(Ci:Pu.Xh X.prog X.w X.K X.mg X.base CX0 k (Xq X.K C) ps (Te X.K))(hr:JZ (k+1) X.A)(hm:X.mg x=some (.ref C))(hR:Fk X E)(hex:X.ex=[])(hc:X.calm=true)(ha:PA X [e] t)(hg:autoParam (Gl X x) au_0)(hdb:autoParam ((x==("__debug__" : Str))=false) au_1)(he:autoParam (starEach [e] X.env=[(false,eval e X.env)]) au_0):PS X (.Raise (some<|.Call (.Name x p) [e] [] cpos) none pos) (BM X.K C E t):=by
 obtain⟨f,fd,F,G,hb⟩:=Ci.ex;intro pins s σ H D I h;obtain⟨bm,N,nm,q,bs,hdct,sn,sub,ab,col,dd,k0,k1,k2,k3,k5,mN,hC,hN,hni,hT⟩:=G.obj I.ok.mod.kin;obtain⟨oI,Y,hcI⟩:=Option.map_eq_some_iff.mp G.fn
 have U:(backTo cpos<|starEach [e] X.env).any (·.1)=false:=by
  rw[he];rfl
 refine LY (nm:=nm) (q:=q) (N:=N) (bs:=bs) (hdct:=hdct) (sn:=sn) (sub:=sub) (ab:=ab) (col:=col) (dd:=dd) (k0:=k0) (k1:=k1) (k2:=k2) (k3:=k3) (k5:=k5)
  Qj (by decide +kernel) Qj (hT.hasType<|by decide +kernel) (I.ok.hd hc) U hni hcI (KI I hg hm ⟨rfl,?_⟩ hdb)
 have hA:=ha cpos pins s σ H _ I h;rw[he]at hA ⊢;refine Vh (thn hA ?_);rintro us s2 ⟨vs,T,B,r2,p2,xs,ev,hp,q2⟩;subst ev;obtain⟨u,rfl,ru⟩:=r2.one;obtain rfl:=ru;refine⟨rfl,by show 1<=_;rw[Vn];lia,B.bk _ _ hC,hN.keeps B.bk,hT.keeps B.bk,B.bk _ _ (I.ok.mod.kin _ _ Y),λh' a g=>?_⟩;obtain⟨n,ht,_,_⟩:=g.there;have na:=Bt B.hok g.new;have I3:=GX (t':=s2.toks) B hex g.new g.keeps (FF ht)
 have J:Te X.K [.ref a,.ref p2] (upd T a<|Xt a C n none) (λv H3=>v=.non/\∃l b o,T l=none/\T b=none/\b≠l/\l≠a/\b≠a/\H3=upd (upd (upd (upd T a<|Xt a C n none) l<|.frz o<|.lst xs) a<|Xt a C n<|some b) b (.xd [("members",.ref l)])) (λ_ _ _=>False):=by
  refine⟨a,C,n,p2,xs,rfl,Um,(Own.UB na).seq hp,G.st,G.nm,λl b o Q M h3=>⟨rfl,l,b,o,?_⟩⟩;have e1:l≠a:=λz=>by rw[z,Um]at Q;cases Q
  have e2:b≠a:=λz=>by rw[z,Um]at M;cases M
  rw[JX e1]at Q;rw[JX e2]at M;exact⟨Q,M,h3,e1,e2,rfl⟩
 have r3:Vals [V.ref a,V.ref p2] [Value.ref a,Value.ref p2]:=.cons rfl (.cons rfl .nil)
 have hl:([Value.ref a,Value.ref p2]++[]).length=ps.length:=by
  have:=F.len _ _ _ _ J
  exact this
 refine Vg (Qd (F.run _ X.stack _ _ ⟨[Value.ref a,Value.ref p2],[]⟩ [Value.ref a,Value.ref p2] _ _ (λ_ _ _=>False) (hr.make C [.ref p2] []) (I3.env0.make C [.ref p2] []) (hb _ [Value.ref a,Value.ref p2] I3.kIn hl) r3 J) λr s' y=>?_);cases r with
 |error e=>exact False.elim y
 |ok fl=>
  cases fl with
  |ret u=>
   obtain⟨v,H',I4,rv,ev,l,b,o,n1,n2,n3,n4,n5,eH⟩:=I3.after y;subst ev;obtain rfl:=rv;have ea:H' a=some (Xt a C n<|some b):=by rw[eH,JX (Ne.symm n5),Um]
   have L:=(I4.hok a _ ea).1;refine⟨rfl,I4.bk _ _ hC,⟨n,some b,L⟩,hR pins σ (er H' a) s' C a n (some b) (forget I4 ea) L Tt (PL B hex g.new) ?_⟩;rw[eH,Zau na n4 n5];exact q2 l b o n1 n2 n3
  |_=>exact False.elim y
def Ii{K g base N qual scope f cd A outer s H E} :
  Fk (U1 (CXe P w) P w K g base N qual scope f cd A outer s H E) E:=by
 intro pins u r B C a t n I h l b q;exact Wx (Dq I rfl rfl rfl b l h rfl rfl rfl rfl) (λ_ v ⟨o,y⟩=>⟨a,o,C,n,r,rfl,y,q⟩) λ_ _ z=>z
def O4{K vs H Q E D}(h:Te K vs H Q E)(u:D.nx=λ_ H'=>Q .non H') :
  Cq K "members" (Xv 0) (tCB (λxs H Q=>∃p b,xs=[.ref p]/\(SqL K H p b\/SqT K H p b)/\∀l,H l=none->Q (.ref l) (upd H l<|.lst b))<|UJ (Xv 1) Xe) D (start ["self","members"] vs) H:=by
 obtain⟨a,C,t,p,xs,rfl,g,s,c,n,q⟩:=h;refine⟨_,rfl,p,xs,rfl,.inl s,λl r=>⟨_,rfl,a,C,t,l,xs,rfl,rfl,?_,c,n,Um,λo w f=>?_⟩⟩
 ·rw[JX (UF g r)];exact g
 ·have v:w≠l:=λz=>by rw[z,Um]at f;cases f
  rw[JX v]at f;rw[u,DB]
  grind
end
end ExcR
namespace Pu
open L2 Own M
section
variable {K:ZV}{mg:ZZ}{E:L2.St->XK}{H0 H H1 H':Hp}{B Z Z':Addr->Prop}{σ:L2.St}{γ:Γ}
theorem DC:∀{ns:ZX}{vs:List V},Rps K H (ns.map D.int) vs->vs=ns.map V.int
 |[],_,h=>by cases h;rfl
 |n::ns,_,h=>by
  cases h with
  |cons h r=>rw[DC r,h.int_inv];rfl
noncomputable def EZ(r:PTA):PTS:=λR γ=>r γ (λf=>match f with
 |[s]=>(∃b:ZX,s.d=.lst (b.map D.int)/\R.ex γ (X5 b))
 |_=>False) (R.ex γ)
def Mq{Ec}(M:U3 K mg (λ_=>Ec) A r):Ui K mg (λ_=>Ec) (ExcR.BM K (ExcR.JU mg "Ringed") Ec A) (EZ r):=by
 intro H0 B H σ γ R D hB b h e;refine M H0 B H σ γ _ _ _ b h (λss z H1 u x C=>?_) λc H' N y=>e.ex σ γ c H' N (b.grow y) (Fr.grow y);split at u
 ·rename_i s;obtain⟨g,T,Q⟩:=u;obtain⟨v,rfl,tv⟩:=C.one_inv;have f:=tv.rp (b.grow x).same;rw[T]at f;obtain⟨p,z,rfl,q,G⟩:=f.lst_inv;rw[DC G]at q;refine⟨p,_,rfl,SqL.of q,λl U o J L n=>?_⟩;have Y:Same H1 (upd (upd H1 l<|.frz o<|.lst<|g.map V.int) U<|.xd [("members",.ref l)]):=(UB J).trans (UB<|by rw[JX n];exact L);have w:=x.trans Y;exact(e.ex σ γ (X5 g) _ Q (b.grow w)<|Fr.grow w).mem Um (by rw[JX (Ne.symm n)];exact Um)
 ·grind
end
end Pu
namespace Pu
open L2 Own
structure RI (K:ZV) (x:Str) (C:Addr) (q:Str) (st:Stmt):Prop where
 a:PySem.W.nsIn K mainGlobals x=some (some<|.ref C)
 ex:∃f fd,ExcR.Xq K C f/\Fun K "__init__" q st f fd
section
variable {K:ZV}{h:Heap}{mg:ZZ}{x q:Str}{st:Stmt}{C M N f:Addr}
def HG{cd:ClassData}(m:PySem.W.excIn K M ExcR.KR "ValueError.__new__"=true):PySem.W.tailIn K ExcR.KR (.ref M::ExcR.KR)=true:=by
 unfold PySem.W.excIn at m;split at m
 next z cd sl b=>
  split at m
  next B A u s r p n o w v=>
   simp only[W6,beq_iff_eq,Bool.not_eq_true']at m;obtain⟨⟨⟨_,y⟩,l⟩,g⟩:=m;unfold PySem.W.tailIn;rw[Vj];right
   try dsimp only
   rw[b]
   try dsimp only
   rw[l,g];rfl
  grind
 next=>cases m
def ri{cd sl w k0 k1 k2 k3 k5 Q es n oc A T g kV r y b ct}(a:PySem.W.nsIn K mainGlobals x=some (some<|.ref C))(l:K.lookup C=some ⟨.type "type",dd,.cls cd,sl⟩)(s:cd.mro=.ref C :: .ref M::[.type "ValueError",.type "Exception",.type "BaseException",.type "object"])(dl:cd.hasDel=false)(p:cd.hasDict=true)(o:sl.toList=[k0,k1,k2,k3,some (.builtin "ValueError.__new__"),k5])(u:cd.ns=N)(E:K.lookup N=some ⟨Q,U,.dict es n,w⟩)(z:(es.toList.all λe=>match e.key with | .str _ _=>true|_=>false)=true)(i:PySem.W.nsIn K N "__init__"=some (some<|.ref f))(m:PySem.W.excIn K M [.type "ValueError",.type "Exception",.type "BaseException",.type "object"] "ValueError.__new__"=true)(fn:PySem.W.isFn K (.ref f)=true)(v:PySem.W.findIn K (.ref C) "__setattr__"=some (some<|.builtin "object.__setattr__"))(J:PySem.W.findIn K (.ref C) "__getattribute__"=some (some<|.builtin "BaseException.__getattribute__"))(H:PySem.W.findIn K (.ref C) "__getattr__"=some none)(G:PySem.W.findIn K (.ref C) "__class__"=some (some<|.builtin "object.__class__"))(nm:PySem.W.findIn K (.ref C) "members"=some none)(B:K.lookup f=some ⟨oc,A,.func (PySem.W.fnOf "__init__" q (Xo st) (Uw st) (JT st) .none kV r y T b ct),g⟩)(c:PySem.W.codeIn K b q=true)(k:PySem.W.keepIn K (.ref f)=true):RI K x C q st:=by
 have L:PySem.W.clsIn K C=some cd:=by unfold PySem.W.clsIn;rw[l]
 refine⟨a,f,_,⟨?_,beq_iff_eq.mp fn,⟨?_,v⟩,J,H,nm,G⟩,Nc B c k⟩
 ·refine⟨dd,cd,sl,_,k0,k1,k2,k3,k5,l,s,o,dl,HG (cd:=cd) m,?_,by rw[u];exact i⟩;rw[u];unfold PySem.W.nsOkIn;rw[E];show(es.all _)=true;rw[←Array.all_toList];omega
 ·rw[L];show(ExcR.PR cd.mro&&cd.hasDict)=true;rw[s,p];rfl
def RI.c (y:RI K x C q st) (X:K.In h) (b:h.Ns mainGlobals mg):ExcR.JU mg x=C:=ExcR.Sb (W7 X b y.a)
def RI.m (y:RI K x C q st) (X:K.In h) (b:h.Ns mainGlobals mg):mg x=some (.ref<|ExcR.JU mg x):=by rw[y.c X b];exact W7 X b y.a
def RI.i (y:RI K x C q st) (X:K.In h) (b:h.Ns mainGlobals mg):∃g,ExcR.Xq K (ExcR.JU mg x) g:=by
 obtain⟨f,l,e,_⟩:=y.ex;rw[y.c X b]
 grind
def RI.d (y:RI K x C q st) (e:p=C)
  (b:∀kV g n o l ct us,us.length=ps.length->bindArgs (PySem.W.fnOf "__init__" q (Xo st) (Uw st) (JT st) .none kV g n o l ct) ⟨us,[]⟩=pure (ps.zip us)):Uo K (ExcR.Xq K p) "__init__" q st ps:=
 let ⟨_,_,i,F⟩:=y.ex
 ⟨_,_,F,by rw[e];exact i,F.binds b⟩
def RI.j (y:RI K x C q st) (e:l=C) (b:Bd "__init__" q st ps:=by
  intro _ _ _ _ _ _ us g;obtain⟨_,_,rfl⟩:=Pu.Px g;rfl):Uo K (ExcR.Xq K l) "__init__" q st ps:=y.d e b
end
end Pu
namespace M
open L2 Own Pu
def HI(b:ZX)(ws:ZW)(X:Str->Prop)(A:Prop):Prop:=(∀r,FR b ws r->r≠[]->X (X5 r))/\((¬ ∃r,Ring b ws r)->A)
end M
namespace ExcR
open L2
noncomputable def hxL(K:ZV):List (Addr×Option Nat×TS)->Ends->L2.St->XK
 |[],_=>λ_ _ _ _=>False
 |(n,l,g)::r,D=>λf c h H=>∃C b,c=.ref C/\PySem.W.exmOne K (.ref C) (.ref n)=some b/\
  if b=true then(match l with
   |some i=>∀a,H a=none->g (CU i D) (f.set i<|some<|.ref a) (upd H a<|Xf a C h)
   |none=>g D f H)else hxL K r D f c h H
section
variable {X:Cx}{pins pins1:ZY}{σ:L2.St}{H H':Hp}{s s':Shared}{h3:Heap}{a T C C0:Addr}{dx:Yi}{fl:Value}{D:Ends}{hs:List ExceptHandler}{L:List (Addr×Option Nat×TS)}
structure Pre (X:Cx) (pins:ZY) (σ:L2.St) (H H':Hp) (s s':Shared) (h3:Heap) (a T C:Addr) (dx:Yi) (fl:Value):Prop where
 I:Inv X pins σ H s
 os:s'.os=s.os
 bare:AllBare s'.gens
 na:s.heap.get? a=none
 nT:s.heap.get? T=none
 fa:H' a=none
 fT:H' T=none
 tr:Trc h3 a T (.ref C,dx) fl
 u:Un (frs X.stack) [] H H' s.heap h3
 ok:HOk X.prog X.w H' h3
def Pre.inv (p:Pre X pins σ H H' s s' h3 a T C dx fl):Inv X pins σ H' {s' with heap:=h3}:=p.I.call' p.os p.u p.ok p.bare λb z=>absurd z (by simp)
def PH(X:Cx)(hs:List ExceptHandler)(L:List (Addr×Option Nat×TS)):Prop:=∀(pins:ZY) (σ:L2.St) (H H':Hp) (s s':Shared) (h3:Heap) (a T C:Addr) (dx:Yi) (fl:Value) (D:Ends),
 Pre X pins σ H H' s s' h3 a T C dx fl->hxL X.K L D σ (.ref C) dx H'->wpAny (model X.prog X.w) X.A (handleBy (.ref a) X.env hs) (SP X pins D) X.xe {s' with heap:=h3}
def BZ:PH X [] []:=λ_ _ _ _ _ _ _ _ _ _ _ _ _ _ h=>h.elim
section
variable {x n:Str}{np hpos:Pos}{b0:Stmt}{suite:Yg}{i:Nat}{ts:TS}
def Ef(hN:X.N.Nodup)(hi:X.N[i]?=some n)(G:X.env.scope.names.lookup n=some .local)(hg:Gl X x)(hm:X.mg x=some (.ref C0))(hdb:(x==("__debug__" : Str))=false)(Y:∀a,PSs (Ke X a) (b0::suite) ts)(hr:PH X hs L):PH X (.ExceptHandler (some<|.Name x np) (some n) (b0::suite) hpos::hs) ((C0,some i,ts)::L):=by
 rintro pins σ H H' s s' h3 a T C dx fl D p ⟨C',b,ec,em,q⟩;obtain rfl:=Value.ref.inj ec;have J3:=p.inv;have S3:Inv (Ke X a) pins σ H' {s' with heap:=h3}:=Fe J3
 refine wpAny_handleBy_cons (codeAny_handlers_test<|KI S3 hg hm ?_ hdb) (by intro z;cases z);obtain⟨_,⟨oe,vs,g1,g2,g3,g4⟩,_⟩:=id p.tr;refine(PySem.W.exm_one J3.kIn ((show oe.cls=Value.ref C from W2 Prod.fst g2)▸(PySem.W.Looks.ld g1).andThen .now) em).here ?_
 cases b with
 |false=>exact hr pins σ H H' s s' h3 a T C dx fl D p q
 |true=>
 refine codeAny_handlers_suite_as (Ng p.tr λJ M k4=>?_);have h:=Nt p.u (k4.mono (by simp) λ_ z=>z) λb r=>by rw[YW.mp r];exact p.nT
 have u5:Un (frs X.stack) [] H (upd H' a<|Xf a C dx) s.heap J:=by
  have ne:∀b o,s.heap.get? b=some o->b≠a:=λb o z w=>by rw[w,p.na]at z;cases z
  have l:∀b o,H' b=some o->b≠a:=λb o z w=>by rw[w,p.fa]at z;cases z
  refine⟨h.keep,h.slot,λb o z n m=>by rw[JX (ne b o z)];exact h.free b o z n m,h.there,λb xs z=>?_,λb o u z=>?_,λb ps z=>?_⟩
  ·rw[JX (l b _<|h.tups b xs z)];exact h.tups b xs z
  ·rw[JX (l b _<|h.frzs b o u z)];exact h.frzs b o u z
  ·obtain⟨more,z1⟩:=h.tbls b ps z;exact⟨more,by rw[JX (l b _ z1)];exact z1⟩
 have U:HOk X.prog X.w (upd H' a<|Xf a C dx) J:=λb ob e=>by
  by_cases r:b=a
  ·subst r;rw[Um]at e;cases e
   exact Ob M
  ·rw[JX r]at e;refine((PK p.ok k4 (by simp) λb r=>by rw[YW.mp r];exact p.fT) b ob e).stay (λ_ _ _ z=>z) (λc z=>?_) λc xs z=>?_
   ·rw[JX λw=>by rw[w,p.fa]at z;cases z];exact z
   ·rw[JX λw=>by rw[w,p.fa]at z;cases z];exact z
 have J5:Inv X pins σ (upd H' a<|Xf a C dx) {s' with heap:=J}:=p.I.call' p.os u5 U p.bare λb z=>absurd z (by simp)
 have S5:Inv (Ke X a) pins σ (upd H' a<|Xf a C dx) {s' with heap:=J}:=Fe J5
 refine Tv (X:=Ke X a) S5 hN hi (.inl G) (v:=.ref a) rfl (λs6 S6=>?_) (.inr G);refine Wx (Y a pins s6 _ _ _ S6<|q a p.fa) (λf s7 h7=>?_) λ_ _ z=>z.elim
 have gone:∀{g:L2.St} {B:Hp} {R:Unit->Shared->Prop},Inv (Ke X a) pins g B s7->(∀E,Inv X pins (g.set i none) B E->R () E)->wpAny (model X.prog X.w) X.A (do bindName X.env n .none;unbindBehindTheSuite X.env n hpos) R X.xe s7:=λ{g B R} y hR=>by
  obtain⟨m,hn,hl⟩:=id y.loc;exact wpAny_nameGoes_keeps G hn (by rw[show X.env.scope.kind=.function from J5.ok.kind];rfl) λh8 v hn8 hs8=>hR _ (Hy (Gk J5.ok y) hN hi G hl hn hn8 hs8)
 cases f with
 |ret u=>obtain⟨v,g,B,y,rv,Q⟩:=h7;exact gone y λE I8=>⟨v,_,_,I8,rv,Q⟩
 |_=>obtain⟨g,B,y,Q⟩:=h7;exact gone y λE I8=>⟨_,_,I8,Q⟩
end
noncomputable def Ta(X:Cx)(pins:ZY)(D:Ends)(hs:List ExceptHandler):Cx:=
 {X with pn:=X.pn++pins,xe:=λe g=>wpAny (model X.prog X.w) X.A (noteFrame e X.env) (λ_ f=>wpAny (model X.prog X.w) X.A (setFlight e none) (λ_ b=>wpAny (model X.prog X.w) X.A (handleBy e X.env hs) (SP X pins D) X.xe b) X.xe f) X.xe g}
def L5(I:Inv X pins σ H s):Inv (Ta X pins D hs) [] σ H s:=⟨⟨I.ok.mod,I.ok.kind,I.ok.glob,I.ok.blt,I.ok.above,I.ok.inj,I.ok.has,I.ok.cab,I.ok.hd,I.ok.frames,I.ok.stk,I.ok.exf,I.ok.bs,I.ok.bsz,I.ok.noex,I.ok.exfs,I.ok.funs,I.ok.frf⟩,I.os,I.bare,I.base,I.loc,I.cell,I.free,I.freeC,λp b=>I.pin p (by simpa [Ta]using b),I.hok,I.len⟩
def TC(I:Inv (Ta X pins D hs) pins1 σ H s):Inv X pins σ H s:=⟨⟨I.ok.mod,I.ok.kind,I.ok.glob,I.ok.blt,I.ok.above,I.ok.inj,I.ok.has,I.ok.cab,I.ok.hd,I.ok.frames,I.ok.stk,I.ok.exf,I.ok.bs,I.ok.bsz,I.ok.noex,I.ok.exfs,I.ok.funs,I.ok.frf⟩,I.os,I.bare,I.base,I.loc,I.cell,I.free,I.freeC,λp b=>I.pin p (WL _ b),I.hok,I.len⟩
def A9(h:X.stack=X.env::X.outer)(x:X.env.frame=some X.env.locals)(Q:PH X hs L):FQ (CXe X.prog X.w) (Ta X pins D hs) (hxL X.K L D):=by
 rintro pins1 σ H s e s' I ⟨a,T,C,dx,H',rfl,y,q⟩;have I:=TC I;have J:=I.call' y.os y.un y.hok y.bare λb z=>absurd z (by simp);have E:=J.stack;have G:=J.ok.frames;rw[h]at E G;refine DA G E x y.tr λU p l u B=>?_
 have g:s.heap.get? p=none:=by
  cases z:s.heap.get? p with
  |none=>rfl
  |some o=>
   obtain⟨o1,M⟩:=y.un.there p o z (by simp);exact absurd (Wd M) (Vk.mpr l)
 have n:=y.hok.fresh l
 have N:Un (frs X.stack) [] H H' s.heap U:=Nt y.un (by rw[h];exact B) λb f=>by
  rcases Wk.mp f with rfl|f
  ·exact y.na
  ·rw[YW.mp f];exact y.nT
 have v:=PK y.hok B (λb f=>J.stkFree b (by grind)) λb f=>by
  rcases Wk.mp f with rfl|f
  ·exact y.fa
  ·rw[YW.mp f];exact y.fT
 refine Ng u λh3 r A=>?_;exact Q pins σ H H' s s' h3 a p C dx _ D ⟨I,y.os,y.bare,y.na,g,y.fa,n,r,Nt N (A.mono (by simp) λ_ z=>z) λb f=>by rw[YW.mp f];exact g,PK v A (by simp) λb f=>by rw[YW.mp f];exact n⟩ q
def LJ{l:Ends->TS}(n:∀pins D,PSs (Ta X pins D (o::hs)) body (l D)):PS X (.Try body (o::hs) [] [] pos) (λD σ H=>l D D σ H):=by
 intro pins s σ H D I h;refine wpAny_Try_except (Wx (n pins D [] s σ H D (L5 I) h) (λf p g=>?_) λ_ _ z=>z);cases f with
 |next=>
  obtain⟨b,H',J,q⟩:=g;exact Wb ⟨b,H',TC J,q⟩
 |ret u=>obtain⟨v,b,H',J,r,q⟩:=g;exact⟨v,b,H',TC J,r,q⟩
 |_=>obtain⟨b,H',J,q⟩:=g;exact⟨b,H',TC J,q⟩
end
end ExcR
namespace Pu
open L2 Own
noncomputable def XU(c n:Str):Bool:=decide (c=n) || decide (n=("MeldError" : Str))
noncomputable def Ms(oi:Option Nat)(R:XH):XH:=match oi with
 |some i=>{nx:=λg=>R.nx (g.set i none),rt:=R.rt,ex:=λ_ _=>False,bk:=λg=>R.bk (g.set i none),ct:=λg=>R.ct (g.set i none),rv:=R.rv}
 |none=>{R with ex:=λ_ _=>False}
noncomputable def Mb(oi:Option Nat)(d:D)(b:Γ):Γ:=match oi with
 |some i=>b.set i (some<|.sh d)
 |none=>b
def pHs:List (Str×Option Nat×PTS)->Str->D->XH->Γ->Prop
 |[],_,_,_,_=>False
 |(n,f,p)::r,c,d,R,b=>if XU c n=true then p (Ms f R) (Mb f d b)else pHs r c d R b
noncomputable def MT(f:ZZ)(n:Ye)(g:List (Str×Option Nat×PTS))(l:PTS):PTS:=λR h=>l {R with ex:=λb c=>(c∈n/\pHs g c (.err<|ExcR.JU f c) R b)\/∃r,c=X5 r/\pHs g "Ringed" (.erM (ExcR.JU f "Ringed") r) R b} h
def ExOk(K:ZV)(b:ZZ)(f ns:Ye):Prop:=∀c∈f,∀n∈ns,PySem.W.exmOne K (.ref<|ExcR.JU b c) (.ref<|ExcR.JU b n)=some (XU c n)
inductive HsS (K:ZV) (mg:ZZ) (E:L2.St->XK):List (Addr×Option Nat×TS)->List (Str×Option Nat×PTS)->Prop
 |nil:HsS K mg E [] []
 |cons {n:Str} {oi:Option Nat} {ts:TS} {p:PTS} {L:List (Addr×Option Nat×TS)} {hs:List (Str×Option Nat×PTS)}:Ui K mg E ts p->HsS K mg E L hs->HsS K mg E ((ExcR.JU mg n,oi,ts)::L) ((n,oi,p)::hs)
section
variable {K:ZV}{mg:ZZ}{E:L2.St->XK}
theorem SD{B Y w}{γ x}{R D c d C dx}(T:∀b,B b->∃o,M b=some o)(e:PQ K mg E M B H Y γ R D)(U:JW K M B H' w x)(A:Fr B H Y γ H' w x){E'}(hd:∀a,H' a=none->Rp K (off (zof B x w)<|upd H' a<|ExcR.Xf a C dx) d (.ref a)):∀{L} {N:List (Str×Option Nat×PTS)},HsS K mg E' L N->(∀n∈N.map (·.1),PySem.W.exmOne K (.ref C) (.ref<|ExcR.JU mg n)=some (XU c n))->pHs N c d R x->ExcR.hxL K L D w (.ref C) dx H'
 |_,_,.nil,_,h=>h
 |_,_,.cons (n:=n) (oi:=oi) hh r,hx,h=>by
  refine⟨C,XU c n,rfl,hx n W3,?_⟩;unfold pHs at h;split at h
  ·rename_i Q;rw[Wc Q];cases oi with
   |none=>exact hh M B H' w x _ _ T U h ⟨λf g u l q p=>e.nx _ _ u l q (A.trans p),e.rt,λ_ _ _ _ z=>z.elim,λf g u l q p=>e.bk _ _ u l q (A.trans p),λf g u l q p=>e.ct _ _ u l q (A.trans p),λf g d v u l q p=>e.rv f g d v u l q (A.trans p)⟩
   |some i=>
    intro a na;obtain⟨e2,f2⟩:=U.set (s:=.sh d) (UB na) (hd a na) rfl;have y:=A.trans f2;refine hh M B _ _ _ _ _ T e2 h ⟨λf g u l q p=>?_,e.rt,λ_ _ _ _ z=>z.elim,λf g u l q p=>?_,λf g u l q p=>?_,λf g d v u l q p=>e.rv f g d v u l q (y.trans p)⟩
    ·obtain⟨J,G⟩:=q.gone i;exact e.nx _ _ u l J (y.trans<|p.trans G)
    ·obtain⟨J,G⟩:=q.gone i;exact e.bk _ _ u l J (y.trans<|p.trans G)
    ·obtain⟨J,G⟩:=q.gone i;exact e.ct _ _ u l J (y.trans<|p.trans G)
  ·rename_i Q;rw[YV Q];exact SD T e U A hd r (λn hn=>hx n (Wm _ hn)) h
def MO{w:Ends->TS}{pb}{E'}(v ns:Ye)(hx:ExOk K mg ("Ringed" :: v) ns)(A:HsS K mg E' L x)(hb:∀D,Ui K mg (ExcR.hxL K L D) (w D) pb)(T:autoParam (x.map (·.1)=ns) au_0)(U:autoParam (∀c∈v,KA c=none) au_1):Ui K mg E (λD p H=>w D D p H) (MT mg v x pb):=by
 subst T;intro H0 B H p Q R D s u h e;refine hb D H0 B H p Q _ D s u h ⟨e.nx,e.rt,λM N c H' Y b C=>?_,e.bk,e.ct,e.rv⟩;rcases Y with⟨f,q⟩|⟨r,rfl,q⟩
 ·exact .of (U c f) (SD s e b C (λa n=>.err (U2 Um λz=>by have:=b.zm a z;rw[n]at this;exact this)) A (hx c<|Wm _ f) q)
 ·refine .ofM λG l o g y=>SD s e b C (λa n=>?_) A (hx _ W3) q;have J:=UB (o:=ExcR.Xf a (ExcR.JU mg "Ringed") (some G)) n;exact .erM (U2 Um λz=>by have:=b.zm a z;rw[n]at this;exact this) (U2 (J _ _ g) λz=>by have:=b.zm G z;rw[g]at this;exact this) (U2 (J _ _ y) λz=>by have:=b.zm l z;rw[y]at this;exact this)
end
def ExOk.sub {K g l ns f b} (h:ExOk K g l ns) (r:∀c∈f,c∈l) (q:∀n∈b,n∈ns):ExOk K g f b:=λc p n o=>h c (r c p) n (q n o)
noncomputable def Dz(K:ZV)(b ns:Yj):Bool:=b.all λc=>ns.all λn=>decide (PySem.W.exmOne K (.ref c.2) (.ref n.2)=some (XU c.1 n.1))
def Hq{K b f ns}(h:Dz K (f.map λc=>(c,ExcR.JU b c)) (ns.map λn=>(n,ExcR.JU b n))=true):ExOk K b f ns:=λc l n g=>
 YY (WA.mp (WA.mp h _<|W8.mpr ⟨c,l,rfl⟩) _<|W8.mpr ⟨n,g,rfl⟩)
def hq{A}(h:JZ j A)(b:autoParam (k<=j) au_1):JZ k A:=h.mono b
section
variable {X:Cx}{sc:Scope}{elt iter tg:Expr}{ifs:Yf}{pos:Pos}{wi:TI}{g:TG}{tc:TT}{te:TE}{x:Str}
def cz(N':Ye)(φ:Yb)(p:PI X tg iter wi)(l:∀{n C b f ex},PG (U6 X N' sc n C b f ex) tg g/\KF (U6 X N' sc n C b f ex) ifs tc/\PE (U6 X N' sc n C b f ex) elt te)(h:autoParam (X.calm=true) au_0)(S:autoParam (PB sc X.env.scope X.N N' φ=true) au_0)(o:autoParam (∀x,foldedSetIterable iter X.env x=pure x) au_3):PE X (.ListComp elt [⟨tg,iter,ifs,0⟩] sc pos) (Pn φ wi g tc te):=N6 h (.of S) p (λ_ _ _ _ _=>l) o
def gk(i:Nat)(h:autoParam (decide X.N.Nodup=true) au_9)(b:autoParam (X.N[i]?=some x) au_0)(hx:autoParam (Loc X.env.scope x) au_6)(f:autoParam (X.fn x=true\/X.env.scope.names.lookup x=some .local) au_2):PG X (.Name x pos) (Pj i):=B6 (YY h) b hx f
end
section
variable {P:Program}{w:World}{K:ZV}{mg:ZZ}{base:Heap}{N ps:Ye}{sp:Sp}{p:PTS}{x q:Str}{st:Stmt}{k:Nat}{W:Addr->Prop}
def _root_.Own.Def.ez (D:Def K mg x st ps) (S:JY N ps (JT st))
  (g:∀{f b A outer s H} {E:XK},JZ k (A.deeper<|envOfC x (JT st) s.heap.objs.size f b)->
   ∃t,PSs (U1 CX0 P w K mg base N x (JT st) f b A outer s H E).nox (Uw st) t/\Ui K mg (λ_=>E) t p) (u:Uz K mg N ps sp p):Callee P w K mg base CX0 (k+1) x ps sp:=D.oz S (λ_ _ _ _ _ _ _=>g) u
def _root_.Own.Def.ey (D:Def K mg x st ps) (S:JY N ps (JT st))
  (g:∀{f b A outer s H} {E:XK},JZ k (A.deeper<|envOfC x (JT st) s.heap.objs.size f b)->
   ∃t,PSs (U1 (ExcR.CXe P w) P w K mg base N x (JT st) f b A outer s H E) (Uw st) t/\Ui K mg (λ_=>E) t p) (u:Uz K mg N ps sp p):Callee P w K mg base (ExcR.CXe P w) (k+1) x ps sp:=D.ox S (λ_ _ _ _ _ _ _=>g) u
def Uo.ez (D:Uo K W x q st ps) (S:JY N ps (JT st))
  (g:∀{f b A outer s H} {E:XK},JZ k (A.deeper<|envOfC q (JT st) s.heap.objs.size f b)->
   ∃t,PSs (U1 CX0 P w K mg base N q (JT st) f b A outer s H E).nox (Uw st) t/\Ui K mg (λ_=>E) t p) (u:Uz K mg N ps sp p):Xh P w K mg base CX0 (k+1) W ps sp:=D.oz S (λ_ _ _ _ _ _ _=>g) u
def Uo.ey (D:Uo K W x q st ps) (S:JY N ps (JT st))
  (g:∀{f b A outer s H} {E:XK},JZ k (A.deeper<|envOfC q (JT st) s.heap.objs.size f b)->
   ∃t,PSs (U1 (ExcR.CXe P w) P w K mg base N q (JT st) f b A outer s H E) (Uw st) t/\Ui K mg (λ_=>E) t p) (u:Uz K mg N ps sp p):Xh P w K mg base (ExcR.CXe P w) (k+1) W ps sp:=D.ox S (λ_ _ _ _ _ _ _=>g) u
end
structure Fit {ι:Type} (F:ι->Cx) (K:ZV) (mg:ZZ):Prop where
 k:∀j,(F j).K=K
 m:∀j,(F j).mg=mg
section
variable {ι:Type} (F:ι->Cx) (K:ZV) (mg:ZZ) (E:L2.St->XK)
structure CE (e:Expr) (p:PTE):Prop where
 h:Fit F K mg->∃t,(∀j,PE (F j) e t)/\JR K mg E t p
structure CT (e:Expr) (p:PTT):Prop where
 h:Fit F K mg->∃t,(∀j,PT (F j) e t)/\UG K mg E t p
structure CW (e:Expr) (p:PTT):Prop where
 h:Fit F K mg->∃t,(∀j,PW (F j) e t)/\UG K mg E t p
structure CA (es:Yf) (p:PTA):Prop where
 h:Fit F K mg->∃t,(∀j,PA (F j) es t)/\U3 K mg E t p
structure CS (s:Stmt) (p:PTS):Prop where
 h:Fit F K mg->∃t,(∀j,PS (F j) s t)/\Ui K mg E t p
structure CB (b:Yg) (p:PTS):Prop where
 h:Fit F K mg->∃t,(∀j,PSs (F j) b t)/\Ui K mg E t p
structure CI (tg e:Expr) (p:PTI):Prop where
 h:Fit F K mg->∃t,(∀j,PI (F j) tg e t)/\SndI K mg E t p
structure CJ (tg e:Expr) (p:PTI):Prop where
 h:Fit F K mg->∃t,(∀j,PI (F j) tg e t)/\P7 K mg E t p
structure CG (e:Expr) (is:Yc) (p:PTG):Prop where
 h:Fit F K mg->∃t,(∀j,PG (F j) e t)/\Ki K is t p
structure CGs (es:Yf) (is:Yc) (p:Pb):Prop where
 h:Fit F K mg->∃t,(∀j,PGs (F j) es t)/\Py K is t p
structure CF (es:Yf) (p:PTT):Prop where
 h:Fit F K mg->∃t,(∀j,KF (F j) es t)/\UG K mg E t p
end
section
variable {ι:Type}{F:ι->Cx}{K:ZV}{mg:ZZ}{E:L2.St->XK}{e f g:Expr}{es:Yf}{a b c:PTE}{r:PTA}{x:Str}{pos p1:Pos}{k n:Nat}{s:Stmt}{d1 d2:Yg}{p q:PTS}{t u:PTT}{is:Yc}{pg:PTG}{it:PTI}
def xv(i:Nat)(v:autoParam (∀j,(F j).N[i]?=some x) au_3)(h:autoParam (∀j,Vis (F j).env.scope x) au_10)(l:autoParam ((x==("__debug__" : Str))=false) au_1)(o:autoParam ((x==("__classdict__" : Str))=false) au_1):CE F K mg E (.Name x pos) (NL i):=.mk λ_=>⟨_,λj=>pv i (v j) (h j) l o,JS i⟩
def xi:CE F K mg E (.Constant (.int i) k pos) (pC<|.int i):=.mk λ_=>⟨_,λ_=>Uk,Ua⟩
def xb:CE F K mg E (.Constant (.bool i) k pos) (pC<|.bl i):=.mk λ_=>⟨_,λ_=>SY,Bv⟩
def xs:CE F K mg E (.Constant (.str i) k pos) (pC<|.str i):=.mk λ_=>⟨_,λ_=>SE,Bx⟩
def xe(h:∀{j},PE (F j) e te)(k:JR K mg E te a):CE F K mg E e a:=.mk λ_=>⟨_,λ_=>h,k⟩
def xo{r}(y:∀{X},OpR X (binaryOp l) r)(w:∀{t u},JR K mg E t a->JR K mg E u b->JR K mg E (tOp r t u) c)(A:CE F K mg E e a)(B:CE F K mg E f b):CE F K mg E (.BinOp e l f pos) c:=
 .mk λh=>let ⟨_,C,v⟩:=A.h h;let ⟨_,z,o⟩:=B.h h;⟨_,λj=>UI y (C j) (z j),w v o⟩
def xx(A:CE F K mg E e a)(B:CE F K mg E f b)(v:autoParam (Ss f) au_7):CE F K mg E (.Subscript e f pos) (p2 a b fIx):=
 .mk λh=>let ⟨_,y,o⟩:=A.h h;let ⟨_,w,l⟩:=B.h h;⟨_,λj=>jx K (y j) (w j) (h.k j) v,Xu o l⟩
def xl(w:mg "len"=none)(A:CE F K mg E e a)(y:autoParam (∀j,Gl (F j) "len") au_3)(v:autoParam (∀j,starEach [e] (F j).env=(false,eval e (F j).env)::starEach [] (F j).env) au_3)(l:autoParam (∀j,(backTo pos (starEach [] (F j).env)).any (·.1)=false) au_3) :
  CE F K mg E (.Call (.Name "len" p1) [e] [] pos) (pCB SA<|Xg a XX):=
 .mk λh=>let ⟨_,z,o⟩:=A.h h;⟨_,λj=>ln K (by rw[h.m j];exact w) (z j) (h.k j) (y j) (v j) (l j),Eb (sz o)⟩
def xf{ps v}(C:Callee P w K mg base CX0 k x ps (Ue mg v K))(H:∀j,JZ m (F j).A)(A:CA F K mg E (e::es) r)(N:autoParam (∀j,(F j).prog=P/\(F j).w=w/\(F j).base=base) au_11)(J:autoParam (k<=m) au_1)(L:autoParam (∀j,Gl (F j) x) au_3)(o:autoParam ((x==("__debug__" : Str))=false) au_1)(M:autoParam (∀j,starEach (e::es) (F j).env=(false,eval e (F j).env)::starEach es (F j).env) au_3)(l:autoParam (∀j,(backTo pos (starEach es (F j).env)).any (·.1)=false) au_3) :
  CE F K mg E (.Call (.Name x p1) (e::es) [] pos) (Ed v r):=
 .mk λh=>let ⟨_,Q,G⟩:=A.h h;⟨_,λj=>fz (by obtain⟨B,z,y⟩:=N j;rw[B,z,y,h.k j,h.m j];exact C) (H j) (Q j) J (L j) o (M j) (l j),LU G⟩
def xt(A:CA F K mg E es r):CE F K mg E (.Tuple es k pos) (BQ r):=.mk λh=>let ⟨_,o,l⟩:=A.h h;⟨_,λj=>Tn (o j),Ni l⟩
def xL(A:CA F K mg E es r):CE F K mg E (.List es pos) (AS r):=.mk λh=>let ⟨_,o,l⟩:=A.h h;⟨_,λj=>X4 (o j),XN l⟩
def a0:CA F K mg E [] XX:=.mk λ_=>⟨_,λ_=>UY,U0⟩
def ac(A:CE F K mg E e a)(B:CA F K mg E es r)(y:autoParam (∀j,starEach (e::es) (F j).env=(false,eval e (F j).env)::starEach es (F j).env) au_3):CA F K mg E (e::es) (Xg a r):=
 .mk λh=>let ⟨_,w,o⟩:=A.h h;let ⟨_,v,l⟩:=B.h h;⟨_,λj=>Uc (w j) (v j) (y j),Uv o l⟩
def a1(A:CE F K mg E e a)(h:autoParam (∀j,starEach [e] (F j).env=(false,eval e (F j).env)::starEach [] (F j).env) au_3):CA F K mg E [e] (Xg a XX):=ac A a0 h
def a2(A:CE F K mg E e a)(B:CE F K mg E f b)(l:autoParam (∀j,starEach [e,f] (F j).env=(false,eval e (F j).env)::starEach [f] (F j).env) au_3)(h:autoParam (∀j,starEach [f] (F j).env=(false,eval f (F j).env)::starEach [] (F j).env) au_3):CA F K mg E [e,f] (Xg a<|Xg b XX):=ac A (a1 B h) l
def a3(A:CE F K mg E e a)(B:CE F K mg E f b)(C:CE F K mg E g c)(o:autoParam (∀j,starEach [e,f,g] (F j).env=(false,eval e (F j).env)::starEach [f,g] (F j).env) au_3)(l:autoParam (∀j,starEach [f,g] (F j).env=(false,eval f (F j).env)::starEach [g] (F j).env) au_3)(h:autoParam (∀j,starEach [g] (F j).env=(false,eval g (F j).env)::starEach [] (F j).env) au_3):CA F K mg E [e,f,g] (Xg a<|Xg b<|Xg c XX):=ac A (a2 B C l h) o
def te(h:∀{j},PT (F j) e tt)(k:UG K mg E tt t):CT F K mg E e t:=.mk λ_=>⟨_,λ_=>h,k⟩
def tc{r}(y:∀{X},OpR X (compareOp l) r)(w:∀{t u},JR K mg E t a->JR K mg E u b->JR K mg E (tOp r t u) c)(A:CE F K mg E e a)(B:CE F K mg E f b)(z:behindInMarks l f=false:=by exact KD _):CT F K mg E (.Compare e [l] [f] pos) (KG c):=
 .mk λh=>let ⟨_,G,v⟩:=A.h h;let ⟨_,C,o⟩:=B.h h;⟨_,λj=>Kq y (G j) (C j) z,XS (w v o)⟩
def tq(v:∀j,JZ n (F j).A)(A:CE F K mg E e a)(B:CE F K mg E f b):CT F K mg E (.Compare e [.Eq] [f] pos) (KG<|p2 a b<|Pk false):=
 .mk λh=>let ⟨_,y,o⟩:=A.h h;let ⟨_,w,l⟩:=B.h h;⟨_,λj=>cq K (v j) (y j) (w j) (h.k j),XS (F6 o l)⟩
def tn(v:∀j,JZ n (F j).A)(A:CE F K mg E e a)(B:CE F K mg E f b):CT F K mg E (.Compare e [.NotEq] [f] pos) (KG<|p2 a b<|Pk true):=
 .mk λh=>let ⟨_,y,o⟩:=A.h h;let ⟨_,w,l⟩:=B.h h;⟨_,λj=>cn K (v j) (y j) (w j) (h.k j),XS (HU o l)⟩
def ti(v:∀j,JZ n (F j).A)(A:CE F K mg E e a)(B:CE F K mg E f b)(w:autoParam (behindInMarks .In f=false) au_12):CT F K mg E (.Compare e [.In] [f] pos) (KG<|p2 a b<|fIn false):=
 .mk λh=>let ⟨_,z,o⟩:=A.h h;let ⟨_,y,l⟩:=B.h h;⟨_,λj=>Kq (IK (T3<|v j)<|h.k j) (z j) (y j) w,XS (Fq o l)⟩
def tI(v:∀j,JZ n (F j).A)(A:CE F K mg E e a)(B:CE F K mg E f b)(w:autoParam (behindInMarks .NotIn f=false) au_12):CT F K mg E (.Compare e [.NotIn] [f] pos) (KG<|p2 a b<|fIn true):=
 .mk λh=>let ⟨_,z,o⟩:=A.h h;let ⟨_,y,l⟩:=B.h h;⟨_,λj=>Kq (Mp (T3<|v j)<|h.k j) (z j) (y j) w,XS (Fq o l)⟩
def tt(A:CE F K mg E e a)(o:autoParam (∀j whole,isTrue e (F j).env whole=(do let v ←whole;standAt e.pos;holding [v] (truthy v))) au_7):CT F K mg E e (Ag a):=.mk λh=>let ⟨_,w,l⟩:=A.h h;⟨_,λj=>E7 (w j) (h.k j) (o j),R4 l⟩
def tN(A:CT F K mg E e t):CT F K mg E (.UnaryOp .Not e pos) (Ah t):=.mk λh=>let ⟨_,o,l⟩:=A.h h;⟨_,λj=>RA (o j),M6 l⟩
def tp(A:CW F K mg E e t):CT F K mg E e t:=.mk λh=>let ⟨_,o,l⟩:=A.h h;⟨_,λj=>(o j).pt,l⟩
def wa(A:CT F K mg E e t)(B:CW F K mg E (.BoolOp .And (f::es) pos) u):CW F K mg E (.BoolOp .And (e::f::es) pos) (Dl t u):=.mk λh=>let ⟨_,w,o⟩:=A.h h;let ⟨_,v,l⟩:=B.h h;⟨_,λj=>IV (w j) (v j),RM o l⟩
def wo(A:CT F K mg E e t)(B:CW F K mg E (.BoolOp .Or (f::es) pos) u):CW F K mg E (.BoolOp .Or (e::f::es) pos) (pOr t u):=.mk λh=>let ⟨_,w,o⟩:=A.h h;let ⟨_,v,l⟩:=B.h h;⟨_,λj=>Le (w j) (v j),R7 o l⟩
def wA(A:CT F K mg E e t):CW F K mg E (.BoolOp .And [e] pos) t:=.mk λh=>let ⟨_,o,l⟩:=A.h h;⟨_,λj=>Mt (o j),l⟩
def wO(A:CT F K mg E e t):CW F K mg E (.BoolOp .Or [e] pos) t:=.mk λh=>let ⟨_,o,l⟩:=A.h h;⟨_,λj=>Lh (o j),l⟩
def se(h:∀{j},PS (F j) s l)(k:Ui K mg E l p):CS F K mg E s p:=.mk λ_=>⟨_,λ_=>h,k⟩
def sS(i:Nat)(y:∀j,(F j).N.Nodup)(A:CE F K mg E e a)(v:autoParam (∀j,(F j).N[i]?=some x) au_3)(hx:autoParam (∀j,Loc (F j).env.scope x) au_13)(o:autoParam (∀j,swapsWith e (some<|.Name x p1) pos.line (F j).env=pure false) au_3)(w:autoParam (∀j,(F j).fn x=true\/(F j).env.scope.names.lookup x=some .local) au_14):CS F K mg E (.Assign [.Name x p1] e pos) (Sw a<|P4 i):=
 .mk λh=>let ⟨_,z,l⟩:=A.h h;⟨_,λj=>pz i (y j) (z j) (v j) (hx j) (o j) (w j),TX l (Kp i)⟩
def sR(A:CE F K mg E e a):CS F K mg E (.Return (some e) pos) (AM a):=.mk λh=>let ⟨_,o,l⟩:=A.h h;⟨_,λj=>KE (o j),Ha l⟩
def sF(i:Nat)(A:CS F K mg E s p):CS F K mg E s (FK i p):=.mk λh=>let ⟨_,o,l⟩:=A.h h;⟨_,o,OC i l⟩
def sI(A:CT F K mg E e t)(B:CB F K mg E d1 p)(C:CB F K mg E d2 q):CS F K mg E (.If e d1 d2 pos) (DY t p q):=.mk λh=>let ⟨_,z,v⟩:=A.h h;let ⟨_,y,o⟩:=B.h h;let ⟨_,w,l⟩:=C.h h;⟨_,λj=>Gw (z j) (y j) (w j),R0 v o l⟩
def sE(A:CE F K mg E e a)(o:autoParam (∀j,swapsWith e none pos.line (F j).env=pure false) au_3):CS F K mg E (.Expr e pos) (Cw a):=.mk λh=>let ⟨_,v,l⟩:=A.h h;⟨_,λj=>Us (v j) (o j),U5 l⟩
def sO(l:Yc)(C:∀{j},PassesOwn (model (F j).prog (F j).w) (F j).A (F j).env (F j).xe)(I:CI F K mg E f e it)(G:CG F K mg f is pg)(B:CB F K mg E d1 p)(H:autoParam (∀j,(F j).calm=true) au_3)(z:autoParam (∀j x,foldedSetIterable e (F j).env x=pure x) au_7) :
  CS F K mg E (.For f e d1 [] pos) (Cr l it pg p):=
 .mk λh=>let ⟨_,M,y⟩:=I.h h;let ⟨_,L,v⟩:=G.h h;let ⟨_,J,o⟩:=B.h h;⟨_,λj=>MQ C (H j) (M j) (L j) (J j) (z j),HN l y v o⟩
def sW(l:Yc)(y:∀{j},PassesOwn (model (F j).prog (F j).w) (F j).A (F j).env (F j).xe)(A:CT F K mg E e t)(B:CB F K mg E d1 p):CS F K mg E (.While e d1 [] pos) (Da l t p):=
 .mk λh=>let ⟨_,C,v⟩:=A.h h;let ⟨_,z,o⟩:=B.h h;⟨_,λj=>GJ y (C j) (z j),HD l v o⟩
def b0:CB F K mg E [] Dx:=.mk λ_=>⟨_,λ_=>Hm,GP⟩
def b1(A:CS F K mg E s p):CB F K mg E [s] p:=.mk λh=>let ⟨_,o,l⟩:=A.h h;⟨_,λj=>KU (o j),l⟩
def bc(A:CS F K mg E s p)(B:CB F K mg E d1 q):CB F K mg E (s::d1) (Cn p q):=.mk λh=>let ⟨_,w,o⟩:=A.h h;let ⟨_,v,l⟩:=B.h h;⟨_,λj=>DS (w j) (v j),AX o l⟩
def bj(A:CS F K mg E s p)(B:CB F K mg E d1 q):CB F K mg E (s::d1) (DP p q):=.mk λh=>let ⟨_,w,o⟩:=A.h h;let ⟨_,v,l⟩:=B.h h;⟨_,λj=>Ri (w j) (v j),Hl o l⟩
def iL(A:CE F K mg E e a):CI F K mg E f e (pIL a):=.mk λh=>let ⟨_,o,l⟩:=A.h h;⟨_,λj=>Sg (o j) (h.k j),Ln l⟩
def ir(v:mg "range"=none)(A:CA F K mg E [e] r)(w:autoParam (∀j,Gl (F j) "range") au_3)(o:autoParam (∀j,starEach [e] (F j).env=[(false,eval e (F j).env)]) au_3):CI F K mg E f (.Call (.Name "range" p1) [e] [] pos) (D5 r):=
 .mk λh=>let ⟨_,y,l⟩:=A.h h;⟨_,λj=>Bm (w j) (by rw[h.m j];exact v) (y j) (o j),NX l⟩
def jL(A:CE F K mg E e a):CJ F K mg E f e (F9 a):=.mk λh=>let ⟨_,o,l⟩:=A.h h;⟨_,λj=>Sg (o j) (h.k j),Fj l⟩
def gN(i:Nat)(o:autoParam (∀j,decide (F j).N.Nodup=true) au_15)(h:autoParam (∀j,(F j).N[i]?=some x) au_3)(hx:autoParam (∀j,Loc (F j).env.scope x) au_13)(l:autoParam (∀j,(F j).fn x=true\/(F j).env.scope.names.lookup x=some .local) au_14):CG F K mg (.Name x pos) [i] (P4 i):=.mk λ_=>⟨_,λj=>gk i (o j) (h j) (hx j) (l j),Kp i⟩
def gT(n:Nat){pr}(G:CGs F K mg es is pr)(w:autoParam (∀j,(F j).calm=true) au_3)(v:autoParam (∀j,(assignEach es (F j).env).length=n) au_3)(l:autoParam (∀j,(assignEach es (F j).env).findIdx? (·.1)=none) au_3):CG F K mg (.Tuple es k pos) is (Bk n pr):=
 .mk λh=>let ⟨_,y,o⟩:=G.h h;⟨_,λj=>Eg (w j) (y j) (h.k j) (v j) (l j),On o⟩
def g0:CGs F K mg [] [] Ay:=.mk λ_=>⟨_,λ_=>Ew,MX⟩
def gc(G:CG F K mg e is pg)(B:CGs F K mg es w l)(y:autoParam (∀j,(assignEach (e::es) (F j).env).map (·.2)=assign e (F j).env::(assignEach es (F j).env).map (·.2)) au_3):CGs F K mg (e::es) (is++w) (De pg l):=
 .mk λh=>let ⟨_,A,v⟩:=G.h h;let ⟨_,z,o⟩:=B.h h;⟨_,λj=>SW (A j) (z j) (y j),Oo v o⟩
def f0:CF F K mg E [] FH:=.mk λ_=>⟨_,λ_=>TL,Bh⟩
def f1(A:CT F K mg E e t):CF F K mg E [e] t:=.mk λh=>let ⟨_,o,l⟩:=A.h h;⟨_,λj=>Al (o j),l⟩
noncomputable abbrev Blk(F:ι->Cx)(N':Ye)(h:Scope):ι×Yj×Addr×Shared×Hp×List Addr->Cx:=λj=>U6 (F j.1) N' h j.2.1 j.2.2.1 j.2.2.2.1 j.2.2.2.2.1 j.2.2.2.2.2
def xC(N':Ye)(φ:Yb)(I:CJ F K mg E f e it)(G:CG (Blk F N' v) K mg f is pg)(T:CF (Blk F N' v) K mg E es t)(A:CE (Blk F N' v) K mg E g a)(hc:autoParam (∀j,(F j).calm=true) au_3)(S:autoParam (∀j,PB v (F j).env.scope (F j).N N' φ=true) au_3)(hs:autoParam (∀j x,foldedSetIterable e (F j).env x=pure x) au_7)(h1:autoParam ((φ.filterMap id).Nodup) au_1)(h2:autoParam (∀j∈is,φ[j]?=some none) au_1) :
  CE F K mg E (.ListComp g [⟨f,e,es,0⟩] v pos) (SR φ it pg t a):=.mk λh=>by
 have w:Fit (Blk F N' v) K mg:=⟨λj=>h.k j.1,λj=>h.m j.1⟩;obtain⟨_,Y,L⟩:=I.h h;obtain⟨_,U,J⟩:=G.h w;obtain⟨_,Q,H⟩:=T.h w;obtain⟨_,M,B⟩:=A.h w;exact⟨_,λj=>N6 (hc j) (.of<|S j) (Y j) (λz C l o y=>⟨U (j,z,C,l,o,y),Q (j,z,C,l,o,y),M (j,z,C,l,o,y)⟩) (hs j),Nd L J H B h1 h2⟩
def sr(A:CE F K mg E e a):CS F K mg E (.Return (some e) pos) (Fi a):=.mk λh=>let ⟨_,o,l⟩:=A.h h;⟨_,λj=>KE (o j),EA l⟩
def sV(i:Nat)(v:autoParam (∀j,(F j).N[i]?=some x) au_3)(h:autoParam (∀j,Vis (F j).env.scope x) au_10)(l:autoParam ((x==("__debug__" : Str))=false) au_1)(o:autoParam ((x==("__classdict__" : Str))=false) au_1):CS F K mg E (.Return (some<|.Name x p1) pos) (Bg i):=.mk λ_=>⟨_,λj=>KE (pv i (v j) (h j) l o),GR i⟩
def sA(i:Nat)(A:CE F K mg E e a)(H:autoParam (∀j,(F j).N[i]?=some x) au_3)(B:autoParam (∀j,Vis (F j).env.scope x) au_10)(C:autoParam ((x==("__debug__" : Str))=false) au_1)(G:autoParam ((x==("__classdict__" : Str))=false) au_1){apos cpos}(v:autoParam (∀j,attributeBase (.Name x p1) "append" (F j).env (eval (.Name x p1) (F j).env)=eval (.Name x p1) (F j).env) au_3)(w:autoParam (∀j,((backTo cpos (starEach [e] (F j).env)).all (λx=>!x.1)&&(backToKw cpos (keywordEach [] (F j).env)).all (λx=>x.1.isSome)&&decide ([e].length+([]:List Keyword).length+(if ([]:List Keyword).isEmpty then 0 else 1)<30))=true) au_3)(o:autoParam ((apos.endLine==cpos.line)=true) au_0)(y:autoParam (∀j,starEach [e] (F j).env=(false,eval e (F j).env)::starEach [] (F j).env) au_3)(l:autoParam (∀j,(backTo cpos (starEach [] (F j).env)).any (·.1)=false) au_3)(hw:autoParam (∀j,swapsWith (.Call (.Attribute (.Name x p1) "append" apos) [e] [] cpos) none pos.line (F j).env=pure false) au_3):CS F K mg E (.Expr (.Call (.Attribute (.Name x p1) "append" apos) [e] [] cpos) pos) (SQ i a):=
 .mk λh=>let ⟨_,J,z⟩:=A.h h;⟨_,λj=>Us (MA Qu Qr Qs PZ (pv i (H j) (B j) C G) (Uc (J j) UY<|y j) (h.k j) (v j) (w j) o (y j)<|l j) (hw j),Md i z⟩
def sC(i:Nat)(N':Ye)(φ:Yb){y py spos}(hN:∀j,(F j).N.Nodup)(I:CJ F K mg E f e it)(G:CG (Blk F N' v) K mg f is pg)(T:CF (Blk F N' v) K mg E es t)(A:CE (Blk F N' v) K mg E g a)(hy:autoParam (∀j,(F j).N[i]?=some y) au_3)(hl:autoParam (∀j,(F j).env.scope.names.lookup y=some .local) au_3)(hc:autoParam (∀j,(F j).calm=true) au_3)(S:autoParam (∀j,PB v (F j).env.scope (F j).N N' φ=true) au_3)(hs:autoParam (∀j x,foldedSetIterable e (F j).env x=pure x) au_7)(h1:autoParam ((φ.filterMap id).Nodup) au_1)(h2:autoParam (∀j∈is,φ[j]?=some none) au_1)(hw:autoParam (∀j,swapsWith (.ListComp g [⟨f,e,es,0⟩] v pos) (some<|.Name y py) spos.line (F j).env=pure true) au_3) :
  CS F K mg E (.Assign [.Name y py] (.ListComp g [⟨f,e,es,0⟩] v pos) spos) (Sw (SR φ it pg t a)<|P4 i):=.mk λh=>by
 have w:Fit (Blk F N' v) K mg:=⟨λj=>h.k j.1,λj=>h.m j.1⟩;obtain⟨_,i1,M⟩:=I.h h;obtain⟨_,Y,L⟩:=G.h w;obtain⟨_,U,J⟩:=T.h w;obtain⟨_,Q,H⟩:=A.h w;exact⟨_,λj=>OZ (hN j) (hy j) (hl j) (hc j) (.of<|S j) (i1 j) (λB C l o z=>⟨Y (j,B,C,l,o,z),U (j,B,C,l,o,z),Q (j,B,C,l,o,z)⟩) (hs j) (hw j),TX (Nd M L J H h1 h2) (Kp i)⟩
structure CO {ι:Type} (F:ι->Cx) (K:ZV) (mg:ZZ) (E:L2.St->XK) (o:Option Expr) (p:PTO):Prop where
 h:Fit F K mg->∃t,(∀j,PO (F j) o t)/\PX K mg E t p
def o0:CO F K mg E none Fx:=.mk λ_=>⟨_,λ_=>Ez,LQ⟩
def o1(A:CE F K mg E e a):CO F K mg E (some e) (FT a):=.mk λh=>let ⟨_,o,l⟩:=A.h h;⟨_,λj=>IC (o j),RX l⟩
def xp{lo o l u v}(A:CE F K mg E e a)(L:CO F K mg E lo l)(U:CO F K mg E o u):CE F K mg E (.Subscript e (.Slice lo o none v) pos) (pSl a l u):=
 .mk λh=>let ⟨_,G,z⟩:=A.h h;let ⟨_,C,y⟩:=L.h h;let ⟨_,B,w⟩:=U.h h;⟨_,λj=>G3 (HH<|h.k j) (G j) (C j) (B j),RL z y w⟩
def x0:CE F K mg E (.Constant .none k pos) (pC .non):=.mk λ_=>⟨_,λ_=>Ij,HJ⟩
def sQ{cpos v}(B:ExcR.U4 K (ExcR.JU mg x))(y:mg x=some (.ref<|ExcR.JU mg x))(H:∀{j},ExcR.SH (F j) v)(A:CA F K mg (λ_=>v) (e::es) r)(G:autoParam (∀j,(F j).calm=true) au_3)(z:autoParam (∀j,Gl (F j) x) au_3)(o:autoParam ((x==("__debug__" : Str))=false) au_1)(C:autoParam (∀j,starEach (e::es) (F j).env=(false,eval e (F j).env)::starEach es (F j).env) au_3)(l:autoParam (∀j,(backTo cpos (starEach es (F j).env)).any (·.1)=false) au_3)(hx:autoParam (KA x=none) au_0) :
  CS F K mg (λ_=>v) (.Raise (some<|.Call (.Name x p1) (e::es) [] cpos) none pos) (F3 x r):=
 .mk λh=>let ⟨_,J,w⟩:=A.h h;⟨_,λj=>ExcR.OB (by rw[h.k j];exact B.c) (by rw[h.m j];exact y) H (G j) (J j) (z j) o (C j) (l j),Ge w hx⟩
def xg{ps y v}(C:Callee P w K mg base (ExcR.CXe P w) k x ps (Ue mg y K))(J:∀j,JZ m (F j).A)(hx:∀{j},Xj (ExcR.CXe P w) (F j) v)(A:CA F K mg (λ_=>v) (e::es) r)(Q:autoParam (∀j,(F j).prog=P/\(F j).w=w/\(F j).base=base) au_11)(L:autoParam (k<=m) au_1)(M:autoParam (∀j,Gl (F j) x) au_3)(o:autoParam ((x==("__debug__" : Str))=false) au_1)(N:autoParam (∀j,starEach (e::es) (F j).env=(false,eval e (F j).env)::starEach es (F j).env) au_3)(l:autoParam (∀j,(backTo pos (starEach es (F j).env)).any (·.1)=false) au_3) :
  CE F K mg (λ_=>v) (.Call (.Name x p1) (e::es) [] pos) (NG y r):=
 .mk λh=>let ⟨_,T,H⟩:=A.h h;⟨_,λj=>D8 (by obtain⟨G,B,z⟩:=Q j;rw[G,B,z,h.k j,h.m j];exact C) ((J j).mono L) hx (T j) (M j) o (N j) (l j),IM H⟩
variable {pw:PTW}
end
section
variable {P:Program}{w:World}{K:ZV}{mg:ZZ}{base:Heap}{N ps:Ye}{sp:Sp}{p:PTS}{x q:Str}{st:Stmt}{k:Nat}{W:Addr->Prop}
def _root_.Own.Def.fz (D:Def K mg x st ps) (S:JY N ps (JT st))
  (n:∀{f b A outer s H} {E:XK},(∀{g:Type},g->JZ k (A.deeper<|envOfC x (JT st) s.heap.objs.size f b))->(Unit->N.Nodup)->
   CB (λ_:Unit=>(U1 CX0 P w K mg base N x (JT st) f b A outer s H E).nox) K mg (λ_=>E) (Uw st) p) (u:Uz K mg N ps sp p):Callee P w K mg base CX0 (k+1) x ps sp:=
 D.ez S (λo=>let ⟨t,h,l⟩:=(n (λ_=>o) λ_=>S.nd).h ⟨λ_=>rfl,λ_=>rfl⟩;⟨t,h (),l⟩) u
def _root_.Own.Def.fy (D:Def K mg x st ps) (S:JY N ps (JT st))
  (n:∀{f b A outer s H} {E:XK},(∀{g:Type},g->JZ k (A.deeper<|envOfC x (JT st) s.heap.objs.size f b))->(Unit->N.Nodup)->
   CB (λ_:Unit=>U1 (ExcR.CXe P w) P w K mg base N x (JT st) f b A outer s H E) K mg (λ_=>E) (Uw st) p) (u:Uz K mg N ps sp p):Callee P w K mg base (ExcR.CXe P w) (k+1) x ps sp:=
 D.ey S (λo=>let ⟨t,h,l⟩:=(n (λ_=>o) λ_=>S.nd).h ⟨λ_=>rfl,λ_=>rfl⟩;⟨t,h (),l⟩) u
def Uo.fz (D:Uo K W x q st ps) (S:JY N ps (JT st))
  (n:∀{f b A outer s H} {E:XK},(∀{g:Type},g->JZ k (A.deeper<|envOfC q (JT st) s.heap.objs.size f b))->(Unit->N.Nodup)->
   CB (λ_:Unit=>(U1 CX0 P w K mg base N q (JT st) f b A outer s H E).nox) K mg (λ_=>E) (Uw st) p) (u:Uz K mg N ps sp p):Xh P w K mg base CX0 (k+1) W ps sp:=
 D.ez S (λo=>let ⟨t,h,l⟩:=(n (λ_=>o) λ_=>S.nd).h ⟨λ_=>rfl,λ_=>rfl⟩;⟨t,h (),l⟩) u
def Uo.fy (D:Uo K W x q st ps) (S:JY N ps (JT st))
  (n:∀{f b A outer s H} {E:XK},(∀{g:Type},g->JZ k (A.deeper<|envOfC q (JT st) s.heap.objs.size f b))->(Unit->N.Nodup)->
   CB (λ_:Unit=>U1 (ExcR.CXe P w) P w K mg base N q (JT st) f b A outer s H E) K mg (λ_=>E) (Uw st) p) (u:Uz K mg N ps sp p):Xh P w K mg base (ExcR.CXe P w) (k+1) W ps sp:=
 D.ey S (λo=>let ⟨t,h,l⟩:=(n (λ_=>o) λ_=>S.nd).h ⟨λ_=>rfl,λ_=>rfl⟩;⟨t,h (),l⟩) u
end
mutual
noncomputable def py:D->PyData
 | .int i=>.int i
 | .bl b=>.bool b
 | .str x=>.str x
 | .tup f=>.tuple (pys f)
 | .lst f=>.list (pys f)
 | .fL g=>.list (g.map .int)
 |_=>.none
noncomputable def pys:List D->List PyData
 |[]=>[]
 |d::r=>py d::pys r
end
end Pu
namespace Pu
open L2 Own M
section
variable {K:ZV}{mg:ZZ}{E:L2.St->XK}{H0 H H1 H':Hp}{B Z Z' P:Addr->Prop}{σ:L2.St}{γ:Γ}
def JW.lendB (E:JW K H0 B H σ γ) (g:Same H H1) (q:∀b,P b->H b=none) (p:∀b,P b->Mut (H1 b)):JW K H0 (λb=>B b\/P b) H1 σ γ:=by
 have S:Same (Pu.off (zof B γ σ) H) (Pu.off (zof (λb=>B b\/P b) γ σ) H1):=Ug g λb o f z y=>by
  rcases y with(y|y)|y
  ·exact z (.inl y)
  ·rw[q b y]at f;cases f
  ·exact z (.inr y)
 refine⟨E.same.trans g,E.len,λb f=>f.elim (λh=>XG g (E.bm b h)) (p b),E.own,λi s n=>?_⟩;obtain⟨v,l,h⟩:=E.slot i s n;refine⟨v,l,?_⟩;cases s with
 |bor d=>exact h
 |sh d=>exact Rp.mono S h
 |own o=>
  obtain⟨a,rfl,r,e⟩:=h;exact⟨a,rfl,r,e.mono S λb _ x hx=>g _ _ hx⟩
 |view o=>exact h
 |tmp d=>exact h
def inP(w:Addr×List (Addr×List D))(b:Addr):Prop:=b=w.1\/∃c∈w.2,b=c.1
def TU{b:Type}{l:List b}{m:Nat}{a v:b}(h:v∈l.set m a):v=a\/∃k,k≠m/\l[k]?=some v:=by
 obtain⟨k,f,e⟩:=List.getElem_of_mem h;have g:(l.set m a)[k]?=some v:=by rw[Wa f,e]
 rcases Ux g with⟨_,e,_⟩|⟨n,e⟩
 ·exact .inl e.symm
 ·exact .inr ⟨k,n,e⟩
def Ia{ws:List (Addr×List (Addr×List D))}{k:Int}{j:Nat}{w:Addr×List (Addr×List D)}(f:ixN ws.length k=some j)(b:ws[j]?=some w):atI (ws.map λw=>V.ref w.1) k=some (.ref w.1):=by
 unfold atI;rw[YU,f];show(ws.map λw=>V.ref w.1)[j]?=_;rw[Wh,b];rfl
end
structure Dt (K:ZV) (mg:ZZ) (cs:Ye):Prop where
 is_:∀c∈cs,∀n∈cs,PySem.W.kitOne K (.ref<|ExcR.JU mg c) (.ref<|ExcR.JU mg n)=some (decide (c=n))
 ve:∀c∈cs,PySem.W.kitOne K (.ref<|ExcR.JU mg c) (.type "ValueError")=some true
noncomputable def isAll(K:ZV)(b:Yj):Bool:=b.all λc=>decide (PySem.W.kitOne K (.ref c.2) (.type "ValueError")=some true)&&b.all λn=>decide (PySem.W.kitOne K (.ref c.2) (.ref n.2)=some (decide (c.1=n.1)))
def Hh{K:ZV}{l:ZZ}{g:Ye}(h:isAll K (g.map λc=>(c,ExcR.JU l c))=true):Dt K l g:=by
 have b:∀c∈g,_:=λc f=>(W6 _ _).mp (WA.mp h _<|W8.mpr ⟨c,f,rfl⟩);exact⟨λc f n o=>YY (WA.mp (b c f).2 _<|W8.mpr ⟨n,o,rfl⟩),λc f=>YY (b c f).1⟩
section
variable {K:ZV}{mg:ZZ}{E:L2.St->XK}{H0 H H1 H':Hp}{B Z Z' P:Addr->Prop}{σ:L2.St}{γ:Γ}
def RQ{c:Pw}{i:Nat}{x C:Addr}{xs:Ye}{ws:List (Addr×List (Addr×List D))}{m:Nat}{w:Addr×List (Addr×List D)}{ss ss':List S}{us:List V}{R:Γ->D->Prop}{Q:VK}(env:JW K H0 B H σ γ)(hB:∀b,B b->∃o,H0 b=some o)(S1:Same H H1)(hi:γ[i]?=some (some<|.own<|.vls x C xs ws))(hw:ws[m]?=some w)(t1:TVs K (zof B γ σ) H0 H H1 ss us)(hp:passes ss=some ss')(Y:c (.ins w.1 C xs w.2) ss' (λo' d=>∃f,o'=.ins w.1 C xs f/\R (γ.set i<|some<|.own<|.vls x C xs<|ws.set m (w.1,f)) d) (λ_ _=>False))(q:∀L d v H',R L d->JW K H0 B H' σ L->Fr B H σ γ H' σ L->Rp K (off (zof B L σ) H') d v->Q v H'):spW mg c K (.ref w.1::us) H1 Q E0:=by
 have n:=env.grow S1;have wm:w∈ws:=Wj hw;obtain⟨v1,J,l,rfl,f1,ex,g1,g2,g3,g4⟩:=n.slot i _ hi;subst ex;have r:∀b,inP w b->(O.vls l C xs ws).adr l b:=λb h=>.inr ⟨w,wm,h⟩;have z1:∀b,(O.vls l C xs ws).adr l b->zof B γ σ b:=λb h=>.inr ⟨i,_,_,hi,J,h⟩;have U:∀b,(O.vls l C xs ws).adr l b->∃o,H1 b=some o:=λb h=>XB (n.zm b<|z1 b h);have za:∀b,inP w b->zof B γ σ b:=λb h=>z1 b (r b h);have h0:∀b,inP w b->H0 b=none:=λb h=>f1 b (r b h);have nx:¬inP w l:=(g3 w wm).2;have no1:∀(k:Nat) v b,k≠m->ws[k]?=some v->inP v b->¬inP w b:=λk v b M G g z=>M (g4 k m v w b G hw g z);have dn:Same (off (zof B γ σ) H1) (off (λb=>(zof B γ σ b/\¬inP w b)\/inP w b) H1):=Ug (Same.refl _) λb _ _ z y=>z (y.elim (λy=>y.1)<|za b);obtain⟨p1,⟨dx,p2⟩,p3⟩:=g2 w wm;refine⟨.ins w.1 C xs w.2,w.1,ss',us,λb=>zof B γ σ b/\¬inP w b,_,_,rfl,λb g=>⟨n.zm b g.1,g.2⟩,⟨rfl,p1,⟨dx,p2⟩,λc Y=>let ⟨us,u1,u2⟩:=p3 c Y;⟨us,u1,Rps.mono dn u2⟩,(g3 w wm).1⟩,?_,Tr hp,Y,λo' d v H' hR A rd=>?_,λ_ _ _ z=>z.elim⟩
 ·refine t1.pass n.same env.zm S1 (λb x hx=>U2 (n.same b x hx) λw=>?_) (Ug (Same.refl _) λb _ _ z y=>z (y.elim (λy=>y.1)<|za b)) hp;rw[h0 b w]at hx;cases hx
 ·obtain⟨f,rfl,hR⟩:=hR;have same:∀b o,H1 b=some o->¬inP w b->H' b=some o:=λb o h z=>A.same b o (U2 h z)
  have n1:∀b,(O.vls l C xs<|ws.set m (w.1,f)).adr l b->(O.vls l C xs ws).adr l b\/H1 b=none:=λb g=>by
   rcases g with g|⟨v,hv,g⟩
   ·exact .inl (.inl g)
   ·rcases TU hv with rfl|⟨k,_,G⟩
    ·exact(A.new b g).imp (r b) id
    ·exact .inl (.inr ⟨v,Wj G,g⟩)
  have get:∀(k:Nat) (s:S),(γ.set i<|some<|S.own<|.vls l C xs<|ws.set m (w.1,f))[k]?=some (some s)->(k=i/\s=.own (.vls l C xs<|ws.set m (w.1,f)))\/(k≠i/\γ[k]?=some (some s)):=λk s h=>by
   rcases Ux h with⟨f1,f2,_⟩|⟨f1,f2⟩
   ·exact .inl ⟨f1,(Wg f2).symm⟩
   ·exact .inr ⟨f1,f2⟩
  have hz:∀b o,H1 b=some o->zof B (γ.set i<|some<|.own<|.vls l C xs<|ws.set m (w.1,f)) σ b->zof B γ σ b:=λb o p z=>by
   rcases z with z|⟨k,fs,a',e1,e2,e3⟩
   ·exact .inl z
   ·rcases get k _ e1 with⟨rfl,q⟩|⟨_,q⟩
    ·cases q
     rw[J]at e2;cases e2
     rcases n1 b e3 with h|h
     ·exact z1 b h
     ·rw[h]at p;cases p
    ·exact .inr ⟨k,fs,a',q,e2,e3⟩
  have hzz:∀b o,H' b=some o->¬((zof B γ σ b/\¬inP w b)\/inP (w.1,f) b)->¬zof B (γ.set i<|some<|.own<|.vls l C xs<|ws.set m (w.1,f)) σ b:=λb o _ nn z=>by
   rcases z with z|⟨k,fs,a',e1,e2,e3⟩
   ·refine nn (.inl ⟨.inl z,λw=>?_⟩);obtain⟨u,hu⟩:=hB b z;rw[h0 b w]at hu;cases hu
   ·rcases get k _ e1 with⟨rfl,q⟩|⟨M,q⟩
    ·cases q
     rw[J]at e2;cases e2
     rcases e3 with rfl|⟨v,hv,g⟩
     ·exact nn (.inl ⟨z1 _ (.inl rfl),nx⟩)
     ·rcases TU hv with rfl|⟨k,M,G⟩
      ·exact nn (.inr g)
      ·exact nn (.inl ⟨z1 _ (.inr ⟨v,Wj G,g⟩),no1 k v b M G g⟩)
    ·exact nn (.inl ⟨.inr ⟨k,fs,a',q,e2,e3⟩,λw=>M (env.own k i a' _ fs _ b q hi e2 J e3<|r b w)⟩)
  have up:∀{ds:List D} {vs:List V},Rps K (off (λb=>(zof B γ σ b/\¬inP w b)\/inP (w.1,f) b) H') ds vs->Rps K (off (zof B (γ.set i<|some<|.own<|.vls l C xs<|ws.set m (w.1,f)) σ) H') ds vs:=λh=>Rps.mono (Ug (Same.refl _) λb o p z=>hzz b o p z) h
  have stay:∀{ds:List D} {vs:List V},Rps K (off (zof B γ σ) H1) ds vs->Rps K (off (zof B (γ.set i<|some<|.own<|.vls l C xs<|ws.set m (w.1,f)) σ) H') ds vs:=λh=>Rps.mono (λb o g=>by
   obtain⟨q1,q2⟩:=Xp g;exact U2 (same b o q1 λz=>q2 (za b z)) λz=>q2 (hz b o q1 z)) h
  obtain⟨_,q1,⟨dx',q2⟩,q3,q4⟩:=A.at_;have fresh1:∀b o,inP (w.1,f) b->H1 b=some o->inP w b:=λb o g p=>(A.new b g).resolve_right λz=>by rw[z]at p;cases p
  have or1:OR K (off (zof B (γ.set i<|some<|.own<|.vls l C xs<|ws.set m (w.1,f)) σ) H') H' l (.vls l C xs<|ws.set m (w.1,f)):=by
   refine⟨rfl,?_,λv hv=>?_,λv hv=>?_,λa b v v' z ha g T N=>?_⟩
   ·rw[show(ws.set m (w.1,f)).map (λw=>V.ref w.1)=ws.map λw=>V.ref w.1 by
     rw[List.map_set];apply QS;intro k;rw[List.getElem?_set];split
     ·rename_i G;subst G;split
      ·rw[Wh,hw];rfl
      ·rename_i h;rw[Q1 (by simpa using h)]
     ·rfl]
    exact same _ _ g1 nx
   ·rcases TU hv with rfl|⟨k,M,G⟩
    ·exact⟨q1,⟨dx',q2⟩,λc Y=>let ⟨us,u1,u2⟩:=q3 c Y;⟨us,u1,up u2⟩⟩
    ·obtain⟨s1,⟨sx,s2⟩,s3⟩:=g2 v (Wj G);exact⟨s1,⟨sx,same _ _ s2 (no1 k v _ M G<|.inl rfl)⟩,λc Y=>let ⟨us,u1,u2⟩:=s3 c Y;⟨us,same _ _ u1 (no1 k v _ M G<|.inr ⟨c,Y,rfl⟩),stay u2⟩⟩
   ·rcases TU hv with rfl|⟨k,M,G⟩
    ·refine⟨q4,λz=>?_⟩;obtain⟨o,p⟩:=U l (.inl rfl);exact(g3 w wm).2 (fresh1 l o z p)
    ·exact g3 v (Wj G)
   ·rcases Ux ha with⟨rfl,e1,_⟩|⟨na,ha⟩
    ·rcases Ux g with⟨rfl,_,_⟩|⟨nb,g⟩
     ·rfl
     ·subst e1;obtain⟨o,p⟩:=U z (.inr ⟨v',Wj g,N⟩);exact g4 a b w v' z hw g (fresh1 z o T p) N
    ·rcases Ux g with⟨eb,e1,_⟩|⟨nb,g⟩
     ·subst e1;obtain⟨o,p⟩:=U z (.inr ⟨v,Wj ha,T⟩);exact(g4 a m v w z ha hw T<|fresh1 z o N p).trans eb.symm
     ·exact g4 a b v v' z ha g T N
  have hm:∀b,(O.vls l C xs ws).adr l b->Mut (H' b):=λb g=>by
   by_cases z:inP w b
   ·exact A.at_.mut b (A.old b z)
   ·obtain⟨o,p⟩:=U b g;rw[same b o p z,←p];exact n.zm b (z1 b g)
  obtain⟨t1,t2⟩:=n.change (o':=.vls l C xs (ws.set m (w.1,f))) (H':=H') hi J (λb o p a1=>same b o p λz=>a1 (r b z)) hm n1 or1;exact q _ d v H' hR t1 ((Fr.grow S1).trans t2) (Rp.mono (λb o h=>let ⟨p1,p2⟩:=Xp h;U2 p1 (hzz b o p1 p2)) rd)
noncomputable def Ao(i:Nat)(C:Addr)(xs:Ye)(c:Pw)(b:PTE)(r:PTA):PTW:=λγ R X=>match γ[i]? with
 |some (some<|.own<|.vls x h f l)=>h=C/\f=xs/\b γ (λz=>match z.d with
  | .int k=>∃m w,ixN l.length k=some m/\l[m]?=some w/\r γ (λo=>match passes o with
   |some n=>c (.ins w.1 h f w.2) n (λp d=>∃g,p=.ins w.1 h f g/\R (γ.set i<|some<|.own<|.vls x h f<|l.set m (w.1,g)) d) (λ_ _=>False)
   |none=>False) (X γ)
  |_=>False) (X γ)
 |_=>False
def KL(i:Nat){C:Addr}{m:Str}{xs:Ye}{c:Pw}{J:TE}{L:TA}{b:PTE}{r:PTA}(hx:NoFld m xs)(hb:JR K mg E J b)(hr:U3 K mg E L r) :
  P1 K mg E (K0 C m (spW mg c K) [] E0 (tOp (λx y H Q=>KO K x y H Q\/KS K x y H Q) (Xv i) J) L) (Ao i C xs c b r):=by
 intro H0 B H σ γ R X Q hB g h q N;unfold Ao at h;split at h
 ·rename_i x C' U ws T;obtain⟨rfl,rfl,h⟩:=h;obtain⟨v1,u,l1,rfl,_,ex,g1,g2,_⟩:=g.slot i _ T;refine⟨_,u,hb H0 B H σ γ _ _ _ g h (λz t H1 l o t1=>?_) λc H' A p=>N γ c H' A (g.grow p) (Fr.grow p)⟩;have f:=g.grow o;have M:=t1.rp f.same;split at l
  ·rename_i k ek;rw[ek]at M;obtain⟨n,w,a1,a2,l⟩:=l;obtain⟨p1,⟨dx,p2⟩,p3⟩:=g2 w (Wj a2);refine .inl ⟨l1,_,k,.ref w.1,rfl,M.int_inv,SqL.of (o _ _ g1),Ia a1 a2,w.1,dx,_,rfl,o _ _ p2,hx _,hr H0 B H1 σ γ _ _ _ f l (λss us H2 G S2 Y=>?_) λc H' A p=>N γ c H' A (f.grow p) ((Fr.grow o).trans (Fr.grow p))⟩;rw[WC];split at G
   ·rename_i ss' ep;exact RQ f hB S2 T a2 Y ep G λs d v H' a b c e=>q s d v H' a b ((Fr.grow o).trans c) e
   ·exact G.elim
  ·exact l.elim
 ·exact h.elim
end
section
variable {K:ZV}{mg:ZZ}{E:L2.St->XK}{H0 H H1 H2 H3 H':Hp}{B Z Z' P:Addr->Prop}{σ:L2.St}{γ:Γ}
def Cj{φ:Yb}{L:Addr}(env:JW K H0 B H σ γ)(q:H L=none)(s:∀b,P b->H b=none):∀b o,H b=some o->¬zof B γ σ b->¬zof (λb=>zof B γ σ b\/b=L\/P b) (atP φ γ) (atStart φ σ) b:=λb o f z y=>by
 rcases y with(y|y|y)|⟨v,u,x,p,g,n⟩
 ·exact z y
 ·rw[y,q]at f;cases f
 ·rw[s b y]at f;cases f
 ·obtain⟨m,r,l⟩:=Kj p;obtain⟨w,h,_⟩:=env.slot m _ l;rw[Kd r h]at g;exact z (.inr ⟨m,u,x,l,by rw[h];exact W2 some (Wg g),n⟩)
def Zas{φ:Yb}{L:Addr}(env:JW K H0 B H σ γ)(p:Same H H')(N:H L=none)(T:∀b,P b->H b=none)(U:∃w,H' L=some (.lst w))(Q:∀b,P b->Mut (H' b))(q:(φ.filterMap id).Nodup) :
  JW K H0 (λb=>zof B γ σ b\/b=L\/P b) H' (atStart φ σ) (atP φ γ):=by
 refine⟨env.same.trans p,by unfold atStart atP;simp,λb z=>?_,λi j a a' r es b h1 h2 J G h5 Y=>?_,λi s h=>?_⟩
 ·rcases z with z|rfl|z
  ·exact XG p (env.zm b z)
  ·obtain⟨w,e⟩:=U;rw[e];trivial
  ·exact Q b z
 ·obtain⟨k,o,n⟩:=Kj h1;obtain⟨l,C,A⟩:=Kj h2;obtain⟨v,g,_⟩:=env.slot k _ n;obtain⟨u,y,_⟩:=env.slot l _ A;rw[Kd o g]at J;rw[Kd C y]at G
  have:=env.own k l a a' r es b n A (by rw[g];exact W2 some (Wg J)) (by rw[y];exact W2 some (Wg G)) h5 Y
  subst this;exact TJ q i j k o C
 ·obtain⟨k,o,n⟩:=Kj h;obtain⟨v,g,f⟩:=env.slot k _ n;have M:Same (off (zof B γ σ) H) (off (zof (λb=>zof B γ σ b\/b=L\/P b) (atP φ γ)<|atStart φ σ) H'):=Ug p (Cj env N T);refine⟨v,Kd o g,?_⟩;cases s with
  |bor d=>exact f
  |sh d=>exact Rp.mono M f
  |own r=>
   obtain⟨a,e1,e3,e4⟩:=f;exact⟨a,e1,e3,e4.mono M λb _ x=>p b x⟩
  |view r=>exact f
  |tmp d=>exact f
def inW(ws:List (Addr×List (Addr×List D)))(b:Addr):Prop:=∃w∈ws,inP w b
structure VOk (K:ZV) (Z:Addr->Prop) (H1 H2:Hp) (L C:Addr) (xs:Ye) (ws:List (Addr×List (Addr×List D))):Prop where
 fr:∀b,inW ws b->H1 b=none
 mu:∀b,inW ws b->Mut (H2 b)
 at_:∀w∈ws,xs.length=w.2.length/\(∃dx,H2 w.1=some (.ins C dx<|xs.zip (w.2.map λc=>V.ref c.1)))/\∀c∈w.2,∃vs,H2 c.1=some (.lst vs)/\Rps K (off (λb=>(Z b\/b=L)\/inW ws b) H2) c.2 vs
 nd:∀w∈ws,(w.2.map (·.1)).Nodup/\¬inP w L
 ap:∀(i j:Nat) (w w':Addr×List (Addr×List D)) (b:Addr),ws[i]?=some w->ws[j]?=some w'->inP w b->inP w' b->i=j
def VOk.nil {L C:Addr}{xs:Ye}:VOk K Z H1 H2 L C xs []:=⟨λ_ h=>(let ⟨_,h,_⟩:=h;nomatch h),λ_ h=>(let ⟨_,h,_⟩:=h;nomatch h),(λ_ h=>nomatch h),(λ_ h=>nomatch h),(λi _ _ _ _ h=>nomatch h)⟩
def VOk.no {L C:Addr}{xs:Ye}{ws:List (Addr×List (Addr×List D))} (h:VOk K Z H1 H2 L C xs ws) {b:Addr} (f:inW ws b):b≠L:=λz=>by
 obtain⟨w,hw,f⟩:=f;exact(h.nd w hw).2 (z▸f)
def VOk.app {L C:Addr}{xs:Ye}{ws us:List (Addr×List (Addr×List D))} (h:VOk K Z H1 H2 L C xs ws) (k:VOk K (λb=>Z b\/inW ws b) H2 H3 L C xs us) (T:Same H1 H2) (A:Same H2 H3) (n:∀b o,H3 b=some o->b≠L->H' b=some o):VOk K Z H1 H' L C xs (ws++us):=by
 have split:∀b,inW (ws++us) b->inW ws b\/inW us b:=λb f=>by
  obtain⟨w,hw,f⟩:=f;rcases Wu.mp hw with hw|hw
  ·exact .inl ⟨w,hw,f⟩
  ·exact .inr ⟨w,hw,f⟩
 have v:∀b,inW ws b->∃o,H2 b=some o:=λb f=>XB (h.mu b f)
 have x:∀b,inW ws b->¬inW us b:=λb f s=>by
  obtain⟨o,p⟩:=v b f;rw[k.fr b s]at p;cases p
 refine⟨λb f=>?_,λb f=>?_,λw hw=>?_,λw hw=>?_,λi j w y b r q f l=>?_⟩
 ·rcases split b f with f|f
  ·exact h.fr b f
  ·exact T.free (k.fr b f)
 ·rcases split b f with f|f
  ·have m:=h.mu b f;obtain⟨o,p⟩:=v b f;rw[n b o (A _ _ p) (h.no f),←p];exact m
  ·have m:=k.mu b f;obtain⟨o,p⟩:=XB m;rw[n b o p (k.no f),←p];exact m
 ·rcases Wu.mp hw with hw|hw
  ·obtain⟨a1,⟨J,a2⟩,a3⟩:=h.at_ w hw;refine⟨a1,⟨J,n _ _ (A _ _ a2) (h.no ⟨w,hw,.inl rfl⟩)⟩,λc s=>?_⟩;obtain⟨G,b1,M⟩:=a3 c s;refine⟨G,n _ _ (A _ _ b1) (h.no ⟨w,hw,.inr ⟨c,s,rfl⟩⟩),Rps.mono (λb o f=>?_) M⟩;obtain⟨u,g⟩:=Xp f;refine U2 (n _ _ (A _ _ u) λz=>g (.inl<|.inr z)) λz=>?_;rcases z with z|z
   ·exact g (.inl z)
   ·rcases split b z with z|z
    ·exact g (.inr z)
    ·rw[k.fr b z]at u;cases u
  ·obtain⟨a1,⟨J,a2⟩,a3⟩:=k.at_ w hw;refine⟨a1,⟨J,n _ _ a2 (k.no ⟨w,hw,.inl rfl⟩)⟩,λc s=>?_⟩;obtain⟨G,b1,M⟩:=a3 c s;refine⟨G,n _ _ b1 (k.no ⟨w,hw,.inr ⟨c,s,rfl⟩⟩),Rps.mono (λb o f=>?_) M⟩;obtain⟨u,g⟩:=Xp f;refine U2 (n _ _ u λz=>g (.inl<|.inr z)) λz=>?_;rcases z with(z|z)|z
   ·exact g (.inl<|.inl<|.inl z)
   ·exact g (.inl<|.inr z)
   ·rcases split b z with z|z
    ·exact g (.inl<|.inl<|.inr z)
    ·exact g (.inr z)
 ·rcases Wu.mp hw with hw|hw
  ·exact h.nd w hw
  ·exact k.nd w hw
 ·by_cases Q:i<ws.length<;>by_cases N:j<ws.length
  ·rw[W1 Q]at r;rw[W1 N]at q;exact h.ap i j w y b r q f l
  ·rw[W1 Q]at r;rw[W5 (by lia)]at q;exact(x b ⟨w,Wj r,f⟩ ⟨y,Wj q,l⟩).elim
  ·rw[W5 (by lia)]at r;rw[W1 N]at q;exact(x b ⟨y,Wj q,l⟩ ⟨w,Wj r,f⟩).elim
  ·rw[W5 (by lia)]at r;rw[W5 (by lia)]at q
   have:=k.ap _ _ w y b r q f l
   lia
def VOk.wk {L C:Addr}{xs:Ye}{ws:List (Addr×List (Addr×List D))} (h:VOk K Z H1 H2 L C xs ws) (r:Same H H1) (g:∀b o,H2 b=some o->Z' b->Z b):VOk K Z' H H2 L C xs ws:=
 ⟨λb p=>r.free (h.fr b p),h.mu,λw hw=>let ⟨a1,a2,a3⟩:=h.at_ w hw;⟨a1,a2,λc n=>let ⟨f,b1,q⟩:=a3 c n;⟨f,b1,Rps.mono (Ug (Same.refl _) λb o l z y=>z (y.imp (λy=>y.imp (g b o l) id) id)) q⟩⟩,h.nd,h.ap⟩
def VOk.one {L C x:Addr}{xs:Ye}{g:List (Addr×List D)}{v:V} (t:TV K Z H0 H H1 (.own<|.ins x C xs g) v) (r:∀b,inP (x,g) b->b≠L) (G:∀b o,H1 b=some o->b=L->Z b):v=.ref x/\VOk K Z H H1 L C xs [(x,g)]:=by
 obtain⟨a,rfl,s,o1⟩:=t;have u:=o1.mut;obtain⟨rfl,l,⟨h,A⟩,U,T⟩:=o1
 have one:∀b,inW [(a,g)] b->inP (a,g) b:=λb f=>by
  obtain⟨w,hw,f⟩:=f;rw[YW.mp hw]at f;exact f
 refine⟨rfl,λb f=>s b (one b f),λb f=>u b (one b f),λw hw=>?_,λw hw=>?_,λi j w Y b N M _ _=>?_⟩
 ·rw[YW.mp hw];refine⟨l,⟨h,A⟩,λc Q=>?_⟩;obtain⟨n,q,p⟩:=U c Q
  exact⟨n,q,Rps.mono (Ug (Same.refl _) λb o J z y=>z (by
   rcases y with(y|y)|y
   ·exact .inl y
   ·exact .inl (G b o J y)
   ·exact .inr (one b y))) p⟩
 ·rw[YW.mp hw];exact⟨T,λz=>r L z rfl⟩
 ·have l:i<1:=(Wp.mp N).1;have l2:j<1:=(Wp.mp M).1;lia
def VOk.of {L C l:Addr}{xs:Ye}{ws:List (Addr×List (Addr×List D))}{v:V} (t:TV K Z H0 H H1 (.own<|.vls l C xs ws) v) (h:H1 L=none):v=.ref l/\H1 l=some (.lst (ws.map λw=>V.ref w.1))/\VOk K Z H H1 L C xs ws:=by
 obtain⟨a,rfl,s,o1⟩:=t;have n:=o1.mut;obtain⟨rfl,J,G,A,x⟩:=o1;refine⟨rfl,J,λb g=>s b (.inr g),λb g=>n b (.inr g),λw hw=>?_,λw hw=>⟨(A w hw).1,λz=>?_⟩,x⟩
 ·obtain⟨a1,a2,a3⟩:=G w hw;refine⟨a1,a2,λc u=>?_⟩;obtain⟨p,r,q⟩:=a3 c u
  exact⟨p,r,Rps.mono (Ug (Same.refl _) λb o f z y=>z (by
   rcases y with(y|y)|y
   ·exact .inl y
   ·rw[y,h]at f;cases f
   ·exact .inr (.inr y))) q⟩
 ·obtain⟨o,f⟩:=XB (n L<|.inr ⟨w,hw,z⟩);rw[h]at f;cases f
def VOk.tv {L C:Addr}{xs:Ye}{ws:List (Addr×List (Addr×List D))} (h:VOk K Z H H' L C xs ws) (p:H L=none) (r:H' L=some (.lst (ws.map λw=>V.ref w.1))):TV K Z H0 H H' (.own<|.vls L C xs ws) (.ref L):=by
 refine⟨L,rfl,λb f=>?_,rfl,r,λw hw=>?_,h.nd,h.ap⟩
 ·rcases f with f|f
  ·rw[f];exact p
  ·exact h.fr b f
 ·obtain⟨a1,a2,a3⟩:=h.at_ w hw;refine⟨a1,a2,λc q=>?_⟩;obtain⟨g,n,l⟩:=a3 c q
  exact⟨g,n,Rps.mono (Ug (Same.refl _) λb o s z y=>z (by
   rcases y with y|y|y
   ·exact .inl (.inl y)
   ·exact .inl (.inr y)
   ·exact .inr y)) l⟩
noncomputable def Me(a:PTE):PTE:=λγ R X=>a γ (λs=>match s with
 | .own (.ins x C xs b)=>∀l,R (.own<|.vls l C xs [(x,b)])
 |_=>False) X
def Lk{te:TE}{a:PTE}(M:JR K mg E te a):JR K mg E (NP<|UJ te Xe) (Me a):=by
 intro H0 B H σ γ R X Q r h q A;refine M H0 B H σ γ _ X _ r h (λs v H1 p w y=>?_) A;split at p
 ·rename_i x C xs u;refine⟨by show 1<=sizeLine;decide,λl g=>?_⟩
  have G:∀b,inP (x,u) b->b≠l:=λb n z=>by
   obtain⟨a,rfl,N,o1⟩:=y;obtain⟨o,f⟩:=XB (o1.mut b n);rw[z,g]at f;cases f
  obtain⟨rfl,k⟩:=VOk.one (L:=l) y G λb o f z=>by rw[z,g]at f;cases f
  have J:VOk K (zof B γ σ) H (upd H1 l<|.lst [.ref x]) l C xs [(x,u)]:=VOk.app (ws:=[]) (us:=[(x,u)]) .nil (k.wk (Same.refl _) λb o _ z=>z.resolve_right λz=>by obtain⟨_,z,_⟩:=z;cases z) (Same.refl _) w λb o n z=>by rw[JX z];exact n
  exact q _ _ _ (p l) (w.trans<|UB g) (J.tv (w.free g) Um)
 ·exact p.elim
noncomputable def G5(a b:PTE):PTE:=λγ R X=>a γ (λs=>b γ (λu=>match s,u with
 | .own (.vls _ C xs g),.own (.vls _ n f h)=>n=C/\f=xs/\g.length+h.length<=100000/\∀l,R (.own<|.vls l C xs (g++h))
 |_,_=>False) X) X
def OO{te tf:TE}{a b:PTE}(ha:JR K mg E te a)(G:JR K mg E tf b):JR K mg E (tOp B0 te tf) (G5 a b):=by
 intro H0 B H σ γ R X Q f h q T;refine ha H0 B H σ γ _ X _ f h (λs v H1 h1 g t1=>?_) T;by_cases hs:∃x C xs n,s=.own (.vls x C xs n)
 ·obtain⟨x,C,xs,n,rfl⟩:=hs;have N:=t1;obtain⟨a1,rfl,n1,o1⟩:=N;have ex:=o1.1;subst ex;have y:=f.lendB (P:=(O.vls a1 C xs n).adr a1) g n1 o1.mut;refine G H0 _ H1 σ γ _ X _ y h1 (λu w H2 p r M=>?_) λc H' Y S'=>T c H' Y (g.trans S');split at p
  ·rename_i x1 C1 xs1 ws1 x2 C2 J L e1;cases e1
   obtain⟨rfl,rfl,hz,hR⟩:=p;have g1:=o1.2.1;obtain⟨a2,rfl,n2,o2⟩:=id M;have ey:=o2.1;subst ey;have g2:=o2.2.1
   have U:(n.map λw=>V.ref w.1).length+(L.map λw=>V.ref w.1).length<=sizeLine:=by
    rw[YU,YU];exact Wi hz (by decide)
   refine⟨a1,a2,_,_,rfl,rfl,r _ _ g1,g2,U,λl A=>?_⟩;have k1:=(VOk.of t1<|r.free A).2.2;have k2:=(VOk.of M A).2.2
   have k3:VOk K (zof B γ σ) H (upd H2 l<|.lst ((n.map λw=>V.ref w.1)++L.map λw=>V.ref w.1)) l C2 J (n++L):=VOk.app k1 (k2.wk (Same.refl _) λb o _ z=>by
    rcases z with z|z
    ·exact z.imp .inl id
    ·exact .inl (.inr<|.inr z)) g r λb o G z=>by rw[JX z];exact G
   exact q _ _ _ (hR l) ((g.trans r).trans (UB A)) (k3.tv ((g.trans r).free A)<|by rw[Um,Ww])
  ·exact p.elim
 ·refine G H0 _ H1 σ γ _ X _ (f.grow g) h1 (λu w H2 p r M=>?_) λc H' Y S'=>T c H' Y (g.trans S');split at p
  ·exact absurd ⟨_,_,_,_,rfl⟩ hs
  ·exact p.elim
structure Rf (φ:Yb) (γ:Γ) (g:PTG) (c:PTT) (e:PTE) (n:Nat) (item:Nat->S) (R:S->Prop):Prop where
 w:n<=100000/\∃(C:Addr) (xs:Ye) (f:Nat->List (List D)),(∀i,i<n->g (item i) (atP φ γ) λγ2=>c γ2 (λb=>b=true/\e γ2 (λs=>∃x cs,s=.own (.ins x C xs cs)/\cs.map (·.2)=f i) (λ_=>False)) (λ_=>False))/\∀(l:Addr) (ws:List (Addr×List (Addr×List D))),ws.map (λw=>w.2.map (·.2))=(List.range n).map f->R (.own<|.vls l C xs ws)
noncomputable def R9(φ:Yb)(b:PTI)(g:PTG)(c:PTT)(e:PTE):PTE:=λγ R X=>b γ (λn item=>Rf φ γ g c e n item R) X
def Lf{φ:Yb}{is:Yc}{wi:TI}{g:TG}{tc:TT}{te:TE}{it:PTI}{pg:PTG}{c:PTT}{a:PTE}(hi:P7 K mg E wi it)(hg:Ki K is g pg)(hc:UG K mg E tc c)(he:JR K mg E te a)(h1:autoParam ((φ.filterMap id).Nodup) au_1)(h2:autoParam (∀j∈is,φ[j]?=some none) au_1):JR K mg E (Pn φ wi g tc te) (R9 φ it pg c a):=by
 intro H0 B H σ γ R X Q env h q qx;refine hi H0 B H σ γ _ X _ env h (λn item J H1 h1' S1 ok=>?_) qx;obtain⟨hn,C,xs,f,hf,hR⟩:=h1'.w;have p:=env.grow S1;have hbig:n<=sizeLine:=Wi hn (by decide);intro L nL
 refine⟨λi m ys H2=>m=n-i/\i<=n/\Same H1 H2/\H2 L=some (.lst ys)/\∃r:List (Addr×List (Addr×List D)),ys=r.map (λw=>V.ref w.1)/\r.map (λw=>w.2.map (·.2))=(List.range i).map f/\VOk K (zof B γ σ) H1 H2 L C xs r,
  ⟨n,by simp,WX _,UB nL,Um,[],rfl,rfl,.nil⟩,?_⟩
 rintro i m ys H2 ⟨rfl,hin,A,hL,r,rfl,ec,l⟩;have G:=p.grow A;by_cases M:i<n
 ·have envI2:=Zas (φ:=φ) (P:=inW r) p A nL l.fr ⟨_,hL⟩ l.mu h1;obtain⟨go,yl⟩:=ok.go i H2 _ M A ⟨G.same,envI2.zm,λb o u z=>⟨A _ _ u,Cj p nL l.fr b o u z⟩⟩;refine .inr ⟨go,λx H3 y=>?_⟩;obtain⟨S3,tv⟩:=yl x H3 y;refine hg H0 _ H2 H3 _ _ _ _ _ _ envI2 S3 tv (hf i M) λU Y p2 e2 f2 k2=>⟨?_,?_⟩
  ·refine Sub.of (is:=is) k2.2 k2.1 λj hj v z=>?_;obtain⟨k,k1,_⟩:=B3 z;rw[h2 j hj]at k1;cases k1
  ·refine hc H0 _ H3 U Y _ _ _ e2 p2 (λb H5 q5 S5=>?_) λ_ _ z=>z.elim;have e5:=e2.grow S5;obtain⟨rfl,q5⟩:=q5;rw[Wc rfl];refine he H0 _ H5 U Y _ _ _ e5 q5 (λs v H6 q6 S6 t6=>?_) λ_ _ z=>z.elim;obtain⟨a,cs,rfl,ea⟩:=q6;have T:=S3.trans S5;have N:=T.trans S6
   have nl:∀b,inP (a,cs) b->b≠L:=λb u z=>by
    obtain⟨a',rfl,n1,o1⟩:=t6
    have:=n1 b u
    rw[z,T _ _ hL]at this;cases this
   obtain⟨rfl,k1⟩:=VOk.one (L:=L) t6 nl λb o _ z=>.inl (.inr<|.inl z)
   have hlen:(r.map λc=>V.ref c.1).length<=i:=by
    have:=W2 List.length ec
    rw[YU,YU,Vu]at this;rw[YU];lia
   have k2:VOk K (zof B γ σ) H1 (upd H6 L<|.lst ((r.map λc=>V.ref c.1)++[V.ref a])) L C xs (r++[(a,cs)]):=VOk.app l (k1.wk T λb o _ z=>.inl (z.imp id .inr)) A N λb o u z=>by rw[JX z];exact u
   refine⟨N _ _ hL,by lia,n-(i+1),by lia,rfl,M,λb o u=>?_,Um,r++[(a,cs)],by rw[Ww];rfl,by rw[Ww,ec,List.range_succ,Ww];exact W2 (λz=>List.map f (List.range i)++[z]) ea,k2⟩;rw[JX (UF u nL)];exact N _ _ (A _ _ u)
 ·have:i=n:=by lia
  subst this;exact .inl ⟨ok.stop H2 _ A (Later.of G<|Fr.grow A),q _ _ H2 (hR L r ec) (S1.trans A) ((l.wk S1 λ_ _ _ z=>z).tv (S1.free nL) hL)⟩
end
end Pu
namespace T
open L2
noncomputable def top(i:Nat):Stmt:=PySem.Challenge.pw_stripmeld_k27_each_refusal_its_class.main.body.getD i (.Pass ⟨0,0,0,0⟩)
noncomputable abbrev S8:Stmt:=inClass (top 20) 0
def Rb:JY ["self","members"] ["self","members"] (JT S8):=Pu.fs
noncomputable abbrev SC:Stmt:=top 25
def Gp:JY ["holder"] ["holder"] (JT SC):=Pu.fs
noncomputable abbrev Ba:Stmt:=top 26
def Mh:JY ["width"] ["width"] (JT Ba):=Pu.fs
noncomputable abbrev NN:Stmt:=top 27
def ID:JY ["strips","holder","width"] ["strips"] (JT NN):=Pu.fs
noncomputable abbrev N0:Stmt:=top 28
def RR:JY ["strips"] ["strips"] (JT N0):=Pu.fs
noncomputable abbrev Bo:Stmt:=top 29
def EV:JY ["strips","order"] ["strips","order"] (JT Bo):=Pu.fs
noncomputable abbrev NJ:Stmt:=top 32
def GN:JY ["strips","order","cost","index","ahead","behind"] ["strips","order"] (JT NJ):=Pu.fs
noncomputable abbrev Nz:Stmt:=top 35
def O8:JY ["strips","place"] ["strips","place"] (JT Nz):=Pu.fs
noncomputable abbrev Bf:Stmt:=top 38
def Fc:JY ["paths","left","wishes","longer","reached","path","holder"] ["paths","left","wishes"] (JT Bf):=Pu.fs
noncomputable abbrev Bc:Stmt:=top 39
def LB:JY ["least","holders","wishes","paths","left","rings","reached"] ["least","holders","wishes"] (JT Bc):=Pu.fs
noncomputable abbrev NZ:Stmt:=top 40
def RS:JY ["holders","wishes","ring","least","found"] ["holders","wishes"] (JT NZ):=Pu.fs
noncomputable abbrev Sz:Stmt:=top 41
def HK:JY ["strips","wishes","ring"] ["strips","wishes"] (JT Sz):=Pu.fs
noncomputable abbrev Br:Stmt:=top 43
def EK:JY ["strips","place"] ["strips","place"] (JT Br):=Pu.fs
noncomputable abbrev Sk:Stmt:=top 44
def Zab:JY ["strips","place","holder","strip"] ["strips","place","holder"] (JT Sk):=Pu.fs
noncomputable abbrev BE:Stmt:=top 45
def Gb:JY ["strips","place","width","strip"] ["strips","place","width"] (JT BE):=Pu.fs
noncomputable abbrev Sq:Stmt:=top 46
def Ld:JY ["strips","place","left","right"] ["strips","place"] (JT Sq):=Pu.fs
noncomputable abbrev NH:Stmt:=top 47
def RC:JY ["wishes","ahead","behind"] ["wishes","ahead","behind"] (JT NH):=Pu.fs
noncomputable abbrev SX:Stmt:=top 48
def Zao:JY ["wishes","ahead","behind"] ["wishes","ahead","behind"] (JT SX):=Pu.fs
noncomputable abbrev NU:Stmt:=top 58
def Rh:JY ["strips","wishes","least"] ["strips","wishes"] (JT NU):=Pu.fs
noncomputable abbrev NT:Stmt:=top 60
def E1:JY ["strips","wishes"] ["strips","wishes"] (JT NT):=Pu.fs
noncomputable abbrev Sa:Stmt:=inClass (top 63) 0
def Ls:JY ["self","strips"] ["self","strips"] (JT Sa):=Pu.fs
noncomputable abbrev Bs:Stmt:=inClass (top 63) 1
def O6:JY ["self"] ["self"] (JT Bs):=Pu.fs
noncomputable abbrev Bi:Stmt:=inClass (top 63) 2
def IF:JY ["self"] ["self"] (JT Bi):=Pu.fs
noncomputable abbrev Sh:Stmt:=inClass (top 63) 4
def Ho:JY ["self"] ["self"] (JT Sh):=Pu.fs
noncomputable abbrev NV:Stmt:=inClass (top 63) 5
def HZ:JY ["self","deed","field","wishes"] ["self","deed","field","wishes"] (JT NV):=Pu.fs
noncomputable abbrev N3:Stmt:=inClass (top 63) 6
def L9:JY ["self","place","holder","field"] ["self","place","holder"] (JT N3):=Pu.fs
noncomputable abbrev Si:Stmt:=inClass (top 63) 7
def OI:JY ["self","place","width","field"] ["self","place","width"] (JT Si):=Pu.fs
noncomputable abbrev N9:Stmt:=inClass (top 63) 8
def Og:JY ["self","place","field"] ["self","place"] (JT N9):=Pu.fs
noncomputable abbrev NA:Stmt:=inClass (top 63) 9
def LW:JY ["self","ahead","behind","wishes"] ["self","ahead","behind"] (JT NA):=Pu.fs
noncomputable abbrev Bj:Stmt:=inClass (top 63) 10
def Mf:JY ["self","ahead","behind","wishes"] ["self","ahead","behind"] (JT Bj):=Pu.fs
noncomputable abbrev S4:Stmt:=inClass (top 63) 11
def Lw:JY ["self"] ["self"] (JT S4):=Pu.fs
noncomputable abbrev Be:Stmt:=inClass (top 63) 12
def O5:JY ["self","many"] ["self","many"] (JT Be):=Pu.fs
noncomputable abbrev Se:Stmt:=inClass (top 63) 15
def LR:JY ["self"] ["self"] (JT Se):=Pu.fs
noncomputable abbrev SM:Stmt:=inClass (top 63) 19
def RO:JY ["self","order"] ["self","order"] (JT SM):=Pu.fs
noncomputable abbrev SN:Stmt:=top 66
def Ic:JY ["strips"] ["strips"] (JT SN):=Pu.fs
noncomputable abbrev Nx:Stmt:=top 69
def MM:JY ["strips","stands","length"] ["strips"] (JT Nx):=Pu.fs
noncomputable abbrev BB:Stmt:=top 71
def Lv:JY ["_law_script","_law_k"] ["_law_script","_law_k"] (JT BB):=Pu.fs
noncomputable abbrev Bw:Stmt:=top 72
def Os:JY ["_law_which","_law_village","_law_strips","_law_more","_law_one"] ["_law_which","_law_village","_law_strips","_law_more"] (JT Bw):=Pu.fs
noncomputable abbrev NQ:Stmt:=top 73
def EE:JY ["_law_which","_law_villages","_law_strips","_law_more","_law_one","_law_two"] ["_law_which","_law_villages","_law_strips","_law_more"] (JT NQ):=Pu.fs
noncomputable abbrev SO:Stmt:=top 74
def PP:JY ["_law_which","_law_villages","_law_strips","_law_more","_law_kinds","e"] ["_law_which","_law_villages","_law_strips","_law_more"] (JT SO):=Pu.fs
noncomputable abbrev XA:Stmt:=top 75
def Gf:JY ["_law_script","_law_one","_law_two","_law_wide","_law_more","_law_strips","_law_villages","_law_k","_law_which","_law_kinds"] ["_law_script"] (JT XA):=Pu.fs
noncomputable abbrev Sx:Stmt:=inClass (top 63) 9
def EW:JY ["self","ahead","behind","wishes"] ["self","ahead","behind"] (JT Sx):=Pu.fs
noncomputable abbrev Sf:Stmt:=inClass (top 63) 10
def Lq:JY ["self","ahead","behind","wishes"] ["self","ahead","behind"] (JT Sf):=Pu.fs
structure Glob (K:ZV) (mg:ZZ):Prop where
 ZE:mg "ValueError"=none
 Zb:mg "isinstance"=none
 len:mg "len"=none
 ZF:mg "list"=none
 Z2:mg "range"=none
 ZS:mg "set"=none
 Z3:mg "sorted"=none
 ZP:∃u,mg "HOLDERS"=some u/\RelV (.int 10) u
 Z4:∃u,mg "STRIPS"=some u/\RelV (.int 40) u
 Z5:∃u,mg "WIDEST"=some u/\RelV (.int 1000) u
 ZA:∃u,mg "MOST_WISHES"=some u/\RelV (.int 20) u
 ZG:∃u,mg "MOST_DEEDS"=some u/\RelV (.int 100) u
 ZQ:∃u,mg "SMALL"=some u/\RelV (.int 7) u
 ZC:mg "MeldError"=some (.ref<|ExcR.JU mg "MeldError")
 ZT:ExcR.U4 K (ExcR.JU mg "MeldError")
 Zd:mg "TooManyStrips"=some (.ref<|ExcR.JU mg "TooManyStrips")
 Zg:ExcR.U4 K (ExcR.JU mg "TooManyStrips")
 Zp:mg "BadHolder"=some (.ref<|ExcR.JU mg "BadHolder")
 ZD:ExcR.U4 K (ExcR.JU mg "BadHolder")
 Zq:mg "BadWidth"=some (.ref<|ExcR.JU mg "BadWidth")
 ZH:ExcR.U4 K (ExcR.JU mg "BadWidth")
 Zm:mg "NoStrip"=some (.ref<|ExcR.JU mg "NoStrip")
 Zx:ExcR.U4 K (ExcR.JU mg "NoStrip")
 Zr:mg "BadOrder"=some (.ref<|ExcR.JU mg "BadOrder")
 ZI:ExcR.U4 K (ExcR.JU mg "BadOrder")
 Zh:mg "TooManyStands"=some (.ref<|ExcR.JU mg "TooManyStands")
 Zs:ExcR.U4 K (ExcR.JU mg "TooManyStands")
 Zt:mg "OwnStrip"=some (.ref<|ExcR.JU mg "OwnStrip")
 ZJ:ExcR.U4 K (ExcR.JU mg "OwnStrip")
 Zy:mg "BadPart"=some (.ref<|ExcR.JU mg "BadPart")
 ZL:ExcR.U4 K (ExcR.JU mg "BadPart")
 Zi:mg "UnlikeHolders"=some (.ref<|ExcR.JU mg "UnlikeHolders")
 Zu:ExcR.U4 K (ExcR.JU mg "UnlikeHolders")
 Zz:mg "TooWide"=some (.ref<|ExcR.JU mg "TooWide")
 ZM:ExcR.U4 K (ExcR.JU mg "TooWide")
 Zk:mg "LikeHolders"=some (.ref<|ExcR.JU mg "LikeHolders")
 Z0:ExcR.U4 K (ExcR.JU mg "LikeHolders")
 Zn:mg "WishStands"=some (.ref<|ExcR.JU mg "WishStands")
 Z6:ExcR.U4 K (ExcR.JU mg "WishStands")
 Zj:mg "TooManyWishes"=some (.ref<|ExcR.JU mg "TooManyWishes")
 Zv:ExcR.U4 K (ExcR.JU mg "TooManyWishes")
 Z7:mg "NoWish"=some (.ref<|ExcR.JU mg "NoWish")
 ZO:ExcR.U4 K (ExcR.JU mg "NoWish")
 Zw:mg "BookFull"=some (.ref<|ExcR.JU mg "BookFull")
 ZK:ExcR.U4 K (ExcR.JU mg "BookFull")
 Zl:mg "NothingDone"=some (.ref<|ExcR.JU mg "NothingDone")
 Z1:ExcR.U4 K (ExcR.JU mg "NothingDone")
 Zo:mg "NoSuchDeed"=some (.ref<|ExcR.JU mg "NoSuchDeed")
 Z8:ExcR.U4 K (ExcR.JU mg "NoSuchDeed")
 Z9:mg "Ringed"=some (.ref<|ExcR.JU mg "Ringed")
 ZR:∃g,ExcR.Xq K (ExcR.JU mg "Ringed") g
 ZU:PySem.W.exmOne K (.ref<|ExcR.JU mg "Ringed") (.ref<|ExcR.JU mg "Ringed")=some true
 is_:Pu.Dt K mg ["TooManyStrips","BadHolder","BadWidth","NoStrip","BadOrder","TooManyStands","OwnStrip","BadPart","UnlikeHolders","TooWide","LikeHolders","WishStands","TooManyWishes","NoWish","BookFull","NothingDone","NoSuchDeed","Ringed"]
 ex:Pu.ExOk K mg ["Ringed","TooManyStrips","BadHolder","BadWidth","NoStrip","BadOrder","TooManyStands","OwnStrip","BadPart","UnlikeHolders","TooWide","LikeHolders","WishStands","TooManyWishes","NoWish","BookFull","NothingDone","NoSuchDeed"] ["MeldError"]
 ZN:mg "Village"=some (.ref<|ExcR.JU mg "Village")
 Za:Cls K (ExcR.JU mg "Village")
 Zc:NoAttr K (ExcR.JU mg "Village") "book"
 Ze:NoAttr K (ExcR.JU mg "Village") "fields"
 Zf:NoAttr K (ExcR.JU mg "Village") "wished"
def PU:Pu.FldAt "book" ["book","fields","wished"] 0:=.of (by decide +kernel) (by decide +kernel) rfl
def Hr:Pu.PutAt "book" []:=.of (by decide +kernel)
def BJ:Pu.FldAt "fields" ["book","fields","wished"] 1:=.of (by decide +kernel) (by decide +kernel) rfl
def Oc:Pu.PutAt "fields" ["book"]:=.of (by decide +kernel)
def Ct:Pu.FldAt "wished" ["book","fields","wished"] 2:=.of (by decide +kernel) (by decide +kernel) rfl
def G1:Pu.PutAt "wished" ["book","fields"]:=.of (by decide +kernel)
def K7:Pu.NoFld "strips" ["book","fields","wished"]:=.of (by decide +kernel)
def P0:Pu.NoFld "wishes" ["book","fields","wished"]:=.of (by decide +kernel)
def KH:Pu.NoFld "check_room" ["book","fields","wished"]:=.of (by decide +kernel)
def FM:Pu.NoFld "enter" ["book","fields","wished"]:=.of (by decide +kernel)
def Ai:Pu.NoFld "sell" ["book","fields","wished"]:=.of (by decide +kernel)
def EH:Pu.NoFld "part" ["book","fields","wished"]:=.of (by decide +kernel)
def Bl:Pu.NoFld "unite" ["book","fields","wished"]:=.of (by decide +kernel)
def XO:Pu.NoFld "wish" ["book","fields","wished"]:=.of (by decide +kernel)
def Fp:Pu.NoFld "drop" ["book","fields","wished"]:=.of (by decide +kernel)
def OS:Pu.NoFld "take_back" ["book","fields","wished"]:=.of (by decide +kernel)
def Ol:Pu.NoFld "stood" ["book","fields","wished"]:=.of (by decide +kernel)
def E9:Pu.NoFld "cost" ["book","fields","wished"]:=.of (by decide +kernel)
def O0:Pu.NoFld "price" ["book","fields","wished"]:=.of (by decide +kernel)
end T
namespace M
open L2 Own Pu
noncomputable def MV:Pc:=λb R X=>∃h:Int,b=[.int h]/\Xm (Pf h) X (R<|.sh .non)
noncomputable def Bq(h:Int):Option Str:=if 1<=h/\h<=1000 then none else some "BadWidth"
noncomputable def EM:Pc:=λb R X=>∃h:Int,b=[.int h]/\Xm (Bq h) X (R<|.sh .non)
noncomputable def BI(_:ZV):Sp:=λg H Q _=>∃(l:Addr) (b:ZW),g=[.ref l]/\LAt Xi H l b/\Field b/\b.length<=50/\
 ∀(q:Addr) (f:Hp),H q=none->Same H f->f q=some (.lst ((U9 b).map V.int))->Q (.ref q) f
noncomputable def Aq:Pc:=λf R _=>∃b:ZW,f=[.lst (b.map prD)]/\Field b/\b.length<=50/\R (.own ((U9 b).map D.int))
def A4{P:Program}{w:World}{K:ZV}{b:ZZ}{base:Heap}(C:Callee P w K b base CX0 1 "holders_of" ["strips"] (BI K)):Callee P w K b base CX0 1 "holders_of" ["strips"] (Ue b Aq K):=Gd C λB R X z H Q E r o u A=>by
 obtain⟨g,rfl,x,n,s⟩:=o;obtain⟨v,rfl,f⟩:=r.one_inv;obtain⟨a,rfl,p⟩:=f.pairs_inv;exact⟨a,g,rfl,p,x,n,λq y l S h=>u _ _ y s S (GD l h)⟩
noncomputable def MG:Pc:=λf R X=>∃(b:ZW) (p:Int),f=[.lst (b.map prD),.int p]/\(if p<1\/(b.length:Int)<=p then X "NoStrip" else R (.sh .non))
noncomputable def LM:Pc:=λo R _=>∃(l:Int) (f:List (ZX)) (b:ZX) (n:ZW),o=[.lst (f.map<|em l),.lst (b.map D.int),.lst (n.map prD)]/\f.Pairwise sl/\b.Pairwise (· < ·)/\(∀p∈f,p.length<=100)/\b.length<=100/\
 ∀g,LG n l (λp h=>p∈f/\h∈b) g->g.length<=b.length->R (.own<|g.map<|em l)
noncomputable def RD:Pc:=λf R X=>∃(b:ZW) (p:Int),f=[plD b,.int p]/\Xm (TY b p) X (R<|.sh .non)
noncomputable def IX:Pc:=λg R X=>∃(f:ZW) (a b:Int),g=[plD f,.int a,.int b]/\f.length<=1000/\Xm (KJ f a b) X (R<|.own ((PJ f a b).map prD))
noncomputable def E3(C:Addr):Pc:=λg R _=>∃(bk:List (Str×ZX)) (fs b:List (ZW)) (f:ZW),g=[UV C bk (fs++[f]) b]/\R (.own<|f.map prD)
noncomputable def Ou(C:Addr):Pc:=λg R _=>∃(bk:List (Str×ZX)) (fs b:List (ZW)) (f:ZW),g=[UV C bk fs (b++[f])]/\R (.own<|f.map prD)
noncomputable def XT(bk:List (Str×ZX)):Option Str:=if 100<=bk.length then some "BookFull" else none
noncomputable def LK(C:Addr):Pc:=λf R X=>∃(bk:List (Str×ZX)) (fs b:List (ZW)),f=[UV C bk fs b]/\Xm (XT bk) X (R<|.sh .non)
noncomputable def RV(C:Addr):Pw:=λo l R _=>∃(x b1 h g:Addr) (bk:List (Str×ZX)) (fs b:List (ZW)) (q:Str×ZX) (f w:ZW),o=vO C x b1 h g bk fs b/\l=[.sh (dD q),.sh (plD f),.sh (plD w)]/\bk.length<=1000/\fs.length<=1000/\b.length<=1000/\
 R (vO C x b1 h g (bk++[q]) (fs++[f]) (b++[w])) (.int (bk.length+1))
noncomputable def Gh(C:Addr):Pc:=λf _ X=>∃(fs b:List (ZW)),f=[UV C [] fs b]/\X "NothingDone"
noncomputable def EF(C:Addr):Pc:=λf _ X=>∃(bk:List (Str×ZX)) (fs b:List (ZW)) (k:Int),f=[UV C bk fs b,.int k]/\(bk.length:Int)<k/\X "NoSuchDeed"
noncomputable def Ir:Pc:=λf _ X=>∃b:ZW,f=[plD b]/\7<b.length/\X "TooManyStands"
noncomputable def LP:Pc:=λf R _=>∃(b:ZX) (k:Int),f=[.scr b,.int k]/\0<=k/\∀v:Int,R (.sh<|.int v)
noncomputable def ON:Pc:=λf R X=>∃b:ZW,f=[plD b]/\b.length<=1000/\Xm (XY b) X (R<|.sh .non)
noncomputable def L3:Pc:=λf R X=>∃(b:ZW) (os:ZX),f=[plD b,.lst (os.map D.int)]/\Field b/\b.length<=50/\os.length<64/\Xm (Pq b os) X (R<|.sh .non)
noncomputable def Gq:Pc:=λg R _=>∃(l:Int) (b:ZX) (f:ZW),g=[.int l,.lst (b.map D.int),.lst (f.map prD)]/\b.Nodup/\b.length<=50/\∀r,RF b f l r->r.length<=60->R (.sh<|.lst<|r.map D.int)
noncomputable def Zak:Pc:=λf R X=>∃(b:ZW) (p h:Int),f=[plD b,.int p,.int h]/\b.length<=1000/\Xm (PD b p h) X (R<|.own (E5 b p h |>.map prD))
noncomputable def GZ:Pc:=λf R X=>∃(b:ZW) (p w:Int),f=[plD b,.int p,.int w]/\b.length<=1000/\Xm (To b p w) X (R<|.own ((Nv b p w).map prD))
noncomputable def Iq:Pc:=λf R X=>∃(b:ZW) (p:Int),f=[plD b,.int p]/\b.length<=1000/\Xm (Pg b p) X (R<|.own ((BA b p).map prD))
noncomputable def Li:Pc:=λg R X=>∃(f:ZW) (a b:Int),g=[plD f,.int a,.int b]/\f.length<=1000/\Xm (X1 f a b) X (R<|.own ((f++[(a,b)]).map prD))
noncomputable def TK(bk:List (Str×ZX))(w:ZW)(a b:Int):Option Str:=if 100<=bk.length then some "BookFull" else KJ w a b
noncomputable def Gz(C:Addr):Pw:=λo n R X=>∃(x b1 l g:Addr) (bk:List (Str×ZX)) (fs b:List (ZW)) (f w:ZW) (p h:Int),o=vO C x b1 l g bk (fs++[f]) (b++[w])/\n=[.sh (.int p),.sh (.int h)]/\bk.length<=1000/\fs.length<=900/\b.length<=900/\w.length<=1000/\
 Xm (TK bk w p h) (X<|vO C x b1 l g bk (fs++[f]) (b++[w])) (R (vO C x b1 l g (bk++[(("drop" : Str),[p,h])]) (fs++[f]++[f]) (b++[w]++[PJ w p h]))<|.int (bk.length+1))
noncomputable def Re:Pc:=λf _ X=>∃b:ZW,f=[plD b]/\7<b.length/\X "TooManyStands"
noncomputable def HR(C:Addr):Pc:=λg _ X=>∃(bk:List (Str×ZX)) (fs b:List (ZW)) (f w:ZW) (p h:Int) (c:Str),g=[UV C bk (fs++[f]) (b++[w]),.int p,.int h]/\bk.length<100/\f.length<=1000/\w.length<=1000/\KJ w p h=some c/\X c
noncomputable def EJ:Pc:=λf _ X=>∃(b:ZW) (os:ZX),f=[plD b,.lst (os.map D.int)]/\Field b/\b.length<=50/\os.length<64/\Pq b os=some "BadOrder"/\X "BadOrder"
noncomputable def Lu:Pc:=λg R _=>∃(b:ZX) (f:ZW),g=[.lst (b.map D.int),.lst (f.map prD)]/\b.Nodup/\b.length<=50/\∀r,FR b f r->r.length<=60->R (.sh<|.lst<|r.map D.int)
noncomputable def GO(C:Addr):Pw:=λo f R X=>∃(x:Addr) (b:ZW),o=.ins x C [] []/\f=[.sh (plD b)]/\b.length<=1000/\Xm (XY b) (X<|.ins x C [] []) (∀b1 h g,R (vO C x b1 h g [] [b] [[]]) .non)
noncomputable def Om(C:Addr):Pc:=λg _ X=>∃(bk:List (Str×ZX)) (fs b:List (ZW)) (f w:ZW) (p h:Int) (c:Str),g=[UV C bk (fs++[f]) (b++[w]),.int p,.int h]/\bk.length<100/\f.length<=1000/\w.length<=1000/\PD f p h=some c/\X c
noncomputable def GS(C:Addr):Pc:=λg _ X=>∃(bk:List (Str×ZX)) (fs b:List (ZW)) (f w:ZW) (p h:Int) (c:Str),g=[UV C bk (fs++[f]) (b++[w]),.int p,.int h]/\bk.length<100/\f.length<=1000/\w.length<=1000/\To f p h=some c/\X c
noncomputable def IS(C:Addr):Pc:=λg _ X=>∃(bk:List (Str×ZX)) (fs b:List (ZW)) (f w:ZW) (p:Int) (c:Str),g=[UV C bk (fs++[f]) (b++[w]),.int p]/\bk.length<100/\f.length<=1000/\w.length<=1000/\Pg f p=some c/\X c
noncomputable def UZ(bk:List (Str×ZX))(w:ZW)(a b:Int):Option Str:=if 100<=bk.length then some "BookFull" else X1 w a b
noncomputable def IL(C:Addr):Pw:=λo n R X=>∃(x b1 l g:Addr) (bk:List (Str×ZX)) (fs b:List (ZW)) (f w:ZW) (p h:Int),o=vO C x b1 l g bk (fs++[f]) (b++[w])/\n=[.sh (.int p),.sh (.int h)]/\bk.length<=1000/\fs.length<=900/\b.length<=900/\w.length<=1000/\
 Xm (UZ bk w p h) (X<|vO C x b1 l g bk (fs++[f]) (b++[w])) (R (vO C x b1 l g (bk++[(("wish" : Str),[p,h])]) (fs++[f]++[f]) (b++[w]++[w++[(p,h)]]))<|.int (bk.length+1))
noncomputable def Rk(C:Addr):Pc:=λg _ X=>∃(bk:List (Str×ZX)) (fs b:List (ZW)) (f w:ZW) (p h:Int) (c:Str),g=[UV C bk (fs++[f]) (b++[w]),.int p,.int h]/\w.length<=1000/\UZ bk w p h=some c/\X c
noncomputable def M3:Pc:=λg R X=>∃(b f:ZW),g=[.lst (b.map prD),.lst (f.map prD)]/\Field b/\b.length<=50/\(∀q∈f,q.1≠q.2)/\HI (U9 b) f X (R<|.sh .non)
noncomputable def LL(C:Addr):Pc:=λg _ X=>∃(bk:List (Str×ZX)) (fs b:List (ZW)) (f:ZW) (os:ZX),g=[UV C bk (fs++[f]) b,.lst (os.map D.int)]/\Field f/\f.length<=50/\os.length<64/\Pq f os=some "BadOrder"/\X "BadOrder"
noncomputable def HC:Pc:=λg _ X=>∃(f b:ZW),g=[.lst (f.map prD),.lst (b.map prD)]/\Field f/\f.length<=50/\b.length<=50/\(∀q∈b,q.1≠q.2)/\(∃r,Ring (U9 f) b r)/\∀r,X (X5 r)
noncomputable def JV(one two w:Int):ZW:=[(one,w),(one,1001-w),(two,1)]
noncomputable def plainT:Ye:=["TooManyStrips","BadHolder","BadWidth","NoStrip","BadOrder","TooManyStands","OwnStrip","BadPart","UnlikeHolders","TooWide","LikeHolders","WishStands","TooManyWishes","NoWish","BookFull","NothingDone","NoSuchDeed"]
noncomputable def namesT:Ye:=plainT++[("Ringed" : Str)]
noncomputable def nmT(k:Int):Str:=plainT.getD k.toNat "Ringed"
def KN(one two w m:Int):Prop:=1<=one/\one<=10/\1<=two/\two<=10/\one≠two/\1<=w/\w<=1000/\1<=m/\m<=5
def Pp{one two w m:Int}(h:KN one two w m):Field (JV one two w):=by
 obtain⟨o1,n,l,g,o,f,b,r,p⟩:=h;intro q hq;unfold JV at hq;simp only[Wk,Qq,or_false]at hq;rcases hq with rfl|rfl|rfl<;>exact⟨by lia,by lia,by show(_:Int)<=_;lia,by show(_:Int)<=_;lia⟩
noncomputable def X2(C:Addr)(one two w:Int):D:=UV C [(("wish" : Str),[one,two])] ([JV one two w]++[JV one two w]) ([[]]++[[(one,two)]])
noncomputable def Lx(C:Addr):Pc:=λb R X=>∃k one two w m:Int,b=[.int k,X2 C one two w,plD (JV one two w),.int m]/\KN one two w m/\0<=k/\(k<10->X (nmT k))/\(10<=k->R (.sh .non))
noncomputable def IU:Pc:=λg _ X=>∃(f b:ZW),g=[.lst (f.map prD),.lst (b.map prD)]/\Field f/\f.length<=50/\b.length<=50/\(∀q∈b,q.1≠q.2)/\(∃r,Ring (U9 f) b r)/\∀r,X (X5 r)
noncomputable def HP(C:Addr):Pc:=λg _ X=>∃(bk:List (Str×ZX)) (fs b:List (ZW)) (f w:ZW),g=[UV C bk (fs++[f]) (b++[w])]/\Field f/\f.length<=50/\w.length<=50/\(∀q∈w,q.1≠q.2)/\(∃r,Ring (U9 f) w r)/\∀r,X (X5 r)
noncomputable def Gx(C:Addr)(one two w:Int):D:=UV C [(("wish" : Str),[one,two]),(("wish" : Str),[two,one])] ([JV one two w,JV one two w]++[JV one two w]) ([[],[(one,two)]]++[[(one,two),(two,one)]])
noncomputable def wish20:ZW:=(List.range 20).map λ(i:Nat)=>(1+(i:Int) % 10,1+((i:Int) % 10+1+(i:Int) / 10) % 10)
noncomputable def XJ(C:Addr)(one two w:Int)(n l:List (Str×ZX))(h g f b:List (ZW)):List D:=[X2 C one two w,Gx C one two w,UV C n (h++[JV one two w]) (f++[wish20]),UV C l (g++[JV one two w]) (b++[[]]),UV C [] [[]] [[]]]
noncomputable def HY(C:Addr):Pc:=λo _ X=>∃(k one two w m:Int) (f b:List (Str×ZX)) (n l h g:List (ZW)),o=[.int k,.lst (XJ C one two w f b n l h g),plD (JV one two w),.int m]/\KN one two w m/\f.length<100/\b.length=100/\10<=k/\k<18/\(k<17->X (nmT k))/\(k=17->∀r,X (X5 r))
noncomputable def Ko(k:Int):List D:=((List.range 18).map λ(j:Nat)=>.bl (decide ((j:Int)=k)))++[.bl true]
noncomputable def G7(C:Addr):Pc:=λo R _=>∃(k one two w m:Int) (f b:List (Str×ZX)) (n l h g:List (ZW)),o=[.int k,.lst (XJ C one two w f b n l h g),plD (JV one two w),.int m]/\KN one two w m/\f.length<100/\b.length=100/\0<=k/\k<18/\R (.own<|.lst<|Ko k)
structure Fv (P:Program) (w:World) (K:ZV) (mg:ZZ) (base:Heap):Type
variable {P:Program}{w:World}{K:ZV}{mg:ZZ}{base:Heap}
abbrev Cal(_:Fv P w K mg base):=Callee P w K mg base
abbrev Cam(_:Fv P w K mg base):=Xh P w K mg base
abbrev Cxe(_:Fv P w K mg base):=ExcR.CXe P w
abbrev Uh(_:Fv P w K mg base):=ExcR.JU mg "Village"
variable (ζ:Fv P w K mg base)
abbrev Gm:Prop:=Cam ζ CX0 1 (ExcR.Xq K<|ExcR.JU mg "Ringed") ["self","members"] (ExcR.Te K)
abbrev Fu:Prop:=Cal ζ (Cxe ζ) 1 "check_holder" ["holder"] (Ue mg MV K)
abbrev Dh:Prop:=Cal ζ (Cxe ζ) 1 "check_width" ["width"] (Ue mg EM K)
abbrev Mc:Prop:=Cal ζ CX0 1 "holders_of" ["strips"] (Ue mg Aq K)
abbrev FZ:Prop:=Cal ζ (Cxe ζ) 1 "check_neighbours" ["strips","place"] (Ue mg MG K)
abbrev DM:Prop:=Cal ζ CX0 1 "longer_paths" ["paths","left","wishes"] (Ue mg LM K)
abbrev DL:Prop:=Cal ζ (Cxe ζ) 1 "check_place" ["strips","place"] (Ue mg RD K)
abbrev El:Prop:=Cal ζ (Cxe ζ) 1 "without_wish" ["wishes","ahead","behind"] (Ue mg IX K)
abbrev D2:Prop:=Cam ζ CX0 1 (Up K (Uh ζ) "strips") ["self"] (Ue mg (E3<|Uh ζ) K)
abbrev FD:Prop:=Cam ζ CX0 1 (Up K (Uh ζ) "wishes") ["self"] (Ue mg (Ou<|Uh ζ) K)
abbrev BO:Prop:=Cam ζ (Cxe ζ) 1 (Up K (Uh ζ) "check_room") ["self"] (Ue mg (LK<|Uh ζ) K)
abbrev AJ:Prop:=Cam ζ CX0 1 (Up K (Uh ζ) "enter") ["self","deed","field","wishes"] (Pu.spW mg (RV<|Uh ζ) K)
abbrev BR:Prop:=Cam ζ (Cxe ζ) 1 (Up K (Uh ζ) "take_back") ["self"] (Ue mg (Gh<|Uh ζ) K)
abbrev Ek:Prop:=Cam ζ (Cxe ζ) 1 (Up K (Uh ζ) "stood") ["self","many"] (Ue mg (EF<|Uh ζ) K)
abbrev AG:Prop:=Cal ζ (Cxe ζ) 1 "check_small" ["strips"] (Ue mg Ir K)
abbrev Cp:Prop:=Cal ζ CX0 1 "_law_at" ["_law_script","_law_k"] (Ue mg LP K)
abbrev Cm:Prop:=Cal ζ (Cxe ζ) 2 "check_strips" ["strips"] (Ue mg ON K)
abbrev BK:Prop:=Cal ζ (Cxe ζ) 2 "check_order" ["strips","order"] (Ue mg L3 K)
abbrev BL:Prop:=Cal ζ CX0 2 "ring_from" ["least","holders","wishes"] (Ue mg Gq K)
abbrev Eu:Prop:=Cal ζ (Cxe ζ) 2 "sold" ["strips","place","holder"] (Ue mg Zak K)
abbrev Fg:Prop:=Cal ζ (Cxe ζ) 2 "parted" ["strips","place","width"] (Ue mg GZ K)
abbrev DQ:Prop:=Cal ζ (Cxe ζ) 2 "united" ["strips","place"] (Ue mg Iq K)
abbrev BN:Prop:=Cal ζ (Cxe ζ) 2 "with_wish" ["wishes","ahead","behind"] (Ue mg Li K)
abbrev FV:Prop:=Cam ζ (Cxe ζ) 2 (Up K (Uh ζ) "drop") ["self","ahead","behind"] (Pu.spW mg (Gz<|Uh ζ) K)
abbrev F4:Prop:=Cal ζ (Cxe ζ) 2 "all_stands" ["strips"] (Ue mg Re K)
abbrev Dm:Prop:=Cam ζ (Cxe ζ) 2 (Up K (Uh ζ) "drop") ["self","ahead","behind"] (Ue mg (HR<|Uh ζ) K)
abbrev Em:Prop:=Cal ζ (Cxe ζ) 3 "order_cost" ["strips","order"] (Ue mg EJ K)
abbrev Fh:Prop:=Cal ζ CX0 3 "find_ring" ["holders","wishes"] (Ue mg Lu K)
abbrev BV:Prop:=Cam ζ (Cxe ζ) 3 (Mk K<|Uh ζ) ["self","strips"] (Pu.spW mg (GO<|Uh ζ) K)
abbrev Fl:Prop:=Cam ζ (Cxe ζ) 3 (Up K (Uh ζ) "sell") ["self","place","holder"] (Ue mg (Om<|Uh ζ) K)
abbrev DE:Prop:=Cam ζ (Cxe ζ) 3 (Up K (Uh ζ) "part") ["self","place","width"] (Ue mg (GS<|Uh ζ) K)
abbrev D1:Prop:=Cam ζ (Cxe ζ) 3 (Up K (Uh ζ) "unite") ["self","place"] (Ue mg (IS<|Uh ζ) K)
abbrev FE:Prop:=Cam ζ (Cxe ζ) 3 (Up K (Uh ζ) "wish") ["self","ahead","behind"] (Pu.spW mg (IL<|Uh ζ) K)
abbrev En:Prop:=Cam ζ (Cxe ζ) 3 (Up K (Uh ζ) "wish") ["self","ahead","behind"] (Ue mg (Rk<|Uh ζ) K)
abbrev DF:Prop:=Cal ζ (Cxe ζ) 4 "check_no_ring" ["strips","wishes"] (Ue mg M3 K)
abbrev Ap:Prop:=Cam ζ (Cxe ζ) 4 (Up K (Uh ζ) "price") ["self","order"] (Ue mg (LL<|Uh ζ) K)
abbrev Eh:Prop:=Cal ζ (Cxe ζ) 5 "cost_table" ["strips","wishes"] (Ue mg HC K)
abbrev DW:Prop:=Cal ζ (Cxe ζ) 5 "_law_first_ten" ["_law_which","_law_village","_law_strips","_law_more"] (Ue mg (Lx<|Uh ζ) K)
abbrev FI:Prop:=Cal ζ (Cxe ζ) 6 "least_cost" ["strips","wishes"] (Ue mg IU K)
abbrev DJ:Prop:=Cam ζ (Cxe ζ) 7 (Up K (Uh ζ) "cost") ["self"] (Ue mg (HP<|Uh ζ) K)
abbrev AL:Prop:=Cal ζ (Cxe ζ) 8 "_law_others" ["_law_which","_law_villages","_law_strips","_law_more"] (Ue mg (HY<|Uh ζ) K)
abbrev CN:Prop:=Cal ζ CX0 9 "_law_classes" ["_law_which","_law_villages","_law_strips","_law_more"] (Ue mg (G7<|Uh ζ) K)
abbrev Im:Prop:=Cal ζ CX0 10 "law" ["_law_script"] (Ue mg AK K)
end M
namespace M
open L2 Own Pu
def Pd(ps:List (ZX))(b:ZX)(i j:Nat)(p:ZX)(h:Int):Prop:=(p∈ps.take i/\h∈b)\/(ps[i]?=some p/\h∈b.take j)
structure LGs (ws:ZW) (l:Int) (P:ZX->Int->Prop) (ls:ZX) (lg:List (ZX)) (kvs:List (Key×V)):Prop where
 g:LG ws l P lg
 nd:(lg.map<|Ub l).Nodup
 sub:∀h∈lg.map (Ub l),h∈ls
 rc:∀h:Int,(Ut kvs<|.inl h).isSome=true↔h∈lg.map (Ub l)
 len:kvs.length<=lg.length
def LGs.len_le {ws:ZW}{l:Int}{P:ZX->Int->Prop}{f:ZX}{g:List (ZX)}{b:List (Key×V)} (L:LGs ws l P f g b):g.length<=f.length:=by
 have:=CP L.nd L.sub
 rwa[YU]at this
def LG.congr {ws:ZW}{l:Int}{P g:ZX->Int->Prop}{f:List (ZX)} (h:∀p x,P p x↔g p x) (G:LG ws l P f):LG ws l g f:=
 ⟨λq hq=>let ⟨p,x,a,b⟩:=G.mem q hq;⟨p,x,(h p x).mp a,b⟩,G.srt,λp x a b=>G.has p x ((h p x).mpr a) b⟩
def LGs.congr {ws:ZW}{l:Int}{P o:ZX->Int->Prop}{f:ZX}{n:List (ZX)}{b:List (Key×V)} (h:∀p x,P p x↔o p x) (G:LGs ws l P f n b):LGs ws l o f n b:=⟨G.g.congr h,G.nd,G.sub,G.rc,G.len⟩
def LGs.start {ps:List (ZX)}{b:ZX}{ws:ZW}{l:Int}:LGs ws l (Pd ps b 0 0) b [] []:=by
 refine⟨⟨(λq hq=>by cases hq),List.Pairwise.nil,λp h a=>?_⟩,QL,(λh f=>by cases f),(λh=>by simp[Ut]),Wf _⟩;rcases a with⟨a,_⟩|⟨_,a⟩
 ·rw[QM]at a;cases a
 ·rw[QM]at a;cases a
def LGs.skip {ps:List (ZX)}{f:ZX}{ws:ZW}{l:Int}{y:List (ZX)}{n:List (Key×V)}{i j:Nat}{p:ZX}{h:Int} (v:ps[i]?=some p) (J:f[j]?=some h) (B:ps.Pairwise sl)
  (G:LGs ws l (Pd ps f i j) f y n) (no:(Ut n<|.inl h).isSome=true\/(Ub l p,h)∉ws):LGs ws l (Pd ps f i (j+1)) f y n:=by
 obtain⟨E,M⟩:=Wp.mp J;obtain⟨H,ei⟩:=Wp.mp v;have w:∀x,x∈f.take (j+1)↔x∈f.take j\/x=h:=λx=>by rw[WI E,Wu,YW,M]
 refine⟨⟨λq hq=>?_,G.g.srt,λs x a b=>?_⟩,G.nd,G.sub,G.rc,G.len⟩
 ·obtain⟨s,x,a,b⟩:=G.g.mem q hq;exact⟨s,x,a.imp id λz=>⟨z.1,(w x).mpr (.inl z.2)⟩,b⟩
 ·rcases a with a|⟨a1,a2⟩
  ·exact G.g.has s x (.inl a) b
  ·rcases(w x).mp a2 with a2|rfl
   ·exact G.g.has s x (.inr ⟨a1,a2⟩) b
   ·rw[v]at a1;cases a1
    rcases no with no|no
    ·obtain⟨q,hq,e⟩:=W8.mp ((G.rc x).mp no);obtain⟨u,A,o,rfl,N⟩:=G.g.mem q hq;have L:A=x:=by rw[Xc]at e;exact e
     subst L;refine⟨u,hq,?_⟩;rcases o with⟨o,_⟩|⟨o,_⟩
     ·obtain⟨m,C,r⟩:=Qn.mp o;rw[WS]at C;rw[QU]at r
      have:=WJ.mp B m i (by lia) H (by lia)
      rw[r,ei]at this;exact .inr this
     ·rw[v]at o;cases o
      exact .inl rfl
    ·exact absurd b no
def LGs.put {ps:List (ZX)}{r:ZX}{ws:ZW}{l:Int}{v:List (ZX)}{s:List (Key×V)}{i j:Nat}{p:ZX}{h:Int} (y:ps[i]?=some p) (Y:r[j]?=some h) (Q:ps.Pairwise sl) (T:r.Pairwise (· < ·))
  (G:LGs ws l (Pd ps r i j) r v s) (new:(Ut s<|.inl h).isSome=false) (hw:(Ub l p,h)∈ws):LGs ws l (Pd ps r i (j+1)) r (v++[p++[h]]) (putK s (.inl h)<|.bl true):=by
 obtain⟨H,J⟩:=Wp.mp Y;obtain⟨U,ei⟩:=Wp.mp y;have A:∀x,x∈r.take (j+1)↔x∈r.take j\/x=h:=λx=>by rw[WI H,Wu,YW,J]
 have B:Ub l (p++[h])=h:=by rw[Xc];rfl
 have L:h∉v.map (Ub l):=λz=>by rw[(G.rc h).mpr z]at new;cases new
 refine⟨⟨λq hq=>?_,?_,λf x a b=>?_⟩,?_,λx hx=>?_,λx=>?_,?_⟩
 ·rcases Wu.mp hq with hq|hq
  ·obtain⟨f,x,a,b⟩:=G.g.mem q hq;exact⟨f,x,a.imp id λz=>⟨z.1,(A x).mpr (.inl z.2)⟩,b⟩
  ·rw[YW.mp hq];exact⟨p,h,.inr ⟨y,(A h).mpr (.inr rfl)⟩,rfl,hw⟩
 ·refine List.pairwise_append.mpr ⟨G.g.srt,by simp,λq hq q' C=>?_⟩;rw[YW.mp C];obtain⟨f,x,a,rfl,b⟩:=G.g.mem q hq;rcases a with⟨a,_⟩|⟨a1,a2⟩
  ·obtain⟨m,E,o⟩:=Qn.mp a;rw[WS]at E;rw[QU]at o
   have:=WJ.mp Q m i (by lia) U (by lia)
   rw[o,ei]at this;exact N4 x h this
  ·rw[y]at a1;cases a1
   obtain⟨m,E,o⟩:=Qn.mp a2;rw[WS]at E;rw[QU]at o
   have:=WJ.mp T m j (by lia) H (by lia)
   rw[o,J]at this;exact Fs this
 ·have u:∀f x,Pd ps r i j f x->(Ub l f,x)∈ws->∃n,n++[x]∈v++[p++[h]]/\(n=f\/sl n f):=λf x a b=>let ⟨n,N,M⟩:=G.g.has f x a b;⟨n,WL _ N,M⟩;rcases a with a|⟨a1,a2⟩
  ·exact u f x (.inl a) b
  ·rcases(A x).mp a2 with a2|rfl
   ·exact u f x (.inr ⟨a1,a2⟩) b
   ·rw[y]at a1;cases a1
    exact⟨p,Wo _ (YW.mpr rfl),.inl rfl⟩
 ·rw[Ww,QK,B];refine Vt.mpr ⟨G.nd,by simp,λa ha b hb=>?_⟩;rw[YW.mp hb];rintro rfl;exact L ha
 ·rw[Ww,QK,B]at hx;rcases Wu.mp hx with hx|hx
  ·exact G.sub x hx
  ·rw[YW.mp hx,←J];exact WE H
 ·rw[Ww,QK,B,GM,Wu,YW];by_cases e:x=h
  ·subst e;rw[Wc rfl];exact⟨λ_=>.inr rfl,λ_=>rfl⟩
  ·rw[YV (λz=>e (Sum.inl.inj z)),G.rc];exact⟨.inl,λz=>z.elim id λw=>absurd w e⟩
 ·rw[Wv]
  have:=SJ s (.inl h) (.bl true)
  have:=G.len
  simp;lia
theorem D9{b:Type}{c:b->Bool}:∀{xs:List b}{x:b}{r:List b},xs.filter c=x::r->∃i,∃n:i<xs.length,xs[i]=x/\c x=true/\∀j (g:j<xs.length),j<i->c xs[j]=false
 |[],x,r,h=>by cases h
 |y::s,x,r,h=>by
  by_cases f:c y=true
  ·rw[List.filter_cons_of_pos f]at h;cases h
   exact⟨0,by simp,rfl,f,λj _ g=>by lia⟩
  ·rw[List.filter_cons_of_neg f]at h;obtain⟨i,n,q,p,o⟩:=D9 h;refine⟨i+1,by simp;lia,by simpa using q,p,λj g l=>?_⟩;cases j with
   |zero=>simpa using f
   |succ j=>simpa using o j (by simpa using g) (by lia)
def DR(c:Int->Bool):∀ws:ZX,ws.filterMap (λq=>if c q=true then some (D.int q)else none)=(ws.filter c).map D.int:=Td c D.int
def FRi(b:ZX)(ws:ZW)(ns:ZX)(r:ZX):Prop:=
 (r=[]/\∀l∈ns,∀t,¬Xa b ws l t)\/∃l t,r=l::t/\l∈ns/\Xa b ws l t/\∀m∈ns,∀u,Xa b ws m u->t.length<u.length\/(t.length=u.length/\(l<m\/(l=m/\(t=u\/sl t u))))
def FRi.keep {n:ZX}{ws:ZW}{ns r f:ZX}{l:Int} (h:FRi n ws ns r) (v:∀m∈ns,m<l) (b:RF n ws l f) (c:f=[]\/(r≠[]/\r.length<=f.length)):FRi n ws (ns++[l]) r:=by
 rcases h with⟨rfl,h⟩|⟨p,t,rfl,q,x,w⟩
 ·rcases c with rfl|⟨c,_⟩
  ·rcases b with⟨_,b⟩|⟨t,e,_⟩
   ·refine .inl ⟨rfl,λm hm=>?_⟩;rcases Wu.mp hm with hm|hm
    ·exact h m hm
    ·rw[YW.mp hm];exact b
   ·cases e
  ·exact absurd rfl c
 ·refine .inr ⟨p,t,rfl,WL _ q,x,λm hm u g=>?_⟩;rcases Wu.mp hm with hm|hm
  ·exact w m hm u g
  ·rw[YW.mp hm]at g ⊢;rcases b with⟨rfl,b⟩|⟨s,rfl,_,b⟩
   ·exact absurd g (b u)
   ·rcases c with c|⟨_,c⟩
    ·cases c
    ·have o:=v p q;simp at c;rcases b u g with z|⟨z,_⟩
     ·exact .inl (by lia)
     ·by_cases e:t.length<u.length
      ·exact .inl e
      ·exact .inr ⟨by lia,.inl o⟩
def FRi.take {g:ZX}{ws:ZW}{ns r f:ZX}{l:Int} (h:FRi g ws ns r) (w:∀m∈ns,m<l) (o:RF g ws l f) (c:f≠[]/\(r=[]\/f.length<r.length)):FRi g ws (ns++[l]) f:=by
 rcases o with⟨rfl,_⟩|⟨s,rfl,f1,q⟩
 ·exact absurd rfl c.1
 ·refine .inr ⟨l,s,rfl,Wo _ (YW.mpr rfl),f1,λm hm u b=>?_⟩;rcases Wu.mp hm with hm|hm
  ·rcases h with⟨rfl,h⟩|⟨v,t,rfl,y,x,p⟩
   ·exact absurd b (h m hm u)
   ·rcases c.2 with c|c
    ·cases c
    ·simp at c;rcases p m hm u b with z|⟨z,_⟩
     ·exact .inl (by lia)
     ·exact .inl (by lia)
  ·rw[YW.mp hm]at b ⊢;rcases q u b with z|⟨z,n⟩
   ·exact .inl z
   ·exact .inr ⟨z,.inr ⟨rfl,n⟩⟩
def FRi.all {b:ZX}{ws:ZW}{ns r:ZX} (f:∀z,z∈ns↔z∈b) (h:FRi b ws ns r):FR b ws r:=by
 rcases h with⟨rfl,h⟩|⟨l,t,rfl,q,p,o⟩
 ·exact .inl ⟨rfl,λl n=>h l ((f l).mpr n)⟩
 ·exact .inr ⟨l,t,rfl,(f l).mp q,p,λm g=>o m ((f m).mpr g)⟩
def Zah{one two w m:Int}(h:KN one two w m):Pq (JV one two w) [one]=some "BadOrder":=by
 unfold Pq;refine YV λz=>?_;have p:=List.isPerm_iff.mp z;have f:two∈U9 (JV one two w):=B5 (Pp h) (List.Perm.refl _) (two,1) (by simp[JV]);have b:=p.mem_iff.mpr f;exact h.2.2.2.2.1 (YW.mp b).symm
def OH{one:Int}(f:1<=one)(b:one<=10):¬(one,1+(one+2) % 10)∈wish20:=by
 rcases(by lia:one=1\/one=2\/one=3\/one=4\/one=5\/one=6\/one=7\/one=8\/one=9\/one=10)with rfl|rfl|rfl|rfl|rfl|rfl|rfl|rfl|rfl|rfl<;>decide +kernel
noncomputable def Mi(c:Str):List D:=(namesT.map λn=>.bl (decide (c=n)))++[.bl true]
def Sd{k:Int}(g:0<=k)(f:k<18):Mi (nmT k)=Ko k:=by
 have b:∀j:Fin 18,(namesT.map λn=>decide (nmT (j.1:Int)=n))=(List.range 18).map λ(i:Nat)=>decide ((i:Int)=(j.1:Int)):=by decide +kernel
 have:=b ⟨k.toNat,by lia⟩
 have e:((k.toNat:Nat):Int)=k:=by lia
 rw[e]at this
 have:=W2 (λz=>z.map D.bl++[.bl true]) this
 simp only[Q5]at this;exact this
def Tw{k:Int}(g:0<=k)(f:k<17):nmT k∈plainT:=by
 have b:∀j:Fin 17,nmT (j.1:Int)∈plainT:=by decide +kernel
 have:=b ⟨k.toNat,by lia⟩
 have e:((k.toNat:Nat):Int)=k:=by lia
 rwa[e]at this
def IsV(v:Addr×List (Addr×List D))(bk:List (Str×ZX))(fs us:List (ZW)):Prop:=∃x b1 f b:Addr,v=(x,[(b1,bk.map dD),(f,fs.map plD),(b,us.map plD)])
noncomputable def P5(k:Int):List Bool:=((List.range 18).map λ(j:Nat)=>decide ((j:Int)=k))++[true]
def MW(k:Int):Ko k=(P5 k).map D.bl:=by
 unfold Ko P5;rw[Ww,Q5];rfl
def ED(k:Int):(List.range 18).filterMap (λ(j:Nat)=>some (D.bl<|decide ((0:Int)+(j:Int)=k)))++[.bl true]=Ko k:=by
 unfold Ko;simp only[Int.zero_add];exact W2 (·++_) (congrFun (List.filterMap_eq_map ..) _)
theorem Sv:∀bs:List Bool,Kv (bs.map D.bl)=some (bs.map V.bl)
 |[]=>rfl
 |b::r=>by
  rw[Wz,Wz];unfold Kv;rw[Sv r];rfl
def FY(bs:List Bool):(bs.map V.bl).all UM=true:=by
 rw[WA];intro v f;obtain⟨b,_,rfl⟩:=W8.mp f;rfl
def MR(bs:List Bool):eqL (bs.map V.bl) (bs.map V.bl)=true:=by
 unfold eqL;rw[YZ rfl,Bool.true_and,WA];intro j b;rw[List.mem_range,YU]at b;rw[Wr,Wh,Wa b];show eqV (.bl bs[j]) (.bl bs[j])=true;cases bs[j]<;>rfl
def Ca{v:Addr×List (Addr×List D)}{bk:List (Str×ZX)}{f u:ZW}(h:IsV v bk [f] [u]):IsV v bk ([]++[f]) ([]++[u]):=h
def T1{w:Addr×List (Addr×List D)}{bk:List (Str×ZX)}{fs us:List (ZW)}(h:w.2.map (·.2)=[bk.map dD,fs.map plD,us.map plD]):IsV w bk fs us:=by
 obtain⟨x,f⟩:=w;rcases f with _|⟨⟨b1,a⟩,_|⟨⟨l,b⟩,_|⟨⟨g,c⟩,_|⟨d,t⟩⟩⟩⟩<;>simp only[Wz,Vx,List.cons.injEq,and_true,reduceCtorEq,and_false]at h
 obtain⟨rfl,rfl,rfl⟩:=h;exact⟨x,b1,l,g,rfl⟩
def M8{l g:Type}{f:l->g}{ws:List l}{v:g}(h:ws.map f=[v,v,v,v]):∃a b c d,ws=[a,b,c,d]/\f a=v/\f b=v/\f c=v/\f d=v:=by
 rcases ws with _|⟨a,_|⟨b,_|⟨c,_|⟨d,_|⟨e,t⟩⟩⟩⟩⟩<;>simp only[Wz,Vx,List.cons.injEq,and_true,reduceCtorEq,and_false]at h
 exact⟨a,b,c,d,rfl,h⟩
def LD:∀i:Fin 20,X1 (wish20.take i.1) (1+(0+(i.1:Int)) % 10) (1+((0+(i.1:Int)) % 10+1+(0+(i.1:Int)) / 10) % 10)=none/\wish20.take i.1++[(1+(0+(i.1:Int)) % 10,1+((0+(i.1:Int)) % 10+1+(0+(i.1:Int)) / 10) % 10)]=wish20.take (i.1+1):=by decide +kernel
end M
namespace T
open L2 Own M
section
variable {P:Program}{w:World}{K:ZV}{mg:ZZ}{base:Heap}
def ML(G:Glob K mg)(D:Pu.Uo K (ExcR.Xq K<|ExcR.JU mg "Ringed") "__init__" "Ringed.__init__" S8 ["self","members"])
  : Pu.Xh P w K mg base CX0 1 (ExcR.Xq K<|ExcR.JU mg "Ringed") ["self","members"] (ExcR.Te K):=by
 refine D.ok (k:=0) Rb (λb H Q E h=>?_) (λf g A outer s H b Q E l h=>?_)
 ·obtain⟨_,_,_,_,_,rfl,_⟩:=h;rfl
 ·exact⟨_,KU (ExcR.GK (pv 0) (Pr FW (by rfl) G.ZF boot_list<|Uc (pv 1) UY)<|by rfl),ExcR.O4 h rfl⟩
def Ig(G:Glob K mg)(D:Def K mg "holders_of" N0 ["strips"])
  : Callee P w K mg base CX0 1 "holders_of" ["strips"] (BI K):=by
 refine D.ok (k:=0) RR (λp H Q E h=>?_) (λf cdv A outer s H p Q E hr h=>?_)
 ·obtain⟨l,b,rfl,⟨p,v,u⟩,J,C,q⟩:=h;rfl
 ·obtain⟨l,b,rfl,⟨p,v,u⟩,J,C,q⟩:=h;refine⟨_,(KU<|KE<|Ul (Av rfl) (by rfl) G.Z3 boot_sorted<|Uc (Pr (Mo rfl) (by rfl) G.ZS boot_set<|Uc (N6 (N':=["holder","width"]) (φ:=[none,none]) rfl (Pv.of<|by rfl) (Ff<|pv 0) (λ_ _ _ _ _=>⟨(Eg (K:=K) (n:=2) rfl<|SW (B6 (i:=0) (show(["holder","width"]:Ye).Nodup from by decide +kernel) rfl (by first|exact Or.inl rfl|exact Or.inr rfl))<|SW (B6 (i:=1) (show(["holder","width"]:Ye).Nodup from by decide +kernel) rfl (by first|exact Or.inl rfl|exact Or.inr rfl)) Ew),TL,(pv 0)⟩)) UY) UY),?_⟩
  have e1:=u.1;refine⟨_,rfl,l,rfl,⟨_,SqL.of v⟩,λD z=>Zaz (ds:=b) (λd=>some (V.int d.1)) (SqL.of v) e1 z (Wi C<|by decide) (λi x d H2 hx Y S k U=>?_) ?_⟩
  ·obtain⟨d',g,a,rfl,ha⟩:=u.get hx;rw[Y]at g;cases g
   exact⟨a,_,rfl,SqT.of (S _ _ ha),rfl,_,_,rfl,_,_,rfl,rfl,.skip (.skip .refl),_,rfl,U⟩
  ·have em:b.filterMap (λd=>some (V.int d.1))=(b.map (·.1)).map V.int:=by
    rw[List.filterMap_eq_map',Q5];rfl
   rw[em];have S1:Same H (upd H D<|.lst ((b.map (·.1)).map V.int)):=UB z;refine⟨D,b.map (·.1),rfl,SqL.of Um,by rw[YU];lia,λy M=>?_⟩;have L:=Own.Same.new (o:=KC w y ((b.map (·.1)).foldl SetR.UA [])) S1 M;refine⟨y,_,rfl,?_,.inr Um,λr ns B T N=>?_⟩
   ·have:=FX (b.map (·.1)) []
    rw[YU]at this;simp at this ⊢;lia
   ·rw[OA J T N];exact q r _ (L.free B) (Own.Same.new L B) Um
end
open Pu
section
variable {P:Program}{w:World}{K:ZV}{mg:ZZ}{base:Heap} (ζ:Fv P w K mg base)
variable (G:Glob K mg) (Y1:Gm ζ) (Yp:Fu ζ) (Y2:Dh ζ) (Yu:Mc ζ) (Y3:FZ ζ) (Y4:DM ζ) (Yv:DL ζ) (Yw:El ζ) (Yl:D2 ζ) (Yn:FD ζ) (Ym:BO ζ) (Yx:AJ ζ) (Y5:BR ζ) (Y6:Ek ζ) (Y7:AG ζ) (Yq:Cp ζ) (Ys:Cm ζ) (Y8:BK ζ) (YA:BL ζ) (YB:Eu ζ) (YC:Fg ζ) (YD:DQ ζ) (Yy:BN ζ) (YE:FV ζ) (YF:F4 ζ) (YG:Dm ζ) (YH:Em ζ) (YI:Fh ζ) (Yz:BV ζ) (Y0:Fl ζ) (YJ:DE ζ) (Yt:D1 ζ) (Yo:FE ζ) (Yr:En ζ) (YK:DF ζ) (YL:Ap ζ) (YM:Eh ζ) (YN:DW ζ) (YO:FI ζ) (YQ:DJ ζ) (YR:AL ζ) (YS:CN ζ)
def Lc(o:Def K mg "check_holder" SC ["holder"])
  : Fu ζ:=by
 refine o.fy Gp (λp n=>(b1<|sI (tp<|wo (tc Kx Kh (xv 0) xi)<|wO<|tc Km K5 (xv 0)<|xe (ExcR.UX G.ZP) Ua) (b1<|sQ G.ZD G.Zp ExcR.UK<|a1<|xe (ExcR.Kt<|ExcR.Xk<|ExcR.Kz (ExcR.UX G.ZP) ExcR.Kk)<|K6<|Xn<|Kc Ua Kn) b0)) (.a ?_)
 ·rintro r R X ⟨h,rfl,b⟩;refine⟨rfl,?_⟩;unfold Pf at b;refine Ud (λg=>XI ?_) (λg=>?_)
  ·rw[YV (by have:=YY g;lia)]at b;exact⟨by decide,by decide,by decide,by decide,by simp,b⟩
  ·have q:¬h<1:=λz=>g (YZ z);refine Ud (λf=>?_) (λf=>?_)
   ·rw[YV (by have:=YY f;lia)]at b;exact⟨by decide,by decide,by decide,by decide,by simp,b⟩
   ·have l:¬10<h:=λz=>f (YZ z);rw[Wc (by lia)]at b;exact b
def Ib(o:Def K mg "check_width" Ba ["width"])
  : Dh ζ:=by
 refine o.fy Mh (λp n=>(b1<|sI (tp<|wo (tc Kx Kh (xv 0) xi)<|wO<|tc Km K5 (xv 0)<|xe (ExcR.UX G.Z5) Ua) (b1<|sQ G.ZH G.Zq ExcR.UK<|a1<|xe (ExcR.Kt<|ExcR.Xk<|ExcR.Kz (ExcR.UX G.Z5) ExcR.Kk)<|K6<|Xn<|Kc Ua Kn) b0)) (.a ?_)
 ·rintro r R X ⟨h,rfl,b⟩;refine⟨rfl,?_⟩;unfold Bq at b;refine Ud (λg=>XI ?_) (λg=>?_)
  ·rw[YV (by have:=YY g;lia)]at b;exact⟨by decide,by decide,by decide,by decide,by simp,b⟩
  ·have q:¬h<1:=λz=>g (YZ z);refine Ud (λf=>?_) (λf=>?_)
   ·rw[YV (by have:=YY f;lia)]at b;exact⟨by decide,by decide,by decide,by decide,by simp,b⟩
   ·have l:¬1000<h:=λz=>f (YZ z);rw[Wc (by lia)]at b;exact b
def G6(o:Def K mg "check_neighbours" Nz ["strips","place"])
  : FZ ζ:=by
 refine o.fy O8 (λq n=>(b1<|sI (tp<|wo (tc Kx Kh (xv 1) xi)<|wO<|tc Th PN (xv 1)<|xl G.len<|xv 0) (b1<|sQ G.Zx G.Zm ExcR.UK<|a1 xs) b0)) (.a ?_)
 ·rintro u R X ⟨f,p,rfl,b⟩;refine⟨rfl,?_⟩;have r:(f.map prD).length=f.length:=YU ..;refine Ud (λg=>XI ?_) (λg=>?_)
  ·rw[Wc (.inl<|YY g)]at b;exact⟨by simp,b⟩
  ·have s:¬p<1:=λz=>g (YZ z);refine Ud (λl=>?_) (λl=>?_)
   ·have h:((f.map prD).length:Int)<=p:=YY l;rw[Wc (.inr<|by lia)]at b;exact⟨by simp,b⟩
   ·have h:¬((f.map prD).length:Int)<=p:=λz=>l (YZ z);rw[YV (by lia)]at b;exact b
def IW(DD:Def K mg "longer_paths" Bf ["paths","left","wishes"])
  : DM ζ:=by
 refine DD.fz Fc (λC n=>(bc (sS 3 n<|xL a0)<|bc (se (Pu.pz 4 Fc.nd O1)<|TX Lg<|Kp 4)<|bc (sF 1<|sF 0<|sO [5,6] Qh (iL<|xv 0) (gN 5)<|b1<|sF 1<|sO [6] Qh (iL<|xv 1) (gN 6)<|b1<|sI (tp<|wa (te (LO<|Rc (T3<|C ()) (pv 6)<|pv 4)<|RP<|Ht (JS 6)<|JS 4)<|wA<|ti C (xt<|a2 (xx (xv 5)<|xe (Pt Po Uk)<|KZ Ua)<|xv 6)<|xv 2) (bc (se (OM (T3<|C ()) (pv 4) (pv 6) SY rfl)<|EG 4 (JS 6) Bv)<|b1<|sF 6<|sA 3<|xo Xy XF (xv 5)<|xL<|a1<|xv 6) b0)<|b1<|sV 3)) (.a ?_)
 ·rintro ds R X ⟨l,u,s,y,rfl,B,U,E,T,hR⟩;refine⟨rfl,?_⟩
  refine⟨by simp,rfl,T7 (xs:=u) (emb:=em l) (λi o=>∃q f,o=[some (.bor<|.lst<|u.map<|em l),some (.bor<|.lst<|s.map D.int),some (.bor<|.lst<|y.map prD),some (.own<|q.map<|em l),some (.own<|.dK f),none,none]/\LGs y l (Pd u s i 0) s q f)
   ⟨[],[],rfl,LGs.start⟩ ?_ ?_⟩
  ·rintro i J o ⟨q,f,rfl,r⟩;have v:u[i]?=some u[i]:=Wa J;have H:=E u[i] (WE J);generalize u[i]=p at v H ⊢;refine⟨rfl,T7 (xs:=s) (emb:=D.int) (λj o=>∃q f,o=[some (.bor<|.lst<|u.map<|em l),some (.bor<|.lst<|s.map D.int),some (.bor<|.lst<|y.map prD),some (.own<|q.map<|em l),some (.own<|.dK f),some (.bor<|em l p),none]/\LGs y l (Pd u s i j) s q f) ⟨q,f,rfl,r⟩ ?_ ?_⟩
   ·rintro j hj o ⟨q,f,rfl,r⟩;have A:s[j]?=some s[j]:=Wa hj;generalize s[j]=h at A ⊢;have N:=r.len_le;have Y:=r.len;refine⟨.inl h,rfl,Ud (λg=>?_) (λg=>?_)⟩
    ·have M:(Ut f<|.inl h).isSome=false:=by
      cases e:(Ut f<|.inl h).isSome with
      |false=>rfl
      |true=>rw[e]at g;cases g
     refine⟨_,B9 l p,by simp,_,.lp (Ub l p,h) y,Ud (λL=>?_) (λL=>?_)⟩
     ·refine⟨.inl h,.bl true,rfl,rfl,by lia,by simp,Dv _,rfl,by simp;lia,by rw[YU];lia,q++[p++[h]],_,?_,r.put v A B U M (YY L)⟩;rw[Ww]
      have e:em l (p++[h])=.lst ((l::p).map D.int++[.int h]):=by
       unfold em;rw[←QY,Ww];rfl
      rw[QK,e];rfl
     ·exact⟨q,f,rfl,r.skip v A B (.inr λz=>L (YZ z))⟩
    ·have M:(Ut f<|.inl h).isSome=true:=by
      cases e:(Ut f<|.inl h).isSome with
      |true=>rfl
      |false=>rw[e]at g;exact absurd rfl g
     exact Pm ⟨q,f,rfl,r.skip v A B (.inl M)⟩
   ·rintro o ⟨q,f,rfl,r⟩;refine⟨q,f,rfl,r.congr λQ x=>?_⟩;unfold Pd;rw[Va,QM];obtain⟨hi',ei⟩:=Wp.mp v;rw[WI J,Wu,YW,v,ei];constructor
    ·rintro(⟨a,b⟩|⟨a,b⟩)
     ·exact .inl ⟨.inl a,b⟩
     ·exact .inl ⟨.inr (Wg a).symm,b⟩
    ·rintro(⟨a|a,b⟩|⟨_,a⟩)
     ·exact .inl ⟨a,b⟩
     ·exact .inr ⟨W2 some a.symm,b⟩
     ·cases a
  ·rintro o ⟨q,f,rfl,r⟩;refine hR q (r.g.congr λQ x=>?_) r.len_le;unfold Pd;rw[Va,QM];exact⟨(λz=>z.elim id λw=>by cases w.2),.inl⟩
def I0(o:Def K mg "check_place" Br ["strips","place"])
  : DL ζ:=by
 refine o.fy EK (λq n=>(b1<|sI (tp<|wo (tc Kx Kh (xv 1) xi)<|wO<|tc Km K5 (xv 1)<|xl G.len<|xv 0) (b1<|sQ G.Zx G.Zm ExcR.UK<|a1 xs) b0)) (.a ?_)
 ·rintro u R X ⟨f,p,rfl,b⟩;refine⟨rfl,?_⟩;have r:(f.map prD).length=f.length:=YU ..;unfold TY at b;refine Ud (λg=>XI ?_) (λg=>?_)
  ·rw[Wc (.inl<|YY g)]at b;exact⟨by simp,b⟩
  ·have s:¬p<1:=λz=>g (YZ z);refine Ud (λl=>?_) (λl=>?_)
   ·have h:((f.map prD).length:Int)<p:=YY l;rw[Wc (.inr<|by lia)]at b;exact⟨by simp,b⟩
   ·have h:¬((f.map prD).length:Int)<p:=λz=>l (YZ z);rw[YV (by lia)]at b;exact b
def Lb(r:Def K mg "without_wish" SX ["wishes","ahead","behind"])
  : El ζ:=by
 refine r.fy Zao (λp n=>(bc (sI (tI p (xt<|a2 (xv 1)<|xv 2)<|xv 0) (b1<|sQ G.ZO G.Z7 ExcR.UK<|a1 xs) b0)<|b1<|sF 2<|sF 1<|sR<|xC ["wish","ahead","behind"] [none,some 1,some 2] (jL<|xv 0) (gN 0) (f1<|te (Kq (HW (K:=K)<|show _<cLine from(p ()).units0) (pv 0) (Tn<|bz (pv 1)<|pv 2)<|KD _)<|XS<|EL (JS 0)<|Ni<|tz (JS 1)<|JS 2)<|xv 0)) (.a ?_)
 ·rintro u R X ⟨l,a,b,rfl,s,f⟩;refine⟨rfl,?_⟩;unfold KJ at f;refine⟨by simp,_,.lp (a,b) l,Ud (λg=>?_) (λg=>?_)⟩
  ·have o:¬(a,b)∈l:=λz=>by rw[Wc rfl,YZ z]at g;cases g
   rw[YV o]at f;exact⟨by simp,f⟩
  ·have o:(a,b)∈l:=W9 λz=>g (by rw[Wc rfl,W4 z];rfl);rw[Wc o]at f;refine Pz (xs:=l) (emb:=prD) (λq=>if (!decide (q=(a,b)))=true then some (prD q)else none) (by lia) (λq hq=>?_) ?_
   ·refine⟨by simp,?_⟩;show BF (.sh<|prD q) (.sh<|prD (a,b)) _;refine Ot ?_;exact Ud (λh=>⟨_,rfl,Wc h⟩) (λh=>YV h)
   ·rw[Td (λq:Int×Int=>!decide (q=(a,b)))];exact f
def Mr(g:Uo K (Up K (Uh ζ) "strips") "strips" "Village.strips" Bs ["self"])
  : D2 ζ:=by
 refine g.fz O6 (λl n=>(b1<|sR<|xe (Pr (Ts (K:=K)) (by rfl) G.ZF boot_list<|az<|jx K (XW (pv 0) rfl)<|Pt Po Uk)<|Tz<|sz<|Xu (KY 1 G.Za G.Ze BJ<|JS 0)<|KZ Ua)) (.a ?_)
 ·rintro o R X ⟨bk,fs,h,f,rfl,b⟩;refine⟨rfl,?_⟩;exact⟨rfl,rfl,_,rfl,_,DT plD fs f,XC _,b⟩
def MS(h:Uo K (Up K (Uh ζ) "wishes") "wishes" "Village.wishes" Bi ["self"])
  : FD ζ:=by
 refine h.fz IF (λl n=>(b1<|sR<|xe (Pr (Ts (K:=K)) (by rfl) G.ZF boot_list<|az<|jx K (XW (pv 0) rfl)<|Pt Po Uk)<|Tz<|sz<|Xu (KY 2 G.Za G.Zf Ct<|JS 0)<|KZ Ua)) (.a ?_)
 ·rintro o R X ⟨bk,fs,b,f,rfl,g⟩;refine⟨rfl,?_⟩;exact⟨rfl,rfl,_,rfl,_,DT plD b f,XC _,g⟩
def Ro(h:Uo K (Up K (Uh ζ) "check_room") "check_room" "Village.check_room" Sh ["self"])
  : BO ζ:=by
 refine h.fy Ho (λo n=>(b1<|sI (tc Th PN (xl G.len<|xe (XW (pv 0) rfl)<|KY 0 G.Za G.Zc PU<|JS 0)<|xe (ExcR.UX G.ZG) Ua) (b1<|sQ G.ZK G.Zw ExcR.UK<|a1<|xe (ExcR.Kt<|ExcR.Xk<|ExcR.Kz (ExcR.UX G.ZG)<|ExcR.Xk ExcR.Kk)<|K6<|Xn<|Kc Ua<|Xn Kn) b0)) (.a ?_)
 ·rintro q R X ⟨bk,fs,l,rfl,b⟩;refine⟨rfl,?_⟩;have p:(bk.map dD).length=bk.length:=YU ..;unfold XT at b;refine⟨rfl,rfl,_,rfl,Ud (λg=>?_) (λg=>?_)⟩
  ·have f:(100:Int)<=((bk.map dD).length:Int):=YY g;rw[Wc (by lia)]at b;exact⟨by decide,by decide,by decide,by decide,by decide,by simp,b⟩
  ·have f:¬(100:Int)<=((bk.map dD).length:Int):=λz=>g (YZ z);rw[YV (by lia)]at b;exact b
def Za2(z:Uo K (Up K (Uh ζ) "enter") "enter" "Village.enter" NV ["self","deed","field","wishes"])
  : AJ ζ:=by
 refine z.fz HZ (λB n=>(bc (sF 1<|se (Us<|Na Qu Qr Qs PZ (XW (pv 0) rfl)<|az<|pv 1)<|Ka<|NC 0 0 G.Za G.Zc PU<|JS 1)<|bc (sF 2<|se (Us<|Na Qu Qr Qs PZ (XW (pv 0) rfl)<|az<|pv 2)<|Ka<|NC 0 1 G.Za G.Ze BJ<|JS 2)<|bc (sF 3<|se (Us<|Na Qu Qr Qs PZ (XW (pv 0) rfl)<|az<|pv 3)<|Ka<|NC 0 2 G.Za G.Zf Ct<|JS 3)<|b1<|se (KE<|ln K G.len<|XW (pv 0) rfl)<|Hg<|Eb<|sz<|KY 0 G.Za G.Zc PU<|JS 0)) (.c ?_)
 ·rintro o A R X ⟨x,b1,y,v,bk,fs,b,q,f,w,rfl,rfl,H,E,C,p⟩;refine⟨rfl,?_⟩;have l:(bk.map dD).length<10000000:=by rw[YU];lia
  have h:(fs.map plD).length<10000000:=by rw[YU];lia
  have g:(b.map plD).length<10000000:=by rw[YU];lia
  refine⟨rfl,rfl,_,rfl,l,rfl,rfl,_,rfl,h,rfl,rfl,_,rfl,g,rfl,rfl,_,rfl,_,rfl,⟨rfl,by simp⟩,?_⟩;have e:(((bk.map dD++[dD q]).length:Nat):Int)=(bk.length:Int)+1:=by rw[Wv,YU];simp
  show R (.ins x _ vF [(b1,bk.map dD++[dD q]),(y,fs.map plD++[plD f]),(v,b.map plD++[plD w])]) (.int (((bk.map dD++[dD q]).length:Nat):Int));rw[e];have u:bk.map dD++[dD q]=(bk++[q]).map dD:=by rw[Ww];rfl
  have s:fs.map plD++[plD f]=(fs++[f]).map plD:=by rw[Ww];rfl
  have r:b.map plD++[plD w]=(b++[w]).map plD:=by rw[Ww];rfl
  rw[u,s,r];exact p
def Lr(f:Uo K (Up K (Uh ζ) "take_back") "take_back" "Village.take_back" S4 ["self"])
  : BR ζ:=by
 refine f.fy Lw (λh n=>(bc (sI (tN<|tt<|xe (XW (pv 0) rfl)<|KY 0 G.Za G.Zc PU<|JS 0) (b1<|sQ G.Z1 G.Zl ExcR.UK<|a1 xs) b0)<|bc (se US UR)<|bc (se US UR)<|b1<|se US UR)) (.a ?_)
 ·rintro l R X ⟨fs,g,rfl,b⟩;refine⟨rfl,rfl,rfl,_,rfl,?_⟩;show if (!(!([]:List D).isEmpty))=true then _ else _;exact XI ⟨by simp,b⟩
def Mz(l:Uo K (Up K (Uh ζ) "stood") "stood" "Village.stood" Be ["self","many"])
  : Ek ζ:=by
 refine l.fy O5 (λp n=>(bc (sI (tp<|wo (tc Kx Kh (xv 1) xi)<|wO<|tc Km K5 (xv 1)<|xl G.len<|xe (XW (pv 0) rfl)<|KY 0 G.Za G.Zc PU<|JS 0) (b1<|sQ G.Z8 G.Zo ExcR.UK<|a1 xs) b0)<|b1<|se US UR)) (.a ?_)
 ·rintro s R X ⟨bk,fs,o,k,rfl,r,b⟩;refine⟨rfl,?_⟩;have q:(bk.map dD).length=bk.length:=YU ..;refine Ud (λg=>XI ⟨by simp,b⟩) λg=>⟨rfl,rfl,_,rfl,Ud (λf=>⟨by simp,b⟩) λf=>?_⟩;have h:¬((bk.map dD).length:Int)<k:=λz=>f (YZ z);lia
def Io(h:Def K mg "check_small" SN ["strips"])
  : AG ζ:=by
 refine h.fy Ic (λo n=>(b1<|sI (tc Km K5 (xl G.len<|xv 0)<|xe (ExcR.UX G.ZQ) Ua) (b1<|sQ G.Zs G.Zh ExcR.UK<|a1<|xe (ExcR.Kt<|ExcR.Xk<|ExcR.Kz (ExcR.UX G.ZQ)<|ExcR.Xk ExcR.Kk)<|K6<|Xn<|Kc Ua<|Xn Kn) b0)) (.a ?_)
 ·rintro r R X ⟨b,rfl,l,f⟩;refine⟨rfl,?_⟩;have p:(b.map prD).length=b.length:=YU ..;refine Ud (λg=>?_) (λg=>?_)
  ·exact⟨by decide,by decide,by decide,by decide,by decide,by simp,f⟩
  ·have q:¬(7:Int)<((b.map prD).length:Int):=λz=>g (YZ z);lia
def Gy(l:Def K mg "_law_at" BB ["_law_script","_law_k"])
  : Cp ζ:=by
 refine l.fz Lv (λo n=>(bc (sI (tc Kx Kh (xv 1)<|xl G.len<|xv 0) (b1<|sR<|xx (xv 0)<|xv 1) b0)<|b1<|sR xi)) (.a ?_)
 ·rintro q R X ⟨b,k,rfl,h,f⟩;refine⟨rfl,?_⟩;refine Ud (λg=>?_) (λ_=>f 0);have p:k<(b.length:Int):=YY g;exact⟨_,Sj h (Wa<|show k.toNat<b.length by omega),f _⟩
def O3(v:Def K mg "check_strips" NN ["strips"])
  : Cm ζ:=by
 refine v.fy ID (λq n=>(bc (sI (tc Km K5 (xl G.len<|xv 0)<|xe (ExcR.UX G.Z4) Ua) (b1<|sQ G.Zg G.Zd ExcR.UK<|a1<|xe (ExcR.Kt<|ExcR.Xk<|ExcR.Kz (ExcR.UX G.Z4)<|ExcR.Xk ExcR.Kk)<|K6<|Xn<|Kc Ua<|Xn Kn) b0)<|b1<|sF 0<|sO [1,2] ExcR.Lo (iL<|xv 0) (gT 2<|gc (gN 1)<|gc (gN 2) g0)<|bc (sE<|xg Yp q ExcR.Uj<|a1<|xv 1)<|b1<|sE<|xg Y2 q ExcR.Uj<|a1<|xv 2)) (.a ?_)
 ·rintro A R X ⟨b,rfl,x,h⟩;refine⟨rfl,?_⟩;have y:(b.map prD).length=b.length:=YU ..;unfold XY at h;refine Ud (λg=>?_) (λg=>?_)
  ·have s:(40:Int)<((b.map prD).length:Int):=YY g;rw[Wc (by lia)]at h;exact⟨by decide,by decide,by decide,by decide,by decide,by simp,h⟩
  ·have s:¬(40:Int)<((b.map prD).length:Int):=λz=>g (YZ z);rw[YV (by lia)]at h;refine⟨rfl,T7 (xs:=b) (emb:=prD) (λi l=>l=[some (.bor<|plD b),none,none]/\Kb (b.drop i)=Kb b) ⟨rfl,rfl⟩ ?_ ?_⟩
   ·rintro i r l ⟨rfl,f⟩;have u:b.drop i=b[i]::b.drop (i+1):=QC r;rw[u,Tc]at f;generalize b[i]=p at f ⊢;refine⟨rfl,p.1,rfl,?_⟩;unfold Pf;by_cases c:1<=p.1/\p.1<=10
    ·rw[YV (λz=>z c)]at f;rw[Wc c];refine⟨p.2,rfl,?_⟩;unfold Bq;by_cases o:1<=p.2/\p.2<=1000
     ·rw[YV (λz=>z o)]at f;rw[Wc o];exact⟨rfl,f⟩
     ·rw[Wc o]at f;rw[YV o];rw[←f]at h;exact h
    ·rw[Wc c]at f;rw[YV c];rw[←f]at h;exact h
   ·rintro l ⟨rfl,f⟩;rw[List.drop_length]at f;rw[←f]at h;exact h
def Of(v:Def K mg "check_order" Bo ["strips","order"])
  : BK ζ:=by
 refine v.fy EV (λl n=>(b1<|sI (tn l (xe (Ul (SB (K:=K) (w:=w) rfl) (by rfl) G.Z3 boot_sorted<|az<|pv 1)<|NY<|sz<|JS 1)<|xf Yu l<|a1<|xv 0) (b1<|sQ G.ZI G.Zr ExcR.UK<|a1 xs) b0)) (.a ?_)
 ·rintro x R X ⟨ps,os,rfl,r,o,p,b⟩;refine⟨rfl,os,rfl,p,λh u s=>⟨ps,rfl,r,o,_,_,rfl,rfl,?_⟩⟩;have q:=EO (ps:=ps) u s;unfold Pq at b;refine Ud (λg=>?_) (λg=>?_)
  ·have f:¬h=U9 ps:=λz=>by rw[Wc rfl,YZ z]at g;cases g
   rw[YV (λz=>f (q.mpr z))]at b;exact⟨by simp,b⟩
  ·have f:h=U9 ps:=W9 λz=>g (by rw[Wc rfl,W4 z];rfl);rw[Wc (q.mp f)]at b;exact b
def Rj(DD:Def K mg "ring_from" Bc ["least","holders","wishes"])
  : BL ζ:=by
 refine DD.fz LB (λT n=>(bc (sF 0<|sS 3 n<|xL<|a1<|xL<|a1<|xv 0)<|bc (sS 4 n<|xe (Ul (SB (K:=K) (w:=w) rfl) (by rfl) G.Z3 boot_sorted<|az<|cz ["holder","least"] [none,some 0] (Sg (K:=K)<|pv 1) ⟨(gk 0),(Al<|Kq Km (pv 0) (pv 1)<|KD _),(pv 0)⟩)<|NY<|sz<|Nd (Fj<|JS 1) (Kp 0) (XS<|K5 (JS 0)<|JS 1)<|JS 0)<|bc (sW [5,6] Qh (tt<|xv 3)<|bc (sF 0<|sC 5 ["path","wishes","least"] [none,some 2,some 0] n (jL<|xv 3) (gN 0) (f1<|ti T (xt<|a2 (xx (xv 0)<|xe (Pt Po Uk)<|KZ Ua)<|xv 2)<|xv 1)<|xv 0)<|bc (sI (tt<|xv 5) (b1<|sr<|xx (xv 5) xi) b0)<|bc (sS 3 n<|xf Y4 T<|a3 (xv 3) (xv 4)<|xv 2)<|bc (sS 6 n<|xC ["path"] [none] (jL<|xv 3) (gN 0) f0<|xx (xv 0)<|xe (Pt Po Uk)<|KZ Ua)<|b1<|sC 4 ["holder","reached"] [none,some 6] n (jL<|xv 4) (gN 0) (f1<|tI T (xv 0)<|xv 1)<|xv 0)<|b1<|sr<|xL a0)) (.a ?_)
 ·rintro ds R X ⟨l,v,A,rfl,hnd,hz,hR⟩;refine⟨rfl,by simp,by simp,Pz (xs:=v) (emb:=D.int) (λh=>if decide (l<h)=true then some (.int h)else none) (by lia) (λh _=>Ud (λg=>⟨_,rfl,Wc g⟩) (λg=>YV g)) ?_⟩;rw[DR λh=>decide (l<h)];refine⟨v.filter λh=>decide (l<h),rfl,Vq (Q3 _ _) (by lia),λb s H=>?_⟩;have hlt:b.Pairwise (· < ·):=TN H (s.nodup_iff.mpr<|hnd.filter _)
  have hm:∀h,h∈b↔Gr v l h:=λh=>by
   rw[s.mem_iff,Qv,QT];exact Iff.rfl
  have J:b.length<=v.length:=by
   rw[s.length_eq];exact Q3 _ _
  refine RT (λC=>∃k f b,C=[some (.sh<|.int l),some (.bor<|.lst<|v.map D.int),some (.bor<|.lst<|A.map prD),some (.own<|f.map<|em l),some (.own<|b.map D.int),none,none]/\Lev v A l k f b/\f.length<=60/\b.length<=v.length/\(k+b.length<=v.length\/(f=[]/\k<=v.length+1)))
   (λγ=>2*Ce 4 γ+min 1 (Ce 3 γ)) ⟨0,[[]],b,rfl,Lev.start hlt hm,by simp,J,.inl (by lia)⟩ ?_
  rintro C ⟨k,f,b,rfl,L,hpl,hll,hk⟩;have emp:(!(f.map<|em l).isEmpty)=decide (f≠[]):=by cases f<;>simp
  show if (!(f.map<|em l).isEmpty)=true then _ else _;rw[emp];refine Ud (λg=>?_) (λg=>?_)
  ·have y:f≠[]:=YY g;have hk':k+b.length<=v.length:=hk.elim id λz=>absurd z.1 y;have U:∀p∈f,p.length<=60:=λp s=>by rw[(L.way p s).1];lia
   refine Pz (xs:=f) (emb:=em l) (λp=>if decide ((Ub l p,l)∈A)=true then some (em l p)else none) (by lia) (λp s=>⟨_,B9 l p,by simp,_,.lp (Ub l p,l) A,Ud (λg=>⟨_,rfl,Wc g⟩) (λg=>YV g)⟩) ?_;rw[Td λp=>decide ((Ub l p,l)∈A)];generalize ef:(f.filter λp=>decide ((Ub l p,l)∈A))=fs;have N:(!(fs.map<|em l).isEmpty)=decide (fs≠[]):=by cases fs<;>simp
   show if (!(fs.map<|em l).isEmpty)=true then _ else _;rw[N];refine Ud (λg2=>?_) (λg2=>?_)
   ·have B:fs≠[]:=YY g2;cases fs with
    |nil=>exact absurd rfl B
    |cons p r=>
     obtain⟨i,hi,Q,e2,e3⟩:=D9 ef;have s:p∈f:=by rw[←Q];exact WE hi
     refine⟨em l p,M4 _ _,hR (l::p) (L.found hi Q (YY e2) λj hj hji z=>?_) (by have:=(L.way p s).1;simp;lia)⟩
     have:=e3 j hj hji
     rw[YZ z]at this;cases this
   ·have B:fs=[]:=W9 λz=>g2 (YZ z)
    have hn:∀p∈f,(Ub l p,l)∉A:=λp s z=>by
     have:p∈fs:=by rw[←ef];exact Qv.mpr ⟨s,YZ z⟩
     rw[B]at this;cases this
    refine⟨l,f,b,A,rfl,L.srt,L.lsrt,λp s=>Wi (U p s) (by decide),by lia,λo G hlg=>?_⟩;refine Pz (xs:=o) (emb:=em l) (λp=>some (.int<|Ub l p)) (by lia) (λp _=>⟨_,B9 l p,_,rfl,rfl⟩) ?_;have Q:o.filterMap (λp=>some (D.int<|Ub l p))=(o.map<|Ub l).map D.int:=by rw[List.filterMap_eq_map',Q5];rfl
    rw[Q];refine Pz (xs:=b) (emb:=D.int) (λh=>if decide (¬h∈o.map (Ub l))=true then some (.int h)else none) (by lia) (λh _=>⟨_,.li h _,?_⟩) ?_
    ·by_cases c:h∈o.map (Ub l)
     ·simp only[YZ c];exact Pm (YV<|by simp[c])
     ·simp only[W4 c];exact XI ⟨_,rfl,Wc (by simp[c])⟩
    rw[DR λh=>decide (¬h∈o.map (Ub l))];have L':=L.next hn G rfl
    have E:∀h∈o.map (Ub l),h∈b:=λh hh=>by
     obtain⟨q,hq,e⟩:=W8.mp hh;obtain⟨p,x,⟨_,a⟩,rfl,_⟩:=G.mem q hq;rw[Xc]at e;rw[←e];exact a
    have M:=Q3 (λh=>decide (¬h∈o.map (Ub l))) b
    have u:o≠[]->(b.filter λh=>decide (¬h∈o.map (Ub l))).length<b.length:=λy=>by
     obtain⟨q,hq⟩:=List.exists_mem_of_ne_nil o y;have hm:Ub l q∈b:=E _ (QB hq);refine Nat.lt_of_le_of_ne M λz=>?_
     have:=List.filter_eq_self.mp (List.Sublist.eq_of_length (List.filter_sublist (l:=b)) z) (Ub l q) hm
     rw[QT]at this;exact this (QB hq)
    refine⟨⟨k+1,o,_,rfl,L',by lia,by lia,?_⟩,?_⟩
    ·by_cases c:o=[]
     ·exact .inr ⟨c,by lia⟩
     ·have:=u c
      exact .inl (by lia)
    ·show 2*((b.filter λh=>decide (¬h∈o.map (Ub l))).map D.int).length+min 1 (o.map<|em l).length<2*(b.map D.int).length+min 1 (f.map<|em l).length;rw[YU,YU,YU,YU]
     have:0<f.length:=List.length_pos_iff.mpr y
     by_cases c:o=[]
     ·rw[c];rw[c]at M;simp only[List.length_nil];lia
     ·have:=u c
      lia
  ·have Y:f=[]:=W9 λz=>g (YZ z);subst Y;exact⟨by simp,hR [] L.over (by simp)⟩
def LN(s:Def K mg "sold" Sk ["strips","place","holder"])
  : Eu ζ:=by
 refine s.fy Zab (λl n=>(bc (sE<|xg Yv l ExcR.Uj<|a2 (xv 0)<|xv 1)<|bc (sE<|xg Yp l ExcR.Uj<|a1<|xv 2)<|bc (sS 3 n<|xx (xv 0)<|xo Kl Kf (xv 1) xi)<|bc (sI (tq l (xx (xv 3) xi)<|xv 2) (b1<|sQ G.ZJ G.Zt ExcR.UK<|a1 xs) b0)<|b1<|sF 2<|sR<|xo Xy XF (xo Xy XF (xp (xv 0) o0<|o1<|xo Kl Kf (xv 1) xi)<|xL<|a1<|xt<|a2 (xv 2)<|xx (xv 3) xi)<|xp (xv 0) (o1<|xv 1) o0)) (.a ?_)
 ·rintro v R X ⟨ps,p,h,rfl,u,b⟩;refine⟨rfl,?_⟩;unfold PD at b;refine⟨ps,p,rfl,?_⟩;unfold TY;by_cases c:p<1\/(ps.length:Int)<p
  ·rw[Wc c]at b ⊢;exact b
  ·rw[YV c]at b ⊢;refine⟨h,rfl,?_⟩;unfold Pf;by_cases f:1<=h/\h<=10
   ·rw[YV (λz=>z f)]at b;rw[Wc f];refine⟨_,Nf (by lia) (by lia),?_⟩;have q:(cutD (ps.map prD) none<|some (p-1)).length<=1000:=by have:=(KQ (ps.map prD) none<|some (p-1)).length_le;rw[YU]at this;lia
    have r:(cutD (ps.map prD) (some p) none).length<=1000:=by have:=(KQ (ps.map prD) (some p) none).length_le;rw[YU]at this;lia
    refine⟨_,rfl,Ud (λg=>?_) (λg=>?_)⟩
    ·have o:(Uu ps p).1=h:=YY g;rw[Wc o]at b;exact⟨by simp,b⟩
    ·have o:¬(Uu ps p).1=h:=λz=>g (YZ z);rw[YV o]at b;refine⟨XC _,_,rfl,by simp,by simp,rfl,rfl,Wi (WM q<|Wf 1) (by decide),XC _,rfl,rfl,Wi (WM (by rw[Wv];exact WM q (Wf 1)) r) (by decide),?_⟩;have e:=Zat (ps:=ps) (p:=p) (x:=(h,(Uu ps p).2)) (by lia) (by lia);show R (.own (cutD (ps.map prD) none (some (p-1))++[prD (h,(Uu ps p).2)]++cutD (ps.map prD) (some p) none));rw[e];exact b
   ·rw[Wc f]at b;rw[YV f];exact b
def Zaf(x:Def K mg "parted" BE ["strips","place","width"])
  : Fg ζ:=by
 refine x.fy Gb (λu n=>(bc (sE<|xg Yv u ExcR.Uj<|a2 (xv 0)<|xv 1)<|bc (sS 3 n<|xx (xv 0)<|xo Kl Kf (xv 1) xi)<|bc (sI (tp<|wo (tc Kx Kh (xv 2) xi)<|wO<|tc Th PN (xv 2)<|xx (xv 3) xi) (b1<|sQ G.ZL G.Zy ExcR.UK<|a1 xs) b0)<|bc (sI (tc Th PN (xl G.len<|xv 0)<|xe (ExcR.UX G.Z4) Ua) (b1<|sQ G.Zg G.Zd ExcR.UK<|a1<|xe (ExcR.Kt<|ExcR.Xk<|ExcR.Kz (ExcR.UX G.Z4)<|ExcR.Xk ExcR.Kk)<|K6<|Xn<|Kc Ua<|Xn Kn) b0)<|b1<|sF 2<|sR<|xo Xy XF (xo Xy XF (xp (xv 0) o0<|o1<|xo Kl Kf (xv 1) xi)<|xL<|a2 (xt<|a2 (xx (xv 3) xi)<|xv 2)<|xt<|a2 (xx (xv 3) xi)<|xo Kl Kf (xx (xv 3) xi)<|xv 2)<|xp (xv 0) (o1<|xv 1) o0)) (.a ?_)
 ·rintro E R X ⟨f,p,w,rfl,y,b⟩;refine⟨rfl,?_⟩;have A:(f.map prD).length=f.length:=YU ..;refine⟨f,p,rfl,?_⟩;unfold To at b;unfold TY;by_cases c:p<1\/(f.length:Int)<p
  ·rw[Wc c]at b ⊢;exact b
  ·rw[YV c]at b ⊢;refine⟨_,Nf (by lia) (by lia),?_⟩
   have B:¬(w<1\/(Uu f p).2<=w)->_:=λl=>by
    rw[YV l]at b;exact b
   by_cases l:w<1\/(Uu f p).2<=w
   ·rw[Wc l]at b;refine Ud (λg=>XI ⟨by simp,b⟩) (λg=>⟨_,rfl,Ud (λh=>⟨by simp,b⟩) (λh=>?_)⟩);have C:¬w<1:=λz=>g (YZ z);have v:¬(Uu f p).2<=w:=λz=>h (YZ z);lia
   ·rw[YV l]at b;refine Ud (λg=>absurd (YY g) (by lia)) (λg=>⟨_,rfl,Ud (λh=>absurd (YY h) (by lia)) (λh=>?_)⟩);refine Ud (λq=>?_) (λq=>?_)
    ·have o:(40:Int)<=((f.map prD).length:Int):=YY q;rw[Wc (by lia)]at b;exact⟨by decide,by decide,by decide,by decide,by decide,by simp,b⟩
    ·have o:¬(40:Int)<=((f.map prD).length:Int):=λz=>q (YZ z);rw[YV (by lia)]at b;have r:(cutD (f.map prD) none<|some (p-1)).length<=1000:=by have:=(KQ (f.map prD) none<|some (p-1)).length_le;rw[YU]at this;lia
     have s:(cutD (f.map prD) (some p) none).length<=1000:=by have:=(KQ (f.map prD) (some p) none).length_le;rw[YU]at this;lia
     refine⟨XC _,_,rfl,by simp,_,rfl,_,rfl,by simp,by simp,rfl,rfl,Wi (WM r<|Wf 2) (by decide),XC _,rfl,rfl,Wi (WM (by rw[Wv];exact WM r (Wf 2)) s) (by decide),?_⟩;rw[←Gs (by lia)]at b;exact b
def RU(s:Def K mg "united" Sq ["strips","place"])
  : DQ ζ:=by
 refine s.fy Ld (λo n=>(bc (sE<|xg Y3 o ExcR.Uj<|a2 (xv 0)<|xv 1)<|bc (sS 2 n<|xx (xv 0)<|xo Kl Kf (xv 1) xi)<|bc (sS 3 n<|xx (xv 0)<|xv 1)<|bc (sI (tn o (xx (xv 2) xi)<|xx (xv 3) xi) (b1<|sQ G.Zu G.Zi ExcR.UK<|a1 xs) b0)<|bc (sI (tc Km K5 (xo UO UP (xx (xv 2) xi)<|xx (xv 3) xi)<|xe (ExcR.UX G.Z5) Ua) (b1<|sQ G.ZM G.Zz ExcR.UK<|a1<|xe (ExcR.Kt<|ExcR.Xk<|ExcR.Kz (ExcR.UX G.Z5)<|ExcR.Xk ExcR.Kk)<|K6<|Xn<|Kc Ua<|Xn Kn) b0)<|b1<|sR<|xo Xy XF (xo Xy XF (xp (xv 0) o0<|o1<|xo Kl Kf (xv 1) xi)<|xL<|a1<|xt<|a2 (xx (xv 2) xi)<|xo UO UP (xx (xv 2) xi)<|xx (xv 3) xi)<|xp (xv 0) (o1<|xo UO UP (xv 1) xi) o0)) (.a ?_)
 ·rintro x R X ⟨ps,p,rfl,u,b⟩;refine⟨rfl,?_⟩;have v:(ps.map prD).length=ps.length:=YU ..;refine⟨ps,p,rfl,?_⟩;unfold Pg at b;by_cases c:p<1\/(ps.length:Int)<=p
  ·rw[Wc c]at b ⊢;exact b
  ·rw[YV c]at b ⊢
   have r:atI (ps.map prD) p=some (prD<|Uu ps (p+1)):=by
    have:=Nf (ps:=ps) (p:=p+1) (by lia) (by lia)
    rwa[show p+1-1=p by lia]at this
   refine⟨_,Nf (by lia) (by lia),_,r,_,rfl,_,rfl,Ud (λg=>?_) (λg=>?_)⟩
   ·have h:¬(Uu ps p).1=(Uu ps (p+1)).1:=λz=>by rw[YZ z]at g;cases g
    rw[Wc h]at b;exact⟨by simp,b⟩
   ·have h:(Uu ps p).1=(Uu ps (p+1)).1:=W9 λz=>g (by rw[W4 z];rfl);rw[YV (λz=>z h)]at b;refine⟨_,rfl,_,rfl,Ud (λf=>?_) (λf=>?_)⟩
    ·rw[Wc (YY f)]at b;exact⟨by decide,by decide,by decide,by decide,by decide,by simp,b⟩
    ·rw[YV (λz=>f (YZ z))]at b;have l:(cutD (ps.map prD) none<|some (p-1)).length<=1000:=by have:=(KQ (ps.map prD) none<|some (p-1)).length_le;rw[YU]at this;lia
     have q:(cutD (ps.map prD) (some (p+1)) none).length<=1000:=by have:=(KQ (ps.map prD) (some (p+1)) none).length_le;rw[YU]at this;lia
     refine⟨XC _,_,rfl,_,rfl,_,rfl,by simp,by simp,rfl,rfl,Wi (WM l<|Wf 1) (by decide),XC _,rfl,rfl,Wi (WM (by rw[Wv];exact WM l (Wf 1)) q) (by decide),?_⟩;rw[←Ga (by lia)]at b;exact b
def OX(x:Def K mg "with_wish" NH ["wishes","ahead","behind"])
  : BN ζ:=by
 refine x.fy RC (λl n=>(bc (sE<|xg Yp l ExcR.Uj<|a1<|xv 1)<|bc (sE<|xg Yp l ExcR.Uj<|a1<|xv 2)<|bc (sI (tq l (xv 1)<|xv 2) (b1<|sQ G.Z0 G.Zk ExcR.UK<|a1 xs) b0)<|bc (sI (ti l (xt<|a2 (xv 1)<|xv 2)<|xv 0) (b1<|sQ G.Z6 G.Zn ExcR.UK<|a1 xs) b0)<|bc (sI (tc Th PN (xl G.len<|xv 0)<|xe (ExcR.UX G.ZA) Ua) (b1<|sQ G.Zv G.Zj ExcR.UK<|a1<|xe (ExcR.Kt<|ExcR.Xk<|ExcR.Kz (ExcR.UX G.ZA)<|ExcR.Xk ExcR.Kk)<|K6<|Xn<|Kc Ua<|Xn Kn) b0)<|b1<|sF 2<|sF 1<|sR<|xo Xy XF (xv 0)<|xL<|a1<|xt<|a2 (xv 1)<|xv 2)) (.a ?_)
 ·rintro y R X ⟨h,a,b,rfl,u,f⟩;refine⟨rfl,?_⟩;have v:(h.map prD).length=h.length:=YU ..;unfold X1 at f;refine⟨a,rfl,?_⟩;unfold Pf;by_cases p:1<=a/\a<=10
  ·rw[YV (λz=>z p)]at f;rw[Wc p];refine⟨b,rfl,?_⟩;unfold Pf;by_cases o:1<=b/\b<=10
   ·rw[YV (λz=>z o)]at f;rw[Wc o];refine Ud (λg=>?_) (λg=>?_)
    ·rw[Wc (YY g)]at f;exact⟨by simp,f⟩
    ·rw[YV (λz=>g (YZ z))]at f;refine⟨by simp,_,.lp (a,b) h,Ud (λs=>?_) (λs=>?_)⟩
     ·rw[Wc (YY s)]at f;exact⟨by simp,f⟩
     ·rw[YV (λz=>s (YZ z))]at f;refine Ud (λr=>?_) (λr=>?_)
      ·have q:(20:Int)<=((h.map prD).length:Int):=YY r;rw[Wc (by lia)]at f;exact⟨by decide,by decide,by decide,by decide,by decide,by simp,f⟩
      ·have q:¬(20:Int)<=((h.map prD).length:Int):=λz=>r (YZ z);rw[YV (by lia)]at f;refine⟨by simp,by simp,XC _,rfl,Wi (WM (Wi (Qc v) u)<|Wf 1) (by decide),?_⟩;rw[Ww]at f;exact f
   ·rw[Wc o]at f;rw[YV o];exact f
  ·rw[Wc p]at f;rw[YV p];exact f
def E6(v:Uo K (Up K (Uh ζ) "drop") "drop" "Village.drop" Bj ["self","ahead","behind"])
  : FV ζ:=by
 refine v.fy Mf (λg n=>(bc (se (Us<|U8 Ym G.Za (hq<|g ()) ExcR.Uj<|pv 0)<|U5<|U7 KH (JS 0) U0)<|bc (sS 3 n<|xg Yw g ExcR.Uj<|a3 (xe (U8 Yn G.Za (hq<|g ()) Xb<|pv 0)<|Xw P0 (JS 0) U0) (xv 1)<|xv 2)<|b1<|sF 2<|sF 1<|sF 3<|se (KE<|UC Yx G.Za (hq<|g ()) Xb (pv 0)<|dz (Tn<|dz SE (pv 1)<|pv 2) (U8 Yl G.Za (hq<|g ()) Xb<|pv 0)<|pv 3)<|BX<|Ab 0 FM<|uz (Ni<|uz Bx (JS 1)<|JS 2) (Xw K7 (JS 0) U0)<|JS 3)) (.c ?_)
 ·rintro o y R X ⟨x,b1,u,s,bk,fs,l,f,w,p,h,rfl,rfl,r,z,hw,q,b⟩;refine⟨rfl,?_⟩;unfold TK at b;refine⟨rfl,rfl,bk,fs++[f],l++[w],rfl,?_⟩;unfold XT;by_cases c:100<=bk.length
  ·rw[Wc c]at b ⊢;exact⟨_,rfl,⟨rfl,by simp⟩,b⟩
  ·rw[YV c]at b ⊢;refine⟨rfl,rfl,bk,fs++[f],l,w,rfl,w,p,h,rfl,q,?_⟩;cases e:KJ w p h with
   |some c=>
    rw[e]at b;exact⟨_,rfl,⟨rfl,by simp⟩,b⟩
   |none=>
    rw[e]at b;refine⟨rfl,rfl,by simp,rfl,rfl,bk,fs,l++[w],f,rfl,?_⟩;exact⟨x,b1,u,s,bk,fs++[f],l++[w],("drop",[p,h]),f,PJ w p h,rfl,rfl,r,by rw[Wv];simp;lia,by rw[Wv];simp;lia,_,rfl,⟨rfl,by simp⟩,b⟩
def M9(l:Def K mg "all_stands" Nx ["strips"])
  : F4 ζ:=by
 refine l.fy MM (λg n=>(bc (sE<|xg Y7 g ExcR.Uj<|a1<|xv 0)<|bc (se US UR)<|bc (se US UR)<|b1<|se US UR)) (.a ?_)
 ·rintro o R X ⟨b,rfl,f,h⟩;refine⟨rfl,?_⟩;exact⟨b,rfl,f,h⟩
def LX(o:Uo K (Up K (Uh ζ) "drop") "drop" "Village.drop" Sf ["self","ahead","behind"])
  : Dm ζ:=by
 refine o.fy Lq (λb n=>(bc (se (Us<|U8 Ym G.Za (hq<|b ()) ExcR.Uj<|pv 0)<|U5<|U7 KH (JS 0) U0)<|bc (sS 3 n<|xg Yw b ExcR.Uj<|a3 (xe (U8 Yn G.Za (hq<|b ()) Xb<|pv 0)<|Xw P0 (JS 0) U0) (xv 1)<|xv 2)<|b1<|se US UR)) (.a ?_)
 ·rintro s R X ⟨bk,fs,g,f,w,p,h,c,rfl,r,q,hw,e,l⟩;refine⟨rfl,rfl,rfl,bk,fs++[f],g++[w],rfl,?_⟩;unfold XT;rw[YV (by lia)];refine⟨rfl,rfl,bk,fs++[f],g,w,rfl,w,p,h,rfl,hw,?_⟩;rw[e];exact l
def GV(p:Def K mg "order_cost" NJ ["strips","order"])
  : Em ζ:=by
 refine p.fy GN (λg n=>(bc (sE<|xg Y8 g ExcR.Uj<|a2 (xv 0)<|xv 1)<|bc (se US UR)<|bc (se US UR)<|b1<|se US UR)) (.a ?_)
 ·rintro q R X ⟨b,os,rfl,o,f,h,e,l⟩;refine⟨rfl,b,os,rfl,o,f,h,?_⟩;rw[e];exact l
def Rw(DD:Def K mg "find_ring" NZ ["holders","wishes"])
  : Fh ζ:=by
 refine DD.fz RS (λN n=>(bc (sS 2 n<|xL a0)<|bc (sF 2<|sO [3,4] Qh (iL<|xe (Ul (SB (K:=K) (w:=w) rfl) (by rfl) G.Z3 boot_sorted<|az<|pv 0)<|NY<|sz<|JS 0) (gN 3)<|bc (sS 4 n<|xf YA N<|a3 (xv 3) (xv 0)<|xv 1)<|b1<|sI (tp<|wa (tt<|xv 4)<|wA<|tp<|wo (tN<|tt<|xv 2)<|wO<|tc Kx Kh (xl G.len<|xv 4)<|xl G.len<|xv 2) (b1<|sF 4<|sS 2 n<|xv 4) b0)<|b1<|sF 2<|sV 2)) (.a ?_)
 ·rintro ds R X ⟨y,B,rfl,u,M,U⟩;refine⟨rfl,by simp,y,rfl,by lia,λq H s=>?_⟩;have C:q.Pairwise (· < ·):=TN s (H.nodup_iff.mpr u);refine⟨rfl,T7 (xs:=q) (emb:=D.int) (λi p=>∃r,p=[some (.bor<|.lst<|y.map D.int),some (.bor<|.lst<|B.map prD),some (.sh<|.lst<|r.map D.int),none,none]/\r.length<=60/\FRi y B (q.take i) r) ⟨[],rfl,by simp,.inl ⟨rfl,λl J=>by rw[QM]at J;cases J⟩⟩ ?_ ?_⟩
  ·rintro i L p ⟨r,rfl,h,F⟩
   have b:∀m∈q.take i,m<q[i]:=λm Q=>by
    obtain⟨j,T,e⟩:=Qn.mp Q;rw[WS]at T;rw[QU]at e;rw[←e];exact WJ.mp C j i (by lia) L (by lia)
   rw[WI L];generalize q[i]=l at b ⊢;refine⟨l,y,B,rfl,u,M,λf A v=>?_⟩;have Y:(!(f.map D.int).isEmpty)=decide (f≠[]):=by cases f<;>simp
   have er:(!(r.map D.int).isEmpty)=decide (r≠[]):=by cases r<;>simp
   show if (!(f.map D.int).isEmpty)=true then _ else _;rw[Y];refine Ud (λg=>?_) (λg=>Pm ⟨r,rfl,h,F.keep b A (.inl (W9 λz=>g (YZ z)))⟩);have x:f≠[]:=YY g;show if (!(!(r.map D.int).isEmpty))=true then _ else _;rw[er];by_cases o:r=[]
   ·rw[W4 (λz=>z o)];exact XI (XI ⟨f,rfl,v,F.take b A ⟨x,.inl o⟩⟩)
   ·rw[YZ o];refine Pm ?_;show if decide (((f.map D.int).length:Int)<((r.map D.int).length:Int))=true then _ else _;rw[YU,YU];refine Ud (λE=>?_) (λE=>?_)
    ·have:=YY E
     exact⟨f,rfl,v,F.take b A ⟨x,.inr (by lia)⟩⟩
    ·have:¬(f.length:Int)<(r.length:Int):=λz=>E (YZ z)
     exact⟨r,rfl,h,F.keep b A (.inr ⟨o,by lia⟩)⟩
  ·rintro p ⟨r,rfl,h,F⟩;rw[Va]at F;exact U r (F.all λz=>H.mem_iff) h
def Il(q:Uo K (Mk K<|Uh ζ) "__init__" "Village.__init__" Sa ["self","strips"])
  : BV ζ:=by
 refine q.fy Ls (λh n=>(bc (sE<|xg Ys h ExcR.Uj<|a1<|xv 1)<|bc (se (ND (pv 0) (X4 UY) rfl)<|Sn 0 G.Za G.Zc Hr<|XN U0)<|bc (se (ND (pv 0) (X4<|az<|Pr (Ts (K:=K)) (by rfl) G.ZF boot_list<|az<|pv 1) rfl)<|Sn 0 G.Za G.Ze Oc<|XN<|sz<|Tz<|sz<|JS 1)<|b1<|se (ND (pv 0) (X4<|az<|X4 UY) rfl)<|Sn 0 G.Za G.Zf G1<|XN<|sz<|XN U0)) (.c ?_)
 ·rintro o r R X ⟨x,f,rfl,rfl,g,b⟩;refine⟨rfl,f,rfl,g,?_⟩;cases e:XY f with
  |some c=>
   rw[e]at b;exact⟨_,rfl,⟨rfl,by simp⟩,b⟩
  |none=>
   rw[e]at b;refine⟨by simp,rfl,rfl,by decide,λb1=>?_⟩;refine⟨rfl,by simp,rfl,rfl,by decide,λp=>?_⟩;refine⟨by simp,by simp,rfl,rfl,by decide,λl=>?_⟩;exact⟨_,rfl,⟨rfl,by simp⟩,b b1 p l⟩
def Hx(q:Uo K (Up K (Uh ζ) "sell") "sell" "Village.sell" N3 ["self","place","holder"])
  : Fl ζ:=by
 refine q.fy L9 (λb n=>(bc (se (Us<|U8 Ym G.Za (hq<|b ()) ExcR.Uj<|pv 0)<|U5<|U7 KH (JS 0) U0)<|bc (sS 3 n<|xg YB b ExcR.Uj<|a3 (xe (U8 Yl G.Za (hq<|b ()) Xb<|pv 0)<|Xw K7 (JS 0) U0) (xv 1)<|xv 2)<|b1<|se US UR)) (.a ?_)
 ·rintro s R X ⟨bk,fs,g,f,w,p,h,c,rfl,r,l,hw,e,o⟩;refine⟨rfl,rfl,rfl,bk,fs++[f],g++[w],rfl,?_⟩;unfold XT;rw[YV (by lia)];refine⟨rfl,rfl,bk,fs,g++[w],f,rfl,f,p,h,rfl,l,?_⟩;rw[e];exact o
def Gv(q:Uo K (Up K (Uh ζ) "part") "part" "Village.part" Si ["self","place","width"])
  : DE ζ:=by
 refine q.fy OI (λb n=>(bc (se (Us<|U8 Ym G.Za (hq<|b ()) ExcR.Uj<|pv 0)<|U5<|U7 KH (JS 0) U0)<|bc (sS 3 n<|xg YC b ExcR.Uj<|a3 (xe (U8 Yl G.Za (hq<|b ()) Xb<|pv 0)<|Xw K7 (JS 0) U0) (xv 1)<|xv 2)<|b1<|se US UR)) (.a ?_)
 ·rintro s R X ⟨bk,fs,g,f,w,p,h,c,rfl,r,l,hw,e,o⟩;refine⟨rfl,rfl,rfl,bk,fs++[f],g++[w],rfl,?_⟩;unfold XT;rw[YV (by lia)];refine⟨rfl,rfl,bk,fs,g++[w],f,rfl,f,p,h,rfl,l,?_⟩;rw[e];exact o
def Zax(o:Uo K (Up K (Uh ζ) "unite") "unite" "Village.unite" N9 ["self","place"])
  : D1 ζ:=by
 refine o.fy Og (λb n=>(bc (se (Us<|U8 Ym G.Za (hq<|b ()) ExcR.Uj<|pv 0)<|U5<|U7 KH (JS 0) U0)<|bc (sS 2 n<|xg YD b ExcR.Uj<|a2 (xe (U8 Yl G.Za (hq<|b ()) Xb<|pv 0)<|Xw K7 (JS 0) U0)<|xv 1)<|b1<|se US UR)) (.a ?_)
 ·rintro r R X ⟨bk,fs,g,f,w,p,c,rfl,q,h,hw,e,l⟩;refine⟨rfl,rfl,rfl,bk,fs++[f],g++[w],rfl,?_⟩;unfold XT;rw[YV (by lia)];refine⟨rfl,rfl,bk,fs,g++[w],f,rfl,f,p,rfl,h,?_⟩;rw[e];exact l
def EY(v:Uo K (Up K (Uh ζ) "wish") "wish" "Village.wish" NA ["self","ahead","behind"])
  : FE ζ:=by
 refine v.fy LW (λg n=>(bc (se (Us<|U8 Ym G.Za (hq<|g ()) ExcR.Uj<|pv 0)<|U5<|U7 KH (JS 0) U0)<|bc (sS 3 n<|xg Yy g ExcR.Uj<|a3 (xe (U8 Yn G.Za (hq<|g ()) Xb<|pv 0)<|Xw P0 (JS 0) U0) (xv 1)<|xv 2)<|b1<|sF 2<|sF 1<|sF 3<|se (KE<|UC Yx G.Za (hq<|g ()) Xb (pv 0)<|dz (Tn<|dz SE (pv 1)<|pv 2) (U8 Yl G.Za (hq<|g ()) Xb<|pv 0)<|pv 3)<|BX<|Ab 0 FM<|uz (Ni<|uz Bx (JS 1)<|JS 2) (Xw K7 (JS 0) U0)<|JS 3)) (.c ?_)
 ·rintro o y R X ⟨x,b1,u,s,bk,fs,l,f,w,p,h,rfl,rfl,r,z,hw,q,b⟩;refine⟨rfl,?_⟩;unfold UZ at b;refine⟨rfl,rfl,bk,fs++[f],l++[w],rfl,?_⟩;unfold XT;by_cases c:100<=bk.length
  ·rw[Wc c]at b ⊢;exact⟨_,rfl,⟨rfl,by simp⟩,b⟩
  ·rw[YV c]at b ⊢;refine⟨rfl,rfl,bk,fs++[f],l,w,rfl,w,p,h,rfl,q,?_⟩;cases e:X1 w p h with
   |some c=>
    rw[e]at b;exact⟨_,rfl,⟨rfl,by simp⟩,b⟩
   |none=>
    rw[e]at b;refine⟨rfl,rfl,by simp,rfl,rfl,bk,fs,l++[w],f,rfl,?_⟩;exact⟨x,b1,u,s,bk,fs++[f],l++[w],("wish",[p,h]),f,w++[(p,h)],rfl,rfl,r,by rw[Wv];simp;lia,by rw[Wv];simp;lia,_,rfl,⟨rfl,by simp⟩,b⟩
def Zan(o:Uo K (Up K (Uh ζ) "wish") "wish" "Village.wish" Sx ["self","ahead","behind"])
  : En ζ:=by
 refine o.fy EW (λb n=>(bc (se (Us<|U8 Ym G.Za (hq<|b ()) ExcR.Uj<|pv 0)<|U5<|U7 KH (JS 0) U0)<|bc (sS 3 n<|xg Yy b ExcR.Uj<|a3 (xe (U8 Yn G.Za (hq<|b ()) Xb<|pv 0)<|Xw P0 (JS 0) U0) (xv 1)<|xv 2)<|b1<|se US UR)) (.a ?_)
 ·rintro q R X ⟨bk,fs,g,f,w,p,h,c,rfl,hw,e,l⟩;refine⟨rfl,rfl,rfl,bk,fs++[f],g++[w],rfl,?_⟩;unfold XT;unfold UZ at e;by_cases z:100<=bk.length
  ·rw[Wc z]at e ⊢;rw[Wg e];exact l
  ·rw[YV z]at e ⊢;refine⟨rfl,rfl,bk,fs++[f],g,w,rfl,w,p,h,rfl,hw,?_⟩;rw[e];exact l
def Zav(x:Def K mg "check_no_ring" Sz ["strips","wishes"])
  : DF ζ:=by
 refine x.fy HK (λb n=>(bc (sS 2 n<|xf YI b<|a2 (xf Yu b<|a1<|xv 0)<|xv 1)<|b1<|sI (tt<|xv 2) (b1<|sF 2<|se (ExcR.Lm Y1 (hq<|b ()) G.Z9 ExcR.Ii rfl rfl<|az<|pv 2)<|Mq<|sz<|JS 2) b0)) (.a ?_)
 ·rintro z R X ⟨f,l,rfl,v,o,p,q,s⟩;refine⟨rfl,f,rfl,v,o,_,l,rfl,(Tp f).imp (λh=>Int.ne_of_lt h),Wi (R8 f) (by decide),λr b y=>?_⟩;by_cases e:r=[]
  ·have u:=(b.none_iff p).mp e;subst e;exact Pm (A:=False) (s u)
  ·have hx:=q r b e;refine Ud (λ_=>⟨r,rfl,hx⟩) (λg=>absurd g ?_);cases r with
   |nil=>exact absurd rfl e
   |cons a t=>simp
def GI(q:Uo K (Up K (Uh ζ) "price") "price" "Village.price" SM ["self","order"])
  : Ap ζ:=by
 refine q.fy RO (λb n=>(b1<|sR<|xg YH b ExcR.Uj<|a2 (xe (U8 Yl G.Za (hq<|b ()) Xb<|pv 0)<|Xw K7 (JS 0) U0)<|xv 1)) (.a ?_)
 ·rintro r R X ⟨bk,fs,g,f,os,rfl,p,h,l,e,o⟩;refine⟨rfl,?_⟩;exact⟨rfl,rfl,bk,fs,g,f,rfl,f,os,rfl,p,h,l,e,o⟩
def ME(s:Def K mg "cost_table" NU ["strips","wishes"])
  : Eh ζ:=by
 refine s.fy Rh (λl n=>(bc (sE<|xg YK l ExcR.Uj<|a2 (xv 0)<|xv 1)<|bc (se US UR)<|b1<|se US UR)) (.a ?_)
 ·rintro u R X ⟨f,b,rfl,q,g,hw,h,p,o⟩;refine⟨rfl,?_⟩;exact⟨f,b,rfl,q,g,h,λr _ _=>o r,λz=>absurd p z⟩
def Hi(N:Def K mg "_law_first_ten" Bw ["_law_which","_law_village","_law_strips","_law_more"])
  : DW ζ:=by
 refine N.fy Os (λf n=>(bc (sS 4 n<|xx (xx (xv 2) xi) xi)<|bj (sI (tq f (xv 0) xi) (b1<|sE<|xg Ys f ExcR.Uj<|a1<|xe (UI D6 (pv 2) Uk)<|Fy (JS 2) Ua) b0)<|bj (sI (tq f (xv 0) xi) (b1<|se (Us<|UC Y0 G.Za (hq<|f ()) ExcR.Uj (pv 1)<|bz Uk<|UI UO Uk<|pv 3)<|U5<|U7 Ai (JS 1)<|tz Ua<|UP Ua<|JS 3) b0)<|bj (sI (tq f (xv 0) xi) (b1<|sF 4<|sE<|xg Ys f ExcR.Uj<|a1<|xo Xy XF (xv 2)<|xL<|a1<|xt<|a2 (xv 4)<|xx (xL<|a2 xi<|xo UO UP xi<|xv 3)<|xo XM XD (xv 3) xi) b0)<|bj (sI (tq f (xv 0) xi) (b1<|se (Us<|UC Yt G.Za (hq<|f ()) ExcR.Uj (pv 1)<|az<|UI UO Uk<|pv 3)<|U5<|U7 Bl (JS 1)<|sz<|UP Ua<|JS 3) b0)<|bj (sI (tq f (xv 0) xi) (b1<|sF 4<|se (Us<|UC YL G.Za (hq<|f ()) ExcR.Uj (pv 1)<|az<|X4<|az<|pv 4)<|U5<|U7 O0 (JS 1)<|sz<|XN<|sz<|JS 4) b0)<|bj (sI (tq f (xv 0) xi) (b1<|sE<|xg YF f ExcR.Uj<|a1<|xe (UI D6 (pv 2) Uk)<|Fy (JS 2) Ua) b0)<|bj (sI (tq f (xv 0) xi) (b1<|se (Us<|UC Y0 G.Za (hq<|f ()) ExcR.Uj (pv 1)<|bz Uk<|pv 4)<|U5<|U7 Ai (JS 1)<|tz Ua<|JS 4) b0)<|bj (sI (tq f (xv 0) xi) (b1<|se (Us<|UC YJ G.Za (hq<|f ()) ExcR.Uj (pv 1)<|bz Uk Uk)<|U5<|U7 EH (JS 1)<|tz Ua Ua) b0)<|bj (sI (tq f (xv 0) xi) (b1<|se (Us<|UC Yt G.Za (hq<|f ()) ExcR.Uj (pv 1)<|az Uk)<|U5<|U7 Bl (JS 1)<|sz Ua) b0)<|b1<|sI (tq f (xv 0) xi) (b1<|se (Us<|UC Yt G.Za (hq<|f ()) ExcR.Uj (pv 1)<|az Uk)<|U5<|U7 Bl (JS 1)<|sz Ua) b0)) (.a ?_)
 ·rintro ds R X ⟨k,one,two,w,m,rfl,y,Y,q,M⟩;refine⟨rfl,?_⟩;obtain⟨o1,x,H,E,J,C,B,U,T⟩:=id y;refine⟨_,rfl,_,rfl,?_⟩;refine UE (λb=>k≠0/\b=[some (.sh<|.int k),some (.bor<|X2 (ExcR.JU mg "Village") one two w),some (.bor<|plD<|JV one two w),some (.sh<|.int m),some (.sh<|.int one)]) (Ud (λg=>?_) λg=>⟨λz=>g (YZ z),rfl⟩) ?_
  ·obtain rfl:k=0:=YY g;have hx:=q (by lia);refine⟨rfl,by decide,(by show(3:Nat)*14<=10000000;decide),(List.replicate 14<|JV one two w).flatten,rfl,(by show(42:Nat)<=1000;decide),?_⟩;have e:XY (List.replicate 14<|JV one two w).flatten=some "TooManyStrips":=Wc (show 40<42 by decide);rw[e];exact hx
  rintro b ⟨h,rfl⟩;refine UE (λb=>(k≠0/\k≠1)/\b=[some (.sh<|.int k),some (.bor<|X2 (ExcR.JU mg "Village") one two w),some (.bor<|plD<|JV one two w),some (.sh<|.int m),some (.sh<|.int one)]) (Ud (λg=>?_) λg=>⟨⟨h,λz=>g (YZ z)⟩,rfl⟩) ?_
  ·obtain rfl:k=1:=YY g;have hx:=q (by lia);refine⟨rfl,rfl,_,[JV one two w],[[]],JV one two w,[(one,two)],1,10+m, "BadHolder",rfl,(by show(1:Nat)<100;decide),(by show(3:Nat)<=1000;decide),(by show(1:Nat)<=1000;decide),?_,hx⟩;unfold PD;rw[YV (by show ¬((1:Int)<1\/(3:Int)<1);decide),Wc (by lia)]
  rintro b ⟨⟨h,l⟩,rfl⟩;refine UE (λb=>(k≠0/\k≠1/\k≠2)/\b=[some (.sh<|.int k),some (.bor<|X2 (ExcR.JU mg "Village") one two w),some (.bor<|plD<|JV one two w),some (.sh<|.int m),some (.sh<|.int one)]) (Ud (λg=>?_) λg=>⟨⟨h,l,λz=>g (YZ z)⟩,rfl⟩) ?_
  ·obtain rfl:k=2:=YY g;have hx:=q (by lia)
   obtain⟨v,L,hw⟩:∃v:Int,atI [D.int 0,.int (1000+m)] (m % 2)=some (.int v)/\¬(1<=v/\v<=1000):=by
    rcases(by lia:m % 2=0\/m % 2=1)with e|e<;>rw[e]
    ·exact⟨0,rfl,by lia⟩
    ·exact⟨1000+m,rfl,by lia⟩
   refine⟨by simp,(by show(0:Int)<2;decide),_,L,by simp,?_⟩;refine⟨by simp,rfl,rfl,(by show(4:Nat)<=100000;decide),JV one two w++[(one,v)],rfl,(by show(4:Nat)<=1000;decide),?_⟩
   have e:XY (JV one two w++[(one,v)])=some ("BadWidth" : Str):=by
    unfold XY;rw[YV (by show ¬40<4;decide)];show Kb [(one,w),(one,1001-w),(two,1),(one,v)]=_;rw[Tc,YV (λz=>z ⟨o1,x⟩),YV (λz=>z ⟨C,B⟩),Tc,YV (λz=>z ⟨o1,x⟩),YV (λz=>z (by constructor<;>(show(_:Int)<=_)<;>lia)),Tc,YV (λz=>z ⟨H,E⟩),YV (λz=>z ⟨by show(1:Int)<=1;decide,by show(1:Int)<=1000;decide⟩),Tc,YV (λz=>z ⟨o1,x⟩),Wc hw]
   rw[e];exact hx
  rintro b ⟨⟨h,l,o⟩,rfl⟩;refine UE (λb=>(k≠0/\k≠1/\k≠2/\k≠3)/\b=[some (.sh<|.int k),some (.bor<|X2 (ExcR.JU mg "Village") one two w),some (.bor<|plD<|JV one two w),some (.sh<|.int m),some (.sh<|.int one)]) (Ud (λg=>?_) λg=>⟨⟨h,l,o,λz=>g (YZ z)⟩,rfl⟩) ?_
  ·obtain rfl:k=3:=YY g;have hx:=q (by lia);refine⟨rfl,rfl,_,[JV one two w],[[]],JV one two w,[(one,two)],2+m, "NoStrip",rfl,(by show(1:Nat)<100;decide),(by show(3:Nat)<=1000;decide),(by show(1:Nat)<=1000;decide),?_,hx⟩;unfold Pg;rw[Wc (by show 2+m<1\/(3:Int)<=2+m;lia)]
  rintro b ⟨⟨h,l,o,p⟩,rfl⟩;refine UE (λb=>(k≠0/\k≠1/\k≠2/\k≠3/\k≠4)/\b=[some (.sh<|.int k),some (.bor<|X2 (ExcR.JU mg "Village") one two w),some (.bor<|plD<|JV one two w),some (.sh<|.int m),some (.sh<|.int one)]) (Ud (λg=>?_) λg=>⟨⟨h,l,o,p,λz=>g (YZ z)⟩,rfl⟩) ?_
  ·obtain rfl:k=4:=YY g;have hx:=q (by lia);refine⟨rfl,rfl,by simp,_,[JV one two w],_,JV one two w,[one],rfl,Pp y,(by show(3:Nat)<=50;decide),(by show(1:Nat)<64;decide),Zah y,hx⟩
  rintro b ⟨⟨h,l,o,p,r⟩,rfl⟩;refine UE (λb=>(k≠0/\k≠1/\k≠2/\k≠3/\k≠4/\k≠5)/\b=[some (.sh<|.int k),some (.bor<|X2 (ExcR.JU mg "Village") one two w),some (.bor<|plD<|JV one two w),some (.sh<|.int m),some (.sh<|.int one)]) (Ud (λg=>?_) λg=>⟨⟨h,l,o,p,r,λz=>g (YZ z)⟩,rfl⟩) ?_
  ·obtain rfl:k=5:=YY g;have hx:=q (by lia);exact⟨rfl,by decide,(by show(3:Nat)*3<=10000000;decide),(List.replicate 3<|JV one two w).flatten,rfl,(by show 7<(9:Nat);decide),hx⟩
  rintro b ⟨⟨h,l,o,p,r,s⟩,rfl⟩;refine UE (λb=>(k≠0/\k≠1/\k≠2/\k≠3/\k≠4/\k≠5/\k≠6)/\b=[some (.sh<|.int k),some (.bor<|X2 (ExcR.JU mg "Village") one two w),some (.bor<|plD<|JV one two w),some (.sh<|.int m),some (.sh<|.int one)]) (Ud (λg=>?_) λg=>⟨⟨h,l,o,p,r,s,λz=>g (YZ z)⟩,rfl⟩) ?_
  ·obtain rfl:k=6:=YY g;have hx:=q (by lia);refine⟨rfl,rfl,_,[JV one two w],[[]],JV one two w,[(one,two)],1,one, "OwnStrip",rfl,(by show(1:Nat)<100;decide),(by show(3:Nat)<=1000;decide),(by show(1:Nat)<=1000;decide),?_,hx⟩;unfold PD;rw[YV (by show ¬((1:Int)<1\/(3:Int)<1);decide),YV (by lia),Wc (by show one=one;rfl)]
  rintro b ⟨⟨h,l,o,p,r,s,u⟩,rfl⟩;refine UE (λb=>(k≠0/\k≠1/\k≠2/\k≠3/\k≠4/\k≠5/\k≠6/\k≠7)/\b=[some (.sh<|.int k),some (.bor<|X2 (ExcR.JU mg "Village") one two w),some (.bor<|plD<|JV one two w),some (.sh<|.int m),some (.sh<|.int one)]) (Ud (λg=>?_) λg=>⟨⟨h,l,o,p,r,s,u,λz=>g (YZ z)⟩,rfl⟩) ?_
  ·obtain rfl:k=7:=YY g;have hx:=q (by lia);refine⟨rfl,rfl,_,[JV one two w],[[]],JV one two w,[(one,two)],3,1, "BadPart",rfl,(by show(1:Nat)<100;decide),(by show(3:Nat)<=1000;decide),(by show(1:Nat)<=1000;decide),?_,hx⟩;unfold To;rw[YV (by show ¬((3:Int)<1\/(3:Int)<3);decide),Wc (by show(1:Int)<1\/(1:Int)<=1;decide)]
  rintro b ⟨⟨h,l,o,p,r,s,u,A⟩,rfl⟩;refine UE (λb=>(k≠0/\k≠1/\k≠2/\k≠3/\k≠4/\k≠5/\k≠6/\k≠7/\k≠8)/\b=[some (.sh<|.int k),some (.bor<|X2 (ExcR.JU mg "Village") one two w),some (.bor<|plD<|JV one two w),some (.sh<|.int m),some (.sh<|.int one)]) (Ud (λg=>?_) λg=>⟨⟨h,l,o,p,r,s,u,A,λz=>g (YZ z)⟩,rfl⟩) ?_
  ·obtain rfl:k=8:=YY g;have hx:=q (by lia);refine⟨rfl,rfl,_,[JV one two w],[[]],JV one two w,[(one,two)],2, "UnlikeHolders",rfl,(by show(1:Nat)<100;decide),(by show(3:Nat)<=1000;decide),(by show(1:Nat)<=1000;decide),?_,hx⟩;unfold Pg;rw[YV (by show ¬((2:Int)<1\/(3:Int)<=2);decide),Wc (by show ¬one=two;exact J)]
  rintro b ⟨⟨h,l,o,p,r,s,u,A,Q⟩,rfl⟩;refine Ud (λg=>?_) λg=>M (by have:k≠9:=λz=>g (YZ z);lia);obtain rfl:k=9:=YY g;have hx:=q (by lia);refine⟨rfl,rfl,_,[JV one two w],[[]],JV one two w,[(one,two)],1, "TooWide",rfl,(by show(1:Nat)<100;decide),(by show(3:Nat)<=1000;decide),(by show(1:Nat)<=1000;decide),?_,hx⟩;unfold Pg;rw[YV (by show ¬((1:Int)<1\/(3:Int)<=1);decide),YV (by show ¬ ¬one=one;exact λz=>z rfl),Wc (by show(1000:Int)<w+(1001-w);lia)]
def Zar(r:Def K mg "least_cost" NT ["strips","wishes"])
  : FI ζ:=by
 refine r.fy E1 (λl n=>(b1<|sR<|xx (xg YM l ExcR.Uj<|a2 (xv 0)<|xv 1)<|xe (Pt Po Uk)<|KZ Ua)) (.a ?_)
 ·rintro s R X ⟨f,b,rfl,q,g,hw,h,p,o⟩;refine⟨rfl,?_⟩;exact⟨f,b,rfl,q,g,hw,h,p,o⟩
def Iw(r:Uo K (Up K (Uh ζ) "cost") "cost" "Village.cost" Se ["self"])
  : DJ ζ:=by
 refine r.fy LR (λb n=>(b1<|sR<|xg YO b ExcR.Uj<|a2 (xe (U8 Yl G.Za (hq<|b ()) Xb<|pv 0)<|Xw K7 (JS 0) U0)<|xe (U8 Yn G.Za (hq<|b ()) Xb<|pv 0)<|Xw P0 (JS 0) U0)) (.a ?_)
 ·rintro s R X ⟨bk,fs,g,f,w,rfl,q,h,hw,l,p,o⟩;refine⟨rfl,?_⟩;exact⟨rfl,rfl,bk,fs,g++[w],f,rfl,rfl,rfl,bk,fs++[f],g,w,rfl,f,w,rfl,q,h,hw,l,p,o⟩
def Mx(DD:Def K mg "_law_others" NQ ["_law_which","_law_villages","_law_strips","_law_more"])
  : AL ζ:=by
 refine DD.fy EE (λv n=>(bc (sS 4 n<|xx (xx (xv 2) xi) xi)<|bc (sS 5 n<|xx (xx (xv 2) xi) xi)<|bj (sI (tq v (xv 0) xi) (b1<|se (Us<|UC Yr G.Za (hq<|v ()) ExcR.Uj (jx K (pv 1) Uk)<|bz (pv 4)<|pv 4)<|U5<|U7 XO (Xu (JS 1) Ua)<|tz (JS 4)<|JS 4) b0)<|bj (sI (tq v (xv 0) xi) (b1<|se (Us<|UC Yr G.Za (hq<|v ()) ExcR.Uj (jx K (pv 1) Uk)<|bz (pv 4)<|pv 5)<|U5<|U7 XO (Xu (JS 1) Ua)<|tz (JS 4)<|JS 5) b0)<|bj (sI (tq v (xv 0) xi) (b1<|se (Us<|UC Yr G.Za (hq<|v ()) ExcR.Uj (jx K (pv 1) Uk)<|bz (pv 4)<|UI UO Uk<|UI XM (UI UO (pv 4) Uk) Uk)<|U5<|U7 XO (Xu (JS 1) Ua)<|tz (JS 4)<|UP Ua<|XD (UP (JS 4) Ua) Ua) b0)<|bj (sI (tq v (xv 0) xi) (b1<|se (Us<|UC YG G.Za (hq<|v ()) ExcR.Uj (jx K (pv 1) Uk)<|bz (pv 5)<|pv 4)<|U5<|U7 Fp (Xu (JS 1) Ua)<|tz (JS 5)<|JS 4) b0)<|bj (sI (tq v (xv 0) xi) (b1<|se (Us<|UC Yr G.Za (hq<|v ()) ExcR.Uj (jx K (pv 1) Uk)<|bz (pv 4)<|pv 5)<|U5<|U7 XO (Xu (JS 1) Ua)<|tz (JS 4)<|JS 5) b0)<|bj (sI (tq v (xv 0) xi) (b1<|se (Us<|U8 Y5 G.Za (hq<|v ()) ExcR.Uj<|jx K (pv 1) Uk)<|U5<|U7 OS (Xu (JS 1) Ua) U0) b0)<|bj (sI (tq v (xv 0) xi) (b1<|se (Us<|UC Y6 G.Za (hq<|v ()) ExcR.Uj (jx K (pv 1) Uk)<|az<|UI UO Uk<|pv 3)<|U5<|U7 Ol (Xu (JS 1) Ua)<|sz<|UP Ua<|JS 3) b0)<|b1<|sI (tq v (xv 0) xi) (b1<|se (Us<|U8 YQ G.Za (hq<|v ()) ExcR.Uj<|jx K (pv 1) Uk)<|U5<|U7 E9 (Xu (JS 1) Ua) U0) b0)) (.a ?_)
 ·rintro ds R X ⟨k,one,two,w,m,u,A,s,r,o,l,rfl,N,hb2,Y,J,E,H,Q⟩;refine⟨rfl,?_⟩;obtain⟨o1,T,t1,t2,L,w1,w2,m1,m2⟩:=id N;refine⟨_,rfl,_,rfl,_,rfl,_,rfl,?_⟩;refine UE (λb=>(k≠10)/\b=[some (.sh<|.int k),some (.bor<|.lst<|XJ (ExcR.JU mg "Village") one two w u A s r o l),some (.bor<|plD<|JV one two w),some (.sh<|.int m),some (.sh<|.int one),some (.sh<|.int two)]) (Ud (λg=>?_) λg=>⟨λz=>g (YZ z),rfl⟩) ?_
  ·obtain rfl:k=10:=YY g;have hx:=H (by lia);refine⟨_,rfl,rfl,rfl,_,[JV one two w],[[]],JV one two w,[(one,two)],one,one, "LikeHolders",rfl,(by show(1:Nat)<=1000;decide),?_,hx⟩;unfold UZ X1;rw[YV (by show ¬100<=1;decide),YV (by lia),YV (by lia),Wc rfl]
  rintro b ⟨f,rfl⟩;refine UE (λb=>(k≠10/\k≠11)/\b=[some (.sh<|.int k),some (.bor<|.lst<|XJ (ExcR.JU mg "Village") one two w u A s r o l),some (.bor<|plD<|JV one two w),some (.sh<|.int m),some (.sh<|.int one),some (.sh<|.int two)]) (Ud (λg=>?_) λg=>⟨⟨f,λz=>g (YZ z)⟩,rfl⟩) ?_
  ·obtain rfl:k=11:=YY g;have hx:=H (by lia);refine⟨_,rfl,rfl,rfl,_,[JV one two w],[[]],JV one two w,[(one,two)],one,two, "WishStands",rfl,(by show(1:Nat)<=1000;decide),?_,hx⟩;unfold UZ X1;rw[YV (by show ¬100<=1;decide),YV (by lia),YV (by lia),YV L,Wc (YW.mpr rfl)]
  rintro b ⟨⟨f,h⟩,rfl⟩;refine UE (λb=>(k≠10/\k≠11/\k≠12)/\b=[some (.sh<|.int k),some (.bor<|.lst<|XJ (ExcR.JU mg "Village") one two w u A s r o l),some (.bor<|plD<|JV one two w),some (.sh<|.int m),some (.sh<|.int one),some (.sh<|.int two)]) (Ud (λg=>?_) λg=>⟨⟨f,h,λz=>g (YZ z)⟩,rfl⟩) ?_
  ·obtain rfl:k=12:=YY g;have hx:=H (by lia);refine⟨_,rfl,rfl,rfl,(by show(0:Int)<10;decide),u,s,o,JV one two w,wish20,one,1+(one+2) % 10, "TooManyWishes",rfl,(by show(20:Nat)<=1000;decide),?_,hx⟩;unfold UZ X1;rw[YV (by lia),YV (by lia),YV (by lia),YV (by lia),YV (OH o1 T),Wc (by show(20:Nat)<=20;decide)]
  rintro b ⟨⟨f,h,p⟩,rfl⟩;refine UE (λb=>(k≠10/\k≠11/\k≠12/\k≠13)/\b=[some (.sh<|.int k),some (.bor<|.lst<|XJ (ExcR.JU mg "Village") one two w u A s r o l),some (.bor<|plD<|JV one two w),some (.sh<|.int m),some (.sh<|.int one),some (.sh<|.int two)]) (Ud (λg=>?_) λg=>⟨⟨f,h,p,λz=>g (YZ z)⟩,rfl⟩) ?_
  ·obtain rfl:k=13:=YY g;have hx:=H (by lia);refine⟨_,rfl,rfl,rfl,_,[JV one two w],[[]],JV one two w,[(one,two)],two,one, "NoWish",rfl,(by show(1:Nat)<100;decide),(by show(3:Nat)<=1000;decide),(by show(1:Nat)<=1000;decide),?_,hx⟩;unfold KJ;rw[YV λz=>L (W2 Prod.fst<|YW.mp z).symm]
  rintro b ⟨⟨f,h,p,B⟩,rfl⟩;refine UE (λb=>(k≠10/\k≠11/\k≠12/\k≠13/\k≠14)/\b=[some (.sh<|.int k),some (.bor<|.lst<|XJ (ExcR.JU mg "Village") one two w u A s r o l),some (.bor<|plD<|JV one two w),some (.sh<|.int m),some (.sh<|.int one),some (.sh<|.int two)]) (Ud (λg=>?_) λg=>⟨⟨f,h,p,B,λz=>g (YZ z)⟩,rfl⟩) ?_
  ·obtain rfl:k=14:=YY g;have hx:=H (by lia);refine⟨_,rfl,rfl,rfl,_,r,l,JV one two w,[],one,two, "BookFull",rfl,(by show(0:Nat)<=1000;decide),?_,hx⟩;unfold UZ;rw[Wc (by lia)]
  rintro b ⟨⟨f,h,p,B,C⟩,rfl⟩;refine UE (λb=>(k≠10/\k≠11/\k≠12/\k≠13/\k≠14/\k≠15)/\b=[some (.sh<|.int k),some (.bor<|.lst<|XJ (ExcR.JU mg "Village") one two w u A s r o l),some (.bor<|plD<|JV one two w),some (.sh<|.int m),some (.sh<|.int one),some (.sh<|.int two)]) (Ud (λg=>?_) λg=>⟨⟨f,h,p,B,C,λz=>g (YZ z)⟩,rfl⟩) ?_
  ·obtain rfl:k=15:=YY g;have hx:=H (by lia);exact⟨_,rfl,rfl,rfl,[[]],[[]],rfl,hx⟩
  rintro b ⟨⟨f,h,p,B,C,M⟩,rfl⟩;refine UE (λb=>(k≠10/\k≠11/\k≠12/\k≠13/\k≠14/\k≠15/\k≠16)/\b=[some (.sh<|.int k),some (.bor<|.lst<|XJ (ExcR.JU mg "Village") one two w u A s r o l),some (.bor<|plD<|JV one two w),some (.sh<|.int m),some (.sh<|.int one),some (.sh<|.int two)]) (Ud (λg=>?_) λg=>⟨⟨f,h,p,B,C,M,λz=>g (YZ z)⟩,rfl⟩) ?_
  ·obtain rfl:k=16:=YY g;have hx:=H (by lia);exact⟨_,rfl,rfl,rfl,_,_,_,1+m,rfl,(by show(1:Int)<1+m;lia),hx⟩
  rintro b ⟨⟨f,h,p,B,C,M,U⟩,rfl⟩;refine Ud (λg=>?_) λg=>absurd (YZ (by lia:k=17)) g;obtain rfl:k=17:=by lia
  have hx:=Q rfl;refine⟨_,rfl,rfl,rfl,_,_,_,JV one two w,[(one,two),(two,one)],rfl,Pp N,(by show(3:Nat)<=50;decide),(by show(2:Nat)<=50;decide),?_,?_,hx⟩
  ·intro q hq;simp only[Wk,Qq,or_false]at hq;rcases hq with rfl|rfl
   ·exact L
   ·exact λz=>L z.symm
  ·refine⟨[one,two],Wf _,by simp[L],λx hx=>?_,λi x y J E=>?_,λx y J E=>?_⟩
   ·rcases Wk.mp hx with rfl|hx
    ·exact B5 (Pp N) (List.Perm.refl _) (_,w) (by simp[JV])
    ·rw[YW.mp hx];exact B5 (Pp N) (List.Perm.refl _) (two,1) (by simp[JV])
   ·match i,J,E with
    | 0,J,E=>cases J;cases E;simp
    |i+1,_,E=>cases E
   ·cases J
    cases E
    simp
def Rr(U:Def K mg "_law_classes" SO ["_law_which","_law_villages","_law_strips","_law_more"])
  : CN ζ:=by
 refine U.fz PP (λM n=>(bc (sS 4 n<|xL a0)<|bj (se (ExcR.LJ (λpins D=>(DS (Us<|ExcR.CK YN (hq<|M ()) (ExcR.A9 (pins:=pins) (D:=D) rfl rfl<|ExcR.Ef (i:=5) PP.nd rfl rfl rfl G.ZC (by decide) (λa=>(KU<|@Pu.pz _ _ _ _ _ _ 4 PP.nd (@X4 _ _ _ _<|@Uc _ _ _ _ _ (Ul (ExcR.Uq (K:=K)) (by rfl) G.Zb We<|bz (pv 5)<|ExcR.Ur G.Zd) (@Uc _ _ _ _ _ (Ul (ExcR.Uq (K:=K)) (by rfl) G.Zb We<|bz (pv 5)<|ExcR.Ur G.Zp) (@Uc _ _ _ _ _ (Ul (ExcR.Uq (K:=K)) (by rfl) G.Zb We<|bz (pv 5)<|ExcR.Ur G.Zq) (@Uc _ _ _ _ _ (Ul (ExcR.Uq (K:=K)) (by rfl) G.Zb We<|bz (pv 5)<|ExcR.Ur G.Zm) (@Uc _ _ _ _ _ (Ul (ExcR.Uq (K:=K)) (by rfl) G.Zb We<|bz (pv 5)<|ExcR.Ur G.Zr) (@Uc _ _ _ _ _ (Ul (ExcR.Uq (K:=K)) (by rfl) G.Zb We<|bz (pv 5)<|ExcR.Ur G.Zh) (@Uc _ _ _ _ _ (Ul (ExcR.Uq (K:=K)) (by rfl) G.Zb We<|bz (pv 5)<|ExcR.Ur G.Zt) (@Uc _ _ _ _ _ (Ul (ExcR.Uq (K:=K)) (by rfl) G.Zb We<|bz (pv 5)<|ExcR.Ur G.Zy) (@Uc _ _ _ _ _ (Ul (ExcR.Uq (K:=K)) (by rfl) G.Zb We<|bz (pv 5)<|ExcR.Ur G.Zi) (@Uc _ _ _ _ _ (Ul (ExcR.Uq (K:=K)) (by rfl) G.Zb We<|bz (pv 5)<|ExcR.Ur G.Zz) (@Uc _ _ _ _ _ (Ul (ExcR.Uq (K:=K)) (by rfl) G.Zb We<|bz (pv 5)<|ExcR.Ur G.Zk) (@Uc _ _ _ _ _ (Ul (ExcR.Uq (K:=K)) (by rfl) G.Zb We<|bz (pv 5)<|ExcR.Ur G.Zn) (@Uc _ _ _ _ _ (Ul (ExcR.Uq (K:=K)) (by rfl) G.Zb We<|bz (pv 5)<|ExcR.Ur G.Zj) (@Uc _ _ _ _ _ (Ul (ExcR.Uq (K:=K)) (by rfl) G.Zb We<|bz (pv 5)<|ExcR.Ur G.Z7) (@Uc _ _ _ _ _ (Ul (ExcR.Uq (K:=K)) (by rfl) G.Zb We<|bz (pv 5)<|ExcR.Ur G.Zw) (@Uc _ _ _ _ _ (Ul (ExcR.Uq (K:=K)) (by rfl) G.Zb We<|bz (pv 5)<|ExcR.Ur G.Zl) (@Uc _ _ _ _ _ (Ul (ExcR.Uq (K:=K)) (by rfl) G.Zb We<|bz (pv 5)<|ExcR.Ur G.Zo) (@Uc _ _ _ _ _ (Ul (ExcR.Uq (K:=K)) (by rfl) G.Zb We<|bz (pv 5)<|ExcR.Ur G.Z9) (@Uc _ _ _ _ _ (Ul (ExcR.Uq (K:=K)) (by rfl) G.Zb We<|bz (pv 5)<|A3 (v:=.ty "ValueError") rfl G.ZE (by decide +kernel) rfl) UY rfl) rfl) rfl) rfl) rfl) rfl) rfl) rfl) rfl) rfl) rfl) rfl) rfl) rfl) rfl) rfl) rfl) rfl) rfl) rfl (by first|exact Or.inl rfl|exact Or.inr rfl) rfl (by first|exact .inl rfl|exact .inr rfl|assumption))) ExcR.BZ)<|Uc (pv 0)<|Uc (jx K (pv 1) Uk)<|Uc (pv 2)<|Uc (pv 3) UY)<|KU<|Us<|ExcR.CK YR (hq<|M ()) (ExcR.A9 (pins:=pins) (D:=D) rfl rfl<|ExcR.Ef (i:=5) PP.nd rfl rfl rfl G.ZC (by decide) (λa=>(KU<|@Pu.pz _ _ _ _ _ _ 4 PP.nd (@X4 _ _ _ _<|@Uc _ _ _ _ _ (Ul (ExcR.Uq (K:=K)) (by rfl) G.Zb We<|bz (pv 5)<|ExcR.Ur G.Zd) (@Uc _ _ _ _ _ (Ul (ExcR.Uq (K:=K)) (by rfl) G.Zb We<|bz (pv 5)<|ExcR.Ur G.Zp) (@Uc _ _ _ _ _ (Ul (ExcR.Uq (K:=K)) (by rfl) G.Zb We<|bz (pv 5)<|ExcR.Ur G.Zq) (@Uc _ _ _ _ _ (Ul (ExcR.Uq (K:=K)) (by rfl) G.Zb We<|bz (pv 5)<|ExcR.Ur G.Zm) (@Uc _ _ _ _ _ (Ul (ExcR.Uq (K:=K)) (by rfl) G.Zb We<|bz (pv 5)<|ExcR.Ur G.Zr) (@Uc _ _ _ _ _ (Ul (ExcR.Uq (K:=K)) (by rfl) G.Zb We<|bz (pv 5)<|ExcR.Ur G.Zh) (@Uc _ _ _ _ _ (Ul (ExcR.Uq (K:=K)) (by rfl) G.Zb We<|bz (pv 5)<|ExcR.Ur G.Zt) (@Uc _ _ _ _ _ (Ul (ExcR.Uq (K:=K)) (by rfl) G.Zb We<|bz (pv 5)<|ExcR.Ur G.Zy) (@Uc _ _ _ _ _ (Ul (ExcR.Uq (K:=K)) (by rfl) G.Zb We<|bz (pv 5)<|ExcR.Ur G.Zi) (@Uc _ _ _ _ _ (Ul (ExcR.Uq (K:=K)) (by rfl) G.Zb We<|bz (pv 5)<|ExcR.Ur G.Zz) (@Uc _ _ _ _ _ (Ul (ExcR.Uq (K:=K)) (by rfl) G.Zb We<|bz (pv 5)<|ExcR.Ur G.Zk) (@Uc _ _ _ _ _ (Ul (ExcR.Uq (K:=K)) (by rfl) G.Zb We<|bz (pv 5)<|ExcR.Ur G.Zn) (@Uc _ _ _ _ _ (Ul (ExcR.Uq (K:=K)) (by rfl) G.Zb We<|bz (pv 5)<|ExcR.Ur G.Zj) (@Uc _ _ _ _ _ (Ul (ExcR.Uq (K:=K)) (by rfl) G.Zb We<|bz (pv 5)<|ExcR.Ur G.Z7) (@Uc _ _ _ _ _ (Ul (ExcR.Uq (K:=K)) (by rfl) G.Zb We<|bz (pv 5)<|ExcR.Ur G.Zw) (@Uc _ _ _ _ _ (Ul (ExcR.Uq (K:=K)) (by rfl) G.Zb We<|bz (pv 5)<|ExcR.Ur G.Zl) (@Uc _ _ _ _ _ (Ul (ExcR.Uq (K:=K)) (by rfl) G.Zb We<|bz (pv 5)<|ExcR.Ur G.Zo) (@Uc _ _ _ _ _ (Ul (ExcR.Uq (K:=K)) (by rfl) G.Zb We<|bz (pv 5)<|ExcR.Ur G.Z9) (@Uc _ _ _ _ _ (Ul (ExcR.Uq (K:=K)) (by rfl) G.Zb We<|bz (pv 5)<|A3 (v:=.ty "ValueError") rfl G.ZE (by decide +kernel) rfl) UY rfl) rfl) rfl) rfl) rfl) rfl) rfl) rfl) rfl) rfl) rfl) rfl) rfl) rfl) rfl) rfl) rfl) rfl) rfl) rfl (by first|exact Or.inl rfl|exact Or.inr rfl) rfl (by first|exact .inl rfl|exact .inr rfl|assumption))) ExcR.BZ)<|Uc (pv 0)<|Uc (pv 1)<|Uc (pv 2)<|Uc (pv 3) UY)))<|MO (E':=λ_=>E0) ["TooManyStrips","BadHolder","BadWidth","NoStrip","BadOrder","TooManyStands","OwnStrip","BadPart","UnlikeHolders","TooWide","LikeHolders","WishStands","TooManyWishes","NoWish","BookFull","NothingDone","NoSuchDeed"] ["MeldError"] (G.ex.sub (by decide)<|by decide) (.cons (TX (XN<|Uv (UH<|tz (JS 5) UQ)<|Uv (UH<|tz (JS 5) UQ)<|Uv (UH<|tz (JS 5) UQ)<|Uv (UH<|tz (JS 5) UQ)<|Uv (UH<|tz (JS 5) UQ)<|Uv (UH<|tz (JS 5) UQ)<|Uv (UH<|tz (JS 5) UQ)<|Uv (UH<|tz (JS 5) UQ)<|Uv (UH<|tz (JS 5) UQ)<|Uv (UH<|tz (JS 5) UQ)<|Uv (UH<|tz (JS 5) UQ)<|Uv (UH<|tz (JS 5) UQ)<|Uv (UH<|tz (JS 5) UQ)<|Uv (UH<|tz (JS 5) UQ)<|Uv (UH<|tz (JS 5) UQ)<|Uv (UH<|tz (JS 5) UQ)<|Uv (UH<|tz (JS 5) UQ)<|Uv (UH<|tz (JS 5) UQ)<|Uv (UH<|tz (JS 5) Hz) U0)<|Kp 4)
    .nil) (λD=>(AX (U5<|AN<|Uv (JS 0)<|Uv (Xu (JS 1) Ua)<|Uv (JS 2)<|Uv (JS 3) U0)<|U5<|AN<|Uv (JS 0)<|Uv (JS 1)<|Uv (JS 2)<|Uv (JS 3) U0)))<|b1<|sV 4)) (.a ?_)
 ·rintro Y R X ⟨k,one,two,w,m,C,B,A,z,y,x,rfl,Q,J,H,s,E,T⟩;refine⟨rfl,?_⟩;have q:∀c∈plainT,ExcR.U4 K (ExcR.JU mg c):=Wq.mpr ⟨G.Zg,Wq.mpr ⟨G.ZD,Wq.mpr ⟨G.ZH,Wq.mpr ⟨G.Zx,Wq.mpr ⟨G.ZI,Wq.mpr ⟨G.Zs,Wq.mpr ⟨G.ZJ,Wq.mpr ⟨G.ZL,Wq.mpr ⟨G.Zu,Wq.mpr ⟨G.ZM,Wq.mpr ⟨G.Z0,Wq.mpr ⟨G.Z6,Wq.mpr ⟨G.Zv,Wq.mpr ⟨G.ZO,Wq.mpr ⟨G.ZK,Wq.mpr ⟨G.Z1,Wq.mpr ⟨G.Z8,λ_ h=>nomatch h⟩⟩⟩⟩⟩⟩⟩⟩⟩⟩⟩⟩⟩⟩⟩⟩⟩;have o:ExcR.Xl K (ExcR.JU mg "Ringed"):=G.ZR.elim λg c=>c.any;have p:∀c∈plainT,c∈namesT:=λc b=>WL _ b;have f:("Ringed" : Str)∈namesT:=Wo _ (YW.mpr rfl);have l:∀c∈namesT,∀(i:Nat) (h:i<namesT.length),PySem.W.kitOne K (.ref<|ExcR.JU mg c) (.ref<|ExcR.JU mg (namesT[i]))=some (decide (c=namesT[i])):=λc b i h=>G.is_.is_ c b _ (WE h);refine⟨by simp,UE (λu=>∃t:Option S,u=[some (.sh<|.int k),some (.bor<|.lst<|XJ (ExcR.JU mg "Village") one two w C B A z y x),some (.bor<|plD<|JV one two w),some (.sh<|.int m),some (.own<|.lst<|Ko k),t]) ?_ ?_⟩
  ·refine⟨_,rfl,k,one,two,w,m,rfl,Q,s,λN=>.inl ⟨Tw s (by lia),?_⟩,λN=>⟨k,one,two,w,m,C,B,A,z,y,x,rfl,Q,J,H,N,E,λL=>.inl ⟨Tw s L,?_⟩,λL r=>.inr ⟨r,rfl,?_⟩⟩⟩
   ·have b:=Tw s (by lia);unfold pHs;rw[Wc (show XU _ _=true by unfold XU;rw[Vj];exact .inr rfl)];refine⟨_,q _ b,l _ (p _ b) 0 (by decide),_,q _ b,l _ (p _ b) 1 (by decide),_,q _ b,l _ (p _ b) 2 (by decide),_,q _ b,l _ (p _ b) 3 (by decide),_,q _ b,l _ (p _ b) 4 (by decide),_,q _ b,l _ (p _ b) 5 (by decide),_,q _ b,l _ (p _ b) 6 (by decide),_,q _ b,l _ (p _ b) 7 (by decide),_,q _ b,l _ (p _ b) 8 (by decide),_,q _ b,l _ (p _ b) 9 (by decide),_,q _ b,l _ (p _ b) 10 (by decide),_,q _ b,l _ (p _ b) 11 (by decide),_,q _ b,l _ (p _ b) 12 (by decide),_,q _ b,l _ (p _ b) 13 (by decide),_,q _ b,l _ (p _ b) 14 (by decide),_,q _ b,l _ (p _ b) 15 (by decide),_,q _ b,l _ (p _ b) 16 (by decide),_,q _ b,l _ (p _ b) 17 (by decide),_,q _ b,G.is_.ve _ (p _ b),by simp,?_⟩;show ∃t,_=_;rw[←Sd s E];exact⟨none,rfl⟩
   ·have b:=Tw s L;unfold pHs;rw[Wc (show XU _ _=true by unfold XU;rw[Vj];exact .inr rfl)];refine⟨_,q _ b,l _ (p _ b) 0 (by decide),_,q _ b,l _ (p _ b) 1 (by decide),_,q _ b,l _ (p _ b) 2 (by decide),_,q _ b,l _ (p _ b) 3 (by decide),_,q _ b,l _ (p _ b) 4 (by decide),_,q _ b,l _ (p _ b) 5 (by decide),_,q _ b,l _ (p _ b) 6 (by decide),_,q _ b,l _ (p _ b) 7 (by decide),_,q _ b,l _ (p _ b) 8 (by decide),_,q _ b,l _ (p _ b) 9 (by decide),_,q _ b,l _ (p _ b) 10 (by decide),_,q _ b,l _ (p _ b) 11 (by decide),_,q _ b,l _ (p _ b) 12 (by decide),_,q _ b,l _ (p _ b) 13 (by decide),_,q _ b,l _ (p _ b) 14 (by decide),_,q _ b,l _ (p _ b) 15 (by decide),_,q _ b,l _ (p _ b) 16 (by decide),_,q _ b,l _ (p _ b) 17 (by decide),_,q _ b,G.is_.ve _ (p _ b),by simp,?_⟩;show ∃t,_=_;rw[←Sd s E];exact⟨none,rfl⟩
   ·obtain rfl:k=17:=by lia
    refine⟨_,o,l _ f 0 (by decide),_,o,l _ f 1 (by decide),_,o,l _ f 2 (by decide),_,o,l _ f 3 (by decide),_,o,l _ f 4 (by decide),_,o,l _ f 5 (by decide),_,o,l _ f 6 (by decide),_,o,l _ f 7 (by decide),_,o,l _ f 8 (by decide),_,o,l _ f 9 (by decide),_,o,l _ f 10 (by decide),_,o,l _ f 11 (by decide),_,o,l _ f 12 (by decide),_,o,l _ f 13 (by decide),_,o,l _ f 14 (by decide),_,o,l _ f 15 (by decide),_,o,l _ f 16 (by decide),_,o,l _ f 17 (by decide),_,o,G.is_.ve _ f,by simp,?_⟩;show ∃t,_=_;rw[←Sd s E];exact⟨none,rfl⟩
  ·rintro u ⟨t,rfl⟩;exact T
def Ml(DD:Def K mg "law" XA ["_law_script"])
  : Im ζ:=by
 refine DD.fz Gf (λh n=>(bc (sS 1 n<|xo UO UP xi<|xo XM XD (xf Yq h<|a2 (xv 0) xi) xi)<|bc (sS 2 n<|xo UO UP xi<|xo XM XD (xo UO UP (xv 1)<|xo XM XD (xf Yq h<|a2 (xv 0) xi) xi) xi)<|bc (sS 3 n<|xo UO UP xi<|xo XM XD (xf Yq h<|a2 (xv 0) xi) xi)<|bc (sS 4 n<|xo UO UP xi<|xo XM XD (xf Yq h<|a2 (xv 0) xi) xi)<|bj (sF 2<|sF 3<|sF 1<|sS 5 n<|xL<|a3 (xt<|a2 (xv 1)<|xv 3) (xt<|a2 (xv 1)<|xo Kl Kf xi<|xv 3)<|xt<|a2 (xv 2) xi)<|bj (sS 6 n<|xe (UI Xy (cz ["_law_k","_law_strips"] [none,some 5] (Bm rfl G.Z2<|az Uk) ⟨(gk 0),TL,(BW Yz G.ZN (hq<|h ()) Ks<|az<|Pr (Ts (K:=K)) (by rfl) G.ZF boot_list<|az<|pv 1)⟩)<|X4<|az<|BW Yz G.ZN (hq<|h ()) Ks<|az<|X4 UY)<|OO (Lf (SndI.c<|NX<|sz Ua) (Kp 0) Bh<|AQ<|sz<|Tz<|sz<|JS 1)<|Lk<|AQ<|sz<|XN U0)<|bc (sF 2<|sF 1<|se (Us<|UC Yo G.Za (hq<|h ()) Ks (jx K (pv 6) Uk)<|bz (pv 1)<|pv 2)<|Ka<|KL 6 XO Ua<|tz (JS 1)<|JS 2)<|bc (sF 2<|sF 1<|se (Us<|UC Yo G.Za (hq<|h ()) Ks (jx K (pv 6) Uk)<|bz (pv 1)<|pv 2)<|Ka<|KL 6 XO Ua<|tz (JS 1)<|JS 2)<|bj (sF 1<|sF 2<|se (Us<|UC Yo G.Za (hq<|h ()) Ks (jx K (pv 6) Uk)<|bz (pv 2)<|pv 1)<|Ka<|KL 6 XO Ua<|tz (JS 2)<|JS 1)<|bc (sO [7] Qh (ir G.Z2<|a1 xi) (gN 7)<|b1<|se (Us<|UC Yo G.Za (hq<|h ()) Ks (jx K (pv 6) Uk)<|bz (UI UO Uk<|UI XM (pv 7) Uk)<|UI UO Uk<|UI XM (UI UO (UI UO (UI XM (pv 7) Uk) Uk)<|UI Zaq (pv 7) Uk) Uk)<|Ka<|KL 6 XO Ua<|tz (UP Ua<|XD (JS 7) Ua)<|UP Ua<|XD (UP (UP (XD (JS 7) Ua) Ua)<|GH (JS 7) Ua) Ua)<|bc (sO [7] Qh (ir G.Z2<|a1 xi) (gN 7)<|bc (sF 1<|sF 2<|se (Us<|UC Yo G.Za (hq<|h ()) Ks (jx K (pv 6) Uk)<|bz (pv 2)<|pv 1)<|Ka<|KL 6 XO Ua<|tz (JS 2)<|JS 1)<|b1<|sF 1<|sF 2<|se (Us<|UC YE G.Za (hq<|h ()) Ks (jx K (pv 6) Uk)<|bz (pv 2)<|pv 1)<|Ka<|KL 6 Fp Ua<|tz (JS 2)<|JS 1)<|bc (sO [8,9] Qh (ir G.Z2<|a1 xi) (gN 8)<|bc (sS 9 n<|xf YS h<|ac (xv 8)<|ac (xv 6)<|ac (xv 5)<|ac (xv 4) a0)<|b1<|sI (te (Kq (Iu (K:=K)<|show _<cLine from(h ()).units0) (pv 9) (UI Xy (cz ["_law_k","_law_which"] [none,some 8] (Bm rfl G.Z2<|az Uk) ⟨(gk 0),TL,(L7 (FN (K:=K)<|show _<cLine from(h ()).units0) (pv 0) (pv 1)<|KD _)⟩)<|X4<|az SY)<|KD _)<|XS<|M2 (JS 9)<|XF (Nd (SndI.c<|NX<|sz Ua) (Kp 0) Bh<|F6 (JS 0)<|JS 1)<|XN<|sz Bv) (b1<|sR xb) b0)<|b1<|sR xb)) (.a ?_)
 ·rintro ds R X ⟨s,rfl,hR⟩;refine⟨rfl,s,0,rfl,by decide,λa0=>⟨(by show(0:Int)<10;decide),s,1,rfl,by decide,λa1=>⟨(by show(0:Int)<9;decide),(by show(0:Int)<10;decide),s,2,rfl,by decide,λa2=>⟨(by show(0:Int)<1000;decide),s,3,rfl,by decide,λa3=>⟨(by show(0:Int)<5;decide),?_⟩⟩⟩⟩⟩;refine UE (λb=>∃one two w m:Int,KN one two w m/\b=[some (.bor<|.scr s),some (.sh<|.int one),some (.sh<|.int two),some (.sh<|.int w),some (.sh<|.int m),some (.own<|.lst ((JV one two w).map prD)),none,none,none,none]) ⟨by simp,by simp,by simp,by simp,_,_,_,_,?_,rfl⟩ ?_
  ·refine⟨?_,?_,?_,?_,?_,?_,?_,?_,?_⟩<;>lia
  clear a0 a1 a2 a3;rintro b ⟨one,two,w,m,Y,rfl⟩;obtain⟨o1,o2,t1,t2,E,w1,w2,m1,m2⟩:=id Y;refine UE (λb=>∃(l:Addr) (q p g f y:Addr×List (Addr×List D)),IsV q [] [JV one two w] [[]]/\IsV p [] [JV one two w] [[]]/\IsV g [] [JV one two w] [[]]/\IsV f [] [JV one two w] [[]]/\IsV y [] [[]] [[]]/\b=[some (.bor<|.scr s),some (.sh<|.int one),some (.sh<|.int two),some (.sh<|.int w),some (.sh<|.int m),some (.own<|.lst ((JV one two w).map prD)),some (.own<|.vls l (ExcR.JU mg "Village") vF [q,p,g,f,y]),none,none,none]) ?_ ?_
  ·refine⟨⟨by decide,by decide⟩,⟨by decide,ExcR.JU mg "Village",vF,λ_=>[[],[plD (JV one two w)],[plD []]],λi r=>?_,λl ws ew=>?_⟩⟩
   ·refine⟨rfl,rfl,λx=>⟨x,JV one two w,rfl,rfl,(by show(3:Nat)<=1000;decide),?_⟩⟩;rw[Oe (Pp Y) (by show(3:Nat)<=40;decide)];exact λb1 v u=>⟨rfl,x,_,rfl,rfl⟩
   ·obtain⟨q,p,g,f,rfl,e0,e1,e2,e3⟩:=M8 (show ws.map _=[_,_,_,_]from ew)
    exact⟨by simp,λx=>⟨x,[],rfl,rfl,by decide,λb1 v u=>⟨rfl,λl2=>⟨rfl,rfl,(by show(5:Nat)<=100000;decide),λl3=>⟨l3,q,p,g,f,_,T1 e0,T1 e1,T1 e2,T1 e3,⟨x,b1,v,u,rfl⟩,rfl⟩⟩⟩⟩⟩
  rintro b ⟨l,q,p,g,f,y,⟨x0,a0,b0,c0,rfl⟩,⟨C,a1,b1,H,rfl⟩,B,A,h4,rfl⟩
  have f0:UZ [] [] one two=none:=by
   unfold UZ X1;rw[YV (by decide),YV (by lia),YV (by lia),YV E,YV (by simp),YV (by decide)]
  have f1:UZ [(("wish" : Str),[one,two])] [(one,two)] two one=none:=by
   unfold UZ X1;rw[YV (by show ¬100<=1;decide),YV (by lia),YV (by lia),YV (λz=>E z.symm),YV (λz=>E (W2 Prod.snd<|YW.mp z)),YV (by show ¬20<=1;decide)]
  refine⟨rfl,rfl,0,_,rfl,rfl,x0,a0,b0,c0,[],[],[],JV one two w,[],one,two,rfl,rfl,by decide,by decide,by decide,by decide,?_⟩;rw[f0];refine⟨_,rfl,rfl,rfl,1,_,rfl,rfl,C,a1,b1,H,[],[],[],JV one two w,[],one,two,rfl,rfl,by decide,by decide,by decide,by decide,?_⟩;rw[f0];refine⟨_,rfl,?_⟩;refine UE (λb=>∃q p:Addr×List (Addr×List D),IsV q [(("wish" : Str),[one,two])] ([JV one two w]++[JV one two w]) ([[]]++[[(one,two)]])/\IsV p [(("wish" : Str),[one,two]),(("wish" : Str),[two,one])] ([JV one two w,JV one two w]++[JV one two w]) ([[],[(one,two)]]++[[(one,two),(two,one)]])/\b=[some (.bor<|.scr s),some (.sh<|.int one),some (.sh<|.int two),some (.sh<|.int w),some (.sh<|.int m),some (.own<|.lst ((JV one two w).map prD)),some (.own<|.vls l (ExcR.JU mg "Village") vF [q,p,g,f,y]),none,none,none]) ?_ ?_
  ·refine⟨rfl,rfl,1,_,rfl,rfl,C,a1,b1,H,[(("wish" : Str),[one,two])],[JV one two w],[[]],JV one two w,[(one,two)],two,one,rfl,rfl,by simp,by simp,by simp,by simp,?_⟩;rw[f1];exact⟨_,rfl,_,_,⟨x0,a0,b0,c0,rfl⟩,⟨C,a1,b1,H,rfl⟩,rfl⟩
  clear f0 f1 x0 a0 b0 c0 C a1 b1 H;rintro b ⟨q,p,h0,h1,rfl⟩;refine⟨⟨by decide,by decide⟩,Bz (λi b=>∃(g:Addr×List (Addr×List D)) (bk:List (Str×ZX)) (fs o:List (ZW)),IsV g bk (fs++[JV one two w]) (o++[wish20.take i])/\bk.length=i/\fs.length=i/\o.length=i/\b=[some (.bor<|.scr s),some (.sh<|.int one),some (.sh<|.int two),some (.sh<|.int w),some (.sh<|.int m),some (.own<|.lst ((JV one two w).map prD)),some (.own<|.vls l (ExcR.JU mg "Village") vF [q,p,g,f,y]),none,none,none]) ⟨g,[],[],[],Ca B,rfl,rfl,rfl,rfl⟩ ?_ ?_⟩
  ·clear B g;rintro i b r ⟨g,bk,fs,o,⟨x,b1,v,u,rfl⟩,U,T,Q,rfl⟩;have r:i<20:=r;obtain⟨N,M⟩:=LD ⟨i,r⟩;have l20:(wish20.take i).length<=20:=by rw[WS];lia
   have e:UZ bk (wish20.take i) (1+(0+(i:Int)) % 10) (1+((0+(i:Int)) % 10+1+(0+(i:Int)) / 10) % 10)=none:=by
    unfold UZ;rw[YV (by lia)];exact N
   refine⟨rfl,rfl,2,_,rfl,rfl,(by show(0:Int)<10;decide),(by show(0:Int)<10;decide),⟨by decide,by decide⟩,(by show(0:Int)<10;decide),x,b1,v,u,bk,fs,o,JV one two w,wish20.take i,_,_,rfl,rfl,by lia,by lia,by lia,by lia,?_⟩;rw[e];exact⟨_,rfl,_,_,fs++[JV one two w],o++[wish20.take i],⟨x,b1,v,u,by rw[←M]⟩,by simp[U],by simp[T],by simp[Q],rfl⟩
  clear B g;rintro b ⟨g,bk2,fs2,L,B,lb2,_,_,rfl⟩;refine⟨⟨by decide,by decide⟩,Bz (λi b=>∃(f:Addr×List (Addr×List D)) (bk:List (Str×ZX)) (fs o:List (ZW)),IsV f bk (fs++[JV one two w]) (o++[[]])/\bk.length=2*i/\fs.length=2*i/\o.length=2*i/\b=[some (.bor<|.scr s),some (.sh<|.int one),some (.sh<|.int two),some (.sh<|.int w),some (.sh<|.int m),some (.own<|.lst ((JV one two w).map prD)),some (.own<|.vls l (ExcR.JU mg "Village") vF [q,p,g,f,y]),none,none,none]) ⟨f,[],[],[],Ca A,rfl,rfl,rfl,rfl⟩ ?_ ?_⟩
  ·clear A f;rintro i b r ⟨f,bk,fs,o,⟨x,b1,v,u,rfl⟩,U,T,Q,rfl⟩;have r:i<50:=r
   have e1:UZ bk [] two one=none:=by
    unfold UZ X1;rw[YV (by lia),YV (by lia),YV (by lia),YV (λz=>E z.symm),YV (by simp),YV (by decide)]
   have e2:TK (bk++[(("wish" : Str),[two,one])]) ([]++[(two,one)]) two one=none:=by
    unfold TK KJ;rw[YV (by rw[Wv];show ¬100<=bk.length+1;lia),Wc (by simp)]
   have e3:PJ ([]++[(two,one)]) two one=[]:=by simp[PJ]
   refine⟨rfl,rfl,3,_,rfl,rfl,x,b1,v,u,bk,fs,o,JV one two w,[],two,one,rfl,rfl,by lia,by lia,by lia,by decide,?_⟩;rw[e1];refine⟨_,rfl,rfl,rfl,3,_,rfl,rfl,x,b1,v,u,bk++[(("wish" : Str),[two,one])],fs++[JV one two w],o++[[]],JV one two w,[]++[(two,one)],two,one,rfl,rfl,by simp;lia,by simp;lia,by simp;lia,by simp,?_⟩;rw[e2,e3];exact⟨_,rfl,_,bk++[(("wish" : Str),[two,one])]++[(("drop" : Str),[two,one])],fs++[JV one two w]++[JV one two w],o++[[]]++[[]++[(two,one)]],⟨x,b1,v,u,rfl⟩,by simp[U];lia,by simp[T];lia,by simp[Q];lia,rfl⟩
  clear A f;rintro b ⟨f,bk3,fs3,J,A,lb3,_,_,rfl⟩;obtain⟨_,_,_,_,rfl⟩:=h0;obtain⟨_,_,_,_,rfl⟩:=h1;obtain⟨_,_,_,_,rfl⟩:=B;obtain⟨_,_,_,_,rfl⟩:=A;obtain⟨_,_,_,_,rfl⟩:=h4;refine⟨⟨by decide,by decide⟩,Bz (λi b=>b=_) rfl ?_ ?_⟩
  ·rintro i b r rfl;have r:i<18:=r;refine⟨0+(i:Int),one,two,w,m,bk2,bk3,fs2,fs3,L,J,rfl,Y,by lia,by lia,by lia,by lia,?_⟩;have ek:Ko (0+(i:Int))=(P5 (0+(i:Int))).map D.bl:=MW _;refine⟨⟨by decide,by decide⟩,Od (λ(j:Nat)=>some (.bl<|decide ((0:Int)+(j:Int)=0+(i:Int)))) (by decide) (λj hj=>⟨_,rfl,rfl⟩) ?_⟩;refine⟨by simp,rfl,rfl,?_⟩
   refine⟨(by
    have:=QI (λ(j:Nat)=>some (D.bl<|decide ((0:Int)+(j:Int)=0+(i:Int)))) (List.range<|Int.toNat 18)
    rw[Vu]at this;have e:Int.toNat 18=18:=rfl;show _+1<=100000;lia),(P5 (0+(i:Int))).map V.bl,(P5 (0+(i:Int))).map V.bl,(by rw[ek];exact Sv _),?_,FY _,FY _,?_⟩
   ·show Kv ((List.range 18).filterMap (λ(j:Nat)=>some (D.bl<|decide ((0:Int)+(j:Int)=0+(i:Int))))++[D.bl true])=_;rw[ED,ek];exact Sv _
   ·rw[MR];exact Pm rfl
  rintro b rfl;exact hR
end
end T
namespace T
open L2 Own M
def LH{l:PySem.W.OpenLaw}{w:World}{K:ZV}{h:Heap}{g:ZZ}{fa:Addr}(X:K.In h)(b:h.Ns mainGlobals g)(hfa:g "law"=some (.ref fa)){f:Addr}(VL:PySem.W.nsIn K mainGlobals "Village"=some (some<|.ref f))(VN:PySem.W.plainGet K f Str.empty=true)(VO:PySem.W.hasDictIn K f=true)(VP:PySem.W.plainOver K f=true)(VQ:PySem.W.findIn K (.ref f) "__setattr__"=some (some<|.builtin "object.__setattr__"))(VR:PySem.W.makesIn K f=true)(VS:PySem.W.keepIn K (.ref f)=true)(VT:PySem.W.findIn K (.ref f) "book"=some none)(VU:PySem.W.findIn K (.ref f) "fields"=some none)(VV:PySem.W.findIn K (.ref f) "wished"=some none)(a1:Pu.DI K "check_holder" SC)(a2:Pu.DI K "check_width" Ba)(a3:Pu.DI K "check_strips" NN)(a4:Pu.DI K "holders_of" N0)(a5:Pu.DI K "check_order" Bo)(a6:Pu.DI K "order_cost" NJ)(a7:Pu.DI K "check_neighbours" Nz)(a8:Pu.DI K "longer_paths" Bf)(a9:Pu.DI K "ring_from" Bc)(a10:Pu.DI K "find_ring" NZ)(a11:Pu.DI K "check_no_ring" Sz)(a12:Pu.DI K "check_place" Br)(a13:Pu.DI K "sold" Sk)(a14:Pu.DI K "parted" BE)(a15:Pu.DI K "united" Sq)(a16:Pu.DI K "with_wish" NH)(a17:Pu.DI K "without_wish" SX)(a18:Pu.DI K "cost_table" NU)(a19:Pu.DI K "least_cost" NT)(a20:Pu.MI K f "__init__" "Village.__init__" Sa)(a21:Pu.MI K f "strips" "Village.strips" Bs)(a22:Pu.MI K f "wishes" "Village.wishes" Bi)(a23:Pu.MI K f "check_room" "Village.check_room" Sh)(a24:Pu.MI K f "enter" "Village.enter" NV)(a25:Pu.MI K f "sell" "Village.sell" N3)(a26:Pu.MI K f "part" "Village.part" Si)(a27:Pu.MI K f "unite" "Village.unite" N9)(a28:Pu.MI K f "wish" "Village.wish" NA)(a29:Pu.MI K f "drop" "Village.drop" Bj)(a30:Pu.MI K f "take_back" "Village.take_back" S4)(a31:Pu.MI K f "stood" "Village.stood" Be)(a32:Pu.MI K f "cost" "Village.cost" Se)(a33:Pu.MI K f "price" "Village.price" SM)(a34:Pu.DI K "check_small" SN)(a35:Pu.DI K "all_stands" Nx)(a36:Pu.DI K "_law_at" BB)(a37:Pu.DI K "_law_first_ten" Bw)(a38:Pu.DI K "_law_others" NQ)(a39:Pu.DI K "_law_classes" SO){C:Addr}{J B:Yi}{H:Array (Yh)}{L x y u q A:Value}(a40:PySem.W.nsIn K mainGlobals "law"=some (some<|.ref C))(l40:K.lookup C=some ⟨L,J,.func (PySem.W.fnOf "law" "law" (Xo XA) (Uw XA) (JT XA) .none x y u B q A),H⟩)(c40:PySem.W.codeIn K q "law"=true)(k40:PySem.W.keepIn K (.ref C)=true)(a41:Pu.MI K f "wish" "Village.wish" Sx)(a42:Pu.MI K f "drop" "Village.drop" Sf)(VW:PySem.W.nsIn K mainGlobals "ValueError"=some none)(VX:PySem.W.nsIn K mainGlobals "isinstance"=some none)(VY:PySem.W.nsIn K mainGlobals "len"=some none)(VZ:PySem.W.nsIn K mainGlobals "list"=some none)(Ja:PySem.W.nsIn K mainGlobals "range"=some none)(Jb:PySem.W.nsIn K mainGlobals "set"=some none)(Jc:PySem.W.nsIn K mainGlobals "sorted"=some none){JK:Tok}(Jd:PySem.W.nsIn K mainGlobals "HOLDERS"=some (some<|.int 10 JK)){JL:Tok}(Je:PySem.W.nsIn K mainGlobals "STRIPS"=some (some<|.int 40 JL)){JM:Tok}(Jf:PySem.W.nsIn K mainGlobals "WIDEST"=some (some<|.int 1000 JM)){JN:Tok}(Jg:PySem.W.nsIn K mainGlobals "MOST_WISHES"=some (some<|.int 20 JN)){JO:Tok}(Jh:PySem.W.nsIn K mainGlobals "MOST_DEEDS"=some (some<|.int 100 JO)){JP:Tok}(Ji:PySem.W.nsIn K mainGlobals "SMALL"=some (some<|.int 7 JP)){J0:Addr}(V1:Pu.EI K "MeldError" J0){Jj:Addr}(V2:Pu.EI K "TooManyStrips" Jj){Jk:Addr}(V3:Pu.EI K "BadHolder" Jk){Jl:Addr}(V4:Pu.EI K "BadWidth" Jl){Jm:Addr}(V5:Pu.EI K "NoStrip" Jm){Jn:Addr}(V6:Pu.EI K "BadOrder" Jn){Jo:Addr}(V7:Pu.EI K "TooManyStands" Jo){Jp:Addr}(V8:Pu.EI K "OwnStrip" Jp){Jq:Addr}(V9:Pu.EI K "BadPart" Jq){Jr:Addr}(VA:Pu.EI K "UnlikeHolders" Jr){Js:Addr}(VB:Pu.EI K "TooWide" Js){Jt:Addr}(VC:Pu.EI K "LikeHolders" Jt){Ju:Addr}(VD:Pu.EI K "WishStands" Ju){Jv:Addr}(VE:Pu.EI K "TooManyWishes" Jv){Jw:Addr}(VF:Pu.EI K "NoWish" Jw){Jx:Addr}(VG:Pu.EI K "BookFull" Jx){Jy:Addr}(VH:Pu.EI K "NothingDone" Jy){Jz:Addr}(VI:Pu.EI K "NoSuchDeed" Jz){M:Addr}(V0:Pu.RI K "Ringed" M "Ringed.__init__" S8)(x_Ringed:PySem.W.exmOne K (.ref M) (.ref M)=some true)(is_all:Pu.isAll K [("TooManyStrips",Jj),("BadHolder",Jk),("BadWidth",Jl),("NoStrip",Jm),("BadOrder",Jn),("TooManyStands",Jo),("OwnStrip",Jp),("BadPart",Jq),("UnlikeHolders",Jr),("TooWide",Js),("LikeHolders",Jt),("WishStands",Ju),("TooManyWishes",Jv),("NoWish",Jw),("BookFull",Jx),("NothingDone",Jy),("NoSuchDeed",Jz),("Ringed",M)]=true)(x_all:Pu.Dz K [("Ringed",M),("TooManyStrips",Jj),("BadHolder",Jk),("BadWidth",Jl),("NoStrip",Jm),("BadOrder",Jn),("TooManyStands",Jo),("OwnStrip",Jp),("BadPart",Jq),("UnlikeHolders",Jr),("TooWide",Js),("LikeHolders",Jt),("WishStands",Ju),("TooManyWishes",Jv),("NoWish",Jw),("BookFull",Jx),("NothingDone",Jy),("NoSuchDeed",Jz)] [("MeldError",J0)]=true)
  : ∃fd:FuncData,(∀(s:Shared) (v:Value),BindsTo s fd ⟨[v],[]⟩ [("_law_script",v)])/\∀base:Heap,K.In base->base.Ns mainGlobals g->UN l.prog w K g base CX0 10 fa fd ["_law_script"] (Pu.NF K):=by
 have e:=hfa.symm.trans (W7 X b a40);cases e
 have JQ:=V1.c X b;have J1:=V2.c X b;have J2:=V3.c X b;have J4:=V4.c X b;have J6:=V5.c X b;have J7:=V6.c X b;have J8:=V7.c X b;have J9:=V8.c X b;have JA:=V9.c X b;have JB:=VA.c X b;have JC:=VB.c X b;have JD:=VC.c X b;have JE:=VD.c X b;have JF:=VE.c X b;have JG:=VF.c X b;have JH:=VG.c X b;have JI:=VH.c X b;have JJ:=VI.c X b;have VM:=V0.c X b;have n:=ExcR.Sb (W7 X b VL);have G:Glob K g:=⟨WV X b VW,WV X b VX,WV X b VY,WV X b VZ,WV X b Ja,WV X b Jb,WV X b Jc,⟨_,W7 X b Jd,⟨_,rfl⟩⟩,⟨_,W7 X b Je,⟨_,rfl⟩⟩,⟨_,W7 X b Jf,⟨_,rfl⟩⟩,⟨_,W7 X b Jg,⟨_,rfl⟩⟩,⟨_,W7 X b Jh,⟨_,rfl⟩⟩,⟨_,W7 X b Ji,⟨_,rfl⟩⟩,(V1.m X b),(V1.k X b),(V2.m X b),(V2.k X b),(V3.m X b),(V3.k X b),(V4.m X b),(V4.k X b),(V5.m X b),(V5.k X b),(V6.m X b),(V6.k X b),(V7.m X b),(V7.k X b),(V8.m X b),(V8.k X b),(V9.m X b),(V9.k X b),(VA.m X b),(VA.k X b),(VB.m X b),(VB.k X b),(VC.m X b),(VC.k X b),(VD.m X b),(VD.k X b),(VE.m X b),(VE.k X b),(VF.m X b),(VF.k X b),(VG.m X b),(VG.k X b),(VH.m X b),(VH.k X b),(VI.m X b),(VI.k X b),(V0.m X b),(V0.i X b),(by rw[VM];exact x_Ringed),(by rw[←J1,←J2,←J4,←J6,←J7,←J8,←J9,←JA,←JB,←JC,←JD,←JE,←JF,←JG,←JH,←JI,←JJ,←VM]at is_all;exact Pu.Hh is_all),(by rw[←VM,←J1,←J2,←J4,←J6,←J7,←J8,←J9,←JA,←JB,←JC,←JD,←JE,←JF,←JG,←JH,←JI,←JJ,←JQ]at x_all;exact Pu.Hq x_all),(by rw[n];exact W7 X b VL),(by rw[n];exact⟨VN,VO,VP,VQ⟩),(by rw[n];exact VT),(by rw[n];exact VU),(by rw[n];exact VV)⟩;have E:=Nc (st:=XA) l40 c40 k40;have b40:=E.binds (ps:=["_law_script"]) λ_ _ _ _ _ _ us hl=>by obtain⟨_,rfl⟩:=Pu.Tg hl;rfl
 have N:Def K g "law" XA ["_law_script"]:=⟨_,_,E,W7 X b a40,b40⟩;refine⟨PySem.W.fnOf "law" "law" (Xo XA) (Uw XA) (JT XA) .none x y u B q A,λs v=>.of_eq rfl,λbase _ _=>?_⟩;have C0:=@ML l.prog w K g base G (V0.j VM);have C1:=@Lc l.prog w K g base ⟨⟩ G (a1.e X b);have C2:=@Ib l.prog w K g base ⟨⟩ G (a2.e X b);have C4:=@Ig l.prog w K g base G (a4.e X b);have C7:=@G6 l.prog w K g base ⟨⟩ G (a7.e X b);have C8:=@IW l.prog w K g base ⟨⟩ (a8.e X b);have Y:=@I0 l.prog w K g base ⟨⟩ G (a12.e X b);have T:=@Lb l.prog w K g base ⟨⟩ G (a17.e X b);have p:=@Mr l.prog w K g base ⟨⟩ G (a21.e n);have r:=@MS l.prog w K g base ⟨⟩ G (a22.e n);have o:=@Ro l.prog w K g base ⟨⟩ G (a23.e n);have Q:=@Za2 l.prog w K g base ⟨⟩ G (a24.e n);have C30:=@Lr l.prog w K g base ⟨⟩ G (a30.e n);have C31:=@Mz l.prog w K g base ⟨⟩ G (a31.e n);have C34:=@Io l.prog w K g base ⟨⟩ G (a34.e X b);have C36:=@Gy l.prog w K g base ⟨⟩ G (a36.e X b);have C3:=O3 ⟨⟩ G C1 C2 (a3.e X b);have C5:=Of ⟨⟩ G (A4 C4) (a5.e X b);have C9:=Rj ⟨⟩ G C8 (a9.e X b);have C13:=LN ⟨⟩ G C1 Y (a13.e X b);have C14:=Zaf ⟨⟩ G Y (a14.e X b);have C15:=RU ⟨⟩ G C7 (a15.e X b);have U:=OX ⟨⟩ G C1 (a16.e X b);have C29:=E6 ⟨⟩ G T p r o Q (a29.e n);have C35:=M9 ⟨⟩ C34 (a35.e X b);have C42:=LX ⟨⟩ G T r o (a42.e n);have C6:=GV ⟨⟩ C5 (a6.e X b);have C10:=Rw ⟨⟩ G C9 (a10.e X b);have C20:=Il ⟨⟩ G C3 (a20.j n VR VS);have C25:=Hx ⟨⟩ G p o C13 (a25.e n);have C26:=Gv ⟨⟩ G p o C14 (a26.e n);have C27:=Zax ⟨⟩ G p o C15 (a27.e n);have C28:=EY ⟨⟩ G p r o Q U (a28.e n);have C41:=Zan ⟨⟩ G r o U (a41.e n);have C11:=Zav ⟨⟩ G C0 (A4 C4) C10 (a11.e X b);have C33:=GI ⟨⟩ G p C6 (a33.e n);have C18:=ME ⟨⟩ C11 (a18.e X b);have C37:=Hi ⟨⟩ G C3 C35 C25 C26 C27 C33 (a37.e X b);have C19:=Zar ⟨⟩ C18 (a19.e X b);have C32:=Iw ⟨⟩ G p r C19 (a32.e n);have C38:=Mx ⟨⟩ G C30 C31 C42 C41 C32 (a38.e X b);have C39:=Rr ⟨⟩ G C37 C38 (a39.e X b);have C40:=Ml ⟨⟩ G C36 C29 C20 C28 C39 N;exact(C40.at (W7 X b a40) E N).imp λ_ _ _ _ z=>Pu.IZ z
end T
namespace PySem.W.Fast
def I:True:=⟨⟩
def tw2867525087471423739:=I
def tw1092125657599137952:=I
def tw13901918973074742464:=I
def tw9306025298771766464:=I
def tw17097963180162269504:=I
def tw10946811386686783808:=I
def tw3148663304092268928:=I
def tw9233889409513484672:=I
def tw9621165156127709600:=I
def tw10401615953959527840:=I
def tw11388446276249994688:=I
def tw549994873195258432:=I
def tw246809196634474208:=I
def tw16973356399178880736:=I
def tw5245785110796010304:=I
def tw17717571283759848352:=I
def tw6530608119245692832:=I
def tw8370601024034855937:=I
def tw12380214082715649057:=I
def tw9812101294153141281:=I
def tw1466571715608781953:=I
def tw7434478242436518049:=I
def tw3342623389597394081:=I
def tw4620764642716625121:=I
def tw8152400723847008481:=I
def tw14365390763419597025:=I
def tw12109780603533914369:=I
def tw802438397520279809:=I
def tw2069998030262363457:=I
def tw811705385505044833:=I
def tw9004789495542867297:=I
def tw14149909641084224897:=I
def tw5720898588311012993:=I
def tw5942210380615868065:=I
def tw9062167578225113761:=I
def tw13558040418595359425:=I
def tw18226703721628741345:=I
def tw14129743329997776609:=I
def tw5838366739271300865:=I
def tw8704222002929575713:=I
def tw6296739636503507745:=I
def tw5456824049147400001:=I
def tw6054137663468803937:=I
def tw4577518981631944545:=I
def tw16696814464538240897:=I
def tw10774134204099820578:=I
def tw3642340738205497410:=I
def tw12150479770168831074:=I
def tw17719838181004549250:=I
def tw12713065740090737858:=I
def tw3148599323651186882:=I
def tw5951226747919579426:=I
def tw12773794366072167778:=I
def tw11806757785018572162:=I
def tw12472722571046105538:=I
def tw4553375071112063426:=I
def tw15076130428579243490:=I
def tw10427675884648283650:=I
def tw12206042395550003746:=I
def tw8996042703378628130:=I
def tw2316051114359676514:=I
def tw16886141817438532226:=I
def tw5078165157067106082:=I
def tw13500661189271957346:=I
def tw9520443702812896098:=I
def tw15002999270949357603:=I
def tw7416820778082360483:=I
def tw12519767865936717155:=I
def tw10714658728171905507:=I
def tw4842851286857755107:=I
def tw18405001336394690019:=I
def tw5338171855823881795:=I
def tw7572094457894999683:=I
def tw14325124763158132451:=I
def tw4194790892296390403:=I
def tw9967397135580816195:=I
def tw2428125778891608931:=I
def tw7310203934699706211:=I
def tw13549216616782029699:=I
def tw15125853632337755043:=I
def tw8125546733672848291:=I
def tw18340885000334892963:=I
def tw13984861927444050883:=I
def tw907372572936438755:=I
def tw14726119201696762851:=I
def tw12819445900318671908:=I
def tw597702557782002756:=I
def tw16134245153060551780:=I
def tw8234529878750072964:=I
def tw8126431537458827428:=I
def tw4948690538010637508:=I
def tw6834862113252712676:=I
def tw10746402691141424388:=I
def tw18123355096649340260:=I
def tw2911929523801670020:=I
def tw8531467104647930244:=I
def tw9936243704724683172:=I
def tw7940349434375166404:=I
def tw14950945449576911332:=I
def tw8602254876793787876:=I
def tw15289924121489308228:=I
def tw16954692887983061572:=I
def tw2006837378571417188:=I
def tw7043762656523217508:=I
def tw7282689279617105540:=I
def tw8358282474728032996:=I
def tw13459198694725773124:=I
def tw9938566253000125284:=I
def tw9143820908766985060:=I
def tw1993318896158182276:=I
def tw16239965003381226372:=I
def tw8435681926307708804:=I
def tw14882876102229152676:=I
def tw15267001822573663269:=I
def tw529846123041926213:=I
def tw6113626558751450213:=I
def tw16680069065145254021:=I
def tw17489835954339298437:=I
def tw14824398947775467653:=I
def tw4867537102013858053:=I
def tw13297843823861093:=I
def tw2527329187548427717:=I
def tw6074532323086252581:=I
def tw10857477294056983077:=I
def tw10601530191388584613:=I
def tw9341230256523500197:=I
def tw7291049637406002885:=I
def tw17002895332776981221:=I
def tw10310992095257394949:=I
def tw7220463512684164933:=I
def tw13130303647079154533:=I
def tw12740817898461777797:=I
def tw1517086222822200197:=I
def tw15419440110269782981:=I
def tw355259596395577350:=I
def tw18124228790491439174:=I
def tw2453082530809527398:=I
def tw15738165456005645478:=I
def tw9439218937878987974:=I
def tw415161980953387238:=I
def tw8357619526299635974:=I
def tw10912321978830160166:=I
def tw5691296321956046118:=I
def tw11364245849998056806:=I
def tw15205052477903219110:=I
def tw17101240888726056358:=I
def tw14842892477120464422:=I
def tw17733245299817878086:=I
def tw13944750423477603910:=I
def tw14907768829712861798:=I
def tw15523147182587824774:=I
def tw526904746635102886:=I
def tw6243406330458636998:=I
def tw3985931462490397478:=I
def tw17469216838927711014:=I
def tw6911134675107629894:=I
def tw2239809620394327910:=I
def tw7185828817955998662:=I
def tw2979411417087103942:=I
def tw400496600087541734:=I
def tw1115803894286011366:=I
def tw16216417498249632775:=I
def tw17015349443969466439:=I
def tw12798740027877028967:=I
def tw12349873456607099015:=I
def tw16796399703622627495:=I
def tw5047955768913388839:=I
def tw3225378538234082631:=I
def tw876908270958591367:=I
def tw15188342086252786055:=I
def tw11507373663599523239:=I
def tw4424577904530701767:=I
def tw3748187242130921927:=I
def tw13146846849893784039:=I
def tw10808455325281091079:=I
def tw8770329041776226887:=I
def tw16331267184695488103:=I
def tw9609682344427693735:=I
def tw6990384898855712423:=I
def tw10627325688951124679:=I
def tw5612308797651647271:=I
def tw15420854336929498951:=I
def tw16549137938672424807:=I
def tw4669271798978698087:=I
def tw6902242648614210471:=I
def tw12124511668556966855:=I
def tw14606357722418410504:=I
def tw17527760098709995560:=I
def tw17059319566817821768:=I
def tw8502107328391090280:=I
def tw12920169922366352488:=I
def tw1943223292282556552:=I
def tw13548452949596989576:=I
def tw12319475652720503048:=I
def tw13129183335750908168:=I
def tw9043602060966550792:=I
def tw4856978923404789096:=I
def tw9881941714216529352:=I
def tw2125429800989458952:=I
def tw3692872741866422792:=I
def tw7948948839823042056:=I
def tw6642148784065612328:=I
def tw16881172514981796392:=I
def tw610299009322148392:=I
def tw14377984638027888200:=I
def tw3042950585885950568:=I
def tw14100563200849032808:=I
def tw16642019723311301224:=I
def tw18442404461753412232:=I
def tw12509331665614205576:=I
def tw10866277499833482888:=I
def tw14676983736581331784:=I
def tw12555111528830324616:=I
def tw14497752124562821096:=I
def tw2560888359705198697:=I
def tw5349923278534168681:=I
def tw825836646718042249:=I
def tw12492872535103787209:=I
def tw10487151262264046857:=I
def tw14079214099435501833:=I
def tw5203896005952938313:=I
def tw11603875032770046313:=I
def tw7491749716901288329:=I
def tw3392857386464952745:=I
def tw14932913586623041961:=I
def tw16348835558194202089:=I
def tw12495080141766872553:=I
def tw5536460339727331817:=I
def tw7070608348155770345:=I
def tw11649699391930448393:=I
def tw10361132759354636809:=I
def tw2628775133436333609:=I
def tw10183037409645879849:=I
def tw12467078377340199465:=I
def tw2233915843318133321:=I
def tw16090620788467624521:=I
def tw17271584262047650505:=I
def tw6674731739412641513:=I
def tw15861681886068061929:=I
def tw6918286105740488457:=I
def tw13439662111554486057:=I
def tw1857025273806608201:=I
def tw16717170387996983209:=I
def tw8858934023612859369:=I
def tw3760028711641638889:=I
def tw442369651040087017:=I
def tw11273184806968233002:=I
def tw2476448684196711498:=I
def tw16234467531449140362:=I
def tw9156181256747118730:=I
def tw3527755564543815850:=I
def tw17027903167715070122:=I
def tw2838352042917007562:=I
def tw3359119414442148042:=I
def tw12206094300059295946:=I
def tw862085375983615178:=I
def tw14954342959938854154:=I
def tw11370149102823732490:=I
def tw107528905880808746:=I
def tw5247178707813335370:=I
def tw582203039848508746:=I
def tw5395593436210801002:=I
def tw3279956142685659658:=I
def tw11136372357793955370:=I
def tw11329038963550309930:=I
def tw8148398663575818794:=I
def tw9165384595150626346:=I
def tw18078273906374766186:=I
def tw7246798419089781354:=I
def tw17353491050961836682:=I
def tw17025395226884360842:=I
def tw4938159630043614890:=I
def tw13060892616133049002:=I
def tw8366163153080711850:=I
def tw17802649751663201994:=I
def tw3855495730267218634:=I
def tw3357855340061015786:=I
def tw17510516389635246858:=I
def tw15240438119145117482:=I
def tw7534357443391856458:=I
def tw6347074531857714026:=I
def tw12879182237426301930:=I
def tw3228618645432774667:=I
def tw18290046533327441931:=I
def tw15227009113992099851:=I
def tw5447515570151724075:=I
def tw9424696061709356171:=I
def tw12702167479033367755:=I
def tw17224252065791372587:=I
def tw16131994228538848587:=I
def tw4091627917215382859:=I
def tw4352293912796849483:=I
def tw6832644359917943211:=I
def tw9353420893033143755:=I
def tw13586929539125847499:=I
def tw1724259863658037739:=I
def tw4687599454037433835:=I
def tw6013846674136551019:=I
def tw1939496051605187211:=I
def tw5849344013946378891:=I
def tw16732910823313827467:=I
def tw18268797742789128875:=I
def tw5018763588581517003:=I
def tw4191875635003695851:=I
def tw16297442525913424619:=I
def tw13664551614674933515:=I
def tw6335276862012172107:=I
def tw3583173234311682923:=I
def tw6390295503750152075:=I
def tw7376729261212712875:=I
def tw16326963425308516364:=I
def tw13303874992041564204:=I
def tw13654929853106463788:=I
def tw6273596519583943756:=I
def tw13332572826328457324:=I
def tw8719466816660224204:=I
def tw9266686109623051468:=I
def tw3949764415745988844:=I
def tw9119893605301144844:=I
def tw84111173347608876:=I
def tw13621239470170567980:=I
def tw5060210045105484108:=I
def tw17849939489885714796:=I
def tw12147668693174350220:=I
def tw12725129536088457644:=I
def tw15181984230772081100:=I
def tw1429891680741561804:=I
def tw4427726688566713836:=I
def tw12260141210573719052:=I
def tw2441668946975870476:=I
def tw18298229929281902092:=I
def tw6062789864310985292:=I
def tw3273637380095849068:=I
def tw2013192925028050540:=I
def tw8437945791673058956:=I
def tw3132969481110759084:=I
def tw5087266668755570540:=I
def tw5170525027486192524:=I
def tw18084130101219781612:=I
def tw13473445098340740109:=I
def tw10655547767397642317:=I
def tw8122927153433210957:=I
def tw17510349658599703693:=I
def tw5293063094645992621:=I
def tw756357165993299149:=I
def tw2867981982541292781:=I
def tw14052254457592918253:=I
def tw9457855209090809101:=I
def tw14732585026606475565:=I
def tw4938214302734570797:=I
def tw11022841955526515021:=I
def tw787402663829940557:=I
def tw9111900287996154221:=I
def tw2980137231893093741:=I
def tw855761524050969997:=I
def tw8831534051021059501:=I
def tw15852357503835460045:=I
def tw12374532113507980781:=I
def tw11460708266987616781:=I
def tw6908670408037156397:=I
def tw17798628529427696237:=I
def tw16729370810954027757:=I
def tw14850159736686129005:=I
def tw10433354506392987501:=I
def tw3195317839851725741:=I
def tw16198672103148143565:=I
def tw963577847349206989:=I
def tw17122727007403186157:=I
def tw5223381796199211054:=I
def tw16852429931182786670:=I
def tw2561363253354603662:=I
def tw13725515359483818158:=I
def tw1424290856541572302:=I
def tw10963461686655114478:=I
def tw13292229573491633454:=I
def tw10963408531229070670:=I
def tw17235150150332869966:=I
def tw5615144568503064942:=I
def tw3706006724532930958:=I
def tw8529435982811836846:=I
def tw16717696125473641902:=I
def tw3160130252340176398:=I
def tw17285367068860257870:=I
def tw11151996330956844622:=I
def tw13459036352979635822:=I
def tw13822377509884392078:=I
def tw8921418310435507886:=I
def tw8191544300784529102:=I
def tw4298595333650391822:=I
def tw2511301298059406094:=I
def tw3945318445240208270:=I
def tw5191410007446959022:=I
def tw11825065611050924974:=I
def tw10933090554819549134:=I
def tw17328819424841518030:=I
def tw2867558264867323951:=I
def tw9260535775183900719:=I
def tw3231326633345807439:=I
def tw8334259029356982415:=I
def tw11953179960453115055:=I
def tw2988060336358797487:=I
def tw2336693675876063471:=I
def tw8906479275178674447:=I
def tw6422276954022673679:=I
def tw16500993694710281519:=I
def tw16443967768492106063:=I
def tw16621183583722657167:=I
def tw10194050598798080591:=I
def tw8168382395116317263:=I
def tw1269300955443878511:=I
def tw13796875126625783503:=I
def tw2021228023636725519:=I
def tw13570567560408569647:=I
def tw6793869922116835119:=I
def tw12150720904884941615:=I
def tw8981487729087459151:=I
def tw15035129335161151311:=I
def tw4845767195565622159:=I
def tw8838493383889308559:=I
def tw16775020129707274223:=I
def tw8439285830944045039:=I
def tw4087290844603370512:=I
def tw17051957450784822320:=I
def tw12820872320046693424:=I
def tw13281485899255850128:=I
def tw12065921317039381712:=I
def tw16445755173135165648:=I
def tw16702882916177079536:=I
def tw7048059444595337488:=I
def tw15120063423711327504:=I
def tw577885824039676176:=I
def tw14584352805653999088:=I
def tw10221986031620505104:=I
def tw17031903572322613776:=I
def tw1660045893332074000:=I
def tw14007292784739750448:=I
def tw15726813294529968688:=I
def tw5534439339471241808:=I
def tw16471693588665375440:=I
def tw15330611180866101968:=I
def tw12681902151259347760:=I
def tw14474517011362585424:=I
def tw4706274979549161296:=I
def tw3155817409084149584:=I
def tw5419565543871832944:=I
def tw9302488220731045744:=I
def tw7423151560916575120:=I
def tw13372947677328164784:=I
def tw3246332123274833872:=I
def tw15711274669942445040:=I
def tw17994921642591964144:=I
def tw8862240871114106864:=I
def tw13181053574928497648:=I
def tw397921920218736657:=I
def tw1284113896928204817:=I
def tw7190397408355221553:=I
def tw899596647849758769:=I
def tw8551020998573563985:=I
def tw465636210129045617:=I
def tw6820616988400738513:=I
def tw4724275436153712881:=I
def tw7367443320277408049:=I
def tw3495779077714649393:=I
def tw13403419723827969329:=I
def tw14350873059065643345:=I
def tw12054588115183818065:=I
def tw5905620862028274033:=I
def tw15555079108983524753:=I
def tw5899968739921437137:=I
def tw4918352952652553681:=I
def tw12314429064106252817:=I
def tw16534406814769486353:=I
def tw13303087948524831249:=I
def tw11873307342201213745:=I
def tw16611828090481651537:=I
def tw14015232039971544945:=I
def tw1254059870645665681:=I
def tw14762203520700771378:=I
def tw10648630942092518514:=I
def tw17016757278046451826:=I
def tw11313978805068573938:=I
def tw13828017732090681586:=I
def tw152246707636377970:=I
def tw17467740368397145490:=I
def tw6957321046059621810:=I
def tw668323144547382770:=I
def tw245376389042099698:=I
def tw13241970712084717074:=I
def tw13039406634723200530:=I
def tw15756988418045610546:=I
def tw14933182569727737426:=I
def tw10752326869213849202:=I
def tw1580150415125142130:=I
def tw8694149741105768050:=I
def tw8827005752184212242:=I
def tw1381787585384255250:=I
def tw333451839171131250:=I
def tw11800772057829446546:=I
def tw13599213268322491378:=I
def tw212926158184915954:=I
def tw763635146856819698:=I
def tw4986213132372804627:=I
def tw5279745200622281779:=I
def tw14947423396406646835:=I
def tw17134116351441580115:=I
def tw11202987328312200275:=I
def tw12864078188022094931:=I
def tw17525442598684193907:=I
def tw4630854446696243411:=I
def tw17785203773768122579:=I
def tw5861178523055821043:=I
def tw10483083184647509299:=I
def tw16493210598532354387:=I
def tw17631721957446731219:=I
def tw7090994531366100499:=I
def tw10555623634375864851:=I
def tw6276785659320623667:=I
def tw7143714114977790579:=I
def tw10354085996620466835:=I
def tw17149578539437356723:=I
def tw2276832574084389587:=I
def tw7609282150558190291:=I
def tw7125940154892635859:=I
def tw8168586632192056019:=I
def tw11220499397014282963:=I
def tw9975255575987784435:=I
def tw13502498879244755827:=I
def tw11220990321581701011:=I
def tw15279910450637848467:=I
def tw3008496658974067635:=I
def tw269371427129973747:=I
def tw16550801874719047667:=I
def tw4466386909192804372:=I
def tw15210929548802982964:=I
def tw10360030697218227284:=I
def tw11562313136445413460:=I
def tw11612833774850723988:=I
def tw7757087253069191316:=I
def tw14372390010506606772:=I
def tw4162298726145331476:=I
def tw14341582894943215892:=I
def tw8435987485285674260:=I
def tw15121250105276808500:=I
def tw16759868568126866740:=I
def tw7340917351224520020:=I
def tw15870479910020186548:=I
def tw7456892467195512276:=I
def tw17139699940529627604:=I
def tw10177347571175951860:=I
def tw617309302730283508:=I
def tw2063535338841862708:=I
def tw15592437974899886708:=I
def tw696078953970620052:=I
def tw8086303842206951092:=I
def tw5587312244094015220:=I
def tw11154876867423121172:=I
def tw3398887867237427060:=I
def tw7563850396201349076:=I
def tw13298379577411995669:=I
def tw328292178466825269:=I
def tw18234670527908417621:=I
def tw7993986774619308117:=I
def tw11080437526922616949:=I
def tw10837147847900299573:=I
def tw6908175225566364981:=I
def tw543084648451208501:=I
def tw17822302301546624341:=I
def tw10629525167647072629:=I
def tw7096014002127921589:=I
def tw15026013780722841013:=I
def tw7262277982290128373:=I
def tw6139681383877143029:=I
def tw16038828098499079669:=I
def tw5117073505495483925:=I
def tw12662010368020385301:=I
def tw17709680415729533525:=I
def tw18166184978477268661:=I
def tw15833497208433174229:=I
def tw12040125775579418357:=I
def tw3414785393133805333:=I
def tw195956149034270613:=I
def tw12992720940515586965:=I
def tw16532603126033849269:=I
def tw4603144464916067253:=I
def tw16170366207487872981:=I
def tw18119952855571182710:=I
def tw12398097364150798454:=I
def tw4210650148622081174:=I
def tw9183910903016531094:=I
def tw2778184774466647190:=I
def tw7878600117930458294:=I
def tw1599169760176490774:=I
def tw17077062874195055894:=I
def tw7514362371693702422:=I
def tw7363190954272388374:=I
def tw1959579138614734198:=I
def tw9543793130340793718:=I
def tw7611050734198934934:=I
def tw15009742481498331574:=I
def tw7437071606184244694:=I
def tw8907934458065439222:=I
def tw625180850475715094:=I
def tw18281017403572829846:=I
def tw3270106389948908214:=I
def tw4777704738350889686:=I
def tw7501807284113535734:=I
def tw18336846068571409174:=I
def tw4092417721340924694:=I
def tw9401996255481305910:=I
def tw13968326526237065014:=I
def tw2354208957720306518:=I
def tw5169894465479582582:=I
def tw4385303453816502198:=I
def tw14197559551818376247:=I
def tw12784638871070737527:=I
def tw7448501888151487607:=I
def tw4888267737488800919:=I
def tw6112481586984572055:=I
def tw1747001247655296151:=I
def tw5896690206986552535:=I
def tw13621100503197636887:=I
def tw4423537864262343991:=I
def tw11862666494207026487:=I
def tw14462507258970517847:=I
def tw16347645661434914231:=I
def tw11546804074786973111:=I
def tw9708917371813548503:=I
def tw9373536723029175863:=I
def tw11058103425694785079:=I
def tw11770973073071616663:=I
def tw10037039663384358583:=I
def tw10276635287672155831:=I
def tw6760191093116975831:=I
def tw5042775260321665783:=I
def tw7711155997443360535:=I
def tw12643357032909282071:=I
def tw4856128374280047383:=I
def tw9130789064128992087:=I
def tw5533465719939470199:=I
def tw13491218598356839287:=I
def tw7734979067526582199:=I
def tw7318508832625045528:=I
def tw2445436668185296920:=I
def tw5854378649686580280:=I
def tw11801793530637812888:=I
def tw122326373794875608:=I
def tw16139634781425685720:=I
def tw3504585336733713688:=I
def tw11428144390080059672:=I
def tw10848066529833509144:=I
def tw10119345662557432120:=I
def tw476170058167747928:=I
def tw10700067505884773816:=I
def tw13714862042952813016:=I
def tw13496775592209064440:=I
def tw16931794455546426872:=I
def tw8592187409208006200:=I
def tw8945510731842229880:=I
def tw2269845711111006872:=I
def tw9513779443182103224:=I
def tw64356441372248792:=I
def tw16481793384765910744:=I
def tw3738152698374449912:=I
def tw17503903158186222360:=I
def tw2082589843066744600:=I
def tw18400250706518354840:=I
def tw10152297615913029560:=I
def tw4105879615595782072:=I
def tw12727272506310947768:=I
def tw6435257474715726808:=I
def tw7927250034852542521:=I
def tw2033513503919195257:=I
def tw7279430350580630681:=I
def tw10341676505341729049:=I
def tw4017573614572772633:=I
def tw10052128473633994041:=I
def tw1645697501331513657:=I
def tw14307455310554639737:=I
def tw1613828458192427449:=I
def tw2228726949775926713:=I
def tw11416891504555964889:=I
def tw3356140925224929753:=I
def tw201799651714509305:=I
def tw10070946911291857401:=I
def tw14498191909468760601:=I
def tw15980403397593071129:=I
def tw1806688316330668601:=I
def tw17220167940138798713:=I
def tw18314074531903195769:=I
def tw14875421421340447353:=I
def tw11310732628328945337:=I
def tw15318497097175847609:=I
def tw64720969847502553:=I
def tw7321241352157451001:=I
def tw6401596368700998521:=I
def tw3634560140416922521:=I
def tw11465064808199575481:=I
def tw4356246310903478201:=I
def tw6074779404815798233:=I
def tw12293234126536626169:=I
def tw4227861737813178361:=I
def tw14280589081490075674:=I
def tw8961848106189983802:=I
def tw3101347693251235962:=I
def tw16112559529860392058:=I
def tw6736149143480334490:=I
def tw1020006544005769434:=I
def tw4238519912521422042:=I
def tw14248610315685450970:=I
def tw8130468193547796730:=I
def tw9031100601186608410:=I
def tw11444766829498263834:=I
def tw14700430775259298074:=I
def tw1356424489187031354:=I
def tw2712089350984514874:=I
def tw12700043620875257178:=I
def tw7590848772664171962:=I
def tw13188928141083511322:=I
def tw18205386374628183578:=I
def tw17096240553550200346:=I
def tw15203654366632505882:=I
def tw16428435237407783482:=I
def tw4378321422676049498:=I
def tw1346608134510511738:=I
def tw3268374188266534522:=I
def tw492678995891337850:=I
def tw10604343220672156282:=I
def tw11275864773391960730:=I
def tw12483135246626620154:=I
def tw18021228297282039546:=I
def tw14007890288069069690:=I
def tw17774993278794026906:=I
def tw17459893070426527642:=I
def tw16521898950866133946:=I
def tw10121116647475713018:=I
def tw4666542076944494651:=I
def tw9808166866291714171:=I
def tw8344877467288716635:=I
def tw3741569254210472315:=I
def tw9925950558597303739:=I
def tw10728251789269127611:=I
def tw9740266058131042779:=I
def tw8594240881857786363:=I
def tw5557133241915212315:=I
def tw4448180113331447355:=I
def tw14889258064002762427:=I
def tw10170076333060716219:=I
def tw2444480852794473147:=I
def tw10168189884888103739:=I
def tw1004623050125966139:=I
def tw6254460277789731675:=I
def tw3979567946487316315:=I
def tw13989311866906784635:=I
def tw9971302199479518107:=I
def tw5830906862613331931:=I
def tw14430768403721408507:=I
def tw8417495991151633436:=I
def tw17794664508000217116:=I
def tw5375609586505218108:=I
def tw9855007006951697500:=I
def tw812122830172226684:=I
def tw2294059530571899004:=I
def tw10140380505535056028:=I
def tw4383082938828483740:=I
def tw7045301434339563708:=I
def tw10945656230772918460:=I
def tw14960630906814132444:=I
def tw17737965495254840668:=I
def tw18288103281421776252:=I
def tw465768187883360668:=I
def tw7108778868641278460:=I
def tw10315342741031121532:=I
def tw11217970800454987644:=I
def tw5105509373435452348:=I
def tw14071380034379204572:=I
def tw11323400513061695517:=I
def tw8830329731355202621:=I
def tw7213903596479349917:=I
def tw9564685573693713629:=I
def tw3904837623166742845:=I
def tw2018638378913210717:=I
def tw1701433815476114941:=I
def tw9065870687356781213:=I
def tw13721662101420463773:=I
def tw13863667130304901821:=I
def tw2418086231917773501:=I
def tw13415345295334827709:=I
def tw9821547151469647613:=I
def tw3169707109315563293:=I
def tw12871380481570362141:=I
def tw12621111287768377117:=I
def tw9247864480998529853:=I
def tw7630738914524392253:=I
def tw9716585961292901213:=I
def tw2002257489268099005:=I
def tw7428052905995004861:=I
def tw12962575712555944990:=I
def tw6668225832995734622:=I
def tw14754041479654367326:=I
def tw3942593357174301790:=I
def tw15490652618357630046:=I
def tw9945772200757904510:=I
def tw4814216540951308414:=I
def tw16177956237733009566:=I
def tw14824162277344160990:=I
def tw15896270058071687422:=I
def tw17101367241666536702:=I
def tw7280779098304994590:=I
def tw9501846974166125886:=I
def tw17964192137592377694:=I
def tw10094005208170615166:=I
def tw5589183212854845886:=I
def tw1449002139791507902:=I
def tw15506237956467864158:=I
def tw7977903367534262878:=I
def tw15165598204076593918:=I
def tw11455879724161697566:=I
def tw7995895139396080414:=I
def tw16888779132702658398:=I
def tw12534044411716616030:=I
def tw7780433453717398398:=I
def tw18068342317797789566:=I
def tw11870427795866160030:=I
def tw10200232342995524542:=I
def tw5349787527751723998:=I
def tw3384926917959326751:=I
def tw16990998006949127199:=I
def tw11904965341947143199:=I
def tw10868666014556139551:=I
def tw16890016794932135999:=I
def tw12074476498318841919:=I
def tw11208830303847111743:=I
def tw10211369801790481471:=I
def tw4756386208014415967:=I
def tw9229511669674048607:=I
def tw4896623726550700159:=I
def tw17695096836559945919:=I
def tw3031124168174622911:=I
def tw17708979207710739743:=I
def tw18087423972956415295:=I
def tw12690450406686935359:=I
def tw1038568325472776511:=I
def tw16689954302350798207:=I
def tw10565596958367667583:=I
def tw3316352065866629535:=I
def tw10836886623843229119:=I
def tw15897449234302252511:=I
def tw17557521507538091487:=I
def tw15591251693475007007:=I
def tw10528431995006749279:=I
def tw4816545203239966399:=I
def tw14237652395978810047:=I
def tw6301110794972840671:=I
def tw13505344579194348255:=I
def tw1551424608648981279:=I
def tw1919212059335603007:=I
def tw4500399291738048319:=I
def tw17852672637700149087:=I
def tw3859792473134728095:=I
def tw5506386333434583967:=I
def tw8030275985428845503:=I
def tw8870994821032880063:=I
def tw10762336551922575295:=I
def tw16351769571451745215:=I
def tw15932397915849986047:=I
def tw2856504107504267263:=I
def tw9278593453658665983:=I
def tw6661071044433771519:=I
end PySem.W.Fast
open PySem PySem.W PyProof.Rows
set_option maxRecDepth 100000 in
set_option maxHeartbeats 0 in
theorem PySem.Challenge.cw_stripmeld_k27_each_refusal_its_class_holds : PySem.Challenge.rw_stripmeld_k27_each_refusal_its_class.Holds := by
 w_on;o_law;k_head;(case hw=>w_witness2)
 k_fill
 refine L2.EX (l:=PySem.Challenge.rw_stripmeld_k27_each_refusal_its_class) (n:=63) (k:=10) (x:="_law_script") (CX:=L2.CX0) (sp:=Pu.NF) rfl (by decide) rfl ⟨rfl,by decide,by decide,rfl⟩ (fun w h Y=>PySem.W.kIn_of Y) ?F ?S ?C
 case F=>
  intro w mg fa h KX G hmg
  refine' T.LH KX G hmg ?VL ?VN ?VO ?VP ?VQ ?VR ?VS ?VT ?VU ?VV ?a1 ?a2 ?a3 ?a4 ?a5 ?a6 ?a7 ?a8 ?a9 ?a10 ?a11 ?a12 ?a13 ?a14 ?a15 ?a16 ?a17 ?a18 ?a19 ?a20 ?a21 ?a22 ?a23 ?a24 ?a25 ?a26 ?a27 ?a28 ?a29 ?a30 ?a31 ?a32 ?a33 ?a34 ?a35 ?a36 ?a37 ?a38 ?a39 ?a40 ?l40 ?c40 ?k40 ?a41 ?a42 ?VW ?VX ?VY ?VZ ?Ja ?Jb ?Jc ?Jd ?Je ?Jf ?Jg ?Jh ?Ji ?V1 ?V2 ?V3 ?V4 ?V5 ?V6 ?V7 ?V8 ?V9 ?VA ?VB ?VC ?VD ?VE ?VF ?VG ?VH ?VI ?V0 ?x_Ringed ?is_all ?x_all
  (case VL|VN|VO|VP|VQ|VR|VS|VT|VU|VV=>k_is)
  (case a1|a2|a3|a4|a5|a6|a7|a8|a9|a10|a11|a12|a13|a14|a15|a16|a17|a18|a19=>apply Pu.di<;>k_is)
  (case a20|a21|a22|a23|a24|a25|a26|a27|a28|a29|a30|a31|a32|a33=>apply Pu.mi<;>k_is)
  (case a34|a35|a36|a37|a38|a39=>apply Pu.di<;>k_is)
  (case a40|l40|c40|k40=>k_is)
  (case a41|a42=>apply Pu.mi<;>k_is)
  (case VW|VX|VY|VZ|Ja|Jb|Jc|Jd|Je|Jf|Jg|Jh|Ji=>k_is)
  (case V1|V2|V3|V4|V5|V6|V7|V8|V9|VA|VB|VC|VD|VE|VF|VG|VH|VI=>apply Pu.ei<;>first|(k_is;done)|k_exc)
  (case V0=>apply Pu.ri<;>first|(k_is;done)|k_exc|rfl)
  (case x_Ringed=>kts_exm)
  (case is_all|x_all=>kernel_rfl)
 case S=>exact fun K H a ns hl hO hS=>⟨a,ns,rfl,hS,fun _=>rfl⟩
 case C=>exact fun _ _ _ _ z=>z
